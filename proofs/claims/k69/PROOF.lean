import PyProof.Rows.All
import Wide.All
import OpenK.AllK
import Wide.FinOn
import Lean
import PyProof.EqAt
import PyProof.EqKinds
import PyProof.TupleCall
import PyProof.NeKinds
import PyProof.WalksEnum
import PyProof.EnumMake
import KE.KTryMore
import PyProof.NsDelKeeps
import PyProof.SumWalkG
import PyProof.SeqI3
import KE.KDictSum
import PyProof.AttrMiss
import PyProof.IsiH_list
import KE.KDictOf
import PyProof.ZipIter
import PyProof.TupleIter
import PyProof.Draws
import PyProof.StrCalls
import PySem.Challenge.RW_fewcounters_k69_whole_walks_are_runs
import PyProof.StrWalks
import PyProof.StrCalls2
import PyProof.StrCalls3
import PyProof.StrLawsTight
import PyProof.StrLawsChain
import PyProof.StrLawsJoin
import PyProof.Rows.StrItems
import PyProof.FString5
import PyProof.Rows.Range3
import PyProof.EnumIter
import KE.KRevIter
import PyProof.MeetsDict
set_option Elab.async false
set_option linter.all false
set_option maxRecDepth 100000
set_option maxHeartbeats 4000000
abbrev Oc:=PySem.Str->Option PySem.Value
abbrev Od:=List (PySem.Addr×PySem.Obj)
abbrev Oe:=List Int
abbrev Of:=List PySem.Str
abbrev Og:=Option PySem.Value
abbrev Oh:=List PySem.Addr
abbrev Oi:=List PySem.Value
abbrev Oj:=List PySem.Expr
abbrev Ol:=List (Int×Int)
theorem Ur{a b:Prop}(h:a)(g:¬a):b:=absurd h g
theorem Us{c:Prop}[Decidable c](n:¬c){α:Type _}{t e:α}:(ite c t e)=e:=if_neg n
theorem Ut{c:Prop}[Decidable c](n:c){α:Type _}{t e:α}:(ite c t e)=t:=if_pos n
theorem Uu{p:Prop}[Decidable p](h:decide p=true):p:=of_decide_eq_true h
theorem Uv{p:Prop}[Decidable p](h:decide p=false):¬p:=of_decide_eq_false h
theorem Uw{p:Prop}[Decidable p](h:p):decide p=true:=decide_eq_true h
theorem Ux{p:Prop}[Decidable p](h:¬p):decide p=false:=decide_eq_false h
open Array renaming length_toList→Om
open Bool renaming false_ne_true→Oo,and_eq_true→Oq,eq_iff_iff→Ot,beq_eq_decide_eq→Ou,or_eq_true→Ov
open False renaming elim→Ow
open ForInStep renaming yield→Ox
open Int renaming emod_lt_of_pos→Oz,emod_nonneg→OA,le_refl→OB,le_trans→OC
open List renaming getElem?_eq_some_iff→OD,getElem?_eq_getElem→OE,mem_singleton→OF,getD_eq_getElem?_getD→OG,length_map→OH,length_append→OI,getElem?_map→OJ,mem_of_getElem?→OK,mem_cons_of_mem→OL,mem_cons_self→OM,size_toArray→ON,mem_map→OO,length_cons→OP,mem_append_right→OQ,mem_iff_getElem?→OR,mem_append→OS,mem_cons→OT,mem_append_left→OU,getElem?_set_self→OW,Nodup→OX,length_take→OY,append_assoc→OZ,getElem_mem→O0,mem_filter→O2,map_append→O3,length_singleton→O4,range→O5,getElem?_append_left→O6,getElem?_append_right→O7,length_nil→O8,not_mem_nil→O9,nodup_cons→Pa,getElem?_set_ne→Pb,map_cons→Pc,getElem?_eq_none→Pe,append_nil→Pf,take_succ→Pg,dropLast_concat_getLast→Ph,length_set→Pj,take_length→Pl,mem_range→Pm,take_append_drop→Po,filter_eq_self→Pp,all_eq_true→Pq,length_replicate→Pr,getElem?_range→Pt,lookup→Pu,length_zip→Pw,lookup_cons→Px,take_succ_cons→Py,length_filter_le→Pz,getElem?_replicate→PD,length_dropLast→PH,find?_cons→PJ,filter_cons_of_pos→PK,filter_cons_of_neg→PM,take_of_length_le→PN,replicate→PQ,map_map→PR,ext_getElem?→PU,foldl_cons→PX,filter_append→PZ,getElem_inj→P0,length_drop→P1,length_range→P2,foldl_append→P4,flatMap_cons→P6,getElem_of_mem→P7,length_pos_iff→P8,drop_of_length_le→P9,any_eq_true→Qa,of_mem_zip→Qb,mem_iff_getElem→Qc,getElem?_zip_eq_some→Qd,length_erase_of_mem→Qe,filterMap_cons→Qg,map_congr_left→Qh,length_reverse→Qi,sum_cons→Qj,cons_append→Qk,nodup_nil→Ql,mem_filterMap→Qm,mem_replicate→Qn,filter_eq_nil_iff→Qo,set_set→Qp,any_cons→Qq,getElem?_reverse→Qr,nodup_append→Qs,mem_of_mem_take→Qt,mem_flatMap→Qu,map_nil→Qv,forIn_cons→Qw,range_succ→Qx,map_drop→Qy,nil_append→Qz,filter_map→QA,getElem?_drop→QB
open Nat renaming le_refl→QC,le_trans→QD,zero_le→QE,lt_of_le_of_lt→QF,lt_of_lt_of_le→QG,ne_of_lt→QH,lt_irrefl→QI,lt_or_ge→QJ,le_add_right→QK,le_succ→QL,lt_succ_self→QM,lt_of_le_of_ne→QN,le_of_lt→QO,ne_of_gt→QP,min_le_left→QQ,not_lt→QR,min_le_right→QS,not_lt_zero→QT,le_of_eq→QU,zero_add→QV
open Ne renaming symm→QW
open Option renaming map_eq_some_iff→QX,some_ne_none→QY,map_some→QZ,isSome_map→Q0
open Prod renaming ext→Q1
open PyProof.Rows renaming callWith_type1→Q2,slot_tuple_getitem→Q3,boot_list→Q4,envOfC→Q5,AllBare→Q6,boot_range→Q7,subscriptTail→Q8
open PySem renaming Shared→Q9,sizeLine→Ra,wpAny_bind→Rb,starEach→Rc,mainGlobals→Rf,wpAny_pure→Rg,Program→Rh,Around→Ri,attributeBase→Rj,backTo→Rk,swapsWith→Rl,FuncData→Rm,wpAny_truthy_bool→Rn,compareOp→Ro,Keyword→Rp,mem_of_lookup→Rr,wpAny_field→Rt,wpAny_mono→Ru,IsPair→Rv,sysModules→Rx,wpAny_callSpecial?_slot→Ry,foldedSetIterable→Rz,keywordEach→RA,wpAny_newObj_type→RC,valueAt→RG,boot_len→RH,wpAny_seqItems→RJ,bootBuiltins→RK,wpAny_setField_rec→RL,holding→RM,wpAny_passesOwn→RN,behindInMarks→RO,assignEach→RP,binaryOp→RQ,wpAny_call_entry→RR,backToKw→RS,assign→RU,NameKind→RX,call_meets→RY,isTrue→RZ,wpAny_holding→R6,sliceBounds→R7,wpAny_Call_Name_kw→R8,tupleKind_room_in1→R9,getItem→Sa,wpAny_pyIter_list→Sb,swapsWithSole→Sd,swappedStores→Se,wpAny_pyIter_zip→Sf,standAt→Sg,wpAny_execs_nil→Sh,letOwnedTupleGo→Si,IsPart→Sj,typeIs_str→Sk,wpAny_rule→Sl,wpAny_updateSeq_pair→Sm,codeAny→Sn,bindArgs→So,sizeLine_eq→Sq,intBits_le_64→Sr,wpAny_onRaise→Ss,callerA→Su,wpAny_eqBool_int→Sv,codeAny_mono→Sw,tupleKind→Sx,strValues→Sz,IsRangeIter→SD,subscripted→SE,truthy→SF,pyNext→SG,rawInt→SH,BindsTo→SJ,stored→SK,dictSetDefault→SM,GenState→SN,IntMulOk→SO,wpAny_standAt→SQ,Str→SR,Within→SS
open PySem.Around renaming under→SU
open PySem.Builtin.List renaming listTooLong→SV
open PySem.Builtin.Range renaming rangeSize→SW
open PySem.Builtin.Slice renaming slicePlaces→SX,sliceAdjust→SY
open PySem.Builtin.SmallTypes renaming nextOf→S0,ownedTupleIsFree→S3
open PySem.Builtin.Str renaming occurrences→S4
open PySem.Builtin.Tuple renaming tupleExact→S5
open PySem.Calls renaming callWith_builtin→S6,spliced_cons→S7
open PySem.Code renaming isFrame→S8
open PySem.F renaming plainAttrs_list→S9,slot_tuple_iterator_next→Ta,slot_list_append→Tb,type_list_append→Tc,slot_zip_next→Td,args_str_split_2→Te,entry_str_split→Tf,slot_str_split→Tg
open PySem.Heap renaming get?_push_of_some→Ti,lt_size→Tj,get?_push_size→Tn,size_push→To,SameBut→Tp,get?_update_self→Tq,dictOf_iff→Tr
open PySem.Heap.SameBut renaming update→Ts
open PySem.NameKind renaming cell→Tt
open PySem.Obj renaming mapSeq→Tu
open PySem.PyData renaming keyHash→Tv
open PySem.SeqAt renaming EqAt→Tw,RcNeAt→Tx,RcAt→Tz
open PySem.SeqAt.EqAt renaming same→TB
open PySem.SeqAt.RcAt renaming lists→TC
open PySem.Str renaming join→TJ,ofString→TK
open PySem.Txt renaming split→TL
open PySem.Value renaming ref→TN,none→TQ,int→TR,str→TU,bool→TY,float→TZ,type→T1
open PySem.W renaming Frag→T2,nsIn→T3,findIn→T4,mg_of→T5,mg_none_of→T6,fnOf→T7,keepIn→T8,kia_one→T9,codeIn→Ua,emptyDict→Ub,instObj→Uc,hasDictIn→Ud,plainGet→Ue,plainOver→Ug,makesIn→Uh,methodObj→Ui,takerIn→Uj,OpenLaw→Uk,lookIn→Ul,kitOne→Um,isFn→Uo
open True renaming intro→Uq
open List(all_cons forIn_nil any_map take_nil take_zero prefix_rfl)
abbrev UX(x:SR):Prop:=(x==("__debug__":SR))=false
abbrev Ve(x:SR):Prop:=(x==("__classdict__":SR))=false
def Vc:Lean.Syntax:=Lean.Unhygienic.run `(Lean.Parser.Tactic.tacticSeq|first | exact Or.inl rfl | exact Or.inr (Or.inl rfl) | exact Or.inr (Or.inr rfl))
def V1:Lean.Syntax:=Lean.Unhygienic.run `(Lean.Parser.Tactic.tacticSeq|first | exact Or.inl rfl | exact Or.inr rfl)
def V0:Lean.Syntax:=Lean.Unhygienic.run `(Lean.Parser.Tactic.tacticSeq|first | exact .inl rfl | exact .inr rfl)
namespace L2
open PySem PySem.Spec PyProof.Rows
section
variable {a b:Addr}
abbrev Key:=Sum Int Str
def m3:Key->Value->Bool
 | .inl k,v=>Value.isInt k v
 | .inr x,v=>Value.isStrOf x v
def N3 (w:World):Key->Int
 | .inl k=>hashInt k
 | .inr x=>hashStr w x
theorem dz:∀{k:Key} {v:Value},m3 k v=true->(∃i t,k=Sum.inl i/\v=TR i t)∨(∃x t,k=Sum.inr x/\v=TU x t)
 | .inl i,v,h=>by
   obtain⟨t,e⟩:=Value.isInt_shape (k:=i) (v:=v) h
   exact .inl ⟨i,t,rfl,e⟩
 | .inr x,v,h=>by
   obtain⟨t,e⟩:=Value.isStrOf_shape (x:=x) (v:=v) h
   exact .inr ⟨x,t,rfl,e⟩
theorem y8 (i:Int)(t:Tok):m3 (.inl i) (.int i t)=true:=by simp[m3,Value.isInt]
theorem zX (x:Str)(t:Tok):m3 (.inr x) (.str x t)=true:=by simp[m3,Value.isStrOf]
theorem IL (a b:Int):decide ((Sum.inl a:Key)=Sum.inl b)=(a==b):=by
 by_cases e:a=b
 ·subst e;simp
 ·have h:¬(Sum.inl a:Key)=Sum.inl b:=λq=>e (Sum.inl.inj q)
  rw[Ux h]
  exact(beq_eq_false_iff_ne.mpr e).symm
theorem HN (a b:Str):decide ((Sum.inr a:Key)=Sum.inr b)=decide (a=b):=by
 by_cases e:a=b
 ·subst e;simp
 ·have h:¬(Sum.inr a:Key)=Sum.inr b:=λq=>e (Sum.inr.inj q)
  rw[Ux h,Ux e]
theorem Gf (a:Int)(b:Str):decide ((Sum.inl a:Key)=Sum.inr b)=false:=Ux (λq=>nomatch q)
theorem Jg (a:Str)(b:Int):decide ((Sum.inr a:Key)=Sum.inl b)=false:=Ux (λq=>nomatch q)
def bY (prog:Rh)(w:World):PySem.KeyKind prog w Key where
 is:=m3
 hash:=N3 w
 inj:=λv a b ha hb=>by
  rcases dz ha with⟨i,t,rfl,rfl⟩ | ⟨x,t,rfl,rfl⟩
  ·rcases dz hb with⟨j,u,rfl,e⟩ | ⟨y,u,rfl,e⟩
   ·injection e with e1 _;rw[e1]
   ·exact nomatch e
  ·rcases dz hb with⟨j,u,rfl,e⟩ | ⟨y,u,rfl,e⟩
   ·exact nomatch e
   ·injection e with e1 _;rw[e1]
 byValue:=λk v h=>by
  rcases dz h with⟨i,t,rfl,rfl⟩ | ⟨x,t,rfl,rfl⟩<;>rfl
 pyHash:=λhv h=>by
  rcases dz hv with⟨i,t,rfl,rfl⟩ | ⟨x,t,rfl,rfl⟩
  ·exact wpAny_pyHash_int h
  ·exact wpAny_pyHash_str h
 eqBool:=λhu hv h=>by
  rcases dz hu with⟨i,t,rfl,rfl⟩ | ⟨x,t,rfl,rfl⟩
  ·rcases dz hv with⟨j,u,rfl,rfl⟩ | ⟨y,u,rfl,rfl⟩
   ·rw[IL] at h;exact Sv h
   ·rw[Gf] at h;exact Tw.int_str i t y u _ _ _ _ h
  ·rcases dz hv with⟨j,u,rfl,rfl⟩ | ⟨y,u,rfl,rfl⟩
   ·rw[Jg] at h;exact Tw.str_int x t j u _ _ _ _ h
   ·rw[HN] at h;exact wpAny_eqBool_str h
 «strs»:=λk x t v h=>by
  rcases dz h with⟨i,u,rfl,e⟩ | ⟨y,u,rfl,e⟩
  ·exact nomatch e
  ·injection e with e1 _
   subst e1
   cases v<;>rfl
theorem u9 (prog:Rh)(w:World)(i:Int)(t:Tok):(bY prog w).is (.inl i) (.int i t)=true:=y8 i t
theorem dy (prog:Rh)(w:World)(x:Str)(t:Tok):(bY prog w).is (.inr x) (.str x t)=true:=zX x t
inductive V where
 | UQ | bl (b:Bool) | int (i:Int) | str (x:Str) | Wx (b:Array UInt8) | Yk (b:UInt64) | ref (a:Addr) | ty (n:String)
 deriving DecidableEq
def RelV:V->Value->Prop
 | .UQ,u=>u=TQ
 | .bl b,u=>u=TY b
 | .int i,u=>∃t,u=TR i t
 | .str x,u=>∃t,u=TU x t
 | .Wx b,u=>∃t,u=Value.bytes b t
 | .Yk b,u=>∃t,u=TZ b t
 | .ref a,u=>u=TN a
 | .ty n,u=>u=T1 n
abbrev Vals:List V->Oi->Prop:=Paired RelV
theorem Vals.length {xs:List V}{us:Oi}(r:Vals xs us):xs.length=us.length:=Paired.length r
theorem Vals.get:∀{xs:List V} {us:Oi} {i:Nat} {x:V},Vals xs us->xs[i]?=some x->∃u,us[i]?=some u/\RelV x u
 | _,_,_,_,.nil,e=>by simp at e
 | _,_,0,_,.cons r _,e=>by simp at e;subst e;exact⟨_,rfl,r⟩
 | _,_,i+1,x,.cons _ t,e=>by
   obtain⟨u,h1,h2⟩:=Vals.get (i:=i) (x:=x) t (by simpa using e)
   exact⟨u,by simpa using h1,h2⟩
theorem Vals.set {x:V}{u:Value}(r:RelV x u):∀{xs:List V} {us:Oi} (i:Nat),Vals xs us->Vals (xs.set i x) (us.set i u)
 | _,_,_,.nil=>.nil
 | _,_,0,.cons _ t=>.cons r t
 | _,_,i+1,.cons q t=>.cons q (Vals.set r i t)
theorem Vals.append:∀{xs ys:List V} {us ws:Oi},Vals xs us->Vals ys ws->Vals (xs++ys) (us++ws)
 | _,_,_,_,.nil,s=>s
 | _,_,_,_,.cons r t,s=>.cons r (Vals.append t s)
theorem Vals.take:∀{xs:List V} {us:Oi} (n:Nat),Vals xs us->Vals (xs.take n) (us.take n)
 | _,_,0,_=>.nil
 | _,_,_+1,.nil=>.nil
 | _,_,n+1,.cons r t=>.cons r (Vals.take n t)
theorem Vals.drop:∀{xs:List V} {us:Oi} (n:Nat),Vals xs us->Vals (xs.drop n) (us.drop n)
 | _,_,0,r=>r
 | _,_,_+1,.nil=>.nil
 | _,_,n+1,.cons _ t=>Vals.drop n t
def iG:Option V->Og->Prop
 | some v,some u=>RelV v u
 | none,none=>True
 | _,_=>False
def KV {κ:Type}:List (κ×V)->List (κ×Value)->Prop:=Paired λ(p:κ×V) (q:κ×Value)=>p.1=q.1/\RelV p.2 q.2
def kV:Key->V
 | .inl i=>.int i
 | .inr x=>.str x
inductive HO where
 | lst (xs:List V)
 | tup (xs:List V)
 | dK (kvs:List (Key×V)) | dT (kvs:List (List Key×V))
 | set (S:Int->Bool) (n:Nat)
 | ins (C dx:Addr) (fs:List (Str×V))
 | own (x:Addr)
 | xd (fs:List (Str×V))
 | met (f x:Addr)
 | W4 (lo hi:Int)
 | VJ (o:Obj) (u:HO)
 | XS (ps:Array Value)
 | ext (φ:Heap->Prop)
abbrev Hp:=Addr->Option HO
def upd (H:Hp)(a:Addr)(o:HO):Hp:=λb=>if b=a then some o else H b
theorem aF {H:Hp}{o:HO}:upd H a o a=some o:=by unfold upd;rw[Ut rfl]
theorem aJ {H:Hp}{o:HO}(h:b≠a):upd H a o b=H b:=by unfold upd;rw[Us h]
theorem qE {H:Hp}{o u:HO}:upd (upd H a o) a u=upd H a u:=by
 funext b;unfold upd;split<;>rfl
theorem J3 {H:Hp}{o u:HO}(h:H a=some o)(h':H b=some u)(d:o≠u):a≠b:=by
 intro e;subst e;rw[h] at h';exact d (Option.some.inj h')
theorem cU {H:Hp}{o:HO}(h:H a=some o)(h':H b=none):a≠b:=by
 intro e;subst e;rw[h] at h';cases h'
end
section
variable (P:Rh)(w:World)
def cL (H:Hp)(h:Heap)(a:Addr):HO->Prop
 | .lst xs=>xs.length<=Ra/\∃(UD:Oi) (n:Nat),Vals xs UD/\h.get? a=some {cls:=.type "list",data:=.seq UD.toArray n}
 | .tup xs=>xs.length<=Ra/\∃UD:Oi,Vals xs UD/\IsTup h a UD.toArray
 | .dK kvs=>kvs.length<=Ra/\(a==Rx)=false/\∃vs,KV kvs vs/\h.DictOf (bY P w) a vs
 | .dT kvs=>kvs.length<=Ra/\(a==Rx)=false/\∃xs:List (List Key×Addr×Value),
  Paired (λ(p:List Key×V) (q:List Key×Addr×Value)=>p.1=q.1/\H q.2.1=some (.tup (p.1.map kV))/\RelV p.2 q.2.2) kvs xs/\
  ∃o es ep,h.get? a=some o/\o.ExactDict/\o.data= .dict es ep/\es.toList=xs.map (entryOfKey (Sx (bY P w)))/\(xs.map (·.1)).Nodup
 | .set S n=>h.SetOf (intKind P w) a S n
 | .ins C dx fs=>H dx=some (.own a)/\fs.length<=1000/\dx≠a/\h.get? a=some (Uc C dx)/\
  ∃mA,h.Ns1 dx mA/\(∀f,iG (fs.lookup f) (mA f))/\SS mA (fs.map (·.1))
 | .own _=>∃o,h.get? a=some o
 | .xd fs=>∃mA,h.Ns1 a mA/\∀f,iG (fs.lookup f) (mA f)
 | .W4 lo hi=>∃t u v,h.get? a=some {cls:=.type "range",data:=.fields #[.int lo t,.int hi u,.int 1 v]}
 | .VJ o u=>h.get? a=some o/\cL H h a u
 | .XS ps=>h.get? a=some {cls:=.none,data:=.fields ps}
 | .met f x=>h.get? a=some (Ui (.ref f) (.ref x))
 | .ext φ=>φ h/\(∃o,h.get? a=some o)/\∀h1 h2:Heap,φ h1->(∀o,h1.get? a=some o->h2.get? a=some o)->φ h2
def dZ (H:Hp)(h:Heap):Prop:=∀a o,H a=some o->cL P w H h a o
end
section
variable {P:Rh}{w:World}{H H':Hp}{h h':Heap}{a:Addr}{o:HO}
theorem cL.lt (x:cL P w H h a o):a<h.objs.size:=by
 cases o with
 | lst xs=>obtain⟨_,_,_,_,e⟩:=x;exact Tj e
 | tup xs=>obtain⟨_,_,_,p⟩:=x;exact p.lt
 | dK kvs=>obtain⟨_,_,_,_,o,_,_,e,_⟩:=x;exact Tj e
 | dT kvs=>obtain⟨_,_,_,_,o,_,_,e,_⟩:=x;exact Tj e
 | set S n=>obtain⟨o,_,_,_,e,_⟩:=x;exact Tj e
 | ins C dx fs=>obtain⟨_,_,_,e,_⟩:=x;exact Tj e
 | own y=>obtain⟨_,e⟩:=x;exact Tj e
 | xd fs=>obtain⟨_,⟨_,_,_,e,_⟩,_⟩:=x;exact Tj e
 | W4 lo hi=>obtain⟨_,_,_,e⟩:=x;exact Tj e
 | VJ ob u=>obtain⟨e,_⟩:=x;exact Tj e
 | XS ps=>exact Tj (show h.get? a=some _ from x)
 | met f y=>exact Tj (show h.get? a=some _ from x)
 | ext φ=>obtain⟨_,⟨_,e⟩,_⟩:=x;exact Tj e
theorem Paired.Bh {α β:Type}{F G:α->β->Prop}:∀{l₁:List α} {l₂:List β},Paired F l₁ l₂->(∀a b,F a b->G a b)->Paired G l₁ l₂
 | _,_,.nil,_=>.nil
 | _,_,.cons r t,f=>.cons (f _ _ r) (Paired.Bh t f)
theorem cL.Vd (x:cL P w H h a o)(k:∀b u,(b=a∨H b=some (.own a))->h.get? b=some u->h'.get? b=some u)
 (ho:∀b,H b=some (.own a)->H' b=some (.own a)) (ht:∀b xs,H b=some (.tup xs)->H' b=some (.tup xs)):cL P w H' h' a o:=by
 induction o with
 | lst xs=>obtain⟨z,UD,n,r,e⟩:=x;exact⟨z,UD,n,r,k _ _ (.inl rfl) e⟩
 | tup xs=>obtain⟨z,UD,r,ob,e,c⟩:=x;exact⟨z,UD,r,ob,k _ _ (.inl rfl) e,c⟩
 | dK kvs=>obtain⟨z,y,vs,r,ob,es,ep,e,c⟩:=x;exact⟨z,y,vs,r,ob,es,ep,k _ _ (.inl rfl) e,c⟩
 | dT kvs=>
   obtain⟨z,y,xs,r,ob,es,ep,e,c⟩:=x
   exact⟨z,y,xs,Paired.Bh r λp q z=>⟨z.1,ht _ _ z.2.1,z.2.2⟩,ob,es,ep,k _ _ (.inl rfl) e,c⟩
 | set S n=>obtain⟨ob,es,ep,t,e,c⟩:=x;exact⟨ob,es,ep,t,k _ _ (.inl rfl) e,c⟩
 | ins C dx fs=>
   obtain⟨d,z,ne,e,mA,⟨od,es,ep,e2,c⟩,r⟩:=x
   exact⟨ho _ d,z,ne,k _ _ (.inl rfl) e,mA,⟨od,es,ep,k _ _ (.inr d) e2,c⟩,r⟩
 | own y=>obtain⟨ob,e⟩:=x;exact⟨ob,k _ _ (.inl rfl) e⟩
 | xd fs=>obtain⟨mA,⟨od,es,ep,e,c⟩,r⟩:=x;exact⟨mA,⟨od,es,ep,k _ _ (.inl rfl) e,c⟩,r⟩
 | W4 lo hi=>obtain⟨t,u,v,e⟩:=x;exact⟨t,u,v,k _ _ (.inl rfl) e⟩
 | VJ ob u ih=>obtain⟨e,q⟩:=x;exact⟨k _ _ (.inl rfl) e,ih q⟩
 | XS ps=>
   have e:h.get? a=some {cls:=.none,data:=.fields ps}:=x
   show h'.get? a=some {cls:=.none,data:=.fields ps}
   exact k a _ (.inl rfl) e
 | met f y=>
   have e:h.get? a=some (Ui (.ref f) (.ref y)):=x
   show h'.get? a=some (Ui (.ref f) (.ref y))
   exact k a _ (.inl rfl) e
 | ext φ=>obtain⟨p,⟨o,e⟩,st⟩:=x;exact⟨st _ _ p λo q=>k _ _ (.inl rfl) q,⟨o,k _ _ (.inl rfl) e⟩,st⟩
theorem dZ.lt (x:dZ P w H h)(e:H a=some o):a<h.objs.size:=(x a o e).lt
theorem dZ.fresh (x:dZ P w H h)(e:h.objs.size<=a):H a=none:=by
 cases q:H a with
 | none=>rfl
 | some u=>exact Ur (QG (x.lt q) e) (QI _)
theorem dZ.kept (x:dZ P w H h)(k:∀b u,h.get? b=some u->h'.get? b=some u):dZ P w H h':=λa o e=>
 (x a o e).Vd (λb u _ q=>k b u q) (λ_ q=>q) λ_ _ q=>q
theorem dZ.laid (x:dZ P w H h)(k:∀b u,h.get? b=some u->h'.get? b=some u)(hp:h.objs.size<=a)(new:cL P w (upd H a o) h' a o):dZ P w (upd H a o) h':=λb u e=>by
 have hn:=x.fresh hp
 by_cases hb:b=a
 ·subst hb;rw[aF] at e;cases e;exact new
 ·rw[aJ hb] at e
  exact(x b u e).Vd (λc v _ q=>k c v q) (λc q=>by rw[aJ (cU q hn)];exact q) λc xs q=>by rw[aJ (cU q hn)];exact q
end
def Rd (H:Hp)(a:Addr)(u:HO):Prop:=H a=some u∨∃o,H a=some (.VJ o u)
theorem Rd.ok {P:Rh}{w:World}{H:Hp}{h:Heap}{a:Addr}{u:HO}(r:Rd H a u)(x:dZ P w H h):cL P w H h a u:=by
 rcases r with r | ⟨o,r⟩
 ·exact x a u r
 ·obtain⟨_,q⟩:=x a _ r
  exact q
def Af:Option HO->Prop
 | some (.lst _)=>True
 | some (.dK _)=>True
 | some (.dT _)=>True
 | some (.set _ _)=>True
 | some (.ins _ _ _)=>True
 | some (.ext _)=>True
 | _=>False
section
variable {P:Rh}{w:World}{H:Hp}{h h':Heap}{x e:Addr}{o':HO}
theorem dZ.write (ok:dZ P w H h)(mu:Af (H x))(he:e=x∨H e=some (.own x))(k:∀b u,b≠e->h.get? b=some u->h'.get? b=some u)(Yy:∃u,h'.get? e=some u)
 (new:cL P w (upd H x o') h' x o'):dZ P w (upd H x o') h':=λb u q=>by
 have YK:∀c y,H c=some (.own y)->c≠x:=λc y r z=>by subst z;rw[r] at mu;exact mu
 have ntup:∀c xs,H c=some (.tup xs)->c≠x:=λc xs r z=>by subst z;rw[r] at mu;exact mu
 by_cases hb:b=x
 ·subst hb;rw[aF] at q;cases q;exact new
 ·rw[aJ hb] at q
  by_cases W8:b=e
  ·have q':H b=some (.own x):=by
    rcases he with z | z
    ·exact Ur (W8.trans z) hb
    ·rw[W8];exact z
   rw[q] at q';cases q'
   obtain⟨v,hv⟩:=Yy
   exact⟨v,by rw[W8];exact hv⟩
  ·refine(ok b u q).Vd (λc v hc r=>k c v ?_ r) (λc r=>by rw[aJ (YK c b r)];exact r) λc xs r=>by rw[aJ (ntup c xs r)];exact r
   rcases hc with rfl | hc
   ·exact W8
   ·rintro rfl
    rcases he with z | z
    ·exact YK c b hc z
    ·rw[hc] at z;cases z;exact hb rfl
end
structure Un (fs ex:Oh) (H H':Hp) (h h':Heap):Prop where
 keep:∀b o,h.get? b=some o->H b=none->b∉fs->b∉ex->h'.get? b=some o
 slot:∀b o,h.get? b=some o->H b=none->b∈fs->b∉ex->∃sl,h'.get? b=some {o with slots:=sl}
 free:∀b o,h.get? b=some o->H b=none->b∉ex->H' b=none
 there:∀b o,h.get? b=some o->b∉ex->∃o',h'.get? b=some o'
 VO:∀b xs,H b=some (.tup xs)->H' b=some (.tup xs)
 VI:∀b o u,H b=some (.VJ o u)->H' b=some (.VJ o u)
 VP:∀b ps,H b=some (.XS ps)->∃more,H' b=some (.XS (ps++more))
section
variable {fs fs' ex ex':Oh}{H H1 H2:Hp}{h h1 h2 h':Heap}{a x e:Addr}{o:HO}
theorem Un.any (u:Un fs ex H H1 h h1){b:Addr}{ob:Obj}(q:h.get? b=some ob)(n:H b=none)(hx:b∉ex):∃sl,h1.get? b=some {ob with slots:=sl}:=by
 by_cases hb:b∈fs
 ·exact u.slot b ob q n hb hx
 ·exact⟨ob.slots,u.keep b ob q n hb hx⟩
theorem Un.kept (k:∀b u,h.get? b=some u->h'.get? b=some u):Un fs ex H H h h':=
 ⟨λb ob q _ _ _=>k b ob q,λb ob q _ _ _=>⟨ob.slots,k b ob q⟩,λ_ _ _ n _=>n,λb ob q _=>⟨ob,k b ob q⟩,λ_ _ q=>q,λ_ _ _ q=>q,λ_ ps q=>⟨#[],by rw[q];simp⟩⟩
theorem Un.refl:Un fs ex H H h h:=Un.kept λ_ _ q=>q
theorem Un.laid (k:∀b u,h.get? b=some u->h'.get? b=some u)(hp:h.objs.size<=a)(hn:H a=none):Un fs ex H (upd H a o) h h' where
 keep:=λb u q _ _ _=>k b u q
 slot:=λb u q _ _ _=>⟨u.slots,k b u q⟩
 free:=λb u q n _=>by rw[aJ (QH (QG (Tj q) hp))];exact n
 there:=λb u q _=>⟨u,k b u q⟩
 VO:=λb xs q=>by rw[aJ (cU q hn)];exact q
 VI:=λb u xs q=>by rw[aJ (cU q hn)];exact q
 VP:=λb ps q=>⟨#[],by rw[aJ (cU q hn),q];simp⟩
theorem Un.write (mu:Af (H x))(he:e=x∨H e=some (.own x))(k:∀b u,b≠e->h.get? b=some u->h'.get? b=some u)(Yy:∃u,h'.get? e=some u):Un fs ex H (upd H x o) h h':=by
 have hx:∀b,H b=none->b≠x:=λb n z=>by subst z;rw[n] at mu;exact mu
 have hb:∀b,H b=none->b≠e:=λb n z=>by
  subst z
  rcases he with r | r
  ·exact hx b n r
  ·rw[n] at r;cases r
 have hm:∀b u,H b=some u->¬Af (some u)->b≠x:=λb u q nm z=>by subst z;rw[q] at mu;exact nm mu
 refine⟨λb u q n _ _=>k b u (hb b n) q,λb u q n _ _=>⟨u.slots,k b u (hb b n) q⟩,λb u q n _=>by rw[aJ (hx b n)];exact n,λb u q _=>?_,
  λb xs q=>by rw[aJ (hm b _ q λz=>z)];exact q,λb u xs q=>by rw[aJ (hm b _ q λz=>z)];exact q,λb ps q=>⟨#[],by rw[aJ (hm b _ q λz=>z),q];simp⟩⟩
 by_cases W8:b=e
 ·subst W8;exact Yy
 ·exact⟨u,k b u W8 q⟩
end
def Dk (h:Heap)(H:Hp):Oh:=(O5 h.objs.size).filter λa=>(H a).isSome
def kY (h:Heap)(H:Hp):Heap:=PySem.W.hideAll h (Dk h H)
theorem zP (h:Heap)(H:Hp):(kY h H).objs.size=h.objs.size:=PySem.W.hideAll_size _ _
theorem AD {h:Heap}{H:Hp}{b:Addr}{o:Obj}(e:h.get? b=some o)(n:H b=none):(kY h H).get? b=some o:=
 PySem.W.hideAll_get _ e λhm=>by
  have q:(H b).isSome=true:=(O2.mp hm).2
  rw[n] at q;simp at q
theorem D8 {h:Heap}{H:Hp}{b:Addr}{o:Obj}(e:(kY h H).get? b=some o):h.get? b=some o/\H b=none:=by
 have e':h.get? b=some o:=PySem.W.of_hideAll (Dk h H) e
 refine⟨e',?_⟩
 cases q:H b with
 | none=>rfl
 | some x=>
   have hm:b∈Dk h H:=O2.mpr ⟨Pm.mpr (Tj e'),by simp[q]⟩
   have z:(kY h H).get? b=none:=PySem.W.hideAll_none (Dk h H) hm
   rw[z] at e;cases e
structure Mod (K:T2) (mg:Oc) (base:Heap):Prop where
 kin:K.In base
 glob:base.Ns Rf mg
 blt:∃mb,base.Ns builtinsNs mb/\∀x:Str,x≠"__name__"->mb x=RK x
 nolimit:base.NoLimit
structure Cx where
 prog:Rh
 w:World
 K:T2
 mg:Oc
 base:Heap
 A:Ri
 N:Of
 s₀:Q9
 H₀:Hp
 env:Env
 outer:List Env
 stack:List Env
 ex:Oh
 fn:Str->Bool
 calm:Bool
 pn:Od
 xe:Value->Q9->Prop
def kF (l:List Env):Oh:=l.filterMap (·.frame)
abbrev Cx.fs (X:Cx):Oh:=kF X.outer
def cN (sc:Scope)(x:Str):Prop:=sc.names.lookup x=some .local∨sc.names.lookup x=some .cell∨sc.names.lookup x=some .free
def Loc (sc:Scope)(x:Str):Prop:=sc.names.lookup x=some .local∨sc.names.lookup x=some .cell
def Look (env:Env)(h:Heap)(m:Oc)(x:Str)(u:Value):Prop:=
 (env.kindOf x=some .local/\m x=some u)∨((env.kindOf x=some .cell∨env.kindOf x=some .free)/\∃c,env.cells.lookup x=some c/\h.IsCell c (some u))
structure Cx.Ok (X:Cx):Prop where
 mod:Mod X.K X.mg X.base
 kind:X.env.scope.kind= .function
 glob:X.env.globals=Rf
 blt:X.env.builtins=builtinsNs
 above:X.s₀.heap.objs.size<=X.env.locals
 inj:∀x y c,X.env.cells.lookup x=some c->X.env.cells.lookup y=some c->x=y
 has:∀x,(X.env.kindOf x=some .cell∨X.env.kindOf x=some .free)->∃c,X.env.cells.lookup x=some c
 Zy:∀x c,X.fn x=true->X.env.cells.lookup x=some c->X.s₀.heap.objs.size<=c
 hd:X.calm=true->X.A.handled=none
 frames:X.A.frames=some X.stack
 stk:X.stack=X.outer∨(X.stack=X.env::X.outer/\X.env.frame=some X.env.locals)
 exf:∀b∈X.ex,b≠X.env.locals/\∀x c,X.env.cells.lookup x=some c->c≠b
 bs:∀b o,X.base.get? b=some o->X.s₀.heap.get? b=some o/\X.H₀ b=none
 Xv:X.base.objs.size<=X.s₀.heap.objs.size
 WR:∀b o,X.base.get? b=some o->b∉X.ex
 WH:∀b∈X.ex,b∉X.fs
 VD:X.s₀.heap.FunFrames X.base X.outer
 Yj:∀b∈X.fs,X.H₀ b=none
structure Inv (X:Cx) (UB:Od) (σ:List (Option V)) (H:Hp) (s:Q9):Prop where
 ok:X.Ok
 os:s.os=X.s₀.os
 bare:Q6 s.gens
 base:Un X.fs X.ex X.H₀ H X.s₀.heap s.heap
 loc:∃m,s.heap.Ns X.env.locals m/\∀(i:Nat) (x:Str) (v:V),X.N[i]?=some x->σ[i]?=some (some v)->cN X.env.scope x->∃u,RelV v u/\Look X.env s.heap m x u
 cell:∀x c,X.env.cells.lookup x=some c->∃v,s.heap.IsCell c v
 free:H X.env.locals=none
 Vk:∀x c,X.env.cells.lookup x=some c->H c=none
 pin:∀p∈X.pn++UB,s.heap.get? p.1=some p.2/\H p.1=none/\p.1≠X.env.locals/\p.1∉X.fs/\∀v,p.2.data≠ .cell v
 UH:dZ X.prog X.w H s.heap
 len:σ.length=X.N.length
section
variable {X:Cx}{UB:Od}{σ:List (Option V)}{H H':Hp}{s:Q9}{h':Heap}
variable {t':Nat}{ch:Oh}{x:Str}{i:Nat}
theorem Cx.Ok.Nj (ok:X.Ok){b:Addr}{o:Obj}(e:X.base.get? b=some o):b∉X.fs:=λhb=>by
 have:=(ok.VD.mem hb).1
 rw[e] at this;cases this
theorem Inv.bs (I:Inv X UB σ H s):∀b o,X.base.get? b=some o->s.heap.get? b=some o/\H b=none:=λb o e=>
 ⟨I.base.keep b o (I.ok.bs b o e).1 (I.ok.bs b o e).2 (I.ok.Nj e) (I.ok.WR b o e),I.base.free b o (I.ok.bs b o e).1 (I.ok.bs b o e).2 (I.ok.WR b o e)⟩
theorem Inv.bk (I:Inv X UB σ H s):∀b o,X.base.get? b=some o->s.heap.get? b=some o:=λb o e=>(I.bs b o e).1
theorem Inv.mod (I:Inv X UB σ H s):Mod X.K X.mg X.base:=I.ok.mod
theorem Inv.fe (I:Inv X UB σ H s):X.K.In s.heap:=I.ok.mod.kin.keeps I.bk
theorem Inv.lt (I:Inv X UB σ H s):X.env.locals<s.heap.objs.size:=let ⟨_,hn,_⟩:=I.loc;hn.lt
theorem Inv.sz (I:Inv X UB σ H s):X.s₀.heap.objs.size<=s.heap.objs.size:=QD I.ok.above (QO I.lt)
theorem Inv.NN (I:Inv X UB σ H s){a:Addr}(h:s.heap.objs.size<=a):a∉X.fs:=λhb=>by
 obtain⟨_,o,ho,_⟩:=I.ok.VD.mem hb
 exact Ur (QG (Tj ho) (QD I.sz h)) (QI _)
theorem Inv.Ym (I:Inv X UB σ H s):∀x c,X.env.cells.lookup x=some c->c≠X.env.locals:=λx c e z=>by
 obtain⟨v,o,ho,hd⟩:=I.cell x c e
 obtain⟨m,⟨o',es,ep,VY,Zl,_⟩,_⟩:=I.loc
 rw[z,VY] at ho;cases ho;rw[Zl] at hd;cases hd
theorem Inv.VD (I:Inv X UB σ H s):s.heap.FunFrames X.base X.outer:=by
 have all:∀(l:List Env),(∀b∈kF l,b∈X.fs)->X.s₀.heap.FunFrames X.base l->s.heap.FunFrames X.base l:=by
  intro l
  induction l with
  | nil=>intro _ _;trivial
  | cons env r ih=>
    intro hs hl
    obtain⟨hk,⟨L,o,hf,hn,ho,hd⟩,hr⟩:=hl
    have hL:L∈X.fs:=hs L (by unfold kF;rw[Qg,hf];exact OM)
    obtain⟨sl,e⟩:=I.base.slot L o ho (I.ok.Yj L hL) hL λz=>I.ok.WH L z hL
    exact⟨hk,⟨L,_,hf,hn,e,hd⟩,ih (λb hb=>hs b (by unfold kF;rw[Qg,hf];exact OL _ hb)) hr⟩
 exact all X.outer (λ_ hb=>hb) I.ok.VD
theorem Inv.stack (I:Inv X UB σ H s):s.heap.FunFrames X.base X.stack:=by
 rcases I.ok.stk with e | ⟨e,hf⟩
 ·rw[e];exact I.VD
 ·rw[e]
  obtain⟨m,hn,_⟩:=I.loc
  refine .cons (by rw[I.ok.kind];decide) hf hn ?_ I.VD
  exact Heap.get?_none_of_le (QD I.ok.Xv I.ok.above)
theorem Inv.sN (I:Inv X UB σ H s):∀b∈kF X.stack,b∈X.env.locals::X.fs:=λb hb=>by
 rcases I.ok.stk with e | ⟨e,hf⟩
 ·rw[e] at hb;exact OL _ hb
 ·rw[e] at hb
  unfold kF at hb
  rw[Qg,hf] at hb
  exact hb
theorem Inv.wB (I:Inv X UB σ H s):∀b∈kF X.stack,H b=none:=λb hb=>by
 rcases OT.mp (I.sN b hb) with e | hb
 ·rw[e];exact I.free
 ·obtain⟨_,o,ho,_⟩:=I.ok.VD.mem hb
  exact I.base.free b o ho (I.ok.Yj b hb) λz=>I.ok.WH b z hb
theorem Inv.step {g':Array SN}{d':Drawn}(I:Inv X UB σ H s)
 (WN:∀b∈ch,(b∈X.ex∨X.s₀.heap.objs.size<=b)/\b≠X.env.locals/\(∀x c,X.env.cells.lookup x=some c->c≠b)/\∀p∈X.pn++UB,p.1≠b)
 (keep:∀b o,b≠X.env.locals->b∉X.fs->b∉ch->s.heap.get? b=some o->H b=none->h'.get? b=some o)
 (slot:∀b o,b≠X.env.locals->b∈X.fs->b∉ch->s.heap.get? b=some o->H b=none->∃sl,h'.get? b=some {o with slots:=sl}) (free:∀b o,b∉ch->s.heap.get? b=some o->H b=none->H' b=none)
 (there:∀b o,b∉ch->s.heap.get? b=some o->∃o',h'.get? b=some o')
 (VO:∀b xs,H b=some (.tup xs)->H' b=some (.tup xs)) (VI:∀b o u,H b=some (.VJ o u)->H' b=some (.VJ o u)) (VP:∀b ps,H b=some (.XS ps)->∃more,H' b=some (.XS (ps++more)))
 (ns:∀m,s.heap.Ns X.env.locals m->h'.Ns X.env.locals m) (UH:dZ X.prog X.w H' h') (hg:Q6 g'):
 Inv X UB σ H' {s with heap:=h',gens:=g',drawn:=d',toks:=t'}:=by
 have neL:∀b o,X.s₀.heap.get? b=some o->b≠X.env.locals:=λb o e=>QH (QG (Tj e) I.ok.above)
 have WT:∀b o,X.s₀.heap.get? b=some o->b∉X.ex->b∉ch:=λb o e hx hb=>by
  rcases(WN b hb).1 with z | z
  ·exact hx z
  ·exact Ur (QG (Tj e) z) (QI _)
 have cellK:∀x c,X.env.cells.lookup x=some c->∀v,s.heap.IsCell c v->h'.IsCell c v:=λx c e v ⟨o,ho,hd⟩=>by
  have YO:c∉ch:=λz=>(WN c z).2.2.1 x c e rfl
  by_cases hc:c∈X.fs
  ·obtain⟨sl,q⟩:=slot c o (I.Ym x c e) hc YO ho (I.Vk x c e)
   exact⟨_,q,hd⟩
  ·exact⟨o,keep c o (I.Ym x c e) hc YO ho (I.Vk x c e),hd⟩
 refine⟨I.ok,I.os,hg,⟨λb o e n hb hx=>?_,λb o e n hb hx=>?_,λb o e n hx=>?_,λb o e hx=>?_,λb xs e=>VO b xs (I.base.VO b xs e),λb o xs e=>VI b o xs (I.base.VI b o xs e),λb ps e=>?_⟩,?_,λx c e=>?_,?_,λx c e=>?_,λp hp=>?_,UH,I.len⟩
 ·exact keep b o (neL b o e) hb (WT b o e hx) (I.base.keep b o e n hb hx) (I.base.free b o e n hx)
 ·obtain⟨sl,e1⟩:=I.base.slot b o e n hb hx
  obtain⟨sl',e2⟩:=slot b _ (neL b o e) hb (WT b o e hx) e1 (I.base.free b o e n hx)
  exact⟨sl',e2⟩
 ·obtain⟨o',e1⟩:=I.base.there b o e hx
  exact free b o' (WT b o e hx) e1 (I.base.free b o e n hx)
 ·obtain⟨o',e1⟩:=I.base.there b o e hx
  exact there b o' (WT b o e hx) e1
 ·obtain⟨m1,e1⟩:=I.base.VP b ps e
  obtain⟨m2,e2⟩:=VP b _ e1
  exact⟨m1++m2,by rw[e2,Array.append_assoc]⟩
 ·obtain⟨m,hn,hl⟩:=I.loc
  refine⟨m,ns m hn,λi x v e1 e2 e3=>?_⟩
  obtain⟨u,r,l⟩:=hl i x v e1 e2 e3
  refine⟨u,r,?_⟩
  rcases l with l | ⟨k,c,e,z⟩
  ·exact .inl l
  ·exact .inr ⟨k,c,e,cellK x c e _ z⟩
 ·obtain⟨v,z⟩:=I.cell x c e
  exact⟨v,cellK x c e v z⟩
 ·obtain⟨m,⟨o,_,_,ho,_⟩,_⟩:=I.loc
  exact free _ o (λz=>(WN _ z).2.1 rfl) ho I.free
 ·obtain⟨v,o,ho,hd⟩:=I.cell x c e
  exact free c o (λz=>(WN c z).2.2.1 x c e rfl) ho (I.Vk x c e)
 ·obtain⟨e,n,ne,nf,d⟩:=I.pin p hp
  have YO:p.1∉ch:=λz=>(WN p.1 z).2.2.2 p hp rfl
  exact⟨keep p.1 p.2 ne nf YO e n,free p.1 p.2 YO e n,ne,nf,d⟩
theorem Inv.un (I:Inv X UB σ H s)(u:Un X.fs [] H H' s.heap h')(UH:dZ X.prog X.w H' h'):Inv X UB σ H' {s with heap:=h',toks:=t'}:=by
 obtain⟨m,⟨o,es,ep,ho,r⟩,_⟩:=id I.loc
 obtain⟨sl,hL⟩:=u.any ho I.free (by simp)
 exact I.step (g':=s.gens) (d':=s.drawn) (ch:=[]) (λ_ z=>nomatch z) (λb o _ hb _ e n=>u.keep b o e n hb (by simp)) (λb o _ hb _ e n=>u.slot b o e n hb (by simp)) (λb o _ e n=>u.free b o e n (by simp)) (λb o _ e=>u.there b o e (by simp)) u.VO u.VI u.VP (λm' hm=>by
  obtain⟨o',es',ep',VY,r'⟩:=hm
  rw[ho] at VY;cases VY
  exact⟨_,es',ep',hL,r'⟩) UH I.bare
theorem Inv.call {g':Array SN}{d':Drawn}(I:Inv X UB σ H s)(u:Un (kF X.stack) ch H H' s.heap h')(UH:dZ X.prog X.w H' h')(hg:Q6 g')
 (WN:∀b∈ch,(b∈X.ex∨X.s₀.heap.objs.size<=b)/\b≠X.env.locals/\(∀x c,X.env.cells.lookup x=some c->c≠b)/\∀p∈X.pn++UB,p.1≠b):
 Inv X UB σ H' {s with heap:=h',gens:=g',drawn:=d',toks:=t'}:=by
 obtain⟨m,⟨o,es,ep,ho,r⟩,_⟩:=id I.loc
 obtain⟨sl,hL⟩:=u.any ho I.free λz=>(WN _ z).2.1 rfl
 exact I.step (ch:=ch) WN (λb o hL hb hc e n=>u.keep b o e n (λz=>(OT.mp (I.sN b z)).elim hL hb) hc) (λb o _ _ hc e n=>u.any e n hc) (λb o hc e n=>u.free b o e n hc) (λb o hc e=>u.there b o e hc) u.VO u.VI u.VP (λm' hm=>by
  obtain⟨o',es',ep',VY,r'⟩:=hm
  rw[ho] at VY;cases VY
  exact⟨_,es',ep',hL,r'⟩) UH hg
theorem Inv.turned {it:Addr}(I:Inv X UB σ H s)(k:∀b o,b≠it->s.heap.get? b=some o->h'.get? b=some o)(hn:H it=none)(hL:it≠X.env.locals)
 (h1:it∈X.ex∨X.s₀.heap.objs.size<=it) (h2:∀x c,X.env.cells.lookup x=some c->c≠it) (h3:∀p∈X.pn++UB,p.1≠it):Inv X UB σ H {s with heap:=h',toks:=t'}:=by
 have YN:∀b u,H b=some u->b≠it:=λb u e z=>by rw[z,hn] at e;cases e
 refine I.step (g':=s.gens) (d':=s.drawn) (ch:=[it]) (λb hb=>?_) (λb o _ _ hc e _=>k b o (λz=>hc (by simp[z])) e) (λb o _ _ hc e _=>⟨o.slots,k b o (λz=>hc (by simp[z])) e⟩) (λ_ _ _ _ n=>n)
  (λb o hc e=>⟨o,k b o (λz=>hc (by simp[z])) e⟩) (λ_ _ e=>e) (λ_ _ _ e=>e) (λb ps e=>⟨#[],by rw[e];simp⟩) (λm hm=>?_) (λb u e=>?_) I.bare
 ·have e:b=it:=by simpa using hb
  subst e
  exact⟨h1,hL,h2,h3⟩
 ·obtain⟨o,es,ep,ho,r⟩:=hm
  exact⟨o,es,ep,k _ o (QW hL) ho,r⟩
 ·refine(I.UH b u e).Vd (λc v hc q=>k c v ?_ q) (λ_ q=>q) λ_ _ q=>q
  rcases hc with z | z
  ·rw[z];exact YN b u e
  ·exact YN c _ z
theorem Inv.tok (I:Inv X UB σ H s)(t:Nat):Inv X UB σ H {s with toks:=t}:=I.un (h':=s.heap) (t':=t) Un.refl I.UH
theorem Inv.kept (I:Inv X UB σ H s)(k:∀b u,s.heap.get? b=some u->h'.get? b=some u):Inv X UB σ H {s with heap:=h',toks:=t'}:=I.un (Un.kept k) (I.UH.kept k)
theorem Inv.laid {a:Addr}{o:HO}(I:Inv X UB σ H s)(k:∀b u,s.heap.get? b=some u->h'.get? b=some u)(hp:s.heap.objs.size<=a)(new:cL X.prog X.w (upd H a o) h' a o):
 Inv X UB σ (upd H a o) {s with heap:=h',toks:=t'}:=I.un (Un.laid k hp (I.UH.fresh hp)) (I.UH.laid k hp new)
theorem Inv.write {x e:Addr}{o:HO}(I:Inv X UB σ H s)(mu:Af (H x))(he:e=x∨H e=some (.own x))(k:∀b u,b≠e->s.heap.get? b=some u->h'.get? b=some u)(Yy:∃u,h'.get? e=some u)
 (new:cL X.prog X.w (upd H x o) h' x o):Inv X UB σ (upd H x o) {s with heap:=h',toks:=t'}:=I.un (Un.write mu he k Yy) (I.UH.write mu he k Yy new)
theorem Inv.jq {Xy:Od}(I:Inv X UB σ H s)(h:∀p∈Xy,s.heap.get? p.1=some p.2/\H p.1=none/\p.1≠X.env.locals/\p.1∉X.fs/\∀v,p.2.data≠ .cell v):Inv X Xy σ H s:=
 ⟨I.ok,I.os,I.bare,I.base,I.loc,I.cell,I.free,I.Vk,λp hp=>(OS.mp hp).elim (λz=>I.pin p (OU _ z)) (h p),I.UH,I.len⟩
theorem uH {N:Of}(hN:N.Nodup){j:Nat}(a:N[i]?=some x)(b:N[j]?=some x):i=j:=by
 obtain⟨h1,e1⟩:=OD.mp a
 obtain⟨h2,e2⟩:=OD.mp b
 exact(P0 hN).mp (e1.trans e2.symm)
theorem qZ {M:Model}{A:Ri}{E:Value->Q9->Prop}{v:V}{u:Value}{Q:Unit->Q9->Prop}(I:Inv X UB σ H s)(hN:X.N.Nodup)(hi:X.N[i]?=some x)(hx:Loc X.env.scope x)(r:RelV v u)
 (h:∀s',Inv X UB (σ.set i (some v)) H s'->(∃a,Tp a s.heap s'.heap/\(a=X.env.locals∨X.env.cells.lookup x=some a))->Q () s') (hf:X.fn x=true∨X.env.scope.names.lookup x=some .local:=by first | exact .inl rfl | exact .inr rfl | assumption):wpAny M A (storeName X.env x u) Q E s:=by
 obtain⟨m,hn,hl⟩:=id I.loc
 have hcls:(X.env.scope.kind== .class ||(X.env.scope.kind== .module&&X.env.locals != X.env.globals))=false:=by rw[I.ok.kind];rfl
 have hiσ:i<σ.length:=by rw[I.len];exact(OD.mp hi).1
 have Ym:=I.Ym
 have tracked:∀{a:Addr} {h':Heap},(∃o,s.heap.get? a=some o/\H a=none)->Tp a s.heap h'->dZ X.prog X.w H h':=λ{a h'} ha hs b ob e=>by
  obtain⟨_,_,XJ⟩:=ha
  refine(I.UH b ob e).Vd (λc w' hc q=>(hs.2 c ?_).trans q) (λ_ q=>q) λ_ _ q=>q
  rintro rfl
  rcases hc with rfl | hc
  ·rw[XJ] at e;cases e
  ·rw[XJ] at hc;cases hc
 rcases hx with hk | hk
 ·refine wpAny_storeName_local hk hn (λh' WM hs=>?_) hcls
  obtain⟨oL,_,_,hoL,_⟩:=id hn
  refine h _ ⟨I.ok,I.os,I.bare,⟨λb o e n hb hx=>?_,λb o e n hb hx=>?_,I.base.free,λb o e hx=>?_,I.base.VO,I.base.VI,I.base.VP⟩,⟨_,WM,λj y v' e1 e2 e3=>?_⟩,λy c e=>?_,I.free,I.Vk,λp hp=>?_,tracked ⟨oL,hoL,I.free⟩ hs,by simpa using I.len⟩ ⟨_,hs,.inl rfl⟩
  ·exact(hs.2 b (QH (QG (Tj e) I.ok.above))).trans (I.base.keep b o e n hb hx)
  ·obtain⟨sl,e1⟩:=I.base.slot b o e n hb hx
   exact⟨sl,(hs.2 b (QH (QG (Tj e) I.ok.above))).trans e1⟩
  ·obtain⟨o',e1⟩:=I.base.there b o e hx
   exact⟨o',(hs.2 b (QH (QG (Tj e) I.ok.above))).trans e1⟩
  ·by_cases hj:j=i
   ·subst hj
    rw[hi] at e1;cases e1
    rw[OW hiσ] at e2
    cases e2
    exact⟨u,r,.inl ⟨hk,by simp⟩⟩
   ·rw[Pb (QW hj)] at e2
    obtain⟨u',r',q⟩:=hl j y v' e1 e2 e3
    refine⟨u',r',?_⟩
    rcases q with⟨k,e⟩ | ⟨k,c,e,z⟩
    ·refine .inl ⟨k,?_⟩
     have:y≠x:=λe=>hj (uH hN e1 (e▸hi))
     simp[this,e]
    ·exact .inr ⟨k,c,e,z.sameBut hs (Ym y c e)⟩
  ·obtain⟨w',z⟩:=I.cell y c e
   exact⟨w',z.sameBut hs (Ym y c e)⟩
  ·obtain⟨e,n,ne,nf,d⟩:=I.pin p hp
   exact⟨(hs.2 p.1 ne).trans e,n,ne,nf,d⟩
 ·have hfn:X.fn x=true:=by
   rcases hf with z | z
   ·exact z
   ·rw[z] at hk;cases hk
  obtain⟨c,hc⟩:=I.ok.has x (.inl hk)
  obtain⟨w',z⟩:=I.cell x c hc
  refine wpAny_storeName_cell I.ok.kind hk hc z (λh' Zo hs=>?_)
  obtain⟨oc,hoc,hocd⟩:=id z
  refine h {s with heap:=h'} ⟨I.ok,I.os,I.bare,⟨λb o e n hb hx=>?_,λb o e n hb hx=>?_,I.base.free,λb o e hx=>?_,I.base.VO,I.base.VI,I.base.VP⟩,⟨m,hn.sameBut hs (QW (Ym x c hc)),λj y v' e1 e2 e3=>?_⟩,λy c' e=>?_,I.free,I.Vk,λp hp=>?_,tracked ⟨oc,hoc,I.Vk x c hc⟩ hs,by simpa using I.len⟩ ⟨c,hs,.inr hc⟩
  ·exact(hs.2 b (QH (QG (Tj e) (I.ok.Zy x c hfn hc)))).trans (I.base.keep b o e n hb hx)
  ·obtain⟨sl,e1⟩:=I.base.slot b o e n hb hx
   exact⟨sl,(hs.2 b (QH (QG (Tj e) (I.ok.Zy x c hfn hc)))).trans e1⟩
  ·obtain⟨o',e1⟩:=I.base.there b o e hx
   exact⟨o',(hs.2 b (QH (QG (Tj e) (I.ok.Zy x c hfn hc)))).trans e1⟩
  ·by_cases hj:j=i
   ·subst hj
    rw[hi] at e1;cases e1
    rw[OW hiσ] at e2
    cases e2
    exact⟨u,r,.inr ⟨.inl hk,c,hc,Zo⟩⟩
   ·rw[Pb (QW hj)] at e2
    obtain⟨u',r',q⟩:=hl j y v' e1 e2 e3
    refine⟨u',r',?_⟩
    rcases q with q | ⟨k,c',e,z'⟩
    ·exact .inl q
    ·refine .inr ⟨k,c',e,z'.sameBut hs ?_⟩
     rintro rfl
     exact hj (uH hN e1 (I.ok.inj _ _ _ e hc▸hi))
  ·by_cases XN:c'=c
   ·subst XN;exact⟨_,Zo⟩
   ·obtain⟨w2,z2⟩:=I.cell y c' e
    exact⟨w2,z2.sameBut hs XN⟩
  ·obtain⟨e,n,ne,nf,d⟩:=I.pin p hp
   refine⟨(hs.2 p.1 ?_).trans e,n,ne,nf,d⟩
   intro q
   rw[q,hoc] at e
   have q':oc=p.2:=Option.some.inj e
   exact d w' (by rw[← q'];exact hocd)
theorem nW {M:Model}{A:Ri}{E:Value->Q9->Prop}{v:V}{u:Value}{Q:Unit->Q9->Prop}(I:Inv X UB σ H s)(hN:X.N.Nodup)(hi:X.N[i]?=some x)(hx:Loc X.env.scope x)(r:RelV v u)
 (h:∀s',Inv X UB (σ.set i (some v)) H s'->Q () s') (hf:X.fn x=true∨X.env.scope.names.lookup x=some .local:=by first | exact .inl rfl | exact .inr rfl | assumption):wpAny M A (storeName X.env x u) Q E s:=
 qZ I hN hi hx r (λs' I' _=>h s' I') hf
theorem Inv.La {s':Q9}(I:Inv X UB σ H s)(ho:s'.os=s.os)(u:Un (kF X.stack) ch H H' s.heap s'.heap)(UH:dZ X.prog X.w H' s'.heap)(hg:Q6 s'.gens)
 (WN:∀b∈ch,(b∈X.ex∨X.s₀.heap.objs.size<=b)/\b≠X.env.locals/\(∀x c,X.env.cells.lookup x=some c->c≠b)/\∀p∈X.pn++UB,p.1≠b):Inv X UB σ H' s':=by
 obtain⟨h',g',d',t',o'⟩:=s'
 have e:o'=s.os:=ho
 subst e
 exact I.call (g':=g') (t':=t') (d':=d') u UH hg WN
end
abbrev XK:=Value->Option Addr->Hp->Prop
abbrev St:=List (Option V)
abbrev VK:=V->Hp->Prop
abbrev TE:=St->Hp->VK->Prop
abbrev TT:=St->Hp->(Bool->Hp->Prop)->Prop
abbrev TA:=St->Hp->(List V->Hp->Prop)->Prop
structure Ends where
 nx:St->Hp->Prop
 rt:VK
 bk:St->Hp->Prop:=λ_ _=>False
 ct:St->Hp->Prop:=λ_ _=>False
abbrev TS:=Ends->St->Hp->Prop
def EP (X:Cx)(UB:Od)(σ:St)(Q:VK)(u:Value)(s':Q9):Prop:=∃v H',Inv X UB σ H' s'/\RelV v u/\Q v H'
def TP (X:Cx)(UB:Od)(σ:St)(Q:Bool->Hp->Prop)(b:Bool)(s':Q9):Prop:=∃H',Inv X UB σ H' s'/\Q b H'
def AP (X:Cx)(UB:Od)(σ:St)(Q:List V->Hp->Prop)(us:Oi)(s':Q9):Prop:=∃vs H',Inv X UB σ H' s'/\Vals vs us/\Q vs H'
def SP (X:Cx)(UB:Od)(D:Ends)(f:Flow)(s':Q9):Prop:=
 match f with
 | .next=>∃σ' H',Inv X UB σ' H' s'/\D.nx σ' H'
 | .brk=>∃σ' H',Inv X UB σ' H' s'/\D.bk σ' H'
 | .cont=>∃σ' H',Inv X UB σ' H' s'/\D.ct σ' H'
 | .ret u=>∃v σ' H',Inv X UB σ' H' s'/\RelV v u/\D.rt v H'
def PE (X:Cx)(e:Expr)(t:TE):Prop:=
 ∀(UB:Od) (s:Q9) (σ:St) (H:Hp) (Q:VK),Inv X UB σ H s->t σ H Q->wpAny (model X.prog X.w) X.A (eval e X.env) (EP X UB σ Q) X.xe s
def PT (X:Cx)(e:Expr)(t:TT):Prop:=
 ∀(UB:Od) (s:Q9) (σ:St) (H:Hp) (Q:Bool->Hp->Prop),Inv X UB σ H s->t σ H Q->wpAny (model X.prog X.w) X.A (RZ e X.env (eval e X.env)) (TP X UB σ Q) X.xe s
def PW (X:Cx)(e:Expr)(t:TT):Prop:=
 ∀(whole:Sem Value) (UB:Od) (s:Q9) (σ:St) (H:Hp) (Q:Bool->Hp->Prop),Inv X UB σ H s->t σ H Q->wpAny (model X.prog X.w) X.A (RZ e X.env whole) (TP X UB σ Q) X.xe s
theorem PW.pt {X:Cx}{e:Expr}{t:TT}(h:PW X e t):PT X e t:=h _
def PA (X:Cx)(es:Oj)(t:TA):Prop:=
 ∀(pos:Pos) (UB:Od) (s:Q9) (σ:St) (H:Hp) (Q:List V->Hp->Prop),Inv X UB σ H s->t σ H Q->wpAny (model X.prog X.w) X.A (spliced (Rk pos (Rc es X.env))) (AP X UB σ Q) X.xe s
def PS (X:Cx)(st:Stmt)(t:TS):Prop:=
 ∀(UB:Od) (s:Q9) (σ:St) (H:Hp) (D:Ends),Inv X UB σ H s->t D σ H->wpAny (model X.prog X.w) X.A (exec st X.env) (SP X UB D) X.xe s
def jQ (X:Cx)(st:List Stmt)(t:TS):Prop:=
 ∀(UB:Od) (s:Q9) (σ:St) (H:Hp) (D:Ends),Inv X UB σ H s->t D σ H->wpAny (model X.prog X.w) X.A (execs st X.env) (SP X UB D) X.xe s
theorem aX {α:Type}{t:Sem α}{Q Q':α->Q9->Prop}{M:Model}{A:Ri}{E:Value->Q9->Prop}{s:Q9}(h:wpAny M A t Q E s)(hQ:∀a s,Q a s->Q' a s):wpAny M A t Q' E s:=Ru h hQ λ_ _ x=>x
section
variable {X:Cx}
def Nz (i:Nat):TE:=λσ H Q=>∃v,σ[i]?=some (some v)/\Q v H
def tC (v:V):TE:=λ_ H Q=>Q v H
theorem br {i:Nat}{x:Str}{pos:Pos}(hN:X.N[i]?=some x)(hv:cN X.env.scope x)(hd:UX x:=by decide)(UI:Ve x:=by decide):PE X (.Name x pos) (Nz i):=by
 intro UB s σ H Q I h
 obtain⟨v,e,h⟩:=h
 obtain⟨m,hn,hl⟩:=I.loc
 obtain⟨u,r,l⟩:=hl i x v hN e hv
 have fin:EP X UB σ Q u s:=⟨v,H,I,r,h⟩
 rcases l with⟨hk,hm⟩ | ⟨hk,c,hc,VW⟩
 ·exact wpAny_Name (wpAny_loadName_local I.ok.kind hk hn hm fin) hd
 ·rcases hk with hk | hk
  ·exact wpAny_Name (wpAny_loadName_cell I.ok.kind hk hc VW fin) hd
  ·exact wpAny_Name (wpAny_loadName_free I.ok.kind hk hc VW fin UI) hd
theorem zV {i j pos}:PE X (.Constant (.int i) j pos) (tC (.int i)):=λ_ _ _ H _ I h=>wpAny_Constant_int ⟨.int i,H,I.tok _,⟨_,rfl⟩,h⟩
theorem oS {b j pos}:PE X (.Constant (.bool b) j pos) (tC (.bl b)):=λ_ _ _ H _ I h=>Constant_bool ⟨.bl b,H,I,rfl,h⟩
theorem Hk {j pos}:PE X (.Constant .none j pos) (tC .UQ):=λ_ _ _ H _ I h=>Constant_none ⟨.UQ,H,I,rfl,h⟩
theorem HJ {x j pos}:PE X (.Constant (.str x) j pos) (tC (.str x)):=λ_ _ _ H _ I h=>Calls.Constant_str ⟨.str x,H,I.tok _,⟨_,rfl⟩,h⟩
def Gl (X:Cx)(x:Str):Prop:=X.env.kindOf x=some .globalImplicit
theorem p6 {E:Value->Q9->Prop}{UB:Od}{s:Q9}{σ:St}{H:Hp}{x:Str}{u:Value}{pos:Pos}{Q:Value->Q9->Prop}(I:Inv X UB σ H s)(hg:Gl X x)(hm:X.mg x=some u)(h:Q u s)
 (hd:UX x:=by decide):wpAny (model X.prog X.w) X.A (eval (.Name x pos) X.env) Q E s:=
 Calls.Name_function_global I.ok.kind hg (Calls.loadGlobal_global (by rw[I.ok.glob];exact I.mod.glob.keeps I.bk) hm h) hd
theorem f9 {E:Value->Q9->Prop}{UB:Od}{s:Q9}{σ:St}{H:Hp}{x:Str}{u:Value}{pos:Pos}{Q:Value->Q9->Prop}(I:Inv X UB σ H s)(hg:Gl X x)(hm:X.mg x=none)(hv:RK x=some u)(h:Q u s)
 (hn:x≠"__name__":=by decide) (hd:UX x:=by decide):wpAny (model X.prog X.w) X.A (eval (.Name x pos) X.env) Q E s:=by
 obtain⟨mb,h1,h2⟩:=I.mod.blt
 exact Calls.Name_function_global I.ok.kind hg (Calls.loadGlobal_builtin (by rw[I.ok.glob];exact I.mod.glob.keeps I.bk) hm (by rw[I.ok.blt];exact h1.keeps I.bk) ((h2 x hn).trans hv) h) hd
theorem iq {x:Str}{v:V}{u:Value}{pos:Pos}(hg:Gl X x)(hm:X.mg x=some u)(r:RelV v u)(hd:UX x:=by decide):PE X (.Name x pos) (tC v):=
 λ_ _ _ H _ I h=>p6 I hg hm ⟨v,H,I,r,h⟩ hd
theorem ER {x:Str}{v:V}{u:Value}{pos:Pos}(hg:Gl X x)(hm:X.mg x=none)(hv:RK x=some u)(r:RelV v u)(hn:x≠"__name__":=by decide)(hd:UX x:=by decide):PE X (.Name x pos) (tC v):=
 λ_ _ _ H _ I h=>f9 I hg hm hv ⟨v,H,I,r,h⟩ hn hd
variable {a b:Expr}{ta tb:TE}{pos:Pos}
def PC (X:Cx)(op:CmpOp)(a b:Expr)(t:TE):Prop:=
 ∀(UB:Od) (s:Q9) (σ:St) (H:Hp) (Q:VK),Inv X UB σ H s->t σ H Q->
  wpAny (model X.prog X.w) X.A (eval a X.env) (λv s₁=>wpAny (model X.prog X.w) X.A (eval b X.env) (λu s₂=>wpAny (model X.prog X.w) X.A (Ro op v u) (EP X UB σ Q) X.xe s₂) X.xe s₁) X.xe s
def tB (t:TE):TT:=λσ H Q=>t σ H λx H1=>∃c,x= .bl c/\Q c H1
theorem lY {op:CmpOp}{t:TE}(h:PC X op a b t)(h1:RO op b=false:=by first | exact YL _ (by decide) (by decide) | rfl):PT X (.Compare a [op] [b] pos) (tB t):=by
 intro UB s σ H Q I hw
 refine wpAny_isTrue_Compare1 (aX (h UB s σ H _ I hw) λv s1 h1=>aX h1 λu s2 h2=>aX h2 λc s3 ⟨x,H1,I1,r1,q1⟩=>?_) h1
 obtain⟨d,rfl,q⟩:=q1
 cases r1
 exact Rn ⟨H1,I1,q⟩
theorem HM {e:Expr}{t:TE}(h:PE X e t)(he:∀whole,RZ e X.env whole=(do let v ← whole;Sg e.pos;RM [v] (SF v)):=by intro _;rfl):PT X e (tB t):=by
 intro UB s σ H Q I hw
 refine isTrue_plain (aX (h UB s σ H _ I hw) λv s1 ⟨x,H1,I1,r1,q1⟩=>?_) (he _)
 obtain⟨d,rfl,q⟩:=q1
 cases r1
 exact Rn ⟨H1,I1,q⟩
variable {tA tB':TT}{rest:Oj}
def Nu (t u:TT):TT:=λσ H Q=>t σ H λc H1=>if c=true then u σ H1 Q else Q false H1
def tOr (t u:TT):TT:=λσ H Q=>t σ H λc H1=>if c=true then Q true H1 else u σ H1 Q
def NV (t:TT):TT:=λσ H Q=>t σ H λc H1=>Q (!c) H1
theorem EZ (ha:PT X a tA):PW X (.BoolOp .And [a] pos) tA:=by
 intro wh UB s σ H Q I h
 refine isTrue_and (aX (ha UB s σ H Q I h) λc s1 e=>?_)
 cases c with
 | true=>exact isTrue_and_nil e
 | false=>exact e
theorem G4 (ha:PT X a tA):PW X (.BoolOp .Or [a] pos) tA:=by
 intro wh UB s σ H Q I h
 refine isTrue_or (aX (ha UB s σ H Q I h) λc s1 e=>?_)
 cases c with
 | false=>exact isTrue_or_nil e
 | true=>exact e
theorem Gz (ha:PT X a tA)(hb:PW X (.BoolOp .And (b::rest) pos) tB'):PW X (.BoolOp .And (a::b::rest) pos) (Nu tA tB'):=by
 intro wh UB s σ H Q I h
 refine isTrue_and (aX (ha UB s σ H _ I h) λc s1 ⟨H1,I1,q1⟩=>?_)
 cases c with
 | true=>exact hb wh UB s1 σ H1 Q I1 q1
 | false=>exact⟨H1,I1,q1⟩
theorem K9 (ha:PT X a tA)(hb:PW X (.BoolOp .Or (b::rest) pos) tB'):PW X (.BoolOp .Or (a::b::rest) pos) (tOr tA tB'):=by
 intro wh UB s σ H Q I h
 refine isTrue_or (aX (ha UB s σ H _ I h) λc s1 ⟨H1,I1,q1⟩=>?_)
 cases c with
 | true=>exact⟨H1,I1,q1⟩
 | false=>exact hb wh UB s1 σ H1 Q I1 q1
theorem FW (ha:PT X a tA):PT X (.UnaryOp .Not a pos) (NV tA):=by
 intro UB s σ H Q I h
 exact isTrue_not (ha UB s σ H (λc H1=>Q (!c) H1) I h)
def Lv (ta tb:TE):TE:=λσ H Q=>ta σ H λx H1=>∃c,x= .bl c/\if c=true then tb σ H1 Q else Q (.bl false) H1
def NJ (ta tb:TE):TE:=λσ H Q=>ta σ H λx H1=>∃c,x= .bl c/\if c=true then Q (.bl true) H1 else tb σ H1 Q
def L1 (ta:TE):TE:=λσ H Q=>ta σ H λx H1=>∃c,x= .bl c/\Q (.bl (!c)) H1
theorem F9 {op}{t:TE}(h:PE X a t):PE X (.BoolOp op [a] pos) t:=λUB s σ H Q I hw=>BoolOp_one (h UB s σ H Q I hw)
theorem IA (ha:PE X a ta)(hb:PE X (.BoolOp .And (b::rest) pos) tb):PE X (.BoolOp .And (a::b::rest) pos) (Lv ta tb):=by
 intro UB s σ H Q I h
 refine BoolOp_and (aX (ha UB s σ H _ I h) λv s1 ⟨x,H1,I1,r1,q1⟩=>?_)
 obtain⟨c,rfl,q1⟩:=q1
 cases r1
 refine Rn ?_
 cases c with
 | true=>exact hb UB s1 σ H1 Q I1 q1
 | false=>exact⟨.bl false,H1,I1,rfl,q1⟩
theorem LM (ha:PE X a ta)(hb:PE X (.BoolOp .Or (b::rest) pos) tb):PE X (.BoolOp .Or (a::b::rest) pos) (NJ ta tb):=by
 intro UB s σ H Q I h
 refine BoolOp_or (aX (ha UB s σ H _ I h) λv s1 ⟨x,H1,I1,r1,q1⟩=>?_)
 obtain⟨c,rfl,q1⟩:=q1
 cases r1
 refine Rn ?_
 cases c with
 | false=>exact hb UB s1 σ H1 Q I1 q1
 | true=>exact⟨.bl true,H1,I1,rfl,q1⟩
theorem HR (ha:PE X a ta):PE X (.UnaryOp .Not a pos) (L1 ta):=by
 intro UB s σ H Q I h
 refine UnaryOp_ (aX (ha UB s σ H _ I h) λv s1 ⟨x,H1,I1,r1,q1⟩=>?_)
 obtain⟨c,rfl,q1⟩:=q1
 cases r1
 exact not_of (Rn ⟨.bl (!c),H1,I1,rfl,q1⟩)
def tIf (t:TT)(ta tb:TE):TE:=λσ H Q=>t σ H λc H1=>if c=true then ta σ H1 Q else tb σ H1 Q
theorem Ap {c:Expr}(hc:PT X c tA)(ha:PE X a ta)(hb:PE X b tb):PE X (.IfExp c a b pos) (tIf tA ta tb):=by
 intro UB s σ H Q I h
 refine wpAny_IfExp (aX (hc UB s σ H _ I h) λd s1 ⟨H1,I1,q1⟩=>?_)
 cases d with
 | true=>exact ha UB s1 σ H1 Q I1 q1
 | false=>exact hb UB s1 σ H1 Q I1 q1
end
def aZ (K:T2)(H:Hp)(a:Addr)(xs:List V):Prop:=
 Rd H a (.lst xs)∨
  ∃(o:Obj) (UD:Array Value) (n:Nat),K.lookup a=some o/\o.cls= .type "list"/\o.dict=none/\o.data= .seq UD n/\UD.size<=Ra/\Vals xs UD.toList
def dc (K:T2)(H:Hp)(a:Addr)(xs:List V):Prop:=
 Rd H a (.tup xs)∨
  ∃(o:Obj) (UD:Array Value) (n:Nat),K.lookup a=some o/\o.cls= .type "tuple"/\o.data= .seq UD n/\UD.size<=Ra/\Vals xs UD.toList
def Nd:Value->Option V
 | .none=>some .UQ
 | .bool b=>some (.bl b)
 | .int i _=>some (.int i)
 | .str x _=>some (.str x)
 | .bytes b _=>some (.Wx b)
 | .float b _=>some (.Yk b)
 | .ref a=>some (.ref a)
 | .type n=>some (.ty n)
 | _=>none
theorem RelV.abs {x:V}{u:Value}(r:RelV x u):Nd u=some x:=by
 cases x with
 | UQ=>cases r;rfl
 | bl _=>cases r;rfl
 | int _=>obtain⟨t,rfl⟩:=r;rfl
 | str _=>obtain⟨t,rfl⟩:=r;rfl
 | Wx _=>obtain⟨t,rfl⟩:=r;rfl
 | Yk _=>obtain⟨t,rfl⟩:=r;rfl
 | ref _=>cases r;rfl
 | ty _=>cases r;rfl
theorem RelV.inj {x y:V}{u:Value}(r:RelV x u)(q:RelV y u):x=y:=Option.some.inj (r.abs.symm.trans q.abs)
theorem Vals.inj:∀{xs ys:List V} {us:Oi},Vals xs us->Vals ys us->xs=ys
 | _,_,_,.nil,.nil=>rfl
 | _,_,_,.cons r t,.cons r' t'=>by rw[r.inj r',Vals.inj t t']
section
variable {X:Cx}{UB:Od}{σ:St}{H:Hp}{s:Q9}{a:Addr}{xs ys:List V}
theorem aZ.of {K:T2}(h:H a=some (.lst xs)):aZ K H a xs:=.inl (.inl h)
theorem dc.of {K:T2}(h:H a=some (.tup xs)):dc K H a xs:=.inl (.inl h)
theorem Inv.list (I:Inv X UB σ H s)(h:aZ X.K H a xs):∃UD:Oi,Vals xs UD/\PlainL s.heap a UD.toArray/\xs.length<=Ra:=by
 rcases h with h | ⟨o,UD,n,hk,hc,hd,hs,hz,r⟩
 ·obtain⟨z,UD,n,r,e⟩:=h.ok I.UH
  exact⟨UD,r,⟨_,n,e,rfl,rfl,rfl⟩,z⟩
 ·refine⟨UD.toList,r,⟨o,n,I.fe a o hk,hc,hd,by simpa using hs⟩,?_⟩
  have e:=r.length
  simp only[Om] at e
  omega
theorem Inv.tuple (I:Inv X UB σ H s)(h:dc X.K H a xs):∃UD:Oi,Vals xs UD/\IsTup s.heap a UD.toArray/\xs.length<=Ra:=by
 rcases h with h | ⟨o,UD,n,hk,hc,hs,hz,r⟩
 ·obtain⟨z,UD,r,p⟩:=h.ok I.UH
  exact⟨UD,r,p,z⟩
 ·refine⟨UD.toList,r,⟨o,I.fe a o hk,hc,n,by simpa using hs⟩,?_⟩
  have e:=r.length
  simp only[Om] at e
  omega
theorem Inv.ig (I:Inv X UB σ H s)(h:aZ X.K H a xs)(h':aZ X.K H a ys):xs=ys:=by
 obtain⟨UD,r,⟨o,n,e,_,_,d⟩,_⟩:=I.list h
 obtain⟨its',r',⟨o',n',e',_,_,d'⟩,_⟩:=I.list h'
 rw[e] at e';cases e'
 rw[d] at d'
 injection d' with d1 _
 have:UD=its':=by simpa using congrArg Array.toList d1
 subst this
 exact r.inj r'
theorem Inv.qX (I:Inv X UB σ H s)(h:dc X.K H a xs)(h':dc X.K H a ys):xs=ys:=by
 obtain⟨UD,r,⟨o,e,_,n,d⟩,_⟩:=I.tuple h
 obtain⟨its',r',⟨o',e',_,n',d'⟩,_⟩:=I.tuple h'
 rw[e] at e';cases e'
 rw[d] at d'
 injection d' with d1 _
 have:UD=its':=by simpa using congrArg Array.toList d1
 subst this
 exact r.inj r'
end
abbrev Cx.kx (X:Cx)(E:Value->Q9->Prop):Cx:={X with xe:=E}
abbrev Cx.ic (X:Cx):Cx:=X.kx λ_ _=>False
theorem Cx.Ok.kx {X:Cx}(ok:X.Ok)(E:Value->Q9->Prop):(X.kx E).Ok:=
 ⟨ok.mod,ok.kind,ok.glob,ok.blt,ok.above,ok.inj,ok.has,ok.Zy,ok.hd,ok.frames,ok.stk,ok.exf,ok.bs,ok.Xv,ok.WR,ok.WH,ok.VD,ok.Yj⟩
theorem Cx.Ok.iT {X:Cx}{E:Value->Q9->Prop}(ok:(X.kx E).Ok):X.Ok:=
 ⟨ok.mod,ok.kind,ok.glob,ok.blt,ok.above,ok.inj,ok.has,ok.Zy,ok.hd,ok.frames,ok.stk,ok.exf,ok.bs,ok.Xv,ok.WR,ok.WH,ok.VD,ok.Yj⟩
section
variable {X:Cx}{UB:Od}{σ:St}{H:Hp}{s:Q9}{E:Value->Q9->Prop}
theorem Inv.kx (I:Inv X UB σ H s)(E:Value->Q9->Prop):Inv (X.kx E) UB σ H s:=⟨I.ok.kx E,I.os,I.bare,I.base,I.loc,I.cell,I.free,I.Vk,I.pin,I.UH,I.len⟩
theorem Inv.iT (I:Inv (X.kx E) UB σ H s):Inv X UB σ H s:=⟨I.ok.iT,I.os,I.bare,I.base,I.loc,I.cell,I.free,I.Vk,I.pin,I.UH,I.len⟩
theorem SP.iT {D:Ends}{f:Flow}{s':Q9}(h:SP (X.kx E) UB D f s'):SP X UB D f s':=by
 cases f with
 | next=>obtain⟨σ',H',I,q⟩:=h;exact⟨σ',H',I.iT,q⟩
 | brk=>obtain⟨σ',H',I,q⟩:=h;exact⟨σ',H',I.iT,q⟩
 | cont=>obtain⟨σ',H',I,q⟩:=h;exact⟨σ',H',I.iT,q⟩
 | ret u=>obtain⟨v,σ',H',I,r,q⟩:=h;exact⟨v,σ',H',I.iT,r,q⟩
theorem jQ.ic {st:List Stmt}{t:TS}(h:jQ X.ic st t):jQ X st t:=λUB s σ H D I hw=>
 Ru (h UB s σ H D (I.kx _) hw) (λ_ _ q=>q.iT) λ_ _ z=>Ow z
end
section
variable {X:Cx}{st:Stmt}{rest:List Stmt}{t u:TS}{e:Expr}{te:TE}{pos:Pos}
def K3:TS:=λD σ H=>D.nx σ H
def Nw (t u:TS):TS:=λD σ H=>t {D with nx:=u D} σ H
theorem DS:jQ X [] K3:=λ_ _ σ H _ I h=>Sh ⟨σ,H,I,h⟩
theorem Ax (h1:PS X st t)(h2:jQ X rest u):jQ X (st::rest) (Nw t u):=by
 intro UB s σ H D I h
 refine wpAny_execs_cons (aX (h1 UB s σ H {D with nx:=u D} I h) λf s1 q=>?_)
 cases f with
 | next=>
   obtain⟨σ',H',I',q⟩:=q
   exact h2 UB s1 σ' H' D I' q
 | ret v=>exact q
 | brk=>exact q
 | cont=>exact q
theorem Ey (h1:PS X st t):jQ X [st] t:=by
 intro UB s σ H D I h
 refine wpAny_execs_cons (aX (h1 UB s σ H D I h) λf s1 q=>?_)
 cases f with
 | next=>exact Sh q
 | ret v=>exact q
 | brk=>exact q
 | cont=>exact q
theorem Inv.quiet {UB:Od}{σ:St}{H:Hp}{s:Q9}(I:Inv X UB σ H s):interactive X.env=false:=by simp[interactive,I.ok.kind]
def KG (te:TE):TS:=λD σ H=>te σ H λ_ H1=>D.nx σ H1
theorem gM (he:PE X e te)(hs:Rl e none pos.line X.env=pure false:=by rfl):PS X (.Expr e pos) (KG te):=by
 intro UB s σ H D I h
 exact wpAny_Expr_any (aX (he UB s σ H _ I h) λv s1 ⟨x,H1,I1,r1,q1⟩=>⟨σ,H1,I1,q1⟩) I.quiet hs
def Ni (te:TE):TS:=λD σ H=>te σ H D.rt
theorem iW (he:PE X e te):PS X (.Return (some e) pos) (Ni te):=by
 intro UB s σ H D I h
 exact wpAny_Return_some (aX (he UB s σ H _ I h) λv s1 ⟨x,H1,I1,r1,q1⟩=>⟨x,σ,H1,I1,r1,q1⟩)
def Nr (c:TT)(t u:TS):TS:=λD σ H=>c σ H λb H1=>if b=true then t D σ H1 else u D σ H1
theorem Lm {c:Expr}{a b:List Stmt}{tc:TT}(hc:PT X c tc)(ha:jQ X a t)(hb:jQ X b u):PS X (.If c a b pos) (Nr tc t u):=by
 intro UB s σ H D I h
 refine wpAny_If (aX (hc UB s σ H _ I h) λd s1 ⟨H1,I1,q1⟩=>?_)
 cases d with
 | true=>exact ha UB s1 σ H1 D I1 q1
 | false=>exact hb UB s1 σ H1 D I1 q1
end
abbrev TG:=V->St->Hp->(St->Hp->Prop)->Prop
abbrev uG:=List V->St->Hp->(St->Hp->Prop)->Prop
def PG (X:Cx)(target:Expr)(t:TG):Prop:=
 ∀(UB:Od) (s:Q9) (σ:St) (H:Hp) (v:V) (u:Value) (Q:St->Hp->Prop),Inv X UB σ H s->RelV v u->t v σ H Q->
  wpAny (model X.prog X.w) X.A (RU target X.env u) (λ_ s'=>∃σ' H',Inv X UB σ' H' s'/\Q σ' H') X.xe s
def Ck (X:Cx)(ts:Oj)(t:uG):Prop:=
 ∀(UB:Od) (s:Q9) (σ:St) (H:Hp) (vs:List V) (us:Oi) (Q:St->Hp->Prop),Inv X UB σ H s->Vals vs us->t vs σ H Q->
  wpAny (model X.prog X.w) X.A (assignInOrder ((RP ts X.env).map (·.2)) us) (λ_ s'=>∃σ' H',Inv X UB σ' H' s'/\Q σ' H') X.xe s
abbrev B0:=V->V->V->Hp->(Hp->Prop)->Prop
def JO (X:Cx)(t:B0):Prop:=
 ∀(UB:Od) (s:Q9) (σ:St) (H:Hp) (o i v:V) (ov iv u:Value) (Q:Hp->Prop),Inv X UB σ H s->RelV o ov->RelV i iv->RelV v u->t o i v H Q->
  wpAny (model X.prog X.w) X.A (setItem ov iv u) (λ_ s'=>∃H',Inv X UB σ H' s'/\Q H') X.xe s
abbrev Cq:=V->V->Hp->VK->Prop
def MP (X:Cx)(op:Operator)(t:Cq):Prop:=
 ∀(UB:Od) (s:Q9) (σ:St) (H:Hp) (x y:V) (v u:Value) (Q:VK),Inv X UB σ H s->RelV x v->RelV y u->t x y H Q->
  wpAny (model X.prog X.w) X.A (inplaceOp op v u) (EP X UB σ Q) X.xe s
section
variable {X:Cx}{pos:Pos}
variable {e:Expr}{i:Nat}{x:Str}{te:TE}
def w9 (i:Nat):TG:=λv σ H Q=>Q (σ.set i (some v)) H
theorem gH (hN:X.N.Nodup)(hi:X.N[i]?=some x)(hx:Loc X.env.scope x)(hf:X.fn x=true∨X.env.scope.names.lookup x=some .local:=by first | exact .inl rfl | exact .inr rfl | assumption):PG X (.Name x pos) (w9 i):=by
 intro UB s σ H v u Q I r h
 exact wpAny_assign_Name (nW I hN hi hx r (λs' I'=>⟨_,H,I',h⟩) hf)
def Nv:uG:=λvs σ H Q=>vs=[]/\Q σ H
def Lw (t:TG)(u:uG):uG:=λvs σ H Q=>∃v r,vs=v::r/\t v σ H λσ' H'=>u r σ' H' Q
theorem pO:Ck X [] Nv:=by
 intro UB s σ H vs us Q I r h
 obtain⟨e,h⟩:=h
 subst e
 cases r
 exact assignInOrder_nil ⟨σ,H,I,h⟩
theorem gC {es:Oj}{t:TG}{u:uG}(h1:PG X e t)(h2:Ck X es u)
 (hs:(RP (e::es) X.env).map (·.2)=RU e X.env::(RP es X.env).map (·.2):=by rfl):Ck X (e::es) (Lw t u):=by
 intro UB s σ H vs us Q I r h
 obtain⟨v,vr,e1,h⟩:=h
 subst e1
 cases r with
 | cons r rr=>
   rw[hs]
   refine assignInOrder_cons (aX (h1 UB s σ H _ _ _ I r h) λ_ s1 ⟨σ1,H1,I1,q1⟩=>?_)
   exact h2 UB s1 σ1 H1 _ _ Q I1 rr q1
def Nq (K:T2)(n:Nat)(t:uG):TG:=λv σ H Q=>∃a xs,v= .ref a/\dc K H a xs/\xs.length=n/\t xs σ H Q
theorem uU {es:Oj}{k:Nat}{t:uG}{n:Nat}(hc:X.calm=true)(h:Ck X es t)
 (hn:(RP es X.env).length=n:=by rfl) (hst:(RP es X.env).findIdx? (·.1)=none:=by rfl):PG X (.Tuple es k pos) (Nq X.K n t):=by
 intro UB s σ H v u Q I r hw
 obtain⟨a,xs,e1,hq,hl,hw⟩:=hw
 subst e1
 cases r
 obtain⟨UD,rv,ht,hz⟩:=I.tuple hq
 refine assign_Tuple_tuple (I.ok.hd hc) ht (by simp[hn,← hl,rv.length]) hst λh' hx=>?_
 have I1:Inv X UB σ H {s with heap:=h'}:=I.kept (t':=s.toks) λb o e=>hx b o (QH (Tj e)) e
 exact h UB _ σ H xs _ Q I1 (by simpa using rv) hw
def Nx (to ti:TE)(t:B0):TG:=λv σ H Q=>to σ H λo H1=>ti σ H1 λi H2=>t o i v H2 λH3=>Q σ H3
theorem zi {o i:Expr}{to ti:TE}{t:B0}(ho:PE X o to)(hi:PE X i ti)(hs:JO X t)
 (ha:∀v,RU (.Subscript o i pos) X.env v=(do
  let ov ← RM [v] (eval o X.env)
  let iv ← RM [v,ov] (eval i X.env)
  Sg pos
  RM [v,ov,iv] (setItem ov iv v)
  release [v,ov,iv] []):=by intro _;rfl):PG X (.Subscript o i pos) (Nx to ti t):=by
 intro UB s σ H v u Q I r h
 rw[ha]
 refine Rb (R6 (aX (ho UB s σ H _ I h) λov s1 ⟨x,H1,I1,r1,q1⟩=>?_))
 refine Rb (R6 (aX (hi UB s1 σ H1 _ I1 q1) λiv s2 ⟨y,H2,I2,r2,q2⟩=>?_))
 refine Rb (SQ (Rb (R6 (aX (hs UB s2 σ H2 x y v ov iv u _ I2 r1 r2 r q2) λ_ s3 ⟨H3,I3,q3⟩=>?_))))
 exact wpAny_release ⟨σ,H3,I3,q3⟩
def BB (te:TE)(g:TG):TS:=λD σ H=>te σ H λx H1=>g x σ H1 D.nx
theorem o9 {tg:Expr}{g:TG}(he:PE X e te)(hg:PG X tg g)(hs:Sd [tg] e pos.line X.env=pure false:=by rfl)(hw:Se [tg] e X.env=pure none:=by rfl)
 (h1:(RP [tg] X.env).map (·.2)=[RU tg X.env]:=by rfl):PS X (.Assign [tg] e pos) (BB te g):=by
 intro UB s σ H D I h
 refine wpAny_Assign_stores (aX (he UB s σ H _ I h) λv s1 ⟨x,H1,I1,r1,q1⟩=>?_) hs hw
 rw[h1]
 exact aX (hg UB s1 σ H1 x v _ I1 r1 q1) λ_ s2 q=>q
theorem jK {pos':Pos}(hN:X.N.Nodup)(hi:X.N[i]?=some x)(hx:Loc X.env.scope x)(he:PE X e te)(hs:Rl e (some (.Name x pos')) pos.line X.env=pure false:=by rfl)(hf:X.fn x=true∨X.env.scope.names.lookup x=some .local:=by first | exact .inl rfl | exact .inr rfl | assumption):
 PS X (.Assign [.Name x pos'] e pos) (BB te (w9 i)):=by
 intro UB s σ H D I h
 refine wpAny_Assign_Name (aX (he UB s σ H _ I h) λv s1 ⟨y,H1,I1,r1,q1⟩=>?_) hs
 exact nW I1 hN hi hx r1 (λs2 I2=>⟨_,H1,I2,q1⟩) hf
def Nk (i:Nat)(te:TE)(ti:Cq):TS:=λD σ H=>∃x,σ[i]?=some (some x)/\te σ H λy H1=>ti x y H1 λz H2=>D.nx (σ.set i (some z)) H2
theorem FL {op:Operator}{ti:Cq}{pos':Pos}(hN:X.N.Nodup)(hi:X.N[i]?=some x)(hx:Loc X.env.scope x)(he:PE X e te)(ho:MP X op ti)(hf:X.fn x=true∨X.env.scope.names.lookup x=some .local:=by first | exact .inl rfl | exact .inr rfl | assumption):
 PS X (.AugAssign (.Name x pos') op e pos) (Nk i te ti):=by
 intro UB s σ H D I h
 obtain⟨v,e1,h⟩:=h
 obtain⟨m,hn,hl⟩:=I.loc
 have vis:cN X.env.scope x:=by rcases hx with k | k;exact .inl k;exact .inr (.inl k)
 obtain⟨u,r,l⟩:=hl i x v hi e1 vis
 refine wpAny_AugAssign_Name ?_
 have go:wpAny (model X.prog X.w) X.A (eval e X.env) (λw s₂=>wpAny (model X.prog X.w) X.A (inplaceOp op u w) (λr s₃=>wpAny (model X.prog X.w) X.A (storeName X.env x r) (λ_=>SP X UB D .next) X.xe s₃) X.xe s₂) X.xe s:=by
  refine aX (he UB s σ H _ I h) λw s1 ⟨y,H1,I1,r1,q1⟩=>?_
  refine aX (ho UB s1 σ H1 v y u w _ I1 r r1 q1) λz s2 ⟨zv,H2,I2,r2,q2⟩=>?_
  exact nW I2 hN hi hx r2 (λs3 I3=>⟨_,H2,I3,q2⟩) hf
 rcases l with⟨hk,hm⟩ | ⟨hk,c,hc,VW⟩
 ·exact wpAny_loadName_local I.ok.kind hk hn hm go
 ·rcases hk with hk | hk
  ·exact wpAny_loadName_cell I.ok.kind hk hc VW go
  ·rcases hx with k | k
   ·have:X.env.scope.names.lookup x=some .free:=hk
    rw[k] at this;cases this
   ·have:X.env.scope.names.lookup x=some .free:=hk
    rw[k] at this;cases this
def ipI (f:Int->Int->Int):Cq:=λx y H Q=>∃i j,x= .int i/\y= .int j/\Q (.int (f i j)) H
theorem JK:MP X .Add (ipI λi j=>i+j):=by
 intro UB s σ H x y v u Q I r1 r2 h
 obtain⟨i,j,e1,e2,q⟩:=h
 subst e1;subst e2
 obtain⟨t,rfl⟩:=r1
 obtain⟨t',rfl⟩:=r2
 exact iadd_int ⟨.int _,H,I.tok _,⟨_,rfl⟩,q⟩
end
section
variable {X:Cx}{pos:Pos}
def G7 (c:TT)(tb:TS):TS:=λD σ H=>∃W:Nat->St->Hp->Prop,(∃m,W m σ H)/\∀m σ H,W m σ H->
 c σ H λb H1=>if b=true then∃N:St->Hp->Prop,(∀σ' H',N σ' H'->∃m',m'<m/\W m' σ' H')/\tb {D with nx:=N,ct:=N,bk:=D.nx} σ H1 else D.nx σ H1
theorem A8 {c:Expr}{body:List Stmt}{tc:TT}{tb:TS}(hp:PassesOwn (model X.prog X.w) X.A X.env X.xe)(hc:PT X c tc)(hb:jQ X body tb):PS X (.While c body [] pos) (G7 tc tb):=by
 intro UB s σ H D I h
 obtain⟨W,⟨m0,w0⟩,turn⟩:=h
 refine wpAny_While (codeAny_whileLoop (λn s'=>∃σ' H',Inv X UB σ' H' s'/\W n σ' H') ?_ m0 ⟨σ,H,I,w0⟩)
 rintro n s1 ⟨σ1,H1,I1,w1⟩
 refine RN hp (aX (hc UB s1 σ1 H1 _ I1 (turn n σ1 H1 w1)) λb s2 ⟨H2,I2,q2⟩=>?_)
 cases b with
 | true=>
   obtain⟨N,hN,q2⟩:=q2
   rw[Ut rfl]
   refine RN hp (aX (hb UB s2 σ1 H2 _ I2 q2) λf s3 q3=>?_)
   cases f with
   | next=>
     obtain⟨σ3,H3,I3,n3⟩:=q3
     obtain⟨m',hm,w3⟩:=hN σ3 H3 n3
     exact⟨m',hm,σ3,H3,I3,w3⟩
   | cont=>
     obtain⟨σ3,H3,I3,n3⟩:=q3
     obtain⟨m',hm,w3⟩:=hN σ3 H3 n3
     exact⟨m',hm,σ3,H3,I3,w3⟩
   | brk=>exact q3
   | ret v=>exact q3
 | false=>
   rw[Us Oo]
   exact Sh ⟨σ1,H2,I2,q2⟩
end
section
variable {tg:Expr}{P:Rh}{w:World}{K:T2}
structure It where
 go:Nat->Hp->Prop
 Yn:Nat->Hp->V->Hp->Prop
 stop:Nat->Hp->Prop
def jE (X:Cx)(UB:Od)(H:Hp)(b:Addr):Prop:=
 H b=none/\b≠X.env.locals/\b∉X.fs/\(b∈X.ex∨X.s₀.heap.objs.size<=b)/\(∀x c,X.env.cells.lookup x=some c->c≠b)/\∀p∈X.pn++UB,p.1≠b
theorem Inv.gO {X:Cx}{UB:Od}{σ:St}{H H':Hp}{s:Q9}{b:Addr}(I:Inv X UB σ H s)(hb:s.heap.objs.size<=b)(hn:H' b=none):jE X UB H' b:=by
 refine⟨hn,QP (QG I.lt hb),I.NN hb,.inr (QD I.sz hb),λx c e z=>?_,λp hp z=>?_⟩
 ·obtain⟨v,q⟩:=I.cell x c e
  exact Ur (QG q.lt (by rw[z];exact hb)) (QI _)
 ·exact Ur (QG (Tj (I.pin p hp).1) (by rw[z];exact hb)) (QI _)
structure Turn (P:Rh) (w:World) (K:T2) (tg:Expr) (J:It) (fp:Oh) (it:Addr) (tn:Nat->Heap->Prop):Prop where
 mem:it∈fp
 obj:∀i h,tn i h->∀b∈fp,∃o,h.get? b=some o/\∀v,o.data≠ .cell v
 keep:∀i h h',tn i h->(∀b∈fp,∀o,h.get? b=some o->h'.get? b=some o)->tn i h'
 item:∀(X:Cx),X.prog=P->X.w=w->X.K=K->X.calm=true->∀(i:Nat) (UB:Od) (s:Q9) (σ:St) (H:Hp) (E:Value->Q9->Prop),Inv X UB σ H s->(∀b∈fp,jE X UB H b)->tn i s.heap->J.go i H->
  wpAny (model P w) X.A (SG (.ref it)) (λr s1=>∃u,r=some u/\
   wpAny (model P w) X.A (Si tg (.ref it) u) (λ_ s2=>∃x H',Inv X UB σ H' s2/\RelV x u/\J.Yn i H x H'/\tn (i+1) s2.heap/\∀b∈fp,H' b=none) E s1) E s
 done:∀(X:Cx),X.prog=P->X.w=w->X.K=K->X.calm=true->∀(i:Nat) (UB:Od) (s:Q9) (σ:St) (H:Hp) (E:Value->Q9->Prop),Inv X UB σ H s->(∀b∈fp,jE X UB H b)->tn i s.heap->J.stop i H->
  wpAny (model P w) X.A (SG (.ref it)) (λr s1=>r=none/\Inv X UB σ H s1) E s
 self:∀(A:Ri) (i:Nat) (s:Q9) (Q:Value->Q9->Prop) (E:Value->Q9->Prop),tn i s.heap->Q (.ref it) s->wpAny (model P w) A (pyIter (.ref it)) Q E s
abbrev TI:=St->Hp->(It->Hp->Prop)->Prop
def GH (X:Cx)(UB:Od)(σ:St)(tg:Expr)(R:It->Hp->Prop)(itv:Value)(s2:Q9):Prop:=
 ∃(it:Addr) (fp:Oh) (tn:Nat->Heap->Prop) (J:It) (H':Hp),itv= .ref it/\Inv X UB σ H' s2/\Turn X.prog X.w X.K tg J fp it tn/\tn 0 s2.heap/\(∀b∈fp,jE X UB H' b)/\R J H'
def PI (X:Cx)(tg iter:Expr)(wi:TI):Prop:=
 ∀(UB:Od) (s:Q9) (σ:St) (H:Hp) (R:It->Hp->Prop),Inv X UB σ H s->wi σ H R->
  wpAny (model X.prog X.w) X.A (eval iter X.env) (λv s1=>wpAny (model X.prog X.w) X.A (pyIter v) (GH X UB σ tg R) X.xe s1) X.xe s
theorem mR {M:Model}{A:Ri}{E:Value->Q9->Prop}{s:Q9}{it:Addr}{u:Value}{o:Obj}{n:String}{vs:Array Value}{Q:Unit->Q9->Prop}(ho:s.heap.get? it=some o)(hc:o.cls= .type n)(hd:o.data= .fields vs)
 (hn:["enumerate","zip","dict_itemiterator","dict_reverseitemiterator","odict_iterator","itertools.zip_longest","itertools.pairwise"].contains n=false) (hQ:Q () s):wpAny M A (Si tg (.ref it) u) Q E s:=by
 unfold Si
 cases tg<;>first
  | exact Rg hQ
  | (cases u<;>first
   | exact Rg hQ
   | (refine Rb (wpAny_load ho ?_)
      rw[hc,hd]
      show wpAny M A (if(["enumerate","zip","dict_itemiterator","dict_reverseitemiterator","odict_iterator","itertools.zip_longest","itertools.pairwise"].contains n&&vs[0]?==some (SH _))=true then _ else _) Q E s
      rw[Us (by intro h;rw[hn,Bool.false_and] at h;cases h)]
      exact Rg hQ))
def MR (K:T2)(a:Addr):It:=
 ⟨λi H=>∃xs x,aZ K H a xs/\xs[i]?=some x,λi H x H'=>H'=H/\∀xs,aZ K H a xs->xs[i]?=some x,λi H=>∃xs,aZ K H a xs/\xs.length<=i⟩
def L4 (K:T2)(a:Addr):It:=
 ⟨λi H=>∃xs x,dc K H a xs/\xs[i]?=some x,λi H x H'=>H'=H/\∀xs,dc K H a xs->xs[i]?=some x,λi H=>∃xs,dc K H a xs/\xs.length<=i⟩
def x6 (lo:Int)(n:Nat):It:=⟨λi _=>i<n,λi H x H'=>H'=H/\x= .int (lo+i),λi _=>n<=i⟩
theorem y6 (a it:Addr):Turn P w K tg (MR K a) [it] it (λi h=>h.IsListIter it a i) where
 mem:=by simp
 obj:=λi h st b hb=>by
  have e:b=it:=by simpa using hb
  subst e
  obtain⟨o,e,c,d⟩:=st
  exact⟨o,e,λv z=>by rw[d] at z;cases z⟩
 keep:=λi h h' st k=>st.at λo e=>k it (by simp) o e
 item:=by
  intro X hP hw hK hc i UB s σ H E I hf st hg
  subst hP hw hK
  obtain⟨xs,x,hq,hx⟩:=hg
  obtain⟨UD,rv,p,hz⟩:=I.list hq
  obtain⟨u,hu,ru⟩:=rv.get hx
  obtain⟨f0,f1,f2,f3,f4,f5⟩:=hf it (by simp)
  refine wpAny_pyNext_list_item st p.isList (x:=u) (by simpa using hu) λh' V5 sb=>?_
  have I1:Inv X UB σ H {s with heap:=h'}:=I.turned (t':=s.toks) (λb o hb e=>(sb.2 b hb).trans e) f0 f1 f3 f4 f5
  obtain⟨o,e,c,d⟩:=id V5
  exact⟨u,rfl,mR (s:={s with heap:=h'}) e c d (by decide) ⟨x,H,I1,ru,⟨rfl,λys hy=>by rw[I.ig hy hq];exact hx⟩,V5,λb hb=>(hf b hb).1⟩⟩
 done:=by
  intro X hP hw hK hc i UB s σ H E I hf st hg
  subst hP hw hK
  obtain⟨xs,hq,hx⟩:=hg
  obtain⟨UD,rv,p,hz⟩:=I.list hq
  obtain⟨f0,f1,f2,f3,f4,f5⟩:=hf it (by simp)
  have hl:=rv.length
  exact wpAny_pyNext_list_end (I.ok.hd hc) st p.isList (by simp;omega) λh' eb=>⟨rfl,I.turned (t':=s.toks) (λb o hb e=>eb b o hb e) f0 f1 f3 f4 f5⟩
 self:=λ_ _ _ _ _ st h=>wpAny_pyIter_listiter st h
theorem xm (a it:Addr):Turn P w K tg (L4 K a) [it] it (λi h=>h.IsTupleIter it a i) where
 mem:=by simp
 obj:=λi h st b hb=>by
  have e:b=it:=by simpa using hb
  subst e
  obtain⟨o,e,c,d⟩:=st
  exact⟨o,e,λv z=>by rw[d] at z;cases z⟩
 keep:=λi h h' st k=>st.at λo e=>k it (by simp) o e
 item:=by
  intro X hP hw hK hc i UB s σ H E I hf st hg
  subst hP hw hK
  obtain⟨xs,x,hq,hx⟩:=hg
  obtain⟨UD,rv,p,hz⟩:=I.tuple hq
  obtain⟨u,hu,ru⟩:=rv.get hx
  obtain⟨f0,f1,f2,f3,f4,f5⟩:=hf it (by simp)
  refine wpAny_pyNext_tuple_item st (show s.heap.IsTuple a UD.toArray from p) (x:=u) (by simpa using hu) λh' V5 sb=>?_
  have I1:Inv X UB σ H {s with heap:=h'}:=I.turned (t':=s.toks) (λb o hb e=>(sb.2 b hb).trans e) f0 f1 f3 f4 f5
  obtain⟨o,e,c,d⟩:=id V5
  exact⟨u,rfl,mR (s:={s with heap:=h'}) e c d (by decide) ⟨x,H,I1,ru,⟨rfl,λys hy=>by rw[I.qX hy hq];exact hx⟩,V5,λb hb=>(hf b hb).1⟩⟩
 done:=by
  intro X hP hw hK hc i UB s σ H E I hf st hg
  subst hP hw hK
  obtain⟨xs,hq,hx⟩:=hg
  obtain⟨UD,rv,p,hz⟩:=I.tuple hq
  obtain⟨f0,f1,f2,f3,f4,f5⟩:=hf it (by simp)
  have hl:=rv.length
  exact wpAny_pyNext_tuple_end (I.ok.hd hc) st (show s.heap.IsTuple a UD.toArray from p) (by simp;omega) λh' eb=>⟨rfl,I.turned (t':=s.toks) (λb o hb e=>eb b o hb e) f0 f1 f3 f4 f5⟩
 self:=λ_ _ _ _ _ st h=>wpAny_pyIter_tupleiter st h
theorem xa (it:Addr)(lo:Int)(n:Nat):Turn P w K tg (x6 lo n) [it] it (λi h=>SD h it (lo+(i:Nat)*1) ((n:Int)-(i:Nat)) 1) where
 mem:=by simp
 obj:=λi h st b hb=>by
  have e:b=it:=by simpa using hb
  subst e
  exact⟨_,st,λv z=>by
   have z':Data.fields _=Data.cell v:=z
   cases z'⟩
 keep:=λi h h' st k=>k it (by simp) _ st
 item:=by
  intro X hP hw hK hc i UB s σ H E I hf st hg
  subst hP hw hK
  obtain⟨f0,f1,f2,f3,f4,f5⟩:=hf it (by simp)
  have W:=Walks.range (prog:=X.prog) (w:=X.w) (I.ok.hd hc) it lo 1 n
  refine W.item i s _ _ hg st λv h' tk hv V5 kk=>?_
  obtain⟨t,rfl⟩:=hv
  have I1:Inv X UB σ H {s with heap:=h',toks:=tk}:=I.turned (λb o hb e=>kk b o (by simpa using hb) e) f0 f1 f3 f4 f5
  refine⟨_,rfl,mR (s:={s with heap:=h',toks:=tk}) (n:="range_iterator") V5 rfl rfl (by decide) ⟨.int (lo+i),H,I1,⟨t,?_⟩,⟨rfl,rfl⟩,V5,λb hb=>(hf b hb).1⟩⟩
  rw[Int.mul_one]
 done:=by
  intro X hP hw hK hc i UB s σ H E I hf st hg
  subst hP hw hK
  obtain⟨f0,f1,f2,f3,f4,f5⟩:=hf it (by simp)
  exact wpAny_pyNext_range_end (I.ok.hd hc) st (by have:n<=i:=hg;omega) λh' eb=>⟨rfl,I.turned (t':=s.toks) (λb o hb e=>eb b o hb e) f0 f1 f3 f4 f5⟩
 self:=λ_ _ _ _ _ st h=>wpAny_pyIter_rangeiter st h
end
section
variable {X:Cx}{tg:Expr}
variable {UB:Od}{σ:St}{H:Hp}{s:Q9}{pos:Pos}
def Lf (K:T2)(tl:TE):TI:=λσ H R=>tl σ H λx H1=>∃a,x= .ref a/\(∃xs,aZ K H1 a xs)/\R (MR K a) H1
def Nm (K:T2)(tl:TE):TI:=λσ H R=>tl σ H λx H1=>∃a,x= .ref a/\(∃xs,dc K H1 a xs)/\R (L4 K a) H1
theorem Fg {l:Expr}{tl:TE}(hl:PE X l tl):PI X tg l (Lf X.K tl):=by
 intro UB s σ H R I h
 refine aX (hl UB s σ H _ I h) λv s1 ⟨x,H1,I1,r1,q1⟩=>?_
 obtain⟨a,e,⟨xs,hq⟩,q⟩:=q1
 subst e
 cases r1
 obtain⟨UD,rv,p,hz⟩:=I1.list hq
 refine Sb p.isList ?_
 refine⟨s1.heap.objs.size,[s1.heap.objs.size],_,_,H1,rfl,I1.kept (t':=s1.toks) λb o e=>Ti _ e,y6 a _,⟨_,Tn _ rfl,rfl,rfl⟩,λb hb=>?_,q⟩
 have e:b=s1.heap.objs.size:=by simpa using hb
 subst e
 exact I1.gO (QC _) (I1.UH.fresh (QC _))
theorem zk {l:Expr}{tl:TE}(hl:PE X l tl):PI X tg l (Nm X.K tl):=by
 intro UB s σ H R I h
 refine aX (hl UB s σ H _ I h) λv s1 ⟨x,H1,I1,r1,q1⟩=>?_
 obtain⟨a,e,⟨xs,hq⟩,q⟩:=q1
 subst e
 cases r1
 obtain⟨UD,rv,p,hz⟩:=I1.tuple hq
 refine wpAny_pyIter_tuple (show s1.heap.IsTuple a UD.toArray from p) ?_
 refine⟨s1.heap.objs.size,[s1.heap.objs.size],_,_,H1,rfl,I1.kept (t':=s1.toks) λb o e=>Ti _ e,xm a _,⟨_,Tn _ rfl,rfl,rfl⟩,λb hb=>?_,q⟩
 have e:b=s1.heap.objs.size:=by simpa using hb
 subst e
 exact I1.gO (QC _) (I1.UH.fresh (QC _))
theorem uk {R:It->Hp->Prop}{E:Value->Q9->Prop}{lo hi:Int}{t u v:Tok}{tk:Nat}(I:Inv X UB σ H s)(h1: -(2 ^ 62)<=lo)(h2:lo<2 ^ 62)(h3: -(2 ^ 62)<=hi)(h4:hi<2 ^ 62)
 (q:R (x6 lo (hi-lo).toNat) H):wpAny (model X.prog X.w) X.A (pyIter (.ref s.heap.objs.size)) (GH X UB σ tg R) E {s with heap:=s.heap.push {cls:=.type "range",data:=.fields #[.int lo t,.int hi u,.int 1 v]},toks:=tk}:=by
 refine wpAny_pyIter_range (IsRange.new ..) (small_one h1 h2 h3 h4) ?_
 have I1:Inv X UB σ H {s with heap:=s.heap.push {cls:=.type "range",data:=.fields #[.int lo t,.int hi u,.int 1 v]},toks:=tk}:=I.kept λb o e=>Ti _ e
 refine⟨(s.heap.push {cls:=.type "range",data:=.fields #[.int lo t,.int hi u,.int 1 v]}).objs.size,[(s.heap.push {cls:=.type "range",data:=.fields #[.int lo t,.int hi u,.int 1 v]}).objs.size],_,_,H,rfl,
  I1.kept (t':=tk) λb o e=>Ti _ e,xa _ lo (hi-lo).toNat,?_,λb hb=>?_,q⟩
 ·have e1:lo+((0:Nat):Int)*1=lo:=by simp
  have e2:(((hi-lo).toNat:Nat):Int)-((0:Nat):Int)=SW lo hi 1:=by rw[rangeSize_one];split<;>omega
  show SD _ _ (lo+((0:Nat):Int)*1) ((((hi-lo).toNat:Nat):Int)-((0:Nat):Int)) 1
  rw[e1,e2]
  exact Tn _ rfl
 ·have e:b=(s.heap.push {cls:=.type "range",data:=.fields #[.int lo t,.int hi u,.int 1 v]}).objs.size:=by simpa using hb
  subst e
  exact I1.gO (QC _) (I1.UH.fresh (QC _))
def Kq (ta:TA):TI:=λσ H R=>ta σ H λvs H1=>∃j:Int,vs=[.int j]/\ -(2 ^ 62)<=j/\j<2 ^ 62/\R (x6 0 j.toNat) H1
def J1 (ta:TA):TI:=λσ H R=>ta σ H λvs H1=>∃i j:Int,vs=[.int i,.int j]/\(-(2 ^ 62)<=i/\i<2 ^ 62/\ -(2 ^ 62)<=j/\j<2 ^ 62)/\R (x6 i (j-i).toNat) H1
theorem yX {a:Expr}{ta:TA}{p:Pos}(hg:Gl X "range")(hm:X.mg "range"=none)(ha:PA X [a] ta)(hs:Rc [a] X.env=[(false,eval a X.env)]:=by rfl):PI X tg (.Call (.Name "range" p) [a] [] pos) (Kq ta):=by
 intro UB s σ H R I h
 refine Call_ (f9 I hg hm Q7 (Q2 (aX (ha pos UB s σ H _ I h) λus s1 ⟨vs,H1,I1,r1,q1⟩=>?_) hs rfl))
 obtain⟨j,e,q1,q2,q⟩:=q1
 subst e
 cases r1 with
 | cons r rr=>
   cases rr
   obtain⟨t,rfl⟩:=r
   exact call_range_1 (uk I1 (by omega) (by omega) q1 q2 (by simpa using q))
theorem yx {a b:Expr}{ta:TA}{p:Pos}(hg:Gl X "range")(hm:X.mg "range"=none)(ha:PA X [a,b] ta)(hs:Rc [a,b] X.env=[(false,eval a X.env),(false,eval b X.env)]:=by rfl)(Vf:Rc [b] X.env=[(false,eval b X.env)]:=by rfl):
 PI X tg (.Call (.Name "range" p) [a,b] [] pos) (J1 ta):=by
 intro UB s σ H R I h
 refine Call_ (f9 I hg hm Q7 (Q2 (aX (ha pos UB s σ H _ I h) λus s1 ⟨vs,H1,I1,r1,q1⟩=>?_) (by rw[hs,Vf]) (by rw[Vf];rfl)))
 obtain⟨i,j,e,⟨q1,q2,q3,q4⟩,q⟩:=q1
 subst e
 cases r1 with
 | cons r rr=>
   cases rr with
   | cons r' rr=>
     cases rr
     obtain⟨t,rfl⟩:=r
     obtain⟨t',rfl⟩:=r'
     exact call_range_2 (uk I1 q1 q2 q3 q4 q)
def NG (wi:TI)(g:TG)(tb:TS):TS:=λD σ H=>wi σ H λJ H1=>∃W:Nat->Nat->St->Hp->Prop,(∃m,W 0 m σ H1)/\∀i m σ H,W i m σ H->
 (J.stop i H/\D.nx σ H)∨(J.go i H/\∃N:St->Hp->Prop,(∀σ' H',N σ' H'->∃m',m'<m/\W (i+1) m' σ' H')/\∀x H',J.Yn i H x H'->g x σ H' λσ2 H2=>tb {D with nx:=N,ct:=N,bk:=D.nx} σ2 H2)
def kB (fp:Oh)(h:Heap):Od:=fp.filterMap λb=>(h.get? b).map λo=>(b,o)
theorem jj {fp:Oh}{h:Heap}{b:Addr}{o:Obj}(hb:b∈fp)(e:h.get? b=some o):(b,o)∈kB fp h:=Qm.mpr ⟨b,hb,by rw[e];rfl⟩
theorem zx {fp:Oh}{h:Heap}{p:Addr×Obj}(hp:p∈kB fp h):p.1∈fp/\h.get? p.1=some p.2:=by
 obtain⟨b,hb,e⟩:=Qm.mp hp
 cases q:h.get? b with
 | none=>rw[q] at e;cases e
 | some o=>
   rw[q] at e
   have e':(b,o)=p:=Option.some.inj e
   subst e'
   exact⟨hb,q⟩
theorem Inv.pinned {fp:Oh}(I:Inv X UB σ H s)(hf:∀b∈fp,jE X UB H b)(ho:∀b∈fp,∃o,s.heap.get? b=some o/\∀v,o.data≠ .cell v):Inv X (UB++kB fp s.heap) σ H s:=
 I.jq λp hp=>(OS.mp hp).elim (λz=>I.pin p (OQ _ z)) λz=>by
   obtain⟨hb,e⟩:=zx z
   obtain⟨f0,f1,f2,_⟩:=hf p.1 hb
   obtain⟨o,e',d⟩:=ho p.1 hb
   rw[e] at e';cases e'
   exact⟨e,f0,f1,f2,d⟩
theorem Inv.nQ {pl:Od}(I:Inv X (UB++pl) σ H s):Inv X UB σ H s:=I.jq λp hp=>I.pin p (OQ _ (OU _ hp))
theorem G8 {iter:Expr}{body:List Stmt}{wi:TI}{g:TG}{tb:TS}(hp:PassesOwn (model X.prog X.w) X.A X.env X.xe)(hc:X.calm=true)(hi:PI X tg iter wi)(hg:PG X tg g)(hb:jQ X body tb)
 (hs:∀x,Rz iter X.env x=pure x:=by intro _;rfl):PS X (.For tg iter body [] pos) (NG wi g tb):=by
 intro UB s σ H D I h
 refine wpAny_For (aX (hi UB s σ H _ I h) λv s1 h1=>aX h1 λitv s2 h2=>?_) hs
 obtain⟨it,fp,tn,J,H2,e,I2,T,Xe,f2,W,⟨m0,w0⟩,turn⟩:=h2
 subst e
 -- what stays true of YE XZ objects through YE loop
 have XT:∀{H':Hp},(∀b∈fp,H' b=none)->∀b∈fp,jE X UB H' b:=λhn b hb=>⟨hn b hb,(f2 b hb).2⟩
 refine codeAny_forLoop_any (λn s'=>∃i σ' H',Inv X UB σ' H' s'/\tn i s'.heap/\(∀b∈fp,H' b=none)/\W i n σ' H') ?_ m0 ⟨0,σ,H2,I2,Xe,λb hb=>(f2 b hb).1,w0⟩
 rintro n s3 ⟨i,σ3,H3,I3,st3,fr3,w3⟩
 rcases turn i n σ3 H3 w3 with⟨stop,qn⟩ | ⟨go,N,hN,step⟩
 ·refine RN hp (aX (T.done X rfl rfl rfl hc i UB s3 σ3 H3 X.xe I3 (XT fr3) st3 stop) λr s4 ⟨hr,I4⟩=>?_)
  subst hr
  exact Sh ⟨σ3,H3,I4,qn⟩
 ·refine RN hp (aX (T.item X rfl rfl rfl hc i UB s3 σ3 H3 X.xe I3 (XT fr3) st3 go) λr s4 ⟨u,hr,h4⟩=>?_)
  subst hr
  refine RN hp (aX h4 λ_ s5 ⟨x,H5,I5,r5,y5,Yo,fr5⟩=>?_)
  have I5':=I5.pinned (XT fr5) (T.obj _ _ Yo)
  refine RN hp (aX (hg _ s5 σ3 H5 x u _ I5' r5 (step x H5 y5)) λ_ s6 ⟨σ6,H6,I6,q6⟩=>?_)
  refine RN hp (aX (hb _ s6 σ6 H6 _ I6 q6) λf s7 q7=>?_)
  have again:∀{σ7:St} {H7:Hp},Inv X (UB++kB fp s5.heap) σ7 H7 s7->N σ7 H7->∃m,m<n/\∃i σ' H',Inv X UB σ' H' s7/\tn i s7.heap/\(∀b∈fp,H' b=none)/\W i m σ' H':=λ{σ7 H7} I7 n7=>by
   obtain⟨m',hm,w7⟩:=hN σ7 H7 n7
   refine⟨m',hm,i+1,σ7,H7,I7.nQ,T.keep _ _ _ Yo λb hb o e=>(I7.pin (b,o) (OQ _ (OQ _ (jj hb e)))).1,λb hb=>?_,w7⟩
   obtain⟨o,e,d⟩:=T.obj _ _ Yo b hb
   exact(I7.pin (b,o) (OQ _ (OQ _ (jj hb e)))).2.1
  cases f with
  | next=>obtain⟨σ7,H7,I7,n7⟩:=q7;exact again I7 n7
  | cont=>obtain⟨σ7,H7,I7,n7⟩:=q7;exact again I7 n7
  | brk=>obtain⟨σ7,H7,I7,q7⟩:=q7;exact⟨σ7,H7,I7.nQ,q7⟩
  | ret v=>obtain⟨x7,σ7,H7,I7,r7,q7⟩:=q7;exact⟨x7,σ7,H7,I7.nQ,r7,q7⟩
end
abbrev R2:=V->V->Hp->VK->Prop
def dP (X:Cx)(f:Value->Value->Sem Value)(r:R2):Prop:=
 ∀(UB:Od) (s:Q9) (σ:St) (H:Hp) (x y:V) (v u:Value) (Q:VK),Inv X UB σ H s->RelV x v->RelV y u->r x y H Q->
  wpAny (model X.prog X.w) X.A (f v u) (EP X UB σ Q) X.xe s
def Fo (X:Cx)(f:Value->Sem Value)(r:V->Hp->VK->Prop):Prop:=
 ∀(UB:Od) (s:Q9) (σ:St) (H:Hp) (x:V) (v:Value) (Q:VK),Inv X UB σ H s->RelV x v->r x H Q->
  wpAny (model X.prog X.w) X.A (f v) (EP X UB σ Q) X.xe s
def eR (X:Cx)(f:Value)(r:List V->Hp->VK->Prop):Prop:=
 ∀(UB:Od) (s:Q9) (σ:St) (H:Hp) (xs:List V) (us:Oi) (Q:VK),Inv X UB σ H s->Vals xs us->r xs H Q->
  wpAny (model X.prog X.w) X.A (call f us) (EP X UB σ Q) X.xe s
def Ob (X:Cx)(r:V->Hp->(Bool->Hp->Prop)->Prop):Prop:=
 ∀(UB:Od) (s:Q9) (σ:St) (H:Hp) (x:V) (v:Value) (Q:Bool->Hp->Prop),Inv X UB σ H s->RelV x v->r x H Q->
  wpAny (model X.prog X.w) X.A (SF v) (TP X UB σ Q) X.xe s
def B3 (r:R2)(ta tb:TE):TE:=λσ H Q=>ta σ H λx H1=>tb σ H1 λy H2=>r x y H2 Q
def tUn (r:V->Hp->VK->Prop)(ta:TE):TE:=λσ H Q=>ta σ H λx H1=>r x H1 Q
def rI (C:Int->Int->Prop)(g:Int->Int->V):R2:=λx y H Q=>∃i j,x= .int i/\y= .int j/\C i j/\Q (g i j) H
def qO (g:Int->Int->V):R2:=λx y H Q=>∃i j,x= .int i/\y= .int j/\Q (g i j) H
def rU (g:Int->V):V->Hp->VK->Prop:=λx H Q=>∃i,x= .int i/\Q (g i) H
section
variable {X:Cx}{a b c:Expr}{ta tb tc:TE}{pos:Pos}
variable {f:Value->Value->Sem Value}
theorem Bz (ha:PE X a ta)(hb:PE X b tb){UB:Od}{s:Q9}{σ:St}{H:Hp}{R:V->V->Hp->Prop}(I:Inv X UB σ H s)
 (h:ta σ H λx H1=>tb σ H1 λy H2=>R x y H2) {Q:Value->Q9->Prop}
 (hf:∀v u s2 x y H2,Inv X UB σ H2 s2->RelV x v->RelV y u->R x y H2->wpAny (model X.prog X.w) X.A (f v u) Q X.xe s2):
 wpAny (model X.prog X.w) X.A (eval a X.env) (λv s₁=>wpAny (model X.prog X.w) X.A (eval b X.env) (λu s₂=>wpAny (model X.prog X.w) X.A (f v u) Q X.xe s₂) X.xe s₁) X.xe s:=by
 refine aX (ha UB s σ H _ I h) λv s1 ⟨x,H1,I1,r1,q1⟩=>?_
 refine aX (hb UB s1 σ H1 _ I1 q1) λu s2 ⟨y,H2,I2,r2,q2⟩=>?_
 exact hf v u s2 x y H2 I2 r1 r2 q2
theorem Ds {op:Operator}{r:R2}(ho:dP X (RQ op) r)(ha:PE X a ta)(hb:PE X b tb):PE X (.BinOp a op b pos) (B3 r ta tb):=by
 intro UB s σ H Q I h
 exact wpAny_BinOp (Bz ha hb I h λv u s2 x y H2 I2 rx ry q=>ho UB s2 σ H2 x y v u Q I2 rx ry q)
theorem KQ {op:UnaryOp}{r:V->Hp->VK->Prop}(ho:Fo X (unaryOp op) r)(ha:PE X a ta):PE X (.UnaryOp op a pos) (tUn r ta):=by
 intro UB s σ H Q I h
 exact UnaryOp_ (aX (ha UB s σ H _ I h) λv s1 ⟨x,H1,I1,r1,q1⟩=>ho UB s1 σ H1 x v Q I1 r1 q1)
theorem vL {C:Int->Int->Prop}{g:Int->Int->Int}
 (rule:∀(i j:Int) (t u:Tok) (s:Q9) (Q:Value->Q9->Prop) (E:Value->Q9->Prop),C i j->Q (.int (g i j) s.toks) {s with toks:=s.toks+1}->wpAny (model X.prog X.w) X.A (f (.int i t) (.int j u)) Q E s):
 dP X f (rI C λi j=>.int (g i j)):=by
 intro UB s σ H x y v u Q I rx ry h
 obtain⟨i,j,rfl,rfl,hc,q⟩:=h
 obtain⟨t,rfl⟩:=rx
 obtain⟨t',rfl⟩:=ry
 exact rule i j t t' s _ _ hc ⟨.int (g i j),H,I.tok _,⟨_,rfl⟩,q⟩
theorem Jr {g:Int->Int->Int}
 (rule:∀(i j:Int) (t u:Tok) (s:Q9) (Q:Value->Q9->Prop) (E:Value->Q9->Prop),Q (.int (g i j) s.toks) {s with toks:=s.toks+1}->wpAny (model X.prog X.w) X.A (f (.int i t) (.int j u)) Q E s):
 dP X f (qO λi j=>.int (g i j)):=by
 intro UB s σ H x y v u Q I rx ry h
 obtain⟨i,j,rfl,rfl,q⟩:=h
 obtain⟨t,rfl⟩:=rx
 obtain⟨t',rfl⟩:=ry
 exact rule i j t t' s _ _ ⟨.int (g i j),H,I.tok _,⟨_,rfl⟩,q⟩
theorem w8 {g:Int->Int->Bool}
 (rule:∀(i j:Int) (t u:Tok) (s:Q9) (Q:Value->Q9->Prop) (E:Value->Q9->Prop),Q (.bool (g i j)) s->wpAny (model X.prog X.w) X.A (f (.int i t) (.int j u)) Q E s):
 dP X f (qO λi j=>.bl (g i j)):=by
 intro UB s σ H x y v u Q I rx ry h
 obtain⟨i,j,rfl,rfl,q⟩:=h
 obtain⟨t,rfl⟩:=rx
 obtain⟨t',rfl⟩:=ry
 exact rule i j t t' s _ _ ⟨.bl (g i j),H,I,rfl,q⟩
def Jc (i j:Int):Prop:=0<j/\j<1073741824
def Iy (i j:Int):Prop:=0<=j/\j<=1000000/\i.natAbs<2 ^ 64
def w6 (i j:Int):Prop:=(-(2 ^ 64)<i/\i<2 ^ 64)∨(-(2 ^ 64)<j/\j<2 ^ 64)
theorem w6.ok {i j:Int}(h:w6 i j):SO i j:=by
 rcases h with⟨h1,h2⟩ | ⟨h1,h2⟩
 ·exact .of_left (Sr h1 h2)
 ·exact .of_right (Sr h1 h2)
theorem HF:dP X (RQ .Add) (qO λi j=>.int (i+j)):=Jr λ_ _ _ _ _ _ _ q=>add_int q
theorem Gx:dP X (RQ .Sub) (qO λi j=>.int (i-j)):=Jr λ_ _ _ _ _ _ _ q=>sub_int q
theorem F5:dP X (RQ .Mult) (rI w6 λi j=>.int (i*j)):=vL λ_ _ _ _ _ _ _ hc q=>mul_int q hc.ok
theorem EK:dP X (RQ .FloorDiv) (rI Jc λi j=>.int (i/j)):=vL λi j _ _ _ _ _ hc q=>by
 have h1:(0:Int)<j:=hc.1
 have h2:j<1073741824:=hc.2
 exact floordiv_int (by omega) (by rw[Int.fdiv_eq_ediv_of_nonneg i (by omega)];exact q) (.inl (PyProof.noPylong_small (by omega)))
theorem Jo:dP X (RQ .Mod) (rI (λ_ j=>0<j) λi j=>.int (i%j)):=vL λi j _ _ _ _ _ hc q=>by
 have h1:(0:Int)<j:=hc
 exact mod_int' (by omega) (by rw[Int.fmod_eq_emod_of_nonneg i (by omega)];exact q)
theorem FC:dP X (RQ .Pow) (rI Iy λi j=>.int (i ^ j.toNat)):=vL λ_ _ _ _ _ _ _ hc q=>pow_int_small hc.1 hc.2.1 hc.2.2 q
theorem unI {f:Value->Sem Value}{g:Int->Int}
 (rule:∀(i:Int) (t:Tok) (s:Q9) (Q:Value->Q9->Prop) (E:Value->Q9->Prop),Q (.int (g i) s.toks) {s with toks:=s.toks+1}->wpAny (model X.prog X.w) X.A (f (.int i t)) Q E s):
 Fo X f (rU λi=>.int (g i)):=by
 intro UB s σ H x v Q I rx h
 obtain⟨i,rfl,q⟩:=h
 obtain⟨t,rfl⟩:=rx
 exact rule i t s _ _ ⟨.int (g i),H,I.tok _,⟨_,rfl⟩,q⟩
theorem F7:Fo X (unaryOp .USub) (rU λi=>.int (-i)):=unI λ_ _ _ _ _ q=>neg_int q
end
def GB:V->V->Bool
 | .UQ,.UQ=>true | .UQ,.int _=>true | .int _,.UQ=>true | .UQ,.bl _=>true | .bl _,.UQ=>true | .UQ,.str _=>true | .str _,.UQ=>true
 | .int _,.int _=>true | .bl _,.bl _=>true | .str _,.str _=>true | .Wx _,.Wx _=>true
 | .int _,.str _=>true | .str _,.int _=>true | .bl _,.str _=>true | .str _,.bl _=>true
 | _,_=>false
def rEq:R2:=λx y H Q=>GB x y=true/\Q (.bl (decide (x=y))) H
def rNe:R2:=λx y H Q=>GB x y=true/\Q (.bl (!decide (x=y))) H
theorem mK {i j:Int}:decide (V.int i=V.int j)=(i==j):=by
 rw[Ot]
 simp
theorem tT {i j:Bool}:decide (V.bl i=V.bl j)=(i==j):=by
 rw[Ot]
 simp
theorem kL {i j:Str}:decide (V.str i=V.str j)=(i==j):=by
 rw[Ot]
 simp
theorem wx {i j:Array UInt8}:decide (V.Wx i=V.Wx j)=(i.toList==j.toList):=by
 rw[Ot]
 cases i
 cases j
 simp
section
variable {X:Cx}{a b c:Expr}{ta tb tc:TE}{pos:Pos}
variable {op:CmpOp}{r:R2}
theorem bK {UB:Od}{σ:St}{H:Hp}{s:Q9}{Q:VK}{k k':Bool}(I:Inv X UB σ H s)(q:Q (.bl k) H)(e:k=k'):EP X UB σ Q (.bool k') s:=by
 subst e
 exact⟨.bl k,H,I,rfl,q⟩
theorem C8:dP X (Ro .Eq) rEq:=by
 intro UB s σ H x y v u Q I rx ry h
 obtain⟨hs,q⟩:=h
 cases x with
 | UQ=>
   cases rx
   cases y with
   | UQ=>cases ry;exact PySem.EqNone.eq_none_none (bK I q (by simp))
   | bl j=>cases ry;exact PySem.EqNone.eq_none_bool (bK I q (by simp))
   | int j=>obtain⟨t',rfl⟩:=ry;exact PySem.EqNone.eq_none_int (bK I q (by simp))
   | str j=>obtain⟨t',rfl⟩:=ry;exact PySem.EqNone.eq_none_str (bK I q (by simp))
   | _=>exact Ur (show false=true from hs) Oo
 | bl i=>
   cases rx
   cases y with
   | UQ=>cases ry;exact PySem.EqNone.eq_bool_none (bK I q (by simp))
   | bl j=>cases ry;exact eq_bool (bK I q tT)
   | str j=>obtain⟨t',rfl⟩:=ry;exact PySem.EqMixed.eq_bool_str (bK I q (by simp))
   | _=>exact Ur (show false=true from hs) Oo
 | int i=>
   obtain⟨t,rfl⟩:=rx
   cases y with
   | UQ=>cases ry;exact PySem.EqNone.eq_int_none (bK I q (by simp))
   | int j=>obtain⟨t',rfl⟩:=ry;exact eq_int (bK I q mK)
   | str j=>obtain⟨t',rfl⟩:=ry;exact PySem.EqMixed.eq_int_str (bK I q (by simp))
   | _=>exact Ur (show false=true from hs) Oo
 | str i=>
   obtain⟨t,rfl⟩:=rx
   cases y with
   | UQ=>cases ry;exact PySem.EqNone.eq_str_none (bK I q (by simp))
   | bl j=>cases ry;exact PySem.EqMixed.eq_str_bool (bK I q (by simp))
   | int j=>obtain⟨t',rfl⟩:=ry;exact PySem.EqMixed.eq_str_int (bK I q (by simp))
   | str j=>obtain⟨t',rfl⟩:=ry;exact eq_str (bK I q kL)
   | _=>exact Ur (show false=true from hs) Oo
 | Wx i=>
   obtain⟨t,rfl⟩:=rx
   cases y with
   | Wx j=>obtain⟨t',rfl⟩:=ry;exact PySem.W.eq_bytes (bK I q wx)
   | _=>exact Ur (show false=true from hs) Oo
 | _=>cases y<;>exact Ur (show false=true from hs) Oo
theorem xj:dP X (Ro .NotEq) rNe:=by
 intro UB s σ H x y v u Q I rx ry h
 obtain⟨hs,q⟩:=h
 cases x with
 | UQ=>
   cases rx
   cases y with
   | UQ=>cases ry;exact PySem.EqNone.ne_none_none (bK I q (by simp))
   | bl j=>cases ry;exact PySem.EqNone.ne_none_bool (bK I q (by simp))
   | int j=>obtain⟨t',rfl⟩:=ry;exact PySem.EqNone.ne_none_int (bK I q (by simp))
   | str j=>obtain⟨t',rfl⟩:=ry;exact PySem.EqNone.ne_none_str (bK I q (by simp))
   | _=>exact Ur (show false=true from hs) Oo
 | bl i=>
   cases rx
   cases y with
   | UQ=>cases ry;exact PySem.EqNone.ne_bool_none (bK I q (by simp))
   | bl j=>cases ry;exact ne_bool (bK I q (congrArg not tT))
   | str j=>obtain⟨t',rfl⟩:=ry;exact PySem.EqMixed.ne_bool_str (bK I q (by simp))
   | _=>exact Ur (show false=true from hs) Oo
 | int i=>
   obtain⟨t,rfl⟩:=rx
   cases y with
   | UQ=>cases ry;exact PySem.EqNone.ne_int_none (bK I q (by simp))
   | int j=>obtain⟨t',rfl⟩:=ry;exact ne_int (bK I q (congrArg not mK))
   | str j=>obtain⟨t',rfl⟩:=ry;exact PySem.EqMixed.ne_int_str (bK I q (by simp))
   | _=>exact Ur (show false=true from hs) Oo
 | str i=>
   obtain⟨t,rfl⟩:=rx
   cases y with
   | UQ=>cases ry;exact PySem.EqNone.ne_str_none (bK I q (by simp))
   | bl j=>cases ry;exact PySem.EqMixed.ne_str_bool (bK I q (by simp))
   | int j=>obtain⟨t',rfl⟩:=ry;exact PySem.EqMixed.ne_str_int (bK I q (by simp))
   | str j=>obtain⟨t',rfl⟩:=ry;exact ne_str (bK I q (congrArg not kL))
   | _=>exact Ur (show false=true from hs) Oo
 | Wx i=>
   obtain⟨t,rfl⟩:=rx
   cases y with
   | Wx j=>obtain⟨t',rfl⟩:=ry;exact PySem.W.ne_bytes (bK I q (congrArg not wx))
   | _=>exact Ur (show false=true from hs) Oo
 | _=>cases y<;>exact Ur (show false=true from hs) Oo
theorem KW:dP X (Ro .Lt) (qO λi j=>.bl (decide (i<j))):=w8 λ_ _ _ _ _ _ _ q=>lt_int q
theorem J9:dP X (Ro .LtE) (qO λi j=>.bl (decide (i<=j))):=w8 λ_ _ _ _ _ _ _ q=>le_int q
theorem KN:dP X (Ro .Gt) (qO λi j=>.bl (decide (j<i))):=w8 λ_ _ _ _ _ _ _ q=>gt_int q
theorem KL:dP X (Ro .GtE) (qO λi j=>.bl (decide (j<=i))):=w8 λ_ _ _ _ _ _ _ q=>ge_int q
theorem Gu:dP X (Ro .Is) (λx y H Q=>y= .UQ/\Q (.bl (decide (x= .UQ))) H):=by
 intro UB s σ H x y v u Q I rx ry h
 obtain⟨rfl,q⟩:=h
 cases ry
 refine is_none_gen (bK I q ?_)
 cases x<;>first
  | (cases rx;rfl)
  | (obtain⟨t,rfl⟩:=rx;rfl)
theorem sj (b:Expr)(h:op≠ .In:=by decide)(h2:op≠ .NotIn:=by decide):RO op b=false:=by
 have e1:(op==CmpOp.In)=false:=by cases op<;>first | rfl | exact Ur rfl h
 have e2:(op==CmpOp.NotIn)=false:=by cases op<;>first | rfl | exact Ur rfl h2
 cases b<;>simp[RO,e1,e2]
theorem Ei (ho:dP X (Ro op) r)(ha:PE X a ta)(hb:PE X b tb)(hm:RO op b=false):PE X (.Compare a [op] [b] pos) (B3 r ta tb):=by
 intro UB s σ H Q I h
 exact wpAny_Compare1 (Bz ha hb I h λv u s2 x y H2 I2 rx ry q=>ho UB s2 σ H2 x y v u Q I2 rx ry q) hm
def Cm (t:TE):TT:=λσ H Q=>t σ H λx H'=>∃k,x= .bl k/\Q k H'
theorem DO (ho:dP X (Ro op) r)(ha:PE X a ta)(hb:PE X b tb)(hm:RO op b=false):PT X (.Compare a [op] [b] pos) (Cm (B3 r ta tb)):=by
 intro UB s σ H Q I h
 refine wpAny_isTrue_Compare1 (aX (ha UB s σ H _ I h) λv s1 ⟨x,H1,I1,r1,q1⟩=>aX (hb UB s1 σ H1 _ I1 q1) λu s2 ⟨y,H2,I2,r2,q2⟩=>
  aX (ho UB s2 σ H2 x y v u _ I2 r1 r2 q2) λc s3 ⟨z,H3,I3,r3,k,e,q3⟩=>?_) hm
 subst e
 cases r3
 exact Rn ⟨H3,I3,q3⟩
def zA (r r':R2)(ta tb tc:TE):TE:=λσ H Q=>ta σ H λx H1=>tb σ H1 λy H2=>r x y H2 λz H3=>∃k,z= .bl k/\
 (if k=true then tc σ H3 λw' H4=>r' y w' H4 Q else Q (.bl false) H3)
theorem AZ {Wg:CmpOp}{r':R2}(ho:dP X (Ro op) r)(VY:dP X (Ro Wg) r')(ha:PE X a ta)(hb:PE X b tb)(hc:PE X c tc)
 (hm:lastMarks [op,Wg] [b,c]=false:=by with_unfolding_all rfl):PE X (.Compare a [op,Wg] [b,c] pos) (zA r r' ta tb tc):=by
 intro UB s σ H Q I h
 refine Compare_chain (aX (ha UB s σ H _ I h) λv s1 ⟨x,H1,I1,r1,q1⟩=>chain_link (aX (hb UB s1 σ H1 _ I1 q1) λu s2 ⟨y,H2,I2,r2,q2⟩=>
  aX (ho UB s2 σ H2 x y v u _ I2 r1 r2 q2) λd s3 ⟨z,H3,I3,r3,k,e,q3⟩=>?_)) hm
 subst e
 cases r3
 refine Rn ?_
 cases k with
 | false=>exact ite_ff ⟨.bl false,H3,I3,rfl,q3⟩
 | true=>exact ite_tt (chain_last (aX (hc UB s3 σ H3 _ I3 q3) λw' s4 ⟨z',H4,I4,r4,q4⟩=>VY UB s4 σ H4 y z' u w' Q I4 r2 r4 q4))
theorem BZ {Wg:CmpOp}{r':R2}(ho:dP X (Ro op) r)(VY:dP X (Ro Wg) r')(ha:PE X a ta)(hb:PE X b tb)(hc:PE X c tc)
 (hm:lastMarks [op,Wg] [b,c]=false:=by with_unfolding_all rfl):PT X (.Compare a [op,Wg] [b,c] pos) (Cm (zA r r' ta tb tc)):=by
 intro UB s σ H Q I h
 refine isTrue_chain (aX (ha UB s σ H _ I h) λv s1 ⟨x,H1,I1,r1,q1⟩=>test_link (aX (hb UB s1 σ H1 _ I1 q1) λu s2 ⟨y,H2,I2,r2,q2⟩=>
  aX (ho UB s2 σ H2 x y v u _ I2 r1 r2 q2) λd s3 ⟨z,H3,I3,r3,k,e,q3⟩=>?_)) hm
 subst e
 cases r3
 refine Rn ?_
 cases k with
 | false=>
   obtain⟨k',e',q'⟩:=q3
   cases e'
   exact ite_ff ⟨H3,I3,q'⟩
 | true=>
   refine ite_tt (test_last (aX (hc UB s3 σ H3 _ I3 q3) λw' s4 ⟨z',H4,I4,r4,q4⟩=>aX (VY UB s4 σ H4 y z' u w' _ I4 r2 r4 q4) λd' s5 ⟨z2,H5,I5,r5,k2,e2,q5⟩=>?_))
   subst e2
   cases r5
   exact Rn ⟨H5,I5,q5⟩
def Hx (K:T2)(x:V)(H:Hp)(k:Bool):Prop:=
 match x with
 | .UQ=>k=false
 | .bl b=>k=b
 | .int i=>k=(i != 0)
 | .str y=>y.length<=Ra/\k=((y.length:Int) != 0)
 | .Wx y=>y.size<=Ra/\k=((y.size:Int) != 0)
 | .ref p=>(∃xs,aZ K H p xs/\k= !xs.isEmpty)∨(∃xs,dc K H p xs/\k= !xs.isEmpty)∨∃kvs,H p=some (.dK kvs)/\k= !kvs.isEmpty
 | _=>False
theorem wW {κ:Type}{kvs:List (κ×V)}{vs:List (κ×Value)}(r:KV kvs vs):(!vs.isEmpty)= !kvs.isEmpty:=by
 cases r<;>rfl
theorem pj {xs:List V}{UD:Oi}(r:Vals xs UD):(!UD.toArray.isEmpty)= !xs.isEmpty:=by
 cases r<;>simp
theorem jG:(Ra:Nat)<2 ^ 63:=by rw[Sq];decide
theorem JI:Ob X (λx H Q=>∃k,Hx X.K x H k/\Q k H):=by
 intro UB s σ H x v Q I rx h
 obtain⟨k,e,q⟩:=h
 have hl:=jG
 have hs:Ra=16777216:=Sq
 cases x with
 | UQ=>
   cases rx
   have e':k=false:=e
   subst e'
   exact truthy_none ⟨H,I,q⟩
 | bl b=>
   cases rx
   have e':k=b:=e
   subst e'
   exact Rn ⟨H,I,q⟩
 | int i=>
   obtain⟨t,rfl⟩:=rx
   have e':k=(i != 0):=e
   subst e'
   exact PySem.P.truthy_int ⟨H,I,q⟩
 | str y=>
   obtain⟨t,rfl⟩:=rx
   obtain⟨hy,e'⟩:y.length<=Ra/\k=((y.length:Int) != 0):=e
   subst e'
   exact PySem.P.truthy_str (by omega) ⟨H,I.tok _,q⟩
 | Wx y=>
   obtain⟨t,rfl⟩:=rx
   obtain⟨hy,e'⟩:y.size<=Ra/\k=((y.size:Int) != 0):=e
   subst e'
   exact PySem.W.truthy_bytes (by omega) ⟨H,I.tok _,q⟩
 | ref p=>
   cases rx
   have e':(∃xs,aZ X.K H p xs/\k= !xs.isEmpty)∨(∃xs,dc X.K H p xs/\k= !xs.isEmpty)∨∃kvs,H p=some (.dK kvs)/\k= !kvs.isEmpty:=e
   rcases e' with⟨xs,hx,e'⟩ | ⟨xs,hx,e'⟩ | ⟨kvs,hx,e'⟩
   ·subst e'
    obtain⟨UD,r,pl,hz⟩:=I.list hx
    have hlen:=r.length
    exact wpAny_truthy_list pl.isList (by simp only[ON];omega) ⟨H,I.tok _,by rw[pj r];exact q⟩
   ·subst e'
    obtain⟨UD,r,pl,hz⟩:=I.tuple hx
    have hlen:=r.length
    exact truthy_tuple pl (by simp only[ON];omega) ⟨H,I.tok _,by rw[pj r];exact q⟩
   ·subst e'
    obtain⟨hz,hS,vs,r,m⟩:kvs.length<=Ra/\(p==Rx)=false/\∃vs,KV kvs vs/\s.heap.DictOf (bY X.prog X.w) p vs:=I.UH p _ hx
    have hlen:kvs.length=vs.length:=Paired.length r
    exact wpAny_truthy_dict hS m (by omega) ⟨H,I.tok _,by rw[wW r];exact q⟩
 | _=>exact(show False from e).elim
theorem nX (ha:PE X a ta)(he:∀whole,RZ a X.env whole=(do let v ← whole;Sg a.pos;RM [v] (SF v))):
 PT X a (λσ H Q=>ta σ H λx H'=>∃k,Hx X.K x H' k/\Q k H'):=by
 intro UB s σ H Q I h
 exact isTrue_plain (aX (ha UB s σ H _ I h) λv s1 ⟨x,H1,I1,r1,q1⟩=>JI UB s1 σ H1 x v Q I1 r1 q1) (he _)
theorem wY:dP X (RQ .Add) (λx y H Q=>∃i j,x= .str i/\y= .str j/\i.length+j.length<=Ra/\Q (.str (i++j)) H):=by
 intro UB s σ H x y v u Q I rx ry h
 obtain⟨i,j,rfl,rfl,hz,q⟩:=h
 obtain⟨t,rfl⟩:=rx
 obtain⟨t',rfl⟩:=ry
 exact add_str (λt' tk=>⟨.str (i++j),H,I.tok _,⟨_,rfl⟩,q⟩) hz
theorem vals1 {x:V}{us:Oi}(r:Vals [x] us):∃u,us=[u]/\RelV x u:=by
 cases r with
 | cons r1 r2=>cases r2;exact⟨_,rfl,r1⟩
theorem vals2 {x y:V}{us:Oi}(r:Vals [x,y] us):∃u w',us=[u,w']/\RelV x u/\RelV y w':=by
 cases r with
 | cons r1 r2=>
   cases r2 with
   | cons r3 r4=>cases r4;exact⟨_,_,rfl,r1,r3⟩
theorem x9 (hc:X.calm=true):eR X (.builtin "min") (λxs H Q=>∃i j,xs=[.int i,.int j]/\Q (.int (if j<i then j else i)) H):=by
 intro UB s σ H xs us Q I r h
 obtain⟨i,j,rfl,q⟩:=h
 obtain⟨u,w',rfl,⟨t,rfl⟩,⟨t',rfl⟩⟩:=vals2 r
 refine min_two_ints (I.ok.hd hc) λh' tk k=>⟨_,H,I.kept k,?_,q⟩
 by_cases hj:j<i
 ·rw[Ut hj,Ut hj];exact⟨_,rfl⟩
 ·rw[Us hj,Us hj];exact⟨_,rfl⟩
theorem Aa:eR X (.type "int") (λxs H Q=>(∃i,xs=[.int i]/\Q (.int i) H)∨∃k,xs=[.bl k]/\Q (.int (if k then 1 else 0)) H):=by
 intro UB s σ H xs us Q I r h
 rcases h with⟨i,rfl,q⟩ | ⟨k,rfl,q⟩
 ·obtain⟨u,rfl,t,rfl⟩:=vals1 r
  exact call_int_int ⟨.int i,H,I,⟨_,rfl⟩,q⟩
 ·obtain⟨u,rfl,r1⟩:=vals1 r
  cases r1
  exact call_int_bool ⟨.int (if k then 1 else 0),H,I.tok _,⟨_,rfl⟩,q⟩
end
structure qD (h:Heap) (x dx C:Addr) (mA:Oc):Prop where
 obj:h.get? x=some (Uc C dx)
 ns:h.Ns1 dx mA
 ne:dx≠x
theorem yp {h:Heap}{dx:Addr}{mA:Oc}(n:h.Ns1 dx mA):∃od,h.get? dx=some od/\∀name,Ul name od=some (mA name):=by
 obtain⟨o,es,ep,ho,hd,hk,_,hm⟩:=n
 refine⟨o,ho,λname=>?_⟩
 have e:=hm name
 unfold nsFind findBy at e
 rw[← Array.find?_toList] at e
 unfold Ul
 rw[hd]
 dsimp only
 split
 ·rename_i y q
  rw[q] at e
  exact congrArg some e
 ·rename_i q
  rw[q] at e
  have a:es.toList.any (·.refKey)=false:=by
   rw[List.any_eq_false]
   intro y hy
   obtain⟨z,t,Wb⟩:=hk y (Array.mem_toList_iff.mp hy)
   simp[DictEntry.refKey,Wb]
  have a':¬es.toList.any (·.refKey)=true:=by rw[a];exact Oo
  rw[Us a']
  exact congrArg some e
theorem qD.look {h:Heap}{x dx C:Addr}{mA:Oc}(I:qD h x dx C mA):∃od,PySem.W.InstAt h x (Uc C dx) C (some od)/\∀name,Ul name od=some (mA name):=
 let ⟨od,ho,hl⟩:=yp I.ns
 ⟨od,⟨I.obj,rfl,rfl,ho⟩,hl⟩
section
variable {prog:Rh}{w:World}{A:Ri}{E:Value->Q9->Prop}{s:Q9}{K:T2}{x dx C f:Addr}{mA:Oc}{name:Str}{v:Value}
theorem get_map {expr:Bool}{Q:Value->Q9->Prop}(X:K.In s.heap)(I:qD s.heap x dx C mA)(hg:Ue K C name=true)(hh:Ud K C=true)
 (ha:T4 K (.ref C) name=some none) (hv:mA name=some v) (Wm:PySem.W.handedIn v=true) (h:Q v {s with toks:=s.toks+1}):
 wpAny (model prog w) A (getAttr (.ref x) name expr) Q E s:=by
 obtain⟨od,J,hl⟩:=I.look
 exact PySem.W.get_value X J (PySem.W.plainGet_of hg).1 (PySem.W.findObj_own hh ha rfl (by rw[hl,hv])) Wm h
theorem DM {ns:Of}{Q:Unit->Q9->Prop}(X:K.In s.heap)(I:qD s.heap x dx C mA)
 (hs:T4 K (.ref C) "__setattr__"=some (some (.builtin "object.__setattr__"))) (hp:Ug K C=true) (ht:Uj K C name=some none) (hh:Ud K C=true)
 (hw:SS mA ns) (hsz:ns.length<=Ra)
 (h:∀h',qD h' x dx C (λy=>if y=name then some v else mA y)->Tp dx s.heap h'->Q () {s with heap:=h',toks:=s.toks+2}):
 wpAny (model prog w) A (setAttr (.ref x) name v) Q E s:=by
 obtain⟨od,J,hl⟩:=I.look
 refine PySem.W.set_plain X J hs (PySem.W.osa_open (s:={s with toks:=s.toks+1}) (r:=none) X J hp ht λb=>?_)
 obtain⟨cd,hc,Zl⟩:=PySem.W.any_some hh
 have hx:s.heap.get? x=some ⟨.ref C,some dx,.plain, #[]⟩:=I.obj
 refine Rb (Rg (Rb (Rb (wpAny_loadPart hx (Rb (PySem.W.Looks.here (s:={s with toks:=s.toks+1}) (PySem.W.looks_clsIn X hc) ?_))))))
 rw[Zl]
 refine Rg (a:=some dx) (Rb (Rg (Rb ?_)))
 refine wpAny_nsSet1 (s:={s with toks:=s.toks+1}) I.ns λh' hn2 Vf=>?_
 obtain⟨oD,esD,epD,hoD,hdD,hcD⟩:=hn2.count (SS.cons name v hw)
 refine Rb (wpAny_lookBehind hoD (by rw[hdD];exact pastItsLine_dict (QD hcD (by rw[OP];omega))) ?_)
 exact Rg (h _ ⟨(Vf.2 _ (QW I.ne)).trans I.obj,hn2,I.ne⟩ Vf)
theorem As {R:Result->Q9->Prop}{vs:Oi}{kw:List (Str×Value)}(X:K.In s.heap)(hm:Uh K C=true)
 (hi:T4 K (.ref C) "__init__"=some (some (.ref f))) (hf:PySem.W.typeIn K (.ref f)=some (.type "function"))
 (h:Sn (model prog w) (A.under (.builtin "type.__call__" ⟨.ref C::vs,kw⟩)) (.call (.ref f) ⟨.ref (s.heap.objs.size+1)::vs,kw⟩) (PySem.W.InitBack (s.heap.objs.size+1) R)
  {s with heap:=(s.heap.push Ub).push (Uc C s.heap.objs.size)}):
 Sn (model prog w) A (.call (.ref C) ⟨vs,kw⟩) R s:=by
 obtain⟨hh,g,d,t,os⟩:=s
 exact PySem.W.make_core (PySem.W.makes_of X hm) (PySem.W.looks_findIn X hi) (λself=>PySem.W.bind_fn X self hf) (.inl rfl) h
end
def fq (f:Str)(v:V):List (Str×V)->List (Str×V)
 | []=>[(f,v)]
 | (g,x)::r=>if g=f then(g,v)::r else(g,x)::fq f v r
theorem nz (f g:Str)(v:V):∀fs:List (Str×V),(fq f v fs).lookup g=if g=f then some v else fs.lookup g
 | []=>by
   show Pu g [(f,v)]=_
   by_cases h:g=f
   ·have hb:(g==f)=true:=beq_iff_eq.mpr h
    simp only[Pu,hb,Ut h]
   ·have hb:(g==f)=false:=beq_eq_false_iff_ne.mpr h
    simp only[Pu,hb,Us h]
 | (k,x)::r=>by
   have ih:=nz f g v r
   rw[show fq f v ((k,x)::r)=(if k=f then(k,v)::r else(k,x)::fq f v r) from rfl]
   by_cases hk:k=f
   ·rw[Ut hk]
    by_cases h:g=k
    ·have hb:(g==k)=true:=beq_iff_eq.mpr h
     simp only[Pu,hb,Ut (h.trans hk)]
    ·have hb:(g==k)=false:=beq_eq_false_iff_ne.mpr h
     simp only[Pu,hb,Us (λe:g=f=>h (e.trans hk.symm))]
   ·rw[Us hk]
    by_cases h:g=k
    ·have hb:(g==k)=true:=beq_iff_eq.mpr h
     simp only[Pu,hb,Us (λe:g=f=>hk (h.symm.trans e))]
    ·have hb:(g==k)=false:=beq_eq_false_iff_ne.mpr h
     simp only[Pu,hb]
     exact ih
theorem mf (f:Str)(v:V):∀fs:List (Str×V),f∈(fq f v fs).map (·.1)/\∀g,g∈fs.map (·.1)->g∈(fq f v fs).map (·.1)
 | []=>⟨by simp[fq],λg h=>by simp at h⟩
 | (k,x)::r=>by
   obtain⟨i1,i2⟩:=mf f v r
   rw[show fq f v ((k,x)::r)=(if k=f then(k,v)::r else(k,x)::fq f v r) from rfl]
   by_cases hk:k=f
   ·rw[Ut hk]
    subst hk
    exact⟨by simp,λg h=>by simpa using h⟩
   ·rw[Us hk]
    refine⟨?_,λg h=>?_⟩
    ·rw[Pc]
     exact OL _ i1
    ·rw[Pc] at h ⊢
     rcases OT.mp h with e | e
     ·exact OT.mpr (.inl e)
     ·exact OL _ (i2 g e)
theorem nt (f:Str)(v:V):∀fs:List (Str×V),(fq f v fs).length<=fs.length+1
 | []=>by simp[fq]
 | (k,x)::r=>by
   have ih:=nt f v r
   rw[show fq f v ((k,x)::r)=(if k=f then(k,v)::r else(k,x)::fq f v r) from rfl]
   by_cases hk:k=f
   ·rw[Ut hk,OP,OP];omega
   ·rw[Us hk,OP,OP];omega
theorem iG.some_of {v:V}{o:Og}(r:iG (some v) o):∃u,o=some u/\RelV v u:=by
 cases o with
 | none=>exact(show False from r).elim
 | some u=>exact⟨u,rfl,r⟩
theorem yg {v:V}{u:Value}(r:RelV v u):PySem.W.handedIn u=true:=by
 cases v with
 | UQ=>cases (show u=TQ from r);rfl
 | bl b=>cases (show u=TY b from r);rfl
 | int i=>obtain⟨t,e⟩:=(show∃t,u=TR i t from r);cases e;rfl
 | str x=>obtain⟨t,e⟩:=(show∃t,u=TU x t from r);cases e;rfl
 | Wx b=>obtain⟨t,e⟩:=(show∃t,u=Value.bytes b t from r);cases e;rfl
 | Yk b=>obtain⟨t,e⟩:=(show∃t,u=TZ b t from r);cases e;rfl
 | ref a=>cases (show u=TN a from r);rfl
 | ty n=>cases (show u=T1 n from r);rfl
section
variable {P:Rh}{w:World}{H H':Hp}{h h':Heap}{a C dx:Addr}{fs fs':List (Str×V)}
theorem qk (UH:dZ P w H h)(e:H a=some (.ins C dx fs)):∃mA,qD h a dx C mA/\(∀f,iG (fs.lookup f) (mA f))/\SS mA (fs.map (·.1))/\fs.length<=1000/\H dx=some (.own a):=by
 obtain⟨d,z,ne,ob,mA,n,r,q⟩:=(show cL P w H h a (.ins C dx fs) from UH a _ e)
 exact⟨mA,⟨ob,n,ne⟩,r,q,z,d⟩
end
structure kA (K:T2) (C:Addr):Prop where
 pg:Ue K C Str.empty=true
 hd:Ud K C=true
 po:Ug K C=true
 sa:T4 K (.ref C) "__setattr__"=some (some (.builtin "object.__setattr__"))
theorem kA.get {K:T2}{C:Addr}(c:kA K C)(f:Str):Ue K C f=true:=c.pg
def jz (K:T2)(C:Addr)(f:Str):Prop:=T4 K (.ref C) f=some none
theorem jz.LL {K:T2}{C:Addr}{f:Str}(n:jz K C f):Uj K C f=some none:=by
 unfold Uj
 rw[show T4 K (.ref C) f=some none from n]
 rfl
section
variable {X:Cx}{UB:Od}{σ:St}{H:Hp}{s:Q9}{a C dx:Addr}{fs:List (Str×V)}{f:Str}{v:V}{A:Ri}{E:Value->Q9->Prop}
theorem xM {b:Bool}{Q:Value->Q9->Prop}(I:Inv X UB σ H s)(e:H a=some (.ins C dx fs))(c:kA X.K C)(n:jz X.K C f)(l:fs.lookup f=some v)
 (h:∀u s',Inv X UB σ H s'->RelV v u->Q u s'):wpAny (model X.prog X.w) A (getAttr (.ref a) f b) Q E s:=by
 obtain⟨mA,O,r,_,_,_⟩:=qk I.UH e
 obtain⟨u,hu,ru⟩:=iG.some_of (v:=v) (o:=mA f) (by rw[← l];exact r f)
 exact get_map I.fe O (c.get f) c.hd n hu (yg ru) (h u _ (I.tok _) ru)
theorem xP {y:V}{u:Value}{Q:Unit->Q9->Prop}(I:Inv X UB σ H s)(e:H a=some (.ins C dx fs))(c:kA X.K C)(n:jz X.K C f)(hl:fs.length<1000)(ry:RelV y u)
 (h:∀s',Inv X UB σ (upd H a (.ins C dx (fq f y fs))) s'->Q () s'):wpAny (model X.prog X.w) A (setAttr (.ref a) f u) Q E s:=by
 obtain⟨mA,O,r,wi,_,ho⟩:=qk I.UH e
 have hz:(fs.map (·.1)).length<=Ra:=by rw[OH,Sq];omega
 refine DM I.fe O c.sa c.po n.LL c.hd wi hz λh' O' sb=>h _ ?_
 have hd:∃o,h'.get? dx=some o:=let ⟨o,_,_,e',_⟩:=O'.ns;⟨o,e'⟩
 refine I.write (x:=a) (e:=dx) (by rw[e];exact Uq) (.inr ho) (λb q hb z=>(sb.2 b hb).trans z) hd ?_
 refine⟨by rw[aJ O.ne];exact ho,?_,O.ne,O'.obj,_,O'.ns,λg=>?_,λg hg=>?_⟩
 ·have:=nt f y fs;omega
 ·show iG ((fq f y fs).lookup g) (if g=f then some u else mA g)
  rw[nz]
  by_cases q:g=f
  ·rw[Ut q,Ut q];exact ry
  ·rw[Us q,Us q];exact r g
 ·by_cases q:g=f
  ·rw[q];exact(mf f y fs).1
  ·refine(mf f y fs).2 g (wi g λz=>hg ?_)
   show(if g=f then some u else mA g)=none
   rw[Us q];exact z
theorem Inv.made (I:Inv X UB σ H s):Inv X UB σ (upd (upd H s.heap.objs.size (.own (s.heap.objs.size+1))) (s.heap.objs.size+1) (.ins C s.heap.objs.size []))
 {s with heap:=(s.heap.push Ub).push (Uc C s.heap.objs.size)}:=by
 have e1:(s.heap.push Ub).get? s.heap.objs.size=some Ub:=Tn s.heap rfl
 have e2:((s.heap.push Ub).push (Uc C s.heap.objs.size)).get? (s.heap.objs.size+1)=some (Uc C s.heap.objs.size):=by
  have:=Tn (s.heap.push Ub) (o:=Uc C s.heap.objs.size) rfl
  rwa [To] at this
 have e3:(s.heap.push Ub).Ns s.heap.objs.size (λ_=>none):=⟨Ub, #[],_,e1,rfl,(λe he=>Ur he (by simp)),λ_=>rfl⟩
 have I1:=I.laid (a:=s.heap.objs.size) (o:=.own (s.heap.objs.size+1)) (h':=s.heap.push Ub) (t':=s.toks) (λb u q=>Ti _ q) (QC _) ⟨_,e1⟩
 refine I1.laid (a:=s.heap.objs.size+1) (o:=.ins C s.heap.objs.size []) (t':=s.toks) (λb u q=>Ti _ q) (QU (To _ _)) ?_
 have ne:s.heap.objs.size≠s.heap.objs.size+1:=QH (QM _)
 refine⟨by rw[aJ ne,aF],QE _,ne,e2,λ_=>none,(Heap.Ns1.of_empty e3).at λo q=>Ti _ q,λ_=>Uq,λy hy=>Ur rfl hy⟩
theorem DI {prog:Rh}{w:World}{env:Env}{e:Expr}{f:Str}{pos:Pos}{s:Q9}{Q:Value->Q9->Prop}(hb:Rj e f env (eval e env)=eval e env)
 (h:wpAny (model prog w) A (eval e env) (λo s₁=>wpAny (model prog w) A (getAttr o f true) Q E s₁) E s):wpAny (model prog w) A (eval (.Attribute e f pos) env) Q E s:=
 Attribute_any_ h (by rw[arm_eval_Attribute,hb])
end
def N8 (K:T2)(ta:TE)(f:Str):TE:=λσ H Q=>ta σ H λx H1=>∃a C dx fs v,x= .ref a/\H1 a=some (.ins C dx fs)/\kA K C/\jz K C f/\fs.lookup f=some v/\Q v H1
def NX (K:T2)(ta tv:TE)(f:Str):TS:=λD σ H=>tv σ H λy H1=>ta σ H1 λx H2=>∃a C dx fs,x= .ref a/\H2 a=some (.ins C dx fs)/\kA K C/\jz K C f/\fs.length<1000/\
 D.nx σ (upd H2 a (.ins C dx (fq f y fs)))
section
variable {X:Cx}{o e value:Expr}{f:Str}{pos pos' tpos:Pos}{ta tv:TE}
theorem tE (he:PE X e ta)(hb:Rj e f X.env (eval e X.env)=eval e X.env):PE X (.Attribute e f pos) (N8 X.K ta f):=by
 intro UB s σ H Q I h
 refine DI hb (aX (he UB s σ H _ I h) λu s1 ⟨x,H1,I1,rx,a,C,dx,fs,v,ex,ea,c,n,l,q⟩=>?_)
 subst ex
 obtain rfl:u=TN a:=rx
 exact xM I1 ea c n l λu' s2 I2 ru=>⟨v,H1,I2,ru,q⟩
theorem G0 (ha:PE X o ta)(hv:PE X value tv)(hs:Rl value (some (.Attribute o f pos')) pos.line X.env=pure false):PS X (.Assign [.Attribute o f pos'] value pos) (NX X.K ta tv f):=by
 intro UB s σ H D I h
 refine plainObj_wpAny_Assign_Attribute (aX (hv UB s σ H _ I h) λu s1 ⟨y,H1,I1,ry,q⟩=>aX (ha UB s1 σ H1 _ I1 q) λov s2 ⟨x,H2,I2,rx,a,C,dx,fs,ex,ea,c,n,l,q2⟩=>?_) hs
 subst ex
 obtain rfl:ov=TN a:=rx
 exact xP I2 ea c n l ry λs3 I3=>⟨σ,_,I3,q2⟩
end
section
variable {X:Cx}{UB:Od}{σ:St}{H:Hp}{s:Q9}{A:Ri}{E:Value->Q9->Prop}{Q:Value->Q9->Prop}{c:Value}{b:Bool}
inductive ft (K:T2) (H:Hp):V->Value->Prop where
 | UQ:ft K H .UQ (.type "NoneType")
 | bl (x:Bool):ft K H (.bl x) (.type "bool")
 | int (i:Int):ft K H (.int i) (.type "int")
 | str (x:Str):ft K H (.str x) (.type "str")
 | Yk (x:UInt64):ft K H (.Yk x) (.type "float")
 | lst {a:Addr} {xs:List V} (e:H a=some (.lst xs)):ft K H (.ref a) (.type "list")
 | VJ {a:Addr} {o:Obj} {xs:List V} (e:H a=some (.VJ o (.lst xs))):ft K H (.ref a) (.type "list")
 | tup {a:Addr} {xs:List V} (e:H a=some (.tup xs)):ft K H (.ref a) (.type "tuple")
 | dK {a:Addr} {kvs:List (Key×V)} (e:H a=some (.dK kvs)):ft K H (.ref a) (.type "dict")
 | dT {a:Addr} {kvs:List (List Key×V)} (e:H a=some (.dT kvs)):ft K H (.ref a) (.type "dict")
 | ins {a C dx:Addr} {fs:List (Str×V)} (e:H a=some (.ins C dx fs)) (cl:kA K C) (ha:T4 K (.ref C) "__class__"=some (some (.builtin "object.__class__")))
  (hn:PySem.W.specialIn K (.builtin "object.__class__") "__get__"=some (some (.builtin "getset_descriptor.__get__"))) (htk:PySem.W.takesIn K (.builtin "object.__class__")=some true)
  (hm:PySem.W.mroIn K C (.type "object")=some true):ft K H (.ref a) (.ref C)
theorem yn {x:V}{u t:Value}(I:Inv X UB σ H s)(rx:RelV x u)(ty:ft X.K H x t)(e:Um X.K t c=some b)(h:∀tk,Q (.bool b) {s with toks:=tk}):
 wpAny (model X.prog X.w) A (call (.builtin "isinstance") [u,c]) Q E s:=by
 cases ty with
 | UQ=>cases (show u=TQ from rx);exact T9 PySem.W.kitx_none I.fe Uq e (λz=>nomatch z) h
 | bl y=>cases (show u=TY y from rx);exact T9 PySem.W.kitx_bool I.fe Uq e (λz=>nomatch z) h
 | int i=>obtain⟨t,q⟩:=(show∃t,u=TR i t from rx);cases q;exact T9 PySem.W.kitx_int I.fe Uq e (λz=>nomatch z) h
 | str y=>obtain⟨t,q⟩:=(show∃t,u=TU y t from rx);cases q;exact T9 PySem.W.kitx_str I.fe Uq e (λz=>nomatch z) h
 | Yk y=>obtain⟨t,q⟩:=(show∃t,u=TZ y t from rx);cases q;exact T9 PySem.W.kitx_float I.fe Uq e (λz=>nomatch z) h
 | @lst a xs ea=>
   cases (show u=TN a from rx)
   obtain⟨_,_,n,_,h1⟩:=(show cL X.prog X.w H s.heap a (.lst xs) from I.UH a _ ea)
   exact T9 PySem.W.kitx_list I.fe ⟨_,h1,rfl⟩ e (λz=>nomatch z) h
 | @VJ a ob xs ea=>
   cases (show u=TN a from rx)
   obtain⟨_,_,_,n,_,h1⟩:=(show cL X.prog X.w H s.heap a (.VJ ob (.lst xs)) from I.UH a _ ea)
   exact T9 PySem.W.kitx_list I.fe ⟨_,h1,rfl⟩ e (λz=>nomatch z) h
 | @tup a xs ea=>
   cases (show u=TN a from rx)
   obtain⟨_,_,_,p⟩:=(show cL X.prog X.w H s.heap a (.tup xs) from I.UH a _ ea)
   obtain⟨o,h1,h2,_⟩:=p
   exact T9 PySem.W.kitx_tuple I.fe ⟨o,h1,h2⟩ e (λz=>nomatch z) h
 | @dK a kvs ea=>
   cases (show u=TN a from rx)
   obtain⟨_,_,vs,_,p⟩:=(show cL X.prog X.w H s.heap a (.dK kvs) from I.UH a _ ea)
   obtain⟨o,es,ep,h1,h2,_⟩:=p
   exact T9 PySem.W.kitx_dict I.fe ⟨o,h1,h2.1⟩ e (λz=>nomatch z) h
 | @dT a kvs ea=>
   cases (show u=TN a from rx)
   obtain⟨_,_,xs,_,o,es,ep,h1,h2,_⟩:=(show cL X.prog X.w H s.heap a (.dT kvs) from I.UH a _ ea)
   exact T9 PySem.W.kitx_dict I.fe ⟨o,h1,h2.1⟩ e (λz=>nomatch z) h
 | @ins a C dx fs ea cl ha hn htk hm=>
   cases (show u=TN a from rx)
   obtain⟨mA,O,_⟩:=qk I.UH ea
   obtain⟨od,J,_⟩:=O.look
   exact T9 (PySem.W.kitx_own (cl.get _) cl.hd ha hn htk hm) I.fe J e (λz=>nomatch z) h
end
section
variable {A:Ri}
structure bI (k:Nat) (A:Ri):Prop where
 hd:A.handled=none
 dp:A.depth+3*k+5<recursionLimit
 un:A.units+16*k+200<cLine
theorem bI.mono {j k:Nat}(r:bI k A)(h:j<=k):bI j A:=⟨r.hd,by have:=r.dp;omega,by have:=r.un;omega⟩
theorem bI.deeper {k:Nat}(r:bI (k+1) A)(env:Env):bI k (A.deeper env):=
 ⟨r.hd,by have:=r.dp;show A.depth+1+3*k+5<_;omega,by have:=r.un;show A.units+3+16*k+200<_;omega⟩
theorem xJ {C:Addr}{us:Oi}{kw:List (Str×Value)}:(A.under (.builtin "type.__call__" ⟨.ref C::us,kw⟩)).depth=A.depth+1:=by
 first | rfl | simp[Ri.under,Code.weight,Code.isCreation,Code.isGuard,Code.isCaller,Code.frames,S8,guardIds]
theorem xH {C:Addr}{us:Oi}{kw:List (Str×Value)}:(A.under (.builtin "type.__call__" ⟨.ref C::us,kw⟩)).units=A.units+1:=by
 first | rfl | simp[Ri.under,Code.cUnits,Code.frames,S8]
theorem bI.make {k:Nat}(r:bI (k+1) A)(C:Addr)(us:Oi)(kw:List (Str×Value)):bI k (A.under (.builtin "type.__call__" ⟨.ref C::us,kw⟩)):=
 ⟨r.hd,by have:=r.dp;rw[xJ];omega,by have:=r.un;rw[xH];omega⟩
theorem bI.depth {k:Nat}(r:bI k A):A.depth<recursionLimit:=by have:=r.dp;omega
theorem bI.units {k:Nat}(r:bI k A):A.units+64<cLine:=by have:=r.un;omega
def ND:TA:=λ_ H Q=>Q [] H
def K6 (ta:TE)(tr:TA):TA:=λσ H Q=>ta σ H λx H1=>tr σ H1 λxs H2=>Q (x::xs) H2
end
section
variable {X:Cx}{e:Expr}{es:Oj}{te:TE}{t:TA}{pos:Pos}
theorem bJ:PA X [] ND:=λ_ _ _ _ H Q I h=>Calls.spliced_nil ⟨[],H,I,.nil,h⟩
theorem a7 (ha:PE X e te)(hr:PA X es t)(hs:Rc (e::es) X.env=(false,eval e X.env)::Rc es X.env:=by rfl):PA X (e::es) (K6 te t):=by
 intro pos UB s σ H Q I h
 rw[hs]
 show wpAny _ _ (spliced ((false,eval e X.env)::Rk pos (Rc es X.env))) _ _ s
 refine S7 (aX (ha UB s σ H _ I h) λu s1 ⟨x,H1,I1,r1,q1⟩=>?_)
 exact aX (hr pos UB s1 σ H1 _ I1 q1) λus s2 ⟨xs,H2,I2,r2,q2⟩=>⟨x::xs,H2,I2,.cons r1 r2,q2⟩
def N4 (t:TA):TE:=λσ H Q=>t σ H λxs H1=>xs.length<=Ra/\∀p,H1 p=none->Q (.ref p) (upd H1 p (.tup xs))
def NR (t:TA):TE:=λσ H Q=>t σ H λxs H1=>xs.length<=Ra/\∀p,H1 p=none->Q (.ref p) (upd H1 p (.lst xs))
theorem Ae {x1}(h:PA X es t):PE X (.Tuple es x1 pos) (N4 t):=by
 intro UB s σ H Q I hq
 refine wpAny_Tuple_spliced (aX (h pos UB s σ H _ I hq) λus s1 ⟨xs,H1,I1,r,z,q⟩=>⟨by rw[← r.length];exact z,?_⟩)
 have hf:H1 s1.heap.objs.size=none:=I1.UH.fresh (QC _)
 refine⟨.ref s1.heap.objs.size,upd H1 s1.heap.objs.size (.tup xs),I1.laid (t':=s1.toks) (λb u e=>Ti _ e) (QC _) ?_,rfl,q _ hf⟩
 exact⟨z,us,r,⟨_,Tn _ rfl,rfl,_,rfl⟩⟩
theorem Ji (h:PA X es t):PE X (.List es pos) (NR t):=by
 intro UB s σ H Q I hq
 refine wpAny_List_spliced (aX (h pos UB s σ H _ I hq) λus s1 ⟨xs,H1,I1,r,z,q⟩=>⟨by rw[← r.length];exact z,?_⟩)
 have hf:H1 s1.heap.objs.size=none:=I1.UH.fresh (QC _)
 refine⟨.ref s1.heap.objs.size,upd H1 s1.heap.objs.size (.lst xs),I1.laid (t':=s1.toks) (λb u e=>Ti _ e) (QC _) ?_,rfl,q _ hf⟩
 exact⟨z,us,0,r,Tn _ rfl⟩
end
abbrev Sp:=List V->Hp->VK->XK->Prop
abbrev lV:=List Env->Hp->Q9->XK->Value->Q9->Prop
structure nV (P:Rh) (w:World) (K:T2) (mg:Oc) (base:Heap) (A:Ri) (outer:List Env) (s:Q9) (H:Hp):Prop where
 frames:A.frames=some outer
 mod:Mod K mg base
 bs:∀b o,base.get? b=some o->s.heap.get? b=some o/\H b=none
 Xv:base.objs.size<=s.heap.objs.size
 VD:s.heap.FunFrames base outer
 Yj:∀b∈kF outer,H b=none
 UH:dZ P w H s.heap
 bare:Q6 s.gens
def CE (outer:List Env)(P:Rh)(w:World)(H:Hp)(s:Q9)(Q:VK)(u:Value)(s':Q9):Prop:=
 ∃v H',s'.os=s.os/\Q6 s'.gens/\Un (kF outer) [] H H' s.heap s'.heap/\dZ P w H' s'.heap/\RelV v u/\Q v H'
def CR (CX:lV)(outer:List Env)(P:Rh)(w:World)(H:Hp)(s:Q9)(Q:VK)(E:XK)(r:Result)(s':Q9):Prop:=
 match r with
 | .ok (.ret u)=>CE outer P w H s Q u s'
 | .ok _=>False
 | .error e=>CX outer H s E e s'
structure dY (P:Rh) (w:World) (K:T2) (mg:Oc) (base:Heap) (CX:lV) (k:Nat) (f:Addr) (fd:Rm) (ps:Of) (sp:Sp):Prop where
 len:∀vs H Q E,sp vs H Q E->vs.length=ps.length
 run:∀(A:Ri) (outer:List Env) (s:Q9) (H:Hp) (args:Args) (us:Oi) (vs:List V) (Q:VK) (E:XK),bI k A->nV P w K mg base A outer s H->SJ s fd args (ps.zip us)->Vals vs us->sp vs H Q E->
  Sn (model P w) A (.call (.ref f) args) (CR CX outer P w H s Q E) s
theorem dY.mono {P:Rh}{w:World}{K:T2}{mg:Oc}{base:Heap}{CX:lV}{j k:Nat}{f:Addr}{fd:Rm}{ps:Of}{sp:Sp}(F:dY P w K mg base CX j f fd ps sp)(h:j<=k):
 dY P w K mg base CX k f fd ps sp:=⟨F.len,λA outer s H args us vs Q E hr=>F.run A outer s H args us vs Q E (hr.mono h)⟩
theorem nV.make {P:Rh}{w:World}{K:T2}{mg:Oc}{base:Heap}{A:Ri}{outer:List Env}{s:Q9}{H:Hp}(e:nV P w K mg base A outer s H)(C:Addr)(us:Oi)(kw:List (Str×Value)):
 nV P w K mg base (A.under (.builtin "type.__call__" ⟨.ref C::us,kw⟩)) outer s H:=⟨by first | exact e.frames | (simpa[Ri.under,Code.envs,S8,pushEnvs] using e.frames),e.mod,e.bs,e.Xv,e.VD,e.Yj,e.UH,e.bare⟩
section
variable {X:Cx}{UB:Od}{σ:St}{H:Hp}{s s':Q9}
theorem Inv.IJ (I:Inv X UB σ H s):nV X.prog X.w X.K X.mg X.base X.A X.stack s H:=
 ⟨I.ok.frames,I.ok.mod,I.bs,QD I.ok.Xv I.sz,I.stack,I.wB,I.UH,I.bare⟩
theorem Inv.after {Q:VK}{u:Value}(I:Inv X UB σ H s)(h:CE X.stack X.prog X.w H s Q u s'):EP X UB σ Q u s':=by
 obtain⟨v,H',os,bare,un,UH,r,q⟩:=h
 obtain⟨hh,g,d,t,os'⟩:=s'
 obtain rfl:os'=s.os:=os
 exact⟨v,H',I.call (h':=hh) (g':=g) (d':=d) (t':=t) (ch:=[]) un UH bare (λb z=>Ur z (by simp)),r,q⟩
end
def LX (sp:Sp)(Ws:List V)(E:XK)(t:TA):TE:=λσ H Q=>t σ H λvs H1=>sp (vs++Ws) H1 Q E
def K0 (C:Addr)(sp:Sp)(Ws:List V)(E:XK)(t:TA):TE:=λσ H Q=>t σ H λvs H1=>∀x dx,H1 x=none->H1 dx=none->dx≠x->
 sp (.ref x::(vs++Ws)) (upd (upd H1 dx (.own x)) x (.ins C dx [])) (λv H2=>v= .UQ/\Q (.ref x) H2) E
def Binds (K:T2)(fd:Rm)(ps:Of)(ds:Oi):Prop:=
 ∀(s:Q9) (us:Oi),K.In s.heap->(us++ds).length=ps.length->SJ s fd ⟨us,[]⟩ (ps.zip (us++ds))
theorem Binds.all {K:T2}{fd:Rm}{ps:Of}(h:∀us:Oi,us.length=ps.length->So fd ⟨us,[]⟩=pure (ps.zip us)):Binds K fd ps []:=λs us _ hl=>by
 rw[Pf] at hl ⊢
 exact .of_eq (h us hl)
def Passes (CX:lV)(X:Cx)(E:XK):Prop:=∀(UB:Od) (σ:St) (H:Hp) (s:Q9) (e:Value) (s':Q9),Inv X UB σ H s->CX X.stack H s E e s'->X.xe e s'
section
variable {X:Cx}{CX:lV}{k:Nat}{f C:Addr}{fd:Rm}{ps:Of}{sp:Sp}{Ws:List V}{ds:Oi}{E:XK}{x m:Str}{p pos apos:Pos}{e o:Expr}{es:Oj}{ta:TE}{t:TA}
theorem GX {UB:Od}{σ:St}{H:Hp}{s:Q9}{Q:VK}{us:Oi}{vs:List V}(F:dY X.prog X.w X.K X.mg X.base CX k f fd ps sp)(hr:bI k X.A)(hb:Binds X.K fd ps ds)(hd:Vals Ws ds)(hx:Passes CX X E)
 (I:Inv X UB σ H s) (r:Vals vs us) (h:sp (vs++Ws) H Q E):wpAny (model X.prog X.w) X.A (call (.ref f) us) (EP X UB σ Q) X.xe s:=by
 have r2:Vals (vs++Ws) (us++ds):=r.append hd
 have hl:(us++ds).length=ps.length:=by rw[← r2.length];exact F.len _ _ _ _ h
 refine wpAny_call (Sw (F.run X.A X.stack s H ⟨us,[]⟩ (us++ds) (vs++Ws) Q E hr I.IJ (hb s us I.fe hl) r2 h) λr s' hq=>?_)
 cases r with
 | error e=>exact hx UB σ H s e s' I hq
 | ok fl=>
   cases fl with
   | ret u=>exact I.after hq
   | next=>exact Ow hq
   | brk=>exact Ow hq
   | cont=>exact Ow hq
theorem qt (F:dY X.prog X.w X.K X.mg X.base CX k f fd ps sp)(hr:bI k X.A)(hg:Gl X x)(hm:X.mg x=some (.ref f))(hk:T8 X.K (.ref f)=true)(hb:Binds X.K fd ps ds)(hd:Vals Ws ds)(hx:Passes CX X E)
 (ha:PA X (e::es) t) (Vo:UX x:=by decide) (he:Rc (e::es) X.env=(false,eval e X.env)::Rc es X.env:=by rfl) (U0:(Rk pos (Rc es X.env)).any (·.1)=false:=by rfl):
 PE X (.Call (.Name x p) (e::es) [] pos) (LX sp Ws E t):=by
 intro UB s σ H Q I h
 refine R8 (p6 I hg hm ?_ Vo)
 refine PySem.W.callWith_K (h₀:=X.base) I.ok.mod.kin hk (aX (ha pos UB s σ H _ I h) λus s1 ⟨vs,H1,I1,r,q⟩=>⟨I1.fe,?_⟩) he U0
 exact GX F hr hb hd hx I1 r q
structure Mk (K:T2) (C f:Addr):Prop where
 makes:Uh K C=true
 init:T4 K (.ref C) "__init__"=some (some (.ref f))
 fn:Uo K (.ref f)=true
 kp:T8 K (.ref C)=true
theorem BM {UB:Od}{σ:St}{H:Hp}{s:Q9}{Q:VK}{us:Oi}{vs:List V}(M:Mk X.K C f)(F:dY X.prog X.w X.K X.mg X.base CX k f fd ps sp)(hr:bI (k+1) X.A)(hb:Binds X.K fd ps ds)(hd:Vals Ws ds)
 (hx:Passes CX X E) (I:Inv X UB σ H s) (r:Vals vs us)
 (h:∀x dx,H x=none->H dx=none->dx≠x->sp (.ref x::(vs++Ws)) (upd (upd H dx (.own x)) x (.ins C dx [])) (λv H2=>v= .UQ/\Q (.ref x) H2) E):
 wpAny (model X.prog X.w) X.A (call (.ref C) us) (EP X UB σ Q) X.xe s:=by
 have hq:=h (s.heap.objs.size+1) s.heap.objs.size (I.UH.fresh (QL _)) (I.UH.fresh (QC _)) (QH (QM _))
 have I2:=Inv.made (C:=C) I
 have r2:Vals (V.ref (s.heap.objs.size+1)::(vs++Ws)) (TN (s.heap.objs.size+1)::(us++ds)):=.cons rfl (r.append hd)
 have hl:(TN (s.heap.objs.size+1)::us++ds).length=ps.length:=by
  have e:=r2.length
  rw[F.len _ _ _ _ hq] at e
  exact e.symm
 refine wpAny_call (As (f:=f) I.fe M.makes M.init (beq_iff_eq.mp M.fn) (Sw (F.run _ X.stack _ _ ⟨TN (s.heap.objs.size+1)::us,[]⟩ (TN (s.heap.objs.size+1)::(us++ds)) _ _ E (hr.make C us [])
  (I2.IJ.make C us []) (hb _ (TN (s.heap.objs.size+1)::us) I2.fe hl) r2 hq) λr s' VB=>?_))
 cases r with
 | error e=>exact hx UB σ _ _ e s' I2 VB
 | ok fl=>
   cases fl with
   | ret u=>
     obtain⟨v,H',I3,rv,ev,q3⟩:=I2.after VB
     subst ev
     exact⟨rv,⟨V.ref (s.heap.objs.size+1),H',I3,rfl,q3⟩⟩
   | next=>exact Ow VB
   | brk=>exact Ow VB
   | cont=>exact Ow VB
theorem EC (M:Mk X.K C f)(F:dY X.prog X.w X.K X.mg X.base CX k f fd ps sp)(hr:bI (k+1) X.A)(hg:Gl X x)(hm:X.mg x=some (.ref C))(hb:Binds X.K fd ps ds)(hd:Vals Ws ds)(hx:Passes CX X E)
 (ha:PA X (e::es) t) (Vo:UX x:=by decide) (he:Rc (e::es) X.env=(false,eval e X.env)::Rc es X.env:=by rfl) (U0:(Rk pos (Rc es X.env)).any (·.1)=false:=by rfl):
 PE X (.Call (.Name x p) (e::es) [] pos) (K0 C sp Ws E t):=by
 intro UB s σ H Q I h
 refine R8 (p6 I hg hm ?_ Vo)
 refine PySem.W.callWith_K (h₀:=X.base) I.ok.mod.kin M.kp (aX (ha pos UB s σ H _ I h) λus s1 ⟨vs,H1,I1,r,q⟩=>⟨I1.fe,?_⟩) he U0
 exact BM M F hr hb hd hx I1 r q
end
section
variable {X:Cx}{CX:lV}{k:Nat}{f C:Addr}{fd:Rm}{ps ks:Of}{sp:Sp}{E:XK}{x m:Str}{p pos apos kpos:Pos}{e o:Expr}{es:Oj}{kws:List Rp}{te ta:TE}{t tk:TA}{nm:Option Str}
variable {g:Oi->Oi->Oi}{gV:List V->List V->List V}
end
structure ay (N P:Of) (sc:Scope):Prop where
 kind:sc.kind= .function
 co:sc.isCoroutine=false
 gen:sc.isGenerator=false
 nd:N.Nodup
 pre:N.take P.length=P
 par:∀x∈P,sc.names.lookup x=some .local∨sc.names.lookup x=some .cell
 XW:∀y∈sc.names,y.2≠ .free
theorem UY{N P:Of}{sc:Scope}(a:sc.kind=.function:=by rfl)(b:sc.isCoroutine=false:=by rfl)(c:sc.isGenerator=false:=by rfl)(d:N.Nodup:=by decide +kernel)(e:N.take P.length=P:=by rfl)(f:∀x∈P,sc.names.lookup x=some .local∨sc.names.lookup x=some .cell:=by decide +kernel)(g:∀y∈sc.names,y.2≠.free:=by decide +kernel):ay N P sc:=⟨a,b,c,d,e,f,g⟩
theorem rG {kindOf:Str->Option RX}{x:Str}:∀{binds:List (Str×Value)} {m:Oc},(∀v,(x,v)∉binds)->bindL kindOf binds m x=m x
 | [],_,_=>rfl
 | (n,v)::r,m,h=>by
   unfold bindL
   rw[rG λw hw=>h w (OL _ hw)]
   split
   ·have:x≠n:=by rintro rfl;exact h v OM
    simp[this]
   ·rfl
theorem rE {kindOf:Str->Option RX}{x:Str}:∀{binds:List (Str×Value)} {m:Oc},(∀v,(x,v)∉binds)->bindC kindOf binds m x=m x
 | [],_,_=>rfl
 | (n,v)::r,m,h=>by
   unfold bindC
   rw[rE λw hw=>h w (OL _ hw)]
   split
   ·rfl
   ·have:x≠n:=by rintro rfl;exact h v OM
    simp[this]
theorem qK {kindOf:Str->Option RX}{x:Str}{v:Value}:∀{P:Of} {vs:Oi} {i:Nat} {m:Oc},P.Nodup->P[i]?=some x->vs[i]?=some v->kindOf x=some .local->
 bindL kindOf (P.zip vs) m x=some v
 | [],_,_,_,_,h,_,_=>by simp at h
 | _::_,[],_,_,_,_,h,_=>by simp at h
 | p::P,w::vs,0,m,nd,h1,h2,hk=>by
   simp at h1 h2;subst h1;subst h2
   show bindL kindOf ((p,w)::P.zip vs) m p=_
   unfold bindL
   rw[rG λv hv=>(Pa.mp nd).1 (Qb hv).1,Ut hk]
   simp
 | p::P,w::vs,i+1,m,nd,h1,h2,hk=>by
   show bindL kindOf ((p,w)::P.zip vs) m x=_
   unfold bindL
   exact qK (i:=i) (Pa.mp nd).2 (by simpa using h1) (by simpa using h2) hk
theorem qG {kindOf:Str->Option RX}{x:Str}{v:Value}:∀{P:Of} {vs:Oi} {i:Nat} {m:Oc},P.Nodup->P[i]?=some x->vs[i]?=some v->kindOf x≠some .local->
 bindC kindOf (P.zip vs) m x=some v
 | [],_,_,_,_,h,_,_=>by simp at h
 | _::_,[],_,_,_,_,h,_=>by simp at h
 | p::P,w::vs,0,m,nd,h1,h2,hk=>by
   simp at h1 h2;subst h1;subst h2
   show bindC kindOf ((p,w)::P.zip vs) m p=_
   unfold bindC
   rw[rE λv hv=>(Pa.mp nd).1 (Qb hv).1,Us hk]
   simp
 | p::P,w::vs,i+1,m,nd,h1,h2,hk=>by
   show bindC kindOf ((p,w)::P.zip vs) m x=_
   unfold bindC
   exact qG (i:=i) (Pa.mp nd).2 (by simpa using h1) (by simpa using h2) hk
def start (N:Of)(vs:List V):St:=vs.map some++PQ (N.length-vs.length) none
def eD (CX:lV)(P:Rh)(w:World)(K:T2)(mg:Oc)(base:Heap)(N:Of)(qual:Str)(scope:Scope)(f:Addr)(cd:Value)(A:Ri)(outer:List Env)(s:Q9)(H:Hp)(E:XK):Cx where
 prog:=P
 w:=w
 K:=K
 mg:=mg
 base:=base
 A:=A.deeper (Q5 qual scope s.heap.objs.size f cd)
 N:=N
 s₀:=s
 H₀:=H
 env:=Q5 qual scope s.heap.objs.size f cd
 outer:=outer
 stack:=Q5 qual scope s.heap.objs.size f cd::outer
 ex:=[]
 calm:=true
 fn:=λ_=>true
 pn:=[]
 xe:=λe s'=>wpAny (model P w) (A.deeper (Q5 qual scope s.heap.objs.size f cd)) (leaving (Q5 qual scope s.heap.objs.size f cd) e) (λ_ s''=>CX outer H s E e s'') (λe' s''=>CX outer H s E e' s'') s'
theorem a8 {sc:Scope}{n:Nat}{x:Str}(h:sc.names.lookup x=some .cell):∃c,(cellsFrom n sc.names []).lookup x=some c:=by
 have q:=PySem.W.cellsFrom_some sc.names n [] (.inl h)
 exact Option.isSome_iff_exists.mp q
theorem yd {CX:lV}{P:Rh}{w:World}{K:T2}{mg:Oc}{base:Heap}{N ps:Of}{qual:Str}{scope:Scope}{f:Addr}{cd:Value}{A:Ri}{outer:List Env}{s s1:Q9}{H:Hp}{E:XK}{us:Oi}{vs:List V}
 (S:ay N ps scope) (hd:A.handled=none) (e0:nV P w K mg base A outer s H) (hl:vs.length=ps.length) (r:Vals vs us)
 (x:InCallC s s.heap.objs.size (bindL (Q5 qual scope s.heap.objs.size f cd).kindOf (ps.zip us) λ_=>none) (cellsFrom (s.heap.objs.size+1) scope.names []) (bindC (Q5 qual scope s.heap.objs.size f cd).kindOf (ps.zip us) λ_=>none) s1):
 Inv (eD CX P w K mg base N qual scope f cd A outer s H E) [] (start N vs) H s1:=by
 have U0:ps.length<=N.length:=by have:=congrArg List.length S.pre;rw[OY] at this;omega
 obtain⟨h1,tk,rfl,hk⟩:=x.done
 have YM:∀b:Addr,b∉(eD CX P w K mg base N qual scope f cd A outer s H E).ex:=λb z=>Ur (show b∈([]:Oh) from z) (by simp)
 refine⟨⟨e0.mod,S.kind,rfl,rfl,QC _,λy z c h1 h2=>?_,λy hy=>?_,λy c _ h=>?_,λ_=>hd,Ri.frames_deeper e0.frames,.inr ⟨rfl,rfl⟩,λb z=>Ur z (YM b),e0.bs,e0.Xv,λb _ _=>YM b,λb z=>Ur z (YM b),e0.VD,e0.Yj⟩,
  rfl,e0.bare,Un.kept hk,⟨_,x.toInCall.ns,λi y v h1 h2 h3=>?_⟩,λy c h=>⟨_,x.cell y c h⟩,e0.UH.fresh (QC _),λy c h=>?_,λp hp=>Ur (show p∈([]:Od) from hp) (by simp),e0.UH.kept hk,?_⟩
 ·exact name_of_addr x.apart (Rr h1) (Rr h2)
 ·have hy:scope.names.lookup y=some .cell∨scope.names.lookup y=some .free:=hy
  rcases hy with hy | hy
  ·exact a8 hy
  ·exact Ur rfl (S.XW _ (Rr hy))
 ·exact QO (x.above y c (Rr h))
 ·have hi:i<vs.length:=by
   unfold start at h2
   by_cases hi:i<vs.length
   ·exact hi
   ·rw[O7 (by simpa using hi)] at h2
    rw[PD] at h2
    split at h2<;>cases h2
  have ha:vs[i]?=some v:=by
   unfold start at h2
   rw[O6 (by simpa using hi),OJ] at h2
   cases e:vs[i]? with
   | none=>rw[e] at h2;cases h2
   | some a=>rw[e] at h2;cases h2;rfl
  obtain⟨u,hu,rv⟩:=r.get ha
  have hp:ps[i]?=some y:=by
   rw[← S.pre,List.getElem?_take_of_lt (by omega)];exact h1
  have ndP:ps.Nodup:=by rw[← S.pre];exact S.nd.sublist (List.take_sublist _ _)
  refine⟨u,rv,?_⟩
  rcases S.par y (OK hp) with k | k
  ·exact .inl ⟨k,qK ndP hp hu k⟩
  ·obtain⟨c,e⟩:=a8 (n:=s.heap.objs.size+1) k
   refine .inr ⟨.inl k,c,e,?_⟩
   have q:=x.cell y c e
   rw[qG ndP hp hu (by show scope.names.lookup y≠_;rw[k];decide)] at q
   exact q
 ·exact e0.UH.fresh (QO (x.above y c (Rr h)))
 ·unfold start
  show _=N.length
  rw[OI,OH,Pr]
  omega
theorem J7 {CX:lV}{P:Rh}{w:World}{K:T2}{mg:Oc}{base:Heap}{k:Nat}{f:Addr}{name qual:Str}{params:Arguments}{body:List Stmt}{scope:Scope}{dV kV doc pm UE ct oc:Value}{an od:Option Addr}
 {V3:Array Og} {N ps:Of} {sp:Sp} (lk:K.lookup f=some ⟨oc,od,.func (T7 name qual params body scope dV kV doc pm an UE ct),V3⟩) (UI:Ua K UE qual=true) (S:ay N ps scope)
 (len:∀vs H Q E,sp vs H Q E->vs.length=ps.length)
 (UT:∀(A:Ri) (outer:List Env) (s:Q9) (H:Hp) (vs:List V) (Q:VK) (E:XK),bI k (A.deeper (Q5 qual scope s.heap.objs.size f UE))->sp vs H Q E->
  ∃t,jQ (eD CX P w K mg base N qual scope f UE A outer s H E) body t/\t {nx:=λ_ H'=>Q .UQ H',rt:=Q} (start N vs) H):
 dY P w K mg base CX (k+1) f (T7 name qual params body scope dV kV doc pm an UE ct) ps sp:=by
 refine⟨len,λA outer s H args us vs Q E hr e0 hb r WB=>?_⟩
 have hl:=len _ _ _ _ WB
 have KX:K.In s.heap:=e0.mod.kin.keeps λb o e=>(e0.bs b o e).1
 have lim:s.heap.NoLimit:=e0.mod.nolimit.keeps λb o e=>(e0.bs b o e).1
 have Ze:∀y∈ps.zip us,scope.names.lookup y.1=some .local∨(scope.names.lookup y.1=some .cell/\((cellsFrom (s.heap.objs.size+1) scope.names []).lookup y.1).isSome=true):=λ⟨n,v⟩ hy=>by
  rcases S.par n (Qb hy).1 with q | q
  ·exact .inl q
  ·exact .inr ⟨q,PySem.W.cellsFrom_some _ _ _ (.inl q)⟩
 refine codeAny_call_function hr.depth (KX _ _ lk) rfl S.co S.gen rfl (PySem.W.codeRec_of KX UI) (hb _ _ _ _ ?_)
 refine wpAny_newFunctionEnv_cells S.kind Ze λenv he s1 x=>?_
 subst he
 refine⟨lim.keeps x.toInCall.keep,codeAny_func ?_⟩
 obtain⟨t,ht,hq⟩:=UT A outer s H vs Q E (hr.deeper _) WB
 have I:Inv (eD CX P w K mg base N qual scope f UE A outer s H E) [] (start N vs) H s1:=yd S hr.hd e0 hl r x
 refine Ru (ht [] s1 (start N vs) H _ I hq) (λfl s' hs=>?_) λe s' hs=>hs
 have fin:∀{σ':St} {H':Hp} {v:V} {u:Value},Inv (eD CX P w K mg base N qual scope f UE A outer s H E) [] σ' H' s'->RelV v u->Q v H'->CE outer P w H s Q u s':=
  λ{σ' H' v u} J rv q=>⟨v,H',J.os,J.bare,J.base,J.UH,rv,q⟩
 cases fl with
 | ret u=>
   obtain⟨v,σ',H',J,rv,q⟩:=hs
   exact fin J rv q
 | next=>
   obtain⟨σ',H',J,q⟩:=hs
   exact fin (v:=V.UQ) (u:=TQ) J rfl q
 | brk=>
   obtain⟨_,_,_,q⟩:=hs
   exact Ow q
 | cont=>
   obtain⟨_,_,_,q⟩:=hs
   exact Ow q
section
variable {X:Cx}{x:Str}{p pos:Pos}{e:Expr}{es:Oj}{t:TA}{id T:String}{r:List V->Hp->VK->Prop}
def MV (r:List V->Hp->VK->Prop)(t:TA):TE:=λσ H Q=>t σ H λvs H1=>r vs H1 Q
theorem dX (hc:eR X (.builtin id) r)(hg:Gl X x)(hm:X.mg x=none)(hv:RK x=some (.builtin id))(ha:PA X (e::es) t)(hn:x≠"__name__":=by decide)(Vo:UX x:=by decide)
 (he:Rc (e::es) X.env=(false,eval e X.env)::Rc es X.env:=by rfl) (U0:(Rk pos (Rc es X.env)).any (·.1)=false:=by rfl):PE X (.Call (.Name x p) (e::es) [] pos) (MV r t):=by
 intro UB s σ H Q I h
 refine R8 (f9 I hg hm hv ?_ hn Vo)
 exact PyProof.Rows.callWith_builtin1 (aX (ha pos UB s σ H _ I h) λus s1 ⟨vs,H1,I1,r1,q1⟩=>hc UB s1 σ H1 vs us Q I1 r1 q1) he U0
theorem gL (hc:eR X (.type T) r)(hg:Gl X x)(hm:X.mg x=none)(hv:RK x=some (.type T))(ha:PA X (e::es) t)(hn:x≠"__name__":=by decide)(Vo:UX x:=by decide)
 (he:Rc (e::es) X.env=(false,eval e X.env)::Rc es X.env:=by rfl) (U0:(Rk pos (Rc es X.env)).any (·.1)=false:=by rfl):PE X (.Call (.Name x p) (e::es) [] pos) (MV r t):=by
 intro UB s σ H Q I h
 refine R8 (f9 I hg hm hv ?_ hn Vo)
 exact Q2 (aX (ha pos UB s σ H _ I h) λus s1 ⟨vs,H1,I1,r1,q1⟩=>hc UB s1 σ H1 vs us Q I1 r1 q1) he U0
end
end L2
namespace HT
open PySem PyProof.Rows
section
open PySem.SeqAt
open PySem.AutoSeq1 (wpAny_loadPart')
open PySem.MeetsSeq PySem.MeetsSeq2 PySem.MeetsSeq3
end
section
variable {prog:Rh}{w:World}{A:Ri}{E:Value->Q9->Prop}{s:Q9}
def UR (n d:Nat):Option Int->Nat
 | none=>d
 | some v=>if v<0 then(v+(n:Int)).toNat else min v.toNat n
theorem Gg (n d:Nat)(hd:d<=n)(o:Option Int):UR n d o<=n:=by
 cases o with
 | none=>exact hd
 | some v=>
   show(if v<0 then(v+(n:Int)).toNat else min v.toNat n)<=n
   by_cases hv:v<0
   ·rw[Ut hv];omega
   ·rw[Us hv];exact QS _ _
theorem wj (v:Int)(n d:Nat):(if v<0 then max (v+(n:Int)) 0 else min v (n:Int))=((UR n d (some v):Nat):Int):=by
 show(if v<0 then max (v+(n:Int)) 0 else min v (n:Int))=(((if v<0 then(v+(n:Int)).toNat else min v.toNat n):Nat):Int)
 by_cases hv:v<0
 ·simp only[Ut hv];omega
 ·simp only[Us hv];omega
theorem xp (lo hi:Option Int)(n:Nat):SY lo hi 1 (n:Int)=(((UR n 0 lo:Nat):Int),((UR n n hi:Nat):Int)):=by
 have h1:¬((1:Int)<0):=by omega
 unfold SY
 simp only[h1,if_false]
 refine Q1 ?_ ?_
 ·cases lo with
  | none=>rfl
  | some v=>exact wj v n 0
 ·cases hi with
  | none=>rfl
  | some v=>exact wj v n n
theorem xg (i j:Nat):SX (i:Int) (j:Int) 1=j-i:=by
 unfold SX
 have h1:(1:Int)>0:=by omega
 simp only[h1,if_true,Int.ediv_one]
 split<;>omega
theorem pC {v:Value}{o:Option Int}{Q:Option Int->Q9->Prop}(p:Sj v o)(h:Q o s):wpAny (model prog w) A (Builtin.Slice.slicePartIndex v) Q E s:=by
 cases p with
 | none=>exact slicePart_none h
 | int i t=>exact slicePart_int h
theorem jH {sl:Addr}{vl vu:Value}{lo hi:Option Int}{n:Nat}{Q:Int×Int×Nat->Q9->Prop}(hs:s.heap.IsSliceOf sl vl vu .none)(pl:Sj vl lo)(pu:Sj vu hi)
 (h:Q (((UR n 0 lo:Nat):Int),1,UR n n hi-UR n 0 lo) s):wpAny (model prog w) A (Builtin.Slice.sliceApplied (.ref sl) (pure (n:Int))) Q E s:=by
 obtain⟨os,X8,hcs,Zj⟩:=id hs
 unfold Builtin.Slice.sliceApplied Builtin.Slice.sliceFields
 refine Rb (Rb (Rt X8 Zj (x:=vl) rfl (Rb (Rt X8 Zj (x:=vu) rfl (Rb (Rt X8 Zj (x:=.none) rfl (Rg ?_)))))))
 refine Rb (slicePart_none ?_)
 show wpAny _ _ (if((1:Int)==0)=true then _ else _) _ _ s
 rw[Us (by decide)]
 refine Rb (pC pl (Rb (pC pu (Rb (Rg ?_)))))
 show wpAny _ _ (match SY lo hi 1 (n:Int) with | (lo,hi)=>pure (lo,(1:Int),SX lo hi 1)) _ _ s
 rw[xp lo hi n]
 show wpAny _ _ (pure (((UR n 0 lo:Nat):Int),(1:Int),SX ((UR n 0 lo:Nat):Int) ((UR n n hi:Nat):Int) 1)) _ _ s
 rw[xg]
 exact Rg h
theorem Au (xs:Array Value)(i k:Nat):((O5 k).filterMap λ(m:Nat)=>xs[((i:Int)+(m:Int)*1).toNat]?).toArray=((xs.toList.drop i).take k).toArray:=by
 have e:(λ(m:Nat)=>xs[((i:Int)+(m:Int)*1).toNat]?)=λm=>xs[i+m]?:=by
  funext m
  have:((i:Int)+(m:Int)*1).toNat=i+m:=by omega
  rw[this]
 rw[e]
 have:=pick_run xs i k
 rw[List.filterMap_map] at this
 have e2:((λx=>xs[x]?) ∘ λx=>i+x)=λm=>xs[i+m]?:=rfl
 rw[e2] at this
 rw[this]
theorem m7 {t sl:Addr}{items:Array Value}{vl vu:Value}{lo hi:Option Int}{Q:Value->Q9->Prop}(ht:IsTup s.heap t items)(hs:s.heap.IsSliceOf sl vl vu .none)(pl:Sj vl lo)(pu:Sj vu hi)
 (hw:¬(UR items.size 0 lo=0/\UR items.size items.size hi=items.size))
 (h:Q (.ref s.heap.objs.size) {s with heap:=s.heap.push {cls:=.type "tuple",data:=.seq ((items.toList.drop (UR items.size 0 lo)).take (UR items.size items.size hi-UR items.size 0 lo)).toArray}})
 (hsz:items.size<=Ra):wpAny (model prog w) A (Sa (.ref t) (.ref sl)) Q E s:=by
 have Wv:sizeOk (.seq ((items.toList.drop (UR items.size 0 lo)).take (UR items.size items.size hi-UR items.size 0 lo)).toArray):=by
  show((items.toList.drop (UR items.size 0 lo)).take (UR items.size items.size hi-UR items.size 0 lo)).toArray.size<=Ra
  rw[ON,OY,P1,Om]
  omega
 have hj:UR items.size items.size hi<=items.size:=Gg _ _ (QC _) hi
 obtain⟨os,X8,hcs,Zj⟩:=id hs
 have hTs:s.TypeIs (.ref sl) "slice":=⟨os,X8,hcs⟩
 unfold Sa
 try with_reducible refine R6 ?_
 first | refine Rb (Rg ?_) | skip
 refine Rb (wpAny_sequenceKey ht.typeIs (by decide) ?_)
 refine Rb (Ry (name:=TK "__getitem__") ht.typeIs Q3
  (RR Q3 ht.typeIs entry_tuple_getitem ?_ (args_tuple_getitem _ _)))
 show wpAny _ _ (Builtin.Tuple.tupleItemsOf (.ref t) >>=_) _ _ s
 refine Rb (tupleItemsOf_ ht ?_)
 refine Rb (wpAny_typeOf hTs ?_)
 rw[Ut (by decide)]
 refine Rb (jH hs pl pu ?_)
 have WY:¬((((UR items.size 0 lo:Nat):Int)==0&&(1:Int)==1&&(UR items.size items.size hi-UR items.size 0 lo)==items.size)=true):=by
  intro q
  rw[Oq,Oq] at q
  have q1:((UR items.size 0 lo:Nat):Int)=0:=eq_of_beq q.1.1
  have q2:UR items.size items.size hi-UR items.size 0 lo=items.size:=eq_of_beq q.2
  exact hw ⟨by omega,by omega⟩
 show wpAny _ _ (if(((UR items.size 0 lo:Nat):Int)==0&&(1:Int)==1&&(UR items.size items.size hi-UR items.size 0 lo)==items.size)=true then _ else _) _ _ s
 rw[Us WY,Au]
 first
  | exact Rb (m:=S5 _) (RC (Rg ⟨_,rfl,Rg h⟩) Wv)
  | exact Rb (m:=S5 _) (RC (Rb (Rg (Rg ⟨_,rfl,Rg h⟩))) Wv)
  | exact Rb (Rb (m:=S5 _) (RC (Rg (Rg ⟨_,rfl,Rg h⟩)) Wv))
  | exact Rb (Rb (m:=S5 _) (RC (Rg ⟨_,rfl,Rg h⟩) Wv))
end
end HT
namespace L2
open PySem PySem.Spec PyProof.Rows
abbrev TO:=St->Hp->(Option Int->Hp->Prop)->Prop
def PO (X:Cx)(e:Option Expr)(t:TO):Prop:=
 ∀(UB:Od) (s:Q9) (σ:St) (H:Hp) (Q:Option Int->Hp->Prop),Inv X UB σ H s->t σ H Q->
  wpAny (model X.prog X.w) X.A (evalPart e X.env) (λu s'=>∃o H',Inv X UB σ H' s'/\Sj u o/\Q o H') X.xe s
def EJ:TO:=λ_ H Q=>Q none H
def J5 (t:TE):TO:=λσ H Q=>t σ H λx H1=>∃i,x= .int i/\Q (some i) H1
section
variable {X:Cx}{e:Expr}{te:TE}{lo hi:Option Expr}{tl th:TO}{pos p2:Pos}
theorem D3:PO X none EJ:=by
 intro UB s σ H Q I h
 rw[evalPart_none]
 exact Rg ⟨none,H,I,.none,h⟩
theorem DJ (h:PE X e te):PO X (some e) (J5 te):=by
 intro UB s σ H Q I hw
 rw[evalPart_some]
 refine aX (h UB s σ H _ I hw) λu s1 ⟨x,H1,I1,r1,q1⟩=>?_
 obtain⟨i,rfl,q⟩:=q1
 obtain⟨t,rfl⟩:=r1
 exact⟨some i,H1,I1,.int i t,q⟩
def zZ (X:Cx)(r:V->Option Int->Option Int->Hp->VK->Prop):Prop:=
 ∀(UB:Od) (s:Q9) (σ:St) (H:Hp) (x:V) (v vl vu:Value) (lo hi:Option Int) (sl:Addr) (Q:VK),Inv X UB σ H s->RelV x v->s.heap.IsSliceOf sl vl vu .none->Sj vl lo->Sj vu hi->r x lo hi H Q->
  ∃T id,typeLookup (.type T) "__getitem__"=pure (some (.builtin id))/\s.TypeIs v T/\wpAny (model X.prog X.w) X.A (Sa v (.ref sl)) (EP X UB σ Q) X.xe s
def tSl (r:V->Option Int->Option Int->Hp->VK->Prop)(te:TE)(tl th:TO):TE:=λσ H Q=>te σ H λx H1=>tl σ H1 λl H2=>th σ H2 λu H3=>r x l u H3 Q
theorem lL {r:V->Option Int->Option Int->Hp->VK->Prop}(hr:zZ X r)(he:PE X e te)(hl:PO X lo tl)(hu:PO X hi th):PE X (.Subscript e (.Slice lo hi none p2) pos) (tSl r te tl th):=by
 intro UB s σ H Q I h
 refine Subscript_ (aX (he UB s σ H _ I h) λv s1 ⟨x,H1,I1,r1,q1⟩=>?_)
 refine wpAny_Slice (aX (hl UB s1 σ H1 _ I1 q1) λvl s2 ⟨l,H2,I2,pl,q2⟩=>aX (hu UB s2 σ H2 _ I2 q2) λvu s3 ⟨u,H3,I3,pu,q3⟩=>?_)
 rw[evalPart_none]
 refine Rg ?_
 have I4:Inv X UB σ H3 {s3 with heap:=s3.heap.push {cls:=.type "slice",data:=.fields #[vl,vu,.none]}}:=I3.kept (t':=s3.toks) λb ob q=>Ti _ q
 obtain⟨T,id,hT,ht,hg⟩:=hr UB {s3 with heap:=s3.heap.push {cls:=.type "slice",data:=.fields #[vl,vu,.none]}} σ H3 x v vl vu l u s3.heap.objs.size Q I4 r1 (Heap.IsSliceOf.new ..) pl pu q3
 show wpAny (model X.prog X.w) X.A (Q8 e (.Slice lo hi none p2) v (.ref s3.heap.objs.size)) (EP X UB σ Q) X.xe {s3 with heap:=s3.heap.push {cls:=.type "slice",data:=.fields #[vl,vu,.none]}}
 exact tail_any (ops:=[.ref s3.heap.objs.size,v]) ht hT hg (by with_unfolding_all rfl)
def ky (xs:List V)(lo hi:Option Int):List V:=(xs.drop (HT.UR xs.length 0 lo)).take (HT.UR xs.length xs.length hi-HT.UR xs.length 0 lo)
theorem nv (xs:List V)(lo hi:Option Int):(ky xs lo hi).length<=xs.length:=by
 unfold ky
 rw[OY,P1]
 omega
def Ny (K:T2):V->Option Int->Option Int->Hp->VK->Prop:=λx lo hi H Q=>∃a xs,x= .ref a/\dc K H a xs/\
 ¬(HT.UR xs.length 0 lo=0/\HT.UR xs.length xs.length hi=xs.length)/\∀p,H p=none->Q (.ref p) (upd H p (.tup (ky xs lo hi)))
theorem HH:zZ X (Ny X.K):=by
 intro UB s σ H x v vl vu lo hi sl Q I rx hs pl pu h
 obtain⟨a,xs,rfl,hx,hw,q⟩:=h
 cases rx
 obtain⟨UD,r,ht,hz⟩:=I.tuple hx
 have hlen:UD.toArray.size=xs.length:=by rw[ON];exact r.length.symm
 refine⟨"tuple",_,Q3.lookup,ht.typeIs,?_⟩
 refine HT.m7 ht hs pl pu (by rw[hlen];exact hw) ?_ (by rw[hlen];exact hz)
 rw[hlen]
 refine⟨.ref s.heap.objs.size,_,I.laid (t':=s.toks) (o:=.tup (ky xs lo hi)) (λb ob q=>Ti _ q) (QC _) ?_,rfl,q _ (I.UH.fresh (QC _))⟩
 exact⟨QD (nv xs lo hi) hz,_,(r.drop (HT.UR xs.length 0 lo)).take (HT.UR xs.length xs.length hi-HT.UR xs.length 0 lo),IsTup.new _ _⟩
end
section
variable {α:Type}
def fb (n:Nat)(i:Int):Option Nat:=if 0<=i then(if i<n then some i.toNat else none) else if -(n:Int)<=i then some (i+n).toNat else none
def bU (xs:List α)(i:Int):Option α:=(fb xs.length i).bind λj=>xs[j]?
theorem mJ {n:Nat}{i:Int}{j:Nat}(h:fb n i=some j):seqIndex? i n=some j/\j<n/\ -(n:Int)<=i/\i<n:=by
 unfold fb at h
 by_cases h0:0<=i
 ·rw[Ut h0] at h
  by_cases h1:i<n
  ·rw[Ut h1] at h
   have e:i.toNat=j:=Option.some.inj h
   exact⟨by rw[seqIndex_of h0 h1,e],by omega,by omega,h1⟩
  ·rw[Us h1] at h;cases h
 ·rw[Us h0] at h
  by_cases h1: -(n:Int)<=i
  ·rw[Ut h1] at h
   have e:(i+n).toNat=j:=Option.some.inj h
   exact⟨by rw[seqIndex_neg (by omega) h1,e],by omega,h1,by omega⟩
  ·rw[Us h1] at h;cases h
theorem qm {xs:List α}{i:Int}{v:α}(h:bU xs i=some v):∃j,seqIndex? i xs.length=some j/\xs[j]?=some v/\j<xs.length/\ -(xs.length:Int)<=i/\i<xs.length:=by
 unfold bU at h
 cases e:fb xs.length i with
 | none=>rw[e] at h;cases h
 | some j=>
   rw[e] at h
   obtain⟨h1,h2,h3,h4⟩:=mJ e
   exact⟨j,h1,h,h2,h3,h4⟩
theorem DQ {xs:List α}{j:Nat}{v:α}(h:xs[j]?=some v):bU xs (j:Int)=some v:=by
 have hj:j<xs.length:=(OD.mp h).1
 have e:fb xs.length (j:Int)=some j:=by
  unfold fb
  rw[Ut (by omega),Ut (by omega)];simp
 unfold bU;rw[e];exact h
def eC (b:Expr):Prop:=∀o i,SE b false o i=operate [o,i] (Sa o i)
def Dm (X:Cx)(r:R2):Prop:=
 ∀(value slice:Expr) (UB:Od) (s:Q9) (σ:St) (H:Hp) (x y:V) (v u:Value) (Q:VK),Inv X UB σ H s->RelV x v->RelV y u->r x y H Q->
  SE slice false v u=operate [v,u] (Sa v u)->wpAny (model X.prog X.w) X.A (Q8 value slice v u) (EP X UB σ Q) X.xe s
def wa (X:Cx)(id:String)(r:V->List V->Hp->VK->Prop):Prop:=
 ∀(UB:Od) (s:Q9) (σ:St) (H:Hp) (x:V) (xs:List V) (v:Value) (us:Oi) (Q:VK),Inv X UB σ H s->RelV x v->Vals xs us->r x xs H Q->
  wpAny (model X.prog X.w) X.A (call (.builtin id) (v::us)) (EP X UB σ Q) X.xe s
end
section
variable {X:Cx}{a b:Expr}{ta tb:TE}{pos:Pos}
theorem iJ {r:R2}(hr:Dm X r)(ha:PE X a ta)(hb:PE X b tb)(hs:eC b):PE X (.Subscript a b pos) (B3 r ta tb):=by
 intro UB s σ H Q I h
 exact Subscript_ (Bz ha hb I h λv u s2 x y H2 I2 rx ry q=>hr a b UB s2 σ H2 x y v u Q I2 rx ry q (hs _ _))
def Nl (K:T2):R2:=λx y H Q=>∃p xs i v,x= .ref p/\y= .int i/\aZ K H p xs/\bU xs i=some v/\Q v H
def Nb (K:T2):R2:=λx y H Q=>∃p xs i v,x= .ref p/\y= .int i/\dc K H p xs/\bU xs i=some v/\Q v H
def NH:R2:=λx y H Q=>∃z i c,x= .str z/\y= .int i/\z.length<=Ra/\bU z.cps.toList i=some c/\Q (.str ⟨#[c]⟩) H
theorem iA:Dm X (Nl X.K):=by
 intro value slice UB s σ H x y v u Q I rx ry h hs
 obtain⟨p,xs,i,z,rfl,rfl,hq,he,q⟩:=h
 cases rx
 obtain⟨t,rfl⟩:=ry
 obtain⟨UD,r,pl,hz⟩:=I.list hq
 obtain⟨j,h1,h2,h3,h4,h5⟩:=qm he
 obtain⟨w,ew,Xf⟩:=r.get h2
 have hl:=r.length
 have hn:=jG
 have fin:EP X UB σ Q w s:=⟨z,H,I,Xf,q⟩
 by_cases h0:0<=i
 ·have hj:i.toNat=j:=by
   rw[seqIndex_of h0 h5] at h1
   exact Option.some.inj h1
  exact item_listR pl.isList h0 (by omega) (by rw[hj];simpa using ew) fin hs
 ·have hj:(i+(UD.toArray.size:Int)).toNat=j:=by
   rw[seqIndex_neg (by omega) h4] at h1
   rw[ON,← hl]
   exact Option.some.inj h1
  exact subscriptTail_builtinR (x:=w) pl.isList.typeIs slot_list_getitem.lookup
   (wpAny_getItem_list_neg (Q:=λr s'=>r=w/\EP X UB σ Q r s') pl.isList (by omega) (by rw[ON]<;>omega) (by omega) (by rw[hj];simpa using ew) ⟨rfl,fin⟩) hs
theorem z6:Dm X (Nb X.K):=by
 intro value slice UB s σ H x y v u Q I rx ry h hs
 obtain⟨p,xs,i,z,rfl,rfl,hq,he,q⟩:=h
 cases rx
 obtain⟨t,rfl⟩:=ry
 obtain⟨UD,r,pl,hz⟩:=I.tuple hq
 obtain⟨j,h1,h2,h3,h4,h5⟩:=qm he
 obtain⟨w,ew,Xf⟩:=r.get h2
 have hl:=r.length
 have hn:=jG
 have fin:EP X UB σ Q w s:=⟨z,H,I,Xf,q⟩
 exact subscriptTail_builtinR (x:=w) pl.typeIs slot_tuple_getitem.lookup
  (getItem_tuple (j:=j) (Q:=λr s'=>r=w/\EP X UB σ Q r s') pl (by omega) (by omega) (by rw[ON,← hl];exact h1) (by simpa using ew) ⟨rfl,fin⟩) hs
theorem Jz:Dm X NH:=by
 intro value slice UB s σ H x y v u Q I rx ry h hs
 obtain⟨z,i,c,rfl,rfl,hz,he,q⟩:=h
 obtain⟨t,rfl⟩:=rx
 obtain⟨t',rfl⟩:=ry
 obtain⟨j,h1,h2,h3,h4,h5⟩:=qm he
 have hl:z.cps.toList.length=z.length:=by simp[Str.length]
 rw[hl] at h1 h4 h5
 have hn:=jG
 exact tail_any (Sk s z t) slot_str_getitem.lookup (getItem_str (c:=c) (by
  have e1:decide (i < -(2 ^ 63:Int))=false:=Ux (by omega)
  have e2:decide (i≥2 ^ 63)=false:=Ux (by omega)
  rw[e1,e2,Bool.or_false]) (by rw[h1];simpa using h2) ⟨.str ⟨#[c]⟩,H,I.tok _,⟨_,rfl⟩,q⟩) hs
theorem xt (UD:Oi)(n j:Nat)(u:Value):Tu (·.setIfInBounds j u) {cls:=.type "list",data:=.seq UD.toArray n}={cls:=.type "list",data:=.seq (UD.set j u).toArray n}:=by
 simp[Tu]
theorem Inv.lst {UB:Od}{σ:St}{H:Hp}{s:Q9}{p:Addr}{xs:List V}(I:Inv X UB σ H s)(h:H p=some (.lst xs)):
 ∃(UD:Oi) (n:Nat),Vals xs UD/\s.heap.get? p=some {cls:=.type "list",data:=.seq UD.toArray n}/\xs.length<=Ra:=by
 obtain⟨z,UD,n,r,e⟩:=I.UH p _ h
 exact⟨UD,n,r,e,z⟩
theorem Inv.G6 {UB:Od}{σ:St}{H:Hp}{s:Q9}{p:Addr}{xs ys:List V}{UD its':Oi}{n n':Nat}{f:Obj->Obj}(I:Inv X UB σ H s)(h:H p=some (.lst xs))
 (ho:s.heap.get? p=some {cls:=.type "list",data:=.seq UD.toArray n}) (hf:f {cls:=.type "list",data:=.seq UD.toArray n}={cls:=.type "list",data:=.seq its'.toArray n'}) (r:Vals ys its') (hz:ys.length<=Ra) (t:Nat):
 Inv X UB σ (upd H p (.lst ys)) {s with heap:=s.heap.update p f,toks:=t}:=by
 have e:(s.heap.update p f).get? p=some {cls:=.type "list",data:=.seq its'.toArray n'}:=by
  rw[Tq f ho (by rw[hf]<;>rfl),hf]
 refine I.write (x:=p) (e:=p) (by rw[h];trivial) (.inl rfl) (λb u hb q=>(Heap.get?_update_other _ _ (QW hb)).trans q) ⟨_,e⟩ ?_
 exact⟨hz,its',n',r,e⟩
def Lx:V->V->V->Hp->(Hp->Prop)->Prop:=λo i v H Q=>∃p xs k j,o= .ref p/\i= .int k/\H p=some (.lst xs)/\fb xs.length k=some j/\Q (upd H p (.lst (xs.set j v)))
theorem set_list:JO X Lx:=by
 intro UB s σ H o i v ov iv u Q I ro ri rv h
 obtain⟨p,xs,k,j,rfl,rfl,hp,hj,q⟩:=h
 cases ro
 obtain⟨t,rfl⟩:=ri
 obtain⟨UD,n,r,ho,hz⟩:=I.lst hp
 obtain⟨h1,h2,h3,h4⟩:=mJ hj
 have hl:=r.length
 have hn:=jG
 have I':Inv X UB σ (upd H p (.lst (xs.set j v))) {s with heap:=s.heap.update p (Tu (·.setIfInBounds j u))}:=
  I.G6 hp ho (xt UD n j u) (r.set rv j) (by rw[Pj];exact hz) s.toks
 by_cases h0:0<=k
 ·have hk:k.toNat=j:=by
   rw[seqIndex_of h0 h4] at h1
   exact Option.some.inj h1
  exact PySem.W.ki_setAt ho h0 (by omega) (by rw[ON,← hl];exact h4) (by rw[hk];exact⟨_,I',q⟩)
 ·have hk:(k+(UD.toArray.size:Int)).toNat=j:=by
   rw[seqIndex_neg (by omega) h3] at h1
   rw[ON,← hl]
   exact Option.some.inj h1
  exact PySem.W.ki_setBack ho (by omega) (by rw[ON,← hl];exact h3) (by omega) (by rw[hk];exact⟨_,I',q⟩)
theorem tM (lo hi:Option Int)(n:Nat):(R7 lo hi none n).1=((HT.UR n 0 lo:Nat):Int)/\(R7 lo hi none n).2.1=((HT.UR n n hi:Nat):Int)/\(R7 lo hi none n).2.2=1:=by
 refine⟨?_,?_,rfl⟩
 ·cases lo with
  | none=>simp[R7,HT.UR]
  | some i=>
    simp only[R7,HT.UR,Option.getD_none,show(1:Int)>0 by decide,if_true]
    by_cases h:i<0
    ·simp only[h,if_true]<;>omega
    ·simp only[h,if_false]<;>omega
 ·cases hi with
  | none=>simp[R7,HT.UR]
  | some i=>
    simp only[R7,HT.UR,Option.getD_none,show(1:Int)>0 by decide,if_true]
    by_cases h:i<0
    ·simp only[h,if_true]<;>omega
    ·simp only[h,if_false]<;>omega
theorem rT (UD:Oi)(lo hi:Option Int):slicePick UD.toArray lo hi none=((UD.drop (HT.UR UD.length 0 lo)).take (HT.UR UD.length UD.length hi-HT.UR UD.length 0 lo)).toArray:=by
 obtain⟨h1,h2,h3⟩:=tM lo hi UD.toArray.size
 unfold slicePick
 rw[h1,h2,h3]
 simp only[sliceRange_one,pick_run,ON]<;>rfl
def Nt (K:T2):V->Option Int->Option Int->Hp->VK->Prop:=λx lo hi H Q=>∃a xs,x= .ref a/\aZ K H a xs/\∀p,H p=none->Q (.ref p) (upd H p (.lst (ky xs lo hi)))
theorem EL:zZ X (Nt X.K):=by
 intro UB s σ H x v vl vu lo hi sl Q I rx hs pl pu h
 obtain⟨a,xs,rfl,hx,q⟩:=h
 cases rx
 obtain⟨UD,r,ht,hz⟩:=I.list hx
 have hlen:=r.length
 refine⟨"list",_,slot_list_getitem.lookup,ht.isList.typeIs,?_⟩
 refine wpAny_getItem_list_slice ht.isList hs pl pu .none (by simp) ?_ (by rw[ON]<;>omega)
 rw[rT,← hlen]
 refine⟨.ref s.heap.objs.size,_,I.laid (t':=s.toks) (o:=.lst (ky xs lo hi)) (λb ob q=>Ti _ q) (QC _) ?_,rfl,q _ (I.UH.fresh (QC _))⟩
 exact⟨QD (nv xs lo hi) hz,_,0,(r.drop (HT.UR xs.length 0 lo)).take (HT.UR xs.length xs.length hi-HT.UR xs.length 0 lo),Tn _ rfl⟩
def jk:V->Bool
 | .UQ=>true
 | .bl _=>true
 | .int _=>true
 | .str _=>true
 | _=>false
def pB:V->V->Bool
 | .UQ,.UQ=>true
 | .bl a,.bl b=>a==b
 | .bl a,.int b=>(if a then 1 else 0)==b
 | .int a,.bl b=>a==(if b then 1 else 0)
 | .int a,.int b=>a==b
 | .str a,.str b=>a==b
 | _,_=>false
theorem Gd {A:Ri}{s:Q9}{y x:V}{u v:Value}(ry:RelV y u)(rx:RelV x v)(fy:jk y=true)(fx:jk x=true):Tw A s u v (pB y x):=by
 cases y with
 | UQ=>
   cases ry
   cases x with
   | UQ=>cases rx;exact Tw.same _
   | bl b=>cases rx;exact Tw.none_bool b
   | int b=>obtain⟨t,rfl⟩:=rx;exact Tw.none_int b t
   | str b=>obtain⟨t,rfl⟩:=rx;exact Tw.none_str b t
   | _=>exact Ur (show false=true from fx) Oo
 | bl a=>
   cases ry
   cases x with
   | UQ=>cases rx;exact Tw.bool_none a
   | bl b=>cases rx;exact Tw.bool_bool a b
   | int b=>obtain⟨t,rfl⟩:=rx;exact Tw.bool_int a b t
   | str b=>obtain⟨t,rfl⟩:=rx;exact Tw.bool_str a b t
   | _=>exact Ur (show false=true from fx) Oo
 | int a=>
   obtain⟨t',rfl⟩:=ry
   cases x with
   | UQ=>cases rx;exact Tw.int_none a t'
   | bl b=>cases rx;exact Tw.int_bool a t' b
   | int b=>obtain⟨t,rfl⟩:=rx;exact Tw.int_int a t' b t
   | str b=>obtain⟨t,rfl⟩:=rx;exact Tw.int_str a t' b t
   | _=>exact Ur (show false=true from fx) Oo
 | str a=>
   obtain⟨t',rfl⟩:=ry
   cases x with
   | UQ=>cases rx;exact Tw.str_none a t'
   | bl b=>cases rx;exact Tw.str_bool a t' b
   | int b=>obtain⟨t,rfl⟩:=rx;exact Tw.str_int a t' b t
   | str b=>obtain⟨t,rfl⟩:=rx;exact Tw.str_str a t' b t
   | _=>exact Ur (show false=true from fx) Oo
 | _=>exact Ur (show false=true from fy) Oo
def jL (x:V)(u:Value):Bool:=match u with
 | .none=>pB .UQ x
 | .bool b=>pB (.bl b) x
 | .int i _=>pB (.int i) x
 | .str z _=>pB (.str z) x
 | _=>false
theorem zF {x y:V}{u:Value}(r:RelV y u)(f:jk y=true):jL x u=pB y x:=by
 cases y with
 | UQ=>cases r;rfl
 | bl b=>cases r;rfl
 | int i=>obtain⟨t,rfl⟩:=r;rfl
 | str z=>obtain⟨t,rfl⟩:=r;rfl
 | _=>exact Ur (show false=true from f) Oo
theorem kS {x:V}:∀{xs:List V} {us:Oi},Vals xs us->xs.all jk=true->us.any (jL x)=xs.any λy=>pB y x
 | _,_,.nil,_=>rfl
 | y::xs,u::us,.cons r t,f=>by
   rw[all_cons,Oq] at f
   rw[Qq,Qq,zF r f.1,kS t f.2]
theorem jS {A:Ri}{s:Q9}{x:V}{v:Value}(rx:RelV x v)(fx:jk x=true):∀{xs:List V} {us:Oi},Vals xs us->xs.all jk=true->∀u∈us,Tw A s u v (jL x u)
 | _,_,.nil,_=>λu hu=>by cases hu
 | y::xs,u::us,.cons r t,f=>λu' hu=>by
   rw[all_cons,Oq] at f
   rcases OT.mp hu with rfl | hu
   ·rw[zF r f.1];exact Gd r rx f.1 fx
   ·exact jS rx fx t f.2 u' hu
def Dt (x:V)(xs:List V):Bool:=xs.any λy=>pB y x
def MC (K:T2)(neg:Bool):R2:=λx y H Q=>∃p xs,y= .ref p/\(aZ K H p xs∨dc K H p xs)/\jk x=true/\xs.all jk=true/\Q (.bl (if neg then !Dt x xs else Dt x xs)) H
theorem qH:dP X (Ro .In) (MC X.K false):=by
 intro UB s σ H x y v u Q I rx ry h
 obtain⟨p,xs,rfl,hq,fx,fs,q⟩:=h
 cases ry
 rcases hq with hq | hq
 ·obtain⟨UD,r,pl,hz⟩:=I.list hq
  refine SeqAt.in_listAt (jL x) pl.isList (λw hw=>jS rx fx r fs w (by simpa using hw)) ⟨.bl _,H,I,rfl,?_⟩
  rw[show UD.toArray.any (jL x)=UD.any (jL x) by simp,kS r fs]
  exact q
 ·obtain⟨UD,r,pl,hz⟩:=I.tuple hq
  refine SeqAt.in_tupleAt (jL x) pl (λw hw=>jS rx fx r fs w (by simpa using hw)) ⟨.bl _,H,I,rfl,?_⟩
  rw[show UD.toArray.any (jL x)=UD.any (jL x) by simp,kS r fs]
  exact q
theorem uX:dP X (Ro .NotIn) (MC X.K true):=by
 intro UB s σ H x y v u Q I rx ry h
 obtain⟨p,xs,rfl,hq,fx,fs,q⟩:=h
 cases ry
 rcases hq with hq | hq
 ·obtain⟨UD,r,pl,hz⟩:=I.list hq
  refine SeqAt.notIn_listAt (jL x) pl.isList (λw hw=>jS rx fx r fs w (by simpa using hw)) ⟨.bl _,H,I,rfl,?_⟩
  rw[show UD.toArray.any (jL x)=UD.any (jL x) by simp,kS r fs]
  exact q
 ·obtain⟨UD,r,pl,hz⟩:=I.tuple hq
  refine SeqAt.notIn_tupleAt (jL x) pl (λw hw=>jS rx fx r fs w (by simpa using hw)) ⟨.bl _,H,I,rfl,?_⟩
  rw[show UD.toArray.any (jL x)=UD.any (jL x) by simp,kS r fs]
  exact q
theorem fF:eR X (.builtin "len") (λxs H Q=>∃p ys,xs=[.ref p]/\(aZ X.K H p ys∨dc X.K H p ys)/\Q (.int ys.length) H):=by
 intro UB s σ H xs us Q I r h
 obtain⟨p,ys,rfl,hq,q⟩:=h
 obtain⟨u,rfl,rx⟩:=vals1 r
 cases rx
 have hn:=jG
 rcases hq with hq | hq
 ·obtain⟨UD,r',pl,hz⟩:=I.list hq
  have hlen:=r'.length
  exact Calls.call_len_list pl.isList (by simp only[ON]<;>omega) ⟨.int ys.length,H,I.tok _,⟨s.toks+1,by rw[ON,hlen]⟩,q⟩
 ·obtain⟨UD,r',pl,hz⟩:=I.tuple hq
  have hlen:=r'.length
  exact len_tuple pl (by simp only[ON]<;>omega) ⟨.int ys.length,H,I.tok _,⟨s.toks+1,by rw[ON,hlen]⟩,q⟩
theorem tP:eR X (.builtin "len") (λxs H Q=>∃z,xs=[.str z]/\z.length<=Ra/\Q (.int z.length) H):=by
 intro UB s σ H xs us Q I r h
 obtain⟨z,rfl,hz,q⟩:=h
 obtain⟨u,rfl,t,rfl⟩:=vals1 r
 have hn:=jG
 exact len_str (by omega) ⟨.int z.length,H,I.tok _,⟨_,rfl⟩,q⟩
theorem uI:eR X (.type "list") (λxs H Q=>∃p ys,xs=[.ref p]/\(aZ X.K H p ys∨dc X.K H p ys)/\∀l,H l=none->Q (.ref l) (upd H l (.lst ys))):=by
 intro UB s σ H xs us Q I r h
 obtain⟨p,ys,rfl,hq,q⟩:=h
 obtain⟨u,rfl,rx⟩:=vals1 r
 cases rx
 have fin:∀(UD:Oi),Vals ys UD->ys.length<=Ra->∀(h':Heap) (c':Nat),(∀b o',s.heap.get? b=some o'->h'.get? b=some o')->
  h'.get? s.heap.objs.size=some {cls:=.type "list",dict:=none,data:=.seq UD.toArray c',slots:= #[]}->EP X UB σ Q (.ref s.heap.objs.size) {s with heap:=h'}:=λUD r' hz h' c' kp e=>
  ⟨.ref s.heap.objs.size,_,I.laid (t':=s.toks) kp (QC _) (show cL X.prog X.w _ h' _ (.lst ys) from⟨hz,UD,c',r',e⟩),rfl,q _ (I.UH.fresh (QC _))⟩
 rcases hq with hq | hq
 ·obtain⟨UD,r',pl,hz⟩:=I.list hq
  have hlen:=r'.length
  obtain⟨o,ho,hc,n,hd⟩:=pl.isList
  exact call_list_seq p (.inl rfl) ho hc hd (λh' c' kp e=>fin UD r' hz h' c' kp e) (by simp only[ON]<;>omega)
 ·obtain⟨UD,r',pl,hz⟩:=I.tuple hq
  have hlen:=r'.length
  obtain⟨o,ho,hc,n,hd⟩:=pl
  exact call_list_seq p (.inr rfl) ho hc hd (λh' c' kp e=>fin UD r' hz h' c' kp e) (by simp only[ON]<;>omega)
def HZ (K:T2)(T:String)(x:V)(H:Hp):Prop:=match x with
 | .str _=>T="str"
 | .int _=>T="int"
 | .ref p=>(T="list"/\∃xs,aZ K H p xs)∨(T="tuple"/\∃o,K.lookup p=some o/\o.cls= .type "tuple"/\o.dict=none)∨
  (T="dict"/\((∃kvs,H p=some (.dK kvs))∨∃kvs,H p=some (.dT kvs)))∨(T="set"/\∃S n,H p=some (.set S n))
 | _=>False
theorem Ah {UB:Od}{σ:St}{H:Hp}{s:Q9}{T:String}{x:V}{v:Value}(I:Inv X UB σ H s)(r:RelV x v)(ty:HZ X.K T x H):
 s.TypeIs v T/\∀a,v= .ref a->∃ob,s.heap.get? a=some ob/\ob.dict=none:=by
 cases x with
 | str z=>
   obtain⟨t,rfl⟩:=r
   cases (show T="str" from ty)
   exact⟨Sk s z t,λ_ e=>nomatch e⟩
 | int i=>
   obtain⟨t,rfl⟩:=r
   cases (show T="int" from ty)
   exact⟨typeIs_int s i t,λ_ e=>nomatch e⟩
 | ref p=>
   cases r
   rcases ty with⟨rfl,xs,hq⟩ | ⟨rfl,o,hk,hc,hd⟩ | ⟨rfl,hk⟩ | ⟨rfl,S,n,hk⟩
   ·obtain⟨UD,_,pl,_⟩:=I.list hq
    refine⟨pl.isList.typeIs,λa e=>?_⟩
    cases e
    obtain⟨o,n,e,c,hd,_⟩:=pl
    exact⟨o,e,hd⟩
   ·refine⟨⟨o,I.fe p o hk,hc⟩,λa e=>?_⟩
    cases e
    exact⟨o,I.fe _ o hk,hd⟩
   ·have z:∃o,s.heap.get? p=some o/\o.ExactDict:=by
     rcases hk with⟨kvs,hk⟩ | ⟨kvs,hk⟩
     ·obtain⟨_,_,_,_,o,_,_,e,ex,_⟩:=I.UH p _ hk
      exact⟨o,e,ex⟩
     ·obtain⟨_,_,_,_,o,_,_,e,ex,_⟩:=I.UH p _ hk
      exact⟨o,e,ex⟩
    obtain⟨o,e,ex⟩:=z
    refine⟨⟨o,e,ex.1⟩,λa e2=>?_⟩
    cases e2
    exact⟨o,e,ex.2.1⟩
   ·obtain⟨o,_,_,_,e,ex,_⟩:=I.UH p _ hk
    refine⟨⟨o,e,ex.1⟩,λa e2=>?_⟩
    cases e2
    exact⟨o,e,ex.2.1⟩
 | _=>exact Ow ty
def Na (K:T2)(T:String)(r:V->List V->Hp->VK->Prop)(to:TE):TE:=λσ H Q=>to σ H λx H1=>HZ K T x H1/\r x [] H1 Q
def tBM (K:T2)(T:String)(r:V->List V->Hp->VK->Prop)(to:TE)(t:TA):TE:=λσ H Q=>to σ H λx H1=>HZ K T x H1/\t σ H1 λxs H2=>r x xs H2 Q
variable {o e:Expr}{es:Oj}{to:TE}{t:TA}{name:Str}{apos Vp:Pos}{T id:String}{r:V->List V->Hp->VK->Prop}
theorem Hm (pa:PlainAttrs T)(slot:Slot T name id)(hty:typeOf (.builtin id)=pure (.type "method_descriptor"))(hm:wa X id r)(ho:PE X o to)
 (UO:Rj o name X.env (eval o X.env)=eval o X.env:=by rfl) (UN:(apos.endLine==Vp.line)=true:=by rfl):PE X (.Call (.Attribute o name apos) [] [] Vp) (Na X.K T r to):=by
 intro UB s σ H Q I h
 refine wpAny_Call_method0_late UO UN (aX (ho UB s σ H _ I h) λv s1 ⟨x,H1,I1,r1,ty,q1⟩=>?_)
 obtain⟨h1,h2⟩:=Ah I1 r1 ty
 exact⟨T,id,pa,slot,hty,h1,h2,S6 rfl (PySem.evalArgs_none (hm UB s1 σ H1 x [] v [] Q I1 r1 .nil q1))⟩
theorem iI (pa:PlainAttrs T)(slot:Slot T name id)(hty:typeOf (.builtin id)=pure (.type "method_descriptor"))(hm:wa X id r)(ho:PE X o to)(ha:PA X (e::es) t)
 (UO:Rj o name X.env (eval o X.env)=eval o X.env:=by rfl)
 (U6:((Rk Vp (Rc (e::es) X.env)).all (λx=> !x.1)&&(RS Vp (RA [] X.env)).all (λx=>x.1.isSome)
  &&decide ((e::es).length+([]:List Rp).length+(if([]:List Rp).isEmpty then 0 else 1)<30))=true:=by rfl)
 (UN:(apos.endLine==Vp.line)=true:=by rfl) (hs:Rc (e::es) X.env=(false,eval e X.env)::Rc es X.env:=by rfl) (X7:(Rk Vp (Rc es X.env)).any (·.1)=false:=by rfl):
 PE X (.Call (.Attribute o name apos) (e::es) [] Vp) (tBM X.K T r to t):=by
 intro UB s σ H Q I h
 refine wpAny_Call_method_late UO U6 UN rfl (aX (ho UB s σ H _ I h) λv s1 ⟨x,H1,I1,r1,ty,q1⟩=>?_)
 obtain⟨h1,h2⟩:=Ah I1 r1 ty
 refine⟨T,id,pa,slot,hty,h1,h2,?_⟩
 have hA:=ha Vp UB s1 σ H1 _ I1 q1
 rw[hs] at hA ⊢
 refine S6 (by show(false ||(Rk Vp (Rc es X.env)).any (·.1))=false;rw[X7]<;>rfl) (Calls.evalArgs_plain ?_)
 exact aX hA λus s2 ⟨vs,H2,I2,r2,q2⟩=>hm UB s2 σ H2 x vs v us Q I2 r1 r2 q2
end
def Dn (X:Cx)(id:String)(r:V->List V->Hp->VK->Prop):Prop:=
 ∀(UB:Od) (s:Q9) (σ:St) (H:Hp) (x:V) (xs:List V) (v:Value) (us:Oi) (Q:VK),Inv X UB σ H s->RelV x v->Vals xs us->r x xs H Q->
  wpAny (model X.prog X.w) X.A (call (.builtin id) (v::us)) (EP X UB σ Q) X.xe s
theorem Vals.one:∀{x:V} {us:Oi},Vals [x] us->∃u,us=[u]/\RelV x u
 | _,_,.cons r .nil=>⟨_,rfl,r⟩
theorem Vals.zero:∀{us:Oi},Vals [] us->us=[]
 | _,.nil=>rfl
theorem Vals.dropLast {xs:List V}{us:Oi}(h:Vals xs us):Vals xs.dropLast us.dropLast:=by
 induction h with
 | nil=>exact .nil
 | cons r t ih=>
   cases t with
   | nil=>exact .nil
   | cons q t'=>exact .cons r ih
theorem xK {α:Type}(l:List α):l.eraseIdx (l.length-1)=l.dropLast:=by
 induction l with
 | nil=>rfl
 | cons a r ih=>
   cases r with
   | nil=>rfl
   | cons b r=>
     have e:(a::b::r).length-1=((b::r).length-1)+1:=by
      have h1:(a::b::r).length=r.length+2:=rfl
      have h2:(b::r).length=r.length+1:=rfl
      omega
     rw[e,List.eraseIdx_cons_succ,ih]
     all_goals rfl
section
variable {X:Cx}{UB:Od}{σ:St}{H:Hp}{s:Q9}{l b:Addr}{xs ys zs:List V}
theorem Inv.xQ {UD its':Oi}{n:Nat}{f:Array Value->Array Value}{t':Nat}(I:Inv X UB σ H s)(hH:H l=some (.lst xs))
 (e:s.heap.get? l=some {cls:=.type "list",data:=.seq UD.toArray n}) (hf:f UD.toArray=its'.toArray) (hv:Vals ys its') (hz:ys.length<=Ra):
 Inv X UB σ (upd H l (.lst ys)) {s with heap:=s.heap.update l (Tu f),toks:=t'}:=by
 have q:=PySem.IsL.update e f
 rw[hf] at q
 refine I.write (x:=l) (e:=l) (by rw[hH];exact trivial) (.inl rfl) (λb' u hb hu=>(Heap.get?_update_other s.heap (Tu f) (QW hb)).trans hu) ⟨_,q⟩ ?_
 exact⟨hz,its',_,hv,q⟩
theorem Inv.NY {UD:Oi}{t':Nat}(I:Inv X UB σ H s)(hv:Vals ys UD)(hz:ys.length<=Ra):
 Inv X UB σ (upd H s.heap.objs.size (.lst ys)) {s with heap:=s.heap.push {cls:=.type "list",data:=.seq UD.toArray},toks:=t'}:=
 I.laid (λ_ _ q=>Ti _ q) (QC _) ⟨hz,UD,0,hv,Tn _ rfl⟩
theorem Inv.fresh (I:Inv X UB σ H s):H s.heap.objs.size=none:=I.UH.fresh (QC _)
theorem Inv.lA (I:Inv X UB σ H s)(hH:H l=some (.lst xs)):xs.length<=Ra/\∃(UD:Oi) (n:Nat),Vals xs UD/\xs.length=UD.length/\s.heap.get? l=some {cls:=.type "list",data:=.seq UD.toArray n}:=by
 obtain⟨z,UD,n,r,e⟩:=I.UH l _ hH
 exact⟨z,UD,n,r,r.length,e⟩
theorem Bi {n:Nat}(h:n<=Ra):SV n=false:=by
 unfold SV
 exact Ux (by omega)
end
section
variable {X:Cx}
def Ef:V->List V->Hp->VK->Prop:=λx vs H Q=>∃l xs y,x= .ref l/\vs=[y]/\H l=some (.lst xs)/\xs.length<Ra/\Q .UQ (upd H l (.lst (xs++[y])))
theorem j4:Dn X "list.append" Ef:=by
 intro UB s σ H x vs v us Q I rx rv h
 obtain⟨l,xs,y,rfl,rfl,hH,hz,q⟩:=h
 cases rx
 obtain⟨u,rfl,ru⟩:=rv.one
 obtain⟨z,UD,n,r,hl,e⟩:=I.lA hH
 refine RY F.slot_list_append ⟨_,e,rfl⟩ F.entry_list_append (F.args_list_append_2 _ _) (PySem.list_append l UD.toArray n u (by rw[ON];omega)) ⟨e,?_⟩
 refine⟨.UQ,_,I.xQ (its':=UD++[u]) hH e (by simp) (r.append (.cons ru .nil)) ?_,rfl,q⟩
 rw[OI,O4]
 omega
def ES:V->List V->Hp->VK->Prop:=λx vs H Q=>∃l b xs zs,x= .ref l/\vs=[.ref b]/\H l=some (.lst xs)/\H b=some (.lst zs)/\xs.length+zs.length<=Ra/\Q .UQ (upd H l (.lst (xs++zs)))
theorem z4:Dn X "list.extend" ES:=by
 intro UB s σ H x vs v us Q I rx rv h
 obtain⟨l,b,xs,zs,rfl,rfl,hH,hB,hz,q⟩:=h
 cases rx
 obtain⟨u,rfl,ru⟩:=rv.one
 cases ru
 obtain⟨z,UD,n,r,hl,e⟩:=I.lA hH
 obtain⟨z2,Wj,n2,r2,Xo,e2⟩:=I.lA hB
 have hsz:UD.toArray.size+Wj.toArray.size<=Ra:=by rw[ON,ON];omega
 have Zc:¬(!UD.toArray.isEmpty&&SV (UD.toArray.size+Wj.toArray.size))=true:=by
  rw[Bi hsz,Bool.and_false]
  exact Oo
 refine RY F.slot_list_extend ⟨_,e,rfl⟩ F.entry_list_extend (F.args_list_extend_2 _ _)
  (AutoSeq1.list_extend_list_list_0 l UD.toArray n b Wj.toArray n2 Zc (by rw[ON];omega) (by omega)) ⟨e,e2,?_⟩
 refine⟨.UQ,_,I.xQ (its':=UD++Wj) hH e (by simp) (r.append r2) ?_,rfl,q⟩
 rw[OI]
 omega
def NO:V->List V->Hp->VK->Prop:=λx vs H Q=>∃l xs y,x= .ref l/\vs=[]/\H l=some (.lst xs)/\xs[xs.length-1]?=some y/\Q y (upd H l (.lst xs.dropLast))
theorem HS:Dn X "list.pop" NO:=by
 intro UB s σ H x vs v us Q I rx rv h
 obtain⟨l,xs,y,rfl,rfl,hH,hy,q⟩:=h
 cases rx
 have hus:=rv.zero
 subst hus
 obtain⟨z,UD,n,r,hl,e⟩:=I.lA hH
 obtain⟨u,hu,ru⟩:=r.get hy
 have YT:UD.toArray[UD.toArray.size-1]?=some u:=by
  show UD.toArray[UD.length-1]?=some u
  rw[← Array.getElem?_toList,← hl]
  exact hu
 refine RY F.slot_list_pop ⟨_,e,rfl⟩ F.entry_list_pop (F.args_list_pop_1 _) (MeetsSeq.list_pop_last l UD.toArray n u YT (by rw[ON];omega)) ⟨e,?_⟩
 refine⟨y,_,I.xQ (its':=UD.dropLast) hH e ?_ r.dropLast ?_,ru,q⟩
 ·show UD.toArray.eraseIdxIfInBounds (UD.toArray.size-1)=UD.dropLast.toArray
  rw[ON,List.eraseIdxIfInBounds_toArray,xK]
 ·rw[PH]
  omega
def N5:R2:=λx y H Q=>∃l b xs zs,x= .ref l/\y= .ref b/\H l=some (.lst xs)/\H b=some (.lst zs)/\xs.length+zs.length<=Ra/\∀p,H p=none->Q (.ref p) (upd H p (.lst (xs++zs)))
theorem Gm:dP X (RQ .Add) N5:=by
 intro UB s σ H x y v u Q I rx ry h
 obtain⟨l,b,xs,zs,rfl,rfl,hH,hB,hz,q⟩:=h
 cases rx
 cases ry
 obtain⟨z,UD,n,r,hl,e⟩:=I.lA hH
 obtain⟨z2,Wj,n2,r2,Xo,e2⟩:=I.lA hB
 refine PySem.P.add_list e e2 ?_ (by rw[ON,ON];omega)
 have ea:UD.toArray++Wj.toArray=(UD++Wj).toArray:=by simp
 rw[ea]
 exact⟨.ref _,_,I.NY (t':=s.toks) (r.append r2) (by rw[OI];omega),rfl,q _ I.fresh⟩
end
section
variable {prog:Rh}{w:World}{A:Ri}{E:Value->Q9->Prop}{s:Q9}
end
section
variable {X:Cx}
end
section
variable {κ:Type} [DecidableEq κ]
variable {kvs:List (κ×V)}{vs:List (κ×Value)}
def cW (kvs:List (κ×V))(k:κ):Option V:=(kvs.find? λkv=>decide (kv.1=k)).map (·.2)
def putK (kvs:List (κ×V))(k:κ)(v:V):List (κ×V):=
 if(kvs.any λkv=>decide (kv.1=k))=true then kvs.map (λkv=>if kv.1=k then(kv.1,v) else kv) else kvs++[(k,v)]
theorem dv {p:κ×V}{r:List (κ×V)}{k:κ}(e:p.1=k):cW (p::r) k=some p.2:=by simp[cW,PJ,e]
theorem da {p:κ×V}{r:List (κ×V)}{k:κ}(e:¬p.1=k):cW (p::r) k=cW r k:=by simp[cW,PJ,e]
theorem gF (k:κ):∀kvs:List (κ×V),(kvs.any λkv=>decide (kv.1=k))=(cW kvs k).isSome
 | []=>rfl
 | p::r=>by
   rw[Qq]
   by_cases e:p.1=k
   ·simp only[dv e,Uw e,Bool.true_or,Option.isSome_some]
   ·rw[da e,Ux e,Bool.false_or];exact gF k r
theorem uP (k j:κ)(y:V):∀kvs:List (κ×V),cW (kvs.map λkv=>if kv.1=k then(kv.1,y) else kv) j=(cW kvs j).map λx=>if j=k then y else x
 | []=>rfl
 | p::r=>by
   have ih:=uP k j y r
   rw[Pc]
   by_cases h:p.1=k
   ·rw[Ut h]
    by_cases e:p.1=j
    ·rw[dv (p:=(p.1,y)) e,dv e,QZ,Ut (e.symm.trans h)]
    ·rw[da (p:=(p.1,y)) e,da e,ih]
   ·rw[Us h]
    by_cases e:p.1=j
    ·rw[dv (p:=p) e,dv e,QZ,Us (λz=>h (e.trans z))]
    ·rw[da (p:=p) e,da e,ih]
theorem qM (k j:κ)(y:V):∀kvs:List (κ×V),cW kvs k=none->cW (kvs++[(k,y)]) j=if j=k then some y else cW kvs j
 | [],_=>by
   by_cases e:k=j
   ·rw[Ut e.symm];exact dv (p:=(k,y)) e
   ·rw[Us (λz=>e z.symm)];exact da (p:=(k,y)) e
 | p::r,hn=>by
   rw[Qk]
   have hk:¬p.1=k:=λz=>by rw[dv z] at hn;cases hn
   rw[da hk] at hn
   have ih:=qM k j y r hn
   by_cases e:p.1=j
   ·rw[dv e,dv e,Us (λz=>hk (e.trans z))]
   ·rw[da e,da e,ih]
theorem BC (kvs:List (κ×V))(k j:κ)(y:V):cW (putK kvs k y) j=if j=k then some y else cW kvs j:=by
 unfold putK
 by_cases a:(kvs.any λkv=>decide (kv.1=k))=true
 ·rw[Ut a,uP]
  rw[gF] at a
  by_cases e:j=k
  ·obtain⟨x,hx⟩:=Option.isSome_iff_exists.mp a
   rw[Ut e,e,hx,QZ,Ut rfl]
  ·rw[Us e]
   cases cW kvs j with
   | none=>rfl
   | some x=>rw[QZ,Us e]
 ·rw[Us a]
  refine qM k j y kvs ?_
  rw[gF] at a
  cases q:cW kvs k with
  | none=>rfl
  | some x=>rw[q] at a;exact(a rfl).elim
theorem kz (kvs:List (κ×V))(k:κ)(v:V):(putK kvs k v).length<=kvs.length+1:=by
 unfold putK
 split
 ·rw[OH];omega
 ·rw[OI,OP,O8];omega
theorem nZ {k:κ}(v:V)(h:cW kvs k=none):putK kvs k v=kvs++[(k,v)]:=by
 unfold putK
 rw[gF,h]
 exact Us (by decide)
theorem iG.i9 {o:Option V}{u:Og}(r:iG o u):o.isSome=u.isSome:=by
 cases o with
 | none=>cases u with
   | none=>rfl
   | some _=>exact(show False from r).elim
 | some _=>cases u with
   | none=>exact(show False from r).elim
   | some _=>rfl
theorem KV.val (r:KV kvs vs)(k:κ):iG (cW kvs k) (RG vs k):=by
 unfold KV at r
 induction r with
 | nil=>exact Uq
 | @cons p q ps qs h t ih=>
   obtain⟨h1,h2⟩:=h
   by_cases e:p.1=k
   ·have e':q.1=k:=h1.symm.trans e
    have b:RG (q::qs) k=some q.2:=by simp[RG,PJ,e']
    rw[dv e,b];exact h2
   ·have e':¬q.1=k:=λz=>e (h1.trans z)
    have b:RG (q::qs) k=RG qs k:=by simp[RG,PJ,e']
    rw[da e,b];exact ih
theorem KV.any (r:KV kvs vs)(k:κ):(kvs.any λkv=>decide (kv.1=k))=vs.any λkv=>decide (kv.1=k):=by
 unfold KV at r
 induction r with
 | nil=>rfl
 | cons h t ih=>rw[Qq,Qq,ih,h.1]
theorem KV.AV (r:KV kvs vs)(k:κ){y:V}{u:Value}(ry:RelV y u):
 KV (kvs.map λkv=>if kv.1=k then(kv.1,y) else kv) (vs.map λkv=>if kv.1=k then(kv.1,u) else kv):=by
 unfold KV at r ⊢
 induction r with
 | nil=>exact .nil
 | @cons p q ps qs h t ih=>
   rw[Pc,Pc]
   refine .cons ?_ ih
   obtain⟨h1,h2⟩:=h
   by_cases e:p.1=k
   ·rw[Ut e,Ut (h1.symm.trans e)];exact⟨h1,ry⟩
   ·rw[Us e,Us (λz=>e (h1.trans z))];exact⟨h1,h2⟩
theorem KV.put (r:KV kvs vs)(k:κ){y:V}{u:Value}(ry:RelV y u):KV (putK kvs k y) (SK vs k u):=by
 unfold putK SK
 rw[r.any k]
 by_cases e:(vs.any λkv=>decide (kv.1=k))=true
 ·rw[Ut e,Ut e];exact r.AV k ry
 ·rw[Us e,Us e];exact Paired.snoc r ⟨rfl,ry⟩
theorem KV.length (r:KV kvs vs):kvs.length=vs.length:=Paired.length r
end
section
variable {H:Hp}{kvs:List (List Key×V)}{xs:List (List Key×Addr×Value)}{u:Value}
theorem jh {P:Rh}{w:World}{k:Key}(r:RelV (kV k) u):(bY P w).is k u=true:=by
 cases k with
 | inl i=>obtain⟨t,e⟩:=(show∃t,u=TR i t from r);subst e;exact u9 P w i t
 | inr x=>obtain⟨t,e⟩:=(show∃t,u=TU x t from r);subst e;exact dy P w x t
theorem rC {P:Rh}{w:World}:∀{ks:List Key} {us:Oi},Vals (ks.map kV) us->ItemsAre (bY P w) ks us
 | [],_,r=>by rw[Qv] at r;cases r;exact .nil
 | k::ks,_,r=>by
   rw[Pc] at r
   cases r with
   | cons h t=>exact .cons (jh h) (rC t)
abbrev KT (H:Hp):List (List Key×V)->List (List Key×Addr×Value)->Prop:=Paired λp q=>p.1=q.1/\H q.2.1=some (.tup (p.1.map kV))/\RelV p.2 q.2.2
theorem KT.val (r:KT H kvs xs)(k:List Key):iG (cW kvs k) ((atKey xs k).map (·.2)):=by
 induction r with
 | nil=>exact Uq
 | @cons p q ps qs h t ih=>
   obtain⟨h1,_,h2⟩:=h
   by_cases e:p.1=k
   ·have e':q.1=k:=h1.symm.trans e
    have b:atKey (q::qs) k=some q.2:=by simp[atKey,PJ,e']
    rw[dv e,b];exact h2
   ·have e':¬q.1=k:=λz=>e (h1.trans z)
    have b:atKey (q::qs) k=atKey qs k:=by simp[atKey,PJ,e']
    rw[da e,b];exact ih
theorem KT.AV (r:KT H kvs xs)(k:List Key){y:V}(ry:RelV y u):
 KT H (kvs.map λkv=>if kv.1=k then(kv.1,y) else kv) (xs.map (putAt k u)):=by
 induction r with
 | nil=>exact .nil
 | @cons p q ps qs h t ih=>
   rw[Pc,Pc]
   refine .cons ?_ ih
   obtain⟨h1,h2,h3⟩:=h
   unfold putAt
   by_cases e:p.1=k
   ·rw[Ut e,Ut (h1.symm.trans e)];exact⟨h1,h2,ry⟩
   ·rw[Us e,Us (λz=>e (h1.trans z))];exact⟨h1,h2,h3⟩
theorem KT.put (r:KT H kvs xs)(k:List Key){b:Addr}{y:V}(hb:H b=some (.tup (k.map kV)))(ry:RelV y u):
 KT H (putK kvs k y) (storedH xs k b u):=by
 have e:(kvs.any λkv=>decide (kv.1=k))=(atKey xs k).isSome:=by
  rw[gF,(r.val k).i9,Q0]
 unfold putK storedH
 rw[e]
 by_cases q:(atKey xs k).isSome=true
 ·rw[Ut q,Ut q];exact r.AV k ry
 ·rw[Us q,Us q];exact Paired.snoc r ⟨rfl,hb,ry⟩
theorem KT.keeps {H':Hp}(r:KT H kvs xs)(ht:∀b ys,H b=some (.tup ys)->H' b=some (.tup ys)):KT H' kvs xs:=
 Paired.Bh r λ_ _ z=>⟨z.1,ht _ _ z.2.1,z.2.2⟩
end
section
variable {P:Rh}{w:World}{H:Hp}{h:Heap}{a:Addr}
theorem Dp {u:HO}(ok:dZ P w H h)(e:Rd H a u):cL P w H h a u:=e.ok ok
theorem mW {kvs:List (Key×V)}(ok:dZ P w H h)(e:Rd H a (.dK kvs)):kvs.length<=Ra/\(a==Rx)=false/\∃vs,KV kvs vs/\h.DictOf (bY P w) a vs:=
 show cL P w H h a (.dK kvs) from Dp ok e
theorem wV {kvs:List (Key×V)}(ok:dZ P w H h)(e:H a=some (.dK kvs)):kvs.length<=Ra/\(a==Rx)=false/\∃vs,KV kvs vs/\h.DictOf (bY P w) a vs:=mW ok (.inl e)
theorem mq {ks:List Key}(ok:dZ P w H h)(e:H a=some (.tup (ks.map kV))):(Sx (bY P w)).is h ks a:=by
 obtain⟨_,UD,r,o,h1,h2,n,h3⟩:=(show cL P w H h a (.tup (ks.map kV)) from ok a _ e)
 exact⟨o,UD.toArray,n,h1,h2,h3,by simpa using rC r⟩
theorem ot {kvs:List (List Key×V)}(ok:dZ P w H h)(e:Rd H a (.dT kvs)):kvs.length<=Ra/\(a==Rx)=false/\
 ∃xs,KT H kvs xs/\h.DictOfH (Sx (bY P w)) a xs:=by
 obtain⟨z,y,xs,r,o,es,ep,h1,h2,h3,h4,h5⟩:=(show cL P w H h a (.dT kvs) from Dp ok e)
 refine⟨z,y,xs,r,o,es,ep,h1,h2,h3,h4,λx hx=>?_,h5⟩
 have all:∀{l:List (List Key×V)} {m:List (List Key×Addr×Value)},KT H l m->∀x∈m,(Sx (bY P w)).is h x.1 x.2.1:=by
  intro l m q
  induction q with
  | nil=>intro x hx;exact nomatch hx
  | @cons p q ps qs hq t ih=>
    intro x hx
    rcases OT.mp hx with e | hx
    ·subst e
     exact mq ok (by rw[← hq.1];exact hq.2.1)
    ·exact ih x hx
 exact all r x hx
theorem Lg {kvs:List (List Key×V)}(ok:dZ P w H h)(e:H a=some (.dT kvs)):kvs.length<=Ra/\(a==Rx)=false/\
 ∃xs,KT H kvs xs/\h.DictOfH (Sx (bY P w)) a xs:=ot ok (.inl e)
end
def gQ (H:Hp)(a:Addr)(y:V)(r:Option V):Prop:=
 (∃kvs k,Rd H a (.dK kvs)/\y=kV k/\r=cW kvs k)∨∃kvs k b,Rd H a (.dT kvs)/\y= .ref b/\H b=some (.tup (k.map kV))/\r=cW kvs k
def nG (H:Hp)(a:Addr)(y v:V)(H':Hp):Prop:=
 (∃kvs k,H a=some (.dK kvs)/\y=kV k/\kvs.length<Ra/\H'=upd H a (.dK (putK kvs k v)))∨
 ∃kvs k b,H a=some (.dT kvs)/\y= .ref b/\H b=some (.tup (k.map kV))/\kvs.length<Ra/\H'=upd H a (.dT (putK kvs k v))
theorem gQ.k {H:Hp}{a:Addr}{kvs:List (Key×V)}{k:Key}(e:H a=some (.dK kvs)):gQ H a (kV k) (cW kvs k):=.inl ⟨kvs,k,.inl e,rfl,rfl⟩
theorem nG.k {H:Hp}{a:Addr}{kvs:List (Key×V)}{k:Key}{v:V}(e:H a=some (.dK kvs))(hl:kvs.length<Ra):nG H a (kV k) v (upd H a (.dK (putK kvs k v))):=.inl ⟨kvs,k,e,rfl,hl,rfl⟩
section
variable {X:Cx}{UB:Od}{σ:St}{H:Hp}{s:Q9}{a:Addr}{y v:V}{u r:Value}{o:Option V}{A:Ri}{E:Value->Q9->Prop}
variable {Q:Value->Q9->Prop}
theorem Inv.big (I:Inv X UB σ H s):Rx<s.heap.objs.size:=by
 have h:Rf<s.heap.objs.size:=(I.mod.glob.keeps I.bk).lt
 exact Nat.lt_trans (by decide) h
theorem za (hu:A.units+1<cLine)(I:Inv X UB σ H s)(g:gQ H a y (some v))(ry:RelV y u)(h:∀w' s',Inv X UB σ H s'->RelV v w'->Q w' s'):
 wpAny (model X.prog X.w) A (Sa (.ref a) u) Q E s:=by
 rcases g with⟨kvs,k,e,ey,l⟩ | ⟨kvs,k,b,e,ey,eb,l⟩
 ·subst ey
  obtain⟨z,hd,vs,rel,dd⟩:=mW I.UH e
  obtain⟨w',hw,Xf⟩:=iG.some_of (v:=v) (o:=RG vs k) (by rw[l];exact rel.val k)
  exact wpAny_getItem_of (jh ry) dd.mapOf hw (h w' _ (I.tok _) Xf)
 ·subst ey
  cases (show u=TN b from ry)
  obtain⟨z,hd,xs,rel,dd⟩:=ot I.UH e
  obtain⟨w',hw,Xf⟩:=iG.some_of (v:=v) (o:=(atKey xs k).map (·.2)) (by rw[l];exact rel.val k)
  obtain⟨p,hp,Y3⟩:=QX.mp hw
  refine wpAny_getItem_heap (R9 hu) (mq I.UH eb) dd hp ?_
  rw[Y3]
  exact h w' _ (I.tok _) Xf
theorem NK (hu:A.units+1<cLine)(I:Inv X UB σ H s)(g:gQ H a y o)(ry:RelV y u)(h:∀s',Inv X UB σ H s'->Q (.bool o.isSome) s'):
 wpAny (model X.prog X.w) A (Ro .In u (.ref a)) Q E s:=by
 rcases g with⟨kvs,k,e,ey,l⟩ | ⟨kvs,k,b,e,ey,eb,l⟩
 ·subst ey
  obtain⟨z,hd,vs,rel,dd⟩:=mW I.UH e
  refine wpAny_in_of (jh ry) hd dd.mapOf ?_
  rw[← (rel.val k).i9,← l]
  exact h _ (I.tok _)
 ·subst ey
  cases (show u=TN b from ry)
  obtain⟨z,hd,xs,rel,dd⟩:=ot I.UH e
  refine wpAny_in_heap (R9 hu) (mq I.UH eb) hd dd ?_
  have q:=(rel.val k).i9
  rw[Q0] at q
  rw[← q,← l]
  exact h _ (I.tok _)
theorem D7 (hu:A.units+1<cLine)(I:Inv X UB σ H s)(g:gQ H a y o)(ry:RelV y u)(h:∀s',Inv X UB σ H s'->Q (.bool (!o.isSome)) s'):
 wpAny (model X.prog X.w) A (Ro .NotIn u (.ref a)) Q E s:=by
 rcases g with⟨kvs,k,e,ey,l⟩ | ⟨kvs,k,b,e,ey,eb,l⟩
 ·subst ey
  obtain⟨z,hd,vs,rel,dd⟩:=mW I.UH e
  refine wpAny_notIn_of (jh ry) hd dd.mapOf ?_
  rw[← (rel.val k).i9,← l]
  exact h _ (I.tok _)
 ·subst ey
  cases (show u=TN b from ry)
  obtain⟨z,hd,xs,rel,dd⟩:=ot I.UH e
  refine wpAny_notIn_heap (R9 hu) (mq I.UH eb) hd dd ?_
  have q:=(rel.val k).i9
  rw[Q0] at q
  rw[← q,← l]
  exact h _ (I.tok _)
theorem mI {h':Heap}{t':Nat}{ob:HO}(I:Inv X UB σ H s)(mu:Af (H a))(hs:Tp a s.heap h')(he:∃q,h'.get? a=some q)(new:cL X.prog X.w (upd H a ob) h' a ob):
 Inv X UB σ (upd H a ob) {s with heap:=h',toks:=t'}:=
 I.write (x:=a) (e:=a) mu (.inl rfl) (λb q hb z=>(hs.2 b hb).trans z) he new
theorem ua {P:Rh}{w:World}{H':Hp}{h':Heap}{kvs:List (Key×V)}{vs:List (Key×Value)}(z:kvs.length<=Ra)(hd:(a==Rx)=false)(rel:KV kvs vs)(dd:h'.DictOf (bY P w) a vs):
 cL P w H' h' a (.dK kvs):=⟨z,hd,vs,rel,dd⟩
theorem yI {H':Hp}{Q:Unit->Q9->Prop}(hu:A.units+1<cLine)(I:Inv X UB σ H s)(g:nG H a y v H')(ry:RelV y u)(rv:RelV v r)(h:∀s',Inv X UB σ H' s'->Q () s'):
 wpAny (model X.prog X.w) A (setItem (.ref a) u r) Q E s:=by
 rcases g with⟨kvs,k,e,ey,l,eH⟩ | ⟨kvs,k,b,e,ey,eb,l,eH⟩
 ·subst ey eH
  obtain⟨z,hd,vs,rel,dd⟩:=wV I.UH e
  have hz:vs.length<=Ra:=by rw[← rel.length];exact z
  have hl:(putK kvs k v).length<=Ra:=by have:=kz kvs k v;omega
  refine wpAny_setItem_pairs (hsz:=hz) (jh ry) dd λh' Xb hs=>h _ ?_
  have he:∃q,h'.get? a=some q:=let ⟨q,_,_,hq,_⟩:=Xb;⟨q,hq⟩
  exact mI I (by rw[e];exact Uq) hs he (ua hl hd (rel.put k rv) Xb)
 ·subst ey eH
  cases (show u=TN b from ry)
  obtain⟨z,hd,xs,rel,dd⟩:=Lg I.UH e
  have hz:xs.length<=Ra:=by rw[← Paired.length rel];exact z
  have hl:(putK kvs k v).length<=Ra:=by have:=kz kvs k v;omega
  refine wpAny_setItem_heap (hsz:=hz) (R9 hu) (mq I.UH eb) dd λh' Xb hs=>h _ ?_
  obtain⟨q,es,ep,hq,h2,h3,h4,_,h5⟩:=Xb
  refine mI I (by rw[e];exact Uq) hs ⟨q,hq⟩ ⟨hl,hd,_,(rel.put k eb rv).keeps λc ys ec=>?_,q,es,ep,hq,h2,h3,h4,h5⟩
  rw[aJ (J3 ec e (λz=>nomatch z))]
  exact ec
end
section
variable {X:Cx}{UB:Od}{σ:St}{H:Hp}{s:Q9}{a:Addr}{kvs:List (Key×V)}{k:Key}{u:Value}{A:Ri}{E:Value->Q9->Prop}
theorem Ke {Q:Value->Q9->Prop}(I:Inv X UB σ H s)(e:Rd H a (.dK kvs))(h:∀t s',Inv X UB σ H s'->Q (.int kvs.length t) s'):wpAny (model X.prog X.w) A (call (.builtin "len") [.ref a]) Q E s:=by
 obtain⟨z,hd,vs,rel,dd⟩:=mW I.UH e
 refine call_len_dict hd dd (by rw[← rel.length];rw[Sq] at z;omega) ?_
 rw[← rel.length]
 exact h _ _ (I.tok _)
end
def BY (i:Expr):Prop:=∀ov iv,SE i false ov iv=operate [ov,iv] (Sa ov iv)
theorem D2 {prog:Rh}{w:World}{A:Ri}{E:Value->Q9->Prop}{s:Q9}{env:Env}{value slice:Expr}{pos:Pos}{T id:String}{Q:Value->Q9->Prop}
 (hl:typeLookup (.type T) "__getitem__"=pure (some (.builtin id))) (hs:BY slice)
 (h:wpAny (model prog w) A (eval value env) (λo s₁=>wpAny (model prog w) A (eval slice env) (λi s₂=>s₂.TypeIs o T/\wpAny (model prog w) A (Sa o i) Q E s₂) E s₁) E s):
 wpAny (model prog w) A (eval (.Subscript value slice pos) env) Q E s:=by
 refine Subscript_ (Ru h (λo s₁ h₁=>Ru h₁ (λi s₂ h₂=>?_) λ_ _ x=>x) λ_ _ x=>x)
 obtain⟨hT,h₂⟩:=h₂
 unfold Q8
 refine Rb ?_
 rw[getitemInPython_of_ne hT.not_modules]
 refine Rb (wpAny_specialOf hT hl ?_)
 have fin:wpAny (model prog w) A (SE slice false o i) (λr s₃=>wpAny (model prog w) A (letTemporaryGo value o r >>=λ_=>pure r) Q E s₃) E s₂:=by
  rw[hs o i]
  exact wpAny_operating (Ru h₂ (λr s₃ h₃=>Rb (wpAny_letTemporaryGo (Rg h₃))) λ_ _ x=>x)
 first
  | exact Rg (Rb fin)
  | exact Rb (Rg (Rb fin))
  | exact Rb fin
theorem vd {X:Cx}{UB:Od}{σ:St}{H:Hp}{s:Q9}{a:Addr}{y:V}{o:Option V}(I:Inv X UB σ H s)(g:gQ H a y o):s.TypeIs (.ref a) "dict":=by
 rcases g with⟨kvs,k,e,_,_⟩ | ⟨kvs,k,b,e,_,_,_⟩
 ·obtain⟨_,_,vs,_,dd⟩:=mW I.UH e
  exact dd.typeIs
 ·obtain⟨_,_,xs,_,dd⟩:=ot I.UH e
  exact dd.typeIs
def Lk (td ty:TE):TE:=λσ H Q=>td σ H λx H1=>ty σ H1 λy H2=>∃a v,x= .ref a/\gQ H2 a y (some v)/\Q v H2
def NI (ty td:TE):TE:=λσ H Q=>ty σ H λy H1=>td σ H1 λx H2=>∃a o,x= .ref a/\gQ H2 a y o/\Q (.bl o.isSome) H2
def En (ty td:TE):TE:=λσ H Q=>ty σ H λy H1=>td σ H1 λx H2=>∃a o,x= .ref a/\gQ H2 a y o/\Q (.bl (!o.isSome)) H2
def L3 (td ty tv:TE):TS:=λD σ H=>tv σ H λv H1=>td σ H1 λx H2=>ty σ H2 λy H3=>∃a H4,x= .ref a/\nG H3 a y v H4/\D.nx σ H4
section
variable {X:Cx}{o i e value:Expr}{pos pos' tpos:Pos}{td ty tv:TE}
theorem E7 (hu:X.A.units+1<cLine)(ho:PE X o td)(hi:PE X i ty)(hs:BY i):PE X (.Subscript o i pos) (Lk td ty):=by
 intro UB s σ H Q I h
 refine D2 PySem.F.slot_dict_getitem.lookup hs (aX (ho UB s σ H _ I h) λu s1 ⟨x,H1,I1,rx,q1⟩=>aX (hi UB s1 σ H1 _ I1 q1) λiv s2 ⟨y,H2,I2,ry,a,v,ex,g,q2⟩=>?_)
 subst ex
 obtain rfl:u=TN a:=rx
 exact⟨vd I2 g,za hu I2 g ry λw' s3 I3 Xf=>⟨v,H2,I3,Xf,q2⟩⟩
theorem G5 (hu:X.A.units+1<cLine)(hi:PE X i ty)(ho:PE X o td):PC X .In i o (NI ty td):=by
 intro UB s σ H Q I h
 refine aX (hi UB s σ H _ I h) λiv s1 ⟨y,H1,I1,ry,q1⟩=>aX (ho UB s1 σ H1 _ I1 q1) λu s2 ⟨x,H2,I2,rx,a,ov,ex,g,q2⟩=>?_
 subst ex
 obtain rfl:u=TN a:=rx
 exact NK hu I2 g ry λs3 I3=>⟨.bl ov.isSome,H2,I3,rfl,q2⟩
theorem mE (hu:X.A.units+1<cLine)(hi:PE X i ty)(ho:PE X o td):PC X .NotIn i o (En ty td):=by
 intro UB s σ H Q I h
 refine aX (hi UB s σ H _ I h) λiv s1 ⟨y,H1,I1,ry,q1⟩=>aX (ho UB s1 σ H1 _ I1 q1) λu s2 ⟨x,H2,I2,rx,a,ov,ex,g,q2⟩=>?_
 subst ex
 obtain rfl:u=TN a:=rx
 exact D7 hu I2 g ry λs3 I3=>⟨.bl (!ov.isSome),H2,I3,rfl,q2⟩
theorem pK (hu:X.A.units+1<cLine)(ho:PE X o td)(hi:PE X i ty)(hv:PE X value tv)(hs:Rl value (some (.Subscript o i pos')) pos.line X.env=pure false):
 PS X (.Assign [.Subscript o i pos'] value pos) (L3 td ty tv):=by
 intro UB s σ H D I h
 refine wpAny_Assign_Subscript (aX (hv UB s σ H _ I h) λr s1 ⟨v,H1,I1,rv,q1⟩=>aX (ho UB s1 σ H1 _ I1 q1) λu s2 ⟨x,H2,I2,rx,q2⟩=>aX (hi UB s2 σ H2 _ I2 q2) λiv s3 ⟨y,H3,I3,ry,a,H4,ex,g,q3⟩=>?_) hs
 subst ex
 obtain rfl:u=TN a:=rx
 exact yI hu I3 g ry rv λs4 I4=>⟨σ,H4,I4,q3⟩
end
theorem ug {P:Rh}{w:World}{H:Hp}(h:Heap)(hb:Rx<h.objs.size):cL P w H (h.push {cls:=.type "dict",data:=.dict #[]}) h.objs.size (.dK []):=
 ⟨QE _,beq_eq_false_iff_ne.mpr (QW (QH hb)),[],.nil,Heap.DictOf.new h⟩
def IH:TE:=λ_ H Q=>∀p,H p=none->Q (.ref p) (upd H p (.dK []))
section
variable {X:Cx}{pos:Pos}
theorem Am:PE X (.Dict [] [] pos) IH:=λUB s σ H Q I h=>
 wpAny_Dict_empty ⟨.ref s.heap.objs.size,_,I.laid (a:=s.heap.objs.size) (o:=.dK []) (t':=s.toks) (λ_ _ q=>Ti _ q) (QC _) (ug s.heap I.big),rfl,h _ (I.UH.fresh (QC _))⟩
end
section
variable {X:Cx}{pos:Pos}
def uA:List (TE×TE)->St->Hp->(List (V×V)->Hp->Prop)->Prop
 | [],_,H,Q=>Q [] H
 | (tk,tv)::r,σ,H,Q=>tk σ H λx H1=>tv σ H1 λy H2=>uA r σ H2 λps H3=>Q ((x,y)::ps) H3
abbrev VV:List (V×V)->List (Value×Value)->Prop:=Paired λp q=>RelV p.1 q.1/\RelV p.2 q.2
def Ce (X:Cx)(pos:Pos)(keys:List (Option Expr))(values:Oj)(Xd:List (TE×TE)):Prop:=
 ∀(UB:Od) (s:Q9) (σ:St) (H:Hp) (Q:List (V×V)->Hp->Prop),Inv X UB σ H s->uA Xd σ H Q->
  wpAny (model X.prog X.w) X.A (evalPairs (pairTrees keys values X.env pos)) (λvs s'=>∃ps H',Inv X UB σ H' s'/\VV ps vs/\Q ps H') X.xe s
theorem vF:Ce X pos [] [] []:=λUB s σ H Q I h=>pairTrees_nil_walk ⟨[],H,I,.nil,h⟩
theorem nD {k v:Expr}{ks:List (Option Expr)}{vs:Oj}{tk tv:TE}{Xd:List (TE×TE)}(hk:PE X k tk)(hv:PE X v tv)(hr:Ce X pos ks vs Xd):
 Ce X pos (some k::ks) (v::vs) ((tk,tv)::Xd):=λUB s σ H Q I h=>
 pairTrees_cons_walk (aX (hk UB s σ H _ I h) λu s1 ⟨x,H1,I1,rx,q1⟩=>aX (hv UB s1 σ H1 _ I1 q1) λw2 s2 ⟨y,H2,I2,ry,q2⟩=>
  aX (hr UB s2 σ H2 _ I2 q2) λws s3 ⟨ps,H3,I3,rel,q3⟩=>⟨(x,y)::ps,H3,I3,.cons ⟨rx,ry⟩ rel,q3⟩)
def jI (kvs more:List (Key×V)):List (Key×V):=more.foldl (λacc kv=>putK acc kv.1 kv.2) kvs
theorem KV.merge:∀{more:List (Key×V)} {rs:List (Key×Value)} {kvs:List (Key×V)} {vs:List (Key×Value)},KV more rs->KV kvs vs->KV (jI kvs more) (merged vs rs):=by
 intro more rs kvs vs r
 unfold KV at r
 induction r generalizing kvs vs with
 | nil=>intro q;exact q
 | @cons p q ps qs h t ih=>
   intro r0
   have e:KV (putK kvs p.1 p.2) (SK vs q.1 q.2):=by
    have:=r0.put p.1 h.2
    rw[← h.1];exact this
   exact ih e
theorem lX:∀(more kvs:List (Key×V)),(jI kvs more).length<=kvs.length+more.length
 | [],kvs=>by show kvs.length<=kvs.length+0;omega
 | p::r,kvs=>by
   have h1:=lX r (putK kvs p.1 p.2)
   have h2:=kz kvs p.1 p.2
   show(jI (putK kvs p.1 p.2) r).length<=_
   rw[OP];omega
theorem n8 {P:Rh}{w:World}:∀{kvs:List (Key×V)} {ws:List (Value×Value)},VV (kvs.map λkv=>(kV kv.1,kv.2)) ws->∃rs,Carries (bY P w) ws rs/\KV kvs rs
 | [],_,r=>by rw[Qv] at r;cases r;exact⟨[],Uq,.nil⟩
 | p::kvs,_,r=>by
   rw[Pc] at r
   cases r with
   | @cons a b as bs h t=>
     obtain⟨rs,c,q⟩:=n8 (P:=P) (w:=w) t
     obtain⟨b1,b2⟩:=b
     exact⟨(p.1,b2)::rs,⟨jh h.1,rfl,c⟩,.cons ⟨rfl,h.2⟩ q⟩
def LQ (Xd:List (TE×TE)):TE:=λσ H Q=>∀p,H p=none->uA Xd σ (upd H p (.dK [])) λps H2=>H2 p=some (.dK [])/\∃kvs:List (Key×V),ps=kvs.map (λkv=>(kV kv.1,kv.2))/\kvs.length<=15/\Q (.ref p) (upd H2 p (.dK (jI [] kvs)))
theorem vU {keys:List (Option Expr)}{values:Oj}{Xd:List (TE×TE)}(h:Ce X pos keys values Xd)(Wq:keys.all (·.isSome)=true)(hl:keys.length=values.length)(h0:keys≠[])
 (h15:keys.length<=15):PE X (.Dict keys values pos) (LQ Xd):=by
 intro UB s σ H Q I q
 have hn:=I.UH.fresh (QC s.heap.objs.size)
 have I1:=I.laid (a:=s.heap.objs.size) (o:=.dK []) (h':=s.heap.push {cls:=.type "dict",data:=.dict #[]}) (t':=s.toks) (λ_ _ q=>Ti _ q) (QC _) (ug s.heap I.big)
 refine wpAny_Dict_walk (knd:=bY X.prog X.w) Wq hl h0 h15 (aX (h UB _ σ _ _ I1 (q _ hn)) λws s2 ⟨ps,H2,I2,rel,e,kvs,ep,lk,q2⟩=>?_)
 subst ep
 obtain⟨rs,c,rk⟩:=n8 (P:=X.prog) (w:=X.w) rel
 obtain⟨z,hd,vs0,r0,dd⟩:=wV I2.UH e
 cases r0
 refine⟨rs,c,dd,λh' Xb hs=>⟨.ref s.heap.objs.size,_,?_,rfl,q2⟩⟩
 have hz:(jI [] kvs).length<=Ra:=by
  have h1:=lX kvs []
  rw[O8] at h1
  rw[Sq];omega
 have he:∃q,h'.get? s.heap.objs.size=some q:=let ⟨q,_,_,hq,_⟩:=Xb;⟨q,hq⟩
 exact mI I2 (by rw[e];exact Uq) hs he (ua hz hd (rk.merge .nil) Xb)
structure M2 (X:Cx) (o:Expr) (m:Str) (apos:Pos) (e f:Expr) (Vp:Pos):Prop where
 base:Rj o m X.env (eval o X.env)=eval o X.env
 few:((Rk Vp (Rc [e,f] X.env)).all (λx=> !x.1)&&(RS Vp (RA [] X.env)).all (λx=>x.1.isSome)
  &&decide (([e,f]:Oj).length+([]:List Rp).length+(if([]:List Rp).isEmpty then 0 else 1)<30))=true
 line:(apos.endLine==Vp.line)=true
 trees:Rk Vp (Rc [e,f] X.env)=[(false,eval e X.env),(false,eval f X.env)]
end
section
variable {X:Cx}{UB:Od}{σ:St}{H:Hp}{s:Q9}{a:Addr}{y d:V}{u r:Value}{o:Option V}{A:Ri}{E:Value->Q9->Prop}
end
section
variable {X:Cx}{o e f:Expr}{apos Vp:Pos}{td ty tx:TE}
end
section
variable {X:Cx}{UB:Od}{σ:St}{H:Hp}{s:Q9}{a:Addr}{kvs:List (Key×V)}{A:Ri}{E:Value->Q9->Prop}
end
section
variable {X:Cx}{UB:Od}{σ:St}{H:Hp}{s:Q9}{a:Addr}{y:V}{u:Value}{A:Ri}{E:Value->Q9->Prop}
end
end L2
namespace Att
open PySem PySem.W PySem.Calls PyProof.Rows
theorem oA {P:Params}{h:Heap}:∀(ns:Oe) (vs:Oi),WellAll P h vs (ns.map WData.int)->IntsAre vs ns:=by
 intro ns
 induction ns with
 | nil=>
   intro vs w
   rw[Qv] at w
   cases w
   exact .nil
 | cons n ns ih=>
   intro vs w
   rw[Pc] at w
   cases w with
   | cons a b=>
     cases a
     exact .cons _ _ (ih _ b)
theorem yS {l:OpenLaw}{n:Nat}(hn:l.most=some n){P:Params}{h:Heap}{args:List WData}{vals:Oi}
 (Xm:l.row.toRowW.claim.pre args=true) (YU:WellAll P h vals args):
 ∃a vs ns,vals=[TN a]/\args=[WData.list (ns.map WData.int)]/\h.get? a=some {cls:=.type "list",data:=.seq vs.toArray}/\IntsAre vs ns/\ns.length<=n:=by
 have hsh:WShape.hasAll [] args [.list .int]=true:=(pre_splitW Xm).1
 have hc:l.pre.holds [] {args:=args}=true:=(pre_splitW Xm).2
 obtain⟨d,r,rfl,h1,h2⟩:=hasAllW_cons hsh
 obtain rfl:=hasAllW_nil h2
 obtain⟨xs,rfl,h3⟩:=hasW_list h1
 obtain⟨ns,rfl⟩:=items_int h3
 have hlen:ns.length<=n:=by
  unfold OpenLaw.pre at hc
  have h4:(WTm.not (.lt (.lit (.int (n:Int))) (.len (.arg 0)))).holds [] {args:=[.list (ns.map .int)]}=true:=by
   have h4:=(holds_andW hc).1
   rw[hn] at h4
   exact h4
  have h5:=condW_of h4 (w_not (w_lt w_lit (w_len_list (w_arg rfl))))
  rw[OH] at h5
  refine Nat.le_of_not_lt λq=>?_
  have q':(n:Int)<((ns.length:Nat):Int):=by omega
  first
   | (rw[Uw q'] at h5;exact Ur h5 (by decide))
   | (simp at h5;omega)
 cases YU with
 | cons w1 w2=>
   cases w2
   cases w1 with
   | list ho Wq=>exact⟨_,_,ns,rfl,rfl,ho,oA ns _ Wq,hlen⟩
theorem zr (l:OpenLaw)(args:List WData):l.row.toRowW.claim.post args (.bool true) args=true:=
 postW_of (r:=l.row.toRowW) (X:=(true==true))
  (show WShape.has [] (.bool true) .bool=true by first | rfl | decide | simp[WShape.has,WShape.arms,WShape.armsAll])
  (show(WTm.eq .res (.lit (.bool true))).value [] {args:=args,res:=some (.bool true),after:=args}=some (.bool (true==true)) from w_eq_bool (w_res rfl) w_lit) rfl
section
variable {prog:Rh}{w:World}{A:Ri}{E:Value->Q9->Prop}{s:Q9}{K:Frag}
end
end Att
namespace L2
open PySem PySem.Spec PyProof.Rows
theorem rD:∀{vs:Oi} {ns:Oe},IntsAre vs ns->Vals (ns.map V.int) vs
 | _,_,.nil=>.nil
 | _,_,.cons n t h=>.cons ⟨t,rfl⟩ (rD h)
def By (H:Hp):Prop:=∀b,H b=none∨∃o xs,H b=some (.VJ o (.lst xs))
theorem BQ {P:Rh}{w:World}{K:T2}{mg mb:Oc}{CX:lV}{k:Nat}{fa a:Addr}{fd:Rm}{x:Str}{sp:Sp}{s₁:Q9}{vs:Oi}{ns:Oe}
 (KX:K.In s₁.heap) (Yr:s₁.heap.Ns Rf mg) (hb:s₁.heap.Ns builtinsNs mb) (hbb:∀x:Str,x≠"__name__"->mb x=RK x) (hlim:s₁.heap.NoLimit) (hg:s₁.gens= #[])
 (ha:s₁.heap.get? a=some {cls:=.type "list",data:=.seq vs.toArray}) (hi:IntsAre vs ns) (hl:ns.length<=Ra) (hr:bI k Su)
 (F:∀base:Heap,K.In base->base.Ns Rf mg->dY P w K mg base CX k fa fd [x] sp) (Zp:∀(s:Q9) (u:Value),SJ s fd ⟨[u],[]⟩ [(x,u)])
 (WB:∀H:Hp,By H->aZ K H a (ns.map V.int)->sp [.ref a] H (λv _=>v= .bl true) λ_ _ _=>False)
 (hCX:∀H e s',CX [] H s₁ (λ_ _ _=>False) e s'->False):
 Sn (model P w) Su (.call (.ref fa) ⟨[.ref a],[]⟩) (λr s'=>r= .ok (.ret (.bool true))/\OldK s₁.heap s'.heap/\s'.os=s₁.os/\Q6 s'.gens) s₁:=by
 have rv:=rD hi
 have lenV:=hi.length
 -- from an abstract heap in which nothing but YE XU may be tracked
 have core:∀H:Hp,By H->aZ K H a (ns.map V.int)->dZ P w H s₁.heap->(∀b,H b≠none->b=a)->(H a≠none->K.lookup a=none)->
  Sn (model P w) Su (.call (.ref fa) ⟨[.ref a],[]⟩) (λr s'=>r= .ok (.ret (.bool true))/\OldK s₁.heap s'.heap/\s'.os=s₁.os/\Q6 s'.gens) s₁:=by
  intro H hO hS UH hA hK
  have base_of:∀{b:Addr} {o:Obj},s₁.heap.get? b=some o->H b=none->(kY s₁.heap H).get? b=some o:=λe n=>AD e n
  have YM:∀{b:Addr} {o:Obj} {es:Array DictEntry} {ep:Nat},s₁.heap.get? b=some o->o.data= .dict es ep->H b=none:=λ{b o es ep} e d=>by
   cases q:H b with
   | none=>rfl
   | some u=>
     have e':b=a:=hA b (by rw[q];simp)
     subst e'
     rw[ha] at e;cases e
     have d':Data.seq vs.toArray _=Data.dict es ep:=d
     cases d'
  have nsK:∀{b:Addr} {m:Oc},s₁.heap.Ns b m->(kY s₁.heap H).Ns b m:=λ{b m} ⟨o,es,ep,e,d,r⟩=>⟨o,es,ep,base_of e (YM e d),d,r⟩
  have hKb:K.In (kY s₁.heap H):=λb o e=>base_of (KX b o e) (by
   cases q:H b with
   | none=>rfl
   | some u=>
     have e':b=a:=hA b (by rw[q];simp)
     subst e'
     rw[hK (by rw[q];simp)] at e;cases e)
  have hM:Mod K mg (kY s₁.heap H):=⟨hKb,nsK Yr,⟨mb,nsK hb,hbb⟩,let ⟨mc,h1,h2⟩:=hlim;⟨mc,nsK h1,h2⟩⟩
  have e0:nV P w K mg (kY s₁.heap H) Su [] s₁ H:=⟨rfl,hM,λb o e=>D8 e,QU (zP _ _),trivial,λb hb=>Ur (show b∈([]:Oh) from hb) (by simp),UH,.of_eq hg⟩
  refine Sw ((F _ hKb (nsK Yr)).run Su [] s₁ H ⟨[.ref a],[]⟩ [.ref a] [.ref a] _ _ hr e0 (Zp s₁ (.ref a)) (.cons rfl .nil) (WB H hO hS)) λr s' h=>?_
  cases r with
  | error e=>exact(hCX H e s' h).elim
  | ok fl=>
    cases fl with
    | next=>exact Ow h
    | brk=>exact Ow h
    | cont=>exact Ow h
    | ret u=>
      obtain⟨v,H',os,bare,un,hok',r',q⟩:=h
      have q':v= .bl true:=q
      subst q'
      obtain rfl:u=TY true:=r'
      refine⟨rfl,OldK.of_keep λb o e=>?_,os,bare⟩
      cases q:H b with
      | none=>exact un.keep b o e q (by intro z;exact Ur (show b∈([]:Oh) from z) (by simp)) (by simp)
      | some u=>
        rcases hO b with z | ⟨ob,xs,z⟩
        ·rw[q] at z;cases z
        ·have z2:=un.VI b ob _ z
         obtain⟨e1,_⟩:=UH b _ z
         obtain⟨e2,_⟩:=hok' b _ z2
         rw[e] at e1;cases e1
         exact e2
 cases hk:K.lookup a with
 | some o=>
   -- YE XU is one of YE YQ own objects
   have e:=KX a o hk
   rw[ha] at e
   cases e
   refine core (λ_=>none) (λ_=>.inl rfl) (.inr ⟨_,vs.toArray,_,hk,rfl,rfl,rfl,by rw[ON,lenV];exact hl,by simpa using rv⟩) (λb u z=>by have z':(none:Option HO)=some u:=z;cases z') (λb z=>Ur rfl z) λz=>Ur rfl z
 | none=>
   refine core (λb=>if b=a then some (.VJ {cls:=.type "list",data:=.seq vs.toArray} (.lst (ns.map V.int))) else none) (λb=>?_) (.inl (.inr ⟨{cls:=.type "list",data:=.seq vs.toArray},Ut rfl⟩)) (λb u z=>?_) (λb z=>?_) λ_=>hk
   ·by_cases hb:b=a
    ·exact .inr ⟨_,_,Ut hb⟩
    ·exact .inl (Us hb)
   ·by_cases hb:b=a
    ·have z':=(Ut hb).symm.trans z
     cases z'
     subst hb
     exact⟨ha,by rw[OH];exact hl,vs,_,rv,ha⟩
    ·have z':=(Us hb).symm.trans z
     cases z'
   ·by_cases hb:b=a
    ·exact hb
    ·exact Ur (Us hb) z
abbrev nA {K:T2}{h:Heap}(_:K.In h):T2:=K
def cQ (s:Stmt):Arguments:=match s with
 | .FunctionDef _ a _ _ _ _ _ _ _ _=>a
 | _=>{posonlyargs:=[],args:=[],vararg:=none,kwonlyargs:=[],kw_defaults:=[],kwarg:=none,defaults:=[]}
def bu (s:Stmt):List Stmt:=match s with
 | .FunctionDef _ _ b _ _ _ _ _ _ _=>b
 | _=>[]
def ag (s:Stmt):Scope:=match s with
 | .FunctionDef _ _ _ _ _ _ sc _ _ _=>sc
 | _=>{kind:=.function,names:=[],isGenerator:=false,isCoroutine:=false}
abbrev d7:lV:=λ_ _ _ _ _ _=>False
abbrev E0:XK:=λ_ _ _=>False
theorem rZ {X:Cx}:Passes d7 X E0:=λ_ _ _ _ _ _ _ h=>h.elim
structure dH (K:T2) (x qual:Str) (st:Stmt) (f:Addr) (fd:Rm):Prop where
 ex:∃(oc:Value) (od:Option Addr) (kV doc pm:Value) (an:Option Addr) (UE ct:Value) (V3:Array Og),
  fd=T7 x qual (cQ st) (bu st) (ag st) .none kV doc pm an UE ct/\K.lookup f=some ⟨oc,od,.func fd,V3⟩/\Ua K UE qual=true
 kp:T8 K (.ref f)=true
section
variable {P:Rh}{w:World}{K:T2}{mg:Oc}{base:Heap}
variable {x qual:Str}{st:Stmt}{f:Addr}
theorem dH.ok {fd:Rm}{N ps:Of}{k:Nat}{sp:Sp}(F:dH K x qual st f fd)(S:ay N ps (ag st))(len:∀vs H Q E,sp vs H Q E->vs.length=ps.length)
 (UT:∀(UE:Value) (A:Ri) (outer:List Env) (s:Q9) (H:Hp) (vs:List V) (Q:VK) (E:XK),bI k (A.deeper (Q5 qual (ag st) s.heap.objs.size f UE))->sp vs H Q E->
  ∃t,jQ (eD d7 P w K mg base N qual (ag st) f UE A outer s H E).ic (bu st) t/\t {nx:=λ_ H'=>Q .UQ H',rt:=Q} (start N vs) H):dY P w K mg base d7 (k+1) f fd ps sp:=by
 obtain⟨oc,od,kV,doc,pm,an,UE,ct,V3,rfl,lk,UI⟩:=F.ex
 refine J7 lk UI S len λA outer s H vs Q E hr WB=>?_
 obtain⟨t,h,q⟩:=UT UE A outer s H vs Q E hr WB
 exact⟨t,h.ic,q⟩
theorem dH.binds {fd:Rm}{ps:Of}(F:dH K x qual st f fd)
 (h:∀(kV doc pm:Value) (an:Option Addr) (UE ct:Value) (us:Oi),us.length=ps.length->So (T7 x qual (cQ st) (bu st) (ag st) .none kV doc pm an UE ct) ⟨us,[]⟩=pure (ps.zip us)):Binds K fd ps []:=by
 obtain⟨oc,od,kV,doc,pm,an,UE,ct,V3,rfl,lk,UI⟩:=F.ex
 exact .all (h kV doc pm an UE ct)
theorem jR {oc:Value}{od an:Option Addr}{V3:Array Og}{kV doc pm UE ct:Value}(l:K.lookup f=some ⟨oc,od,.func (T7 x qual (cQ st) (bu st) (ag st) .none kV doc pm an UE ct),V3⟩)
 (c:Ua K UE qual=true) (k:T8 K (.ref f)=true):dH K x qual st f (T7 x qual (cQ st) (bu st) (ag st) .none kV doc pm an UE ct):=⟨⟨oc,od,kV,doc,pm,an,UE,ct,V3,rfl,l,c⟩,k⟩
end
theorem Cc {A:Ri}{k:Nat}(hr:bI k A):A.units+1<cLine:=QF (Nat.add_le_add_left (by decide:1<=64) _) hr.units
section
variable {X:Cx}
end
section
variable {H:Hp}
theorem lJ {A B:Prop}(h:B):if false=true then A else B:=by
 rw[Us Oo]
 exact h
theorem lr {A B:Prop}(h:A):if true=true then A else B:=by
 rw[Ut rfl]
 exact h
def au (H H':Hp):Prop:=∀b o,H b=some o->H' b=some o
theorem au.refl (H:Hp):au H H:=λ_ _ h=>h
theorem au.trans {H1 H2:Hp}(a:au H H1)(b:au H1 H2):au H H2:=λc o h=>b c o (a c o h)
theorem au.free {H':Hp}(e:au H H'){l:Addr}(h:H' l=Option.none):H l=Option.none:=by
 cases q:H l with
 | none=>rfl
 | some o=>
   rw[e l o q] at h
   cases h
theorem au.seq {K:T2}{H':Hp}{a:Addr}{xs:List V}(e:au H H')(h:aZ K H a xs):aZ K H' a xs:=by
 rcases h with(h | ⟨o,h⟩) | h
 ·exact .inl (.inl (e _ _ h))
 ·exact .inl (.inr ⟨o,e _ _ h⟩)
 ·exact .inr h
end
section
variable {X:Cx}
theorem rh:eR X (.builtin "len") (λxs H Q=>∃a kvs,xs=[V.ref a]/\H a=some (.dK kvs)/\Q (.int kvs.length) H):=by
 intro UB s σ H xs us Q I r h
 obtain⟨a,kvs,rfl,ha,q⟩:=h
 obtain⟨u,rfl,ru⟩:=vals1 r
 cases ru
 exact Ke I (.inl ha) λt s' I'=>⟨.int kvs.length,H,I',⟨t,rfl⟩,q⟩
end
section
variable {κ:Type} [DecidableEq κ]
theorem fP:∀{l:List κ} {k:κ},l.Nodup->¬k∈l->(l++[k]).Nodup
 | [],k,_,_=>by simp
 | a::r,k,h,hk=>by
   obtain⟨h1,h2⟩:=Pa.mp h
   show(a::(r++[k])).Nodup
   refine Pa.mpr ⟨λm=>?_,fP h2 λm=>hk (OT.mpr (Or.inr m))⟩
   rcases OS.mp m with q | q
   ·exact h1 q
   ·exact hk (OT.mpr (Or.inl (OF.mp q).symm))
end
section
variable {X:Cx}
variable {elt target iter:Expr}{ifs:Oj}{scope:Scope}{pos:Pos}{s:Q9}{fr:Of}{ix:List Nat}{wi:TI}{g:TG}{tc:TT}{te:TE}
def bq (X:Cx)(scope:Scope)(cl:List (Str×Addr))(C:Addr)(N':Of)(s:Q9)(H:Hp)(ex:Oh):Cx:=
 {X with N:=N',s₀:=s,H₀:=H,env:=compEnvC scope cl C X.env,outer:=X.stack,stack:=X.stack,ex:=ex,fn:=λ_=>false,pn:=[],xe:=λ_ _=>False}
def PF (X:Cx)(ifs:Oj)(t:TT):Prop:=
 ∀(UB:Od) (s:Q9) (σ:St) (H:Hp) (Q:Bool->Hp->Prop),Inv X UB σ H s->t σ H Q->
  wpAny (model X.prog X.w) X.A (forIn ifs true λc r=>if r=true then do let ok ← RZ c X.env (eval c X.env);pure (Ox ok) else pure (Ox r)) (TP X UB σ Q) X.xe s
def N6:TT:=λ_ H Q=>Q true H
theorem JQ:PF X [] N6:=by
 intro UB s σ H Q I h
 exact Rg ⟨H,I,h⟩
theorem GN {c:Expr}{t:TT}(hc:PT X c t):PF X [c] t:=by
 intro UB s σ H Q I h
 show wpAny _ _ (forIn [c] true λc r=>_) _ _ s
 rw[Qw]
 simp only[if_true,forIn_nil]
 refine Rb (Rb (Ru (hc UB s σ H Q I h) (λb s1 h1=>?_) λ_ _ e=>e))
 exact Rg (Rg h1)
theorem tF {prog:Rh}{w:World}{A:Ri}{R:Result->Q9->Prop}{it acc:Value}{env:Env}(I:Nat->Q9->Prop)
 (turn:∀n s,I n s->wpAny (model prog w) A (SG it) (λr s₁=>match r with
  | none=>R (.ok .next) s₁
  | some v=>wpAny (model prog w) A (Si target it v) (λ_ s₁'=>wpAny (model prog w) A (RU target env v) (λ_ s₂=>
   wpAny (model prog w) A (forIn ifs true λc r=>if r=true then do let ok ← RZ c env (eval c env);pure (Ox ok) else pure (Ox r)) (λok s₃=>
    if ok=true then wpAny (model prog w) A (eval elt env) (λx s₄=>
     wpAny (model prog w) A (call (.builtin "list.append") [acc,x]) (λ_ s₅=>∃m,m<n/\I m s₅) (λ_ _=>False) s₄) (λ_ _=>False) s₃
    else∃m,m<n/\I m s₃) (λ_ _=>False) s₂) (λ_ _=>False) s₁') (λ_ _=>False) s₁) (λ_ _=>False) s)
 (n:Nat) (h:I n s):
 Sn (model prog w) A (.compLoop (.ListComp elt [⟨target,iter,ifs,0⟩] scope pos) 0 it acc env) R s:=by
 have no:∀{α:Type} {t:Sem α} {Q:α->Q9->Prop} {E:Value->Q9->Prop} {s:Q9},wpAny (model prog w) A t Q (λ_ _=>False) s->wpAny (model prog w) A t Q E s:=λh=>Ru h (λ_ _ q=>q) λ_ _ f=>f.elim
 refine codeAny_loop rfl I (λn s hI=>?_) n h
 show wpAny _ A ((compTurn (.ListComp elt [⟨target,iter,ifs,0⟩] scope pos) 0 it acc env).onRaise (λx=>do noteFrame x env;theTreesLotGoes x)) _ _ s
 refine wpAny_noted ?_
 rw[compTurn_list]
 refine Rb (SQ (Rb (Ru (no (turn n s hI)) (λr s₁ h₁=>?_) λ_ _ h'=>h')))
 cases r with
 | none=>exact Rg h₁
 | some v=>
   refine Rb (Ru (no h₁) (λ_ s₁' h₁'=>?_) λ_ _ h'=>h')
   refine Rb (Ru (no h₁') (λ_ s₂ h₂=>Rb (Ru (no h₂) (λok s₃ h₃=>?_) λ_ _ h'=>h')) λ_ _ h'=>h')
   cases ok with
   | false=>exact Rg ⟨rfl,h₃⟩
   | true=>
     exact Rb (Rb (Ru (no h₃) (λx s₄ h₄=>Rb (Ru (no h₄) (λ_ s₅ h₅=>Rg (Rg ⟨rfl,h₅⟩)) λ_ _ h'=>h')) λ_ _ h'=>h'))
def xc (wi:TI)(g:TG)(tc:TT)(te:TE)(z:St->St):TE:=λσ H Q=>wi σ H λJ H1=>
 ∃W:Nat->Nat->List V->St->Hp->Prop,(∃m,W 0 m [] (z σ) H1)/\∀i m ys σ' H',W i m ys σ' H'->
  ys.length<=Ra/\((J.stop i H'/\∀p,H' p=none->Q (.ref p) (upd H' p (.lst ys)))∨
  (J.go i H'/\∀x H2,J.Yn i H' x H2->g x σ' H2 λσ2 H3=>tc σ2 H3 λb H4=>
    if b=true then te σ2 H4 λv H5=>∃m',m'<m/\W (i+1) m' (ys++[v]) σ2 H5 else∃m',m'<m/\W (i+1) m' ys σ2 H4))
structure eN (X:Cx) (scope:Scope) (cl:List (Str×Addr)) (own fr:Of) (ix:List Nat):Prop where
 clos:closureFor scope X.env=pure cl
 cells:∀x c,cl.lookup x=some c->X.env.cells.lookup x=some c
 kind:scope.kind= .function
 XA:∀y∈scope.names,y.2≠ .cell
 names:∀y∈scope.names,y.2= .local->scope.names.lookup y.1=some .local
 has:∀x,scope.names.lookup x=some .free->∃c,cl.lookup x=some c
 frees:∀x∈fr,scope.names.lookup x=some .free
 len:fr.length=ix.length
 at_:∀(k:Nat) (i:Nat) (x:Str),ix[k]?=some i->fr[k]?=some x->X.N[i]?=some x/\X.env.kindOf x=some .cell
theorem iy {env:Env}:∀{names:List (Str×RX)} {x:Str} {k:RX},
 (names.map λ(n,k)=>if(k==RX.free&&env.scope.kind== .function&&env.kindOf n==some .cell) then(n,RX.cell) else(n,k)).lookup x=some k->
 ∃k',names.lookup x=some k'/\(k=k'∨(k'= .free/\k= .cell))
 | [],_,_,h=>by simp at h
 | (n,k)::r,x,kk,h=>by
   have ih:=@iy env r x kk
   replace h:Pu x ((if(k==RX.free&&env.scope.kind== .function&&env.kindOf n==some .cell)=true then(n,RX.cell) else(n,k))::_)=some kk:=h
   by_cases hc:(k==RX.free&&env.scope.kind== .function&&env.kindOf n==some .cell)=true
   ·rw[Ut hc] at h
    cases hx:x==n with
    | true=>
      simp only[Px,hx,Option.some.injEq] at h ⊢
      have hk:k= .free:=by
       simp only[Oq] at hc
       exact eq_of_beq hc.1.1
      exact⟨k,rfl,.inr ⟨hk,h.symm⟩⟩
    | false=>
      simp only[Px,hx] at h ⊢
      exact ih h
   ·rw[Us hc] at h
    cases hx:x==n with
    | true=>
      simp only[Px,hx,Option.some.injEq] at h ⊢
      exact⟨k,rfl,.inl h.symm⟩
    | false=>
      simp only[Px,hx] at h ⊢
      exact ih h
theorem l9 {env:Env}(hf:env.scope.kind= .function):∀{names:List (Str×RX)} {x:Str},names.lookup x=some .free->env.kindOf x=some .cell->
 (names.map λ(n,k)=>if(k==RX.free&&env.scope.kind== .function&&env.kindOf n==some .cell) then(n,RX.cell) else(n,k)).lookup x=some .cell
 | [],_,h,_=>by simp at h
 | (n,k)::r,x,h,hk=>by
   have ih:=@l9 env hf r x
   show Pu x ((if(k==RX.free&&env.scope.kind== .function&&env.kindOf n==some .cell)=true then(n,RX.cell) else(n,k))::_)=_
   cases hx:x==n with
   | true=>
     simp only[Px,hx,Option.some.injEq] at h
     have e:x=n:=eq_of_beq hx
     subst e
     subst h
     rw[Ut (by rw[hf,hk];rfl)]
     simp[Px]
   | false=>
     simp only[Px,hx] at h
     split
     ·simp only[Px,hx];exact ih h hk
     ·simp only[Px,hx];exact ih h hk
def gm (own:Of)(ix:List Nat)(σ:St):St:=PQ own.length none++ix.map λi=>(σ[i]?).join
structure Off (X:Cx) (UB:Od) (H:Hp) (s:Q9) (C:Addr):Prop where
 ns:∃m,s.heap.Ns C m
 free:H C=none
 ne:C≠X.env.locals
 young:X.s₀.heap.objs.size<=C
 cell:∀x c,X.env.cells.lookup x=some c->c≠C
 pin:∀p∈X.pn++UB,p.1≠C
theorem qY {cl:List (Str×Addr)}{own:Of}
 {use:Option (Value->Sem Unit)} {Qf:Value->Q9->Prop} {UB:Od} {σ:St} {H:Hp} {Q:VK}
 (hc:X.calm=true) (S:eN X scope cl own fr ix) (hi:PI X target iter wi)
 (hb:∀(C:Addr) (s:Q9) (H:Hp) (ex:Oh),PG (bq X scope cl C (own++fr) s H ex) target g/\PF (bq X scope cl C (own++fr) s H ex) ifs tc/\PE (bq X scope cl C (own++fr) s H ex) elt te)
 (hs:∀x,Rz iter X.env x=pure x) (I:Inv X UB σ H s) (h:xc wi g tc te (gm own ix) σ H Q)
 (Wn:∀(D C:Addr) (H6:Hp) (s6:Q9),Inv X UB σ H6 s6->Off X UB H6 s6 C->Q (.ref D) H6->compPost (model X.prog X.w) X.A X.xe use Qf (.ref D) C (.ok .next) s6):
 wpAny (model X.prog X.w) X.A (comprehension (.ListComp elt [⟨target,iter,ifs,0⟩] scope pos) scope X.env (firstIterPos [⟨target,iter,ifs,0⟩] pos) (newList []) false (eval iter X.env) use) Qf X.xe s:=by
 refine wpAny_comprehension_free (use:=use) rfl hs S.clos S.kind S.names ?_
 refine aX (hi UB s σ H _ I h) λv s1 h1=>aX h1 λitv s2 h2=>?_
 obtain⟨it,fp,tn,J,H2,rfl,I2,T,Xe,f2,W,⟨m0,w0⟩,turn⟩:=h2
 refine RC (wpAny_newFunctionEnv S.XA (by intro y hy;simp at hy) (λh₁ hns₁ hsb₁=>?_) S.kind)
 dsimp only at hns₁ hsb₁ ⊢
 generalize hH3:s2.heap.push {cls:=.type "list",dict:=none,data:=.seq ([]:Oi).toArray}=h3 at hns₁ hsb₁ ⊢
 have hC:h3.objs.size=s2.heap.objs.size+1:=by rw[← hH3,To]
 have to3:∀b o,s2.heap.get? b=some o->h3.get? b=some o:=λb o e=>by rw[← hH3];exact Ti _ e
 have Zx:h3.get? s2.heap.objs.size=some {cls:=.type "list",data:=.seq ([]:Oi).toArray}:=by rw[← hH3];exact Tn _ rfl
 have XR:∀b o,h3.get? b=some o->h₁.get? b=some o:=λb o e=>hsb₁.extBut b o (QH (Tj e)) (Ti _ e)
 have frD:∀{b:Addr},b∈fp->b≠s2.heap.objs.size:=λ{b} hb z=>by
  obtain⟨o,e,_⟩:=T.obj 0 _ Xe b hb
  exact Ur (Tj e) (by rw[z];exact QI _)
 have frC:∀{b:Addr},b∈fp->b≠h3.objs.size:=λ{b} hb z=>by
  obtain⟨o,e,_⟩:=T.obj 0 _ Xe b hb
  exact Ur (Tj e) (by rw[z,hC];exact QR.mpr (QL _))
 have HD2:H2 s2.heap.objs.size=none:=I2.UH.fresh (QC _)
 -- YE block's context
 let X':Cx:=bq X scope cl h3.objs.size (own++fr) {s2 with heap:=h3} H2 (s2.heap.objs.size::fp)
 have YI:X'.Ok:=by
  refine⟨I2.ok.mod,S.kind,I2.ok.glob,I2.ok.blt,QC _,λx y c e1 e2=>I2.ok.inj x y c (S.cells x c e1) (S.cells y c e2),λx hx=>?_,λx c z=>?_,I2.ok.hd,I2.ok.frames,.inl rfl,λb hb=>?_,λb o e=>?_,?_,λb o e hb=>?_,λb hb z=>?_,?_,I2.wB⟩
  ·have key:scope.names.lookup x=some .free:=by
    have hx:(relabel scope X.env).names.lookup x=some .cell∨(relabel scope X.env).names.lookup x=some .free:=hx
    rcases hx with hx | hx
    ·obtain⟨k',e,z⟩:=iy hx
     rcases z with z | z
     ·subst z;exact Ur rfl (S.XA _ (Rr e))
     ·rw[e,z.1]
    ·obtain⟨k',e,z⟩:=iy hx
     rcases z with z | z
     ·subst z;exact e
     ·cases z.2
   exact S.has x key
  ·cases z
  ·rcases OT.mp hb with rfl | hb
   ·refine⟨by rw[show X'.env.locals=h3.objs.size from rfl,hC];exact QH (QM _),λx c e z=>?_⟩
    obtain⟨v',q⟩:=I2.cell x c (S.cells x c e)
    exact Ur q.lt (by rw[z];exact QI _)
   ·exact⟨frC hb,λx c e=>(f2 b hb).2.2.2.2.1 x c (S.cells x c e)⟩
  ·obtain⟨e1,e2⟩:=I2.bs b o e
   exact⟨to3 b o e1,e2⟩
  ·show X.base.objs.size<=h3.objs.size
   have:=I2.ok.Xv;have:=I2.sz
   omega
  ·rcases OT.mp hb with rfl | hb
   ·exact Ur (Tj (I2.bs _ o e).1) (QI _)
   ·rcases(f2 b hb).2.2.2.1 with z | z
    ·exact I2.ok.WR b o e z
    ·exact Ur (QG (QG (Tj e) I2.ok.Xv) z) (QI _)
  ·replace z:b∈kF X.stack:=z
   rcases OT.mp hb with rfl | hb
   ·obtain⟨_,o,ho,_⟩:=I2.stack.mem z
    exact Ur (Tj ho) (QI _)
   ·rcases OT.mp (I2.sN b z) with q | q
    ·exact(f2 b hb).2.1 q
    ·exact(f2 b hb).2.2.1 q
  ·exact I2.stack.of_keeps λb o e _=>⟨o,to3 b o e,rfl⟩
 have I4:Inv X' [] (gm own ix σ) H2 {s2 with heap:=h₁,toks:=s2.toks+([]:List (Str×Value)).length}:=by
  refine⟨YI,rfl,I2.bare,Un.kept XR,⟨_,hns₁,λi x v e1 e2 e3=>?_⟩,λx c e=>?_,I2.UH.fresh (by show s2.heap.objs.size<=h3.objs.size;rw[hC];exact QL _),λx c e=>I2.Vk x c (S.cells x c e),λp hp=>Ur (show p∈([]:Od) from hp) (by simp),I2.UH.kept λb o e=>XR b o (to3 b o e),?_⟩
  ·replace e1:(own++fr)[i]?=some x:=e1
   unfold gm at e2
   by_cases Vx:i<own.length
   ·rw[O6 (by simpa using Vx),PD] at e2
    split at e2<;>cases e2
   ·rw[O7 (by simpa using Vx)] at e1 e2
    rw[Pr,OJ] at e2
    cases ek:ix[i-own.length]? with
    | none=>rw[ek] at e2;cases e2
    | some j=>
      rw[ek] at e2
      obtain⟨n1,n2⟩:=S.at_ _ j x ek e1
      have e2':σ[j]?=some (some v):=by
       have q:(σ[j]?).join=some v:=Option.some.inj e2
       cases es:σ[j]? with
       | none=>rw[es] at q;cases q
       | some o=>rw[es] at q;exact congrArg some q
      obtain⟨m,hn,hl⟩:=I2.loc
      obtain⟨u,r,l⟩:=hl j x v n1 e2' (.inr (.inl n2))
      refine⟨u,r,?_⟩
      have Zh:scope.names.lookup x=some .free:=S.frees x (OK e1)
      rcases l with⟨k,_⟩ | ⟨_,c,Wo,z⟩
      ·rw[n2] at k;cases k
      ·obtain⟨c',Zo⟩:=S.has x Zh
       have q:=S.cells x c' Zo
       rw[Wo] at q
       cases q
       obtain⟨oc,ho,hd⟩:=z
       exact .inr ⟨.inl (l9 I2.ok.kind Zh n2),c,Zo,oc,XR _ _ (to3 _ _ ho),hd⟩
  ·obtain⟨v',oc,ho,hd⟩:=I2.cell x c (S.cells x c e)
   exact⟨v',oc,XR _ _ (to3 _ _ ho),hd⟩
  ·show(gm own ix σ).length=(own++fr).length
   unfold gm
   rw[OI,OI,Pr,OH,S.len]
 obtain⟨hg,hf,he⟩:=hb h3.objs.size {s2 with heap:=h3} H2 (s2.heap.objs.size::fp)
 have hg:PG X' target g:=hg
 have hf:PF X' ifs tc:=hf
 have he:PE X' elt te:=he
 have locX:X'.env.locals=h3.objs.size:=rfl
 -- D's place
 have Dne:s2.heap.objs.size≠X'.env.locals:=by rw[locX,hC];exact QH (QM _)
 have Dfs:s2.heap.objs.size∉X'.fs:=YI.WH _ (OM ..)
 have Dcl:∀x c,X'.env.cells.lookup x=some c->c≠s2.heap.objs.size:=λx c e=>(YI.exf _ (OM ..)).2 x c e
 have fpX:∀{pl:Od} {H':Hp},(∀p∈pl,p.1=s2.heap.objs.size)->(∀b∈fp,H' b=none)->∀b∈fp,jE X' pl H' b:=λhp hn b hb=>
  ⟨hn b hb,frC hb,YI.WH b (OL _ hb),.inl (OL _ hb),(YI.exf b (OL _ hb)).2,λp q=>by
   rw[hp p (by simpa[show X'.pn=[] from rfl] using q)];exact QW (frD hb)⟩
 have pinD:∀{σ':St} {H':Hp} {s':Q9} {o:Obj},Inv X' [] σ' H' s'->s'.heap.get? s2.heap.objs.size=some o->H' s2.heap.objs.size=none->(∀v,o.data≠ .cell v)->Inv X' [(s2.heap.objs.size,o)] σ' H' s':=λI e n d=>
  I.jq λp hp=>by
    obtain rfl:=OF.mp hp
    exact⟨e,n,Dne,Dfs,d⟩
 have loop:Sn (model X.prog X.w) X.A (.compLoop (.ListComp elt [⟨target,iter,ifs,0⟩] scope pos) 0 (.ref it) (.ref s2.heap.objs.size) X'.env)
  (compPost (model X.prog X.w) X.A X.xe use Qf (.ref s2.heap.objs.size) h3.objs.size) {s2 with heap:=h₁,toks:=s2.toks+([]:List (Str×Value)).length}:=by
  refine tF (λn s'=>∃i ys UD k σ' H',Inv X' [] σ' H' s'/\tn i s'.heap/\(∀b∈fp,H' b=none)/\H' s2.heap.objs.size=none/\Vals ys UD/\s'.heap.get? s2.heap.objs.size=some {cls:=.type "list",data:=.seq UD.toArray k}/\W i n ys σ' H')
   ?_ m0 ⟨0,[],[],0,_,H2,I4,T.keep 0 _ _ Xe λb _ o e=>XR b o (to3 b o e),λb Vv=>(f2 b Vv).1,HD2,.nil,XR _ _ Zx,w0⟩
  rintro n s5 ⟨i,ys,UD,k,σ5,H5,I5,Yo,fr5,hD5,vs5,get5,w5⟩
  obtain⟨hlen,alt⟩:=turn i n ys σ5 H5 w5
  have P5:=pinD I5 get5 hD5 (λv z=>by cases z)
  have okp:∀p∈[(s2.heap.objs.size,({cls:=.type "list",data:=.seq UD.toArray k}:Obj))],p.1=s2.heap.objs.size:=λp hp=>by
   rw[OF.mp hp]
  rcases alt with⟨stop,q⟩ | ⟨go,step⟩
  ·refine aX (T.done X' rfl rfl rfl hc i _ s5 σ5 H5 _ P5 (fpX okp fr5) Yo stop) λr s6 ⟨hr,I6⟩=>?_
   subst hr
   obtain⟨m6,hn6,_⟩:=I6.loc
   obtain⟨get6,_,_,_,_⟩:=I6.pin (s2.heap.objs.size,({cls:=.type "list",data:=.seq UD.toArray k}:Obj)) (OQ _ (OF.mpr rfl))
   have YD:∀b o,b≠h3.objs.size->s6.heap.get? b=some o->s6.heap.get? b=some o:=λb o hb e=>e
   have exn:∀{b:Addr} {o:Obj},s2.heap.get? b=some o->b∉fp->b∉X'.ex:=λ{b o} e hb z=>by
    rcases OT.mp z with z | z
    ·exact Ur (Tj e) (by rw[z];exact QI _)
    ·exact hb z
   have WT:∀{b:Addr} {o:Obj},s2.heap.get? b=some o->b≠h3.objs.size:=λ{b o} e z=>by
    have q1:=Tj e
    rw[z,hC] at q1
    exact Ur q1 (QR.mpr (QL _))
   have neD:∀{b:Addr} {o:Obj},s2.heap.get? b=some o->b≠s2.heap.objs.size:=λ{b o} e=>QH (Tj e)
   have XY:∀{b:Addr} {o:HO},H2 b=some o->b≠s2.heap.objs.size:=λ{b o} e=>cU e HD2
   have U:Un (kF X.stack) fp H2 (upd H5 s2.heap.objs.size (.lst ys)) s2.heap s6.heap:=by
    refine⟨λb o e n hb hx=>?_,λb o e n hb hx=>?_,λb o e n hx=>?_,λb o e hx=>?_,λb xs e=>?_,λb o u e=>?_,λb ps e=>?_⟩
    ·exact YD b o (WT e) (I6.base.keep b o (to3 b o e) n hb (exn e hx))
    ·obtain⟨sl,q1⟩:=I6.base.slot b o (to3 b o e) n hb (exn e hx)
     exact⟨sl,YD b _ (WT e) q1⟩
    ·rw[aJ (neD e)]
     exact I6.base.free b o (to3 b o e) n (exn e hx)
    ·obtain⟨o',q1⟩:=I6.base.there b o (to3 b o e) (exn e hx)
     exact⟨o',YD b _ (WT e) q1⟩
    ·rw[aJ (XY e)];exact I6.base.VO b xs e
    ·rw[aJ (XY e)];exact I6.base.VI b o u e
    ·rw[aJ (XY e)];exact I6.base.VP b ps e
   have HC:H5 h3.objs.size=none:=I6.free
   have UH:dZ X.prog X.w (upd H5 s2.heap.objs.size (.lst ys)) s6.heap:=λb u e=>by
    by_cases hbD:b=s2.heap.objs.size
    ·subst hbD
     rw[aF] at e
     cases e
     exact⟨hlen,UD,k,vs5,YD _ _ (by rw[hC];exact QH (QM _)) get6⟩
    ·rw[aJ hbD] at e
     refine(I6.UH b u e).Vd (λc o Yz q1=>YD c o (λz=>?_) q1) (λc q1=>by rw[aJ (cU q1 hD5)];exact q1) λc xs q1=>by rw[aJ (cU q1 hD5)];exact q1
     rcases Yz with Yz | Yz
     ·rw[← Yz,z,HC] at e;cases e
     ·rw[z,HC] at Yz;cases Yz
   have fin:=I2.La (s':=s6) (ch:=fp) I6.os U UH I6.bare λb Vv=>⟨(f2 b Vv).2.2.2.1,(f2 b Vv).2.1,(f2 b Vv).2.2.2.2.1,(f2 b Vv).2.2.2.2.2⟩
   refine Wn _ h3.objs.size _ s6 fin ⟨⟨m6,hn6⟩,?_,?_,?_,λx c e z=>?_,λp hp z=>?_⟩ (q _ hD5)
   ·rw[aJ (by rw[hC];exact QP (QM _))];exact HC
   ·intro z
    have:=I2.lt
    rw[← z,hC] at this
    exact Ur this (QR.mpr (QL _))
   ·rw[hC];exact QD I2.sz (QL _)
   ·obtain⟨v',q1⟩:=I2.cell x c e
    have:=q1.lt
    rw[z,hC] at this
    exact Ur this (QR.mpr (QL _))
   ·have:=Tj (I2.pin p hp).1
    rw[z,hC] at this
    exact Ur this (QR.mpr (QL _))
  ·refine aX (T.item X' rfl rfl rfl hc i _ s5 σ5 H5 _ P5 (fpX okp fr5) Yo go) λr s6 ⟨u,hr,h6⟩=>?_
   subst hr
   refine aX h6 λ_ s7 ⟨x,H7,I7,r7,y7,st7,fr7⟩=>?_
   have I7':=I7.pinned (fpX okp fr7) (T.obj _ _ st7)
   refine aX (hg _ s7 σ5 H7 x u _ I7' r7 (step x H7 y7)) λ_ s8 ⟨σ8,H8,I8,q8⟩=>?_
   refine aX (hf _ s8 σ8 H8 _ I8 q8) λb s9 ⟨H9,I9,q9⟩=>?_
   have out:∀{σ':St} {H':Hp} {s':Q9},Inv X' ([(s2.heap.objs.size,({cls:=.type "list",data:=.seq UD.toArray k}:Obj))]++kB fp s7.heap) σ' H' s'->
    tn (i+1) s'.heap/\(∀b∈fp,H' b=none)/\H' s2.heap.objs.size=none/\s'.heap.get? s2.heap.objs.size=some {cls:=.type "list",data:=.seq UD.toArray k}:=λI'=>by
    refine⟨T.keep _ _ _ st7 λb Vv o e=>(I'.pin (b,o) (OQ _ (OQ _ (jj Vv e)))).1,λb Vv=>?_,(I'.pin (s2.heap.objs.size,({cls:=.type "list",data:=.seq UD.toArray k}:Obj)) (OQ _ (OU _ (OF.mpr rfl)))).2.1,(I'.pin (s2.heap.objs.size,({cls:=.type "list",data:=.seq UD.toArray k}:Obj)) (OQ _ (OU _ (OF.mpr rfl)))).1⟩
    obtain⟨o,e,d⟩:=T.obj _ _ st7 b Vv
    exact(I'.pin (b,o) (OQ _ (OQ _ (jj Vv e)))).2.1
   cases b with
   | false=>
     rw[Us Oo] at q9 ⊢
     obtain⟨m',hm,w'⟩:=q9
     obtain⟨o1,o2,o3,o4⟩:=out I9
     exact⟨m',hm,i+1,ys,UD,k,σ8,H9,I9.jq (λ_ z=>nomatch z),o1,o2,o3,vs5,o4,w'⟩
   | true=>
     rw[Ut rfl] at q9 ⊢
     refine aX (he _ s9 σ8 H9 _ I9 q9) λuv s10 ⟨v10,H10,I10,r10,q10⟩=>?_
     obtain⟨m',hm,w'⟩:=q10
     obtain⟨o1,o2,o3,o4⟩:=out I10
     refine wpAny_list_append_plain ⟨k,o4⟩ (λh' U0 VM=>?_) (by
      have:=vs5.length
      rw[ON,← this];exact hlen)
     obtain⟨k',hk'⟩:=U0
     have I11:Inv X' (kB fp s7.heap) σ8 H10 s10:=I10.jq λp hp=>I10.pin p (OQ _ (OQ _ hp))
     have I12:Inv X' [] σ8 H10 {s10 with heap:=h'}:=(I10.jq (λ_ z=>nomatch z):Inv X' [] σ8 H10 s10).turned (t':=s10.toks) (λb o Vv e=>VM.extBut b o Vv e) o3 Dne (.inl (OM ..)) Dcl (λp hp=>Ur (show p∈([]:Od) from hp) (by simp))
     refine⟨m',hm,i+1,ys++[v10],UD++[uv],k',σ8,H10,I12,T.keep _ _ _ o1 λb Vv o e=>VM.extBut b o (frD Vv) e,o2,o3,vs5.append (.cons r10 .nil),?_,w'⟩
     show h'.get? _=_
     rw[hk']
     simp
 exact codeAny_compStart_list loop (T.self X.A 0 _ _ _ (T.keep 0 _ _ Xe λb _ o e=>XR b o (to3 b o e)) loop)
theorem Off.gone {UB:Od}{σ:St}{H:Hp}{C:Addr}{h':Heap}(o:Off X UB H s C)(I:Inv X UB σ H s)(VM:Tp C s.heap h'):Inv X UB σ H {s with heap:=h'}:=
 I.turned (t':=s.toks) (λb u hb e=>VM.extBut b u hb e) o.free o.ne (.inr o.young) o.cell o.pin
theorem DL {cl:List (Str×Addr)}{own:Of}
 (hc:X.calm=true) (S:eN X scope cl own fr ix) (hi:PI X target iter wi)
 (hb:∀(C:Addr) (s:Q9) (H:Hp) (ex:Oh),PG (bq X scope cl C (own++fr) s H ex) target g/\PF (bq X scope cl C (own++fr) s H ex) ifs tc/\PE (bq X scope cl C (own++fr) s H ex) elt te)
 (hs:∀x,Rz iter X.env x=pure x:=by intro _;rfl):
 PE X (.ListComp elt [⟨target,iter,ifs,0⟩] scope pos) (xc wi g tc te (gm own ix)):=by
 intro UB s σ H Q I h
 rw[eval_ListComp]
 refine qY (use:=none) hc S hi hb hs I h λD C H6 s6 I6 o6 q=>?_
 obtain⟨m,hn⟩:=o6.ns
 exact⟨m,hn,λh' VM=>⟨.ref D,H6,o6.gone I6 VM,rfl,q⟩⟩
theorem pF {i:Nat}{y:Str}{py V7:Pos}{cl:List (Str×Addr)}{own:Of}
 (VH:Rl (.ListComp elt [⟨target,iter,ifs,0⟩] scope pos) (some (.Name y py)) V7.line X.env=pure true)
 (hN:X.N.Nodup) (Zg:X.N[i]?=some y) (hx:Loc X.env.scope y)
 (hc:X.calm=true) (S:eN X scope cl own fr ix) (hi:PI X target iter wi)
 (hb:∀(C:Addr) (s:Q9) (H:Hp) (ex:Oh),PG (bq X scope cl C (own++fr) s H ex) target g/\PF (bq X scope cl C (own++fr) s H ex) ifs tc/\PE (bq X scope cl C (own++fr) s H ex) elt te)
 (hs:∀x,Rz iter X.env x=pure x:=by intro _;rfl)
 (hf:X.fn y=true∨X.env.scope.names.lookup y=some .local:=by first | exact .inl rfl | exact .inr rfl | assumption):
 PS X (.Assign [.Name y py] (.ListComp elt [⟨target,iter,ifs,0⟩] scope pos) V7) (BB (xc wi g tc te (gm own ix)) (w9 i)):=by
 intro UB s σ H D I h
 rw[exec_Assign_Name_used _ _ _ _ VH]
 refine Rb (SQ (Rb ?_))
 show wpAny _ _ (do let _ ← comprehension (.ListComp elt [⟨target,iter,ifs,0⟩] scope pos) scope X.env _ (newList []) false (eval iter X.env) (some (RU (.Name y py) X.env))) _ _ s
 refine Rb (Ru (qY (use:=some (RU (.Name y py) X.env)) (Qf:=λ_ s'=>SP X UB D .next s') hc S hi hb hs I h λA C H6 s6 I6 o6 q=>?_) (λ_ s' hq=>Rg (Rg hq)) λ_ _ e=>e)
 show wpAny _ _ (RU (.Name y py) X.env (.ref A)) _ _ _
 refine wpAny_assign_Name (qZ I6 hN Zg hx (v:=.ref A) rfl (λs7 I7 hw=>?_) hf)
 obtain⟨c,YX,XN⟩:=hw
 have WT:C≠c:=by
  rcases XN with rfl | XN
  ·exact o6.ne
  ·exact QW (o6.cell y c XN)
 obtain⟨m,hn⟩:=o6.ns
 have o7:Off X UB H6 s7 C:=⟨⟨m,hn.sameBut YX WT⟩,o6.free,o6.ne,o6.young,o6.cell,o6.pin⟩
 exact⟨m,hn.sameBut YX WT,λh' VM=>⟨_,H6,o7.gone I7 VM,q⟩⟩
end
end L2
namespace Fc
open PySem PySem.Spec PySem.W PySem.Calls L2
open PyProof.Rows hiding St
section
variable {X:Cx}
variable {e:Expr}{σ:St}{H:Hp}{t:TT}{Q:Bool->Hp->Prop}
def eQ (X:Cx)(e:Expr):TE:=λσ H Q=>∀(UB:Od) (s:Q9),Inv X UB σ H s->wpAny (model X.prog X.w) X.A (eval e X.env) (EP X UB σ Q) X.xe s
def Bs (X:Cx)(e:Expr):TT:=λσ H Q=>∀(UB:Od) (s:Q9),Inv X UB σ H s->wpAny (model X.prog X.w) X.A (RZ e X.env (eval e X.env)) (TP X UB σ Q) X.xe s
def B1 (X:Cx)(e:Expr):TT:=λσ H Q=>∀(whole:Sem Value) (UB:Od) (s:Q9),Inv X UB σ H s->wpAny (model X.prog X.w) X.A (RZ e X.env whole) (TP X UB σ Q) X.xe s
def mF (X:Cx)(e:Expr):TG:=λv σ H Q=>∀(UB:Od) (s:Q9) (u:Value),Inv X UB σ H s->RelV v u->wpAny (model X.prog X.w) X.A (RU e X.env u) (λ_ s'=>∃σ' H',Inv X UB σ' H' s'/\Q σ' H') X.xe s
def AI (X:Cx)(st:Stmt):TS:=λD σ H=>∀(UB:Od) (s:Q9),Inv X UB σ H s->wpAny (model X.prog X.w) X.A (exec st X.env) (SP X UB D) X.xe s
def sf (X:Cx)(st:List Stmt):TS:=λD σ H=>∀(UB:Od) (s:Q9),Inv X UB σ H s->wpAny (model X.prog X.w) X.A (execs st X.env) (SP X UB D) X.xe s
def xl (X:Cx)(es:Oj):TA:=λσ H Q=>∀(pos:Pos) (UB:Od) (s:Q9),Inv X UB σ H s->wpAny (model X.prog X.w) X.A (spliced (Rk pos (Rc es X.env))) (AP X UB σ Q) X.xe s
def nU (X:Cx)(ifs:Oj):TT:=λσ H Q=>∀(UB:Od) (s:Q9),Inv X UB σ H s->
 wpAny (model X.prog X.w) X.A (forIn ifs true λc r=>if r=true then do let ok ← RZ c X.env (eval c X.env);pure (Ox ok) else pure (Ox r)) (TP X UB σ Q) X.xe s
theorem aP:PE X e (eQ X e):=λUB s _ _ _ I h=>h UB s I
theorem om:PT X e (Bs X e):=λUB s _ _ _ I h=>h UB s I
theorem IZ:PW X e (B1 X e):=λwh UB s _ _ _ I h=>h wh UB s I
theorem pgS:PG X e (mF X e):=λUB s _ _ _ u _ I r h=>h UB s u I r
theorem Mu {e:Stmt}:PS X e (AI X e):=λUB s _ _ _ I h=>h UB s I
theorem jX {e:List Stmt}:jQ X e (sf X e):=λUB s _ _ _ I h=>h UB s I
theorem lT {e:Oj}:PA X e (xl X e):=λpos UB s _ _ _ I h=>h pos UB s I
theorem eS {t:TE}(h:PE X e t){Q:VK}(q:t σ H Q):eQ X e σ H Q:=λUB s I=>h UB s σ H Q I q
theorem tS (h:PT X e t)(q:t σ H Q):Bs X e σ H Q:=λUB s I=>h UB s σ H Q I q
theorem wS (h:PW X e t)(q:t σ H Q):B1 X e σ H Q:=λwh UB s I=>h wh UB s σ H Q I q
theorem gS {t:TG}(h:PG X e t){v:V}{Q:St->Hp->Prop}(q:t v σ H Q):mF X e v σ H Q:=λUB s u I r=>h UB s σ H v u Q I r q
theorem sS {e:Stmt}{t:TS}(h:PS X e t){D:Ends}(q:t D σ H):AI X e D σ H:=λUB s I=>h UB s σ H D I q
theorem FT {e:List Stmt}{t:TS}(h:jQ X e t){D:Ends}(q:t D σ H):sf X e D σ H:=λUB s I=>h UB s σ H D I q
theorem aS {e:Oj}{t:TA}(h:PA X e t){Q:List V->Hp->Prop}(q:t σ H Q):xl X e σ H Q:=λpos UB s I=>h pos UB s σ H Q I q
theorem fS {e:Oj}(h:PF X e t)(q:t σ H Q):nU X e σ H Q:=λUB s I=>h UB s σ H Q I q
end
section
variable {H R:Hp}{α:Type}
theorem au.fresh {p:Addr}(h:H p=none)(o:HO):au H (upd H p o):=λb u q=>by rw[aJ (cU q h)];exact q
structure Rep (α:Type) where
 R:T2->Hp->V->α->Prop
 mono:∀{K:T2} {H H':Hp} {v:V} {x:α},au H H'->R K H v x->R K H' v x
def ah:Rep Int:=⟨λ_ _ v x=>v= .int x,λ_ h=>h⟩
def bF:Rep Bool:=⟨λ_ _ v x=>v= .bl x,λ_ h=>h⟩
theorem Paired.map {β:Type}{F G:α->β->Prop}(f:∀a b,F a b->G a b):∀{l:List α} {m:List β},PySem.Paired F l m->PySem.Paired G l m
 | _,_,.nil=>.nil
 | _,_,.cons h t=>.cons (f _ _ h) (Paired.map f t)
def ae (r:Rep α):Rep (List α):=⟨λK H v xs=>∃a vs,v= .ref a/\H a=some (.lst vs)/\PySem.Paired (r.R K H) vs xs/\xs.length<=Ra,
 λs ⟨a,vs,e,q,p,z⟩=>⟨a,vs,e,s _ _ q,Paired.map (λ_ _=>r.mono s) p,z⟩⟩
def bB:Rep Oe:=⟨λK H v xs=>∃a,v= .ref a/\aZ K H a (xs.map V.int)/\xs.length<=63,λs ⟨a,e,q,z⟩=>⟨a,e,s.seq q,z⟩⟩
def cD {β:Type}(r:Rep α)(r':Rep β):Rep (α×β):=⟨λK H v x=>∃a v1 v2,v= .ref a/\H a=some (.tup [v1,v2])/\r.R K H v1 x.1/\r'.R K H v2 x.2,
 λs ⟨a,v1,v2,e,q,h1,h2⟩=>⟨a,v1,v2,e,s _ _ q,r.mono s h1,r'.mono s h2⟩⟩
abbrev Row:=Int×Int×Int×Int
def cx:Rep Row:=⟨λK H v x=>∃a,v= .ref a/\H a=some (.tup [.int x.1,.int x.2.1,.int x.2.2.1,.int x.2.2.2]),λs ⟨a,e,q⟩=>⟨a,e,s _ _ q⟩⟩
abbrev de:=Oe×List Row
def c8:Rep de:=cD (ae ah) (ae cx)
structure Ext (H R H' R':Hp):Prop where
 h:au H H'
 r:au R R'
 s:au R' H'
 old:∀b,H b≠none->R' b=R b
theorem Ext.refl (s:au R H):Ext H R H R:=⟨au.refl _,au.refl _,s,λ_ _=>rfl⟩
theorem au.some {H':Hp}(s:au H H'){b:Addr}(h:H b≠none):H' b≠none:=by
 cases q:H b with
 | none=>exact Ur q h
 | some o=>rw[s b o q];exact QY o
theorem Ext.trans {H1 R1 H2 R2:Hp}(a:Ext H R H1 R1)(b:Ext H1 R1 H2 R2):Ext H R H2 R2:=
 ⟨a.h.trans b.h,a.r.trans b.r,b.s,λc hc=>(b.old c (au.some a.h hc)).trans (a.old c hc)⟩
theorem Ext.fresh (s:au R H){p:Addr}(h:H p=none)(o:HO):Ext H R (upd H p o) (upd R p o):=
 ⟨au.fresh h o,au.fresh (s.free h) o,λb u q=>by
  by_cases e:b=p
  ·subst e;rw[aF] at q ⊢;exact q
  ·rw[aJ e] at q ⊢;exact s b u q,λb hb=>aJ λe=>hb (e▸h)⟩
theorem Ext.dS (s:au R H){p:Addr}(h:H p=none)(o:HO):Ext H R (upd H p o) R:=
 ⟨au.fresh h o,au.refl _,s.trans (au.fresh h o),λ_ _=>rfl⟩
structure wq:Type 1 where
 fp:Oh
 R:T2->Hp->Hp->V->Prop
 loc:∀{K:T2} {H R0 H' R':Hp} {v:V},(∀a∈fp,H' a=H a)->au R0 R'->R K H R0 v->R K H' R' v
 has:∀{K:T2} {H R0:Hp} {v:V},R K H R0 v->∀a∈fp,H a≠none
inductive Ent:Type 1
 | no
 | im {α:Type} (r:Rep α) (x:α)
 | mu {α:Type} (r:Rep α) (xs:List α)
 | di (kvs:List (Int×V))
 | ob (B:wq)
def bZ (kvs:List (Int×V)):List (Key×V):=kvs.map λp=>(Sum.inl p.1,p.2)
def Ent.ok (K:T2)(H R:Hp):Ent->Option V->Prop
 | .no,_=>True
 | .im r x,o=>∃v,o=some v/\r.R K R v x
 | .mu r xs,o=>∃a vs,o=some (.ref a)/\H a=some (.lst vs)/\R a=none/\PySem.Paired (r.R K R) vs xs
 | .di kvs,o=>∃a,o=some (.ref a)/\H a=some (.dK (bZ kvs))/\R a=none
 | .ob B,o=>(∃v,o=some v/\B.R K H R v)/\∀a∈B.fp,R a=none
def Ent.own:Ent->Bool
 | .mu .. =>true
 | .di .. =>true
 | _=>false
def refOf:Option V->Oh
 | some (.ref a)=>[a]
 | _=>[]
def Ent.fp:Ent->Option V->Oh
 | .mu ..,o=>refOf o
 | .di ..,o=>refOf o
 | .ob B,_=>B.fp
 | _,_=>[]
abbrev Ga:=List Ent
structure aw (K:T2) (σ:St) (H0 R0 H R:Hp) (Γ:Ga):Prop where
 ext:Ext H0 R0 H R
 ent:∀(i:Nat) (e:Ent),Γ[i]?=some e->e.ok K H R (σ[i]?).join
 nw:∀(i:Nat) (e:Ent) (a:Addr),Γ[i]?=some e->a∈e.fp (σ[i]?).join->H0 a=none
 ds:∀(i j:Nat) (e e':Ent) (a:Addr),Γ[i]?=some e->Γ[j]?=some e'->a∈e.fp (σ[i]?).join->a∈e'.fp (σ[j]?).join->i=j
 len:Γ.length=σ.length
end
section
variable {K:T2}{σ:St}{H0 R0 H R H' R':Hp}{Γ:Ga}{α:Type}{r:Rep α}
variable {a:Addr}{o:Option V}{u:HO}{i:Nat}
theorem cq:a∈refOf o↔o=some (.ref a):=by
 unfold refOf
 split
 ·rw[OF];constructor
  ·rintro rfl;rfl
  ·intro e;cases e;rfl
 ·rename_i h
  constructor
  ·intro z;cases z
  ·intro e;exact Ur e (h a)
theorem Ent.pd {e:Ent}(w:e.own=true):a∈e.fp o↔o=some (.ref a):=by
 cases e with
 | no=>cases w
 | im r x=>cases w
 | mu r xs=>exact cq
 | di kvs=>exact cq
 | ob B=>cases w
theorem aw.new (E:aw K σ H0 R0 H R Γ)(i:Nat)(e:Ent)(a:Addr)(h:Γ[i]?=some e)(w:e.own=true)(ha:(σ[i]?).join=some (.ref a)):H0 a=none:=E.nw i e a h ((Ent.pd w).mpr ha)
theorem Ent.gY {e:Ent}(h:e.ok K H R o)(ha:a∈e.fp o):H a≠none/\R a=none:=by
 cases e with
 | no=>cases ha
 | im r x=>cases ha
 | mu r xs=>
   obtain⟨b,vs,e,q,n,_⟩:=h
   rw[Ent.fp,cq,e] at ha
   cases ha
   exact⟨by rw[q];exact QY _,n⟩
 | di kvs=>
   obtain⟨b,e,q,n⟩:=h
   rw[Ent.fp,cq,e] at ha
   cases ha
   exact⟨by rw[q];exact QY _,n⟩
 | ob B=>obtain⟨⟨v,e,q⟩,n⟩:=h;exact⟨B.has q a ha,n a ha⟩
theorem Ent.ok.loc {e:Ent}(h:e.ok K H R o)(hH:∀a∈e.fp o,H' a=H a)(hR:au R R')(hn:∀a∈e.fp o,R' a=none):e.ok K H' R' o:=by
 cases e with
 | no=>trivial
 | im r y=>obtain⟨v,e,q⟩:=h;exact⟨v,e,r.mono hR q⟩
 | mu r xs=>
   obtain⟨a,vs,e,q,n,p⟩:=h
   have ha:a∈Ent.fp (.mu r xs) o:=cq.mpr e
   exact⟨a,vs,e,(hH a ha).trans q,hn a ha,Paired.map (λ_ _=>r.mono hR) p⟩
 | di kvs=>
   obtain⟨a,e,q,n⟩:=h
   have ha:a∈Ent.fp (.di kvs) o:=cq.mpr e
   exact⟨a,e,(hH a ha).trans q,hn a ha⟩
 | ob B=>obtain⟨⟨v,e,q⟩,n⟩:=h;exact⟨⟨v,e,B.loc hH hR q⟩,hn⟩
theorem Ent.ok.grow {e:Ent}(h:e.ok K H R o)(x:Ext H R H' R'):e.ok K H' R' o:=by
 refine h.loc (λa ha=>?_) x.r (λa ha=>?_)
 ·cases q:H a with
  | none=>exact Ur q (Ent.gY h ha).1
  | some u=>exact x.h _ _ q
 ·obtain⟨h1,h2⟩:=Ent.gY h ha
  exact(x.old a h1).trans h2
theorem aw.grow (E:aw K σ H0 R0 H R Γ)(x:Ext H R H' R'):aw K σ H0 R0 H' R' Γ:=
 ⟨E.ext.trans x,λi e h=>(E.ent i e h).grow x,E.nw,E.ds,E.len⟩
theorem aw.sub (E:aw K σ H0 R0 H R Γ):au R H:=E.ext.s
def Off (a:Addr)(σ:St)(Γ:Ga):Prop:=∀(i:Nat) (e:Ent),Γ[i]?=some e->a∉e.fp (σ[i]?).join
theorem aw.off (E:aw K σ H0 R0 H R Γ)(h:H a=none):Off a σ Γ:=λi e q w=>(Ent.gY (E.ent i e q) w).1 h
theorem set_at.{v}{β:Type v}{l:List β}{i:Nat}{y:β}{j:Nat}{e:β}(q:(l.set i y)[j]?=some e):(j=i/\e=y/\i<l.length)∨(j≠i/\l[j]?=some e):=by
 by_cases hj:j=i
 ·subst hj
  have hl:j<l.length:=by
   have:=OD.mp q
   simpa using this.1
  rw[OW hl] at q
  exact .inl ⟨rfl,(Option.some.inj q).symm,hl⟩
 ·rw[Pb (QW hj)] at q
  exact .inr ⟨hj,q⟩
theorem aw.setG (E:aw K σ H0 R0 H R Γ)(i:Nat){v:V}{en:Ent}(ho:en.ok K H R (some v))(h0:∀a∈en.fp (some v),H0 a=none)(hf:∀a∈en.fp (some v),∀(j:Nat) (e:Ent),j≠i->Γ[j]?=some e->a∉e.fp (σ[j]?).join):
 aw K (σ.set i (some v)) H0 R0 H R (Γ.set i en):=by
 have key:∀(j:Nat) (e:Ent),(Γ.set i en)[j]?=some e->(j=i/\e=en/\((σ.set i (some v))[j]?).join=some v)∨(j≠i/\Γ[j]?=some e/\(σ.set i (some v))[j]?=σ[j]?):=λj e q=>by
  rcases set_at q with⟨rfl,rfl,hl⟩ | ⟨hj,q⟩
  ·exact .inl ⟨rfl,rfl,by rw[OW (by rw[← E.len];exact hl)];rfl⟩
  ·exact .inr ⟨hj,q,Pb (QW hj)⟩
 refine⟨E.ext,λj e q=>?_,λj e a q w=>?_,λj k e e' a q q' w w'=>?_,by rw[Pj,Pj];exact E.len⟩
 ·rcases key j e q with⟨_,rfl,q2⟩ | ⟨_,q1,q2⟩
  ·rw[q2];exact ho
  ·rw[q2];exact E.ent j e q1
 ·rcases key j e q with⟨_,rfl,q2⟩ | ⟨_,q1,q2⟩
  ·rw[q2] at w;exact h0 a w
  ·rw[q2] at w;exact E.nw j e a q1 w
 ·rcases key j e q with⟨hj,rfl,q2⟩ | ⟨hj,q1,q2⟩
  ·rcases key k e' q' with⟨hk,rfl,Xx⟩ | ⟨hk,V2,Xx⟩
   ·rw[hj,hk]
   ·rw[q2] at w;rw[Xx] at w';exact Ur w' (hf a w k e' hk V2)
  ·rcases key k e' q' with⟨hk,rfl,Xx⟩ | ⟨hk,V2,Xx⟩
   ·rw[q2] at w;rw[Xx] at w';exact Ur w (hf a w' j e hj q1)
   ·rw[q2] at w;rw[Xx] at w';exact E.ds j k e e' a q1 V2 w w'
theorem aw.set (E:aw K σ H0 R0 H R Γ)(i:Nat){v:V}{x:α}(h:r.R K R v x):aw K (σ.set i (some v)) H0 R0 H R (Γ.set i (.im r x)):=
 E.setG i ⟨v,rfl,h⟩ (λa w=>by cases w) λa w=>by cases w
theorem aw.uj (E:aw K σ H0 R0 H R Γ)(i:Nat){u:HO}{en:Ent}(ho:en.ok K H R (some (.ref a)))(h0:H0 a=none)(hf:∀(j:Nat) (e:Ent),j≠i->Γ[j]?=some e->a∉e.fp (σ[j]?).join)(hfp:en.fp (some (.ref a))=[a]:=by rfl):
 aw K (σ.set i (some (.ref a))) H0 R0 H R (Γ.set i en):=
 E.setG i ho (λb w=>by rw[hfp,OF] at w;rw[w];exact h0) λb w=>by rw[hfp,OF] at w;rw[w];exact hf
theorem aw.n6 (E:aw K σ H0 R0 H R Γ){e0 en:Ent}(hi:Γ[i]?=some e0)(ha:a∈e0.fp (σ[i]?).join)(ho:en.ok K (L2.upd H a u) R (σ[i]?).join)
 (Va:∀b∈en.fp (σ[i]?).join,b∈e0.fp (σ[i]?).join∨(H0 b=none/\Off b σ Γ)):aw K σ H0 R0 (L2.upd H a u) R (Γ.set i en):=by
 have h0:H0 a=none:=E.nw i e0 a hi ha
 have hR:R a=none:=(Ent.gY (E.ent i e0 hi) ha).2
 refine⟨⟨λb o q=>?_,E.ext.r,λb o q=>?_,E.ext.old⟩,λj e q=>?_,λj e b q w=>?_,λj k e e' b q q' w w'=>?_,by rw[Pj];exact E.len⟩
 ·rw[aJ (cU q h0)];exact E.ext.h b o q
 ·rw[aJ (cU q hR)];exact E.ext.s b o q
 ·rcases set_at q with⟨rfl,rfl,_⟩ | ⟨hj,q1⟩
  ·exact ho
  ·refine(E.ent j e q1).loc (λb hb=>aJ λz=>hj ?_) (au.refl _) λb hb=>(Ent.gY (E.ent j e q1) hb).2
   rw[z] at hb
   exact E.ds j i e e0 a q1 hi hb ha
 ·rcases set_at q with⟨rfl,rfl,_⟩ | ⟨hj,q1⟩
  ·rcases Va b w with z | z
   ·exact E.nw _ _ b hi z
   ·exact z.1
  ·exact E.nw j e b q1 w
 ·rcases set_at q with⟨rfl,rfl,_⟩ | ⟨hj,q1⟩
  ·rcases set_at q' with⟨rfl,rfl,_⟩ | ⟨hk,V2⟩
   ·rfl
   ·rcases Va b w with z | z
    ·exact E.ds _ _ _ _ b hi V2 z w'
    ·exact Ur w' (z.2 k e' V2)
  ·rcases set_at q' with⟨rfl,rfl,_⟩ | ⟨hk,V2⟩
   ·rcases Va b w' with z | z
    ·exact E.ds _ _ _ _ b q1 hi w z
    ·exact Ur w (z.2 j e q1)
   ·exact E.ds _ _ _ _ b q1 V2 w w'
theorem aw.upd (E:aw K σ H0 R0 H R Γ){e0 en:Ent}(hi:Γ[i]?=some e0)(w0:e0.own=true)(ha:(σ[i]?).join=some (.ref a))(hR:R a=none)(ho:en.ok K (L2.upd H a u) R (some (.ref a)))(hfp:en.fp (some (.ref a))=[a]:=by rfl):
 aw K σ H0 R0 (L2.upd H a u) R (Γ.set i en):=
 E.n6 hi ((Ent.pd w0).mpr ha) (by rw[ha];exact ho) λb w=>.inl (by rw[ha,hfp,OF] at w;rw[w];exact(Ent.pd w0).mpr ha)
theorem aw.rX (E:aw K σ H0 R0 H R Γ)(ha:H a=some u)(hR:R a=none)(h0:H0 a=none)(off:Off a σ Γ):aw K σ H0 R0 H (L2.upd R a u) Γ:=by
 have s2:au R (L2.upd R a u):=au.fresh hR _
 refine⟨⟨E.ext.h,E.ext.r.trans s2,λb o qb=>?_,λb hb=>?_⟩,λi e qe=>?_,E.nw,E.ds,E.len⟩
 ·by_cases hb:b=a
  ·subst hb;rw[aF] at qb;cases qb;exact ha
  ·rw[aJ hb] at qb;exact E.ext.s b o qb
 ·rw[aJ (show b≠a from λe=>hb (by rw[e];exact h0))];exact E.ext.old b hb
 ·refine(E.ent i e qe).loc (λ_ _=>rfl) s2 λb hb=>?_
  rw[aJ (show b≠a from λz=>off i e qe (z▸hb))]
  exact(Ent.gY (E.ent i e qe) hb).2
theorem aw.tell (E:aw K σ H0 R0 H R Γ){e0 en:Ent}(hi:Γ[i]?=some e0)(ho:en.ok K H R (σ[i]?).join)(Va:∀b∈en.fp (σ[i]?).join,b∈e0.fp (σ[i]?).join):aw K σ H0 R0 H R (Γ.set i en):=by
 refine⟨E.ext,λj e q=>?_,λj e b q w=>?_,λj k e e' b q q' w w'=>?_,by rw[Pj];exact E.len⟩
 ·rcases set_at q with⟨rfl,rfl,_⟩ | ⟨hj,q1⟩
  ·exact ho
  ·exact E.ent j e q1
 ·rcases set_at q with⟨rfl,rfl,_⟩ | ⟨hj,q1⟩
  ·exact E.nw _ _ b hi (Va b w)
  ·exact E.nw j e b q1 w
 ·rcases set_at q with⟨rfl,rfl,_⟩ | ⟨hj,q1⟩
  ·rcases set_at q' with⟨rfl,rfl,_⟩ | ⟨hk,V2⟩
   ·rfl
   ·exact E.ds _ _ _ _ b hi V2 (Va b w) w'
  ·rcases set_at q' with⟨rfl,rfl,_⟩ | ⟨hk,V2⟩
   ·exact E.ds _ _ _ _ b q1 hi w (Va b w')
   ·exact E.ds _ _ _ _ b q1 V2 w w'
def Wk:Ga->Ga->Prop
 | [],[]=>True
 | e::r,e'::r'=>(e'=e∨e'= .no)/\Wk r r'
 | _,_=>False
theorem Wk.len:∀{Γ Γ':Ga},Wk Γ Γ'->Γ'.length=Γ.length
 | [],[],_=>rfl
 | _::_,_::_,h=>by rw[OP,OP,Wk.len h.2]
theorem Wk.at:∀{Γ Γ':Ga},Wk Γ Γ'->∀(i:Nat) (e:Ent),Γ'[i]?=some e->e= .no∨Γ[i]?=some e
 | [],[],_,i,e,q=>by simp at q
 | a::_,b::_,h,0,e,q=>by
   simp at q
   rcases h.1 with z | z
   ·right;simp[← q,z]
   ·left;rw[← q,z]
 | a::r,b::r',h,i+1,e,q=>by
   simp at q
   have:=Wk.at h.2 i e q
   simpa using this
theorem Wk.refl:∀Γ:Ga,Wk Γ Γ
 | []=>trivial
 | _::r=>⟨.inl rfl,Wk.refl r⟩
theorem aw.weak (E:aw K σ H0 R0 H R Γ){Γ':Ga}(w:Wk Γ Γ'):aw K σ H0 R0 H R Γ':=by
 refine⟨E.ext,λi e q=>?_,λi e a q z=>?_,λi j e e' a q q' z z'=>?_,w.len.trans E.len⟩
 ·rcases w.at i e q with rfl | q
  ·trivial
  ·exact E.ent i e q
 ·rcases w.at i e q with rfl | q
  ·cases z
  ·exact E.nw i e a q z
 ·rcases w.at i e q with rfl | q
  ·cases z
  ·rcases w.at j e' q' with rfl | q'
   ·cases z'
   ·exact E.ds i j e e' a q q' z z'
end
section
variable {X:Cx}{Γ Γ1 Γ2 Γ3:Ga}{α β γ:Type}
variable {pos:Pos}{e:Expr}{r:Rep α}
def EV (X:Cx)(e:Expr)(Γ:Ga){α:Type}(r:Rep α)(y:α)(Γ':Ga):Prop:=
 ∀(σ:St) (H0 R0 H R:Hp),aw X.K σ H0 R0 H R Γ->∀Q:VK,(∀v H' R',aw X.K σ H0 R0 H' R' Γ'->au R R'->r.R X.K R' v y->Q v H')->eQ X e σ H Q
def aW (X:Cx)(e:Expr)(Γ:Ga){α:Type}(r:Rep α)(ys:List α)(Γ':Ga):Prop:=
 ∀(σ:St) (H0 R0 H R:Hp),aw X.K σ H0 R0 H R Γ->∀Q:VK,(∀a vs H' R',aw X.K σ H0 R0 H' R' Γ'->au R R'->H' a=some (.lst vs)->R' a=none->H0 a=none->Off a σ Γ'->PySem.Paired (r.R X.K R') vs ys->ys.length<=Ra->Q (.ref a) H')->eQ X e σ H Q
def TV (X:Cx)(e:Expr)(Γ:Ga)(b:Bool)(Γ':Ga):Prop:=
 ∀(σ:St) (H0 R0 H R:Hp),aw X.K σ H0 R0 H R Γ->∀Q:Bool->Hp->Prop,(∀H' R',aw X.K σ H0 R0 H' R' Γ'->au R R'->Q b H')->Bs X e σ H Q
def TW (X:Cx)(e:Expr)(Γ:Ga)(b:Bool)(Γ':Ga):Prop:=
 ∀(σ:St) (H0 R0 H R:Hp),aw X.K σ H0 R0 H R Γ->∀Q:Bool->Hp->Prop,(∀H' R',aw X.K σ H0 R0 H' R' Γ'->au R R'->Q b H')->B1 X e σ H Q
def TF (X:Cx)(es:Oj)(Γ:Ga)(b:Bool)(Γ':Ga):Prop:=
 ∀(σ:St) (H0 R0 H R:Hp),aw X.K σ H0 R0 H R Γ->∀Q:Bool->Hp->Prop,(∀H' R',aw X.K σ H0 R0 H' R' Γ'->au R R'->Q b H')->nU X es σ H Q
def BG (X:Cx)(tg:Expr){α:Type}(r:Rep α)(bf:α->Ga->Ga):Prop:=
 ∀(σ:St) (H0 R0 H R:Hp) (Γ:Ga) (v:V) (x:α),aw X.K σ H0 R0 H R Γ->r.R X.K R v x->∀Q:St->Hp->Prop,(∀σ',aw X.K σ' H0 R0 H R (bf x Γ)->Q σ' H)->mF X tg v σ H Q
abbrev RT:=Hp->V->Hp->Hp->Prop
def WS (X:Cx)(Wy:List Stmt)(Γ:Ga)(N:Ga->Prop)(T:RT):Prop:=
 ∀(σ:St) (H0 R0 H R:Hp),aw X.K σ H0 R0 H R Γ->∀D:Ends,(∀σ' H' R' Γ',aw X.K σ' H0 R0 H' R' Γ'->au R R'->N Γ'->D.nx σ' H')->(∀v H' R',Ext H0 R0 H' R'->T H0 v H' R'->D.rt v H')->sf X Wy D σ H
def W1 (X:Cx)(st:Stmt)(Γ:Ga)(N:Ga->Prop)(T:RT):Prop:=
 ∀(σ:St) (H0 R0 H R:Hp),aw X.K σ H0 R0 H R Γ->∀D:Ends,(∀σ' H' R' Γ',aw X.K σ' H0 R0 H' R' Γ'->au R R'->N Γ'->D.nx σ' H')->(∀v H' R',Ext H0 R0 H' R'->T H0 v H' R'->D.rt v H')->AI X st D σ H
def bL (K:T2){β:Type}(r:Rep β)(P:β->Prop):RT:=λ_ v _ R'=>∃y,r.R K R' v y/\P y
def nu (K:T2){β:Type}(r:Rep β)(P:List β->Prop):RT:=λH0 v H' R'=>∃a vs ys,v= .ref a/\H0 a=none/\H' a=some (.lst vs)/\R' a=none/\PySem.Paired (r.R K R') vs ys/\ys.length<=Ra/\P ys
theorem aW.im {ys:List α}(h:aW X e Γ r ys Γ1):EV X e Γ (ae r) ys Γ1:=by
 intro σ H0 R0 H R E Q q
 refine h σ H0 R0 H R E Q λa vs H' R' E' s1 ha hR h0 off p z=>?_
 have s2:au R' (upd R' a (.lst vs)):=au.fresh hR _
 exact q (.ref a) H' (upd R' a (.lst vs)) (E'.rX ha hR h0 off) (s1.trans s2) ⟨a,vs,rfl,aF,Paired.map (λ_ _=>r.mono s2) p,z⟩
theorem EV.cast {y y':α}(h:EV X e Γ r y Γ1)(e1:y=y'):EV X e Γ r y' Γ1:=e1▸h
theorem TV.cast {b b':Bool}(h:TV X e Γ b Γ1)(e1:b=b'):TV X e Γ b' Γ1:=e1▸h
theorem aa (i:Nat){x:Str}{y:α}(hΓ:Γ[i]?=some (.im r y))(hN:X.N[i]?=some x:=by rfl)(hv:autoParam (cN X.env.scope x) Vc)
 (hd:UX x:=by decide) (UI:Ve x:=by decide):EV X (.Name x pos) Γ r y Γ:=by
 intro σ H0 R0 H R E Q q
 obtain⟨v,e,h⟩:=E.ent i _ hΓ
 refine eS (br hN hv hd UI) ⟨v,?_,q v H R E (au.refl _) h⟩
 cases es:σ[i]? with
 | none=>rw[es] at e;cases e
 | some o=>rw[es] at e;exact congrArg some e
theorem ev_int {i:Int}{j:Nat}:EV X (.Constant (.int i) j pos) Γ ah i Γ:=λ_ _ _ _ _ E _ q=>eS zV (q _ _ _ E (au.refl _) rfl)
theorem fh {b:Bool}{j:Nat}:EV X (.Constant (.bool b) j pos) Γ bF b Γ:=λ_ _ _ _ _ E _ q=>eS oS (q _ _ _ E (au.refl _) rfl)
theorem ck {x:Str}{n:Int}{t:Tok}(hm:X.mg x=some (.int n t))(hg:Gl X x:=by rfl)(hd:UX x:=by decide):EV X (.Name x pos) Γ ah n Γ:=
 λ_ _ _ _ _ E _ q=>eS (iq (v:=.int n) hg hm ⟨t,rfl⟩ hd) (q (.int n) _ _ E (au.refl _) rfl)
theorem jg {op:Operator}{r2:R2}{a b:Expr}{ra:Rep α}{rb:Rep β}{rc:Rep γ}{x:α}{y:β}{z:γ}(ho:dP X (RQ op) r2)(ha:EV X a Γ ra x Γ1)(hb:EV X b Γ1 rb y Γ2)
 (hz:∀(R:Hp) v u H Q,ra.R X.K R v x->rb.R X.K R u y->(∀w,rc.R X.K R w z->Q w H)->r2 v u H Q):EV X (.BinOp a op b pos) Γ rc z Γ2:=by
 intro σ H0 R0 H R E Q q
 refine eS (Ds ho aP aP) (ha σ H0 R0 H R E _ λv H1 R1 E1 s1 e1=>hb σ H0 R0 H1 R1 E1 _ λu H2 R2 E2 s2 e2=>?_)
 exact hz R2 v u H2 _ (ra.mono s2 e1) e2 λw hw=>q w H2 R2 E2 (s1.trans s2) hw
section
variable {a b c:Expr}{pos:Pos}{x y z:Int}
theorem cg (ha:EV X a Γ ah x Γ1)(hb:EV X b Γ1 ah y Γ2):EV X (.BinOp a .Add b pos) Γ ah (x+y) Γ2:=jg HF ha hb λR v u H Q e1 e2 q=>⟨x,y,e1,e2,q _ rfl⟩
theorem gc (ha:EV X a Γ ah x Γ1)(hb:EV X b Γ1 ah y Γ2):EV X (.BinOp a .Sub b pos) Γ ah (x-y) Γ2:=jg Gx ha hb λR v u H Q e1 e2 q=>⟨x,y,e1,e2,q _ rfl⟩
theorem Hs (ha:EV X a Γ ah x Γ1)(hb:EV X b Γ1 ah y Γ2)(h:w6 x y):EV X (.BinOp a .Mult b pos) Γ ah (x*y) Γ2:=jg F5 ha hb λR v u H Q e1 e2 q=>⟨x,y,e1,e2,h,q _ rfl⟩
theorem cH (ha:EV X a Γ ah x Γ1)(hb:EV X b Γ1 ah y Γ2)(h:0<y):EV X (.BinOp a .Mod b pos) Γ ah (x%y) Γ2:=jg Jo ha hb λR v u H Q e1 e2 q=>⟨x,y,e1,e2,h,q _ rfl⟩
theorem kP (ha:EV X a Γ ah x Γ1)(hb:EV X b Γ1 ah y Γ2)(h:Jc x y):EV X (.BinOp a .FloorDiv b pos) Γ ah (x/y) Γ2:=jg EK ha hb λR v u H Q e1 e2 q=>⟨x,y,e1,e2,h,q _ rfl⟩
theorem uJ (ha:EV X a Γ ah x Γ1)(hb:EV X b Γ1 ah y Γ2)(h:Iy x y):EV X (.BinOp a .Pow b pos) Γ ah (x ^ y.toNat) Γ2:=jg FC ha hb λR v u H Q e1 e2 q=>⟨x,y,e1,e2,h,q _ rfl⟩
theorem fM (ha:EV X a Γ ah x Γ1):EV X (.UnaryOp .USub a pos) Γ ah (-x) Γ1:=by
 intro σ H0 R0 H R E Q q
 exact eS (KQ F7 aP) (ha σ H0 R0 H R E _ λv H1 R1 E1 s1 e1=>⟨x,e1,q _ H1 R1 E1 s1 rfl⟩)
end
structure fz (X:Cx) (op:CmpOp) {α β:Type} (ra:Rep α) (rb:Rep β) (x:α) (y:β) (k:Bool):Prop where
 r2:∃r,dP X (Ro op) r/\∀(R H:Hp) v u Q,au R H->ra.R X.K R v x->rb.R X.K R u y->Q (.bl k) H->r v u H Q
theorem dm {op:CmpOp}{a b:Expr}{pos:Pos}{ra:Rep α}{rb:Rep β}{x:α}{y:β}{k:Bool}(c:fz X op ra rb x y k)(ha:EV X a Γ ra x Γ1)(hb:EV X b Γ1 rb y Γ2)(hm:RO op b=false:=by first | exact sj _ | with_unfolding_all rfl):
 EV X (.Compare a [op] [b] pos) Γ bF k Γ2:=by
 obtain⟨r,ho,hr⟩:=c.r2
 intro σ H0 R0 H R E Q q
 refine eS (Ei ho aP aP hm) (ha σ H0 R0 H R E _ λv H1 R1 E1 s1 e1=>hb σ H0 R0 H1 R1 E1 _ λu H2 R2 E2 s2 e2=>?_)
 exact hr R2 H2 v u _ E2.sub (ra.mono s2 e1) e2 (q _ H2 R2 E2 (s1.trans s2) rfl)
theorem aD {op:CmpOp}{a b:Expr}{pos:Pos}{ra:Rep α}{rb:Rep β}{x:α}{y:β}{k:Bool}(c:fz X op ra rb x y k)(ha:EV X a Γ ra x Γ1)(hb:EV X b Γ1 rb y Γ2)(hm:RO op b=false:=by first | exact sj _ | with_unfolding_all rfl):
 TV X (.Compare a [op] [b] pos) Γ k Γ2:=by
 obtain⟨r,ho,hr⟩:=c.r2
 intro σ H0 R0 H R E Q q
 refine tS (DO ho aP aP hm) (ha σ H0 R0 H R E _ λv H1 R1 E1 s1 e1=>hb σ H0 R0 H1 R1 E1 _ λu H2 R2 E2 s2 e2=>?_)
 exact hr R2 H2 v u _ E2.sub (ra.mono s2 e1) e2 ⟨k,rfl,q H2 R2 E2 (s1.trans s2)⟩
section
variable {x y:Int}
theorem gE:fz X .Lt ah ah x y (decide (x<y)):=⟨_,KW,λR H v u Q _ e1 e2 q=>⟨x,y,e1,e2,q⟩⟩
theorem gG:fz X .LtE ah ah x y (decide (x<=y)):=⟨_,J9,λR H v u Q _ e1 e2 q=>⟨x,y,e1,e2,q⟩⟩
theorem gP:fz X .Gt ah ah x y (decide (y<x)):=⟨_,KN,λR H v u Q _ e1 e2 q=>⟨x,y,e1,e2,q⟩⟩
theorem N7:fz X .GtE ah ah x y (decide (y<=x)):=⟨_,KL,λR H v u Q _ e1 e2 q=>⟨x,y,e1,e2,q⟩⟩
theorem eo:fz X .Eq ah ah x y (decide (x=y)):=⟨_,C8,λR H v u Q _ e1 e2 q=>by
 cases e1;cases e2
 exact⟨rfl,by rw[show decide (V.int x=V.int y)=decide (x=y) by rw[mK];exact Ou x y];exact q⟩⟩
theorem BL:fz X .NotEq ah ah x y (!decide (x=y)):=⟨_,xj,λR H v u Q _ e1 e2 q=>by
 cases e1;cases e2
 exact⟨rfl,by rw[show decide (V.int x=V.int y)=decide (x=y) by rw[mK];exact Ou x y];exact q⟩⟩
theorem Ci {x y:Bool}:fz X .NotEq bF bF x y (!decide (x=y)):=⟨_,xj,λR H v u Q _ e1 e2 q=>by
 cases e1;cases e2
 exact⟨rfl,by rw[show decide (V.bl x=V.bl y)=decide (x=y) by rw[tT];exact Ou x y];exact q⟩⟩
end
variable {a:Expr}{pos:Pos}{x:Bool}{b c:Expr}{y:Bool}{rest:Oj}
theorem ie {op Wg:CmpOp}{ra:Rep α}{rb:Rep β}{rc:Rep γ}{x:α}{y:β}{z:γ}{k k':Bool}(c1:fz X op ra rb x y k)(c2:fz X Wg rb rc y z k')(ha:EV X a Γ ra x Γ)(hb:EV X b Γ rb y Γ)(hc:EV X c Γ rc z Γ)
 (hm:lastMarks [op,Wg] [b,c]=false:=by with_unfolding_all rfl):EV X (.Compare a [op,Wg] [b,c] pos) Γ bF (k&&k') Γ:=by
 obtain⟨r,ho,hr⟩:=c1.r2
 obtain⟨r',VY,Ww⟩:=c2.r2
 intro σ H0 R0 H R E Q q
 refine eS (AZ ho VY aP aP aP hm) (ha σ H0 R0 H R E _ λv H1 R1 E1 s1 e1=>hb σ H0 R0 H1 R1 E1 _ λu H2 R2 E2 s2 e2=>?_)
 refine hr R2 H2 v u _ E2.sub (ra.mono s2 e1) e2 ⟨k,rfl,?_⟩
 cases k with
 | false=>exact lJ (q _ H2 R2 E2 (s1.trans s2) rfl)
 | true=>exact lr (hc σ H0 R0 H2 R2 E2 _ λw H3 R3 E3 s3 e3=>Ww R3 H3 u w _ E3.sub (rb.mono s3 e2) e3 (q _ H3 R3 E3 (s1.trans (s2.trans s3)) rfl))
theorem iE {op Wg:CmpOp}{ra:Rep α}{rb:Rep β}{rc:Rep γ}{x:α}{y:β}{z:γ}{k k':Bool}(c1:fz X op ra rb x y k)(c2:fz X Wg rb rc y z k')(ha:EV X a Γ ra x Γ)(hb:EV X b Γ rb y Γ)(hc:EV X c Γ rc z Γ)
 (hm:lastMarks [op,Wg] [b,c]=false:=by with_unfolding_all rfl):TV X (.Compare a [op,Wg] [b,c] pos) Γ (k&&k') Γ:=by
 obtain⟨r,ho,hr⟩:=c1.r2
 obtain⟨r',VY,Ww⟩:=c2.r2
 intro σ H0 R0 H R E Q q
 refine tS (BZ ho VY aP aP aP hm) (ha σ H0 R0 H R E _ λv H1 R1 E1 s1 e1=>hb σ H0 R0 H1 R1 E1 _ λu H2 R2 E2 s2 e2=>?_)
 refine hr R2 H2 v u _ E2.sub (ra.mono s2 e1) e2 ⟨k,rfl,?_⟩
 cases k with
 | false=>exact lJ ⟨false,rfl,q H2 R2 E2 (s1.trans s2)⟩
 | true=>exact lr (hc σ H0 R0 H2 R2 E2 _ λw H3 R3 E3 s3 e3=>Ww R3 H3 u w _ E3.sub (rb.mono s3 e2) e3 ⟨k',rfl,q H3 R3 E3 (s1.trans (s2.trans s3))⟩)
theorem ja {op:BoolOp}{r:Rep α}{x:α}(h:EV X a Γ r x Γ1):EV X (.BoolOp op [a] pos) Γ r x Γ1:=λσ H0 R0 H R E Q q=>eS (F9 aP) (h σ H0 R0 H R E Q q)
theorem iX (ha:EV X a Γ bF x Γ)(hb:x=true->EV X (.BoolOp .And (b::rest) pos) Γ bF y Γ):EV X (.BoolOp .And (a::b::rest) pos) Γ bF (x&&y) Γ:=by
 intro σ H0 R0 H R E Q q
 refine eS (IA aP aP) (ha σ H0 R0 H R E _ λv H1 R1 E1 s1 e1=>⟨x,e1,?_⟩)
 cases x with
 | false=>exact lJ (q _ H1 R1 E1 s1 rfl)
 | true=>exact lr (hb rfl σ H0 R0 H1 R1 E1 _ λw H3 R3 E3 s3 e3=>q w H3 R3 E3 (s1.trans s3) e3)
theorem J0 (ha:EV X a Γ bF x Γ)(hb:x=false->EV X (.BoolOp .Or (b::rest) pos) Γ bF y Γ):EV X (.BoolOp .Or (a::b::rest) pos) Γ bF (x ||y) Γ:=by
 intro σ H0 R0 H R E Q q
 refine eS (LM aP aP) (ha σ H0 R0 H R E _ λv H1 R1 E1 s1 e1=>⟨x,e1,?_⟩)
 cases x with
 | true=>exact lr (q _ H1 R1 E1 s1 rfl)
 | false=>exact lJ (hb rfl σ H0 R0 H1 R1 E1 _ λw H3 R3 E3 s3 e3=>q w H3 R3 E3 (s1.trans s3) e3)
theorem yQ (ha:EV X a Γ bF x Γ1):EV X (.UnaryOp .Not a pos) Γ bF (!x) Γ1:=by
 intro σ H0 R0 H R E Q q
 exact eS (HR aP) (ha σ H0 R0 H R E _ λv H1 R1 E1 s1 e1=>⟨x,e1,q _ H1 R1 E1 s1 rfl⟩)
theorem bW (ha:TV X a Γ x Γ1):TV X (.UnaryOp .Not a pos) Γ (!x) Γ1:=by
 intro σ H0 R0 H R E Q q
 exact tS (FW om) (ha σ H0 R0 H R E _ λH1 R1 E1 s1=>q H1 R1 E1 s1)
theorem TW.tv {e:Expr}{b:Bool}(h:TW X e Γ b Γ1):TV X e Γ b Γ1:=λσ H0 R0 H R E Q q=>tS (IZ.pt) (h σ H0 R0 H R E Q q)
theorem dQ (ha:TV X a Γ x Γ1):TW X (.BoolOp .And [a] pos) Γ x Γ1:=λσ H0 R0 H R E Q q=>wS (EZ om) (ha σ H0 R0 H R E Q q)
theorem fc (ha:TV X a Γ x Γ1):TW X (.BoolOp .Or [a] pos) Γ x Γ1:=λσ H0 R0 H R E Q q=>wS (G4 om) (ha σ H0 R0 H R E Q q)
theorem cT (ha:TV X a Γ x Γ)(hb:x=true->TW X (.BoolOp .And (b::rest) pos) Γ y Γ):TW X (.BoolOp .And (a::b::rest) pos) Γ (x&&y) Γ:=by
 intro σ H0 R0 H R E Q q
 refine wS (Gz om IZ) (ha σ H0 R0 H R E _ λH1 R1 E1 s1=>?_)
 cases x with
 | false=>exact lJ (q H1 R1 E1 s1)
 | true=>exact lr (hb rfl σ H0 R0 H1 R1 E1 _ λH3 R3 E3 s3=>q H3 R3 E3 (s1.trans s3))
theorem fQ (ha:TV X a Γ x Γ)(hb:x=false->TW X (.BoolOp .Or (b::rest) pos) Γ y Γ):TW X (.BoolOp .Or (a::b::rest) pos) Γ (x ||y) Γ:=by
 intro σ H0 R0 H R E Q q
 refine wS (K9 om IZ) (ha σ H0 R0 H R E _ λH1 R1 E1 s1=>?_)
 cases x with
 | true=>exact lr (q H1 R1 E1 s1)
 | false=>exact lJ (hb rfl σ H0 R0 H1 R1 E1 _ λH3 R3 E3 s3=>q H3 R3 E3 (s1.trans s3))
theorem cj {k:Bool}(ha:EV X a Γ bF k Γ1)(he:∀whole,RZ a X.env whole=(do let v ← whole;Sg a.pos;RM [v] (SF v)):=by intro _;rfl):TV X a Γ k Γ1:=by
 intro σ H0 R0 H R E Q q
 exact tS (HM aP he) (ha σ H0 R0 H R E _ λv H1 R1 E1 s1 e1=>⟨k,e1,q H1 R1 E1 s1⟩)
theorem cO:TF X [] Γ true Γ:=λσ H0 R0 H R E Q q=>fS JQ (q H R E (au.refl _))
theorem fE {b:Bool}(h:TV X c Γ b Γ1):TF X [c] Γ b Γ1:=λσ H0 R0 H R E Q q=>fS (GN om) (h σ H0 R0 H R E Q q)
theorem j9 {k:Bool}{r:Rep α}{x y:α}(hc:TV X c Γ k Γ1)(ha:k=true->EV X a Γ1 r x Γ2)(hb:k=false->EV X b Γ1 r y Γ2):EV X (.IfExp c a b pos) Γ r (if k then x else y) Γ2:=by
 intro σ H0 R0 H R E Q q
 refine eS (Ap om aP aP) (hc σ H0 R0 H R E _ λH1 R1 E1 s1=>?_)
 cases k with
 | true=>exact lr (ha rfl σ H0 R0 H1 R1 E1 _ λv H3 R3 E3 s3 e3=>q v H3 R3 E3 (s1.trans s3) e3)
 | false=>exact lJ (hb rfl σ H0 R0 H1 R1 E1 _ λv H3 R3 E3 s3 e3=>q v H3 R3 E3 (s1.trans s3) e3)
end
section
variable {X:Cx}{Γ Γ1 Γ2 Γ3:Ga}{α β γ δ:Type}
variable {r:Rep α}{pos:Pos}{i:Int}{b:Expr}{es:Oj}{x:α}{a:Expr}{xs:List α}
structure Pk:Type 1 where
 {α:Type}
 r:Rep α
 x:α
inductive j7 (K:T2) (R:Hp):List V->List Pk->Prop
 | nil:j7 K R [] []
 | cons {v:V} {vs:List V} {p:Pk} {ps:List Pk}:p.r.R K R v p.x->j7 K R vs ps->j7 K R (v::vs) (p::ps)
def HA (X:Cx)(es:Oj)(Γ:Ga)(ps:List Pk)(Γ':Ga):Prop:=
 ∀(σ:St) (H0 R0 H R:Hp),aw X.K σ H0 R0 H R Γ->∀Q:List V->Hp->Prop,(∀vs H' R',aw X.K σ H0 R0 H' R' Γ'->au R R'->j7 X.K R' vs ps->Q vs H')->xl X es σ H Q
theorem aq:HA X [] Γ [] Γ:=λσ H0 R0 H R E Q q=>aS bJ (q [] H R E (au.refl _) .nil)
theorem af {e:Expr}{ps:List Pk}(he:EV X e Γ r x Γ1)(hr:HA X es Γ1 ps Γ2)(hs:Rc (e::es) X.env=(false,eval e X.env)::Rc es X.env:=by rfl):HA X (e::es) Γ (⟨r,x⟩::ps) Γ2:=by
 intro σ H0 R0 H R E Q q
 refine aS (a7 aP lT hs) (he σ H0 R0 H R E _ λv H1 R1 E1 s1 e1=>hr σ H0 R0 H1 R1 E1 _ λvs H2 R2 E2 s2 e2=>?_)
 exact q (v::vs) H2 R2 E2 (s1.trans s2) (.cons (r.mono s2 e1) e2)
def EA (X:Cx)(es:Oj)(Γ:Ga){α:Type}(r:Rep α)(ys:List α)(Γ':Ga):Prop:=
 ∀(σ:St) (H0 R0 H R:Hp),aw X.K σ H0 R0 H R Γ->∀Q:List V->Hp->Prop,(∀vs H' R',aw X.K σ H0 R0 H' R' Γ'->au R R'->PySem.Paired (r.R X.K R') vs ys->Q vs H')->xl X es σ H Q
theorem aT:EA X [] Γ r [] Γ:=λσ H0 R0 H R E Q q=>aS bJ (q [] H R E (au.refl _) .nil)
theorem av {e:Expr}{ys:List α}(he:EV X e Γ r x Γ1)(hr:EA X es Γ1 r ys Γ2)(hs:Rc (e::es) X.env=(false,eval e X.env)::Rc es X.env:=by rfl):EA X (e::es) Γ r (x::ys) Γ2:=by
 intro σ H0 R0 H R E Q q
 refine aS (a7 aP lT hs) (he σ H0 R0 H R E _ λv H1 R1 E1 s1 e1=>hr σ H0 R0 H1 R1 E1 _ λvs H2 R2 E2 s2 e2=>?_)
 exact q (v::vs) H2 R2 E2 (s1.trans s2) (.cons (r.mono s2 e1) e2)
theorem aR {ys:List α}(h:EA X es Γ r ys Γ1)(hz:ys.length<=Ra):aW X (.List es pos) Γ r ys Γ1:=by
 intro σ H0 R0 H R E Q q
 refine eS (Ji lT) (h σ H0 R0 H R E _ λvs H1 R1 E1 s1 p1=>⟨by rw[p1.length];exact hz,λp hp=>?_⟩)
 exact q p vs _ R1 (E1.grow (Ext.dS E1.sub hp _)) s1 aF (E1.sub.free hp) (E1.ext.h.free hp) (E1.off hp) p1 hz
theorem gI {k:Nat}{r':Rep β}{y:β}(h:HA X [a,b] Γ [⟨r,x⟩,⟨r',y⟩] Γ1):EV X (.Tuple [a,b] k pos) Γ (cD r r') (x,y) Γ1:=by
 intro σ H0 R0 H R E Q q
 refine eS (Ae lT) (h σ H0 R0 H R E _ λvs H1 R1 E1 s1 p1=>?_)
 obtain⟨h1,h2⟩:∃v1 v2,vs=[v1,v2]/\r.R X.K R1 v1 x/\r'.R X.K R1 v2 y:=by
  cases p1 with
  | cons a1 t=>cases t with
    | cons a2 t2=>cases t2;exact⟨_,_,rfl,a1,a2⟩
 obtain⟨v2,rfl,e1,e2⟩:=h2
 refine⟨by show 2<=Ra;decide,λp hp=>?_⟩
 have s2:au R1 (upd R1 p (.tup [h1,v2])):=au.fresh (E1.sub.free hp) _
 exact q _ _ (upd R1 p (.tup [h1,v2])) (E1.grow (Ext.fresh E1.sub hp _)) (s1.trans s2) ⟨p,_,_,rfl,aF,r.mono s2 e1,r'.mono s2 e2⟩
theorem dh {F:α->β->Prop}:∀{vs:List α} {xs:List β},PySem.Paired F vs xs->∀{i:Nat} {y:β},xs[i]?=some y->∃v,vs[i]?=some v/\F v y
 | _,_,.nil,i,y,h=>by simp at h
 | _,_,.cons h t,0,y,e=>by simp at e;subst e;exact⟨_,rfl,h⟩
 | _,_,.cons h t,i+1,y,e=>by
   obtain⟨v,e1,e2⟩:=dh t (i:=i) (y:=y) (by simpa using e)
   exact⟨v,by simpa using e1,e2⟩
theorem g8 {F:α->β->Prop}{vs:List α}{xs:List β}(p:PySem.Paired F vs xs){y:β}(h:bU xs i=some y):∃v,bU vs i=some v/\F v y:=by
 unfold bU at h ⊢
 rw[p.length]
 cases e:fb xs.length i with
 | none=>rw[e] at h;cases h
 | some j=>rw[e] at h;exact dh p h
theorem mm (h0:0<=i)(h1:i<xs.length):bU xs i=xs[i.toNat]?:=by
 have e:i=((i.toNat:Nat):Int):=by omega
 have hl:i.toNat<xs.length:=by omega
 have q:bU xs ((i.toNat:Nat):Int)=some xs[i.toNat]:=DQ (OE hl)
 rw[← e] at q
 rw[q,OE hl]
theorem aY {y:α}(ha:EV X a Γ (ae r) xs Γ1)(hb:EV X b Γ1 ah i Γ2)(h:bU xs i=some y)(hs:eC b:=by exact λ_ _=>rfl):EV X (.Subscript a b pos) Γ r y Γ2:=by
 intro σ H0 R0 H R E Q q
 refine eS (iJ iA aP aP hs) (ha σ H0 R0 H R E _ λv H1 R1 E1 s1 e1=>hb σ H0 R0 H1 R1 E1 _ λu H2 R2 E2 s2 e2=>?_)
 obtain⟨p,vs,rfl,ha,pp,z⟩:=(ae r).mono s2 e1
 obtain⟨w,e3,e4⟩:=g8 pp h
 exact⟨p,vs,i,w,rfl,e2,aZ.of (E2.sub _ _ ha),e3,q w H2 R2 E2 (s1.trans s2) e4⟩
theorem sX {xs:Oe}{y:Int}(ha:EV X a Γ bB xs Γ1)(hb:EV X b Γ1 ah i Γ2)(h:bU xs i=some y)(hs:eC b:=by exact λ_ _=>rfl):EV X (.Subscript a b pos) Γ ah y Γ2:=by
 intro σ H0 R0 H R E Q q
 refine eS (iJ iA aP aP hs) (ha σ H0 R0 H R E _ λv H1 R1 E1 s1 e1=>hb σ H0 R0 H1 R1 E1 _ λu H2 R2 E2 s2 e2=>?_)
 obtain⟨p,rfl,ha,z⟩:=bB.mono s2 e1
 have e3:bU (xs.map V.int) i=some (.int y):=by
  unfold bU at h ⊢
  rw[OH]
  cases e:fb xs.length i with
  | none=>rw[e] at h;cases h
  | some j=>
    rw[e] at h
    show(xs.map V.int)[j]?=_
    rw[OJ,show xs[j]?=some y from h];rfl
 exact⟨p,_,i,_,rfl,e2,E2.sub.seq ha,e3,q _ H2 R2 E2 (s1.trans s2) rfl⟩
theorem kD (j:Nat){x:Str}{p1:Pos}{y:α}(hb:EV X b Γ ah i Γ1)(hΓ:Γ[j]?=some (.mu r xs))(hΓ1:Γ1[j]?=some (.mu r xs))(h:bU xs i=some y)(hN:X.N[j]?=some x:=by rfl)(hv:autoParam (cN X.env.scope x) Vc)
 (hs:eC b:=by exact λ_ _=>rfl) (hd:UX x:=by decide) (UI:Ve x:=by decide):EV X (.Subscript (.Name x p1) b pos) Γ r y Γ1:=by
 intro σ H0 R0 H R E Q q
 obtain⟨a,vs,e,_,_,_⟩:=E.ent j _ hΓ
 refine eS (iJ iA (br hN hv hd UI) aP hs) ⟨.ref a,?_,hb σ H0 R0 H R E _ λu H2 R2 E2 s2 e2=>?_⟩
 ·cases es:σ[j]? with
  | none=>rw[es] at e;cases e
  | some o=>rw[es] at e;exact congrArg some e
 ·obtain⟨a',U7,e',ha,hR,pp⟩:=E2.ent j _ hΓ1
  rw[e] at e';cases e'
  obtain⟨w,e3,e4⟩:=g8 pp h
  exact⟨a,U7,i,w,rfl,e2,aZ.of ha,e3,q w H2 R2 E2 s2 e4⟩
section
variable {a:Expr}{n:Int}{j:Nat}{p1 pos:Pos}{w:Row}
variable {r:Rep α}{r':Rep β}
theorem kN {x:α}{y:β}(ha:EV X a Γ r x Γ1)(k:∀(R:Hp) v,r.R X.K R v x->∃p vs w,v= .ref p/\R p=some (.tup vs)/\bU vs n=some w/\r'.R X.K R w y):EV X (.Subscript a (.Constant (.int n) j p1) pos) Γ r' y Γ1:=by
 intro σ H0 R0 H R E Q q
 refine eS (iJ z6 aP zV (λ_ _=>rfl)) (ha σ H0 R0 H R E _ λv H1 R1 E1 s1 e1=>?_)
 obtain⟨p,vs,w,rfl,hp,e3,e4⟩:=k R1 v e1
 exact⟨p,vs,n,w,rfl,rfl,dc.of (E1.sub _ _ hp),e3,q w H1 R1 E1 s1 e4⟩
theorem iF (ha:EV X a Γ cx w Γ1):EV X (.Subscript a (.Constant (.int 0) j p1) pos) Γ ah w.1 Γ1:=kN ha λR v ⟨p,e,h⟩=>⟨p,_,_,e,h,rfl,rfl⟩
theorem ij (ha:EV X a Γ cx w Γ1):EV X (.Subscript a (.Constant (.int 1) j p1) pos) Γ ah w.2.1 Γ1:=kN ha λR v ⟨p,e,h⟩=>⟨p,_,_,e,h,rfl,rfl⟩
theorem mY (ha:EV X a Γ cx w Γ1):EV X (.Subscript a (.Constant (.int 2) j p1) pos) Γ ah w.2.2.1 Γ1:=kN ha λR v ⟨p,e,h⟩=>⟨p,_,_,e,h,rfl,rfl⟩
theorem kH (ha:EV X a Γ cx w Γ1):EV X (.Subscript a (.Constant (.int 3) j p1) pos) Γ ah w.2.2.2 Γ1:=kN ha λR v ⟨p,e,h⟩=>⟨p,_,_,e,h,rfl,rfl⟩
theorem jN {x:α×β}(ha:EV X a Γ (cD r r') x Γ1):EV X (.Subscript a (.Constant (.int 0) j p1) pos) Γ r x.1 Γ1:=kN ha λR v ⟨p,v1,v2,e,h,h1,h2⟩=>⟨p,_,v1,e,h,rfl,h1⟩
theorem dU {x:α×β}(ha:EV X a Γ (cD r r') x Γ1):EV X (.Subscript a (.Constant (.int 1) j p1) pos) Γ r' x.2 Γ1:=kN ha λR v ⟨p,v1,v2,e,h,h1,h2⟩=>⟨p,_,v2,e,h,rfl,h2⟩
end
variable {a:Expr}{pos:Pos}{r:Rep α}{xs:List α}
def OV (X:Cx)(e:Option Expr)(Γ:Ga)(o:Option Int):Prop:=∃t,PO X e t/\∀(σ:St) (H0 R0 H R:Hp),aw X.K σ H0 R0 H R Γ->∀Q:Option Int->Hp->Prop,(∀H' R',aw X.K σ H0 R0 H' R' Γ->au R R'->Q o H')->t σ H Q
theorem ov_none:OV X none Γ none:=⟨_,D3,λσ H0 R0 H R E Q q=>q H R E (au.refl _)⟩
theorem ov_some {e:Expr}{i:Int}(h:EV X e Γ ah i Γ):OV X (some e) Γ (some i):=⟨_,DJ aP,λσ H0 R0 H R E Q q=>h σ H0 R0 H R E _ λv H1 R1 E1 s1 e1=>⟨i,e1,q H1 R1 E1 s1⟩⟩
def cut (xs:List α)(lo hi:Option Int):List α:=(xs.drop (HT.UR xs.length 0 lo)).take (HT.UR xs.length xs.length hi-HT.UR xs.length 0 lo)
theorem ku {F:α->β->Prop}:∀(n:Nat) {vs:List α} {xs:List β},PySem.Paired F vs xs->PySem.Paired F (vs.drop n) (xs.drop n)
 | 0,_,_,h=>h
 | _+1,_,_,.nil=>.nil
 | n+1,_,_,.cons _ t=>ku n t
theorem iK {F:α->β->Prop}:∀(n:Nat) {vs:List α} {xs:List β},PySem.Paired F vs xs->PySem.Paired F (vs.take n) (xs.take n)
 | 0,_,_,_=>.nil
 | _+1,_,_,.nil=>.nil
 | n+1,_,_,.cons h t=>.cons h (iK n t)
theorem dj {F:α->β->Prop}:∀{vs:List α} {xs:List β} {U7:List α} {xs':List β},PySem.Paired F vs xs->PySem.Paired F U7 xs'->PySem.Paired F (vs++U7) (xs++xs')
 | _,_,_,_,.nil,h=>h
 | _,_,_,_,.cons h t,h'=>.cons h (dj t h')
theorem oE (xs:List α)(lo hi:Option Int):(cut xs lo hi).length<=xs.length:=by
 unfold cut
 rw[OY,P1]
 omega
theorem jb {lo hi:Option Expr}{p2:Pos}{l h:Option Int}(ha:EV X a Γ (ae r) xs Γ)(hl:OV X lo Γ l)(hh:OV X hi Γ h):aW X (.Subscript a (.Slice lo hi none p2) pos) Γ r (cut xs l h) Γ:=by
 intro σ H0 R0 H R E Q q
 obtain⟨tl,pl,kl⟩:=hl
 obtain⟨th,ph,kh⟩:=hh
 refine eS (lL EL aP pl ph) (ha σ H0 R0 H R E _ λv H1 R1 E1 s1 e1=>kl σ H0 R0 H1 R1 E1 _ λH2 R2 E2 s2=>kh σ H0 R0 H2 R2 E2 _ λH3 R3 E3 s3=>?_)
 obtain⟨p,vs,rfl,hp,pp,z⟩:=(ae r).mono (s2.trans s3) e1
 refine⟨p,vs,rfl,aZ.of (E3.sub _ _ hp),λd hd=>?_⟩
 refine q d _ _ R3 (E3.grow (Ext.dS E3.sub hd _)) (s1.trans (s2.trans s3)) aF (E3.sub.free hd) (E3.ext.h.free hd) (E3.off hd) ?_ (QD (oE _ _ _) z)
 unfold cut ky
 rw[pp.length]
 exact iK _ (ku _ pp)
theorem cz {b:Expr}{ys:List α}(ha:EV X a Γ (ae r) xs Γ1)(hb:EV X b Γ1 (ae r) ys Γ2)(hz:xs.length+ys.length<=Ra):aW X (.BinOp a .Add b pos) Γ r (xs++ys) Γ2:=by
 intro σ H0 R0 H R E Q q
 refine eS (Ds Gm aP aP) (ha σ H0 R0 H R E _ λv H1 R1 E1 s1 e1=>hb σ H0 R0 H1 R1 E1 _ λu H2 R2 E2 s2 e2=>?_)
 obtain⟨p,vs,rfl,hp,pp,z⟩:=(ae r).mono s2 e1
 obtain⟨p',ws,rfl,XH,Vq,z'⟩:=e2
 refine⟨p,p',vs,ws,rfl,rfl,E2.sub _ _ hp,E2.sub _ _ XH,by rw[pp.length,Vq.length];exact hz,λd hd=>?_⟩
 exact q d _ _ R2 (E2.grow (Ext.dS E2.sub hd _)) (s1.trans s2) aF (E2.sub.free hd) (E2.ext.h.free hd) (E2.off hd) (dj pp Vq) (by rw[OI];exact hz)
theorem cX {p:Pos}(hm:X.mg "len"=none)(ha:EV X a Γ (ae r) xs Γ1)(hs:Rc [a] X.env=[(false,eval a X.env)]:=by rfl)(hg:Gl X "len":=by rfl):EV X (.Call (.Name "len" p) [a] [] pos) Γ ah (xs.length:Int) Γ1:=by
 intro σ H0 R0 H R E Q q
 refine eS (dX fF hg hm RH (a7 aP bJ hs) (by decide) (by decide) hs) (ha σ H0 R0 H R E _ λv H1 R1 E1 s1 e1=>?_)
 obtain⟨p,vs,rfl,hp,pp,z⟩:=e1
 refine⟨p,vs,rfl,.inl (aZ.of (E1.sub _ _ hp)),?_⟩
 rw[pp.length]
 exact q _ H1 R1 E1 s1 rfl
theorem mX {p:Pos}{xs:Oe}(hm:X.mg "len"=none)(ha:EV X a Γ bB xs Γ1)(hs:Rc [a] X.env=[(false,eval a X.env)]:=by rfl)(hg:Gl X "len":=by rfl):EV X (.Call (.Name "len" p) [a] [] pos) Γ ah (xs.length:Int) Γ1:=by
 intro σ H0 R0 H R E Q q
 refine eS (dX fF hg hm RH (a7 aP bJ hs) (by decide) (by decide) hs) (ha σ H0 R0 H R E _ λv H1 R1 E1 s1 e1=>?_)
 obtain⟨p,rfl,hp,z⟩:=e1
 refine⟨p,_,rfl,.inl (E1.sub.seq hp),?_⟩
 rw[OH]
 exact q _ H1 R1 E1 s1 rfl
end
section
variable {X:Cx}{Γ Γ1 Γ2 Γ3:Ga}{α β γ δ:Type}{N:Ga->Prop}{T:RT}
variable {pos:Pos}{r:Rep α}{x:Str}{p1:Pos}{e:Expr}
theorem Jk {Γ':Ga}(w:Wk Γ Γ')(h:N Γ'):WS X [] Γ N T:=λσ H0 R0 H R E D dn dr=>FT DS (dn σ H R Γ' (E.weak w) (au.refl _) h)
theorem aL (h:N Γ):WS X [] Γ N T:=Jk (Wk.refl Γ) h
theorem ai {st:Stmt}{rest:List Stmt}(h:W1 X st Γ (λΓ'=>WS X rest Γ' N T) T):WS X (st::rest) Γ N T:=λσ H0 R0 H R E D dn dr=>
 FT (Ax Mu jX) (h σ H0 R0 H R E {D with nx:=sf X rest D} (λσ' H' R' Γ' E' s' h'=>h' σ' H0 R0 H' R' E' D (λσ2 H2 R2 Γ2 E2 s2=>dn σ2 H2 R2 Γ2 E2 (s'.trans s2)) dr) dr)
theorem ak {st:Stmt}(h:W1 X st Γ N T):WS X [st] Γ N T:=λσ H0 R0 H R E D dn dr=>FT (Ey Mu) (h σ H0 R0 H R E D dn dr)
theorem aU (i:Nat){y:α}(he:EV X e Γ r y Γ1)(h:N (Γ1.set i (.im r y)))(hN:X.N.Nodup:=by first | assumption | decide)(hi:X.N[i]?=some x:=by rfl)(hx:autoParam (Loc X.env.scope x) V1)
 (hs:Rl e (some (.Name x p1)) pos.line X.env=pure false:=by rfl) (hf:autoParam (X.fn x=true∨X.env.scope.names.lookup x=some .local) V0):W1 X (.Assign [.Name x p1] e pos) Γ N T:=λσ H0 R0 H R E D dn dr=>
 sS (jK hN hi hx aP hs hf) (he σ H0 R0 H R E _ λv H1 R1 E1 s1 e1=>dn _ H1 R1 _ (E1.set i e1) s1 h)
theorem bV (i:Nat){ys:List α}(he:aW X e Γ r ys Γ1)(h:N (Γ1.set i (.mu r ys)))(hN:X.N.Nodup:=by first | assumption | decide)(hi:X.N[i]?=some x:=by rfl)(hx:autoParam (Loc X.env.scope x) V1)
 (hs:Rl e (some (.Name x p1)) pos.line X.env=pure false:=by rfl) (hf:autoParam (X.fn x=true∨X.env.scope.names.lookup x=some .local) V0):W1 X (.Assign [.Name x p1] e pos) Γ N T:=λσ H0 R0 H R E D dn dr=>
 sS (jK hN hi hx aP hs hf) (he σ H0 R0 H R E _ λa vs H1 R1 E1 s1 ha hR h0 off p z=>dn _ H1 R1 _ (E1.uj (u:=.lst vs) (en:=.mu r ys) i ⟨a,vs,rfl,ha,hR,p⟩ h0 λj e _ q w=>off j e q w) s1 h)
theorem aN {P:α->Prop}{y:α}(he:EV X e Γ r y Γ1)(h:P y):W1 X (.Return (some e) pos) Γ N (bL X.K r P):=λσ H0 R0 H R E D dn dr=>
 sS (iW aP) (he σ H0 R0 H R E _ λv H1 R1 E1 s1 e1=>dr v H1 R1 E1.ext ⟨y,e1,h⟩)
theorem ba {c:Expr}{a b:List Stmt}{k:Bool}(hc:TV X c Γ k Γ1)(h1:k=true->WS X a Γ1 N T)(h2:k=false->WS X b Γ1 N T):W1 X (.If c a b pos) Γ N T:=λσ H0 R0 H R E D dn dr=>by
 refine sS (Lm om jX jX) (hc σ H0 R0 H R E _ λH1 R1 E1 s1=>?_)
 cases k with
 | true=>exact lr (h1 rfl σ H0 R0 H1 R1 E1 D (λσ2 H2 R2 Γ2 E2 s2=>dn σ2 H2 R2 Γ2 E2 (s1.trans s2)) dr)
 | false=>exact lJ (h2 rfl σ H0 R0 H1 R1 E1 D (λσ2 H2 R2 Γ2 E2 s2=>dn σ2 H2 R2 Γ2 E2 (s1.trans s2)) dr)
theorem aO (i:Nat)(hN:X.N.Nodup:=by first | assumption | decide)(hi:X.N[i]?=some x:=by rfl)(hx:autoParam (Loc X.env.scope x) V1)(hf:autoParam (X.fn x=true∨X.env.scope.names.lookup x=some .local) V0):
 BG X (.Name x pos) r (λy Γ=>Γ.set i (.im r y)):=λσ H0 R0 H R Γ v x E h Q q=>gS (gH hN hi hx hf) (q _ (E.set i h))
theorem fo (i j:Nat){y:Str}{k:Nat}{p2:Pos}{r':Rep β}(hc:X.calm=true:=by rfl)(hN:X.N.Nodup:=by first | assumption | decide)(hi:X.N[i]?=some x:=by rfl)(hx:autoParam (Loc X.env.scope x) V1)(hf:autoParam (X.fn x=true∨X.env.scope.names.lookup x=some .local) V0)
 (hj:X.N[j]?=some y:=by rfl) (hy:autoParam (Loc X.env.scope y) V1) (hf':autoParam (X.fn y=true∨X.env.scope.names.lookup y=some .local) V0):
 BG X (.Tuple [.Name x p1,.Name y p2] k pos) (cD r r') (λw Γ=>(Γ.set i (.im r w.1)).set j (.im r' w.2)):=λσ H0 R0 H R Γ v w E h Q q=>by
 obtain⟨a,v1,v2,rfl,ha,e1,e2⟩:=h
 exact gS (uU hc (gC (gH hN hi hx hf) (gC (gH hN hj hy hf') pO))) ⟨a,_,rfl,dc.of (E.sub _ _ ha),rfl,v1,[v2],rfl,v2,[],rfl,rfl,q _ ((E.set i e1).set j e2)⟩
end
section
variable {X:Cx}{Γ Γ1 Γ2 Γ3:Ga}{α β γ δ:Type}{N:Ga->Prop}{T:RT}
variable {pos:Pos}{x:Str}{p1:Pos}{r:Rep α}{xs:List α}{kvs:List (Int×V)}{v:V}{e:Expr}{y:α}{p2:Pos}
theorem at_of {σ:St}{i:Nat}(e:(σ[i]?).join=some v):σ[i]?=some (some v):=by
 cases es:σ[i]? with
 | none=>rw[es] at e;cases e
 | some o=>rw[es] at e;exact congrArg some e
theorem jr {c:Expr}{body:List Stmt}(I:Nat->Ga->Prop){m0:Nat}(h0:I m0 Γ)
 (Vz:∀(m:Nat) (Γ:Ga),I m Γ->∃(k:Bool) (Γ':Ga),TV X c Γ k Γ'/\(k=true->WS X body Γ' (λΓ''=>∃m',m'<m/\I m' Γ'') T)/\(k=false->N Γ'))
 (hp:PassesOwn (model X.prog X.w) X.A X.env X.xe:=by exact PassesOwn.never):W1 X (.While c body [] pos) Γ N T:=λσ H0 R0 H R E D dn dr=>by
 refine sS (A8 hp om jX) ?_
 refine⟨λm σ' H'=>∃R' Γ',aw X.K σ' H0 R0 H' R' Γ'/\au R R'/\I m Γ',⟨m0,R,Γ,E,au.refl _,h0⟩,?_⟩
 rintro m σ' H' ⟨R',Γ',E',s',hI⟩
 obtain⟨k,Γ2,ht,h1,h2⟩:=Vz m Γ' hI
 refine ht σ' H0 R0 H' R' E' _ λH1 R1 E1 s1=>?_
 cases k with
 | true=>
   refine lr ⟨_,λσ2 H2 h=>h,h1 rfl σ' H0 R0 H1 R1 E1 _ (λσ3 H3 R3 Γ3 E3 s3 h3=>?_) dr⟩
   obtain⟨m',hm,hI'⟩:=h3
   exact⟨m',hm,R3,Γ3,E3,s'.trans (s1.trans s3),hI'⟩
 | false=>exact lJ (dn σ' H1 R1 Γ2 E1 (s'.trans s1) (h2 rfl))
theorem dR (i:Nat){ap cp:Pos}(he:EV X e Γ r y Γ1)(hΓ:Γ[i]?=some (.mu r xs))(hΓ1:Γ1[i]?=some (.mu r xs))(hz:xs.length<Ra)(h:N (Γ1.set i (.mu r (xs++[y]))))
 (hN:X.N[i]?=some x:=by rfl) (hv:autoParam (cN X.env.scope x) Vc)
 (hd:UX x:=by decide) (UI:Ve x:=by decide)
 (VH:Rl (.Call (.Attribute (.Name x p1) "append" ap) [e] [] cp) none pos.line X.env=pure false:=by rfl)
 (UO:Rj (.Name x p1) "append" X.env (eval (.Name x p1) X.env)=eval (.Name x p1) X.env:=by rfl)
 (U6:((Rk cp (Rc [e] X.env)).all (λx=> !x.1)&&(RS cp (RA [] X.env)).all (λx=>x.1.isSome)
  &&decide ([e].length+([]:List Rp).length+(if([]:List Rp).isEmpty then 0 else 1)<30))=true:=by rfl)
 (UN:(ap.endLine==cp.line)=true:=by rfl) (hs:Rc [e] X.env=(false,eval e X.env)::Rc [] X.env:=by rfl):W1 X (.Expr (.Call (.Attribute (.Name x p1) "append" ap) [e] [] cp) pos) Γ N T:=λσ H0 R0 H R E D dn dr=>by
 obtain⟨a,vs,ea,ha,hR,pp⟩:=E.ent i _ hΓ
 refine sS (gM (iI S9 Tb Tc j4 (br hN hv hd UI) (a7 aP bJ hs) UO U6 UN hs rfl) VH) ?_
 refine⟨.ref a,at_of ea,.inl ⟨rfl,vs,aZ.of ha⟩,he σ H0 R0 H R E _ λv H1 R1 E1 s1 e1=>?_⟩
 obtain⟨a',U7,Vb,VA,Vg,Vq⟩:=E1.ent i _ hΓ1
 rw[ea] at Vb;cases Vb
 refine⟨a,U7,v,rfl,rfl,VA,by rw[Vq.length];exact hz,?_⟩
 exact dn σ _ R1 _ (E1.upd (en:=.mu r (xs++[y])) hΓ1 rfl ea Vg ⟨a,_,rfl,aF,Vg,dj Vq (.cons e1 .nil)⟩) s1 h
theorem lO {F:α->β->Prop}{v:α}{y:β}(h:F v y):∀{vs:List α} {xs:List β} (i:Nat),PySem.Paired F vs xs->PySem.Paired F (vs.set i v) (xs.set i y)
 | _,_,_,.nil=>.nil
 | _,_,0,.cons _ t=>.cons h t
 | _,_,i+1,.cons q t=>.cons q (lO h i t)
theorem vH (i:Nat){b:Expr}{k:Int}{j:Nat}(he:EV X e Γ r y Γ1)(hb:EV X b Γ1 ah k Γ2)(hΓ1:Γ1[i]?=some (.mu r xs))(hΓ2:Γ2[i]?=some (.mu r xs))(hj:fb xs.length k=some j)(h:N (Γ2.set i (.mu r (xs.set j y))))
 (hN:X.N[i]?=some x:=by rfl) (hv:autoParam (cN X.env.scope x) Vc)
 (hd:UX x:=by decide) (UI:Ve x:=by decide)
 (ha:∀v,RU (.Subscript (.Name x p1) b p2) X.env v=(do
  let ov ← RM [v] (eval (.Name x p1) X.env)
  let iv ← RM [v,ov] (eval b X.env)
  Sg p2
  RM [v,ov,iv] (setItem ov iv v)
  release [v,ov,iv] []):=by intro _;rfl)
 (hs:Sd [.Subscript (.Name x p1) b p2] e pos.line X.env=pure false:=by rfl) (hw:Se [.Subscript (.Name x p1) b p2] e X.env=pure none:=by rfl) (h1:(RP [.Subscript (.Name x p1) b p2] X.env).map (·.2)=[RU (.Subscript (.Name x p1) b p2) X.env]:=by rfl):
 W1 X (.Assign [.Subscript (.Name x p1) b p2] e pos) Γ N T:=λσ H0 R0 H R E D dn dr=>by
 refine sS (o9 aP (zi (br hN hv hd UI) aP set_list ha) hs hw h1) (he σ H0 R0 H R E _ λv H1 R1 E1 s1 e1=>?_)
 obtain⟨a,vs,ea,hp,hR,pp⟩:=E1.ent i _ hΓ1
 refine⟨.ref a,at_of ea,hb σ H0 R0 H1 R1 E1 _ λu H2 R2 E2 s2 e2=>?_⟩
 obtain⟨a',U7,Vb,VA,Vg,Vq⟩:=E2.ent i _ hΓ2
 rw[ea] at Vb;cases Vb
 refine⟨a,U7,k,j,rfl,e2,VA,by rw[Vq.length];exact hj,?_⟩
 exact dn σ _ R2 _ (E2.upd (en:=.mu r (xs.set j y)) hΓ2 rfl ea Vg ⟨a,_,rfl,aF,Vg,lO (r.mono s2 e1) j Vq⟩) (s1.trans s2) h
theorem oy {F:α->β->Prop}{vs:List α}{xs:List β}(p:PySem.Paired F vs xs):PySem.Paired F vs.dropLast xs.dropLast:=by
 rw[List.dropLast_eq_take,List.dropLast_eq_take,p.length]
 exact iK _ p
theorem oz (i:Nat){ap cp:Pos}(hΓ:Γ[i]?=some (.mu r xs))(hy:xs[xs.length-1]?=some y)
 (hN:X.N[i]?=some x:=by rfl) (hv:autoParam (cN X.env.scope x) Vc)
 (hd:UX x:=by decide) (UI:Ve x:=by decide)
 (UO:Rj (.Name x p1) "pop" X.env (eval (.Name x p1) X.env)=eval (.Name x p1) X.env:=by rfl) (UN:(ap.endLine==cp.line)=true:=by rfl):
 EV X (.Call (.Attribute (.Name x p1) "pop" ap) [] [] cp) Γ r y (Γ.set i (.mu r xs.dropLast)):=by
 intro σ H0 R0 H R E Q q
 obtain⟨a,vs,ea,ha,hR,pp⟩:=E.ent i _ hΓ
 obtain⟨v,Wm,hr⟩:=dh pp hy
 refine eS (Hm S9 PySem.F.slot_list_pop PySem.F.type_list_pop HS (br hN hv hd UI) UO UN) ⟨.ref a,at_of ea,.inl ⟨rfl,vs,aZ.of ha⟩,?_⟩
 refine⟨a,vs,v,rfl,rfl,ha,by rw[pp.length];exact Wm,?_⟩
 exact q v _ R (E.upd hΓ rfl ea hR ⟨a,_,rfl,aF,hR,oy pp⟩) (au.refl _) hr
theorem jx (i:Nat)(hΓ:Γ[i]?=some (.mu r xs))(hN:X.N[i]?=some x:=by rfl)(hv:autoParam (cN X.env.scope x) Vc)
 (hd:UX x:=by decide) (UI:Ve x:=by decide)
 (he:∀whole,RZ (.Name x pos) X.env whole=(do let v ← whole;Sg (Expr.Name x pos).pos;RM [v] (SF v)):=by intro _;rfl):TV X (.Name x pos) Γ (!xs.isEmpty) Γ:=by
 intro σ H0 R0 H R E Q q
 obtain⟨a,vs,ea,ha,hR,pp⟩:=E.ent i _ hΓ
 refine tS (nX (br hN hv hd UI) he) ⟨.ref a,at_of ea, !xs.isEmpty,.inl ⟨vs,aZ.of ha,?_⟩,q H R E (au.refl _)⟩
 cases pp<;>rfl
theorem qC (i:Nat){p:Pos}(hm:X.mg "len"=none)(hΓ:Γ[i]?=some (.mu r xs))(hN:X.N[i]?=some x:=by rfl)(hv:autoParam (cN X.env.scope x) Vc)
 (hd:UX x:=by decide) (UI:Ve x:=by decide) (hg:Gl X "len":=by rfl):EV X (.Call (.Name "len" p) [.Name x p1] [] pos) Γ ah (xs.length:Int) Γ:=by
 intro σ H0 R0 H R E Q q
 obtain⟨a,vs,ea,ha,hR,pp⟩:=E.ent i _ hΓ
 refine eS (dX fF hg hm RH (a7 (br hN hv hd UI) bJ rfl) (by decide) (by decide) rfl) ⟨.ref a,at_of ea,a,vs,rfl,.inl (aZ.of ha),?_⟩
 rw[pp.length]
 exact q _ H R E (au.refl _) rfl
theorem freeze {K:T2}{σ:St}{H0 R0 H R:Hp}(E:aw K σ H0 R0 H R Γ){i:Nat}(hΓ:Γ[i]?=some (.mu r xs))(hz:xs.length<=Ra):∃R' v,aw K σ H0 R0 H R' (Γ.set i (.im (ae r) xs))/\au R R'/\(σ[i]?).join=some v/\(ae r).R K R' v xs:=by
 obtain⟨a,vs,ea,ha,hR,pp⟩:=E.ent i _ hΓ
 have h0:H0 a=none:=E.new i _ a hΓ rfl ea
 have s2:au R (upd R a (.lst vs)):=au.fresh hR _
 have rr:(ae r).R K (upd R a (.lst vs)) (.ref a) xs:=⟨a,vs,rfl,aF,Paired.map (λ_ _=>r.mono s2) pp,hz⟩
 have E1:aw K σ H0 R0 H R (Γ.set i .no):=E.tell hΓ trivial λb w=>by cases w
 have E2:=E1.rX ha hR h0 λj e q w=>by
  rcases set_at q with⟨rfl,rfl,_⟩ | ⟨hj,q1⟩
  ·cases w
  ·exact hj (E.ds j i e _ a q1 hΓ w ((Ent.pd (e:=.mu r xs) rfl).mpr ea))
 have hl:i<Γ.length:=(OD.mp hΓ).1
 have E3:=E2.tell (i:=i) (e0:=.no) (en:=.im (ae r) xs) (OW hl) ⟨_,ea,rr⟩ λb w=>by cases w
 rw[Qp] at E3
 exact⟨_,.ref a,E3,s2,ea,rr⟩
theorem WS.freeze (i:Nat){Wy:List Stmt}(hΓ:Γ[i]?=some (.mu r xs))(hz:xs.length<=Ra)(h:WS X Wy (Γ.set i (.im (ae r) xs)) N T):WS X Wy Γ N T:=λσ H0 R0 H R E D dn dr=>by
 obtain⟨R',v,E',s',_,_⟩:=Fc.freeze E hΓ hz
 exact h σ H0 R0 H R' E' D (λσ2 H2 R2 Γ2 E2 s2=>dn σ2 H2 R2 Γ2 E2 (s'.trans s2)) dr
def gu:Rep (List (Int×V)):=⟨λK H v kvs=>∃a,v= .ref a/\H a=some (.dK (bZ kvs)),λs ⟨a,e,q⟩=>⟨a,e,s _ _ q⟩⟩
def gD (kvs:List (Int×V))(k:Int):Bool:=kvs.any λp=>decide (p.1=k)
theorem og (kvs:List (Int×V))(k:Int):(cW (bZ kvs) (Sum.inl k:Key)).isSome=gD kvs k:=by
 rw[← gF]
 unfold bZ gD
 rw[any_map]
 congr 1
 funext p
 show decide ((Sum.inl p.1:Key)=Sum.inl k)=decide (p.1=k)
 by_cases h:p.1=k
 ·rw[h];simp
 ·rw[Ux h,Ux λz=>h (Sum.inl.inj z)]
def CZ (X:Cx)(e:Expr)(Γ:Ga)(k:Int):Prop:=∀(σ:St) (H0 R0 H R:Hp),aw X.K σ H0 R0 H R Γ->∀(H':Hp) (Q:VK),Q (.int k) H'->eQ X e σ H' Q
theorem xA (i:Nat){y:Int}(hΓ:Γ[i]?=some (.im ah y))(hN:X.N[i]?=some x:=by rfl)(hv:autoParam (cN X.env.scope x) Vc)
 (hd:UX x:=by decide) (UI:Ve x:=by decide):CZ X (.Name x pos) Γ y:=λσ H0 R0 H R E H' Q q=>by
 obtain⟨v,e,h⟩:=E.ent i _ hΓ
 cases h
 exact eS (br hN hv hd UI) ⟨_,at_of e,q⟩
theorem Eu (i:Nat){ke ve:Expr}{k:Int}(hk:CZ X ke Γ k)(hv:PE X ve (tC v))(h:N (Γ.set i (.di [(k,v)])))
 (hN:X.N.Nodup:=by first | assumption | decide) (hi:X.N[i]?=some x:=by rfl) (hx:autoParam (Loc X.env.scope x) V1)
 (hs:Rl (.Dict [some ke] [ve] p2) (some (.Name x p1)) pos.line X.env=pure false:=by rfl) (hf:autoParam (X.fn x=true∨X.env.scope.names.lookup x=some .local) V0):
 W1 X (.Assign [.Name x p1] (.Dict [some ke] [ve] p2) pos) Γ N T:=λσ H0 R0 H R E D dn dr=>by
 refine sS (jK hN hi hx (vU (nD aP hv vF) rfl rfl (by simp) (by simp)) hs hf) λp hp=>?_
 refine hk σ H0 R0 H R E _ _ ?_
 refine⟨aF,[(Sum.inl k,v)],rfl,(by show 1<=15;decide),?_⟩
 have E1:=E.grow (Ext.dS E.sub hp (.dK (bZ [(k,v)])))
 have e:upd (upd H p (.dK [])) p (.dK (jI [] [(Sum.inl k,v)]))=upd H p (.dK (bZ [(k,v)])):=by
  rw[qE];rfl
 rw[e]
 exact dn _ _ R _ (E1.uj (u:=.dK (bZ [(k,v)])) (en:=.di [(k,v)]) i ⟨p,rfl,aF,E.sub.free hp⟩ (E.ext.h.free hp) λj e _ q w=>E.off hp j e q w) (au.refl _) h
theorem wG (i:Nat)(neg:Bool){k:Int}(hu:X.A.units+1<cLine)(he:EV X e Γ ah k Γ)(hΓ:Γ[i]?=some (.di kvs))(hN:X.N[i]?=some x:=by rfl)(hv:autoParam (cN X.env.scope x) Vc)
 (hd:UX x:=by decide) (UI:Ve x:=by decide):
 TV X (.Compare e [if neg then .NotIn else .In] [.Name x p1] pos) Γ (if neg then !gD kvs k else gD kvs k) Γ:=by
 intro σ H0 R0 H R E Q q
 cases neg with
 | false=>
   refine tS (lY (G5 hu aP (br hN hv hd UI)) (by with_unfolding_all rfl)) (he σ H0 R0 H R E _ λv H1 R1 E1 s1 e1=>?_)
   obtain⟨a,ea,ha,hR⟩:=E1.ent i _ hΓ
   cases e1
   refine⟨.ref a,at_of ea,a,_,rfl,gQ.k (k:=Sum.inl k) ha,_,rfl,?_⟩
   rw[og]
   exact q H1 R1 E1 s1
 | true=>
   refine tS (lY (mE hu aP (br hN hv hd UI)) (by with_unfolding_all rfl)) (he σ H0 R0 H R E _ λv H1 R1 E1 s1 e1=>?_)
   obtain⟨a,ea,ha,hR⟩:=E1.ent i _ hΓ
   cases e1
   refine⟨.ref a,at_of ea,a,_,rfl,gQ.k (k:=Sum.inl k) ha,_,rfl,?_⟩
   rw[og]
   exact q H1 R1 E1 s1
theorem qS (i:Nat){ke ve:Expr}{k:Int}(hu:X.A.units+1<cLine)(hk:EV X ke Γ ah k Γ)(hv:PE X ve (tC v))(hΓ:Γ[i]?=some (.di kvs))(hn:gD kvs k=false)(hz:kvs.length<Ra)(h:N (Γ.set i (.di (kvs++[(k,v)]))))
 (hN:X.N[i]?=some x:=by rfl) (YV:autoParam (cN X.env.scope x) Vc)
 (hd:UX x:=by decide) (UI:Ve x:=by decide)
 (hs:Rl ve (some (.Subscript (.Name x p1) ke p2)) pos.line X.env=pure false:=by rfl):W1 X (.Assign [.Subscript (.Name x p1) ke p2] ve pos) Γ N T:=λσ H0 R0 H R E D dn dr=>by
 refine sS (pK hu (br hN YV hd UI) aP hv hs) ?_
 obtain⟨a,ea,ha,hR⟩:=E.ent i _ hΓ
 refine⟨.ref a,at_of ea,hk σ H0 R0 H R E _ λu H1 R1 E1 s1 e1=>?_⟩
 obtain⟨a',Vb,VA,Vg⟩:=E1.ent i _ hΓ
 rw[ea] at Vb;cases Vb
 cases e1
 refine⟨a,_,rfl,nG.k (k:=Sum.inl k) VA (by unfold bZ;rw[OH];exact hz),?_⟩
 have vn:cW (bZ kvs) (Sum.inl k:Key)=none:=by
  have:=og kvs k
  rw[hn] at this
  cases q:cW (bZ kvs) (Sum.inl k:Key) with
  | none=>rfl
  | some z=>rw[q] at this;cases this
 rw[nZ v vn]
 have e:bZ kvs++[((Sum.inl k:Key),v)]=bZ (kvs++[(k,v)]):=by unfold bZ;rw[O3];rfl
 rw[e]
 exact dn σ _ R1 _ (E1.upd (en:=.di (kvs++[(k,v)])) hΓ rfl ea Vg ⟨a,rfl,aF,Vg⟩) s1 h
theorem zh (i:Nat){P:List (Int×V)->Prop}(hΓ:Γ[i]?=some (.di kvs))(h:P kvs)(hN:X.N[i]?=some x:=by rfl)(hv:autoParam (cN X.env.scope x) Vc)
 (hd:UX x:=by decide) (UI:Ve x:=by decide):W1 X (.Return (some (.Name x p1)) pos) Γ N (bL X.K gu P):=λσ H0 R0 H R E D dn dr=>by
 obtain⟨a,ea,ha,hR⟩:=E.ent i _ hΓ
 have h0:H0 a=none:=E.new i _ a hΓ rfl ea
 refine sS (iW (br hN hv hd UI)) ⟨.ref a,at_of ea,dr _ H (upd R a (.dK (bZ kvs))) ⟨E.ext.h,E.ext.r.trans (au.fresh hR _),λb o qb=>?_,λb hb=>?_⟩ ⟨kvs,⟨a,rfl,aF⟩,h⟩⟩
 ·by_cases hb:b=a
  ·subst hb;rw[aF] at qb;cases qb;exact ha
  ·rw[aJ hb] at qb;exact E.ext.s b o qb
 ·rw[aJ (show b≠a from λe=>hb (by rw[e];exact h0))];exact E.ext.old b hb
theorem pM {a:Expr}{p:Pos}(hm:X.mg "len"=none)(ha:EV X a Γ gu kvs Γ1)(hs:Rc [a] X.env=[(false,eval a X.env)]:=by rfl)(hg:Gl X "len":=by rfl):EV X (.Call (.Name "len" p) [a] [] pos) Γ ah (kvs.length:Int) Γ1:=by
 intro σ H0 R0 H R E Q q
 refine eS (dX rh hg hm RH (a7 aP bJ hs) (by decide) (by decide) hs) (ha σ H0 R0 H R E _ λv H1 R1 E1 s1 e1=>?_)
 obtain⟨p,rfl,hp⟩:=e1
 refine⟨p,_,rfl,E1.sub _ _ hp,?_⟩
 unfold bZ
 rw[OH]
 exact q _ H1 R1 E1 s1 rfl
end
abbrev bQ:=T2->List Pk->RT->Prop
def aE (S:bQ)(K:T2):Sp:=λvs H Q _=>∃R ps T,au R H/\j7 K R vs ps/\S K ps T/\∀v H' R',Ext H R H' R'->T H v H' R'->Q v H'
theorem j7.length {K:T2}{R:Hp}:∀{vs:List V} {ps:List Pk},j7 K R vs ps->vs.length=ps.length
 | _,_,.nil=>rfl
 | _,_,.cons _ t=>by rw[OP,OP,j7.length t]
structure aA (P:Rh) (w:World) (K:T2) (mg:Oc) (base:Heap) (x:Str) (k:Nat) (sp:Sp):Prop where
 ex:∃f fd ps,dY P w K mg base d7 k f fd ps sp/\mg x=some (.ref f)/\T8 K (.ref f)=true/\Binds K fd ps []
theorem aA.mono {P:Rh}{w:World}{K:T2}{mg:Oc}{base:Heap}{x:Str}{j k:Nat}{sp:Sp}(c:aA P w K mg base x j sp)(h:j<=k):aA P w K mg base x k sp:=by
 obtain⟨f,fd,ps,F,a,b,c⟩:=c.ex
 exact⟨f,fd,ps,F.mono h,a,b,c⟩
section
variable {X:Cx}{Γ Γ1 Γ2 Γ3:Ga}{α β γ δ:Type}{N:Ga->Prop}{T:RT}
variable {S:bQ}{x:Str}{e:Expr}{es:Oj}{pos:Pos}{ps:List Pk}
theorem kX {k:Nat}{p:Pos}{Q:VK}{σ:St}{H0 R0 H R:Hp}(C:aA X.prog X.w X.K X.mg X.base x k (aE S X.K))(hr:bI k X.A)(ha:HA X (e::es) Γ ps Γ1)(hS:S X.K ps T)(E:aw X.K σ H0 R0 H R Γ)
 (q:∀H1 R1 v H' R',aw X.K σ H0 R0 H1 R1 Γ1->au R R1->Ext H1 R1 H' R'->T H1 v H' R'->Q v H')
 (hg:Gl X x) (Vo:(x==("__debug__":Str))=false) (he:Rc (e::es) X.env=(false,eval e X.env)::Rc es X.env) (U0:(Rk pos (Rc es X.env)).any (·.1)=false):eQ X (.Call (.Name x p) (e::es) [] pos) σ H Q:=by
 obtain⟨f,fd,pn,F,hm,hk,hb⟩:=C.ex
 refine eS (qt F hr hg hm hk hb .nil rZ lT Vo he U0) (ha σ H0 R0 H R E _ λvs H1 R1 E1 s1 p1=>?_)
 refine⟨R1,ps,T,E1.sub,by rw[Pf];exact p1,hS,λv H' R' x t=>q H1 R1 v H' R' E1 s1 x t⟩
theorem aB {k:Nat}{p:Pos}{r:Rep α}{y:α}(C:aA X.prog X.w X.K X.mg X.base x k (aE S X.K))(hr:bI k X.A)(ha:HA X (e::es) Γ ps Γ1)(hS:S X.K ps (bL X.K r (· =y)))
 (hg:Gl X x:=by rfl) (Vo:UX x:=by decide) (he:Rc (e::es) X.env=(false,eval e X.env)::Rc es X.env:=by rfl) (U0:(Rk pos (Rc es X.env)).any (·.1)=false:=by rfl):EV X (.Call (.Name x p) (e::es) [] pos) Γ r y Γ1:=λσ H0 R0 H R E Q q=>
 kX C hr ha hS E (λH1 R1 v H' R' E1 s1 xx t=>by
  obtain⟨z,e1,rfl⟩:=t
  exact q v H' R' (E1.grow xx) (s1.trans xx.r) e1) hg Vo he U0
theorem ir {k:Nat}{p:Pos}{r:Rep α}{ys:List α}(C:aA X.prog X.w X.K X.mg X.base x k (aE S X.K))(hr:bI k X.A)(ha:HA X (e::es) Γ ps Γ1)(hS:S X.K ps (nu X.K r (· =ys)))
 (hg:Gl X x:=by rfl) (Vo:UX x:=by decide) (he:Rc (e::es) X.env=(false,eval e X.env)::Rc es X.env:=by rfl) (U0:(Rk pos (Rc es X.env)).any (·.1)=false:=by rfl):aW X (.Call (.Name x p) (e::es) [] pos) Γ r ys Γ1:=λσ H0 R0 H R E Q q=>
 kX C hr ha hS E (λH1 R1 v H' R' E1 s1 xx t=>by
  obtain⟨a,vs,zs,rfl,h0,h1,h2,p,z,rfl⟩:=t
  exact q a vs H' R' (E1.grow xx) (s1.trans xx.r) h1 h2 (E1.ext.h.free h0) (E1.off h0) p z) hg Vo he U0
end
def eh (ps:List Pk)(n:Nat):Ga:=ps.map (λp=>Ent.im p.r p.x)++PQ (n-ps.length) .no
theorem i8 {K:T2}{R H:Hp}{vs:List V}{ps:List Pk}{N:Of}(s:au R H)(p:j7 K R vs ps)(hl:ps.length<=N.length):aw K (L2.start N vs) H R H R (eh ps N.length):=by
 have U1:∀(i:Nat) (e:Ent) (o:Option V),(eh ps N.length)[i]?=some e->e.fp o=[]:=λi e o q=>by
  unfold eh at q
  rcases OS.mp (OK q) with z | z
  ·obtain⟨p,_,rfl⟩:=OO.mp z;rfl
  ·obtain⟨_,rfl⟩:=Qn.mp z;rfl
 refine⟨Ext.refl s,λi e q=>?_,λi e a q w=>Ur w (by rw[U1 i e _ q];exact O9),λi j e e' a q _ w=>Ur w (by rw[U1 i e _ q];exact O9),?_⟩
 ·have hp:=p.length
  unfold eh at q
  unfold L2.start
  by_cases hi:i<ps.length
  ·rw[O6 (by simpa using hi),OJ] at q
   rw[O6 (by simpa[hp] using hi),OJ]
   have key:∀{vs:List V} {ps:List Pk},j7 K R vs ps->∀(i:Nat) (p:Pk),ps[i]?=some p->∃v,vs[i]?=some v/\p.r.R K R v p.x:=by
    intro vs ps h
    induction h with
    | nil=>intro i p e;simp at e
    | cons a b ih=>
      intro i p e
      cases i with
      | zero=>simp at e;subst e;exact⟨_,rfl,a⟩
      | succ i=>simpa using ih i p (by simpa using e)
   cases e1:ps[i]? with
   | none=>rw[e1] at q;cases q
   | some p1=>
     rw[e1] at q
     cases q
     obtain⟨v,h1,h2⟩:=key p i p1 e1
     rw[h1]
     exact⟨v,rfl,h2⟩
  ·rw[O7 (by simpa using hi),PD] at q
   split at q
   ·cases q;trivial
   ·cases q
 ·unfold eh L2.start
  rw[OI,OI,OH,OH,Pr,Pr,p.length]
section
variable {P:Rh}{w:World}{K:T2}{mg:Oc}{base:Heap}
def Def (K:T2)(mg:Oc)(x:Str)(st:Stmt)(ps:Of):Prop:=∃f fd,dH K x x st f fd/\mg x=some (.ref f)/\Binds K fd ps []
theorem fR {S:bQ}{x qual:Str}{st:Stmt}{f:Addr}{fd:Rm}{N ps:Of}{k:Nat}(F:dH K x qual st f fd)(Sc:ay N ps (ag st))(hm:mg x=some (.ref f))(hb:Binds K fd ps [])(len:∀qs T,S K qs T->qs.length=ps.length)
 (UT:∀(UE:Value) (A:Ri) (outer:List Env) (s:Q9) (H:Hp) (E:XK) (qs:List Pk) (T:RT),bI k (A.deeper (Q5 qual (ag st) s.heap.objs.size f UE))->S K qs T->
  WS (eD d7 P w K mg base N qual (ag st) f UE A outer s H E).ic (bu st) (eh qs N.length) (λ_=>False) T):aA P w K mg base x (k+1) (aE S K):=by
 refine⟨f,fd,ps,?_,hm,F.kp,hb⟩
 refine F.ok Sc (λvs H Q E h=>?_) (λUE A outer s H vs Q E hr h=>?_)
 ·obtain⟨R,qs,T,_,p,hS,_⟩:=h
  rw[p.length];exact len qs T hS
 ·obtain⟨R,qs,T,sR,p,hS,q⟩:=h
  have hl:qs.length<=N.length:=by
   rw[len qs T hS]
   have:=congrArg List.length Sc.pre
   rw[OY] at this
   omega
  exact⟨_,jX,UT UE A outer s H E qs T hr hS (L2.start N vs) H R H R (i8 sR p hl) {nx:=λ_ H'=>Q .UQ H',rt:=Q} (λ_ _ _ _ _ _ f=>f.elim) λv H' R' xx t=>q v H' R' xx t⟩
theorem bc {S:bQ}{x:Str}{st:Stmt}{N ps:Of}{k:Nat}(D:Def K mg x st ps)(Sc:ay N ps (ag st))
 (UT:∀(f:Addr) (UE:Value) (A:Ri) (outer:List Env) (s:Q9) (H:Hp) (E:XK) (qs:List Pk) (T:RT),bI k (A.deeper (Q5 x (ag st) s.heap.objs.size f UE))->S K qs T->
  WS (eD d7 P w K mg base N x (ag st) f UE A outer s H E).ic (bu st) (eh qs N.length) (λ_=>False) T)
 (len:∀qs T,S K qs T->qs.length=ps.length:=by(intros;rename_i h;repeat (first | (rw[h.1];rfl) | obtain⟨_,h⟩:=h))):aA P w K mg base x (k+1) (aE S K):=by
 obtain⟨f,fd,F,hm,hb⟩:=D
 exact fR F Sc hm hb len (UT f)
end
section
variable {X:Cx}{Γ Γ1 Γ2 Γ3:Ga}{α β γ δ:Type}{N:Ga->Prop}{T:RT}
variable {a:Expr}{pos:Pos}
theorem ux {bs:List Bool}{us:Oi}(r:Vals (bs.map V.bl) us){j:Nat}{v:Value}(h:us.toArray[j]?=some v):v= .bool (bs.getD j true):=by
 induction bs generalizing us j with
 | nil=>cases r;simp at h
 | cons b r' ih=>
   cases r with
   | cons h1 t=>
     cases j with
     | zero=>simp at h;rw[← h];exact h1
     | succ j=>exact ih t (by simpa using h)
theorem all_range (bs:List Bool):((O5 bs.length).all λj=>bs.getD j true)=bs.all id:=by
 rw[Ot,Pq,Pq]
 constructor
 ·intro h b hb
  obtain⟨j,hj,rfl⟩:=Qc.mp hb
  have:=h j (Pm.mpr hj)
  simpa[OG,OE hj] using this
 ·intro h j hj
  have hj:=Pm.mp hj
  simpa[OG,OE hj] using h _ (O0 hj)
theorem any_range (bs:List Bool):((O5 bs.length).any λj=>bs.getD j true)=bs.any id:=by
 rw[Ot,Qa,Qa]
 constructor
 ·rintro⟨j,hj,h⟩
  have hj:=Pm.mp hj
  exact⟨_,O0 hj,by simpa[OG,OE hj] using h⟩
 ·rintro⟨b,hb,h⟩
  obtain⟨j,hj,rfl⟩:=Qc.mp hb
  exact⟨j,Pm.mpr hj,by simpa[OG,OE hj] using h⟩
theorem AJ (hc:X.calm=true):eR X (.builtin "all") (λxs H Q=>∃(p:Addr) (bs:List Bool),xs=[.ref p]/\aZ X.K H p (bs.map V.bl)/\Q (.bl (bs.all id)) H):=by
 intro UB s σ H xs us Q I r h
 obtain⟨p,bs,rfl,hq,q⟩:=h
 obtain⟨u,rfl,rx⟩:=vals1 r
 cases rx
 obtain⟨UD,r',pl,hz⟩:=I.list hq
 have UJ:p≠s.heap.objs.size:=λe=>by obtain⟨o,ho,_⟩:=pl.isList;exact Ur (Tj ho) (by rw[e];exact QI _)
 refine call_all_walk (Sb pl.isList ?_)
 refine⟨s.heap.objs.size,_,[s.heap.objs.size],UD.toArray.size,_,_,λj=>bs.getD j true,rfl,Walks.list (A:=X.A.in1) (show X.A.in1.handled=none from I.ok.hd hc) s.heap.objs.size p UJ UD.toArray,?_,λj v s Q E hv hQ=>?_,λh' tk hk=>?_⟩
 ·refine⟨⟨_,Tn _ rfl,rfl,rfl⟩,?_⟩
  obtain⟨o,ho,c,n,d⟩:=pl.isList
  exact⟨o,Ti _ ho,c,n,d⟩
 ·rw[ux r' hv];exact Rn hQ
 ·have e:UD.toArray.size=bs.length:=by rw[ON,← r'.length,OH]
  rw[e,all_range]
  exact⟨.bl _,H,I.kept λb o e=>hk b o (λz=>Ur (Tj e) (by rw[OF.mp z];exact QI _)) (Ti _ e),rfl,q⟩
theorem Bo (hc:X.calm=true):eR X (.builtin "any") (λxs H Q=>∃(p:Addr) (bs:List Bool),xs=[.ref p]/\aZ X.K H p (bs.map V.bl)/\Q (.bl (bs.any id)) H):=by
 intro UB s σ H xs us Q I r h
 obtain⟨p,bs,rfl,hq,q⟩:=h
 obtain⟨u,rfl,rx⟩:=vals1 r
 cases rx
 obtain⟨UD,r',pl,hz⟩:=I.list hq
 have UJ:p≠s.heap.objs.size:=λe=>by obtain⟨o,ho,_⟩:=pl.isList;exact Ur (Tj ho) (by rw[e];exact QI _)
 refine call_any_walk (Sb pl.isList ?_)
 refine⟨s.heap.objs.size,_,[s.heap.objs.size],UD.toArray.size,_,_,λj=>bs.getD j true,rfl,Walks.list (A:=X.A.in1) (show X.A.in1.handled=none from I.ok.hd hc) s.heap.objs.size p UJ UD.toArray,?_,λj v s Q E hv hQ=>?_,λh' tk hk=>?_⟩
 ·refine⟨⟨_,Tn _ rfl,rfl,rfl⟩,?_⟩
  obtain⟨o,ho,c,n,d⟩:=pl.isList
  exact⟨o,Ti _ ho,c,n,d⟩
 ·rw[ux r' hv];exact Rn hQ
 ·have e:UD.toArray.size=bs.length:=by rw[ON,← r'.length,OH]
  rw[e,any_range]
  exact⟨.bl _,H,I.kept λb o e=>hk b o (λz=>Ur (Tj e) (by rw[OF.mp z];exact QI _)) (Ti _ e),rfl,q⟩
theorem nN {K:T2}{R:Hp}:∀{vs:List V} {xs:List Bool},PySem.Paired (bF.R K R) vs xs->vs=xs.map V.bl
 | _,_,.nil=>rfl
 | _,_,.cons h t=>by rw[Pc,← nN t];exact congrArg (· ::_) h
theorem Dl {x:Str}{id:String}{r:List V->Hp->VK->Prop}{p:Pos}{ra:Rep α}{rb:Rep β}{y:α}{z:β}(hc:eR X (.builtin id) r)(hm:X.mg x=none)(hv:RK x=some (.builtin id))(ha:EV X a Γ ra y Γ1)
 (h:∀(R H:Hp) v Q,au R H->ra.R X.K R v y->(∀w,rb.R X.K R w z->Q w H)->r [v] H Q) (hs:Rc [a] X.env=[(false,eval a X.env)]:=by rfl) (hg:Gl X x:=by rfl) (hn:x≠"__name__":=by decide) (Vo:UX x:=by decide):
 EV X (.Call (.Name x p) [a] [] pos) Γ rb z Γ1:=by
 intro σ H0 R0 H R E Q q
 exact eS (dX hc hg hm hv (a7 aP bJ hs) hn Vo hs) (ha σ H0 R0 H R E _ λv H1 R1 E1 s1 e1=>h R1 H1 v _ E1.sub e1 λw hw=>q w H1 R1 E1 s1 hw)
theorem gZ {p:Pos}{bs:List Bool}(hm:X.mg "all"=none)(ha:EV X a Γ (ae bF) bs Γ1)(hs:Rc [a] X.env=[(false,eval a X.env)]:=by rfl)(hc:X.calm=true:=by rfl)(hg:Gl X "all":=by rfl):EV X (.Call (.Name "all" p) [a] [] pos) Γ bF (bs.all id) Γ1:=
 Dl (AJ hc) hm boot_all ha (λR H v Q s ⟨p,vs,e,hp,pp,_⟩ q=>⟨p,bs,by rw[e],by rw[← nN pp];exact aZ.of (s _ _ hp),q _ rfl⟩) hs hg
theorem Ac {p:Pos}{bs:List Bool}(hm:X.mg "any"=none)(ha:EV X a Γ (ae bF) bs Γ1)(hs:Rc [a] X.env=[(false,eval a X.env)]:=by rfl)(hc:X.calm=true:=by rfl)(hg:Gl X "any":=by rfl):EV X (.Call (.Name "any" p) [a] [] pos) Γ bF (bs.any id) Γ1:=
 Dl (Bo hc) hm boot_any ha (λR H v Q s ⟨p,vs,e,hp,pp,_⟩ q=>⟨p,bs,by rw[e],by rw[← nN pp];exact aZ.of (s _ _ hp),q _ rfl⟩) hs hg
theorem wd {p:Pos}{b:Bool}(hm:X.mg "int"=none)(ha:EV X a Γ bF b Γ1)(hs:Rc [a] X.env=[(false,eval a X.env)]:=by rfl)(hg:Gl X "int":=by rfl):EV X (.Call (.Name "int" p) [a] [] pos) Γ ah (if b then 1 else 0) Γ1:=by
 intro σ H0 R0 H R E Q q
 exact eS (gL Aa hg hm PyProof.Rows.boot_int (a7 aP bJ hs) (by decide) (by decide) hs) (ha σ H0 R0 H R E _ λv H1 R1 E1 s1 e1=>.inr ⟨b,by rw[show v=V.bl b from e1],q _ H1 R1 E1 s1 rfl⟩)
theorem nR {p:Pos}{r:Rep α}{xs:List α}(hm:X.mg "list"=none)(ha:EV X a Γ (ae r) xs Γ1)(hs:Rc [a] X.env=[(false,eval a X.env)]:=by rfl)(hg:Gl X "list":=by rfl):aW X (.Call (.Name "list" p) [a] [] pos) Γ r xs Γ1:=by
 intro σ H0 R0 H R E Q q
 refine eS (gL uI hg hm Q4 (a7 aP bJ hs) (by decide) (by decide) hs) (ha σ H0 R0 H R E _ λv H1 R1 E1 s1 e1=>?_)
 obtain⟨p,vs,rfl,hp,pp,z⟩:=e1
 exact⟨p,vs,rfl,.inl (aZ.of (E1.sub _ _ hp)),λl hl=>q l vs _ R1 (E1.grow (Ext.dS E1.sub hl _)) s1 aF (E1.sub.free hl) (E1.ext.h.free hl) (E1.off hl) pp z⟩
theorem qi {b:Expr}{p:Pos}{x y:Int}(hm:X.mg "min"=none)(ha:HA X [a,b] Γ [⟨ah,x⟩,⟨ah,y⟩] Γ1)(hs:Rc [a,b] X.env=(false,eval a X.env)::Rc [b] X.env:=by rfl)(hc:X.calm=true:=by rfl)(hg:Gl X "min":=by rfl)(U0:(Rk pos (Rc [b] X.env)).any (·.1)=false:=by rfl):EV X (.Call (.Name "min" p) [a,b] [] pos) Γ ah (if y<x then y else x) Γ1:=by
 intro σ H0 R0 H R E Q q
 refine eS (dX (x9 hc) hg hm PyProof.Rows.boot_min lT (by decide) (by decide) hs U0) (ha σ H0 R0 H R E _ λvs H1 R1 E1 s1 p1=>?_)
 cases p1 with
 | cons a1 t=>cases t with
   | cons a2 t2=>cases t2;cases a1;cases a2;exact⟨x,y,rfl,q _ H1 R1 E1 s1 rfl⟩
end
def Src (K:T2)(J:It)(R1:Hp){α:Type}(r:Rep α)(xs:List α):Prop:=
 ∀(H' R':Hp),au R1 R'->au R' H'->∀i:Nat,(∀x,xs[i]?=some x->J.go i H'/\∀v H2,J.Yn i H' v H2->∃R2,Ext H' R' H2 R2/\r.R K R2 v x)/\(xs.length<=i->J.stop i H')
section
variable {X:Cx}{Γ Γ1 Γ2 Γ3:Ga}{α β γ δ:Type}{N:Ga->Prop}{T:RT}
variable {tg:Expr}{xs:List α}{iter:Expr}{bf:α->Ga->Ga}{pos:Pos}{elt:Expr}{ifs:Oj}{scope:Scope}{fr:Of}{ix:List Nat}{ra:Rep α}{rb:Rep β}{f:α->β}
def IV (X:Cx)(tg iter:Expr)(Γ:Ga){α:Type}(r:Rep α)(xs:List α)(Γ1:Ga):Prop:=
 ∃wi,PI X tg iter wi/\∀(σ:St) (H0 R0 H R:Hp),aw X.K σ H0 R0 H R Γ->∀Rq:It->Hp->Prop,(∀J H1 R1,aw X.K σ H0 R0 H1 R1 Γ1->au R R1->xs.length<=Ra->Src X.K J R1 r xs->Rq J H1)->wi σ H Rq
theorem bG {r:Rep α}(h:EV X iter Γ (ae r) xs Γ1):IV X tg iter Γ r xs Γ1:=by
 refine⟨_,Fg aP,λσ H0 R0 H R E Rq q=>h σ H0 R0 H R E _ λv H1 R1 E1 s1 e1=>?_⟩
 obtain⟨a,vs,rfl,ha,pp,z⟩:=e1
 refine⟨a,rfl,⟨vs,aZ.of (E1.sub _ _ ha)⟩,q _ H1 R1 E1 s1 z λH' R' sR sH i=>⟨λx hx=>?_,λhi=>?_⟩⟩
 ·have hq:aZ X.K H' a vs:=aZ.of (sH _ _ (sR _ _ ha))
  obtain⟨v,hv,hr⟩:=dh pp hx
  refine⟨⟨vs,v,hq,hv⟩,λv' H2 hy=>?_⟩
  obtain⟨rfl,hy⟩:=hy
  have:=hy vs hq
  rw[hv] at this
  cases this
  exact⟨R',Ext.refl sH,r.mono sR hr⟩
 ·exact⟨vs,aZ.of (sH _ _ (sR _ _ ha)),by rw[pp.length];exact hi⟩
def ups (lo:Int)(n:Nat):Oe:=(O5 n).map λ(k:Nat)=>lo+(k:Int)
theorem a9 (lo:Int)(n:Nat):(ups lo n).length=n:=by unfold ups;rw[OH,P2]
theorem ef {lo:Int}{n i:Nat}{x:Int}(h:(ups lo n)[i]?=some x):i<n/\x=lo+(i:Int):=by
 have hi:i<n:=by have:=(OD.mp h).1;rwa [a9] at this
 refine⟨hi,?_⟩
 unfold ups at h
 rw[OJ,Pt hi] at h
 exact(Option.some.inj h).symm
theorem vE {K:T2}{R1:Hp}(lo:Int)(n:Nat):Src K (x6 lo n) R1 ah (ups lo n):=λH' R' sR sH i=>⟨λx hx=>by
 obtain⟨h1,rfl⟩:=ef hx
 refine⟨h1,λv H2 hy=>?_⟩
 obtain⟨rfl,rfl⟩:=hy
 exact⟨R',Ext.refl sH,rfl⟩,λhi=>by rw[a9] at hi;exact hi⟩
theorem dg {a:Expr}{p1 p2:Pos}{n:Int}(hm:X.mg "range"=none)(ha:EV X a Γ ah n Γ1)(hn: -(2 ^ 62)<=n/\n<=1000000)(XE:Rc [a] X.env=[(false,eval a X.env)]:=by rfl)(hg:Gl X "range":=by rfl):IV X tg (.Call (.Name "range" p1) [a] [] p2) Γ ah (ups 0 n.toNat) Γ1:=by
 refine⟨_,yX hg hm (a7 aP bJ XE) XE,λσ H0 R0 H R E Rq q=>ha σ H0 R0 H R E _ λv H1 R1 E1 s1 e1=>?_⟩
 exact⟨n,by rw[show v=V.int n from e1],hn.1,by omega,q _ H1 R1 E1 s1 (by rw[a9];exact QD (show n.toNat<=1000000 by omega) (by decide)) (vE 0 n.toNat)⟩
theorem qT {a b:Expr}{p1 p2:Pos}{m n:Int}(hm:X.mg "range"=none)(ha:EV X a Γ ah m Γ1)(hb:EV X b Γ1 ah n Γ2)(hn: -1000000<=m/\m<=1000000/\ -1000000<=n/\n<=1000000)
 (XE:Rc [a,b] X.env=[(false,eval a X.env),(false,eval b X.env)]:=by rfl) (Vf:Rc [b] X.env=[(false,eval b X.env)]:=by rfl) (hg:Gl X "range":=by rfl):IV X tg (.Call (.Name "range" p1) [a,b] [] p2) Γ ah (ups m (n-m).toNat) Γ2:=by
 refine⟨_,yx hg hm (a7 aP (a7 aP bJ Vf) (by rw[XE,Vf])) XE Vf,λσ H0 R0 H R E Rq q=>ha σ H0 R0 H R E _ λv H1 R1 E1 s1 e1=>hb σ H0 R0 H1 R1 E1 _ λu H2 R2 E2 s2 e2=>?_⟩
 exact⟨m,n,by rw[show v=V.int m from e1,show u=V.int n from e2],⟨by omega,by omega,by omega,by omega⟩,q _ H2 R2 E2 (s1.trans s2) (by rw[a9];exact QD (show(n-m).toNat<=2000000 by omega) (by decide)) (vE m (n-m).toNat)⟩
theorem bX {body:List Stmt}{r:Rep α}(I:Nat->Ga->Prop)(hit:IV X tg iter Γ r xs Γ1)(hb:BG X tg r bf)(h0:I 0 Γ1)
 (Vz:∀(i:Nat) (x:α) (Γ:Ga),xs[i]?=some x->I i Γ->WS X body (bf x Γ) (I (i+1)) T) (VU:∀Γ:Ga,I xs.length Γ->N Γ)
 (hc:X.calm=true:=by rfl) (hp:PassesOwn (model X.prog X.w) X.A X.env X.xe:=by exact PassesOwn.never) (hs:∀x,Rz iter X.env x=pure x:=by intro _;rfl):W1 X (.For tg iter body [] pos) Γ N T:=λσ H0 R0 H R E D dn dr=>by
 obtain⟨wi,hi,hit⟩:=hit
 refine sS (G8 hp hc hi pgS jX hs) (hit σ H0 R0 H R E _ λJ H1 R1 E1 s1 hz src=>?_)
 refine⟨λi m σ' H'=>m=xs.length-i/\i<=xs.length/\∃R' Γ',aw X.K σ' H0 R0 H' R' Γ'/\au R1 R'/\I i Γ',⟨_,rfl,QE _,R1,Γ1,E1,au.refl _,h0⟩,?_⟩
 rintro i m σ' H' ⟨rfl,hle,R',Γ',E',s',hI⟩
 obtain⟨YF,V6⟩:=src H' R' s' E'.sub i
 by_cases Vx:i<xs.length
 ·obtain⟨go,yl⟩:=YF _ (OE Vx)
  refine .inr ⟨go,λσ' H'=>i+1<=xs.length/\∃R' Γ',aw X.K σ' H0 R0 H' R' Γ'/\au R1 R'/\I (i+1) Γ',λσ2 H2 h=>⟨xs.length-(i+1),by omega,rfl,h.1,h.2⟩,λv H2 hy=>?_⟩
  obtain⟨R2,x2,hr⟩:=yl v H2 hy
  refine hb σ' H0 R0 H2 R2 Γ' v _ (E'.grow x2) hr _ λσ2 E2=>?_
  exact Vz i _ Γ' (OE Vx) hI σ2 H0 R0 H2 R2 E2 _ (λσ3 H3 R3 Γ3 E3 s3 h3=>⟨Vx,R3,Γ3,E3,s'.trans (x2.r.trans s3),h3⟩) dr
 ·have e:i=xs.length:=by omega
  subst e
  exact .inl ⟨V6 (QC _),dn σ' H' R' Γ' E' (s1.trans s') (VU Γ' hI)⟩
def xF:Option Ent->Ent
 | some (.im r x)=>.im r x
 | _=>.no
def dA (own:Of)(ix:List Nat)(Γ:Ga):Ga:=PQ own.length .no++ix.map λi=>xF Γ[i]?
theorem tI {K:T2}{σ:St}{H0 R0 H R:Hp}(E:aw K σ H0 R0 H R Γ)(own:Of)(ix:List Nat):aw K (gm own ix σ) H R H R (dA own ix Γ):=by
 have U1:∀(i:Nat) (e:Ent) (o:Option V),(dA own ix Γ)[i]?=some e->e.fp o=[]:=λi e o q=>by
  unfold dA at q
  rcases OS.mp (OK q) with z | z
  ·obtain⟨_,rfl⟩:=Qn.mp z;rfl
  ·obtain⟨k,_,rfl⟩:=OO.mp z
   unfold xF
   split<;>rfl
 refine⟨Ext.refl E.sub,λi e q=>?_,λi e a q w=>Ur w (by rw[U1 i e _ q];exact O9),λi j e e' a q _ w=>Ur w (by rw[U1 i e _ q];exact O9),by unfold dA gm;simp⟩
 unfold dA at q
 unfold gm
 by_cases hi:i<own.length
 ·rw[O6 (by simpa using hi),PD] at q
  rw[Ut hi] at q
  cases q;trivial
 ·rw[O7 (by simpa using hi),Pr,OJ] at q
  rw[O7 (by simpa using hi),Pr,OJ]
  cases ek:ix[i-own.length]? with
  | none=>rw[ek] at q;cases q
  | some k=>
    rw[ek] at q
    have q':xF Γ[k]?=e:=Option.some.inj q
    subst q'
    show(xF Γ[k]?).ok K H R (σ[k]?).join
    cases eg:Γ[k]? with
    | none=>trivial
    | some e=>
      cases e with
      | im r x=>exact E.ent k _ eg
      | no=>trivial
      | mu r x=>trivial
      | di x=>trivial
      | ob x=>trivial
theorem qV {cl:List (Str×Addr)}{own:Of}{p:α->Bool}{J:It}{σ:St}{H0 R0 H1 R1:Hp}{Q:VK}(E1:aw X.K σ H0 R0 H1 R1 Γ1)(src:Src X.K J R1 ra xs)(hz:xs.length<=Ra)
 (hb:∀(C:Addr) (s:Q9) (H:Hp) (ex:Oh),BG (bq X scope cl C (own++fr) s H ex) tg ra bf) (hw:∀x,Wk (bf x (dA own ix Γ1)) (dA own ix Γ1))
 (ht:∀(C:Addr) (s:Q9) (H:Hp) (ex:Oh) x,x∈xs->TF (bq X scope cl C (own++fr) s H ex) ifs (bf x (dA own ix Γ1)) (p x) (bf x (dA own ix Γ1)))
 (he:∀(C:Addr) (s:Q9) (H:Hp) (ex:Oh) x,x∈xs->p x=true->EV (bq X scope cl C (own++fr) s H ex) elt (bf x (dA own ix Γ1)) rb (f x) (bf x (dA own ix Γ1)))
 (q:∀a vs H' R',Ext H1 R1 H' R'->H' a=none->PySem.Paired (rb.R X.K R') vs ((xs.filter p).map f)->Q (.ref a) (upd H' a (.lst vs))):
 ∃W:Nat->Nat->List V->St->Hp->Prop,(∃m,W 0 m [] (gm own ix σ) H1)/\∀i m ys σ' H',W i m ys σ' H'->
  ys.length<=Ra/\((J.stop i H'/\∀p,H' p=none->Q (.ref p) (upd H' p (.lst ys)))∨
  (J.go i H'/\∀x H2,J.Yn i H' x H2->(λv σ H Q=>∀C s Hh ex,mF (bq X scope cl C (own++fr) s Hh ex) tg v σ H Q:TG) x σ' H2 λσ2 H3=>(λσ H Q=>∀C s Hh ex,nU (bq X scope cl C (own++fr) s Hh ex) ifs σ H Q:TT) σ2 H3 λb H4=>
    if b=true then(λσ H Q=>∀C s Hh ex,eQ (bq X scope cl C (own++fr) s Hh ex) elt σ H Q:TE) σ2 H4 λv H5=>∃m',m'<m/\W (i+1) m' (ys++[v]) σ2 H5 else∃m',m'<m/\W (i+1) m' ys σ2 H4)):=by
 refine⟨λi m ys σ' H'=>m=xs.length-i/\i<=xs.length/\∃R',aw X.K σ' H1 R1 H' R' (dA own ix Γ1)/\PySem.Paired (rb.R X.K R') ys (((xs.take i).filter p).map f),⟨_,rfl,QE _,R1,tI E1 own ix,.nil⟩,?_⟩
 rintro i m ys σ' H' ⟨rfl,hle,R',E',pp⟩
 have hys:ys.length<=Ra:=by
  rw[pp.length,OH]
  refine QD (Pz _ _) (QD ?_ hz)
  rw[OY];omega
 obtain⟨YF,V6⟩:=src H' R' E'.ext.r E'.sub i
 refine⟨hys,?_⟩
 by_cases Vx:i<xs.length
 ·obtain⟨go,yl⟩:=YF _ (OE Vx)
  have VT:xs[i]∈xs:=O0 Vx
  have tk:(xs.take (i+1))=xs.take i++[xs[i]]:=by rw[Pg,OE Vx];rfl
  refine .inr ⟨go,λv H2 hy C s Hh ex=>?_⟩
  obtain⟨R2,x2,hr⟩:=yl v H2 hy
  refine hb C s Hh ex σ' H1 R1 H2 R2 _ v _ (E'.grow x2) hr _ λσ2 E2=>?_
  intro C s Hh ex
  refine ht C s Hh ex _ VT σ2 H1 R1 H2 R2 E2 _ λH4 R4 E4 s4=>?_
  cases hpx:p xs[i] with
  | false=>
    rw[Us Oo]
    refine⟨xs.length-(i+1),by omega,rfl,Vx,R4,E4.weak (hw _),?_⟩
    rw[tk,PZ,List.filter_cons,hpx,Us Oo,List.filter_nil,Pf]
    exact Paired.map (λ_ _=>rb.mono (x2.r.trans s4)) pp
  | true=>
    rw[Ut rfl]
    intro C s Hh ex
    refine he C s Hh ex _ VT hpx σ2 H1 R1 H4 R4 E4 _ λw H5 R5 E5 s5 e5=>?_
    refine⟨xs.length-(i+1),by omega,rfl,Vx,R5,E5.weak (hw _),?_⟩
    rw[tk,PZ,List.filter_cons,hpx,Ut rfl,List.filter_nil,O3]
    exact dj (Paired.map (λ_ _=>rb.mono (x2.r.trans (s4.trans s5))) pp) (.cons e5 .nil)
 ·have e:i=xs.length:=by omega
  subst e
  rw[Pl] at pp
  exact .inl ⟨V6 (QC _),λa ha=>q a ys H' R' E'.ext ha pp⟩
theorem bD {cl:List (Str×Addr)}{own:Of}{p:α->Bool}
 (S:eN X scope cl own fr ix) (hit:IV X tg iter Γ ra xs Γ1)
 (hb:∀(C:Addr) (s:Q9) (H:Hp) (ex:Oh),BG (bq X scope cl C (own++fr) s H ex) tg ra bf) (hw:∀x,Wk (bf x (dA own ix Γ1)) (dA own ix Γ1))
 (ht:∀(C:Addr) (s:Q9) (H:Hp) (ex:Oh) x,x∈xs->TF (bq X scope cl C (own++fr) s H ex) ifs (bf x (dA own ix Γ1)) (p x) (bf x (dA own ix Γ1)))
 (he:∀(C:Addr) (s:Q9) (H:Hp) (ex:Oh) x,x∈xs->p x=true->EV (bq X scope cl C (own++fr) s H ex) elt (bf x (dA own ix Γ1)) rb (f x) (bf x (dA own ix Γ1)))
 (hc:X.calm=true:=by rfl) (hs:∀x,Rz iter X.env x=pure x:=by intro _;rfl):aW X (.ListComp elt [⟨tg,iter,ifs,0⟩] scope pos) Γ rb ((xs.filter p).map f) Γ1:=by
 intro σ H0 R0 H R E Q q
 obtain⟨wi,hi,hit⟩:=hit
 refine eS (DL (g:=λv σ H Q=>∀C s Hh ex,mF (bq X scope cl C (own++fr) s Hh ex) tg v σ H Q) (tc:=λσ H Q=>∀C s Hh ex,nU (bq X scope cl C (own++fr) s Hh ex) ifs σ H Q) (te:=λσ H Q=>∀C s Hh ex,eQ (bq X scope cl C (own++fr) s Hh ex) elt σ H Q) hc S hi
  (λC s H ex=>⟨λUB s1 σ H v u Q I r h=>h C s _ ex UB s1 u I r,λUB s1 σ H Q I h=>h C s _ ex UB s1 I,λUB s1 σ H Q I h=>h C s _ ex UB s1 I⟩) hs) ?_
 refine hit σ H0 R0 H R E _ λJ H1 R1 E1 s1 hz src=>qV E1 src hz hb hw ht he λa vs H' R' xx ha pp=>?_
 have E2:=E1.grow xx
 exact q a vs _ R' (E2.grow (Ext.dS E2.sub ha _)) (s1.trans xx.r) aF (E2.sub.free ha) (E2.ext.h.free ha) (E2.off ha) pp (by
  rw[OH];exact QD (Pz _ _) hz)
theorem kM (i:Nat){y:Str}{py V7:Pos}{cl:List (Str×Addr)}{own:Of}{p:α->Bool}
 (S:eN X scope cl own fr ix) (hit:IV X tg iter Γ ra xs Γ1)
 (hb:∀(C:Addr) (s:Q9) (H:Hp) (ex:Oh),BG (bq X scope cl C (own++fr) s H ex) tg ra bf) (hw:∀x,Wk (bf x (dA own ix Γ1)) (dA own ix Γ1))
 (ht:∀(C:Addr) (s:Q9) (H:Hp) (ex:Oh) x,x∈xs->TF (bq X scope cl C (own++fr) s H ex) ifs (bf x (dA own ix Γ1)) (p x) (bf x (dA own ix Γ1)))
 (he:∀(C:Addr) (s:Q9) (H:Hp) (ex:Oh) x,x∈xs->p x=true->EV (bq X scope cl C (own++fr) s H ex) elt (bf x (dA own ix Γ1)) rb (f x) (bf x (dA own ix Γ1)))
 (h:N (Γ1.set i (.mu rb ((xs.filter p).map f))))
 (VH:Rl (.ListComp elt [⟨tg,iter,ifs,0⟩] scope pos) (some (.Name y py)) V7.line X.env=pure true:=by rfl)
 (hN:X.N.Nodup:=by first | assumption | decide) (Zg:X.N[i]?=some y:=by rfl) (hx:autoParam (Loc X.env.scope y) V1)
 (hc:X.calm=true:=by rfl) (hs:∀x,Rz iter X.env x=pure x:=by intro _;rfl) (hf:autoParam (X.fn y=true∨X.env.scope.names.lookup y=some .local) V0):
 W1 X (.Assign [.Name y py] (.ListComp elt [⟨tg,iter,ifs,0⟩] scope pos) V7) Γ N T:=λσ H0 R0 H R E D dn dr=>by
 obtain⟨wi,hi,hit⟩:=hit
 refine sS (pF (i:=i) (g:=λv σ H Q=>∀C s Hh ex,mF (bq X scope cl C (own++fr) s Hh ex) tg v σ H Q) (tc:=λσ H Q=>∀C s Hh ex,nU (bq X scope cl C (own++fr) s Hh ex) ifs σ H Q) (te:=λσ H Q=>∀C s Hh ex,eQ (bq X scope cl C (own++fr) s Hh ex) elt σ H Q) VH hN Zg hx hc S hi
  (λC s H ex=>⟨λUB s1 σ H v u Q I r h=>h C s _ ex UB s1 u I r,λUB s1 σ H Q I h=>h C s _ ex UB s1 I,λUB s1 σ H Q I h=>h C s _ ex UB s1 I⟩) hs hf) ?_
 refine hit σ H0 R0 H R E _ λJ H1 R1 E1 s1 hz src=>qV (Q:=λv H'=>D.nx (σ.set i (some v)) H') E1 src hz hb hw ht he λa vs H' R' xx ha pp=>?_
 have E2:=E1.grow xx
 exact dn _ _ R' _ ((E2.grow (Ext.dS E2.sub ha _)).uj (u:=.lst vs) (en:=.mu rb ((xs.filter p).map f)) i ⟨a,vs,rfl,aF,E2.sub.free ha,pp⟩ (E2.ext.h.free ha) λj e _ q w=>E2.off ha j e q w) (s1.trans xx.r) h
end
section
variable {X:Cx}{Γ Γ1 Γ2 Γ3:Ga}{α β γ δ:Type}{N:Ga->Prop}{T:RT}
variable {K:T2}{r:Rep α}{UB:Od}{σ:St}{H:Hp}{s:Q9}{es:Oj}{tp pos:Pos}{xs:List α}
theorem jt {h':Heap}{t':Nat}{fp:Oh}(I:Inv X UB σ H s)(k:∀b o,b∉fp->s.heap.get? b=some o->h'.get? b=some o)(hf:∀b∈fp,jE X UB H b):Inv X UB σ H {s with heap:=h',toks:=t'}:=by
 have YN:∀b u,H b=some u->b∉fp:=λb u e z=>by rw[(hf b z).1] at e;cases e
 refine I.step (g':=s.gens) (d':=s.drawn) (ch:=fp) (λb hb=>⟨(hf b hb).2.2.2.1,(hf b hb).2.1,(hf b hb).2.2.2.2.1,(hf b hb).2.2.2.2.2⟩) (λb o _ _ hc e _=>k b o hc e) (λb o _ _ hc e _=>⟨o.slots,k b o hc e⟩) (λ_ _ _ _ n=>n)
  (λb o hc e=>⟨o,k b o hc e⟩) (λ_ _ e=>e) (λ_ _ _ e=>e) (λb ps e=>⟨#[],by rw[e];simp⟩) (λm hm=>?_) (λb u e=>?_) I.bare
 ·obtain⟨o,es,ep,ho,r⟩:=hm
  exact⟨o,es,ep,k _ o (λz=>(hf _ z).2.1 rfl) ho,r⟩
 ·refine(I.UH b u e).Vd (λc v hc q=>k c v ?_ q) (λ_ q=>q) λ_ _ q=>q
  rcases hc with z | z
  ·rw[z];exact YN b u e
  ·exact YN c _ z
theorem adopt {a:Addr}{o:HO}(I:Inv X UB σ H s)(hf:jE X UB H a)(hy:X.s₀.heap.objs.size<=a)(new:cL X.prog X.w (upd H a o) s.heap a o):Inv X UB σ (upd H a o) s:=by
 have ne:∀{b:Addr} {u:HO},H b=some u->b≠a:=λe=>cU e hf.1
 have ne0:∀{b:Addr} {u:Obj},X.s₀.heap.get? b=some u->b≠a:=λe z=>Ur (QG (Tj e) hy) (by rw[z];exact QI _)
 refine⟨I.ok,I.os,I.bare,⟨I.base.keep,I.base.slot,λb u e n hx=>by rw[aJ (ne0 e)];exact I.base.free b u e n hx,I.base.there,λb xs e=>?_,λb u v e=>?_,λb ps e=>?_⟩,I.loc,I.cell,?_,λx c e=>?_,λp hp=>?_,λb u e=>?_,I.len⟩
 ·have q:=I.base.VO b xs e;rw[aJ (ne q)];exact q
 ·have q:=I.base.VI b u v e;rw[aJ (ne q)];exact q
 ·obtain⟨m,q⟩:=I.base.VP b ps e;exact⟨m,by rw[aJ (ne q)];exact q⟩
 ·rw[aJ (QW hf.2.1)];exact I.free
 ·rw[aJ (hf.2.2.2.2.1 x c e)];exact I.Vk x c e
 ·obtain⟨e,n,r⟩:=I.pin p hp
  exact⟨e,by rw[aJ (hf.2.2.2.2.2 p hp)];exact n,r⟩
 ·by_cases hb:b=a
  ·subst hb;rw[aF] at e;cases e;exact new
  ·rw[aJ hb] at e
   exact(I.UH b u e).Vd (λc v _ q=>q) (λc q=>by rw[aJ (ne q)];exact q) λc xs q=>by rw[aJ (ne q)];exact q
def ML (K:T2)(a:Addr):It:=
 ⟨λi H=>∃xs x,aZ K H a xs/\xs[i]?=some x,λi H v H'=>∃p x,H p=none/\v= .ref p/\H'=upd H p (.tup [.int i,x])/\∀xs,aZ K H a xs->xs[i]?=some x,λi H=>∃xs,aZ K H a xs/\xs.length<=i⟩
theorem yq {P:Rh}{w:World}{k:Nat}(a e it:Addr)(hei:e≠it):Turn P w K (.Tuple es k tp) (ML K a) [e,it] e (λi h=>(∃old,IsEnum h e it i old)/\h.IsListIter it a i) where
 mem:=by simp
 obj:=λi h st b hb=>by
  obtain⟨⟨old,he⟩,o,ho,hc,hd⟩:=st
  rcases OT.mp hb with rfl | hb
  ·exact⟨_,he,λv z=>by cases z⟩
  ·have e2:b=it:=by simpa using hb
   subst e2
   exact⟨o,ho,λv z=>by rw[hd] at z;cases z⟩
 keep:=λi h h' st kk=>⟨st.1.elim λold he=>⟨old,kk e (by simp) _ he⟩,st.2.at λo x=>kk it (by simp) o x⟩
 item:=by
  intro X hP hw hK hc i UB s σ H E I hf st hg
  subst hP hw hK
  obtain⟨⟨old,he⟩,hit⟩:=st
  obtain⟨xs,x,hq,hx⟩:=hg
  obtain⟨UD,r,pl,hz⟩:=I.list hq
  obtain⟨u,hu,rx⟩:=r.get hx
  have hn:H s.heap.objs.size=none:=I.UH.fresh (QC _)
  refine wpAny_pyNext_enum_item he hit pl.isList (x:=u) (by simpa using hu) hei λh' ho hit' hT hsz hk=>?_
  refine⟨_,rfl,?_⟩
  refine wpAny_letOwnedTupleGo_enum (s:={s with heap:=h',toks:=s.toks+1}) ho λh2 he2 Vf=>?_
  have Yw:∀b o,b∉[e,it]->s.heap.get? b=some o->h2.get? b=some o:=λb o hb q=>by
   have W8:b≠e:=λz=>hb (by simp[z])
   exact Vf.extBut b o W8 (hk b o W8 (λz=>hb (by simp[z])) q)
  have I1:Inv X UB σ H {s with heap:=h2,toks:=s.toks+1}:=jt I Yw hf
  have hel:e≠s.heap.objs.size:=QH (Tj he)
  have Zt:h2.get? s.heap.objs.size=some {cls:=.type "tuple",data:=.seq #[.int i s.toks,u]}:=(Vf.2 _ (QW hel)).trans hT
  have I2:Inv X UB σ (upd H s.heap.objs.size (.tup [.int i,x])) {s with heap:=h2,toks:=s.toks+1}:=
   adopt I1 (I.gO (QC _) hn) (I.sz) ⟨by show 2<=Ra;decide,[.int i s.toks,u],.cons ⟨_,rfl⟩ (.cons rx .nil),⟨_,Zt,rfl,_,rfl⟩⟩
  refine⟨.ref s.heap.objs.size,_,I2,rfl,⟨s.heap.objs.size,x,hn,rfl,rfl,λys hy=>?_⟩,⟨⟨u,by simpa using he2⟩,hit'.at λo y=>(Vf.2 it (QW hei)).trans y⟩,λb hb=>?_⟩
  ·rw[I.ig hy hq];exact hx
  ·have Vx:b<s.heap.objs.size:=by
    rcases OT.mp hb with rfl | hb
    ·exact Tj he
    ·have e2:b=it:=by simpa using hb
     subst e2
     obtain⟨o,ho,_⟩:=hit
     exact Tj ho
   rw[aJ (QH Vx)]
   exact(hf b hb).1
 done:=by
  intro X hP hw hK hc i UB s σ H E I hf st hg
  subst hP hw hK
  obtain⟨⟨old,he⟩,hit⟩:=st
  obtain⟨xs,hq,hx⟩:=hg
  obtain⟨UD,r,pl,hz⟩:=I.list hq
  refine wpAny_pyNext_enum_end (I.ok.hd hc) he hit pl.isList (by have:=r.length;simp;omega) λh' hk=>⟨rfl,?_⟩
  exact jt (t':=s.toks) I (λb o hb q=>hk b o (λz=>hb (by simp[z])) q) hf
 self:=λ_ _ _ _ _ st h=>st.1.elim λold he=>wpAny_pyIter_enum he h
def Ks (K:T2)(ta:TA):TI:=λσ H R=>ta σ H λvs H1=>∃a xs,vs=[.ref a]/\aZ K H1 a xs/\R (ML K a) H1
theorem Et {a:Expr}{ta:TA}{p:Pos}{k:Nat}(hg:Gl X "enumerate")(hm:X.mg "enumerate"=none)(ha:PA X [a] ta)(hs:Rc [a] X.env=[(false,eval a X.env)]:=by rfl):PI X (.Tuple es k tp) (.Call (.Name "enumerate" p) [a] [] pos) (Ks X.K ta):=by
 intro UB s σ H R I h
 refine Call_ (f9 I hg hm boot_enumerate (Q2 (aX (ha pos UB s σ H _ I h) λus s1 ⟨vs,H1,I1,r1,q1⟩=>?_) hs rfl))
 obtain⟨l,xs,e,hq,q⟩:=q1
 subst e
 cases r1 with
 | cons r rr=>
   cases rr
   cases r
   obtain⟨UD,r',pl,hz⟩:=I1.list hq
   refine call_enumerate_list pl.isList λh' he hit hsz hk=>?_
   refine wpAny_pyIter_enum he ?_
   have I2:Inv X UB σ H1 {s1 with heap:=h'}:=I1.kept (t':=s1.toks) hk
   have f0:H1 s1.heap.objs.size=none:=I1.UH.fresh (QC _)
   have f1:H1 (s1.heap.objs.size+1)=none:=I1.UH.fresh (QL _)
   refine⟨s1.heap.objs.size+1,[s1.heap.objs.size+1,s1.heap.objs.size],_,_,H1,rfl,I2,yq l (s1.heap.objs.size+1) s1.heap.objs.size (QP (QM _)),⟨⟨.none,he⟩,hit⟩,λb hb=>?_,q⟩
   rcases OT.mp hb with rfl | hb
   ·exact I1.gO (QL _) f1
   ·have e2:b=s1.heap.objs.size:=by simpa using hb
    subst e2
    exact I1.gO (QC _) f0
def nums (xs:List α):List (Int×α):=(xs.zipIdx).map λp=>((p.2:Int),p.1)
theorem c5 (xs:List α):(nums xs).length=xs.length:=by unfold nums;rw[OH,List.length_zipIdx]
theorem eJ {i:Nat}{y:Int×α}(h:(nums xs)[i]?=some y):y.1=(i:Int)/\xs[i]?=some y.2:=by
 unfold nums at h
 rw[OJ,List.getElem?_zipIdx] at h
 cases e:xs[i]? with
 | none=>rw[e] at h;cases h
 | some x=>rw[e] at h;cases h;exact⟨by simp,rfl⟩
theorem gJ {a:Expr}{p:Pos}{k:Nat}(hm:X.mg "enumerate"=none)(ha:EV X a Γ (ae r) xs Γ1)(hs:Rc [a] X.env=[(false,eval a X.env)]:=by rfl)(hg:Gl X "enumerate":=by rfl):
 IV X (.Tuple es k tp) (.Call (.Name "enumerate" p) [a] [] pos) Γ (cD ah r) (nums xs) Γ1:=by
 refine⟨_,Et hg hm (a7 aP bJ hs) hs,λσ H0 R0 H R E Rq q=>ha σ H0 R0 H R E _ λv H1 R1 E1 s1 e1=>?_⟩
 obtain⟨a,vs,rfl,hp,pp,z⟩:=e1
 refine⟨a,vs,rfl,aZ.of (E1.sub _ _ hp),q _ H1 R1 E1 s1 (by rw[c5];exact z) λH' R' sR sH i=>⟨λy hy=>?_,λhi=>?_⟩⟩
 ·have hq:aZ X.K H' a vs:=aZ.of (sH _ _ (sR _ _ hp))
  obtain⟨e1,e2⟩:=eJ hy
  obtain⟨v,hv,hr⟩:=dh pp e2
  refine⟨⟨vs,v,hq,hv⟩,λv' H2 X1=>?_⟩
  obtain⟨p,x,XG,rfl,rfl,hy⟩:=X1
  have:=hy vs hq
  rw[hv] at this
  cases this
  have s2:au R' (upd R' p (.tup [.int i,v])):=au.fresh (sH.free XG) _
  exact⟨upd R' p (.tup [.int i,v]),Ext.fresh sH XG _,p,_,_,rfl,aF,by rw[e1];rfl,r.mono s2 (r.mono sR hr)⟩
 ·exact⟨vs,aZ.of (sH _ _ (sR _ _ hp)),by rw[pp.length,← c5 xs];exact hi⟩
theorem vg:eR X (.builtin "isinstance") (λxs H Q=>∃x c t b,xs=[x,.ty c]/\ft X.K H x t/\Um X.K t (.type c)=some b/\Q (.bl b) H):=by
 intro UB s σ H xs us Q I r h
 obtain⟨x,c,t,b,rfl,ty,e,q⟩:=h
 obtain⟨u,u2,rfl,r1,r2⟩:=vals2 r
 cases (show u2=T1 c from r2)
 exact yn I r1 ty e λtk=>⟨.bl b,H,I.tok tk,rfl,q⟩
theorem eO {e:Expr}{y:Str}{p p2:Pos}{x:α}{c:String}{t:Value}{b:Bool}(hm:X.mg "isinstance"=none)(hmy:X.mg y=none)(hvy:RK y=some (.type c))(he:EV X e Γ r x Γ1)
 (ty:∀(R H:Hp) v,au R H->r.R X.K R v x->ft X.K H v t) (ht:∀K:T2,Um K t (.type c)=some b:=by intro;rfl)
 (hs:Rc [e,.Name y p2] X.env=(false,eval e X.env)::Rc [.Name y p2] X.env:=by rfl) (hg:Gl X "isinstance":=by rfl) (hgy:Gl X y:=by rfl) (hny:y≠"__name__":=by decide) (hdy:UX y:=by decide):EV X (.Call (.Name "isinstance" p) [e,.Name y p2] [] pos) Γ bF b Γ1:=by
 intro σ H0 R0 H R E Q q
 refine eS (dX vg hg hm PyProof.Rows.boot_isinstance (a7 aP (a7 (ER (v:=.ty c) hgy hmy hvy rfl hny hdy) bJ rfl) hs) (by decide) (by decide) hs rfl) (he σ H0 R0 H R E _ λv H1 R1 E1 s1 e1=>?_)
 exact⟨v,c,t,b,rfl,ty R1 H1 v E1.sub e1,ht _,q _ H1 R1 E1 s1 rfl⟩
theorem ty_int {x:Int}(R H:Hp)(v:V)(_:au R H)(h:ah.R K R v x):ft K H v (.type "int"):=by cases h;exact .int _
theorem ty_list (R H:Hp)(v:V)(s:au R H)(h:(ae r).R K R v xs):ft K H v (.type "list"):=by obtain⟨a,vs,rfl,e,_⟩:=h;exact .lst (s _ _ e)
theorem DW {r':Rep β}{x:α×β}(R H:Hp)(v:V)(s:au R H)(h:(cD r r').R K R v x):ft K H v (.type "tuple"):=by obtain⟨a,_,_,rfl,e,_⟩:=h;exact .tup (s _ _ e)
theorem Jn {x:Row}(R H:Hp)(v:V)(s:au R H)(h:cx.R K R v x):ft K H v (.type "tuple"):=by obtain⟨a,rfl,e⟩:=h;exact .tup (s _ _ e)
structure lG (r:Rep α) [DecidableEq α] (n:Nat):Prop where
 inj:∀{K:T2} {R:Hp} {v:V} {x y:α},r.R K R v x->r.R K R v y->x=y
 eq:∀{X:Cx} {UB:Od} {σ:St} {H:Hp} {s:Q9} {R:Hp} {A:Ri} (I:Inv X UB σ H s) (sub:au R H) {v u:V} {vv uu:Value} {x y:α},RelV v vv->RelV u uu->r.R X.K R v x->r.R X.K R u y->A.units+n<cLine->Tw A s vv uu (decide (x=y))
theorem eq_int:lG ah 0:=by
 refine⟨by rintro K R v x y h1 h2;cases h1;cases h2;rfl,?_⟩
 intro X UB σ H s R A I sub v u vv uu x y rv ru h1 h2 hu
 cases h1
 cases h2
 obtain⟨t,rfl⟩:=rv
 obtain⟨t',rfl⟩:=ru
 intro prog w E Q hq
 refine Sv ?_
 rw[Ou];exact hq
theorem in1_units (A:Ri):A.in1.units=A.units+1:=rfl
theorem oo {X:Cx}{R:Hp}{A:Ri}(I:Inv X UB σ H s)(sub:au R H){a b:Addr}{vs ws:List V}{k:Nat->Bool}(ha:R a=some (.tup vs))(hb:R b=some (.tup ws))(hl:vs.length=ws.length)(hu:A.units<cLine)
 (he:∀(us VE:Oi),Vals vs us->Vals ws VE->∀(j:Nat) (h1:j<us.toArray.size) (h2:j<VE.toArray.size),Tw A.in1 s us.toArray[j] VE.toArray[j] (k j)):
 Tz A s (.ref a) (.ref b) ((O5 vs.length).all k)/\Tx A s (.ref a) (.ref b) (!(O5 vs.length).all k):=by
 obtain⟨us,hv,pl,_⟩:=I.tuple (dc.of (sub _ _ ha))
 obtain⟨VE,hw,Vs,_⟩:=I.tuple (dc.of (sub _ _ hb))
 have lx:us.toArray.size=vs.length:=by rw[ON,← hv.length]
 have ly:VE.toArray.size=vs.length:=by rw[ON,← hw.length,hl]
 have r1:=Tz.tuples (A:=A) pl Vs hu (he us VE hv hw)
 have r2:=Tx.tuples (A:=A) pl Vs hu (he us VE hv hw)
 rw[lx,ly,Nat.min_self] at r1 r2
 simp only[beq_self_eq_true,Bool.and_true] at r1 r2
 exact⟨r1,r2⟩
theorem Lj {r':Rep β} [DecidableEq α] [DecidableEq β]{n m:Nat}(e:lG r n)(e':lG r' m)(hu:X.A.units+(n+1)<cLine)(WK:X.A.units+(m+1)<cLine){x y:α×β}:fz X .NotEq (cD r r') (cD r r') x y (!decide (x=y)):=
 ⟨λv u H Q=>∃R,au R H/\(cD r r').R X.K R v x/\(cD r r').R X.K R u y/\Q (.bl (!decide (x=y))) H,λUB s σ H v1 u1 v u Q I rx ry ⟨R,sub,h1,h2,q⟩=>by
  obtain⟨a,v1,v2,rfl,ha,p1,p2⟩:=h1
  obtain⟨b,w1,w2,rfl,hb,q1,q2⟩:=h2
  cases rx
  cases ry
  have key:=(oo (A:=X.A) (k:=λj=>if j=0 then decide (x.1=y.1) else decide (x.2=y.2)) I sub ha hb rfl (by omega) λus VE hv hw j h1 h2=>by
   cases hv with
   | cons a1 t=>cases t with
     | cons a2 t=>cases t;cases hw with
       | cons b1 t=>cases t with
         | cons b2 t=>
           cases t
           match j,h1 with
           | 0,_=>exact e.eq (A:=X.A.in1) I sub a1 b1 p1 q1 (by rw[in1_units];omega)
           | 1,_=>exact e'.eq (A:=X.A.in1) I sub a2 b2 p2 q2 (by rw[in1_units];omega)
           | j+2,h=>exact Ur h (by simp)).2
  have d:(O5 [v1,v2].length).all (λj=>if j=0 then decide (x.1=y.1) else decide (x.2=y.2))=decide (x=y):=by
   obtain⟨x1,x2⟩:=x
   obtain⟨y1,y2⟩:=y
   simp[Qx,Ot]
  rw[d] at key
  exact key _ _ _ _ ⟨.bl _,H,I,rfl,q⟩,λR H v u Q s h1 h2 q=>⟨R,s,h1,h2,q⟩⟩
theorem qr:eR X (.type "range") (λxs H Q=>∃n:Int,xs=[.int n]/\∀p,H p=none->Q (.ref p) (upd H p (.W4 0 n))):=by
 intro UB s σ H xs us Q I r h
 obtain⟨n,rfl,q⟩:=h
 obtain⟨u,rfl,t,rfl⟩:=vals1 r
 refine call_range_1 ?_
 exact⟨.ref s.heap.objs.size,_,I.laid (o:=.W4 0 n) (λb o e=>Ti _ e) (QC _) ⟨_,_,_,Tn _ rfl⟩,rfl,q _ (I.UH.fresh (QC _))⟩
theorem pR:eR X (.type "range") (λxs H Q=>∃m n:Int,xs=[.int m,.int n]/\∀p,H p=none->Q (.ref p) (upd H p (.W4 m n))):=by
 intro UB s σ H xs us Q I r h
 obtain⟨m,n,rfl,q⟩:=h
 obtain⟨u,u2,rfl,⟨t,rfl⟩,⟨t2,rfl⟩⟩:=vals2 r
 refine call_range_2 ?_
 exact⟨.ref s.heap.objs.size,_,I.laid (o:=.W4 m n) (λb o e=>Ti _ e) (QC _) ⟨_,_,_,Tn _ rfl⟩,rfl,q _ (I.UH.fresh (QC _))⟩
theorem mD (hc:X.calm=true):eR X (.type "list") (λxs H Q=>∃(p:Addr) (m n:Int),xs=[.ref p]/\H p=some (.W4 m n)/\ -1000000<=m/\m<=1000000/\ -1000000<=n/\n<=1000000/\∀d,H d=none->Q (.ref d) (upd H d (.lst ((ups m (n-m).toNat).map V.int)))):=by
 intro UB s σ H xs us Q I r h
 obtain⟨p,m,n,rfl,hp,m1,m2,n1,n2,q⟩:=h
 obtain⟨u,rfl,rx⟩:=vals1 r
 cases rx
 obtain⟨t,t2,t3,ho⟩:=I.UH p _ hp
 have hsz:SW m n 1=(((n-m).toNat:Nat):Int):=by rw[rangeSize_one];split<;>omega
 refine call_list_range (I.ok.hd hc) ho (small_one (by omega) (by omega) (by omega) (by omega)) hsz (by omega) λh' tk acc c' hk hS Zs=>?_
 have vals:Vals ((ups m (n-m).toNat).map V.int) acc.toList:=by
  have key:∀(k:Nat) (UD:Oi) (lo:Int),UD.length=k->(∀(j:Nat) v,UD[j]?=some v->∃t,v= .int (lo+(j:Int)*1) t)->Vals ((ups lo k).map V.int) UD:=by
   intro k
   induction k with
   | zero=>intro UD lo hl _;cases UD with
     | nil=>exact .nil
     | cons _ _=>cases hl
   | succ k ih=>
     intro UD lo hl hv
     cases UD with
     | nil=>cases hl
     | cons v r=>
       have e:ups lo (k+1)=lo::ups (lo+1) k:=by
        unfold ups
        rw[List.range_succ_eq_map,Pc,PR]
        congr 1
        ·simp
        ·apply Qh;intro a _;simp;omega
       rw[e,Pc]
       obtain⟨t,e0⟩:=hv 0 v rfl
       refine .cons ⟨t,by rw[e0];simp⟩ (ih r (lo+1) (by simpa using hl) λj v hj=>?_)
       obtain⟨t,ej⟩:=hv (j+1) v (by simpa using hj)
       exact⟨t,by rw[ej];congr 1;push_cast;omega⟩
  refine key _ _ m (by rw[Om];exact Zs.1) λj v hj=>Zs.2 j v (by simpa using hj)
 exact⟨.ref _,_,I.laid (a:=s.heap.objs.size) (o:=.lst ((ups m (n-m).toNat).map V.int)) hk (QC _) ⟨by rw[OH,a9];exact QD (show(n-m).toNat<=2000000 by omega) (by decide),acc.toList,c',vals,by rw[hS]⟩,rfl,q _ (I.UH.fresh (QC _))⟩
end
def p7 (scope:Scope)(env:Env):List (Str×Addr):=(scope.names.filterMap λp=>if p.2== .free then(env.cells.lookup p.1).map (λc=>(p.1,c)) else none).reverse
theorem oY {env:Env}:∀(names:List (Str×RX)) (acc:List (Str×Addr)),(∀y∈names,y.2= .free->∃c,env.cells.lookup y.1=some c)->
 (forIn names acc λ(x:Str×RX) (r:List (Str×Addr))=>if(x.2==RX.free)=true then do let a ← cellOf env x.1;pure (Ox ((x.1,a)::r)) else pure (Ox r):Sem (List (Str×Addr)))
  =pure ((names.filterMap λp=>if p.2== .free then(env.cells.lookup p.1).map (λc=>(p.1,c)) else none).reverse++acc)
 | [],acc,_=>rfl
 | (n,k)::r,acc,h=>by
   have ih:=oY (env:=env) r
   rw[Qw,Qg]
   cases hk:(k==RX.free) with
   | false=>
     simp only[hk,Bool.false_eq_true,if_false]
     rw[pure_bind]
     exact ih acc λy hy=>h y (OL _ hy)
   | true=>
     obtain⟨c,hc⟩:=h (n,k) OM (eq_of_beq hk)
     have VW:cellOf env n=pure c:=by unfold cellOf;rw[hc]
     simp only[hk,if_true,hc,QZ,VW]
     rw[pure_bind,pure_bind]
     show forIn r ((n,c)::acc) _=_
     rw[ih ((n,c)::acc) λy hy=>h y (OL _ hy)]
     simp
theorem xw {X:Cx}{scope:Scope}{own fr:Of}{ix:List Nat}(hk:scope.kind= .function)(hn:∀y∈scope.names,y.2≠ .cell)(hl:∀y∈scope.names,y.2= .local->scope.names.lookup y.1=some .local)
 (hc:∀x,X.env.scope.names.lookup x=some .cell->∃c,X.env.cells.lookup x=some c) (hf:∀y∈scope.names,y.2= .free->X.env.scope.names.lookup y.1=some .cell)
 (Zh:∀x∈fr,scope.names.lookup x=some .free) (hlen:fr.length=ix.length) (Vn:∀(k i:Nat) (x:Str),ix[k]?=some i->fr[k]?=some x->X.N[i]?=some x):eN X scope (p7 scope X.env) own fr ix:=by
 have free:∀y∈scope.names,y.2= .free->∃c,X.env.cells.lookup y.1=some c:=λy hy e=>hc _ (hf y hy e)
 refine⟨?_,λx c e=>?_,hk,hn,hl,λx e=>?_,Zh,hlen,λk i x e1 e2=>⟨Vn k i x e1 e2,hf (x,.free) (Rr (Zh x (OK e2))) rfl⟩⟩
 ·have:=oY (env:=X.env) scope.names [] free
  rw[Pf] at this
  have e:closureFor scope X.env=((forIn scope.names [] λ(x:Str×RX) (r:List (Str×Addr))=>if(x.2==RX.free)=true then do let a ← cellOf X.env x.1;pure (Ox ((x.1,a)::r)) else pure (Ox r):Sem (List (Str×Addr))) >>=λcs=>pure cs):=rfl
  rw[e,this,pure_bind]
  rfl
 ·have m:=Rr e
  unfold p7 at m
  obtain⟨p,_,hp⟩:=Qm.mp (List.mem_reverse.mp m)
  split at hp
  ·cases q:X.env.cells.lookup p.1 with
   | none=>rw[q] at hp;cases hp
   | some c'=>rw[q] at hp;cases hp;exact q
  ·cases hp
 ·have m:=Rr e
  obtain⟨c,XN⟩:=free _ m rfl
  have m2:(x,c)∈p7 scope X.env:=by
   unfold p7
   refine List.mem_reverse.mpr (Qm.mpr ⟨(x,.free),m,?_⟩)
   simp[XN]
  cases q:(p7 scope X.env).lookup x with
  | some c'=>exact⟨c',rfl⟩
  | none=>
    rw[List.lookup_eq_none_iff] at q
    exact Ur (q _ m2) (by simp)
def zD (scope so:Scope)(N0 fr:Of)(ix:List Nat):Bool:=
 decide (scope.kind= .function)&&scope.names.all (λy=>decide (y.2≠ .cell)&&(decide (y.2≠ .local) ||decide (scope.names.lookup y.1=some .local))&&(decide (y.2≠ .free) ||decide (so.names.lookup y.1=some .cell)))
  &&fr.all (λx=>decide (scope.names.lookup x=some .free))&&decide (fr.length=ix.length)&&(O5 ix.length).all λk=>match ix[k]?,fr[k]? with | some i,some x=>decide (N0[i]?=some x) | _,_=>true
theorem bt {X:Cx}{scope so:Scope}{N0 own fr:Of}{ix:List Nat}(hso:X.env.scope=so)(hN0:X.N=N0)(hc:∀x,X.env.scope.names.lookup x=some .cell->∃c,X.env.cells.lookup x=some c)(h:zD scope so N0 fr ix=true):eN X scope (p7 scope X.env) own fr ix:=by
 unfold zD at h
 simp only[Oq,Ov,decide_eq_true_eq,Pq] at h
 obtain⟨⟨⟨⟨h1,h2⟩,h3⟩,h4⟩,h5⟩:=h
 refine xw h1 (λy hy=>(h2 y hy).1.1) (λy hy e=>(h2 y hy).1.2.resolve_left λz=>z e) hc (λy hy e=>by rw[hso];exact(h2 y hy).2.resolve_left λz=>z e) h3 h4 λk i x e1 e2=>?_
 have hk:k<ix.length:=(OD.mp e1).1
 have:=h5 k (Pm.mpr hk)
 rw[e1,e2] at this
 rw[hN0]
 simpa using this
section
variable {X:Cx}{Γ Γ1 Γ2 Γ3:Ga}{α β γ δ:Type}{N:Ga->Prop}{T:RT}
variable {r:Rep α}
theorem mT (i:Nat){S:bQ}{x y:Str}{k:Nat}{e:Expr}{es:Oj}{p p1 p2 pos:Pos}{ps:List Pk}{Pd:α->Prop}(C:aA X.prog X.w X.K X.mg X.base x k (aE S X.K))(hr:bI k X.A)(ha:HA X (e::es) Γ ps Γ1)(hS:S X.K ps (bL X.K r Pd))(h:∀z,Pd z->N (Γ1.set i (.im r z)))
 (hg:Gl X x:=by rfl) (Vo:UX x:=by decide) (he:Rc (e::es) X.env=(false,eval e X.env)::Rc es X.env:=by rfl) (U0:(Rk p2 (Rc es X.env)).any (·.1)=false:=by rfl)
 (hN:X.N.Nodup:=by first | assumption | decide) (hi:X.N[i]?=some y:=by rfl) (hx:autoParam (Loc X.env.scope y) V1)
 (hs:Rl (.Call (.Name x p) (e::es) [] p2) (some (.Name y p1)) pos.line X.env=pure false:=by rfl) (hf:autoParam (X.fn y=true∨X.env.scope.names.lookup y=some .local) V0):
 W1 X (.Assign [.Name y p1] (.Call (.Name x p) (e::es) [] p2) pos) Γ N T:=λσ H0 R0 H R E D dn dr=>
 sS (jK hN hi hx aP hs hf) (kX C hr ha hS E (λH1 R1 v H' R' E1 s1 xx t=>by
  obtain⟨z,e1,hz⟩:=t
  exact dn _ H' R' _ ((E1.grow xx).set i e1) (s1.trans xx.r) (h z hz)) hg Vo he U0)
theorem Fq {tg iter:Expr}{w:Row}(h:EV X iter Γ cx w Γ1):IV X tg iter Γ ah [w.1,w.2.1,w.2.2.1,w.2.2.2] Γ1:=by
 refine⟨_,zk aP,λσ H0 R0 H R E Rq q=>h σ H0 R0 H R E _ λv H1 R1 E1 s1 e1=>?_⟩
 obtain⟨a,rfl,ha⟩:=e1
 have WX:∀H' R':Hp,au R1 R'->au R' H'->dc X.K H' a [.int w.1,.int w.2.1,.int w.2.2.1,.int w.2.2.2]:=λH' R' sR sH=>dc.of (sH _ _ (sR _ _ ha))
 refine⟨a,rfl,⟨_,WX H1 R1 (au.refl _) E1.sub⟩,q _ H1 R1 E1 s1 (by show 4<=Ra;decide) λH' R' sR sH i=>⟨λx hx=>?_,λhi=>⟨_,WX H' R' sR sH,hi⟩⟩⟩
 have e2:([.int w.1,.int w.2.1,.int w.2.2.1,.int w.2.2.2]:List V)[i]?=some (.int x):=by
  have:=congrArg (Option.map V.int) hx
  rw[← OJ] at this
  exact this
 refine⟨⟨_,_,WX H' R' sR sH,e2⟩,λv H2 hy=>?_⟩
 obtain⟨rfl,hy⟩:=hy
 have:=hy _ (WX _ R' sR sH)
 rw[e2] at this
 cases this
 exact⟨R',Ext.refl sH,rfl⟩
theorem vD {a:Expr}{p pos:Pos}{x:α}{n:Nat}(hm:X.mg "len"=none)(ha:EV X a Γ r x Γ1)(ht:∀(R:Hp) v,r.R X.K R v x->∃q vs,v= .ref q/\R q=some (.tup vs)/\vs.length=n)(hs:Rc [a] X.env=[(false,eval a X.env)]:=by rfl)(hg:Gl X "len":=by rfl):EV X (.Call (.Name "len" p) [a] [] pos) Γ ah (n:Int) Γ1:=by
 intro σ H0 R0 H R E Q q
 refine eS (dX fF hg hm RH (a7 aP bJ hs) (by decide) (by decide) hs) (ha σ H0 R0 H R E _ λv H1 R1 E1 s1 e1=>?_)
 obtain⟨p,vs,rfl,hp,hl⟩:=ht R1 v e1
 refine⟨p,vs,rfl,.inr (dc.of (E1.sub _ _ hp)),?_⟩
 rw[hl]
 exact q _ H1 R1 E1 s1 rfl
theorem D6 {K:T2}{r':Rep β}{x:α×β}(R:Hp)(v:V)(h:(cD r r').R K R v x):∃q vs,v= .ref q/\R q=some (.tup vs)/\vs.length=2:=by
 obtain⟨a,v1,v2,rfl,ha,_⟩:=h
 exact⟨a,_,rfl,ha,rfl⟩
theorem IE {K:T2}{x:Row}(R:Hp)(v:V)(h:cx.R K R v x):∃q vs,v= .ref q/\R q=some (.tup vs)/\vs.length=4:=by
 obtain⟨a,rfl,ha⟩:=h
 exact⟨a,_,rfl,ha,rfl⟩
end
inductive Reach (es:Ol) (s:Int):Int->Prop
 | base:Reach es s s
 | step {a b:Int}:Reach es s a->(a,b)∈es->Reach es s b
theorem Reach.sub {es:Ol}{s:Int}{P:Int->Prop}(h0:P s)(hc:∀a b,P a->(a,b)∈es->P b):∀{k:Int},Reach es s k->P k
 | _,.base=>h0
 | _,.step r m=>hc _ _ (Reach.sub h0 hc r) m
section
variable {X:Cx}{Γ Γ1 Γ2 Γ3:Ga}{α β γ δ:Type}{N:Ga->Prop}{T:RT}
theorem Fm:dP X (RQ .Mult) (rI SO λi j=>.int (i*j)):=vL λ_ _ _ _ _ _ _ hc q=>mul_int q hc
theorem kO {a b:Expr}{pos:Pos}{x y:Int}(ha:EV X a Γ ah x Γ1)(hb:EV X b Γ1 ah y Γ2)(h:SO x y):EV X (.BinOp a .Mult b pos) Γ ah (x*y) Γ2:=jg Fm ha hb λR v u H Q e1 e2 q=>⟨x,y,e1,e2,h,q _ rfl⟩
def bM (a:Addr)(r:Rep α)(xs:List α):wq where
 fp:=[a]
 R:=λK H R v=>v= .ref a/\∃vs,H a=some (.lst vs)/\PySem.Paired (r.R K R) vs xs
 loc:=λhH hR ⟨e,vs,h,p⟩=>⟨e,vs,(hH a (OF.mpr rfl)).trans h,Paired.map (λ_ _=>r.mono hR) p⟩
 has:=λ⟨e,vs,h,p⟩ b hb=>by rw[OF.mp hb,h];exact QY _
theorem mU {K:T2}{H R:Hp}{a:Addr}{r:Rep α}{xs:List α}{vs:List V}(h:H a=some (.lst vs))(hR:R a=none)(p:PySem.Paired (r.R K R) vs xs):(Ent.ob (bM a r xs)).ok K H R (some (.ref a)):=
 ⟨⟨_,rfl,rfl,vs,h,p⟩,λb hb=>by rw[OF.mp hb];exact hR⟩
theorem fN {K:T2}{H R:Hp}{a:Addr}{r:Rep α}{xs:List α}{o:Option V}(h:(Ent.ob (bM a r xs)).ok K H R o):o=some (.ref a)/\(∃vs,H a=some (.lst vs)/\PySem.Paired (r.R K R) vs xs)/\R a=none:=by
 obtain⟨⟨v,rfl,rfl,q⟩,n⟩:=h
 exact⟨rfl,q,n a (OF.mpr rfl)⟩
theorem EV.box (i:Nat){e:Expr}{a:Addr}{r:Rep α}{xs xs':List α}{rr:Rep β}{y:β}(h:EV X e (Γ.set i (.mu r xs)) rr y Γ1)(hΓ:Γ[i]?=some (.ob (bM a r xs)))(hΓ1:Γ1[i]?=some (.mu r xs')):EV X e Γ rr y (Γ1.set i (.ob (bM a r xs'))):=by
 intro σ H0 R0 H R E Q q
 obtain⟨ea,⟨vs,ha,pp⟩,hR⟩:=fN (E.ent i _ hΓ)
 refine h σ H0 R0 H R (E.tell hΓ (by rw[ea];exact⟨a,vs,rfl,ha,hR,pp⟩) λb w=>by rw[cq.mp w] at ea;cases ea;exact OF.mpr rfl) Q λv H' R' E' s' hr=>q v H' R' ?_ s' hr
 obtain⟨a',U7,Vb,VA,Vg,Vq⟩:=E'.ent i _ hΓ1
 rw[ea] at Vb;cases Vb
 exact E'.tell hΓ1 (by rw[ea];exact mU VA Vg Vq) λb w=>by rw[show b=a from OF.mp w];exact cq.mpr ea
theorem TV.box (i:Nat){e:Expr}{a:Addr}{r:Rep α}{xs xs':List α}{y:Bool}(h:TV X e (Γ.set i (.mu r xs)) y Γ1)(hΓ:Γ[i]?=some (.ob (bM a r xs)))(hΓ1:Γ1[i]?=some (.mu r xs')):TV X e Γ y (Γ1.set i (.ob (bM a r xs'))):=by
 intro σ H0 R0 H R E Q q
 obtain⟨ea,⟨vs,ha,pp⟩,hR⟩:=fN (E.ent i _ hΓ)
 refine h σ H0 R0 H R (E.tell hΓ (by rw[ea];exact⟨a,vs,rfl,ha,hR,pp⟩) λb w=>by rw[cq.mp w] at ea;cases ea;exact OF.mpr rfl) Q λH' R' E' s'=>q H' R' ?_ s'
 obtain⟨a',U7,Vb,VA,Vg,Vq⟩:=E'.ent i _ hΓ1
 rw[ea] at Vb;cases Vb
 exact E'.tell hΓ1 (by rw[ea];exact mU VA Vg Vq) λb w=>by rw[show b=a from OF.mp w];exact cq.mpr ea
theorem fC (j:Nat){x:Str}{p1:Pos}{b:Expr}{pos:Pos}{a:Addr}{r:Rep α}{xs:List α}{i:Int}{y:α}(hb:EV X b Γ ah i Γ)(hΓ:Γ[j]?=some (.ob (bM a r xs)))(h:bU xs i=some y)(hN:X.N[j]?=some x:=by rfl)(hv:autoParam (cN X.env.scope x) Vc)
 (hs:eC b:=by exact λ_ _=>rfl) (hd:UX x:=by decide) (UI:Ve x:=by decide):EV X (.Subscript (.Name x p1) b pos) Γ r y Γ:=by
 intro σ H0 R0 H R E Q q
 obtain⟨ea,⟨vs,ha,pp⟩,hR⟩:=fN (E.ent j _ hΓ)
 refine eS (iJ iA (br hN hv hd UI) aP hs) ⟨.ref a,at_of ea,hb σ H0 R0 H R E _ λu H2 R2 E2 s2 e2=>?_⟩
 obtain⟨Vb,⟨U7,VA,Vq⟩,Vg⟩:=fN (E2.ent j _ hΓ)
 obtain⟨w,e3,e4⟩:=g8 Vq h
 exact⟨a,U7,i,w,rfl,e2,aZ.of VA,e3,q w H2 R2 E2 s2 e4⟩
theorem gA (i:Nat){x:Str}{b e:Expr}{p1 p2 pos:Pos}{a:Addr}{r:Rep α}{xs:List α}{y:α}{k:Int}{j:Nat}(he:EV X e Γ r y Γ1)(hb:EV X b Γ1 ah k Γ2)(hΓ1:Γ1[i]?=some (.ob (bM a r xs)))(hΓ2:Γ2[i]?=some (.ob (bM a r xs)))(hj:fb xs.length k=some j)(h:N (Γ2.set i (.ob (bM a r (xs.set j y)))))
 (hN:X.N[i]?=some x:=by rfl) (hv:autoParam (cN X.env.scope x) Vc)
 (hd:UX x:=by decide) (UI:Ve x:=by decide)
 (ha:∀v,RU (.Subscript (.Name x p1) b p2) X.env v=(do
  let ov ← RM [v] (eval (.Name x p1) X.env)
  let iv ← RM [v,ov] (eval b X.env)
  Sg p2
  RM [v,ov,iv] (setItem ov iv v)
  release [v,ov,iv] []):=by intro _;rfl)
 (hs:Sd [.Subscript (.Name x p1) b p2] e pos.line X.env=pure false:=by rfl) (hw:Se [.Subscript (.Name x p1) b p2] e X.env=pure none:=by rfl) (h1:(RP [.Subscript (.Name x p1) b p2] X.env).map (·.2)=[RU (.Subscript (.Name x p1) b p2) X.env]:=by rfl):
 W1 X (.Assign [.Subscript (.Name x p1) b p2] e pos) Γ N T:=λσ H0 R0 H R E D dn dr=>by
 refine sS (o9 aP (zi (br hN hv hd UI) aP set_list ha) hs hw h1) (he σ H0 R0 H R E _ λv H1 R1 E1 s1 e1=>?_)
 obtain⟨ea,⟨vs,hp,pp⟩,hR⟩:=fN (E1.ent i _ hΓ1)
 refine⟨.ref a,at_of ea,hb σ H0 R0 H1 R1 E1 _ λu H2 R2 E2 s2 e2=>?_⟩
 obtain⟨Vb,⟨U7,VA,Vq⟩,Vg⟩:=fN (E2.ent i _ hΓ2)
 refine⟨a,U7,k,j,rfl,e2,VA,by rw[Vq.length];exact hj,?_⟩
 exact dn σ _ R2 _ (E2.n6 (en:=.ob (bM a r (xs.set j y))) hΓ2 (OF.mpr rfl) (by rw[Vb];exact mU aF Vg (lO (r.mono s2 e1) j Vq)) λb w=>.inl w) (s1.trans s2) h
def del (H:Hp)(a:Addr):Hp:=λb=>if b=a then none else H b
theorem sW {H:Hp}{a:Addr}:del H a a=none:=Ut rfl
theorem me {H:Hp}{a b:Addr}(h:b≠a):del H a b=H b:=Us h
theorem Fl {H:Hp}{a:Addr}:au (del H a) H:=λb o q=>by
 by_cases h:b=a
 ·subst h;rw[sW] at q;cases q
 ·rwa [me h] at q
theorem aw.Cw {K:T2}{σ:St}{H0 R0 H R H' R':Hp}(E:aw K σ H0 R0 H R Γ){a:Addr}(off:Off a σ Γ)(h0:H0 a=none)(x:Ext (del H a) R H' R'):aw K σ H0 R0 H' R' Γ:=by
 have ne:∀{b:Addr},H0 b≠none->b≠a:=λh e=>h (e▸h0)
 refine⟨⟨λb o q=>?_,E.ext.r.trans x.r,x.s,λb hb=>?_⟩,λi e q=>?_,E.nw,E.ds,E.len⟩
 ·exact x.h b o (by rw[me (ne (by rw[q];exact QY _))];exact E.ext.h b o q)
 ·refine(x.old b ?_).trans (E.ext.old b hb)
  rw[me (ne hb)];exact au.some E.ext.h hb
 ·have h1:=E.ent i e q
  have na:∀b∈e.fp (σ[i]?).join,b≠a:=λb hb z=>off i e q (z▸hb)
  refine h1.loc (λb hb=>?_) x.r λb hb=>?_
  ·cases e2:H b with
   | none=>exact Ur e2 (Ent.gY h1 hb).1
   | some u=>exact x.h b u (by rw[me (na b hb)];exact e2)
  ·exact(x.old b (by rw[me (na b hb)];exact(Ent.gY h1 hb).1)).trans (Ent.gY h1 hb).2
theorem aw.oU {K:T2}{σ:St}{H0 R0 H R:Hp}(E:aw K σ H0 R0 H R Γ){i:Nat}{e0 en:Ent}(hi:Γ[i]?=some e0)(ho:en.ok K H R (σ[i]?).join)(Va:∀b∈en.fp (σ[i]?).join,H0 b=none/\∀(j:Nat) (e:Ent),j≠i->Γ[j]?=some e->b∉e.fp (σ[j]?).join):aw K σ H0 R0 H R (Γ.set i en):=by
 refine⟨E.ext,λj e q=>?_,λj e b q w=>?_,λj k e e' b q q' w w'=>?_,by rw[Pj];exact E.len⟩
 ·rcases set_at q with⟨rfl,rfl,_⟩ | ⟨hj,q1⟩
  ·exact ho
  ·exact E.ent j e q1
 ·rcases set_at q with⟨rfl,rfl,_⟩ | ⟨hj,q1⟩
  ·exact(Va b w).1
  ·exact E.nw j e b q1 w
 ·rcases set_at q with⟨rfl,rfl,_⟩ | ⟨hj,q1⟩
  ·rcases set_at q' with⟨rfl,rfl,_⟩ | ⟨hk,V2⟩
   ·rfl
   ·exact Ur w' ((Va b w).2 k e' hk V2)
  ·rcases set_at q' with⟨rfl,rfl,_⟩ | ⟨hk,V2⟩
   ·exact Ur w ((Va b w').2 j e hj q1)
   ·exact E.ds _ _ _ _ b q1 V2 w w'
abbrev jv (α:Type):=T2->List α->List Pk->(List α->RT)->Prop
def eB (r:Rep α)(S:jv α)(K:T2):Sp:=λvs H Q _=>∃R a ws xs U7 ps T,vs= .ref a::U7/\au R H/\R a=none/\H a=some (.lst ws)/\PySem.Paired (r.R K R) ws xs/\j7 K R U7 ps/\S K xs ps T/\
 ∀v H' R' We xs',Ext (del H a) R H' R'->H' a=some (.lst We)->R' a=none->PySem.Paired (r.R K R') We xs'->T xs' (del H a) v H' R'->Q v H'
theorem yU {r:Rep α}{S:jv α}{x y:Str}{k:Nat}{es:Oj}{p p1 pos:Pos}{ps:List Pk}{xs:List α}{TM:List α->RT}{Q:VK}{σ:St}{H0 R0 H R:Hp}(i:Nat)(C:aA X.prog X.w X.K X.mg X.base x k (eB r S X.K))(hr:bI k X.A)(ha:HA X es Γ ps Γ1)(hΓ:Γ[i]?=some (.mu r xs))(hΓ1:Γ1[i]?=some (.mu r xs))(hS:S X.K xs ps TM)(E:aw X.K σ H0 R0 H R Γ)
 (q:∀H1 v H' R' xs',aw X.K σ H0 R0 H' R' (Γ1.set i (.mu r xs'))->au R R'->TM xs' H1 v H' R'->Q v H')
 (hg:Gl X x) (Vo:(x==("__debug__":Str))=false) (he:Rc (.Name y p1::es) X.env=(false,eval (.Name y p1) X.env)::Rc es X.env) (U0:(Rk pos (Rc es X.env)).any (·.1)=false)
 (hN:X.N[i]?=some y) (hv:cN X.env.scope y) (hd:(y==("__debug__":Str))=false) (UI:(y==("__classdict__":Str))=false):eQ X (.Call (.Name x p) (.Name y p1::es) [] pos) σ H Q:=by
 obtain⟨f,fd,pn,F,hm,hk,hb⟩:=C.ex
 obtain⟨a,vs,ea,_,_,_⟩:=E.ent i _ hΓ
 refine eS (qt F hr hg hm hk hb .nil rZ (a7 (br hN hv hd UI) lT he) Vo he U0) ⟨.ref a,at_of ea,ha σ H0 R0 H R E _ λus H1 R1 E1 s1 p1=>?_⟩
 obtain⟨a',ws,Vb,hp,hR,pp⟩:=E1.ent i _ hΓ1
 rw[ea] at Vb;cases Vb
 have h0:H0 a=none:=E1.new i _ a hΓ1 rfl ea
 refine⟨R1,a,ws,xs,us,ps,TM,by rw[Pf],E1.sub,hR,hp,pp,p1,hS,λv H' R' We xs' xx h1 h2 pq t=>q _ v H' R' xs' ?_ (s1.trans xx.r) t⟩
 have apart:∀(j:Nat) (e:Ent),j≠i->Γ1[j]?=some e->a∉e.fp (σ[j]?).join:=λj e hj qj w=>hj (E1.ds j i e _ a qj hΓ1 w (cq.mpr ea))
 have E2:aw X.K σ H0 R0 H1 R1 (Γ1.set i .no):=E1.tell hΓ1 trivial λb w=>by cases w
 have E3:=E2.Cw (a:=a) (λj e qj w=>by
  rcases set_at qj with⟨rfl,rfl,_⟩ | ⟨hj,q1⟩
  ·cases w
  ·exact apart j e hj q1 w) h0 xx
 have hl:i<Γ1.length:=(OD.mp hΓ1).1
 have E4:=E3.oU (i:=i) (e0:=.no) (en:=.mu r xs') (OW hl) (by rw[ea];exact⟨a,We,rfl,h1,h2,pq⟩) λb w=>by
  have eb:b=a:=by rw[cq.mp w] at ea;cases ea;rfl
  subst eb
  exact⟨h0,λj e hj qj=>apart j e hj (by rwa [Pb (QW hj)] at qj)⟩
 rw[Qp] at E4
 exact E4
theorem gB (i:Nat){r:Rep α}{S:jv α}{x y:Str}{k:Nat}{es:Oj}{p p1 pos:Pos}{ps:List Pk}{xs st:List α}{rr:Rep β}{z:β}(C:aA X.prog X.w X.K X.mg X.base x k (eB r S X.K))(hr:bI k X.A)(ha:HA X es Γ ps Γ1)(hΓ:Γ[i]?=some (.mu r xs))(hΓ1:Γ1[i]?=some (.mu r xs))(hS:S X.K xs ps (λxs'=>bL X.K rr λw=>xs'=st/\w=z))
 (hg:Gl X x:=by rfl) (Vo:UX x:=by decide) (he:Rc (.Name y p1::es) X.env=(false,eval (.Name y p1) X.env)::Rc es X.env:=by rfl) (U0:(Rk pos (Rc es X.env)).any (·.1)=false:=by rfl)
 (hN:X.N[i]?=some y:=by rfl) (hv:autoParam (cN X.env.scope y) Vc) (hd:UX y:=by decide) (UI:Ve y:=by decide):
 EV X (.Call (.Name x p) (.Name y p1::es) [] pos) Γ rr z (Γ1.set i (.mu r st)):=λσ H0 R0 H R E Q q=>
 yU i C hr ha hΓ hΓ1 hS E (λH1 v H' R' xs' E' s' t=>by
  obtain⟨w,e1,rfl,rfl⟩:=t
  exact q v H' R' E' s' e1) hg Vo he U0 hN hv hd UI
theorem eL (i:Nat){r:Rep α}{S:jv α}{x y:Str}{k:Nat}{a:Addr}{es:Oj}{p p1 pos:Pos}{ps:List Pk}{xs st:List α}{rr:Rep β}{z:β}(C:aA X.prog X.w X.K X.mg X.base x k (eB r S X.K))(hr:bI k X.A)(ha:HA X es (Γ.set i (.mu r xs)) ps (Γ.set i (.mu r xs)))(hΓ:Γ[i]?=some (.ob (bM a r xs)))(hS:S X.K xs ps (λxs'=>bL X.K rr λw=>xs'=st/\w=z))
 (hg:Gl X x:=by rfl) (Vo:UX x:=by decide) (he:Rc (.Name y p1::es) X.env=(false,eval (.Name y p1) X.env)::Rc es X.env:=by rfl) (U0:(Rk pos (Rc es X.env)).any (·.1)=false:=by rfl)
 (hN:X.N[i]?=some y:=by rfl) (hv:autoParam (cN X.env.scope y) Vc) (hd:UX y:=by decide) (UI:Ve y:=by decide):
 EV X (.Call (.Name x p) (.Name y p1::es) [] pos) Γ rr z (Γ.set i (.ob (bM a r st))):=by
 have hl:i<Γ.length:=(OD.mp hΓ).1
 have h:=EV.box i (xs':=st) (gB (p:=p) i C hr ha (OW hl) (OW hl) hS hg Vo he U0 hN hv hd UI) hΓ (by rw[Qp];exact OW hl)
 rwa [Qp,Qp] at h
def t8 (K:T2)(a:Addr)(r:Rep α)(T:List α->RT):RT:=λH0 v H' R'=>∃We xs',H' a=some (.lst We)/\R' a=none/\PySem.Paired (r.R K R') We xs'/\T xs' H0 v H' R'
theorem iM (i:Nat){e:Expr}{pos:Pos}{a:Addr}{r:Rep α}{xs:List α}{rr:Rep β}{y:β}{P:List α->β->Prop}(he:EV X e Γ rr y Γ1)(hΓ1:Γ1[i]?=some (.ob (bM a r xs)))(h:P xs y):W1 X (.Return (some e) pos) Γ N (t8 X.K a r λxs'=>bL X.K rr (P xs')):=λσ H0 R0 H R E D dn dr=>
 sS (iW aP) (he σ H0 R0 H R E _ λv H1 R1 E1 s1 e1=>by
  obtain⟨ea,⟨vs,ha,pp⟩,hR⟩:=fN (E1.ent i _ hΓ1)
  exact dr v H1 R1 E1.ext ⟨vs,xs,ha,hR,pp,y,e1,h⟩)
theorem oq {K:T2}{R H:Hp}{a:Addr}{r:Rep α}{ws:List V}{xs:List α}{vs:List V}{ps:List Pk}{N:Of}(s:au R H)(hR:R a=none)(ha:H a=some (.lst ws))(pp:PySem.Paired (r.R K R) ws xs)(p:j7 K R vs ps)(hl:ps.length+1<=N.length):
 aw K (L2.start N (.ref a::vs)) (del H a) R H R (.ob (bM a r xs)::eh ps (N.length-1)):=by
 obtain⟨n0,N',rfl⟩:∃n0 N',N=n0::N':=by cases N with
  | nil=>exact Ur hl (by simp)
  | cons n N'=>exact⟨n,N',rfl⟩
 have Wa:ps.length<=N'.length:=by simpa using hl
 have E0:=i8 (N:=N') s p Wa
 have es:L2.start (n0::N') (.ref a::vs)=some (.ref a)::L2.start N' vs:=by unfold L2.start;simp
 rw[es]
 have U1:∀(i:Nat) (e:Ent) (o:Option V),(eh ps N'.length)[i]?=some e->e.fp o=[]:=λi e o q=>by
  unfold eh at q
  rcases OS.mp (OK q) with z | z
  ·obtain⟨p,_,rfl⟩:=OO.mp z;rfl
  ·obtain⟨_,rfl⟩:=Qn.mp z;rfl
 refine⟨⟨Fl,au.refl _,s,λ_ _=>rfl⟩,λi e q=>?_,λi e b q w=>?_,λi j e e' b q q' w w'=>?_,?_⟩
 ·cases i with
  | zero=>simp at q;subst q;exact mU ha hR pp
  | succ i=>simp at q;simpa using E0.ent i e q
 ·cases i with
  | zero=>simp at q;subst q;rw[show b=a from OF.mp w];exact sW
  | succ i=>simp at q;rw[U1 i e _ q] at w;cases w
 ·cases i with
  | succ i=>simp at q;rw[U1 i e _ q] at w;cases w
  | zero=>
    cases j with
    | zero=>rfl
    | succ j=>simp at q';rw[U1 j e' _ q'] at w';cases w'
 ·have:=E0.len
  simp[this]
variable {P:Rh}{w:World}{K:T2}{mg:Oc}{base:Heap}
theorem sU {r:Rep α}{S:jv α}{x qual:Str}{st:Stmt}{f:Addr}{fd:Rm}{N ps:Of}{k:Nat}(F:dH K x qual st f fd)(Sc:ay N ps (ag st))(hm:mg x=some (.ref f))(hb:Binds K fd ps [])(len:∀xs qs T,S K xs qs T->qs.length+1=ps.length)
 (UT:∀(UE:Value) (A:Ri) (outer:List Env) (s:Q9) (H:Hp) (E:XK) (a:Addr) (xs:List α) (qs:List Pk) (T:List α->RT),bI k (A.deeper (Q5 qual (ag st) s.heap.objs.size f UE))->S K xs qs T->
  WS (eD d7 P w K mg base N qual (ag st) f UE A outer s H E).ic (bu st) (.ob (bM a r xs)::eh qs (N.length-1)) (λ_=>False) (t8 K a r T)):aA P w K mg base x (k+1) (eB r S K):=by
 refine⟨f,fd,ps,?_,hm,F.kp,hb⟩
 refine F.ok Sc (λvs H Q E h=>?_) (λUE A outer s H vs Q E hr h=>?_)
 ·obtain⟨R,a,ws,xs,U7,qs,T,rfl,_,_,_,_,p,hS,_⟩:=h
  rw[OP,p.length];exact len xs qs T hS
 ·obtain⟨R,a,ws,xs,U7,qs,T,rfl,sR,hR,ha,pp,p,hS,q⟩:=h
  have hl:qs.length+1<=N.length:=by
   rw[len xs qs T hS]
   have:=congrArg List.length Sc.pre
   rw[OY] at this
   omega
  refine⟨_,jX,UT UE A outer s H E a xs qs T hr hS (L2.start N (.ref a::U7)) (del H a) R H R (oq sR hR ha pp p hl) {nx:=λ_ H'=>Q .UQ H',rt:=Q} (λ_ _ _ _ _ _ f=>f.elim) λv H' R' xx t=>?_⟩
  obtain⟨We,xs',h1,h2,h3,h4⟩:=t
  exact q v H' R' We xs' xx h1 h2 h3 h4
theorem vQ {r:Rep α}{S:jv α}{x:Str}{st:Stmt}{N ps:Of}{k:Nat}(D:Def K mg x st ps)(Sc:ay N ps (ag st))
 (UT:∀(f:Addr) (UE:Value) (A:Ri) (outer:List Env) (s:Q9) (H:Hp) (E:XK) (a:Addr) (xs:List α) (qs:List Pk) (T:List α->RT),bI k (A.deeper (Q5 x (ag st) s.heap.objs.size f UE))->S K xs qs T->
  WS (eD d7 P w K mg base N x (ag st) f UE A outer s H E).ic (bu st) (.ob (bM a r xs)::eh qs (N.length-1)) (λ_=>False) (t8 K a r T))
 (len:∀xs qs T,S K xs qs T->qs.length+1=ps.length:=by(intros;rename_i h;repeat (first | (rw[h.1];rfl) | obtain⟨_,h⟩:=h))):aA P w K mg base x (k+1) (eB r S K):=by
 obtain⟨f,fd,F,hm,hb⟩:=D
 exact sU F Sc hm hb len (UT f)
end
section
variable {α:Type}
def cE (k:Nat)(y:α)(xs:List α):List α:=xs.take k++y::xs.drop k
theorem uy {k:Nat}{y:α}{xs:List α}:(cE k y xs).length=xs.length+1:=by
 unfold cE;rw[OI,OP,OY,P1];omega
theorem yE {β:Type}(f:α->β){k:Nat}{y:α}{xs:List α}:(cE k y xs).map f=cE k (f y) (xs.map f):=by
 unfold cE;rw[O3,Pc,List.map_take,Qy]
end
section
variable {X:Cx}{Γ Γ1 Γ2 Γ3:Ga}{α β γ δ:Type}{N:Ga->Prop}{T:RT}
def Fh:V->List V->Hp->VK->Prop:=λx vs H Q=>∃l xs i y,x= .ref l/\vs=[.int i,y]/\H l=some (.lst xs)/\0<=i/\i<=(xs.length:Int)/\xs.length<Ra/\Q .UQ (upd H l (.lst (cE i.toNat y xs)))
theorem yt:Dn X "list.insert" Fh:=by
 intro UB s σ H x vs v us Q I rx rv h
 obtain⟨l,xs,i,y,rfl,rfl,hH,h0,h1,hz,q⟩:=h
 cases rx
 obtain⟨u1,u2,rfl,⟨t,rfl⟩,r2⟩:=vals2 rv
 obtain⟨z,UD,n,r,hl,e⟩:=I.lA hH
 have hfit:Builtin.List.listFitsIndex i=true:=fitsIndex_both (by omega) (by
  have:Ra<2 ^ 63:=by decide
  omega)
 refine RY PySem.F.slot_list_insert ⟨_,e,rfl⟩ PySem.F.entry_list_insert (PySem.F.args_list_insert_3 _ _ _) (PySem.AutoSeq1.list_insert_list_int_val_1 l _ n i t u2 (by simp[hfit]) (by rw[ON];omega)) ⟨e,?_⟩
 refine⟨.UQ,_,I.xQ (its':=cE i.toNat u2 UD) hH e ?_ ?_ ?_,rfl,q⟩
 ·have hk:(if i<0 then(i+((UD.toArray.size:Nat):Int)).toNat else min i.toNat UD.toArray.size)=i.toNat:=by
   rw[Us (by omega),ON];omega
  dsimp only
  rw[hk]
  unfold cE
  apply Array.ext'
  simp
  exact PN (by rw[P1];exact QC _)
 ·unfold cE;exact(r.take _).append (.cons r2 (r.drop _))
 ·rw[uy];omega
def qy:Rep Addr:=⟨λ_ _ v a=>v= .ref a,λ_ h=>h⟩
def rW:Ent->Ent
 | .im r x=>.im r x
 | _=>.no
theorem aw.VJ {K:T2}{σ:St}{H0 R0 H R:Hp}(E:aw K σ H0 R0 H R Γ):aw K σ H H H H (Γ.map rW):=by
 have U1:∀(i:Nat) (e:Ent) (o:Option V),(Γ.map rW)[i]?=some e->e.fp o=[]:=λi e o q=>by
  rw[OJ] at q
  cases h:Γ[i]? with
  | none=>rw[h] at q;cases q
  | some e'=>rw[h] at q;cases q;cases e'<;>rfl
 refine⟨Ext.refl (au.refl _),λi e q=>?_,λi e a q w=>Ur w (by rw[U1 i e _ q];exact O9),λi j e e' a q _ w=>Ur w (by rw[U1 i e _ q];exact O9),by rw[OH];exact E.len⟩
 rw[OJ] at q
 cases h:Γ[i]? with
 | none=>rw[h] at q;cases q
 | some e'=>
   rw[h] at q;cases q
   have:=E.ent i e' h
   cases e' with
   | im r x=>obtain⟨v,e,hr⟩:=this;exact⟨v,e,r.mono E.sub hr⟩
   | no=>trivial
   | mu r x=>trivial
   | di x=>trivial
   | ob x=>trivial
end
variable {P:Rh}{w:World}{K:T2}{mg:Oc}{base:Heap}
theorem Fz {S:bQ}{x qual:Str}{st:Stmt}{f:Addr}{fd:Rm}{N ps:Of}{k:Nat}(F:dH K x qual st f fd)(Sc:ay N ps (ag st))(len:∀qs T,S K qs T->qs.length=ps.length)
 (UT:∀(UE:Value) (A:Ri) (outer:List Env) (s:Q9) (H:Hp) (E:XK) (qs:List Pk) (T:RT),bI k (A.deeper (Q5 qual (ag st) s.heap.objs.size f UE))->S K qs T->
  WS (eD d7 P w K mg base N qual (ag st) f UE A outer s H E).ic (bu st) (eh qs N.length) (λ_=>False) T):dY P w K mg base d7 (k+1) f fd ps (aE S K):=by
 refine F.ok Sc (λvs H Q E h=>?_) (λUE A outer s H vs Q E hr h=>?_)
 ·obtain⟨R,qs,T,_,p,hS,_⟩:=h
  rw[p.length];exact len qs T hS
 ·obtain⟨R,qs,T,sR,p,hS,q⟩:=h
  have hl:qs.length<=N.length:=by
   rw[len qs T hS]
   have:=congrArg List.length Sc.pre
   rw[OY] at this
   omega
  exact⟨_,jX,UT UE A outer s H E qs T hr hS (L2.start N vs) H R H R (i8 sR p hl) {nx:=λ_ H'=>Q .UQ H',rt:=Q} (λ_ _ _ _ _ _ f=>f.elim) λv H' R' xx t=>q v H' R' xx t⟩
theorem oF {h:Heap}{x:Str}{st:Stmt}{ps:Of}{f:Addr}{oc:Value}{od an:Option Addr}{V3:Array Og}{kV doc pm UE ct:Value}(KX:K.In h)(G:h.Ns Rf mg)
 (a:T3 K Rf x=some (some (.ref f))) (l:K.lookup f=some ⟨oc,od,.func (T7 x x (cQ st) (bu st) (ag st) .none kV doc pm an UE ct),V3⟩) (c:Ua K UE x=true) (k:T8 K (.ref f)=true)
 (b:∀(kV doc pm:Value) (an:Option Addr) (UE ct:Value) (us:Oi),us.length=ps.length->So (T7 x x (cQ st) (bu st) (ag st) .none kV doc pm an UE ct) ⟨us,[]⟩=pure (ps.zip us)):Def K mg x st ps:=
 ⟨f,_,jR l c k,T5 KX G a,(jR l c k).binds b⟩
open PySem.Builtin.Int (intBits)
theorem vj {ns:Oe}(h:PySem.W.WData.layableAll [.list (ns.map .int)]=true):∀n∈ns,intBits n<=2 ^ 20:=λn hn=>by
 have h1:=PySem.W.layableW_arg h _ (OF.mpr rfl)
 have h2:=PySem.W.layableW_item h1 (.int n) (OO.mpr ⟨n,hn,rfl⟩)
 exact PySem.PyData.bits_of_layable h2
end Fc
namespace Att
open PySem PySem.W PySem.Calls PyProof.Rows
open PySem.Builtin.Int (intBits)
theorem uY {l:OpenLaw}{n:Nat}{q:Rh}{loose:Of}{XP:(Oc)->Heap->Prop}{YP:World->Heap->Prop}{d:DefRec}
 (hn:l.most=some n) (Zk:d.params.defaults=[])
 (call:∀(w:World) (s₀ s₁:Q9) (mg mb:Oc) (fa:Addr) (o:Obj) (pm cd doc:Value) (a:Addr) (vs:Oi) (ns:Oe),
  Ground q loose [] XP w s₀ mg mb s₁.heap->YP w s₁.heap->
  s₁.heap.get? fa=some o->o.data= .func (docDef d.name d.params d.body d.scope pm cd doc)->s₁.heap.CodeRec cd d.name->mg d.name=some (.ref fa)->
  s₁.heap.get? a=some {cls:=.type "list",data:=.seq vs.toArray}->IntsAre vs ns->ns.length<=n->(∀m∈ns,intBits m<=2 ^ 20)->s₁.gens= #[]->
  Sn (model l.prog w) Su (.call (.ref fa) ⟨[.ref a],[]⟩) (λr s'=>r= .ok (.ret (.bool true))/\OldK s₁.heap s'.heap/\s'.os=s₁.os/\Q6 s'.gens) s₁):
 WalkO q loose XP YP l.row.toRowW d [] (λf vs=>PySem.call f vs):=by
 intro w s₀ s₁ mg mb G Y fa o pm cd doc dV kV ho hd UI hD Y8 hg args vals as Xm hlay hrd YU Xn
 obtain rfl:dV= .none:=Dflts.none hD Zk
 obtain rfl:kV= .none:=Dflts.noKw hD
 obtain⟨a,vs,ns,rfl,rfl,Ya,hints,hlen⟩:=yS hn Xm YU
 refine enter_call (Sw (call w s₀ s₁ mg mb fa o pm cd doc a vs ns G Y ho (fd_plain hd) UI Y8 Ya hints hlen (Fc.vj hlay) hg) λr s' hq=>?_)
 obtain⟨rfl,h2,h3,h4⟩:=hq
 exact⟨.inl ⟨.bool true,.bool true,[],rfl,λ_=>rfl,.bool true,zr l _,λ_=>⟨List.Pairwise.nil,λ_ hm=>(nomatch hm)⟩⟩,h2,h3,h4⟩
end Att
namespace L2
open PySem PySem.Spec PyProof.Rows
open PySem.Builtin.Int (intBits)
theorem Bc {l:Uk}{n k:Nat}{q:Rh}{loose:Of}{XP:(Oc)->Heap->Prop}{YP:World->Heap->Prop}{d:DefRec}{K:Params->T2}{CX:World->lV}{sp:World->Sp}{x:Str}
 (hn:l.most=some n) (hn2:n<=Ra) (Zk:d.params.defaults=[]) (hr:bI k Su)
 (hY:∀(w:World) (h:Heap),YP w h->(K w.params).In h)
 (F:∀(w:World) (mg:Oc) (fa:Addr) (h:Heap),(K w.params).In h->h.Ns Rf mg->mg d.name=some (.ref fa)->
  ∃fd:Rm,(∀(s:Q9) (u:Value),SJ s fd ⟨[u],[]⟩ [(x,u)])/\
   ∀base:Heap,(K w.params).In base->base.Ns Rf mg->dY l.prog w (K w.params) mg base (CX w) k fa fd [x] (sp w))
 (WB:∀(w:World) (H:Hp) (a:Addr) (ns:Oe),ns.length<=n->(∀m∈ns,intBits m<=2 ^ 20)->By H->aZ (K w.params) H a (ns.map V.int)->sp w [.ref a] H (λv _=>v= .bl true) λ_ _ _=>False)
 (hCX:∀(w:World) (H:Hp) (s:Q9) (e:Value) (s':Q9),CX w [] H s (λ_ _ _=>False) e s'->False):
 PySem.W.WalkO q loose XP YP l.row.toRowW d [] (λf vs=>PySem.call f vs):=by
 refine Att.uY hn Zk λw s₀ s₁ mg mb fa o pm cd doc a vs ns G Y ho hd UI Y8 Ya hints hlen Wc hg=>?_
 have KX:=hY w _ Y
 obtain⟨fd,hb,hF⟩:=F w mg fa _ KX G.T.g Y8
 exact BQ KX G.T.g G.T.b G.T.builtins G.T.nolimit hg Ya hints (QD hlen hn2) hr hF hb (λH hO hS=>WB w H a ns hlen Wc hO hS) λH e s'=>hCX w H s₁ e s'
end L2
namespace Fc
open PySem PySem.Spec PySem.W PySem.Calls L2
open PyProof.Rows hiding St
section
variable {X:Cx}{Γ Γ1:Ga}
end
section
variable {P:Rh}{w:World}{K:T2}{mg:Oc}{base:Heap}
end
section
variable {X:Cx}{UB:Od}{σ:St}{H:Hp}{s:Q9}{e:Addr}{o:Obj}
end
end Fc
namespace Fc
open PySem PySem.Spec PySem.W PySem.Calls L2
open PyProof.Rows hiding St
open PySem PySem.Spec PySem.W PySem.Calls PySem.Builtin.ObjectAttr PySem.Builtin.Getset_descriptor L2
section
variable {K:Frag}{D x:Addr}{prog:Rh}{w:World}{A:Ri}{E:Value->Q9->Prop}{s:Q9}
end
section
variable {X:Cx}{Γ Γ1:Ga}{ea D:Addr}{oe:Obj}
end
end Fc
namespace Fc
open PySem PySem.Spec PySem.W PySem.Calls L2
open PyProof.Rows hiding St
section
variable {X:Cx}{Γ Γ1:Ga}{H0 R0:Hp}
end
section
variable {P:Rh}{w:World}{K:T2}{mg:Oc}{base:Heap}{N:Of}{qual:Str}{scope:Scope}{f:Addr}{cd:Value}{A:Ri}{outer:List Env}{s:Q9}{H R:Hp}{E:XK}{Γ Γ1:Ga}
end
section
variable {X:Cx}{Γ Γ1:Ga}{ea D:Addr}{oe:Obj}{UB:Od}{σ:St}{H:Hp}{s:Q9}
end
def aj:Rep Str:=⟨λ_ _ v x=>v= .str x,λ_ h=>h⟩
theorem aG {X:Cx}{Γ:Ga}{x:Str}{j:Nat}{pos:Pos}:EV X (.Constant (.str x) j pos) Γ aj x Γ:=λ_ _ _ _ _ E _ q=>eS HJ (q _ _ _ E (au.refl _) rfl)
inductive PV
 | UQ
 | bl (b:Bool)
 | int (i:Int)
 | str (x:Str)
 | tup (xs:List PV)
 | lst (xs:List PV)
mutual
inductive eA (H:Hp):V->PV->Prop
 | UQ:eA H .UQ .UQ
 | bl (b:Bool):eA H (.bl b) (.bl b)
 | int (i:Int):eA H (.int i) (.int i)
 | str (x:Str):eA H (.str x) (.str x)
 | tup {a:Addr} {vs:List V} {xs:List PV}:H a=some (.tup vs)->dF H vs xs->eA H (.ref a) (.tup xs)
 | lst {a:Addr} {vs:List V} {xs:List PV}:H a=some (.lst vs)->dF H vs xs->xs.length<=Ra->eA H (.ref a) (.lst xs)
inductive dF (H:Hp):List V->List PV->Prop
 | nil:dF H [] []
 | cons {v:V} {x:PV} {vs:List V} {xs:List PV}:eA H v x->dF H vs xs->dF H (v::vs) (x::xs)
end
mutual
theorem eA.mono {H H':Hp}(s:au H H'):∀{v:V} {x:PV},eA H v x->eA H' v x
 | _,_,.UQ=>.UQ
 | _,_,.bl b=>.bl b
 | _,_,.int i=>.int i
 | _,_,.str x=>.str x
 | _,_,.tup h t=>.tup (s _ _ h) (dF.mono s t)
 | _,_,.lst h t z=>.lst (s _ _ h) (dF.mono s t) z
theorem dF.mono {H H':Hp}(s:au H H'):∀{vs:List V} {xs:List PV},dF H vs xs->dF H' vs xs
 | _,_,.nil=>.nil
 | _,_,.cons h t=>.cons (eA.mono s h) (dF.mono s t)
end
theorem dF.pair {H:Hp}:∀{vs:List V} {xs:List PV},dF H vs xs->PySem.Paired (eA H) vs xs
 | _,_,.nil=>.nil
 | _,_,.cons h t=>.cons h (dF.pair t)
theorem dF.of {H:Hp}:∀{vs:List V} {xs:List PV},PySem.Paired (eA H) vs xs->dF H vs xs
 | _,_,.nil=>.nil
 | _,_,.cons h t=>.cons h (dF.of t)
def ax:Rep PV:=⟨λ_ H v x=>eA H v x,λs h=>h.mono s⟩
section
variable {X:Cx}{Γ Γ1 Γ2 Γ3:Ga}{α β γ δ:Type}{N:Ga->Prop}{T:RT}
variable {e:Expr}{pos:Pos}
theorem EV.re {r:Rep α}{r':Rep β}{x:α}{y:β}(h:EV X e Γ r x Γ1)(f:∀(K:T2) (R:Hp) (v:V),r.R K R v x->r'.R K R v y):EV X e Γ r' y Γ1:=λσ H0 R0 H R E Q q=>h σ H0 R0 H R E Q λv H' R' E' s' e'=>q v H' R' E' s' (f _ _ v e')
theorem EV.pI {n:Int}(h:EV X e Γ ah n Γ1):EV X e Γ ax (.int n) Γ1:=h.re λK R v e=>by cases e;exact .int n
theorem EV.pS {x:Str}(h:EV X e Γ aj x Γ1):EV X e Γ ax (.str x) Γ1:=h.re λK R v e=>by cases e;exact .str x
theorem EV.pL {xs:List PV}(h:EV X e Γ (ae ax) xs Γ1):EV X e Γ ax (.lst xs) Γ1:=h.re λK R v ⟨a,vs,e,q,p,z⟩=>by subst e;exact .lst q (.of p) z
theorem vy {K:T2}{R:Hp}:∀{vs:List V} {xs:Oe},PySem.Paired (ah.R K R) vs xs->dF R vs (xs.map PV.int)
 | _,_,.nil=>.nil
 | _,_,.cons h t=>.cons (by cases h;exact .int _) (vy t)
theorem EV.Iz {xs:Oe}(h:EV X e Γ (ae ah) xs Γ1):EV X e Γ ax (.lst (xs.map PV.int)) Γ1:=h.re λK R v ⟨a,vs,e,q,p,z⟩=>by subst e;exact .lst q (vy p) (by rw[OH];exact z)
theorem EV.iP {n:Int}(h:EV X e Γ ax (.int n) Γ1):EV X e Γ ah n Γ1:=h.re λK R v e=>by cases e;rfl
theorem EV.sP {x:Str}(h:EV X e Γ ax (.str x) Γ1):EV X e Γ aj x Γ1:=h.re λK R v e=>by cases e;rfl
theorem EV.lP {xs:List PV}(h:EV X e Γ ax (.lst xs) Γ1):EV X e Γ (ae ax) xs Γ1:=h.re λK R v e=>by cases e with | lst q p z=>exact⟨_,_,rfl,q,p.pair,z⟩
theorem vW {R:Hp}:∀{vs:List V} {xs:Oe},dF R vs (xs.map PV.int)->∀K:T2,PySem.Paired (ah.R K R) vs xs
 | _,[],.nil,_=>.nil
 | _,_::_,.cons h t,K=>.cons (by cases h;rfl) (vW t K)
theorem EV.tw {xs:Oe}(h:EV X e Γ ax (.lst (xs.map PV.int)) Γ1):EV X e Γ (ae ah) xs Γ1:=h.re λK R v e=>by
 cases e with | lst q p z=>exact⟨_,_,rfl,q,vW p K,by rw[OH] at z;exact z⟩
theorem ip {es:Oj}{k:Nat}{xs:List PV}(h:EA X es Γ ax xs Γ1)(hz:xs.length<=Ra:=by show _<=Ra;decide):EV X (.Tuple es k pos) Γ ax (.tup xs) Γ1:=by
 intro σ H0 R0 H R E Q q
 refine eS (Ae lT) (h σ H0 R0 H R E _ λvs H1 R1 E1 s1 p1=>⟨by rw[p1.length];exact hz,λp hp=>?_⟩)
 have x:=Ext.fresh E1.sub hp (.tup vs)
 exact q _ _ _ (E1.grow x) (s1.trans x.r) (.tup aF (.of (Paired.map (λ_ _=>ax.mono x.r) p1)))
theorem dq {a b:Expr}{xs:List PV}{i:Int}{y:PV}(ha:EV X a Γ ax (.tup xs) Γ1)(hb:EV X b Γ1 ah i Γ2)(h:bU xs i=some y)(hs:eC b:=by exact λ_ _=>rfl):EV X (.Subscript a b pos) Γ ax y Γ2:=by
 intro σ H0 R0 H R E Q q
 refine eS (iJ z6 aP aP hs) (ha σ H0 R0 H R E _ λv H1 R1 E1 s1 e1=>hb σ H0 R0 H1 R1 E1 _ λu H2 R2 E2 s2 e2=>?_)
 cases ax.mono (K:=X.K) s2 e1 with
 | tup ha pp=>
   obtain⟨w,e3,e4⟩:=g8 pp.pair h
   exact⟨_,_,i,w,rfl,e2,dc.of (E2.sub _ _ ha),e3,q w H2 R2 E2 (s1.trans s2) e4⟩
theorem yG {H:Hp}{vs:List V}{xs:List PV}(p:PySem.Paired (eA H) vs xs)(l h:Option Int):PySem.Paired (eA H) (ky vs l h) (cut xs l h):=by
 unfold ky cut
 rw[p.length]
 exact iK _ (ku _ p)
theorem JV {a:Expr}{lo hi:Option Expr}{p2:Pos}{xs:List PV}{l h:Option Int}(ha:EV X a Γ ax (.tup xs) Γ)(hl:OV X lo Γ l)(hh:OV X hi Γ h)(hw:¬(HT.UR xs.length 0 l=0/\HT.UR xs.length xs.length h=xs.length)):EV X (.Subscript a (.Slice lo hi none p2) pos) Γ ax (.tup (cut xs l h)) Γ:=by
 intro σ H0 R0 H R E Q q
 obtain⟨tl,pl,kl⟩:=hl
 obtain⟨th,ph,kh⟩:=hh
 refine eS (lL HH aP pl ph) (ha σ H0 R0 H R E _ λv H1 R1 E1 s1 e1=>kl σ H0 R0 H1 R1 E1 _ λH2 R2 E2 s2=>kh σ H0 R0 H2 R2 E2 _ λH3 R3 E3 s3=>?_)
 cases ax.mono (K:=X.K) (s2.trans s3) e1 with
 | @tup a' U7 _ hp pp=>
   refine⟨_,_,rfl,dc.of (E3.sub _ _ hp),by rw[pp.pair.length];exact hw,λd hd=>?_⟩
   have x:=Ext.fresh E3.sub hd (.tup (ky U7 l h))
   exact q _ _ _ (E3.grow x) (s1.trans (s2.trans (s3.trans x.r))) (.tup aF (.of (Paired.map (λ_ _=>ax.mono (K:=X.K) x.r) (yG pp.pair l h))))
mutual
def PV.deep:PV->Nat
 | .tup xs=>PV.gR xs+1
 | .lst xs=>PV.gR xs+1
 | _=>0
def PV.gR:List PV->Nat
 | []=>0
 | x::xs=>max (PV.deep x) (PV.gR xs)
end
theorem jw:∀{xs:List PV} {x:PV},x∈xs->x.deep<=PV.gR xs
 | y::ys,x,h=>by
   rw[PV.gR]
   rcases OT.mp h with rfl | h
   ·omega
   ·have:=jw h;omega
theorem all_true {n:Nat}:((O5 n).all λ_=>true)=true:=by simp
section
variable {UB:Od}{σ:St}{H R:Hp}{s:Q9}
theorem pD (I:Inv X UB σ H s)(sub:au R H){xs:List PV}{A:Ri}(ih:∀x∈xs,∀{v u:V} {vv uu:Value},RelV v vv->RelV u uu->eA R v x->eA R u x->Tw A s vv uu true){vs ws:List V}{us VE:Oi}(hv:Vals vs us)(hw:Vals ws VE)(p1:PySem.Paired (eA R) vs xs)(p2:PySem.Paired (eA R) ws xs):
 ∀(j:Nat) (h1:j<us.toArray.size) (h2:j<VE.toArray.size),Tw A s us.toArray[j] VE.toArray[j] true:=by
 intro j h1 h2
 have h1':j<us.length:=by simpa using h1
 have XQ:j<VE.length:=by simpa using h2
 have hx:j<xs.length:=by rw[← p1.length,hv.length];exact h1'
 obtain⟨v,e1,r1⟩:=dh p1 (OE hx)
 obtain⟨u,e2,r2⟩:=dh p2 (OE hx)
 obtain⟨vv,e3,r3⟩:=hv.get e1
 obtain⟨uu,e4,r4⟩:=hw.get e2
 rw[OE h1'] at e3
 rw[OE XQ] at e4
 simp only[List.getElem_toArray]
 rw[Option.some.inj e3,Option.some.inj e4]
 exact ih _ (O0 hx) r3 r4 r1 r2
theorem B2 (I:Inv X UB σ H s)(sub:au R H):∀(n:Nat) {x:PV},x.deep<=n->∀{A:Ri},A.units+n<cLine->∀{v u:V} {vv uu:Value},RelV v vv->RelV u uu->eA R v x->eA R u x->Tw A s vv uu true:=by
 intro n
 induction n using Nat.strongRecOn with
 | _ n ih=>
   intro x hd A hu v u vv uu rv ru h1 h2
   cases h1 with
   | UQ=>cases h2;cases rv;cases ru;exact Tw.same _
   | bl b=>cases h2;cases rv;cases ru;have:=Tw.bool_bool (A:=A) (s:=s) b b;rwa [beq_self_eq_true] at this
   | int i=>cases h2;obtain⟨t,rfl⟩:=rv;obtain⟨t',rfl⟩:=ru;exact λprog w E Q q=>Sv (by simpa using q)
   | str z=>cases h2;obtain⟨t,rfl⟩:=rv;obtain⟨t',rfl⟩:=ru;have:=Tw.str_str (A:=A) (s:=s) z t z t';rwa [beq_self_eq_true] at this
   | @tup a1 v1 xs e1 p1=>
     cases h2 with
     | @tup a2 v2 _ e2 p2=>
       cases rv;cases ru
       rw[PV.deep] at hd
       by_cases VZ:a1=a2
       ·subst VZ;exact Tw.same _
       ·have l12:v1.length=v2.length:=p1.pair.length.trans p2.pair.length.symm
        have key:=(oo (A:=A) (k:=λ_=>true) I sub e1 e2 l12 (by omega) λus VE hv hw=>pD I sub (λx hx v u vv uu rv ru q1 q2=>ih (n-1) (by omega) (x:=x) (by have:=jw hx;omega) (A:=A.in1) (by rw[in1_units];omega) rv ru q1 q2) hv hw p1.pair p2.pair).1
        rw[all_true] at key
        exact Tw.of_refs VZ key
   | @lst a1 v1 xs e1 p1 z1=>
     cases h2 with
     | @lst a2 v2 _ e2 p2 z2=>
       cases rv;cases ru
       rw[PV.deep] at hd
       by_cases VZ:a1=a2
       ·subst VZ;exact Tw.same _
       ·obtain⟨us,hv,pl,_⟩:=I.list (aZ.of (sub _ _ e1))
        obtain⟨VE,hw,Vs,_⟩:=I.list (aZ.of (sub _ _ e2))
        have lx:us.toArray.size=VE.toArray.size:=by rw[ON,ON,← hv.length,← hw.length,p1.pair.length,p2.pair.length]
        have key:=Tz.lists (A:=A) (e:=λ_=>true) pl.isList Vs.isList lx (by omega) (pD I sub (λx hx v u vv uu rv ru q1 q2=>ih (n-1) (by omega) (x:=x) (by have:=jw hx;omega) (A:=A.in1) (by rw[in1_units];omega) rv ru q1 q2) hv hw p1.pair p2.pair)
        rw[all_true] at key
        exact Tw.of_refs VZ key
theorem LB (I:Inv X UB σ H s)(sub:au R H){x:PV}(hr:(∃xs,x= .tup xs)∨∃xs,x= .lst xs){A:Ri}(hu:A.units+x.deep<cLine){v u:V}{vv uu:Value}(rv:RelV v vv)(ru:RelV u uu)(h1:eA R v x)(h2:eA R u x):Tz A s vv uu true/\Tx A s vv uu false:=by
 rcases hr with⟨xs,rfl⟩ | ⟨xs,rfl⟩
 ·cases h1 with
  | @tup a1 v1 _ e1 p1=>
    cases h2 with
    | @tup a2 v2 _ e2 p2=>
      cases rv;cases ru
      rw[PV.deep] at hu
      have l12:v1.length=v2.length:=p1.pair.length.trans p2.pair.length.symm
      have key:=oo (A:=A) (k:=λ_=>true) I sub e1 e2 l12 (by omega) λus VE hv hw=>pD I sub (λx hx v u vv uu rv ru q1 q2=>B2 I sub (PV.gR xs) (x:=x) (jw hx) (A:=A.in1) (by rw[in1_units];omega) rv ru q1 q2) hv hw p1.pair p2.pair
      rw[all_true] at key
      exact key
 ·cases h1 with
  | @lst a1 v1 _ e1 p1 z1=>
    cases h2 with
    | @lst a2 v2 _ e2 p2 z2=>
      cases rv;cases ru
      rw[PV.deep] at hu
      obtain⟨us,hv,pl,_⟩:=I.list (aZ.of (sub _ _ e1))
      obtain⟨VE,hw,Vs,_⟩:=I.list (aZ.of (sub _ _ e2))
      have lx:us.toArray.size=VE.toArray.size:=by rw[ON,ON,← hv.length,← hw.length,p1.pair.length,p2.pair.length]
      have he:=pD (A:=A.in1) I sub (λx hx v u vv uu rv ru q1 q2=>B2 I sub (PV.gR xs) (x:=x) (jw hx) (A:=A.in1) (by rw[in1_units];omega) rv ru q1 q2) hv hw p1.pair p2.pair
      have k1:=Tz.lists (A:=A) (e:=λ_=>true) pl.isList Vs.isList lx (by omega) he
      have k2:=Tx.lists (A:=A) (e:=λ_=>true) pl.isList Vs.isList lx (by omega) he
      rw[all_true] at k1 k2
      exact⟨k1,k2⟩
end
theorem Gs {x:PV}(hr:(∃xs,x= .tup xs)∨∃xs,x= .lst xs)(hu:X.A.units+x.deep<cLine):fz X .NotEq ax ax x x false:=
 ⟨λv u H Q=>∃R,au R H/\eA R v x/\eA R u x/\Q (.bl false) H,λUB s σ H a b v u Q I rx ry ⟨R,sub,h1,h2,q⟩=>(LB I sub hr hu rx ry h1 h2).2 _ _ _ _ ⟨.bl _,H,I,rfl,q⟩,λR H v u Q s h1 h2 q=>⟨R,s,h1,h2,q⟩⟩
end
section
variable {X:Cx}{Γ Γ1 Γ2 Γ3:Ga}{α β γ δ:Type}{N:Ga->Prop}{T:RT}
theorem EV.rep {e:Expr}{r:Rep α}{x:α}{r':Rep β}{y:β}(h:EV X e Γ r x Γ1)(c:∀(R:Hp) v,r.R X.K R v x->r'.R X.K R v y):EV X e Γ r' y Γ1:=λσ H0 R0 H R E Q q=>h σ H0 R0 H R E Q λv H' R' E' s' e'=>q v H' R' E' s' (c R' v e')
end
section
variable {X:Cx}{Γ Γ1 Γ2 Γ3:Ga}{α β γ δ:Type}{N:Ga->Prop}{T:RT}
theorem paired_ints {K:T2}{R:Hp}:∀ys:Oe,PySem.Paired (ah.R K R) (ys.map V.int) ys
 | []=>.nil
 | _::r=>.cons rfl (paired_ints r)
theorem rP {a:Expr}{p1 p2 pos V8:Pos}{n:Int}(Yd:X.mg "list"=none)(hmr:X.mg "range"=none)(ha:EV X a Γ ah n Γ1)(hn: -1000000<=n/\n<=1000000)(hs:Rc [a] X.env=[(false,eval a X.env)]:=by rfl)
 (Vf:Rc [.Call (.Name "range" p2) [a] [] V8] X.env=[(false,eval (.Call (.Name "range" p2) [a] [] V8) X.env)]:=by rfl) (hc:X.calm=true:=by rfl) (hg:Gl X "list":=by rfl) (hgr:Gl X "range":=by rfl):aW X (.Call (.Name "list" p1) [.Call (.Name "range" p2) [a] [] V8] [] pos) Γ ah (ups 0 n.toNat) Γ1:=by
 intro σ H0 R0 H R E Q q
 refine eS (gL (mD hc) hg Yd Q4 (a7 (gL qr hgr hmr Q7 (a7 aP bJ hs) (by decide) (by decide) hs) bJ Vf) (by decide) (by decide) Vf) (ha σ H0 R0 H R E _ λv H1 R1 E1 s1 e1=>⟨n,by rw[show v=V.int n from e1],λp hp=>?_⟩)
 refine⟨p,0,n,rfl,aF,by decide,by decide,hn.1,hn.2,λd hd=>?_⟩
 have E2:=E1.grow (Ext.dS E1.sub hp (.W4 0 n))
 rw[Int.sub_zero]
 exact q d _ _ R1 (E2.grow (Ext.dS E2.sub hd _)) s1 aF (E2.sub.free hd) (E2.ext.h.free hd) (E2.off hd) (paired_ints _) (by rw[a9];exact QD (show n.toNat<=1000000 by omega) (by decide))
end
section
variable {X:Cx}{Γ Γ1 Γ2 Γ3:Ga}{α β γ δ:Type}{N:Ga->Prop}{T:RT}
variable {pos:Pos}{x:Str}{F:Ol}
theorem EN {r:Rep α}{r':Rep β} [DecidableEq α] [DecidableEq β]{n m:Nat}(e:lG r n)(e':lG r' m){X:Cx}{UB:Od}{σ:St}{H:Hp}{s:Q9}{R:Hp}{A:Ri}(I:Inv X UB σ H s)(sub:au R H){a b:Addr}{v1 v2 w1 w2:V}{x y:α×β}(ha:R a=some (.tup [v1,v2]))(hb:R b=some (.tup [w1,w2]))
 (p1:r.R X.K R v1 x.1) (p2:r'.R X.K R v2 x.2) (q1:r.R X.K R w1 y.1) (q2:r'.R X.K R w2 y.2) (hu:A.units+(n+1)<cLine) (WK:A.units+(m+1)<cLine):
 Tz A s (.ref a) (.ref b) (decide (x=y))/\Tx A s (.ref a) (.ref b) (!decide (x=y)):=by
 have key:=oo (A:=A) (k:=λj=>if j=0 then decide (x.1=y.1) else decide (x.2=y.2)) I sub ha hb rfl (by omega) λus VE hv hw j h1 h2=>by
  cases hv with
  | cons a1 t=>cases t with
    | cons a2 t=>cases t;cases hw with
      | cons b1 t=>cases t with
        | cons b2 t=>
          cases t
          match j,h1 with
          | 0,_=>exact e.eq (A:=A.in1) I sub a1 b1 p1 q1 (by rw[in1_units];omega)
          | 1,_=>exact e'.eq (A:=A.in1) I sub a2 b2 p2 q2 (by rw[in1_units];omega)
          | j+2,h=>exact Ur h (by simp)
 have d:(O5 [v1,v2].length).all (λj=>if j=0 then decide (x.1=y.1) else decide (x.2=y.2))=decide (x=y):=by
  obtain⟨x1,x2⟩:=x
  obtain⟨y1,y2⟩:=y
  simp[Qx,Ot]
 rw[d] at key
 exact key
theorem Kg {r:Rep α}{r':Rep β} [DecidableEq α] [DecidableEq β]{n m:Nat}(e:lG r n)(e':lG r' m)(hu:X.A.units+(n+1)<cLine)(WK:X.A.units+(m+1)<cLine){x y:α×β}:fz X .Eq (cD r r') (cD r r') x y (decide (x=y)):=
 ⟨λv u H Q=>∃R,au R H/\(cD r r').R X.K R v x/\(cD r r').R X.K R u y/\Q (.bl (decide (x=y))) H,λUB s σ H v1 u1 v u Q I rx ry ⟨R,sub,h1,h2,q⟩=>by
  obtain⟨a,v1,v2,rfl,ha,p1,p2⟩:=h1
  obtain⟨b,w1,w2,rfl,hb,q1,q2⟩:=h2
  cases rx
  cases ry
  exact(EN (A:=X.A) e e' I sub ha hb p1 p2 q1 q2 hu WK).1 _ _ _ _ ⟨.bl _,H,I,rfl,q⟩,λR H v u Q s h1 h2 q=>⟨R,s,h1,h2,q⟩⟩
def cR (F:Ol):List (Int×V):=F.map λp=>(p.1,.int p.2)
def bE (F:Ol)(k:Int):Option Int:=(F.find? λp=>decide (p.1=k)).map (·.2)
def lK (F:Ol)(k v:Int):Ol:=if(bE F k).isSome then F.map (λp=>if p.1=k then(p.1,v) else p) else F++[(k,v)]
theorem kR:∀(F:Ol) (k:Int),cW (bZ (cR F)) (Sum.inl k:Key)=(bE F k).map V.int
 | [],_=>rfl
 | p::r,k=>by
   have ih:=kR r k
   by_cases e:p.1=k
   ·have e':(Sum.inl p.1:Key)=Sum.inl k:=by rw[e]
    have h1:cW (bZ (cR (p::r))) (Sum.inl k:Key)=some (.int p.2):=dv (p:=((Sum.inl p.1:Key),V.int p.2)) e'
    rw[h1]
    unfold bE
    rw[PJ,Uw e];rfl
   ·have e':¬(Sum.inl p.1:Key)=Sum.inl k:=λz=>e (Sum.inl.inj z)
    have h1:cW (bZ (cR (p::r))) (Sum.inl k:Key)=cW (bZ (cR r)) (Sum.inl k:Key):=da (p:=((Sum.inl p.1:Key),V.int p.2)) e'
    rw[h1,ih]
    unfold bE
    rw[PJ,Ux e]
theorem sI (F:Ol)(k v:Int):putK (bZ (cR F)) (Sum.inl k:Key) (.int v)=bZ (cR (lK F k v)):=by
 unfold putK lK
 rw[gF,kR]
 have e:((bE F k).map V.int).isSome=(bE F k).isSome:=by cases bE F k<;>rfl
 rw[e]
 split
 ·unfold bZ cR
  simp only[PR]
  apply Qh
  intro p _
  simp only[Function.comp]
  by_cases h:p.1=k
  ·rw[Ut (by rw[h]),Ut h]
  ·rw[Us (λz=>h (Sum.inl.inj z)),Us h]
 ·unfold bZ cR
  rw[O3,O3];rfl
def iQ:Rep Ol:=⟨λ_ H v F=>∃a,v= .ref a/\H a=some (.dK (bZ (cR F))),λs ⟨a,e,q⟩=>⟨a,e,s _ _ q⟩⟩
theorem jC {a b:Expr}{k y:Int}(hu:X.A.units+1<cLine)(ha:EV X a Γ iQ F Γ1)(hb:EV X b Γ1 ah k Γ2)(h:bE F k=some y)(hs:BY b:=by exact λ_ _=>rfl):EV X (.Subscript a b pos) Γ ah y Γ2:=by
 intro σ H0 R0 H R E Q q
 refine eS (E7 hu aP aP hs) (ha σ H0 R0 H R E _ λv H1 R1 E1 s1 e1=>hb σ H0 R0 H1 R1 E1 _ λu H2 R2 E2 s2 e2=>?_)
 obtain⟨p,rfl,hp⟩:=iQ.mono s2 e1
 cases e2
 have g:=gQ.k (k:=Sum.inl k) (E2.sub _ _ hp)
 rw[kR,h] at g
 exact⟨p,_,rfl,g,q _ H2 R2 E2 (s1.trans s2) rfl⟩
theorem A6 (F:Ol)(k v:Int):(lK F k v).length<=F.length+1:=by
 unfold lK;split
 ·rw[OH];omega
 ·rw[OI];simp
theorem JP (i:Nat){ke ve:Expr}{p1 p2:Pos}{k v:Int}(hu:X.A.units+1<cLine)(hk:EV X ke Γ ah k Γ)(Wm:EV X ve Γ ah v Γ)(hΓ:Γ[i]?=some (.di (cR F)))(hz:F.length<Ra)(h:N (Γ.set i (.di (cR (lK F k v)))))
 (hN:X.N[i]?=some x:=by rfl) (YV:autoParam (cN X.env.scope x) Vc)
 (hd:UX x:=by decide) (UI:Ve x:=by decide)
 (hs:Rl ve (some (.Subscript (.Name x p1) ke p2)) pos.line X.env=pure false:=by rfl):W1 X (.Assign [.Subscript (.Name x p1) ke p2] ve pos) Γ N T:=λσ H0 R0 H R E D dn dr=>by
 refine sS (pK hu (br hN YV hd UI) aP aP hs) (Wm σ H0 R0 H R E _ λu0 H0' R0' E0 s0 e0=>?_)
 obtain⟨a,ea,ha,hR⟩:=E0.ent i _ hΓ
 refine⟨.ref a,at_of ea,hk σ H0 R0 H0' R0' E0 _ λu H1 R1 E1 s1 e1=>?_⟩
 obtain⟨a',Vb,VA,Vg⟩:=E1.ent i _ hΓ
 rw[ea] at Vb;cases Vb
 cases e1
 cases e0
 refine⟨a,_,rfl,nG.k (k:=Sum.inl k) VA (by unfold bZ cR;rw[OH,OH];exact hz),?_⟩
 rw[sI]
 exact dn σ _ R1 _ (E1.upd (en:=.di (cR (lK F k v))) hΓ rfl ea Vg ⟨a,rfl,aF,Vg⟩) (s0.trans s1) h
theorem vS (i:Nat){p1:Pos}{P:Ol->Prop}(hΓ:Γ[i]?=some (.di (cR F)))(h:P F)(hN:X.N[i]?=some x:=by rfl)(hv:autoParam (cN X.env.scope x) Vc)
 (hd:UX x:=by decide) (UI:Ve x:=by decide):W1 X (.Return (some (.Name x p1)) pos) Γ N (bL X.K iQ P):=λσ H0 R0 H R E D dn dr=>by
 obtain⟨a,ea,ha,hR⟩:=E.ent i _ hΓ
 have h0:H0 a=none:=E.new i _ a hΓ rfl ea
 refine sS (iW (br hN hv hd UI)) ⟨.ref a,at_of ea,dr _ H (upd R a (.dK (bZ (cR F)))) ⟨E.ext.h,E.ext.r.trans (au.fresh hR _),λb o qb=>?_,λb hb=>?_⟩ ⟨F,⟨a,rfl,aF⟩,h⟩⟩
 ·by_cases hb:b=a
  ·subst hb;rw[aF] at qb;cases qb;exact ha
  ·rw[aJ hb] at qb;exact E.ext.s b o qb
 ·rw[aJ (show b≠a from λe=>hb (by rw[e];exact h0))];exact E.ext.old b hb
theorem aw.Nc {K:T2}{σ:St}{H0 R0 H R H' R':Hp}{Γf:Ga}(E:aw K σ H0 R0 H R Γ)(E':aw K σ H H H' R' Γf):aw K σ H0 R0 H' R Γ:=
 E.grow ⟨E'.ext.h,au.refl _,E.sub.trans E'.ext.h,λ_ _=>rfl⟩
theorem TV.VJ {Γf:Ga}(hF:∀(σ:St) (H0 R0 H R:Hp),aw X.K σ H0 R0 H R Γ->aw X.K σ H H H H Γf){e:Expr}{b:Bool}(h:TV X e Γf b Γf):TV X e Γ b Γ:=λσ H0 R0 H R E Q q=>
 h σ H H H H (hF σ H0 R0 H R E) Q λH' R' E' s'=>q H' R (E.Nc E') (au.refl _)
def jO:Rep Unit:=⟨λ_ _ v _=>v= .UQ,λ_ h=>h⟩
theorem qz {S:bQ}{k:Nat}{e:Expr}{es:Oj}{p p2:Pos}{ps:List Pk}{Pd:Unit->Prop}(C:aA X.prog X.w X.K X.mg X.base x k (aE S X.K))(hr:bI k X.A)(ha:HA X (e::es) Γ ps Γ1)(hS:S X.K ps (bL X.K jO Pd))(h:N Γ1)
 (hg:Gl X x:=by rfl) (Vo:UX x:=by decide) (he:Rc (e::es) X.env=(false,eval e X.env)::Rc es X.env:=by rfl) (U0:(Rk p2 (Rc es X.env)).any (·.1)=false:=by rfl)
 (VH:Rl (.Call (.Name x p) (e::es) [] p2) none pos.line X.env=pure false:=by rfl):W1 X (.Expr (.Call (.Name x p) (e::es) [] p2) pos) Γ N T:=λσ H0 R0 H R E D dn dr=>
 sS (gM aP VH) (kX C hr ha hS E (λH1 R1 v H' R' E1 s1 xx t=>dn σ H' R' _ (E1.grow xx) (s1.trans xx.r) h) hg Vo he U0)
end
section
variable {P:Rh}{w:World}{K:T2}{mg:Oc}{base:Heap}{α:Type}
theorem zL {S:bQ}{x qual:Str}{st:Stmt}{f:Addr}{fd:Rm}{N ps:Of}{k:Nat}(F:dH K x qual st f fd)(Sc:ay N ps (ag st))(hm:mg x=some (.ref f))(hb:Binds K fd ps [])(len:∀qs T,S K qs T->qs.length=ps.length)
 (UT:∀(UE:Value) (A:Ri) (outer:List Env) (s:Q9) (H:Hp) (E:XK) (qs:List Pk) (T:RT),bI k (A.deeper (Q5 qual (ag st) s.heap.objs.size f UE))->S K qs T->(∀H0 H' R',T H0 .UQ H' R')/\
  WS (eD d7 P w K mg base N qual (ag st) f UE A outer s H E).ic (bu st) (eh qs N.length) (λ_=>True) T):aA P w K mg base x (k+1) (aE S K):=by
 refine⟨f,fd,ps,?_,hm,F.kp,hb⟩
 refine F.ok Sc (λvs H Q E h=>?_) (λUE A outer s H vs Q E hr h=>?_)
 ·obtain⟨R,qs,T,_,p,hS,_⟩:=h
  rw[p.length];exact len qs T hS
 ·obtain⟨R,qs,T,sR,p,hS,q⟩:=h
  have hl:qs.length<=N.length:=by
   rw[len qs T hS]
   have:=congrArg List.length Sc.pre
   rw[OY] at this
   omega
  obtain⟨h1,h2⟩:=UT UE A outer s H E qs T hr hS
  exact⟨_,jX,h2 (L2.start N vs) H R H R (i8 sR p hl) {nx:=λ_ H'=>Q .UQ H',rt:=Q} (λσ' H' R' Γ' E' _ _=>q .UQ H' R' E'.ext (h1 _ _ _)) λv H' R' xx t=>q v H' R' xx t⟩
theorem DX {S:bQ}{x:Str}{st:Stmt}{N ps:Of}{k:Nat}(D:Def K mg x st ps)(Sc:ay N ps (ag st))
 (UT:∀(f:Addr) (UE:Value) (A:Ri) (outer:List Env) (s:Q9) (H:Hp) (E:XK) (qs:List Pk) (T:RT),bI k (A.deeper (Q5 x (ag st) s.heap.objs.size f UE))->S K qs T->(∀H0 H' R',T H0 .UQ H' R')/\
  WS (eD d7 P w K mg base N x (ag st) f UE A outer s H E).ic (bu st) (eh qs N.length) (λ_=>True) T)
 (len:∀qs T,S K qs T->qs.length=ps.length:=by(intros;rename_i h;repeat (first | (rw[h.1];rfl) | obtain⟨_,h⟩:=h))):aA P w K mg base x (k+1) (aE S K):=by
 obtain⟨f,fd,F,hm,hb⟩:=D
 exact zL F Sc hm hb len (UT f)
end
section
variable {X:Cx}{Γ Γ1 Γ2 Γ3:Ga}{α β γ δ:Type}{N:Ga->Prop}{T:RT}
variable {r:Rep α}{xs:List α}{x:Str}{pos:Pos}
theorem KR (i:Nat)(hΓ:Γ[i]?=some (.im (ae r) xs))(hN:X.N[i]?=some x:=by rfl)(hv:autoParam (cN X.env.scope x) Vc)
 (hd:UX x:=by decide) (UI:Ve x:=by decide)
 (he:∀whole,RZ (.Name x pos) X.env whole=(do let v ← whole;Sg (Expr.Name x pos).pos;RM [v] (SF v)):=by intro _;rfl):TV X (.Name x pos) Γ (!xs.isEmpty) Γ:=by
 intro σ H0 R0 H R E Q q
 obtain⟨v,ea,a,vs,rfl,ha,pp,_⟩:=E.ent i _ hΓ
 refine tS (nX (br hN hv hd UI) he) ⟨.ref a,at_of ea, !xs.isEmpty,.inl ⟨vs,aZ.of (E.sub _ _ ha),?_⟩,q H R E (au.refl _)⟩
 cases pp<;>rfl
theorem zC (i:Nat){e:Expr}{p1 ap cp:Pos}{y:α}(he:EV X e Γ r y Γ1)(hΓ:Γ[i]?=some (.mu r xs))(hΓ1:Γ1[i]?=some (.mu r xs))(hz:xs.length<Ra)
 (hN:X.N[i]?=some x:=by rfl) (hv:autoParam (cN X.env.scope x) Vc)
 (hd:UX x:=by decide) (UI:Ve x:=by decide)
 (UO:Rj (.Name x p1) "append" X.env (eval (.Name x p1) X.env)=eval (.Name x p1) X.env:=by rfl)
 (U6:((Rk cp (Rc [e] X.env)).all (λx=> !x.1)&&(RS cp (RA [] X.env)).all (λx=>x.1.isSome)
  &&decide ([e].length+([]:List Rp).length+(if([]:List Rp).isEmpty then 0 else 1)<30))=true:=by rfl)
 (UN:(ap.endLine==cp.line)=true:=by rfl) (hs:Rc [e] X.env=(false,eval e X.env)::Rc [] X.env:=by rfl):EV X (.Call (.Attribute (.Name x p1) "append" ap) [e] [] cp) Γ jO () (Γ1.set i (.mu r (xs++[y]))):=λσ H0 R0 H R E Q q=>by
 obtain⟨a,vs,ea,ha,hR,pp⟩:=E.ent i _ hΓ
 refine eS (iI S9 Tb Tc j4 (br hN hv hd UI) (a7 aP bJ hs) UO U6 UN hs rfl) ?_
 refine⟨.ref a,at_of ea,.inl ⟨rfl,vs,aZ.of ha⟩,he σ H0 R0 H R E _ λv H1 R1 E1 s1 e1=>?_⟩
 obtain⟨a',U7,Vb,VA,Vg,Vq⟩:=E1.ent i _ hΓ1
 rw[ea] at Vb;cases Vb
 refine⟨a,U7,v,rfl,rfl,VA,by rw[Vq.length];exact hz,?_⟩
 exact q _ _ R1 (E1.upd (en:=.mu r (xs++[y])) hΓ1 rfl ea Vg ⟨a,_,rfl,aF,Vg,dj Vq (.cons e1 .nil)⟩) s1 rfl
theorem oa {i:Nat}(hΓ:Γ[i]?=some (.mu r xs))(hz:xs.length<=Ra)(σ:St)(H0 R0 H R:Hp)(E:aw X.K σ H0 R0 H R Γ):aw X.K σ H H H H ((Γ.map rW).set i (.im (ae r) xs)):=by
 obtain⟨a,vs,ea,ha,hR,pp⟩:=E.ent i _ hΓ
 exact E.VJ.oU (i:=i) (e0:=.no) (by rw[OJ,hΓ];rfl) ⟨.ref a,ea,a,vs,rfl,ha,Paired.map (λ_ _=>r.mono E.sub) pp,hz⟩ λb w=>by cases w
theorem pV (i:Nat){p1:Pos}{P:List α->Prop}(hΓ:Γ[i]?=some (.mu r xs))(hz:xs.length<=Ra)(h:P xs)(hN:X.N[i]?=some x:=by rfl)(hv:autoParam (cN X.env.scope x) Vc)
 (hd:UX x:=by decide) (UI:Ve x:=by decide):W1 X (.Return (some (.Name x p1)) pos) Γ N (nu X.K r P):=λσ H0 R0 H R E D dn dr=>by
 obtain⟨a,vs,ea,ha,hR,pp⟩:=E.ent i _ hΓ
 exact sS (iW (br hN hv hd UI)) ⟨.ref a,at_of ea,dr _ H R E.ext ⟨a,vs,xs,rfl,E.new i _ a hΓ rfl ea,ha,hR,pp,hz,h⟩⟩
theorem Fb {j:Nat}:EV X (.Constant .none j pos) Γ jO () Γ:=λ_ _ _ _ _ E _ q=>eS Hk (q _ _ _ E (au.refl _) rfl)
end
section
variable {X:Cx}{Γ Γ1 Γ2 Γ3:Ga}{α β γ δ:Type}{N:Ga->Prop}{T:RT}
variable {e:Expr}{r:Rep α}{r':Rep β}
def uD (r:Rep α)(r':Rep β):Rep (α ⊕ β):=⟨λK H v o=>match o with | .inl x=>r.R K H v x | .inr y=>r'.R K H v y,λ{K H H' v o} s h=>by cases o with | inl x=>exact r.mono s h | inr y=>exact r'.mono s h⟩
theorem EV.inl {x:α}(h:EV X e Γ r x Γ1):EV X e Γ (uD r r') (.inl x) Γ1:=EV.rep h λ_ _ q=>q
theorem EV.inr {y:β}(h:EV X e Γ r' y Γ1):EV X e Γ (uD r r') (.inr y) Γ1:=EV.rep h λ_ _ q=>q
theorem EV.ofl {x:α}(h:EV X e Γ (uD r r') (.inl x) Γ1):EV X e Γ r x Γ1:=EV.rep h λ_ _ q=>q
theorem EV.nk {y:β}(h:EV X e Γ (uD r r') (.inr y) Γ1):EV X e Γ r' y Γ1:=EV.rep h λ_ _ q=>q
end
section
variable {X:Cx}{Γ Γ1 Γ2 Γ3:Ga}{α β γ δ:Type}{N:Ga->Prop}{T:RT}
end
section
variable {X:Cx}{Γ Γ1 Γ2 Γ3:Ga}{α β γ δ:Type}{N:Ga->Prop}{T:RT}
def mB (H:Hp)(l:Oh):Hp:=λb=>if b∈l then none else H b
theorem qo {H:Hp}{l:Oh}{b:Addr}(h:b∈l):mB H l b=none:=Ut h
theorem uL {H:Hp}{l:Oh}{b:Addr}(h:b∉l):mB H l b=H b:=Us h
theorem AM {H:Hp}{l:Oh}:au (mB H l) H:=λb o q=>by
 by_cases h:b∈l
 ·rw[qo h] at q;cases q
 ·rwa [uL h] at q
variable {P:Rh}{w:World}{K:T2}{mg:Oc}{base:Heap}
end
section
variable {X:Cx}{Γ Γ1 Γ2 Γ3:Ga}{α β γ δ:Type}{N:Ga->Prop}{T:RT}
structure LK (P:Type):Type 1 where
 bx:Oh->P->wq
 fp:∀l s,(bx l s).fp=l
 at_:∀{K H R v l s},(bx l s).R K H R v->∃a t,l=a::t/\v= .ref a
abbrev t9 (R:Hp)(l:Oh):Prop:=∀b∈l,R b=none
theorem yZ {P:Type}{B:LK P}{K:T2}{H R:Hp}{a:Addr}{l:Oh}{s:P}{o:Option V}(h:(Ent.ob (B.bx (a::l) s)).ok K H R o):o=some (.ref a)/\(B.bx (a::l) s).R K H R (.ref a)/\t9 R (a::l):=by
 obtain⟨⟨v,e,hv⟩,hR⟩:=h
 obtain⟨a',t,el,ev⟩:=B.at_ hv
 cases el
 subst ev
 exact⟨e,hv,λb hb=>hR b (by rw[B.fp];exact hb)⟩
theorem Ab {P:Type}{B:LK P}{K:T2}{H R:Hp}{a:Addr}{l:Oh}{s:P}(h:(B.bx (a::l) s).R K H R (.ref a))(hR:t9 R (a::l)):(Ent.ob (B.bx (a::l) s)).ok K H R (some (.ref a)):=
 ⟨⟨_,rfl,h⟩,λc hc=>hR c (by rw[B.fp] at hc;exact hc)⟩
theorem xb {P:Type}{B:LK P}{K:T2}{R H:Hp}{a:Addr}{l:Oh}{st:P}{vs:List V}{ps:List Pk}{N:Of}(s:au R H)(hR:t9 R (a::l))(hB:(B.bx (a::l) st).R K H R (.ref a))(p:j7 K R vs ps)(hl:ps.length+1<=N.length):
 aw K (L2.start N (.ref a::vs)) (mB H (a::l)) R H R (.ob (B.bx (a::l) st)::eh ps (N.length-1)):=by
 obtain⟨n0,N',rfl⟩:∃n0 N',N=n0::N':=by cases N with
  | nil=>exact Ur hl (by simp)
  | cons n N'=>exact⟨n,N',rfl⟩
 have Wa:ps.length<=N'.length:=by simpa using hl
 have E0:=i8 (N:=N') s p Wa
 have es:L2.start (n0::N') (.ref a::vs)=some (.ref a)::L2.start N' vs:=by unfold L2.start;simp
 rw[es]
 have U1:∀(i:Nat) (e:Ent) (o:Option V),(eh ps N'.length)[i]?=some e->e.fp o=[]:=λi e o q=>by
  unfold eh at q
  rcases OS.mp (OK q) with z | z
  ·obtain⟨p,_,rfl⟩:=OO.mp z;rfl
  ·obtain⟨_,rfl⟩:=Qn.mp z;rfl
 refine⟨⟨AM,au.refl _,s,λ_ _=>rfl⟩,λi e q=>?_,λi e c q w=>?_,λi j e e' c q q' w w'=>?_,?_⟩
 ·cases i with
  | zero=>simp at q;subst q;exact Ab hB hR
  | succ i=>simp at q;simpa using E0.ent i e q
 ·cases i with
  | zero=>
    simp at q;subst q
    have w:c∈(B.bx (a::l) st).fp:=w
    rw[B.fp] at w
    exact qo w
  | succ i=>simp at q;rw[U1 i e _ q] at w;cases w
 ·cases i with
  | succ i=>simp at q;rw[U1 i e _ q] at w;cases w
  | zero=>
    cases j with
    | zero=>rfl
    | succ j=>simp at q';rw[U1 j e' _ q'] at w';cases w'
 ·have:=E0.len
  simp[this]
variable {P:Rh}{w:World}{K:T2}{mg:Oc}{base:Heap}
end
section
variable {X:Cx}{Γ Γ1 Γ2 Γ3:Ga}{α β γ δ:Type}{N:Ga->Prop}{T:RT}
structure bH (K:T2) (C:Addr) (ns:Of):Prop where
 cl:kA K C
 no:∀f∈ns,jz K C f
end
section
variable {X:Cx}{Γ Γ1 Γ2 Γ3:Ga}{α β γ δ:Type}{N:Ga->Prop}{T:RT}
end
section
variable {X:Cx}{Γ Γ1 Γ2 Γ3:Ga}{α β γ δ:Type}{N:Ga->Prop}{T:RT}
end
section
variable {X:Cx}{Γ Γ1 Γ2 Γ3:Ga}{α β γ δ:Type}{N:Ga->Prop}{T:RT}
variable {P:Rh}{w:World}{K:T2}{mg:Oc}{base:Heap}
end
end Fc
namespace Fc.DP
open PySem PySem.Spec
section
variable {prog:Rh}{w:World}{A:Ri}{E:Value->Q9->Prop}{h:Heap}{g:Array SN}{d:Drawn}{t:Nat}{os:OsState}{a:Addr}{o:Obj}
end
section
variable {prog:Rh}{w:World}{K:Type} [DecidableEq K]{knd:KeyKind prog w K}{A:Ri}{R:Result->Q9->Prop}{I:Addr}{fp wr:Oh}{G:Array SN->Array SN->Prop}{n:Nat}{P:Nat->Value->Prop}{St:Nat->Q9->Prop}
end
section
variable {prog:Rh}{w:World}{K:Type} [DecidableEq K]{knd:KeyKind prog w K}{A:Ri}{E:Value->Q9->Prop}{s:Q9}
end
end Fc.DP
namespace Fc
open PySem PySem.Spec PySem.W PySem.Calls L2
open PyProof.Rows hiding St
section
variable {X:Cx}{Γ Γ1 Γ2 Γ3:Ga}{α β γ δ:Type}{N:Ga->Prop}{T:RT}
end
section
variable {X:Cx}{Γ Γ1 Γ2 Γ3:Ga}{α β γ δ:Type}{N:Ga->Prop}{T:RT}
variable {x y:Str}
theorem kL:decide (V.str x=V.str y)=decide (x=y):=by
 by_cases h:x=y
 ·subst h;simp
 ·rw[Ux h,Ux λz=>h (by injection z)]
theorem cv:fz X .Eq aj aj x y (decide (x=y)):=⟨_,C8,λR H v u Q _ e1 e2 q=>by
 cases e1;cases e2
 exact⟨rfl,by rw[kL];exact q⟩⟩
theorem C6:fz X .NotEq aj aj x y (!decide (x=y)):=⟨_,xj,λR H v u Q _ e1 e2 q=>by
 cases e1;cases e2
 exact⟨rfl,by rw[kL];exact q⟩⟩
theorem nL {pos:Pos}{n:Str}{t:Tok}(hm:X.mg x=some (.str n t))(hg:Gl X x:=by rfl)(hd:UX x:=by decide):EV X (.Name x pos) Γ aj n Γ:=
 λ_ _ _ _ _ E _ q=>eS (iq (v:=.str n) hg hm ⟨t,rfl⟩ hd) (q (.str n) _ _ E (au.refl _) rfl)
def sZ:Rep Of:=⟨λK R v xs=>∃a,v= .ref a/\dc K R a (xs.map V.str),λs ⟨a,e,h⟩=>⟨a,e,by
 rcases h with h | h
 ·exact .inl (h.imp (λq=>s _ _ q) λ⟨o,q⟩=>⟨o,s _ _ q⟩)
 ·exact .inr h⟩⟩
theorem lg (x:Str):∀xs:Of,Dt (.str x) (xs.map V.str)=decide (x∈xs)
 | []=>rfl
 | y::r=>by
   have h:=lg x r
   unfold Dt at h ⊢
   rw[Pc,Qq,h]
   have e:pB (V.str y) (V.str x)=decide (x=y):=by
    show(y==x)=_
    by_cases h:x=y
    ·subst h;simp
    ·rw[Ux h];exact beq_eq_false_iff_ne.mpr (QW h)
   rw[e]
   by_cases h1:x=y<;>simp[h1]
theorem kf:∀xs:Of,(xs.map V.str).all jk=true
 | []=>rfl
 | _::r=>by rw[Pc,all_cons,kf r];rfl
theorem jY {xs:Of}:fz X .In aj sZ x xs (decide (x∈xs)):=⟨_,qH,λR H v u Q s e1 e2 q=>by
 cases e1
 obtain⟨a,rfl,h⟩:=e2
 exact⟨a,_,rfl,.inr (h.imp (λh=>h.imp (λq=>s _ _ q) λ⟨o,q⟩=>⟨o,s _ _ q⟩) id),rfl,kf xs,by rw[Us Oo,lg];exact q⟩⟩
def qx (K:T2)(mg:Oc)(x:Str)(xs:Of):Prop:=∃a o UD n,mg x=some (.ref a)/\K.lookup a=some o/\o.cls= .type "tuple"/\o.data= .seq UD n/\UD.size<=Ra/\Vals (xs.map V.str) UD.toList
theorem gx {pos:Pos}{xs:Of}(hm:qx X.K X.mg x xs)(hg:Gl X x:=by rfl)(hd:UX x:=by decide):EV X (.Name x pos) Γ sZ xs Γ:=by
 obtain⟨a,o,UD,n,h1,h2⟩:=hm
 exact λ_ _ _ _ _ E _ q=>eS (iq (v:=.ref a) hg h1 rfl hd) (q (.ref a) _ _ E (au.refl _) ⟨a,rfl,.inr ⟨o,UD,n,h2⟩⟩)
end
def lj (P:Rh)(w:World)(K:T2)(mg:Oc)(x:Str)(D:List (Str×Of)):Prop:=
 ∃a o vs,mg x=some (.ref a)/\K.lookup a=some o/\o.IsDictOf (bY P w) vs/\(a==Rx)=false/\
  PySem.Paired (λ(d:Str×Of) (p:Key×Value)=>p.1=Sum.inr d.1/\∃b o UD n,p.2= .ref b/\K.lookup b=some o/\o.cls= .type "tuple"/\o.data= .seq UD n/\UD.size<=Ra/\Vals (d.2.map V.str) UD.toList) D vs
def cu:List (Str×Of)->Str->Option Of
 | [],_=>none
 | (k,v)::r,x=>if k=x then some v else cu r x
theorem r6 {K:T2}{x:Str}:∀{D:List (Str×Of)} {vs:List (Key×Value)},PySem.Paired (λ(d:Str×Of) (p:Key×Value)=>p.1=Sum.inr d.1/\∃b o UD n,p.2= .ref b/\K.lookup b=some o/\o.cls= .type "tuple"/\o.data= .seq UD n/\UD.size<=Ra/\Vals (d.2.map V.str) UD.toList) D vs->
 (cu D x=none/\RG vs (Sum.inr x:Key)=none)∨∃ys b,cu D x=some ys/\RG vs (Sum.inr x:Key)=some (.ref b)/\∃o UD n,K.lookup b=some o/\o.cls= .type "tuple"/\o.data= .seq UD n/\UD.size<=Ra/\Vals (ys.map V.str) UD.toList
 | _,_,.nil=>.inl ⟨rfl,rfl⟩
 | _,_,.cons (a:=d) (b:=p) h t=>by
   obtain⟨k,v⟩:=d
   obtain⟨q,u⟩:=p
   obtain⟨e1,b,o,UD,n,e2,h3⟩:=h
   have e1:q=Sum.inr k:=e1
   have e2:u=TN b:=e2
   subst e1;subst e2
   rw[cu]
   unfold RG
   rw[PJ]
   by_cases e:k=x
   ·subst e
    rw[Ut rfl]
    exact .inr ⟨v,b,rfl,by simp,o,UD,n,h3⟩
   ·rw[Us e]
    have:decide ((Sum.inr k:Key)=Sum.inr x)=false:=Ux λz=>e (Sum.inr.inj z)
    simp only[this]
    exact r6 t
section
variable {X:Cx}{Γ Γ1 Γ2 Γ3:Ga}{α β γ δ:Type}{N:Ga->Prop}{T:RT}
theorem zu {e:Expr}{x:Str}{p1 pos:Pos}{D:List (Str×Of)}{k:Str}(hD:lj X.prog X.w X.K X.mg x D)(he:EV X e Γ aj k Γ1)(hg:Gl X x:=by rfl)(hd:UX x:=by decide):TV X (.Compare e [.NotIn] [.Name x p1] pos) Γ (!(cu D k).isSome) Γ1:=by
 intro σ H0 R0 H R E Q q
 obtain⟨a,o,vs,hm,hk,hdo,hs,hp⟩:=hD
 have pc:PC X .NotIn e (.Name x p1) (λσ H Q=>eQ X e σ H λy H1=>y= .str k/\Q (.bl (!(cu D k).isSome)) H1):=by
  intro UB s σ H Q I h
  refine aX (h UB s I) λiv s1 ⟨y,H1,I1,ry,ey,q1⟩=>aX (iq (v:=.ref a) hg hm rfl hd UB s1 σ H1 (λv H2=>v= .ref a/\H2=H1) I1 ⟨rfl,rfl⟩) λu s2 ⟨y2,H2,I2,ry2,e3,e4⟩=>?_
  subst ey;subst e3;subst e4
  obtain rfl:u=TN a:=ry2
  have dd:s2.heap.DictOf (bY X.prog X.w) a vs:=Tr.mpr ⟨o,I2.fe a o hk,hdo⟩
  refine wpAny_notIn_of (jh (k:=Sum.inr k) ry) hs dd.mapOf ?_
  rcases r6 (x:=k) hp with⟨h1,h2⟩ | ⟨ys,b,h1,h2,_⟩
  ·rw[h2];rw[h1] at q1;exact⟨.bl _,_,I2.tok _,rfl,q1⟩
  ·rw[h2];rw[h1] at q1;exact⟨.bl _,_,I2.tok _,rfl,q1⟩
 refine tS (lY pc (by with_unfolding_all rfl)) (he σ H0 R0 H R E _ λv H1 R1 E1 s1 e1=>⟨e1,_,rfl,q H1 R1 E1 s1⟩)
end
end Fc
namespace Fc.ZT
open PySem PySem.Spec PyProof.Rows
section
variable {prog:Rh}{w:World}{A:Ri}{E:Value->Q9->Prop}{s:Q9}
structure Dr (prog:Rh) (w:World) (A:Ri) (i l:Addr) (UD:Array Value) (St:Nat->Heap->Prop):Prop where
 up:∀{k:Nat} {h h':Heap},St k h->(∀b,b=i∨b=l->∀o,h.get? b=some o->h'.get? b=some o)->St k h'
 there:∀{k:Nat} {h:Heap},St k h->i<h.objs.size
 item:∀{k:Nat} {x:Value} {s:Q9} {Q:Value->Q9->Prop} {E:Value->Q9->Prop},St k s.heap->UD[k]?=some x->(∀h',St (k+1) h'->Tp i s.heap h'->Q x {s with heap:=h'})->wpAny (model prog w) A (S0 (.ref i)) Q E s
 done:∀{k:Nat} {s:Q9} {Q:Value->Q9->Prop} {E:Value->Q9->Prop},St k s.heap->UD[k]?=none->(∀h' e,Heap.ExtBut i s.heap h'->(∃o,h'.get? e=some o/\o.cls= .type "StopIteration")->E (.ref e) {s with heap:=h'})->wpAny (model prog w) A (S0 (.ref i)) Q E s
theorem uN {i l:Addr}{UD:Array Value}(hh:A.handled=none)(UJ:i≠l):Dr prog w A i l UD (λk h=>h.IsTupleIter i l k/\h.IsTuple l UD) where
 up:=λ⟨⟨o,ho,r⟩,⟨o',VY,r'⟩⟩ hk=>⟨⟨o,hk _ (.inl rfl) o ho,r⟩,⟨o',hk _ (.inr rfl) o' VY,r'⟩⟩
 there:=λ⟨⟨o,ho,_⟩,_⟩=>Tj ho
 item:=λ{k x s Q E} ⟨hit,ht⟩ hx hQ=>by
  obtain⟨o,ho,hc,hd⟩:=id hit
  obtain⟨ol,hol,_,nl,XM⟩:=id ht
  unfold S0
  refine Rb (Ry (name:=TK "__next__") hit.typeIs Ta
   (RR Ta hit.typeIs F.entry_tuple_iterator_next ?_ (F.args_tuple_iterator_next_1 _)))
  show wpAny _ _ (field (.ref i) 0 >>=_) _ _ s
  refine Rb (Rt ho hd (x:=.ref l) rfl ?_)
  refine wpAny_ite ?_
  rw[Us (show¬((TN l==TQ)=true) from Oo)]
  show wpAny _ _ (field (.ref i) 1 >>=_) _ _ s
  refine Rb (Rt ho hd (x:=.int k 0) rfl ?_)
  show wpAny _ _ (seqItems? (.ref l) >>=_) _ _ s
  refine Rb (RJ hol XM ?_)
  simp only[Int.toNat_natCast,hx]
  have hs:=Tp.update s.heap i (λo=>o.mapFields λa=>a.setIfInBounds 1 (SH (k+1)))
  refine Rb (wpAny_setField ho hd (by simp) (Rg ⟨x,rfl,Rg (hQ _ ⟨?_,ht.extBut (Tp.update ..).extBut (QW UJ)⟩ (Tp.update ..))⟩))
  exact⟨_,Tq _ ho (Obj.isFreed_of_fields (Obj.data_mapFields hd _)),(Obj.cls_mapFields ..).trans hc,by rw[Obj.data_mapFields hd];simp[SH]⟩
 done:=λ{k s Q E} ⟨hit,ht⟩ hx hE=>by
  obtain⟨o,ho,hc,hd⟩:=id hit
  obtain⟨ol,hol,_,nl,XM⟩:=id ht
  unfold S0
  refine Rb (Ry (name:=TK "__next__") hit.typeIs Ta
   (RR Ta hit.typeIs F.entry_tuple_iterator_next ?_ (F.args_tuple_iterator_next_1 _)))
  show wpAny _ _ (field (.ref i) 0 >>=_) _ _ s
  refine Rb (Rt ho hd (x:=.ref l) rfl ?_)
  refine wpAny_ite ?_
  rw[Us (show¬((TN l==TQ)=true) from Oo)]
  show wpAny _ _ (field (.ref i) 1 >>=_) _ _ s
  refine Rb (Rt ho hd (x:=.int k 0) rfl ?_)
  show wpAny _ _ (seqItems? (.ref l) >>=_) _ _ s
  refine Rb (RJ hol XM ?_)
  simp only[Int.toNat_natCast,hx]
  refine Rb (Sl (Rb (wpAny_setField ho hd (by simp) ?_)))
  show wpAny _ _ (newExc (.type "StopIteration") [] >>=_) _ _ _
  refine Rb ?_
  simp only[newExc,newTuple]
  refine Rb (RC ?_ (by size_fits))
  refine Rb (m:=firstArgMember _ _) (wpAny_of_eq (a:=TQ) (by first | rfl | (simp only[firstArgMember];rfl)) ?_)
  refine RC ?_ (by size_fits)
  simp only[raiseNew]
  refine Rb (wpAny_handled ?_)
  first | rw[show A.in1.handled=none from hh] | rw[hh]
  refine Rb (Rg (wpAny_throw ?_))
  exact hE _ _ (((Tp.update ..).extBut.push _).push _) ⟨_,Tn _ rfl,rfl⟩
section
variable {z TI TO i1 i2 l1 l2:Addr}{k1 k2:Nat}{xs ys:Array Value}{x y a b:Value}{S1 S2:Nat->Heap->Prop}
theorem up1 {i l c:Addr}{UD:Array Value}{St:Nat->Heap->Prop}(d:Dr prog w A i l UD St){k:Nat}{h h':Heap}(hs:St k h)(e:Heap.ExtBut c h h')(h1:i≠c)(h2:l≠c):St k h':=d.up hs λb hb o q=>e b o (by rcases hb with rfl | rfl<;>assumption) q
theorem Es {Q:Value->Q9->Prop}(D:ZipApart z TI TO i1 i2 l1 l2)(d1:Dr prog w A i1 l1 xs S1)(d2:Dr prog w A i2 l2 ys S2)
 (hz:IsZip s.heap z TI TO .none) (Vy:Rv s.heap TI (.ref i1) (.ref i2)) (Vr:Rv s.heap TO a b) (h1:S1 k1 s.heap) (h2:S2 k2 s.heap) (hx:xs[k1]?=some x) (hy:ys[k2]?=some y)
 (hQ:∀h',IsZip h' z TI TO (SH s.heap.objs.size)->Rv h' TO x y->S1 (k1+1) h'->S2 (k2+1) h'->Rv h' s.heap.objs.size x y->(∀c o,c≠z->c≠TO->c≠i1->c≠i2->s.heap.get? c=some o->h'.get? c=some o)->Q (.ref s.heap.objs.size) {s with heap:=h'}):
 wpAny (model prog w) A (Builtin.«zip.__next__» ⟨[.ref z],[]⟩) (λfin s'=>∃v,fin= .done (.ret v)/\Q v s') E s:=by
 show wpAny _ _ (field (.ref z) 2 >>=_) _ _ _
 refine Rb (Rt hz rfl (x:=.bool false) rfl ?_)
 show wpAny _ _ (field (.ref z) 3 >>=_) _ _ _
 refine Rb (Rt hz rfl (x:=.ref TI) rfl (Rb (RJ Vy rfl ?_)))
 show wpAny _ _ (S3 (.ref z) >>=_) _ _ _
 refine Rb ?_
 unfold S3
 refine Rb (Rt hz rfl (x:=.none) rfl (Rg ?_))
 simp only[if_true]
 refine Rb (Sl (Rb (Rt hz rfl (x:=.ref TO) rfl (Rb (RL hz (by simp) λha XB WW=>?_)))))
 replace XB:IsZip ha z TI TO .ellipsis:=XB
 refine Rb ?_
 simp only[List.zipIdx_cons,List.zipIdx_nil,Qw,forIn_nil]
 refine Rb (Rb (Ss ?_))
 show wpAny _ _ (S0 (.ref i1) >>=_) _ _ _
 have g1:S1 k1 ha:=up1 d1 h1 WW.extBut D.i1z D.l1z
 have g2:S2 k2 ha:=up1 d2 h2 WW.extBut D.i2z D.l2z
 refine Rb (d1.item g1 hx λhb n1 VM=>Rg ?_)
 have tb:Rv hb TO a b:=VM.extBut _ _ D.TOi1 (WW.extBut _ _ D.TOz Vr)
 refine Rb (RJ tb rfl (Rb (Sm tb λhc tc WL=>?_)))
 replace tc:Rv hc TO x b:=tc
 refine Rb (wpAny_letGo (Rg ?_))
 refine Rb (Rb (Ss ?_))
 show wpAny _ _ (S0 (.ref i2) >>=_) _ _ _
 have g2c:S2 k2 hc:=up1 d2 (up1 d2 g2 VM.extBut D.i12.symm D.l2i1) WL.extBut D.TOi2.symm D.l2TO
 refine Rb (d2.item g2c hy λhd n2 XD=>Rg ?_)
 have td:Rv hd TO x b:=XD.extBut _ _ D.TOi2 tc
 refine Rb (RJ td rfl (Rb (Sm td λhe te XC=>?_)))
 replace te:Rv he TO x y:=te
 refine Rb (wpAny_letGo (Rg (Rg ?_)))
 refine Rb (RJ te rfl (Rb (wpAny_newTuple ?_)))
 have hsz:he.objs.size=s.heap.objs.size:=by rw[XC.1,XD.1,WL.1,VM.1,WW.1]
 have ze:IsZip he z TI TO .ellipsis:=XC.extBut _ _ D.TOz.symm (XD.extBut _ _ D.i2z.symm (WL.extBut _ _ D.TOz.symm (VM.extBut _ _ D.i1z.symm XB)))
 have ke:∀c o,c≠z->c≠TO->c≠i1->c≠i2->s.heap.get? c=some o->he.get? c=some o:=λc o c1 c2 c3 c4 e=>
  XC.extBut _ _ c2 (XD.extBut _ _ c4 (WL.extBut _ _ c2 (VM.extBut _ _ c3 (WW.extBut _ _ c1 e))))
 have m1:S1 (k1+1) he:=up1 d1 (up1 d1 (up1 d1 n1 WL.extBut D.TOi1.symm D.l1TO) XD.extBut D.i12 D.l1i2) XC.extBut D.TOi1.symm D.l1TO
 have m2:S2 (k2+1) he:=up1 d2 n2 XC.extBut D.TOi2.symm D.l2TO
 have YR:z<he.objs.size:=Tj ze
 show wpAny _ _ (Builtin.SmallTypes.ownedTupleHandOut (.ref z) (.ref he.objs.size) >>=_) _ _ _
 refine Rb ?_
 unfold Builtin.SmallTypes.ownedTupleHandOut
 have zf:IsZip (he.push {cls:=.type "tuple",data:=.seq #[x,y]}) z TI TO .ellipsis:=Ti _ ze
 refine Rb (RL zf (by simp) λhg zg hsg=>?_)
 replace zg:IsZip hg z TI TO (SH he.objs.size):=zg
 refine RL zg (by simp) λhj zj hsj=>?_
 replace zj:IsZip hj z TI TO (SH he.objs.size):=zj
 have up:∀c o,c≠z->he.get? c=some o->hj.get? c=some o:=λc o c1 e=>hsj.extBut _ _ c1 (hsg.extBut _ _ c1 (Ti _ e))
 have tj:Rv hj he.objs.size x y:=hsj.extBut _ _ (QP YR) (hsg.extBut _ _ (QP YR) (Tn _ rfl))
 rw[hsz] at zj tj
 refine Rg ⟨_,rfl,?_⟩
 show Q (.ref he.objs.size) _
 rw[hsz]
 exact hQ hj zj (up _ _ D.TOz te) (d1.up m1 λc hc o e=>up c o (hc.elim (λq=>by rw[q];exact D.i1z) λq=>by rw[q];exact D.l1z) e) (d2.up m2 λc hc o e=>up c o (hc.elim (λq=>by rw[q];exact D.i2z) λq=>by rw[q];exact D.l2z) e) tj λc o c1 c2 c3 c4 e=>up c o c1 (ke c o c1 c2 c3 c4 e)
theorem my {Q:PySem.Fin->Q9->Prop}(D:ZipApart z TI TO i1 i2 l1 l2)(d1:Dr prog w A i1 l1 xs S1)(d2:Dr prog w A i2 l2 ys S2)
 (hz:IsZip s.heap z TI TO .none) (Vy:Rv s.heap TI (.ref i1) (.ref i2)) (Vr:Rv s.heap TO a b) (h1:S1 k1 s.heap) (h2:S2 k2 s.heap) (VU:xs[k1]?=none∨ys[k2]?=none)
 (hE:∀h' e,(∀c o,c≠z->c≠TO->c≠i1->c≠i2->s.heap.get? c=some o->h'.get? c=some o)->(∃o,h'.get? e=some o/\o.cls= .type "StopIteration")->E (.ref e) {s with heap:=h'}):
 wpAny (model prog w) A (Builtin.«zip.__next__» ⟨[.ref z],[]⟩) Q E s:=by
 show wpAny _ _ (field (.ref z) 2 >>=_) _ _ _
 refine Rb (Rt hz rfl (x:=.bool false) rfl ?_)
 show wpAny _ _ (field (.ref z) 3 >>=_) _ _ _
 refine Rb (Rt hz rfl (x:=.ref TI) rfl (Rb (RJ Vy rfl ?_)))
 show wpAny _ _ (S3 (.ref z) >>=_) _ _ _
 refine Rb ?_
 unfold S3
 refine Rb (Rt hz rfl (x:=.none) rfl (Rg ?_))
 simp only[if_true]
 refine Rb (Sl (Rb (Rt hz rfl (x:=.ref TO) rfl (Rb (RL hz (by simp) λha XB WW=>?_)))))
 replace XB:IsZip ha z TI TO .ellipsis:=XB
 refine Rb ?_
 simp only[List.zipIdx_cons,List.zipIdx_nil,Qw,forIn_nil]
 refine Rb (Rb (Ss ?_))
 show wpAny _ _ (S0 (.ref i1) >>=_) _ _ _
 have g1:S1 k1 ha:=up1 d1 h1 WW.extBut D.i1z D.l1z
 have g2:S2 k2 ha:=up1 d2 h2 WW.extBut D.i2z D.l2z
 cases hx:xs[k1]? with
 | none=>
   refine Rb (d1.done g1 hx λhb e VM he=>?_)
   obtain⟨oe,X9,Zm⟩:=he
   have zb:IsZip hb z TI TO .ellipsis:=VM _ _ D.i1z.symm XB
   have hez:e≠z:=λq=>by subst q;rw[zb] at X9;cases X9;simp at Zm
   exact RL zb (by simp) λhc _ WL=>hE hc e (λc o c1 _ c3 _ q=>WL.extBut _ _ c1 (VM _ _ c3 (WW.extBut _ _ c1 q))) ⟨oe,WL.extBut _ _ hez X9,Zm⟩
 | some x=>
   have hy:ys[k2]?=none:=by rcases VU with q | q;rw[hx] at q;cases q;exact q
   refine Rb (d1.item g1 hx λhb n1 VM=>Rg ?_)
   have tb:Rv hb TO a b:=VM.extBut _ _ D.TOi1 (WW.extBut _ _ D.TOz Vr)
   refine Rb (RJ tb rfl (Rb (Sm tb λhc tc WL=>?_)))
   refine Rb (wpAny_letGo (Rg ?_))
   refine Rb (Rb (Ss ?_))
   show wpAny _ _ (S0 (.ref i2) >>=_) _ _ _
   have g2c:S2 k2 hc:=up1 d2 (up1 d2 g2 VM.extBut D.i12.symm D.l2i1) WL.extBut D.TOi2.symm D.l2TO
   refine Rb (d2.done g2c hy λhd e XD he=>?_)
   obtain⟨oe,X9,Zm⟩:=he
   have zd:IsZip hd z TI TO .ellipsis:=XD _ _ D.i2z.symm (WL.extBut _ _ D.TOz.symm (VM.extBut _ _ D.i1z.symm XB))
   have hez:e≠z:=λq=>by subst q;rw[zd] at X9;cases X9;simp at Zm
   exact RL zd (by simp) λhe _ XC=>hE he e (λc o c1 c2 c3 c4 q=>XC.extBut _ _ c1 (XD _ _ c4 (WL.extBut _ _ c2 (VM.extBut _ _ c3 (WW.extBut _ _ c1 q))))) ⟨oe,XC.extBut _ _ hez X9,Zm⟩
theorem Er {Q:Og->Q9->Prop}(D:ZipApart z TI TO i1 i2 l1 l2)(d1:Dr prog w A.in1 i1 l1 xs S1)(d2:Dr prog w A.in1 i2 l2 ys S2)
 (hz:IsZip s.heap z TI TO .none) (Vy:Rv s.heap TI (.ref i1) (.ref i2)) (Vr:Rv s.heap TO a b) (h1:S1 k1 s.heap) (h2:S2 k2 s.heap) (hx:xs[k1]?=some x) (hy:ys[k2]?=some y)
 (hQ:∀h',IsZip h' z TI TO (SH s.heap.objs.size)->Rv h' TO x y->S1 (k1+1) h'->S2 (k2+1) h'->Rv h' s.heap.objs.size x y->(∀c o,c≠z->c≠TO->c≠i1->c≠i2->s.heap.get? c=some o->h'.get? c=some o)->Q (some (.ref s.heap.objs.size)) {s with heap:=h'}):
 wpAny (model prog w) A (SG (.ref z)) Q E s:=by
 have hT:s.TypeIs (.ref z) "zip":=⟨_,hz,rfl⟩
 unfold SG
 exact Rb (wpAny_attempt (Ry (name:=TK "__next__") hT Td (RR Td hT F.entry_zip_next (Es D d1 d2 hz Vy Vr h1 h2 hx hy λh' a1 a2 a3 a4 a5 a6=>Rg (hQ h' a1 a2 a3 a4 a5 a6)) (F.args_zip_next_1 _))))
theorem JW {Q:Og->Q9->Prop}(D:ZipApart z TI TO i1 i2 l1 l2)(d1:Dr prog w A.in1 i1 l1 xs S1)(d2:Dr prog w A.in1 i2 l2 ys S2)
 (hz:IsZip s.heap z TI TO .none) (Vy:Rv s.heap TI (.ref i1) (.ref i2)) (Vr:Rv s.heap TO a b) (h1:S1 k1 s.heap) (h2:S2 k2 s.heap) (VU:xs[k1]?=none∨ys[k2]?=none)
 (hQ:∀h',(∀c o,c≠z->c≠TO->c≠i1->c≠i2->s.heap.get? c=some o->h'.get? c=some o)->Q none {s with heap:=h'}):wpAny (model prog w) A (SG (.ref z)) Q E s:=by
 have hT:s.TypeIs (.ref z) "zip":=⟨_,hz,rfl⟩
 unfold SG
 refine Rb (wpAny_attempt (Ry (name:=TK "__next__") hT Td (RR Td hT F.entry_zip_next (my D d1 d2 hz Vy Vr h1 h2 VU λh' e hk he=>?_) (F.args_zip_next_1 _))))
 obtain⟨o,ho,hc⟩:=he
 exact Rb (wpAny_isInstance (T:="StopIteration") (b:=true) ⟨o,ho,hc⟩ isSubtype_stop (Rg (hQ _ hk)))
end
end
end Fc.ZT
namespace Fc
open PySem PySem.Spec PySem.W PySem.Calls L2
open PyProof.Rows hiding St
section
variable {X:Cx}{Γ Γ1 Γ2 Γ3:Ga}{α β γ δ:Type}{N:Ga->Prop}{T:RT}
variable {es:Oj}{tp:Pos}
def MA (K:T2)(a b:Addr):It:=
 ⟨λi H=>∃xs ys x y,aZ K H a xs/\aZ K H b ys/\xs[i]?=some x/\ys[i]?=some y,
  λi H v H'=>∃p x y,H p=none/\v= .ref p/\H'=upd H p (.tup [x,y])/\(∀xs,aZ K H a xs->xs[i]?=some x)/\∀ys,aZ K H b ys->ys[i]?=some y,
  λi H=>∃xs ys,aZ K H a xs/\aZ K H b ys/\(xs.length<=i∨ys.length<=i)⟩
def MU (z TI TO i1 i2 a b:Addr)(i:Nat)(h:Heap):Prop:=
 IsZip h z TI TO .none/\Rv h TI (.ref i1) (.ref i2)/\(∃u v,Rv h TO u v)/\h.IsListIter i1 a i/\h.IsListIter i2 b i
structure tK (z TI TO i1 i2:Addr):Prop where
 TIz:TI≠z
 TOz:TO≠z
 i1z:i1≠z
 i2z:i2≠z
 TITO:TI≠TO
 TIi1:TI≠i1
 TIi2:TI≠i2
 TOi1:TO≠i1
 TOi2:TO≠i2
 i12:i1≠i2
theorem ng {a b:Nat}(h:a<b∨b<a): @Ne Addr a b:=h.elim QH QP
theorem Fy (n:Nat):tK (n+4) (n+2) (n+3) n (n+1):=⟨ng (by omega),ng (by omega),ng (by omega),ng (by omega),ng (by omega),ng (by omega),ng (by omega),ng (by omega),ng (by omega),ng (by omega)⟩
theorem dG {h:Heap}{l b:Addr}{UD:Array Value}{o:Obj}(p:PlainL h l UD)(e:h.get? b=some o)(hc:o.cls≠ .type "list"):l≠b:=λz=>by
 obtain⟨u,n,e',c,_⟩:=p
 rw[z,e] at e'
 cases e'
 exact hc c
theorem ZipApart.of {h:Heap}{z TI TO i1 i2 a b:Addr}{i:Nat}{xs ys:Array Value}(F:tK z TI TO i1 i2)(st:MU z TI TO i1 i2 a b i h)(pa:PlainL h a xs)(pb:PlainL h b ys):ZipApart z TI TO i1 i2 a b:=by
 obtain⟨hz,_,⟨u,v,Vr⟩,⟨o1,e1,c1,_⟩,⟨o2,e2,c2,_⟩⟩:=st
 exact⟨F.TIz,F.TOz,F.i1z,F.i2z,F.TITO,F.TIi1,F.TIi2,F.TOi1,F.TOi2,F.i12,
  dG pa hz (by simp),dG pa Vr (by simp),dG pa e1 (by rw[c1];simp),dG pa e2 (by rw[c2];simp),
  dG pb hz (by simp),dG pb Vr (by simp),dG pb e1 (by rw[c1];simp),dG pb e2 (by rw[c2];simp)⟩
theorem AE {P:Rh}{w:World}{K:T2}{k:Nat}(a b z TI TO i1 i2:Addr)(F:tK z TI TO i1 i2):Turn P w K (.Tuple es k tp) (MA K a b) [z,TI,TO,i1,i2] z (MU z TI TO i1 i2 a b) where
 mem:=by simp
 obj:=λi h st c hc=>by
  obtain⟨hz,Vy,⟨u,v,Vr⟩,⟨o1,e1,c1,d1⟩,⟨o2,e2,c2,d2⟩⟩:=st
  simp only[OT,O9,or_false] at hc
  rcases hc with rfl | rfl | rfl | rfl | rfl
  ·exact⟨_,hz,λv q=>by cases q⟩
  ·exact⟨_,Vy,λv q=>by cases q⟩
  ·exact⟨_,Vr,λv q=>by cases q⟩
  ·exact⟨o1,e1,λv q=>by rw[d1] at q;cases q⟩
  ·exact⟨o2,e2,λv q=>by rw[d2] at q;cases q⟩
 keep:=λi h h' st kk=>by
  obtain⟨hz,Vy,⟨u,v,Vr⟩,h1,h2⟩:=st
  exact⟨kk z (by simp) _ hz,kk TI (by simp) _ Vy,⟨u,v,kk TO (by simp) _ Vr⟩,h1.at λo e=>kk i1 (by simp) o e,h2.at λo e=>kk i2 (by simp) o e⟩
 item:=by
  intro X hP hw hK hc i UB s σ H E I hf st hg
  subst hP hw hK
  obtain⟨xs,ys,x,y,hq,VB,hx,hy⟩:=hg
  obtain⟨UD,r,pl,hz⟩:=I.list hq
  obtain⟨its',r',Vs,VX⟩:=I.list VB
  obtain⟨u,hu,rx⟩:=r.get hx
  obtain⟨u',WK,ry⟩:=r'.get hy
  have D:=ZipApart.of F st pl Vs
  obtain⟨WV,Vy,⟨c,d,Vr⟩,h1,h2⟩:=st
  have hn:H s.heap.objs.size=none:=I.UH.fresh (QC _)
  refine wpAny_pyNext_zip_item D WV Vy Vr h1 h2 pl.isList Vs.isList (x:=u) (y:=u') (by simpa using hu) (by simpa using WK) λh' a1 a2 a3 a4 a5 a6 hk=>?_
  refine⟨_,rfl,?_⟩
  refine wpAny_letOwnedTupleGo_zip (s:={s with heap:=h'}) a1 λh3 hz3 WC=>?_
  have lt:∀{c o},s.heap.get? c=some o->c≠s.heap.objs.size:=λe=>QH (Tj e)
  have Yw:∀b o,b∉[z,TI,TO,i1,i2]->s.heap.get? b=some o->h3.get? b=some o:=λb o hb q=>by
   simp only[OT,O9,or_false,not_or] at hb
   exact WC.extBut b o hb.1 (hk b o hb.1 hb.2.2.1 hb.2.2.2.1 hb.2.2.2.2 q)
  have I1:Inv X UB σ H {s with heap:=h3,toks:=s.toks}:=jt I Yw hf
  have Zt:h3.get? s.heap.objs.size=some {cls:=.type "tuple",data:=.seq #[u,u']}:=WC.extBut _ _ (QW (lt WV)) a5
  have I2:Inv X UB σ (upd H s.heap.objs.size (.tup [x,y])) {s with heap:=h3,toks:=s.toks}:=
   adopt I1 (I.gO (QC _) hn) (I.sz) ⟨by show 2<=Ra;decide,[u,u'],.cons rx (.cons ry .nil),⟨_,Zt,rfl,_,rfl⟩⟩
  refine⟨.ref s.heap.objs.size,_,I2,rfl,⟨s.heap.objs.size,x,y,hn,rfl,rfl,λzs X0=>?_,λzs X0=>?_⟩,⟨hz3,?_,⟨_,_,WC.extBut _ _ F.TOz a2⟩,a3.extBut WC.extBut F.i1z,a4.extBut WC.extBut F.i2z⟩,λb hb=>?_⟩
  ·rw[I.ig X0 hq];exact hx
  ·rw[I.ig X0 VB];exact hy
  ·exact WC.extBut _ _ F.TIz (hk _ _ F.TIz F.TITO F.TIi1 F.TIi2 Vy)
  ·have Vx:b≠s.heap.objs.size:=by
    simp only[OT,O9,or_false] at hb
    rcases hb with rfl | rfl | rfl | rfl | rfl
    ·exact lt WV
    ·exact lt Vy
    ·exact lt Vr
    ·obtain⟨_,e,_⟩:=h1;exact lt e
    ·obtain⟨_,e,_⟩:=h2;exact lt e
   rw[aJ Vx]
   exact(hf b hb).1
 done:=by
  intro X hP hw hK hc i UB s σ H E I hf st hg
  subst hP hw hK
  obtain⟨xs,ys,hq,VB,hx⟩:=hg
  obtain⟨UD,r,pl,hz⟩:=I.list hq
  obtain⟨its',r',Vs,VX⟩:=I.list VB
  have D:=ZipApart.of F st pl Vs
  obtain⟨WV,Vy,⟨c,d,Vr⟩,h1,h2⟩:=st
  have l1:=r.length
  have l2:=r'.length
  refine wpAny_pyNext_zip_end (I.ok.hd hc) D WV Vy Vr h1 h2 pl.isList Vs.isList (hx.imp (λq=>by simp;omega) λq=>by simp;omega) λh' hk=>⟨rfl,?_⟩
  refine jt (t':=s.toks) I (λb o hb q=>?_) hf
  simp only[OT,O9,or_false,not_or] at hb
  exact hk b o hb.1 hb.2.2.1 hb.2.2.2.1 hb.2.2.2.2 q
 self:=λ_ _ _ _ _ st h=>Sf st.1 h
def Nf (K:T2)(ta:TA):TI:=λσ H R=>ta σ H λvs H1=>∃a b xs ys,vs=[.ref a,.ref b]/\aZ K H1 a xs/\aZ K H1 b ys/\R (MA K a b) H1
theorem HU {a b:Expr}{ta:TA}{p pos:Pos}{k:Nat}(hg:Gl X "zip")(hm:X.mg "zip"=none)(ha:PA X [a,b] ta)(hs:Rc [a,b] X.env=[(false,eval a X.env),(false,eval b X.env)]:=by rfl)(Vf:Rc [b] X.env=[(false,eval b X.env)]:=by rfl):PI X (.Tuple es k tp) (.Call (.Name "zip" p) [a,b] [] pos) (Nf X.K ta):=by
 intro UB s σ H R I h
 refine Call_ (f9 I hg hm boot_zip (Q2 (aX (ha pos UB s σ H _ I h) λus s1 ⟨vs,H1,I1,r1,q1⟩=>?_) (by rw[hs,Vf]) (by rw[Vf];rfl)))
 obtain⟨l,l',xs,ys,e,hq,VB,q⟩:=q1
 subst e
 cases r1 with
 | cons r rr=>
   cases rr with
   | cons r' rr=>
     cases rr
     cases r
     cases r'
     obtain⟨UD,_,pl,_⟩:=I1.list hq
     obtain⟨its',_,Vs,_⟩:=I1.list VB
     refine call_zip_2 pl.isList Vs.isList λh' a1 a2 a3 a4 a5 a6 hk=>?_
     refine Sf a1 ?_
     have I2:Inv X UB σ H1 {s1 with heap:=h'}:=I1.kept (t':=s1.toks) hk
     have ff:∀b,s1.heap.objs.size<=b->jE X UB H1 b:=λb hb=>I1.gO hb (I1.UH.fresh hb)
     refine⟨s1.heap.objs.size+4,[s1.heap.objs.size+4,s1.heap.objs.size+2,s1.heap.objs.size+3,s1.heap.objs.size,s1.heap.objs.size+1],_,_,H1,rfl,I2,AE l l' _ _ _ _ _ (Fy _),⟨a1,a2,⟨_,_,a3⟩,a4,a5⟩,λb hb=>?_,q⟩
     simp only[OT,O9,or_false] at hb
     rcases hb with rfl | rfl | rfl | rfl | rfl
     ·exact ff _ (QK _ 4)
     ·exact ff _ (QK _ 2)
     ·exact ff _ (QK _ 3)
     ·exact ff _ (QC _)
     ·exact ff _ (QK _ 1)
theorem jB {xs:List α}{ys:List β}{i:Nat}{q:α×β}(h:(xs.zip ys)[i]?=some q):xs[i]?=some q.1/\ys[i]?=some q.2:=by
 rw[Qd] at h
 exact h
theorem GQ {a b:Expr}{p pos:Pos}{k:Nat}{r:Rep α}{r':Rep β}{xs:List α}{ys:List β}(hm:X.mg "zip"=none)(ha:EV X a Γ (ae r) xs Γ1)(hb:EV X b Γ1 (ae r') ys Γ2)(hs:Rc [a,b] X.env=[(false,eval a X.env),(false,eval b X.env)]:=by rfl)(Vf:Rc [b] X.env=[(false,eval b X.env)]:=by rfl)(hg:Gl X "zip":=by rfl):
 IV X (.Tuple es k tp) (.Call (.Name "zip" p) [a,b] [] pos) Γ (cD r r') (xs.zip ys) Γ2:=by
 refine⟨_,HU hg hm (a7 aP (a7 aP bJ Vf) (by rw[hs,Vf])) hs Vf,λσ H0 R0 H R E Rq q=>ha σ H0 R0 H R E _ λv H1 R1 E1 s1 e1=>hb σ H0 R0 H1 R1 E1 _ λv' H2 R2 E2 s2 e2=>?_⟩
 obtain⟨a,vs,rfl,hp,pp,z⟩:=e1
 obtain⟨b,U7,rfl,XH,Vq,z'⟩:=e2
 have Y3:R2 a=_:=s2 _ _ hp
 refine⟨a,b,vs,U7,rfl,aZ.of (E2.sub _ _ Y3),aZ.of (E2.sub _ _ XH),q _ H2 R2 E2 (s1.trans s2) (by rw[Pw];exact QD (QQ _ _) z) λH' R' sR sH i=>⟨λy hy=>?_,λhi=>?_⟩⟩
 ·have hq:aZ X.K H' a vs:=aZ.of (sH _ _ (sR _ _ Y3))
  have VB:aZ X.K H' b U7:=aZ.of (sH _ _ (sR _ _ XH))
  obtain⟨e1,e2⟩:=jB hy
  obtain⟨v,hv,hr⟩:=dh pp e1
  obtain⟨v',Wm,Ww⟩:=dh Vq e2
  refine⟨⟨vs,U7,v,v',hq,VB,hv,Wm⟩,λv2 H3 X1=>?_⟩
  obtain⟨p,x,x',XG,rfl,rfl,hy,YT⟩:=X1
  have t1:=hy vs hq
  have t2:=YT U7 VB
  rw[hv] at t1
  rw[Wm] at t2
  cases t1
  cases t2
  have s3:au R' (upd R' p (.tup [v,v'])):=au.fresh (sH.free XG) _
  exact⟨upd R' p (.tup [v,v']),Ext.fresh sH XG _,p,_,_,rfl,aF,r.mono s3 (r.mono sR (r.mono s2 hr)),r'.mono s3 (r'.mono sR Ww)⟩
 ·refine⟨vs,U7,aZ.of (sH _ _ (sR _ _ Y3)),aZ.of (sH _ _ (sR _ _ XH)),?_⟩
  rw[Pw] at hi
  rw[pp.length,Vq.length]
  omega
end
end Fc
namespace Fc.ZT
open PySem PySem.Spec PyProof.Rows
section
variable {prog:Rh}{w:World}{A:Ri}{E:Value->Q9->Prop}{s:Q9}
end
end Fc.ZT
namespace Fc
open PySem PySem.Spec PySem.W PySem.Calls L2
open PyProof.Rows hiding St
section
variable {X:Cx}{Γ Γ1 Γ2 Γ3:Ga}{α β γ δ:Type}{N:Ga->Prop}{T:RT}
theorem tup_ne {h:Heap}{l b:Addr}{UD:Array Value}{o:Obj}(p:IsTup h l UD)(e:h.get? b=some o)(hc:o.cls≠ .type "tuple"):l≠b:=λz=>by
 obtain⟨u,e',c,_⟩:=p
 rw[z,e] at e'
 cases e'
 exact hc c
end
end Fc
namespace Fc.ZT
open PySem PySem.Spec PyProof.Rows
section
variable {prog:Rh}{w:World}{A:Ri}{E:Value->Q9->Prop}{s:Q9}
section
variable {z TI TO i1 i2 l1:Addr}{k1 k2:Nat}{xs:Array Value}{x a b:Value}{S1:Nat->Heap->Prop}{x2:Str}{t2:Tok}{y:Nat}
end
end
section
variable {prog:Rh}{w:World}{A:Ri}{E:Value->Q9->Prop}{s:Q9}
end
end Fc.ZT
namespace Fc
open PySem PySem.Spec PySem.W PySem.Calls L2
open PyProof.Rows hiding St
section
variable {X:Cx}{Γ Γ1 Γ2 Γ3:Ga}{α β γ δ:Type}{N:Ga->Prop}{T:RT}
end
end Fc
namespace HT
open PySem PySem.Spec PyProof.Rows
section
variable {prog:Rh}{w:World}{A:Ri}{E:Value->Q9->Prop}{s:Q9}
theorem m5 {t sl:Addr}{items:Array Value}{vl vu:Value}{lo hi:Option Int}{Q:Value->Q9->Prop}(ht:IsTup s.heap t items)(hs:s.heap.IsSliceOf sl vl vu .none)(pl:Sj vl lo)(pu:Sj vu hi)
 (hw:UR items.size 0 lo=0/\UR items.size items.size hi=items.size)
 (h:Q (.ref t) s):wpAny (model prog w) A (Sa (.ref t) (.ref sl)) Q E s:=by
 obtain⟨os,X8,hcs,Zj⟩:=id hs
 have hTs:s.TypeIs (.ref sl) "slice":=⟨os,X8,hcs⟩
 unfold Sa
 try with_reducible refine R6 ?_
 first | refine Rb (Rg ?_) | skip
 refine Rb (wpAny_sequenceKey ht.typeIs (by decide) ?_)
 refine Rb (Ry (name:=TK "__getitem__") ht.typeIs Q3
  (RR Q3 ht.typeIs entry_tuple_getitem ?_ (args_tuple_getitem _ _)))
 show wpAny _ _ (Builtin.Tuple.tupleItemsOf (.ref t) >>=_) _ _ s
 refine Rb (tupleItemsOf_ ht ?_)
 refine Rb (wpAny_typeOf hTs ?_)
 rw[Ut (by decide)]
 refine Rb (jH hs pl pu ?_)
 have hyes:(((UR items.size 0 lo:Nat):Int)==0&&(1:Int)==1&&(UR items.size items.size hi-UR items.size 0 lo)==items.size)=true:=by
  rw[hw.1,hw.2];simp
 show wpAny _ _ (if(((UR items.size 0 lo:Nat):Int)==0&&(1:Int)==1&&(UR items.size items.size hi-UR items.size 0 lo)==items.size)=true then _ else _) _ _ s
 rw[Ut hyes]
 refine Rb ?_
 unfold Builtin.Tuple.tupleIsExact
 refine Rb (wpAny_typeOf ht.typeIs (Rg ?_))
 rw[Ut (by decide)]
 exact Rb (Sl (Rg ⟨_,rfl,Rg h⟩))
end
end HT
namespace Fc
open PySem PySem.Spec PySem.W PySem.Calls L2
open PyProof.Rows hiding St
section
variable {X:Cx}{Γ Γ1 Γ2 Γ3:Ga}{α β γ δ:Type}{N:Ga->Prop}{T:RT}
variable {a:Expr}{pos:Pos}
def NU (K:T2):V->Option Int->Option Int->Hp->VK->Prop:=λx lo hi H Q=>∃a xs,x= .ref a/\dc K H a xs/\
 (HT.UR xs.length 0 lo=0/\HT.UR xs.length xs.length hi=xs.length)/\Q x H
theorem Hg:zZ X (NU X.K):=by
 intro UB s σ H x v vl vu lo hi sl Q I rx hs pl pu h
 obtain⟨a,xs,rfl,hx,hw,q⟩:=h
 cases rx
 obtain⟨UD,r,ht,hz⟩:=I.tuple hx
 have hlen:UD.toArray.size=xs.length:=by rw[ON];exact r.length.symm
 refine⟨"tuple",_,Q3.lookup,ht.typeIs,?_⟩
 exact HT.m5 ht hs pl pu (by rw[hlen];exact hw) ⟨.ref a,H,I,rfl,q⟩
theorem IP {lo hi:Option Expr}{p2:Pos}{xs:List PV}{l h:Option Int}(ha:EV X a Γ ax (.tup xs) Γ)(hl:OV X lo Γ l)(hh:OV X hi Γ h)(hw:HT.UR xs.length 0 l=0/\HT.UR xs.length xs.length h=xs.length):EV X (.Subscript a (.Slice lo hi none p2) pos) Γ ax (.tup xs) Γ:=by
 intro σ H0 R0 H R E Q q
 obtain⟨tl,pl,kl⟩:=hl
 obtain⟨th,ph,kh⟩:=hh
 refine eS (lL Hg aP pl ph) (ha σ H0 R0 H R E _ λv H1 R1 E1 s1 e1=>kl σ H0 R0 H1 R1 E1 _ λH2 R2 E2 s2=>kh σ H0 R0 H2 R2 E2 _ λH3 R3 E3 s3=>?_)
 cases ax.mono (K:=X.K) (s2.trans s3) e1 with
 | @tup a' U7 _ hp pp=>
   exact⟨_,_,rfl,dc.of (E3.sub _ _ hp),by rw[pp.pair.length];exact hw,q _ _ _ E3 (s1.trans (s2.trans s3)) (.tup hp pp)⟩
theorem Fw {lo hi:Option Expr}{p2:Pos}{xs:List PV}{l h:Option Int}(ha:EV X a Γ ax (.tup xs) Γ)(hl:OV X lo Γ l)(hh:OV X hi Γ h):EV X (.Subscript a (.Slice lo hi none p2) pos) Γ ax (.tup (cut xs l h)) Γ:=by
 by_cases hw:HT.UR xs.length 0 l=0/\HT.UR xs.length xs.length h=xs.length
 ·have e:cut xs l h=xs:=by
   unfold cut
   rw[hw.1,hw.2]
   simp
  rw[e]
  exact IP ha hl hh hw
 ·exact JV ha hl hh hw
theorem pY {b:Expr}{x y:Str}(ha:EV X a Γ aj x Γ1)(hb:EV X b Γ1 aj y Γ2)(hz:x.length+y.length<=Ra):EV X (.BinOp a .Add b pos) Γ aj (x++y) Γ2:=jg wY ha hb λR v u H Q e1 e2 q=>⟨x,y,e1,e2,hz,q _ rfl⟩
theorem EW {p:Pos}{x:Str}(hm:X.mg "len"=none)(ha:EV X a Γ aj x Γ1)(hz:x.length<=Ra)(hs:Rc [a] X.env=[(false,eval a X.env)]:=by rfl)(hg:Gl X "len":=by rfl):EV X (.Call (.Name "len" p) [a] [] pos) Γ ah (x.length:Int) Γ1:=by
 intro σ H0 R0 H R E Q q
 refine eS (dX tP hg hm RH (a7 aP bJ hs) (by decide) (by decide) hs) (ha σ H0 R0 H R E _ λv H1 R1 E1 s1 e1=>?_)
 cases e1
 exact⟨x,rfl,hz,q _ H1 R1 E1 s1 rfl⟩
theorem qE {H:Hp}{p:Addr}{a b:HO}:upd (upd H p a) p b=upd H p b:=by
 funext c
 by_cases h:c=p
 ·subst h;rw[aF,aF]
 ·rw[aJ h,aJ h,aJ h]
theorem LZ {UB:Od}{σ:St}{H:Hp}{s:Q9}{R:Hp}(I:Inv X UB σ H s)(sub:au R H)(hu:X.A.units<cLine){r:Rep α}{r':Rep β}{xs:List α}{v u:V}{vv uu:Value}(rv:RelV v vv)(ru:RelV u uu)(h1:(ae r).R X.K R v xs)(h2:(ae r').R X.K R u []):
 Tz X.A s vv uu xs.isEmpty/\Tx X.A s vv uu (!xs.isEmpty):=by
 obtain⟨a1,v1,rfl,e1,p1,_⟩:=h1
 obtain⟨a2,v2,rfl,e2,p2,_⟩:=h2
 cases rv;cases ru
 obtain⟨us,hv,pl,_⟩:=I.list (aZ.of (sub _ _ e1))
 obtain⟨VE,hw,Vs,_⟩:=I.list (aZ.of (sub _ _ e2))
 have n2:VE.toArray.size=0:=by rw[ON,← hw.length,p2.length];rfl
 have n1:us.toArray.size=xs.length:=by rw[ON,← hv.length,p1.length]
 cases xs with
 | nil=>
   have n1:us.toArray.size=0:=n1
   have k1:=Tz.lists (A:=X.A) (e:=λ_=>true) pl.isList Vs.isList (by rw[n1,n2]) hu λj h1 h2=>Ur h2 (by omega)
   have k2:=Tx.lists (A:=X.A) (e:=λ_=>true) pl.isList Vs.isList (by rw[n1,n2]) hu λj h1 h2=>Ur h2 (by omega)
   rw[all_true] at k1 k2
   exact⟨k1,k2⟩
 | cons a b=>
   have ne:(us.toArray.size != VE.toArray.size)=true:=by rw[n1,n2];rfl
   exact⟨Tz.lists_lengths pl.isList Vs.isList ne hu,Tx.lists_lengths pl.isList Vs.isList ne hu⟩
theorem xX (hu:X.A.units<cLine){r:Rep α}{r':Rep β}{xs:List α}:fz X .Eq (ae r) (ae r') xs [] xs.isEmpty:=
 ⟨λv u H Q=>∃R,au R H/\(ae r).R X.K R v xs/\(ae r').R X.K R u []/\Q (.bl xs.isEmpty) H,λUB s σ H a b v u Q I rx ry ⟨R,sub,h1,h2,q⟩=>(LZ I sub hu rx ry h1 h2).1 _ _ _ _ ⟨.bl _,H,I,rfl,q⟩,λR H v u Q s h1 h2 q=>⟨R,s,h1,h2,q⟩⟩
end
section
variable {X:Cx}{Γ:Ga}{pos:Pos}
def B5 (i j:Int):Prop:=0<j/\j<=1000000000000000000
theorem BH:dP X (RQ .FloorDiv) (rI B5 λi j=>.int (i/j)):=vL λi j _ _ _ _ _ hc q=>by
 have h1:(0:Int)<j:=hc.1
 have h2:j<=1000000000000000000:=hc.2
 exact floordiv_int (by omega) (by rw[Int.fdiv_eq_ediv_of_nonneg i (by omega)];exact q) (.inl (PyProof.noPylong_of_log2 (QG ((Nat.log2_lt (by omega)).mpr (show j.natAbs<2 ^ 60 by omega)) (by decide))))
theorem bN {N N1:Ga->Prop}{T:RT}{st:Stmt}{rest:List Stmt}(h1:W1 X st Γ N1 T)(h2:∀Γ',N1 Γ'->WS X rest Γ' N T):WS X (st::rest) Γ N T:=ai λσ H0 R0 H R E D dn dr=>h1 σ H0 R0 H R E D (λσ' H' R' Γ' E' s' n=>dn σ' H' R' Γ' E' s' (h2 Γ' n)) dr
theorem nK {Γ1 Γ2:Ga}{a b:Expr}{x y:Int}(ha:EV X a Γ ah x Γ1)(hb:EV X b Γ1 ah y Γ2)(h:B5 x y):EV X (.BinOp a .FloorDiv b pos) Γ ah (x/y) Γ2:=jg BH ha hb λR v u H Q e1 e2 q=>⟨x,y,e1,e2,h,q _ rfl⟩
theorem Cz {x y:Int}(h0:0<=x)(h1:x<2 ^ 63):SO x y:=.of_left (Sr (by omega) (by omega))
def kj (x:Str)(i:Nat):Str:=⟨#[x.cps.getD i 0]⟩
theorem yu {Γ1 Γ2:Ga}{a b:Expr}{x:Str}{i:Int}(ha:EV X a Γ aj x Γ1)(hb:EV X b Γ1 ah i Γ2)(h0:0<=i)(h1:i<(x.length:Int))(hz:x.length<=Ra)(hs:eC b:=by exact λ_ _=>rfl):EV X (.Subscript a b pos) Γ aj (kj x i.toNat) Γ2:=by
 intro σ H0 R0 H R E Q q
 refine eS (iJ Jz aP aP hs) (ha σ H0 R0 H R E _ λv H1 R1 E1 s1 e1=>hb σ H0 R0 H1 R1 E1 _ λu H2 R2 E2 s2 e2=>?_)
 cases e1
 cases e2
 refine⟨x,i,x.cps.getD i.toNat 0,rfl,rfl,hz,?_,q _ H2 R2 E2 (s1.trans s2) rfl⟩
 have hl:x.cps.toList.length=x.length:=by simp[Str.length]
 rw[mm h0 (by omega),OE (by omega)]
 have:i.toNat<x.cps.size:=by have:x.length=x.cps.size:=rfl;omega
 simp[Array.getD,this]
theorem Ek {N:Ga->Prop}{α β:Type}(i j:Nat){x:Str}{p1:Pos}{a:Addr}{r:Rep α}{xs:List α}{r':Rep β}{ys:List β}{P:List α->List β->Prop}(hΓ:Γ[i]?=some (.ob (bM a r xs)))(hj:Γ[j]?=some (.mu r' ys))(hz:ys.length<=Ra)(h:P xs ys)(hN:X.N[j]?=some x:=by rfl)(hv:autoParam (cN X.env.scope x) Vc)
 (hd:UX x:=by decide) (UI:Ve x:=by decide):W1 X (.Return (some (.Name x p1)) pos) Γ N (t8 X.K a r λxs'=>nu X.K r' (P xs')):=λσ H0 R0 H R E D dn dr=>by
 obtain⟨b,vs,eb,hb,hR,pp⟩:=E.ent j _ hj
 obtain⟨ea,⟨ws,ha,pa⟩,hRa⟩:=fN (E.ent i _ hΓ)
 exact sS (iW (br hN hv hd UI)) ⟨.ref b,at_of eb,dr _ H R E.ext ⟨ws,xs,ha,hRa,pa,b,vs,ys,rfl,E.new j _ b hj rfl eb,hb,hR,pp,hz,h⟩⟩
end
section
variable {X:Cx}{Γ Γ1 Γ2:Ga}{α β:Type}{N:Ga->Prop}{T:RT}
variable {x:Str}
theorem kC {K:T2}{R:Hp}:∀{vs:List V} {xs:Of},PySem.Paired (aj.R K R) vs xs->vs=xs.map V.str
 | _,_,.nil=>rfl
 | _,_,.cons h t=>by rw[Pc,← kC t];exact congrArg (· ::_) h
theorem uZ {xs:Of}:fz X .In aj (ae aj) x xs (decide (x∈xs)):=⟨_,qH,λR H v u Q s e1 e2 q=>by
 cases e1
 obtain⟨a,vs,rfl,hq,p,_⟩:=e2
 have e:=kC p
 subst e
 exact⟨a,_,rfl,.inl (aZ.of (s _ _ hq)),rfl,kf xs,by rw[Us Oo,lg];exact q⟩⟩
theorem xN {r:Rep α}{S:jv α}{y:Str}{k:Nat}{es:Oj}{p p1 pos:Pos}{ps:List Pk}{xs:List α}{TM:List α->RT}{Q:VK}{σ:St}{H0 R0 H R:Hp}(i:Nat)(C:aA X.prog X.w X.K X.mg X.base x k (eB r S X.K))(hr:bI k X.A)(ha:HA X es Γ ps Γ1)(hΓ:Γ[i]?=some (.mu r xs))(hΓ1:Γ1[i]?=some (.mu r xs))(hS:S X.K xs ps TM)(E:aw X.K σ H0 R0 H R Γ)
 (q:∀a H1 R1 v H' R' xs',(σ[i]?).join=some (.ref a)->aw X.K σ H0 R0 H1 R1 Γ1->aw X.K σ H0 R0 H' R' (Γ1.set i (.mu r xs'))->au R R'->TM xs' (del H1 a) v H' R'->Q v H')
 (hg:Gl X x) (Vo:(x==("__debug__":Str))=false) (he:Rc (.Name y p1::es) X.env=(false,eval (.Name y p1) X.env)::Rc es X.env) (U0:(Rk pos (Rc es X.env)).any (·.1)=false)
 (hN:X.N[i]?=some y) (hv:cN X.env.scope y) (hd:(y==("__debug__":Str))=false) (UI:(y==("__classdict__":Str))=false):eQ X (.Call (.Name x p) (.Name y p1::es) [] pos) σ H Q:=by
 obtain⟨f,fd,pn,F,hm,hk,hb⟩:=C.ex
 obtain⟨a,vs,ea,_,_,_⟩:=E.ent i _ hΓ
 refine eS (qt F hr hg hm hk hb .nil rZ (a7 (br hN hv hd UI) lT he) Vo he U0) ⟨.ref a,at_of ea,ha σ H0 R0 H R E _ λus H1 R1 E1 s1 p1=>?_⟩
 obtain⟨a',ws,Vb,hp,hR,pp⟩:=E1.ent i _ hΓ1
 rw[ea] at Vb;cases Vb
 have h0:H0 a=none:=E1.new i _ a hΓ1 rfl ea
 refine⟨R1,a,ws,xs,us,ps,TM,by rw[Pf],E1.sub,hR,hp,pp,p1,hS,λv H' R' We xs' xx h1 h2 pq t=>q a H1 R1 v H' R' xs' ea E1 ?_ (s1.trans xx.r) t⟩
 have apart:∀(j:Nat) (e:Ent),j≠i->Γ1[j]?=some e->a∉e.fp (σ[j]?).join:=λj e hj qj w=>hj (E1.ds j i e _ a qj hΓ1 w (cq.mpr ea))
 have E2:aw X.K σ H0 R0 H1 R1 (Γ1.set i .no):=E1.tell hΓ1 trivial λb w=>by cases w
 have E3:=E2.Cw (a:=a) (λj e qj w=>by
  rcases set_at qj with⟨rfl,rfl,_⟩ | ⟨hj,q1⟩
  ·cases w
  ·exact apart j e hj q1 w) h0 xx
 have hl:i<Γ1.length:=(OD.mp hΓ1).1
 have E4:=E3.oU (i:=i) (e0:=.no) (en:=.mu r xs') (OW hl) (by rw[ea];exact⟨a,We,rfl,h1,h2,pq⟩) λb w=>by
  have eb:b=a:=by rw[cq.mp w] at ea;cases ea;rfl
  subst eb
  exact⟨h0,λj e hj qj=>apart j e hj (by rwa [Pb (QW hj)] at qj)⟩
 rw[Qp] at E4
 exact E4
theorem yc (i:Nat){r:Rep α}{S:jv α}{y:Str}{k:Nat}{es:Oj}{p p1 pos:Pos}{ps:List Pk}{xs st:List α}{rr:Rep β}{zs:List β}(C:aA X.prog X.w X.K X.mg X.base x k (eB r S X.K))(hr:bI k X.A)(ha:HA X es Γ ps Γ1)(hΓ:Γ[i]?=some (.mu r xs))(hΓ1:Γ1[i]?=some (.mu r xs))(hS:S X.K xs ps (λxs'=>nu X.K rr λw=>xs'=st/\w=zs))(UJ:∀(R:Hp) (vs:List V),PySem.Paired (r.R X.K R) vs st->PySem.Paired (rr.R X.K R) vs zs->False)
 (hg:Gl X x:=by rfl) (Vo:UX x:=by decide) (he:Rc (.Name y p1::es) X.env=(false,eval (.Name y p1) X.env)::Rc es X.env:=by rfl) (U0:(Rk pos (Rc es X.env)).any (·.1)=false:=by rfl)
 (hN:X.N[i]?=some y:=by rfl) (hv:autoParam (cN X.env.scope y) Vc) (hd:UX y:=by decide) (UI:Ve y:=by decide):
 aW X (.Call (.Name x p) (.Name y p1::es) [] pos) Γ rr zs (Γ1.set i (.mu r st)):=λσ H0 R0 H R E Q q=>
 xN i C hr ha hΓ hΓ1 hS E (λa H1 R1 v H' R' xs' ea E1 E' s' t=>by
  obtain⟨b,vs,ys,rfl,h0,h1,h2,pp,hz,rfl,rfl⟩:=t
  have hba:b≠a:=λz=>by
   subst z
   obtain⟨a',ws,Vb,XH,_,Vq⟩:=E'.ent i _ (OW (OD.mp hΓ1).1)
   rw[ea] at Vb;cases Vb
   rw[h1] at XH;cases XH
   exact UJ _ _ Vq pp
  have h0:H1 b=none:=by
   unfold del at h0
   rwa [Us hba] at h0
  refine q b vs H' R' E' s' h1 h2 (E1.ext.h.free h0) (λj e qj w=>?_) pp hz
  rcases set_at qj with⟨rfl,rfl,_⟩ | ⟨hj,q1⟩
  ·exact E1.off h0 _ _ hΓ1 w
  ·exact E1.off h0 j e q1 w) hg Vo he U0 hN hv hd UI
end
section
variable {X:Cx}{Γ Γ1 Γ2 Γ3:Ga}{α β γ δ:Type}{N:Ga->Prop}{T:RT}
variable {r:Rep α}{as:Oh}{UZ:List (List α)}{H R:Hp}{x:Str}{p1:Pos}{a:Addr}{K:T2}{b:Addr}{j:Nat}{pos:Pos}{xs:List α}
def fV (K:T2)(r:Rep α)(H R:Hp)(as:Oh)(UZ:List (List α)):Prop:=as.length=UZ.length/\∀(i:Nat) (b:Addr) (xs:List α),as[i]?=some b->UZ[i]?=some xs->∃ws,H b=some (.lst ws)/\PySem.Paired (r.R K R) ws xs
theorem fV.one (h:fV K r H R as UZ)(hb:b∈as):∃ws,H b=some (.lst ws):=by
 obtain⟨i,hi,rfl⟩:=Qc.mp hb
 obtain⟨ws,h1,_⟩:=h.2 i _ _ (OE hi) (OE (by rw[← h.1];exact hi))
 exact⟨ws,h1⟩
theorem fV.loc {H' R':Hp}(h:fV K r H R as UZ)(e:∀a∈as,H' a=H a)(s:au R R'):fV K r H' R' as UZ:=
 ⟨h.1,λi b xs h1 h2=>by
   obtain⟨ws,q1,q2⟩:=h.2 i b xs h1 h2
   exact⟨ws,(e b (OK h1)).trans q1,Paired.map (λ_ _=>r.mono s) q2⟩⟩
theorem fV.put (h:fV K r H R as UZ)(nd:as.Nodup){ws:List V}(hb:as[j]?=some b)(hp:PySem.Paired (r.R K R) ws xs):fV K r (upd H b (.lst ws)) R as (UZ.set j xs):=by
 refine⟨by rw[Pj];exact h.1,λi c q h1 h2=>?_⟩
 by_cases Zf:i=j
 ·subst Zf
  rw[hb] at h1;cases h1
  have hl:i<UZ.length:=by rw[← h.1];exact(OD.mp hb).1
  rw[OW hl] at h2;cases h2
  exact⟨ws,aF,hp⟩
 ·rw[Pb (QW Zf)] at h2
  have:c≠b:=λz=>by
   subst z
   have l1:=(OD.mp h1)
   have l2:=(OD.mp hb)
   exact Zf ((P0 (h₀:=l1.1) (h₁:=l2.1) nd).mp (l1.2.trans l2.2.symm))
  rw[aJ this];exact h.2 i c q h1 h2
theorem fV.snoc (h:fV K r H R as UZ){ws:List V}(hb:H b=some (.lst ws))(hp:PySem.Paired (r.R K R) ws xs):fV K r H R (as++[b]) (UZ++[xs]):=by
 refine⟨by rw[OI,OI,h.1];rfl,λi c q h1 h2=>?_⟩
 rcases QJ i as.length with hl | hl
 ·rw[O6 hl] at h1
  rw[O6 (by rw[← h.1];exact hl)] at h2
  exact h.2 i c q h1 h2
 ·rw[O7 hl] at h1
  rw[O7 (by rw[← h.1];exact hl)] at h2
  have e:i-as.length=0:=by
   have:=(OD.mp h1).1
   simp at this;omega
  rw[e] at h1
  rw[← h.1,e] at h2
  simp at h1 h2
  rw[← h1,← h2];exact⟨ws,hb,hp⟩
def dJ (r:Rep α)(a:Addr)(as:Oh)(UZ:List (List α)):wq where
 fp:=a::as
 R:=λK H R v=>v= .ref a/\H a=some (.lst (as.map .ref))/\fV K r H R as UZ/\(a::as).Nodup
 loc:=λhH hR ⟨e,h1,h2,h3⟩=>⟨e,(hH a OM).trans h1,h2.loc (λb hb=>hH b (OL _ hb)) hR,h3⟩
 has:=λ⟨e,h1,h2,h3⟩ b hb=>by
  rcases OT.mp hb with rfl | hb
  ·rw[h1];exact QY _
  ·obtain⟨r,hr⟩:=h2.one hb
   rw[hr];exact QY _
theorem WS.LH (i:Nat){Wy:List Stmt}{rr:Rep β}(hΓ:Γ[i]?=some (.mu rr []))(h:∀a,WS X Wy (Γ.set i (.ob (dJ r a [] []))) N T):WS X Wy Γ N T:=λσ H0 R0 H R E D dn dr=>by
 obtain⟨a,vs,ea,ha,hR,pp⟩:=E.ent i _ hΓ
 cases pp
 refine h a σ H0 R0 H R (E.tell hΓ ⟨⟨.ref a,ea,rfl,ha,⟨rfl,λi b r h1=>by simp at h1⟩,by simp⟩,λb hb=>?_⟩ λb w=>?_) D dn dr
 ·rw[show b=a by simpa[dJ] using hb];exact hR
 ·rw[show b=a by simpa[Ent.fp,dJ] using w];exact cq.mpr ea
theorem Ai {k:Int}(hk:fb as.length k=some j)(hb:as[j]?=some b):bU (as.map V.ref) k=some (.ref b):=by
 unfold bU
 rw[OH,hk]
 show(as.map V.ref)[j]?=_
 rw[OJ,hb];rfl
theorem HX (i:Nat){b:Expr}{p2:Pos}{k:Int}{σ:St}{H0 R0:Hp}{Q:VK}(hb:EV X b Γ ah k Γ)(hΓ:Γ[i]?=some (.ob (dJ r a as UZ)))(hk:fb UZ.length k=some j)(E:aw X.K σ H0 R0 H R Γ)
 (q:∀c H' R',aw X.K σ H0 R0 H' R' Γ->au R R'->as[j]?=some c->Q (.ref c) H')
 (hN:X.N[i]?=some x) (hv:cN X.env.scope x) (hd:(x==("__debug__":Str))=false) (UI:(x==("__classdict__":Str))=false) (X4:eC b):eQ X (.Subscript (.Name x p1) b p2) σ H Q:=by
 obtain⟨⟨v,ea,rfl,ha,hr,_⟩,hR⟩:=E.ent i _ hΓ
 refine eS (iJ iA (br hN hv hd UI) aP X4) ⟨.ref a,at_of ea,hb σ H0 R0 H R E _ λu H2 R2 E2 s2 e2=>?_⟩
 obtain⟨⟨v,Yl,e3,Xp,V4,nd⟩,W9⟩:=E2.ent i _ hΓ
 have hl:j<as.length:=by rw[V4.1];exact(mJ hk).2.1
 exact⟨a,_,k,.ref as[j],rfl,e2,aZ.of Xp,Ai (by rw[V4.1];exact hk) (OE hl),q _ H2 R2 E2 s2 (OE hl)⟩
theorem xk (i:Nat){b e:Expr}{p2 ap cp:Pos}{k:Int}{y:α}(hb:EV X b Γ ah k Γ)(he:EV X e Γ r y Γ)(hΓ:Γ[i]?=some (.ob (dJ r a as UZ)))(hk:fb UZ.length k=some j)(hx:UZ[j]?=some xs)(hz:xs.length<Ra)(h:N (Γ.set i (.ob (dJ r a as (UZ.set j (xs++[y]))))))
 (hN:X.N[i]?=some x:=by rfl) (hv:autoParam (cN X.env.scope x) Vc)
 (hd:UX x:=by decide) (UI:Ve x:=by decide) (X4:eC b:=by exact λ_ _=>rfl)
 (VH:Rl (.Call (.Attribute (.Subscript (.Name x p1) b p2) "append" ap) [e] [] cp) none pos.line X.env=pure false:=by rfl)
 (UO:Rj (.Subscript (.Name x p1) b p2) "append" X.env (eval (.Subscript (.Name x p1) b p2) X.env)=eval (.Subscript (.Name x p1) b p2) X.env:=by rfl)
 (U6:((Rk cp (Rc [e] X.env)).all (λx=> !x.1)&&(RS cp (RA [] X.env)).all (λx=>x.1.isSome)
  &&decide ([e].length+([]:List Rp).length+(if([]:List Rp).isEmpty then 0 else 1)<30))=true:=by rfl)
 (UN:(ap.endLine==cp.line)=true:=by rfl) (hs:Rc [e] X.env=(false,eval e X.env)::Rc [] X.env:=by rfl):W1 X (.Expr (.Call (.Attribute (.Subscript (.Name x p1) b p2) "append" ap) [e] [] cp) pos) Γ N T:=λσ H0 R0 H R E D dn dr=>by
 refine sS (gM (iI S9 Tb Tc j4 aP (a7 aP bJ hs) UO U6 UN hs rfl) VH) ?_
 refine HX i hb hΓ hk E (λc H1 R1 E1 s1 hc=>?_) hN hv hd UI X4
 obtain⟨⟨v,ea1,rfl,ha1,Y0,nd1⟩,hR1⟩:=E1.ent i _ hΓ
 obtain⟨WI,q1,q2⟩:=Y0.2 j c xs hc hx
 refine⟨.inl ⟨rfl,_,aZ.of q1⟩,he σ H0 R0 H1 R1 E1 _ λu H2 R2 E2 s2 e2=>?_⟩
 obtain⟨⟨v,Yl,rfl,Xp,V4,Xz⟩,W9⟩:=E2.ent i _ hΓ
 obtain⟨ws2,q1,q2⟩:=V4.2 j c xs hc hx
 obtain⟨n1,n2⟩:=Pa.mp Xz
 have cm:c∈as:=OK hc
 refine⟨c,ws2,u,rfl,rfl,q1,by rw[q2.length];exact hz,?_⟩
 refine dn σ _ R2 _ (E2.n6 (en:=.ob (dJ r a as (UZ.set j (xs++[y])))) hΓ (OL _ cm) ⟨⟨.ref a,Yl,rfl,?_,V4.put n2 hc (dj q2 (.cons e2 .nil)),Xz⟩,W9⟩ λc w=>.inl w) (s1.trans s2) h
 rw[aJ (show a≠c from λz=>n1 (z▸cm))];exact Xp
theorem xB (i:Nat){e:Expr}{ap cp:Pos}{ys:List α}(he:aW X e Γ r ys Γ1)(hΓ:Γ[i]?=some (.ob (dJ r a as UZ)))(hΓ1:Γ1[i]?=some (.ob (dJ r a as UZ)))(hz:UZ.length<Ra)(h:∀b,N (Γ1.set i (.ob (dJ r a (as++[b]) (UZ++[ys])))))
 (hN:X.N[i]?=some x:=by rfl) (hv:autoParam (cN X.env.scope x) Vc)
 (hd:UX x:=by decide) (UI:Ve x:=by decide)
 (VH:Rl (.Call (.Attribute (.Name x p1) "append" ap) [e] [] cp) none pos.line X.env=pure false:=by rfl)
 (UO:Rj (.Name x p1) "append" X.env (eval (.Name x p1) X.env)=eval (.Name x p1) X.env:=by rfl)
 (U6:((Rk cp (Rc [e] X.env)).all (λx=> !x.1)&&(RS cp (RA [] X.env)).all (λx=>x.1.isSome)
  &&decide ([e].length+([]:List Rp).length+(if([]:List Rp).isEmpty then 0 else 1)<30))=true:=by rfl)
 (UN:(ap.endLine==cp.line)=true:=by rfl) (hs:Rc [e] X.env=(false,eval e X.env)::Rc [] X.env:=by rfl):W1 X (.Expr (.Call (.Attribute (.Name x p1) "append" ap) [e] [] cp) pos) Γ N T:=λσ H0 R0 H R E D dn dr=>by
 obtain⟨⟨v,ea,rfl,ha,hr,_⟩,hR⟩:=E.ent i _ hΓ
 refine sS (gM (iI S9 Tb Tc j4 (br hN hv hd UI) (a7 aP bJ hs) UO U6 UN hs rfl) VH) ?_
 refine⟨.ref a,at_of ea,.inl ⟨rfl,_,aZ.of ha⟩,he σ H0 R0 H R E _ λb vs H2 R2 E2 s2 hb hRb h0b YJ pp _=>?_⟩
 obtain⟨⟨v,Yl,rfl,Xp,V4,Xz⟩,W9⟩:=E2.ent i _ hΓ1
 obtain⟨n1,n2⟩:=Pa.mp Xz
 have hl:as.length=UZ.length:=V4.1
 have bne:b∉a::as:=λz=>YJ i _ hΓ1 z
 have bna:b≠a:=λz=>bne (z▸OM)
 refine⟨a,_,.ref b,rfl,rfl,Xp,by rw[OH,hl];exact hz,?_⟩
 refine dn σ _ R2 _ (E2.n6 (en:=.ob (dJ r a (as++[b]) (UZ++[ys]))) hΓ1 OM ⟨⟨.ref a,Yl,rfl,?_,?_,?_⟩,λc hc=>?_⟩ λc w=>?_) s2 (h b)
 ·rw[aF,O3];rfl
 ·refine(V4.snoc hb pp).loc (λc hc=>aJ λz=>?_) (au.refl _)
  rw[z] at hc
  rcases OS.mp hc with q | q
  ·exact n1 q
  ·exact bna (OF.mp q).symm
 ·refine Pa.mpr ⟨λz=>?_,fP n2 λz=>bne (OL _ z)⟩
  rcases OS.mp z with q | q
  ·exact n1 q
  ·exact bna (OF.mp q).symm
 ·rcases OT.mp hc with rfl | hc
  ·exact W9 _ OM
  ·rcases OS.mp hc with q | q
   ·exact W9 _ (OL _ q)
   ·rw[OF.mp q];exact hRb
 ·rcases OT.mp w with rfl | w
  ·exact .inl OM
  ·rcases OS.mp w with q | q
   ·exact .inl (OL _ q)
   ·rw[OF.mp q];exact .inr ⟨h0b,YJ⟩
def L6 (K:T2)(r:Rep α)(P:List (List α)->Prop):RT:=λH0 v H' R'=>∃a as UZ,v= .ref a/\(∀b∈a::as,H0 b=none/\R' b=none)/\H' a=some (.lst (as.map .ref))/\fV K r H' R' as UZ/\(a::as).Nodup/\P UZ
theorem F8 (i:Nat){P:List (List α)->Prop}(hΓ:Γ[i]?=some (.ob (dJ r a as UZ)))(h:P UZ)(hN:X.N[i]?=some x:=by rfl)(hv:autoParam (cN X.env.scope x) Vc)
 (hd:UX x:=by decide) (UI:Ve x:=by decide):W1 X (.Return (some (.Name x p1)) pos) Γ N (L6 X.K r P):=λσ H0 R0 H R E D dn dr=>by
 obtain⟨⟨v,ea,rfl,ha,hr,nd⟩,hR⟩:=E.ent i _ hΓ
 exact sS (iW (br hN hv hd UI)) ⟨.ref a,at_of ea,dr _ H R E.ext ⟨a,as,UZ,rfl,λb hb=>⟨E.nw i _ b hΓ hb,hR b hb⟩,ha,hr,nd,h⟩⟩
def kq (R H:Hp)(l:Oh):Hp:=λb=>if b∈l then H b else R b
theorem EM (i:Nat){P:List (List α)->Prop}(hΓ:Γ[i]?=some (.ob (dJ r a as UZ)))(hz:UZ.length<=Ra)(Yp:∀xs∈UZ,xs.length<=Ra)(h:P UZ)(hN:X.N[i]?=some x:=by rfl)(hv:autoParam (cN X.env.scope x) Vc)
 (hd:UX x:=by decide) (UI:Ve x:=by decide):W1 X (.Return (some (.Name x p1)) pos) Γ N (nu X.K (ae r) P):=λσ H0 R0 H R E D dn dr=>by
 obtain⟨⟨v,ea,rfl,ha,hr,nd⟩,hR⟩:=E.ent i _ hΓ
 obtain⟨n1,n2⟩:=Pa.mp nd
 have sR:au R (kq R H as):=λb o q=>by
  unfold kq
  split
  ·rename_i hb
   rw[hR b (OL _ hb)] at q;cases q
  ·exact q
 have sH:au (kq R H as) H:=λb o q=>by
  unfold kq at q
  split at q
  ·exact q
  ·exact E.sub b o q
 have pr:PySem.Paired ((ae r).R X.K (kq R H as)) (as.map .ref) UZ:=by
  have key:∀(bs:Oh) (Vh:List (List α)),(∀b∈bs,b∈as)->fV X.K r H R bs Vh->(∀xs∈Vh,xs.length<=Ra)->PySem.Paired ((ae r).R X.K (kq R H as)) (bs.map .ref) Vh:=by
   intro bs
   induction bs with
   | nil=>intro Vh _ h _;cases Vh with
     | nil=>exact .nil
     | cons _ _=>exact Ur h.1 (by simp)
   | cons b bs ih=>intro Vh hm h hz;cases Vh with
     | nil=>exact Ur h.1 (by simp)
     | cons ys Vh=>
       obtain⟨ws,q1,q2⟩:=h.2 0 b ys rfl rfl
       refine .cons ⟨b,ws,rfl,?_,Paired.map (λ_ _=>r.mono sR) q2,hz ys OM⟩ (ih Vh (λc hc=>hm c (OL _ hc)) ⟨by simpa using h.1,λi c xs h1 h2=>h.2 (i+1) c xs (by simpa using h1) (by simpa using h2)⟩ λxs hx=>hz xs (OL _ hx))
       unfold kq
       rw[Ut (hm b OM)];exact q1
  exact key as UZ (λ_ h=>h) hr Yp
 refine sS (iW (br hN hv hd UI)) ⟨.ref a,at_of ea,dr _ H (kq R H as) ⟨E.ext.h,E.ext.r.trans sR,sH,λb hb=>?_⟩ ⟨a,_,UZ,rfl,E.nw i _ a hΓ OM,ha,?_,pr,hz,h⟩⟩
 ·unfold kq
  rw[Us λz=>hb (E.nw i _ b hΓ (OL _ z))]
  exact E.ext.old b hb
 ·unfold kq
  rw[Us n1];exact hR a OM
end
section
variable {X:Cx}{Γ Γ1 Γ2 Γ3:Ga}{α β γ δ:Type}{N:Ga->Prop}{T:RT}
variable {r:Rep α}{a:Addr}{p1 pos:Pos}{as:Oh}{UZ:List (List α)}{n:Nat}
theorem qv {a b:Expr}{p2 V8:Pos}{m n:Int}(Yd:X.mg "list"=none)(hmr:X.mg "range"=none)(ha:HA X [a,b] Γ [⟨ah,m⟩,⟨ah,n⟩] Γ1)(hm: -1000000<=m/\m<=1000000)(hn: -1000000<=n/\n<=1000000)(hs:Rc [a,b] X.env=(false,eval a X.env)::Rc [b] X.env:=by rfl)(U0:(Rk V8 (Rc [b] X.env)).any (·.1)=false:=by rfl)
 (Vf:Rc [.Call (.Name "range" p2) [a,b] [] V8] X.env=[(false,eval (.Call (.Name "range" p2) [a,b] [] V8) X.env)]:=by rfl) (hc:X.calm=true:=by rfl) (hg:Gl X "list":=by rfl) (hgr:Gl X "range":=by rfl):aW X (.Call (.Name "list" p1) [.Call (.Name "range" p2) [a,b] [] V8] [] pos) Γ ah (ups m (n-m).toNat) Γ1:=by
 intro σ H0 R0 H R E Q q
 refine eS (gL (mD hc) hg Yd Q4 (a7 (gL pR hgr hmr Q7 lT (by decide) (by decide) hs U0) bJ Vf) (by decide) (by decide) Vf) (ha σ H0 R0 H R E _ λvs H1 R1 E1 s1 e1=>?_)
 have e:vs=[.int m,.int n]:=by
  cases e1 with
  | cons a1 t=>cases t with
    | cons a2 t=>cases t;cases a1;cases a2;rfl
 subst e
 refine⟨m,n,rfl,λp hp=>⟨p,m,n,rfl,aF,hm.1,hm.2,hn.1,hn.2,λd hd=>?_⟩⟩
 have E2:=E1.grow (Ext.dS E1.sub hp (.W4 m n))
 exact q d _ _ R1 (E2.grow (Ext.dS E2.sub hd _)) s1 aF (E2.sub.free hd) (E2.ext.h.free hd) (E2.off hd) (paired_ints _) (by rw[a9];exact QD (show(n-m).toNat<=2000000 by omega) (by decide))
theorem aw.Ng {K:T2}{σ:St}{H0 R0 H R:Hp}{i:Nat}{B:wq}(E:aw K σ H0 R0 H R Γ)(hΓ:Γ[i]?=some (.ob B)):aw K σ H0 R0 H (λb=>if b∈B.fp then H b else R b) (Γ.set i .no)/\au R (λb=>if b∈B.fp then H b else R b):=by
 have h0:∀b∈B.fp,H0 b=none:=λb hb=>E.nw i _ b hΓ hb
 have hR:∀b∈B.fp,R b=none:=(E.ent i _ hΓ).2
 have sR:au R (λb=>if b∈B.fp then H b else R b):=λb o q=>by
  show(if b∈B.fp then H b else R b)=some o
  rw[Us λw=>by rw[hR b w] at q;cases q];exact q
 refine⟨⟨⟨E.ext.h,E.ext.r.trans sR,λb o q=>?_,λb hb=>?_⟩,λj e q=>?_,λj e b q w=>?_,λj k e e' b q q' w w'=>?_,by rw[Pj];exact E.len⟩,sR⟩
 ·have q:(if b∈B.fp then H b else R b)=some o:=q
  by_cases hb:b∈B.fp
  ·rw[Ut hb] at q;exact q
  ·rw[Us hb] at q;exact E.sub b o q
 ·show(if b∈B.fp then H b else R b)=_
  rw[Us λw=>hb (h0 b w)];exact E.ext.old b hb
 ·rcases set_at q with⟨rfl,rfl,_⟩ | ⟨hj,q1⟩
  ·trivial
  ·have h1:=E.ent j e q1
   refine h1.loc (λb hb=>rfl) sR λb hb=>?_
   show(if b∈B.fp then H b else R b)=none
   rw[Us (show¬b∈B.fp from λw=>hj (E.ds j i e _ b q1 hΓ hb w))];exact(Ent.gY h1 hb).2
 ·rcases set_at q with⟨rfl,rfl,_⟩ | ⟨hj,q1⟩
  ·cases w
  ·exact E.nw j e b q1 w
 ·rcases set_at q with⟨rfl,rfl,_⟩ | ⟨hj,q1⟩
  ·cases w
  ·rcases set_at q' with⟨rfl,rfl,_⟩ | ⟨hk,V2⟩
   ·cases w'
   ·exact E.ds _ _ _ _ b q1 V2 w w'
theorem fV.pair {K:T2}{H R R':Hp}(sR:au R R'):∀{bs:Oh} {Vh:List (List α)},(∀b∈bs,R' b=H b)->fV K r H R bs Vh->(∀xs∈Vh,xs.length<=Ra)->PySem.Paired ((ae r).R K R') (bs.map .ref) Vh
 | [],[],_,_,_=>.nil
 | [],_::_,_,h,_=>Ur h.1 (by simp)
 | _::_,[],_,h,_=>Ur h.1 (by simp)
 | b::bs,ys::Vh,hm,h,hz=>by
   obtain⟨ws,q1,q2⟩:=h.2 0 b ys rfl rfl
   exact .cons ⟨b,ws,rfl,(hm b OM).trans q1,Paired.map (λ_ _=>r.mono sR) q2,hz ys OM⟩ (fV.pair sR (λc hc=>hm c (OL _ hc)) ⟨by simpa using h.1,λi c xs h1 h2=>h.2 (i+1) c xs (by simpa using h1) (by simpa using h2)⟩ λxs hx=>hz xs (OL _ hx))
theorem WS.LR (i:Nat){Wy:List Stmt}(hΓ:Γ[i]?=some (.ob (dJ r a as UZ)))(hz:UZ.length<=Ra)(Yp:∀xs∈UZ,xs.length<=Ra)(h:WS X Wy (Γ.set i (.im (ae (ae r)) UZ)) N T):WS X Wy Γ N T:=λσ H0 R0 H R E D dn dr=>by
 obtain⟨⟨v,ea,rfl,ha,hr,nd⟩,hR⟩:=E.ent i _ hΓ
 obtain⟨E1,sR⟩:=E.Ng hΓ
 have hl:i<Γ.length:=(OD.mp hΓ).1
 have E2:=E1.tell (i:=i) (e0:=.no) (en:=.im (ae (ae r)) UZ) (OW hl) ⟨.ref a,ea,a,_,rfl,(Ut OM).trans ha,fV.pair sR (λb hb=>Ut (OL _ hb)) hr Yp,hz⟩ λb w=>by cases w
 rw[Qp] at E2
 exact h σ H0 R0 H _ E2 D (λσ2 H2 R2 Γ2 E3 s2=>dn σ2 H2 R2 Γ2 E3 (sR.trans s2)) dr
theorem Eb (i j:Nat){x y:Str}{b:Expr}{p p2:Pos}{k:Int}(hb:EV X b Γ ah k Γ1)(hΓ:Γ[i]?=some (.ob (dJ r a as UZ)))(hΓ1:Γ1[i]?=some (.ob (dJ r a as UZ)))(hk:fb UZ.length k=some n)(h:∀c,as[n]?=some c->N (Γ1.set j (.im qy c)))
 (hNx:X.N[i]?=some x:=by rfl) (hv:autoParam (cN X.env.scope x) Vc)
 (hd:UX x:=by decide) (UI:Ve x:=by decide) (X4:eC b:=by exact λ_ _=>rfl)
 (hN:X.N.Nodup:=by first | assumption | decide) (hi:X.N[j]?=some y:=by rfl) (hx:autoParam (Loc X.env.scope y) V1)
 (hs:Rl (.Subscript (.Name x p) b p2) (some (.Name y p1)) pos.line X.env=pure false:=by rfl) (hf:autoParam (X.fn y=true∨X.env.scope.names.lookup y=some .local) V0):
 W1 X (.Assign [.Name y p1] (.Subscript (.Name x p) b p2) pos) Γ N T:=λσ H0 R0 H R E D dn dr=>by
 obtain⟨⟨v,ea,rfl,ha,hr,_⟩,hR⟩:=E.ent i _ hΓ
 refine sS (jK hN hi hx aP hs hf) (eS (iJ iA (br hNx hv hd UI) aP X4) ⟨.ref a,at_of ea,hb σ H0 R0 H R E _ λu H2 R2 E2 s2 e2=>?_⟩)
 obtain⟨⟨v,Yl,rfl,Xp,V4,nd⟩,W9⟩:=E2.ent i _ hΓ1
 have hl:n<as.length:=by rw[V4.1];exact(mJ hk).2.1
 refine⟨a,_,k,.ref as[n],rfl,e2,aZ.of Xp,Ai (by rw[V4.1];exact hk) (OE hl),?_⟩
 exact dn _ H2 R2 _ (E2.set j (r:=qy) (x:=as[n]) rfl) s2 (h _ (OE hl))
theorem AO (i j:Nat){y:Str}{p:Pos}{c:Addr}{xs:List α}(hm:X.mg "len"=none)(hΓ:Γ[i]?=some (.ob (dJ r a as UZ)))(hj:Γ[j]?=some (.im qy c))(hc:as[n]?=some c)(hx:UZ[n]?=some xs)
 (hN:X.N[j]?=some y:=by rfl) (hv:autoParam (cN X.env.scope y) Vc) (hd:UX y:=by decide) (UI:Ve y:=by decide)
 (hs:Rc [.Name y p1] X.env=[(false,eval (.Name y p1) X.env)]:=by rfl) (hg:Gl X "len":=by rfl):EV X (.Call (.Name "len" p) [.Name y p1] [] pos) Γ ah (xs.length:Int) Γ:=λσ H0 R0 H R E Q q=>by
 obtain⟨⟨v,ea,rfl,ha,hr,nd⟩,hR⟩:=E.ent i _ hΓ
 obtain⟨v0,e0,YW⟩:=E.ent j _ hj
 cases YW
 obtain⟨ws,q1,q2⟩:=hr.2 n c xs hc hx
 refine eS (dX fF hg hm RH (a7 (br hN hv hd UI) bJ hs) (by decide) (by decide) hs) ⟨.ref c,at_of e0,c,_,rfl,.inl (aZ.of q1),?_⟩
 rw[q2.length]
 exact q _ H R E (au.refl _) rfl
theorem vh {P:V->α->Prop}{v:V}{y:α}(k:Nat):∀{vs:List V} {xs:List α},P v y->PySem.Paired P vs xs->PySem.Paired P (cE k v vs) (cE k y xs):=by
 induction k with
 | zero=>exact λh p=>.cons h p
 | succ k ih=>
   intro vs xs h p
   cases p with
   | nil=>exact .cons h .nil
   | cons a t=>exact .cons a (ih h t)
theorem DT (i j:Nat){x:Str}{e1 e2:Expr}{ap cp:Pos}{c:Addr}{xs:List α}{y:α}{k:Int}(h1:EV X e1 Γ ah k Γ1)(h2:EV X e2 Γ1 r y Γ2)(hΓ:Γ[i]?=some (.ob (dJ r a as UZ)))(hj:Γ[j]?=some (.im qy c))(hc:as[n]?=some c)(hΓ2:Γ2[i]?=some (.ob (dJ r a as UZ)))(hx:UZ[n]?=some xs)
 (k0:0<=k) (k1:k<=(xs.length:Int)) (hz:xs.length<Ra) (h:N (Γ2.set i (.ob (dJ r a as (UZ.set n (cE k.toNat y xs))))))
 (hN:X.N[j]?=some x:=by rfl) (hv:autoParam (cN X.env.scope x) Vc)
 (hd:UX x:=by decide) (UI:Ve x:=by decide)
 (VH:Rl (.Call (.Attribute (.Name x p1) "insert" ap) [e1,e2] [] cp) none pos.line X.env=pure false:=by rfl)
 (UO:Rj (.Name x p1) "insert" X.env (eval (.Name x p1) X.env)=eval (.Name x p1) X.env:=by rfl)
 (U6:((Rk cp (Rc [e1,e2] X.env)).all (λx=> !x.1)&&(RS cp (RA [] X.env)).all (λx=>x.1.isSome)
  &&decide ([e1,e2].length+([]:List Rp).length+(if([]:List Rp).isEmpty then 0 else 1)<30))=true:=by rfl)
 (UN:(ap.endLine==cp.line)=true:=by rfl) (hs:Rc [e1,e2] X.env=(false,eval e1 X.env)::Rc [e2] X.env:=by rfl) (Vf:Rc [e2] X.env=(false,eval e2 X.env)::Rc [] X.env:=by rfl) (U0:(Rk cp (Rc [e2] X.env)).any (·.1)=false:=by rfl):
 W1 X (.Expr (.Call (.Attribute (.Name x p1) "insert" ap) [e1,e2] [] cp) pos) Γ N T:=λσ H0 R0 H R E D dn dr=>by
 obtain⟨⟨v,ea,rfl,ha,hr,nd⟩,hR⟩:=E.ent i _ hΓ
 obtain⟨v0,e0,YW⟩:=E.ent j _ hj
 cases YW
 obtain⟨ws,q1,q2⟩:=hr.2 n c xs hc hx
 refine sS (gM (iI S9 PySem.F.slot_list_insert PySem.F.type_list_insert yt (br hN hv hd UI) (a7 aP (a7 aP bJ Vf) hs) UO U6 UN hs U0) VH) ?_
 refine⟨.ref c,at_of e0,.inl ⟨rfl,_,aZ.of q1⟩,h1 σ H0 R0 H R E _ λv1 H1 R1 E1 s1 r1=>h2 σ H0 R0 H1 R1 E1 _ λv2 H2 R2 E2 s2 r2=>?_⟩
 cases r1
 obtain⟨⟨v,Yl,rfl,Xp,V4,Xz⟩,W9⟩:=E2.ent i _ hΓ2
 obtain⟨ws2,q3,q4⟩:=V4.2 n c xs hc hx
 obtain⟨n1,n2⟩:=Pa.mp Xz
 have cm:c∈as:=OK hc
 refine⟨c,ws2,k,v2,rfl,rfl,q3,k0,by rw[q4.length];exact k1,by rw[q4.length];exact hz,?_⟩
 refine dn σ _ R2 _ (E2.n6 (en:=.ob (dJ r a as (UZ.set n (cE k.toNat y xs)))) hΓ2 (OL _ cm) ⟨⟨.ref a,Yl,rfl,?_,V4.put n2 hc (vh _ r2 q4),Xz⟩,W9⟩ λc w=>.inl w) (s1.trans s2) h
 rw[aJ (show a≠c from λz=>n1 (z▸cm))];exact Xp
end
section
variable {X:Cx}{tg:Expr}{x:Str}
def Mc (x:Str):It:=⟨λi _=>i<x.cps.size,λi H v H'=>H'=H/\v= .str (kj x i),λi _=>x.cps.size<=i⟩
theorem BK {P:Rh}{w:World}{K:T2}(x:Str)(t:Tok)(it:Addr):Turn P w K tg (Mc x) [it] it (λi h=>h.IsStrIter it "str_ascii_iterator" x t i) where
 mem:=by simp
 obj:=λi h st b hb=>by
  have e:b=it:=by simpa using hb
  subst e
  obtain⟨o,e,c,d⟩:=st
  exact⟨o,e,λv z=>by rw[d] at z;cases z⟩
 keep:=λi h h' st k=>by
  obtain⟨o,e,r⟩:=st
  exact⟨o,k it (by simp) o e,r⟩
 item:=by
  intro X hP hw hK hc i UB s σ H E I hf st hg
  subst hP hw hK
  obtain⟨f0,f1,f2,f3,f4,f5⟩:=hf it (by simp)
  have W:=Walks.strAscii (prog:=X.prog) (w:=X.w) (I.ok.hd hc) it x t
  refine W.item i s _ _ hg st λv h' tk hv V5 kk=>?_
  obtain⟨c,u,hx,rfl⟩:=hv
  have I1:Inv X UB σ H {s with heap:=h',toks:=tk}:=I.turned (λb o hb e=>kk b o (by simpa using hb) e) f0 f1 f3 f4 f5
  obtain⟨o,e,cc,d⟩:=id V5
  have WN:kj x i=⟨#[c]⟩:=by unfold kj;rw[show x.cps.getD i 0=c by rw[Array.getD_eq_getD_getElem?,hx];rfl]
  exact⟨_,rfl,mR (s:={s with heap:=h',toks:=tk}) e cc d (by decide) ⟨.str (kj x i),H,I1,⟨u,by rw[WN]⟩,⟨rfl,rfl⟩,V5,λb hb=>(hf b hb).1⟩⟩
 done:=by
  intro X hP hw hK hc i UB s σ H E I hf st hg
  subst hP hw hK
  obtain⟨f0,f1,f2,f3,f4,f5⟩:=hf it (by simp)
  exact wpAny_pyNext_ascii_end (I.ok.hd hc) st (by have:x.cps.size<=i:=hg;simp[this]) λh' eb=>⟨rfl,I.turned (t':=s.toks) (λb o hb e=>eb b o hb e) f0 f1 f3 f4 f5⟩
 self:=λ_ _ _ _ _ st h=>wpAny_pyIter_striter_ascii st h
def NT (tl:TE):TI:=λσ H R=>tl σ H λx H1=>∃z:Str,x= .str z/\z.cps.all (· < 128)=true/\R (Mc z) H1
theorem Gp {l:Expr}{tl:TE}(hl:PE X l tl):PI X tg l (NT tl):=by
 intro UB s σ H R I h
 refine aX (hl UB s σ H _ I h) λv s1 ⟨x,H1,I1,r1,q1⟩=>?_
 obtain⟨z,e,ha,q⟩:=q1
 subst e
 obtain⟨t,rfl⟩:=r1
 refine wpAny_pyIter_ascii ha ?_
 refine⟨s1.heap.objs.size,[s1.heap.objs.size],_,_,H1,rfl,I1.kept (t':=s1.toks) λb o e=>Ti _ e,BK z t _,⟨_,Tn _ rfl,rfl,rfl⟩,λb hb=>?_,q⟩
 have e:b=s1.heap.objs.size:=by simpa using hb
 subst e
 exact I1.gO (QC _) (I1.UH.fresh (QC _))
def gy (x:Str):Of:=(O5 x.cps.size).map (kj x)
theorem yr {Γ Γ1:Ga}{a:Expr}(ha:EV X a Γ aj x Γ1)(hx:x.cps.all (· < 128)=true)(hz:x.cps.size<=Ra):IV X tg a Γ aj (gy x) Γ1:=by
 refine⟨_,Gp aP,λσ H0 R0 H R E Rq q=>ha σ H0 R0 H R E _ λv H1 R1 E1 s1 e1=>?_⟩
 cases e1
 refine⟨x,rfl,hx,q _ H1 R1 E1 s1 (by unfold gy;rw[OH,P2];exact hz) λH' R' sR sH i=>⟨λy hy=>?_,λhi=>?_⟩⟩
 ·unfold gy at hy
  rw[OJ] at hy
  obtain⟨j,hj,rfl⟩:=QX.mp hy
  obtain⟨hl,e⟩:=OD.mp hj
  rw[P2] at hl
  rw[List.getElem_range] at e
  subst e
  refine⟨hl,λv' H2 hy=>?_⟩
  obtain⟨rfl,rfl⟩:=hy
  exact⟨R',Ext.refl sH,rfl⟩
 ·unfold gy at hi
  rw[OH,P2] at hi
  exact hi
theorem sF {α:Type}(l:List α):∀m,m<=l.length->(O5 m).filterMap (l[·]?)=l.take m
 | 0,_=>rfl
 | m+1,h=>by
   rw[Qx,List.filterMap_append,sF l m (by omega),Pg]
   simp[OE (show m<l.length by omega)]
def gw (x:Str):Str:=⟨(x.cps.toList.take 7).toArray⟩
theorem Nn:∀n,n<=8->Builtin.Str.strSliceIndices none (some 7) 1 n=O5 (min n 7):=by
 intro n hn
 have:∀j:Fin 9,Builtin.Str.strSliceIndices none (some 7) 1 j.val=O5 (min j.val 7):=by decide +kernel
 exact this ⟨n,by omega⟩
theorem Kd (hx:x.length<=8):((O5 (min x.length 7)).filterMap (x.cps[·]?)).toArray=(x.cps.toList.take 7).toArray:=by
 have hl:x.cps.toList.length=x.length:=by simp[Str.length]
 have e:(O5 (min x.length 7)).filterMap (x.cps[·]?)=(O5 (min x.length 7)).filterMap (x.cps.toList[·]?):=by
  congr 1
  funext i
  simp
 rw[e,sF _ _ (by omega)]
 congr 1
 by_cases h:x.length<=7
 ·rw[Nat.min_eq_left h,← hl,Pl,PN (by omega)]
 ·rw[Nat.min_eq_right (by omega)]
def Nh:V->Option Int->Option Int->Hp->VK->Prop:=λx lo hi H Q=>∃z:Str,x= .str z/\lo=none/\hi=some 7/\z.length<=8/\Q (.str (gw z)) H
theorem Oa:zZ X Nh:=by
 intro UB s σ H x v vl vu lo hi sl Q I rx hs pl pu h
 obtain⟨z,rfl,rfl,rfl,hz,q⟩:=h
 obtain⟨t,rfl⟩:=rx
 cases pl
 cases pu with
 | int _ tu=>
   refine⟨"str",_,PySem.F.slot_str_getitem.lookup,Sk _ _ _,wpAny_getItem_str_slice (l:=none) (u:=some (7,tu)) (st:=none) hs rfl ?_⟩
   have e:slicePicked z none (some (7,tu)) none=O5 (min z.length 7):=Nn z.length hz
   unfold sliceMade
   rw[e,P2]
   split
   ·rename_i hh
    have hl:min z.length 7=z.length:=by simpa using hh
    have hp:gw z=z:=by
     unfold gw
     rw[PN (by simp[Str.length] at hl ⊢;omega)]
    rw[hp] at q
    exact⟨.str z,H,I,⟨t,rfl⟩,q⟩
   ·rw[Kd hz]
    refine⟨?_,.str (gw z),H,I.tok _,⟨_,rfl⟩,q⟩
    show(List.take 7 z.cps.toList).toArray.size<=Ra
    rw[ON,OY]
    exact QD (QQ _ _) (by decide)
theorem Gv {Γ:Ga}{a:Expr}{j:Nat}{p1 p2 pos:Pos}(ha:EV X a Γ aj x Γ)(hx:x.length<=8):EV X (.Subscript a (.Slice none (some (.Constant (.int 7) j p1)) none p2) pos) Γ aj (gw x) Γ:=by
 intro σ H0 R0 H R E Q q
 obtain⟨tl,pl,kl⟩:=(ov_none:OV X none Γ none)
 obtain⟨th,ph,kh⟩:=(ov_some ev_int:OV X (some (.Constant (.int 7) j p1)) Γ (some 7))
 refine eS (lL Oa aP pl ph) (ha σ H0 R0 H R E _ λv H1 R1 E1 s1 e1=>kl σ H0 R0 H1 R1 E1 _ λH2 R2 E2 s2=>kh σ H0 R0 H2 R2 E2 _ λH3 R3 E3 s3=>?_)
 cases e1
 exact⟨x,rfl,rfl,rfl,hx,q _ _ _ E3 (s1.trans (s2.trans s3)) rfl⟩
end
section
variable {X:Cx}{Γ Γ1 Γ2 Γ3:Ga}{α β γ δ:Type}{N:Ga->Prop}{T:RT}
variable {x:Str}
theorem uT:∀{ws:Of} {UD:Oi},Vals (ws.map V.str) UD->∃l:List (Str×Tok),UD=Sz l/\l.map (·.1)=ws
 | [],_,.nil=>⟨[],rfl,rfl⟩
 | w::ws,_,.cons h t=>by
   obtain⟨k,rfl⟩:=h
   obtain⟨l,rfl,e⟩:=uT t
   exact⟨(w,k)::l,rfl,by rw[Pc,e]⟩
theorem u6:∀(l:List (Str×Tok)),Vals ((l.map (·.1)).map V.str) (Sz l)
 | []=>.nil
 | (w,k)::l=>.cons ⟨k,rfl⟩ (u6 l)
theorem D5:wa X "str.join" (λx xs H Q=>∃(z:Str) (a:Addr) (ws:Of),x= .str z/\xs=[.ref a]/\H a=some (.lst (ws.map V.str))/\JoinOk z ws=true/\Q (.str (Txt.join z ws)) H):=by
 intro UB s σ H x xs v us Q I rx r h
 obtain⟨z,a,ws,rfl,rfl,hH,UH,q⟩:=h
 obtain⟨t,rfl⟩:=rx
 obtain⟨u,rfl,ru⟩:=r.one
 cases ru
 obtain⟨hz,UD,n,r1,hl,e⟩:=I.lA hH
 obtain⟨l,rfl,el⟩:=uT r1
 exact PySem.SC.join ⟨_,e,rfl,_,rfl⟩ el UH λt' k=>⟨.str _,H,I.tok _,⟨_,rfl⟩,q⟩
theorem zm {y:Str}{t u:Tok}{prog:Rh}{w:World}{A:Ri}{E:Value->Q9->Prop}{s:Q9}{Q:Value->Q9->Prop}(hy:(y.length==0)=false)(hsz:x.length<=Ra)(hsz2:(TL x y).length<=Ra)
 (hq:∀(l:List (Str×Tok)) (k:Nat) (n:Nat),l.map (·.1)=TL x y->Q (.ref s.heap.objs.size) {s with toks:=k,heap:=s.heap.push {cls:=.type "list",data:=.seq (Sz l).toArray n}}):
 wpAny (model prog w) A (call (.builtin "str.split") [.str x t,.str y u]) Q E s:=by
 cases h1:(decide (x.length<y.length) ||decide (Builtin.Str.strKind x<Builtin.Str.strKind y))
 ·cases hf:(S4 x y 0 x.length (x.length+1)).isEmpty
  ·have es:TL x y=Builtin.Str.partsBetween x (S4 x y 0 x.length (x.length+1)) y.length:=(Us (ne_true_of_eq_false h1)).trans (Us (ne_true_of_eq_false hf))
   refine RY Tg (Sk _ _ _) Tf (Te _ _) (meets_str_split_sep x y t u h1 hy hf hsz (by rw[← es];exact hsz2)) ?_
   show wants Q E _ {s with toks:=_,heap:=s.heap.push {cls:=.type "list",data:=.seq (strsFrom s.toks (Builtin.Str.partsBetween x (S4 x y 0 x.length (x.length+1)) y.length)).toArray}}
   rw[strsFrom_eq]
   exact hq (numbered s.toks _) _ _ ((numbered_texts _ _).trans es.symm)
  ·exact RY Tg (Sk _ _ _) Tf (Te _ _) (meets_str_split_not_found x y t u h1 hy hf)
    (hq [(x,t)] s.toks _ ((Us (ne_true_of_eq_false h1)).trans (Ut hf)).symm)
 ·exact RY Tg (Sk _ _ _) Tf (Te _ _) (meets_str_split_cannot_occur x y t u h1)
   (hq [(x,t)] s.toks _ (Ut h1).symm)
theorem BP:wa X "str.split" (λx xs H Q=>∃z y:Str,x= .str z/\xs=[.str y]/\(y.length==0)=false/\z.length<=Ra/\(TL z y).length<=Ra/\∀a,H a=none->Q (.ref a) (upd H a (.lst ((TL z y).map V.str)))):=by
 intro UB s σ H x xs v us Q I rx r h
 obtain⟨z,y,rfl,rfl,hy,hz,YS,q⟩:=h
 obtain⟨t,rfl⟩:=rx
 obtain⟨u,rfl,ru⟩:=r.one
 obtain⟨tu,rfl⟩:=ru
 refine zm hy hz YS λl k n el=>?_
 have I1:Inv X UB σ H {s with toks:=k,heap:=s.heap.push {cls:=.type "list",data:=.seq (Sz l).toArray n}}:=I.kept (t':=k) λb o e=>Ti _ e
 have hn:H s.heap.objs.size=none:=I.fresh
 refine⟨.ref s.heap.objs.size,_,adopt (o:=.lst ((TL z y).map V.str)) I1 (I.gO (QC _) hn) I.sz ⟨?_,Sz l,n,?_,Tn _ rfl⟩,rfl,q _ hn⟩
 ·rw[OH];exact YS
 ·rw[← el];exact u6 l
theorem EG {a e:Expr}{ap cp:Pos}{ws:Of}(ha:EV X a Γ aj x Γ1)(he:EV X e Γ1 (ae aj) ws Γ2)(UH:JoinOk x ws=true)
 (UO:Rj a "join" X.env (eval a X.env)=eval a X.env:=by rfl)
 (U6:((Rk cp (Rc [e] X.env)).all (λx=> !x.1)&&(RS cp (RA [] X.env)).all (λx=>x.1.isSome)
  &&decide ([e].length+([]:List Rp).length+(if([]:List Rp).isEmpty then 0 else 1)<30))=true:=by rfl)
 (UN:(ap.endLine==cp.line)=true:=by rfl) (hs:Rc [e] X.env=(false,eval e X.env)::Rc [] X.env:=by rfl):EV X (.Call (.Attribute a "join" ap) [e] [] cp) Γ aj (Txt.join x ws) Γ2:=by
 intro σ H0 R0 H R E Q q
 refine eS (iI PySem.F.plainAttrs_str PySem.F.slot_str_join PySem.F.type_str_join D5 aP (a7 aP bJ hs) UO U6 UN hs rfl) (ha σ H0 R0 H R E _ λv H1 R1 E1 s1 e1=>?_)
 cases e1
 refine⟨rfl,he σ H0 R0 H1 R1 E1 _ λu H2 R2 E2 s2 e2=>?_⟩
 obtain⟨b,vs,rfl,hb,pp,hz⟩:=e2
 have ev:=kC pp
 subst ev
 exact⟨x,b,ws,rfl,rfl,E2.sub _ _ hb,UH,q _ H2 R2 E2 (s1.trans s2) rfl⟩
theorem ni {K:T2}{R:Hp}:∀ws:Of,PySem.Paired (aj.R K R) (ws.map V.str) ws
 | []=>.nil
 | _::r=>.cons rfl (ni r)
theorem yy {a e:Expr}{ap cp:Pos}{y:Str}(ha:EV X a Γ aj x Γ1)(he:EV X e Γ1 aj y Γ2)(hy:(y.length==0)=false)(hz:x.length<=Ra)(YS:(TL x y).length<=Ra)
 (UO:Rj a "split" X.env (eval a X.env)=eval a X.env:=by rfl)
 (U6:((Rk cp (Rc [e] X.env)).all (λx=> !x.1)&&(RS cp (RA [] X.env)).all (λx=>x.1.isSome)
  &&decide ([e].length+([]:List Rp).length+(if([]:List Rp).isEmpty then 0 else 1)<30))=true:=by rfl)
 (UN:(ap.endLine==cp.line)=true:=by rfl) (hs:Rc [e] X.env=(false,eval e X.env)::Rc [] X.env:=by rfl):aW X (.Call (.Attribute a "split" ap) [e] [] cp) Γ aj (TL x y) Γ2:=by
 intro σ H0 R0 H R E Q q
 refine eS (iI PySem.F.plainAttrs_str PySem.F.slot_str_split PySem.F.type_str_split BP aP (a7 aP bJ hs) UO U6 UN hs rfl) (ha σ H0 R0 H R E _ λv H1 R1 E1 s1 e1=>?_)
 cases e1
 refine⟨rfl,he σ H0 R0 H1 R1 E1 _ λu H2 R2 E2 s2 e2=>?_⟩
 cases e2
 exact⟨x,y,rfl,rfl,hy,hz,YS,λd hd=>q d _ _ R2 (E2.grow (Ext.dS E2.sub hd _)) (s1.trans s2) aF (E2.sub.free hd) (E2.ext.h.free hd) (E2.off hd) (ni _) YS⟩
end
section
variable {K:T2}{R:Hp}
theorem tN {c:Nat}:∀{a b x y:List Nat},c∉a->c∉b->a++c::x=b++c::y->a=b/\x=y
 | [],[],_,_,_,_,h=>⟨rfl,(List.cons.inj h).2⟩
 | [],d::b,_,_,_,hb,h=>Ur (List.cons.inj h).1 (λe=>hb (e▸OM))
 | d::a,[],_,_,ha,_,h=>Ur (List.cons.inj h).1 (λe=>ha (e▸OM))
 | d::a,e::b,x,y,ha,hb,h=>by
   obtain⟨h1,h2⟩:=List.cons.inj h
   obtain⟨q1,q2⟩:=tN (λz=>ha (OL _ z)) (λz=>hb (OL _ z)) h2
   exact⟨by rw[h1,q1],q2⟩
theorem tD {c:Nat}{a b y:List Nat}(ha:c∉a)(h:a=b++c::y):False:=ha (by rw[h];exact OQ _ OM)
theorem wg (x y:Str):(x++y).cps.toList=x.cps.toList++y.cps.toList:=by show(x.cps++y.cps).toList=_;simp
theorem lE (c:Nat)(x y:Str)(r:Of):(TJ ⟨#[c]⟩ (x::y::r)).cps.toList=x.cps.toList++c::(TJ ⟨#[c]⟩ (y::r)).cps.toList:=by
 rw[TJ,wg,wg]
 simp
 intro h;cases h
theorem vK {x y:Str}(h:x.cps.toList=y.cps.toList):x=y:=by
 cases x;cases y
 congr 1
 exact Array.toList_inj.mp h
theorem sL {c:Nat}:∀{ws us:Of},ws≠[]->us≠[]->(∀w∈ws,c∉w.cps.toList)->(∀u∈us,c∉u.cps.toList)->(TJ ⟨#[c]⟩ ws).cps.toList=(TJ ⟨#[c]⟩ us).cps.toList->ws=us
 | [],_,h,_,_,_,_=>Ur rfl h
 | _,[],_,h,_,_,_=>Ur rfl h
 | [x],[y],_,_,_,_,h=>by rw[show x=y from vK h]
 | [x],y::z::r,_,_,hx,_,h=>by
   rw[lE] at h
   exact Ur h λh=>tD (hx x OM) h
 | x::z::r,[y],_,_,_,hy,h=>by
   rw[lE] at h
   exact Ur h.symm λh=>tD (hy y OM) h
 | x::x2::r,y::y2::q,_,_,hx,hy,h=>by
   rw[lE,lE] at h
   obtain⟨h1,h2⟩:=tN (hx x OM) (hy y OM) h
   rw[vK h1,sL (List.cons_ne_nil _ _) (List.cons_ne_nil _ _) (λw hw=>hx w (OL _ hw)) (λw hw=>hy w (OL _ hw)) h2]
theorem xf {c:Nat}{ws:Of}(h:ws≠[])(hf:∀w∈ws,c∉w.cps.toList):TL (TJ ⟨#[c]⟩ ws) ⟨#[c]⟩=ws:=by
 refine sL (c:=c) (λe=>?_) h (StrLaws.split_free _ c) hf (by rw[StrLaws.join_split])
 have:=split_pos (TJ ⟨#[c]⟩ ws) ⟨#[c]⟩
 rw[e] at this
 exact Ur this (by decide)
theorem A4:(" ":Str)=⟨#[32]⟩:=by decide +kernel
theorem v8 (x:Str)(ws:Of):Txt.join x ws=TJ x ws:=StrLaws.glued_eq_join x ws
def Rep.at_ {α:Type}(r:Rep α)(y:α):Rep Unit:=⟨λK R v _=>r.R K R v y,λs h=>r.mono s h⟩
abbrev jy:=List (Str×Rep Unit)
abbrev fY (fs:jy)(K:T2)(R:Hp)(vs:List (Str×V)):Prop:=PySem.Paired (λ(z:Str×V) (f:Str×Rep Unit)=>z.1=f.1/\f.2.R K R z.2 ()) vs fs
theorem fY.mono {fs:jy}{R':Hp}{vs:List (Str×V)}(s:au R R')(h:fY fs K R vs):fY fs K R' vs:=Paired.map (λ_ f ⟨a,b⟩=>⟨a,f.2.mono s b⟩) h
def nJ:jy->Str->Option (Rep Unit)
 | [],_=>none
 | (g,x)::r,f=>if g=f then some x else nJ r f
theorem fY.get {f:Str}{r:Rep Unit}:∀{fs:jy} {vs:List (Str×V)},fY fs K R vs->nJ fs f=some r->∃v,vs.lookup f=some v/\r.R K R v ()
 | _,_,.nil,h=>by cases h
 | _,_,.cons (a:=z) (b:=p) h t,hg=>by
   obtain⟨g,x⟩:=p
   obtain⟨g',v⟩:=z
   obtain⟨e,hv⟩:=h
   have e:g'=g:=e
   subst e
   rw[nJ] at hg
   rw[Pu]
   by_cases q:g'=f
   ·rw[Ut q] at hg;cases hg;subst q
    exact⟨v,by simp,hv⟩
   ·rw[Us q] at hg
    rw[show(f==g')=false from beq_eq_false_iff_ne.mpr λz=>q z.symm]
    exact fY.get t hg
theorem fY.put {f:Str}{r:Rep Unit}{v:V}(hv:r.R K R v ()):∀{fs:jy} {vs:List (Str×V)},fY fs K R vs->nJ fs f=none->fY (fs++[(f,r)]) K R (fq f v vs)
 | _,_,.nil,_=>.cons ⟨rfl,hv⟩ .nil
 | _,_,.cons (a:=z) (b:=p) h t,hg=>by
   obtain⟨g,x⟩:=p
   obtain⟨g',u⟩:=z
   obtain⟨e,hu⟩:=h
   have e:g'=g:=e
   subst e
   rw[nJ] at hg
   rw[fq]
   by_cases q:g'=f
   ·rw[Ut q] at hg;cases hg
   ·rw[Us q] at hg ⊢
    exact .cons ⟨rfl,hu⟩ (fY.put hv t hg)
def gz (C:Addr):LK jy where
 bx l fs:=⟨l,λK H R v=>∃x dx vs,l=[x,dx]/\v= .ref x/\H x=some (.ins C dx vs)/\H dx=some (.own x)/\fY fs K R vs/\x≠dx,λ{K H R0 H' R' v} e s ⟨x,dx,vs,el,ev,h1,h2,h3,nd⟩=>by
  subst el
  exact⟨x,dx,vs,rfl,ev,(e x (by simp)).trans h1,(e dx (by simp)).trans h2,h3.mono s,nd⟩,λ{K H R0 v} ⟨x,dx,vs,el,ev,h1,h2,h3,nd⟩ a ha=>by
  subst el
  rcases OT.mp ha with rfl | ha
  ·rw[h1];exact QY _
  ·rw[OF.mp ha,h2];exact QY _⟩
 fp:=λ_ _=>rfl
 at_:=λ⟨x,dx,vs,el,ev,_⟩=>⟨x,[dx],el,ev⟩
end
section
variable {X:Cx}{Γ Γ1 Γ2 Γ3:Ga}{α β γ δ:Type}{N:Ga->Prop}{T:RT}
theorem zt {C x dx:Addr}{fs:jy}{K:T2}{H R:Hp}{o:Option V}(h:(Ent.ob ((gz C).bx [x,dx] fs)).ok K H R o):o=some (.ref x)/\t9 R [x,dx]/\∃vs,H x=some (.ins C dx vs)/\H dx=some (.own x)/\fY fs K R vs/\x≠dx:=by
 obtain⟨e,hB,hR⟩:=yZ (B:=gz C) h
 obtain⟨x',dx',vs,el,ev,h1,h2,h3,nd⟩:=hB
 cases el
 exact⟨e,hR,vs,h1,h2,h3,nd⟩
theorem lR (i:Nat){m f:Str}{p1 pos:Pos}{C x dx:Addr}{fs:jy}{r:Rep α}{y:α}{ns:Of}(hC:bH X.K C ns)(hf:f∈ns)(hΓ:Γ[i]?=some (.ob ((gz C).bx [x,dx] fs)))(h:nJ fs f=some (r.at_ y))(hN:X.N[i]?=some m:=by rfl)(hv:autoParam (cN X.env.scope m) Vc)
 (hd:UX m:=by decide) (UI:Ve m:=by decide) (hb:Rj (.Name m p1) f X.env (eval (.Name m p1) X.env)=eval (.Name m p1) X.env:=by rfl):EV X (.Attribute (.Name m p1) f pos) Γ r y Γ:=λσ H0 R0 H R E Q q=>by
 obtain⟨ea,hR,vs,h1,h2,h3,nd⟩:=zt (E.ent i _ hΓ)
 obtain⟨v,hl,Wm⟩:=h3.get h
 exact eS (tE (br hN hv hd UI) hb) ⟨.ref x,at_of ea,x,C,dx,vs,v,rfl,h1,hC.cl,hC.no f hf,hl,q v H R E (au.refl _) Wm⟩
theorem hV (i:Nat){m f:Str}{e:Expr}{p1 ap pos:Pos}{C x dx:Addr}{fs:jy}{ns:Of}{r:Rep α}{y:α}(hC:bH X.K C ns)(hf:f∈ns)(he:EV X e Γ r y Γ1)(hΓ1:Γ1[i]?=some (.ob ((gz C).bx [x,dx] fs)))(h:nJ fs f=none)(hz:fs.length<1000)(hn:N (Γ1.set i (.ob ((gz C).bx [x,dx] (fs++[(f,r.at_ y)])))))
 (hN:X.N[i]?=some m:=by rfl) (hv:autoParam (cN X.env.scope m) Vc) (hd:UX m:=by decide) (UI:Ve m:=by decide)
 (VH:Rl e (some (.Attribute (.Name m p1) f ap)) pos.line X.env=pure false:=by rfl):W1 X (.Assign [.Attribute (.Name m p1) f ap] e pos) Γ N T:=λσ H0 R0 H R E D dn dr=>
 sS (G0 (br hN hv hd UI) aP VH) (he σ H0 R0 H R E _ λv H1 R1 E1 s1 e1=>by
  obtain⟨ea,hR,vs,h1,h2,h3,nd⟩:=zt (E1.ent i _ hΓ1)
  refine⟨.ref x,at_of ea,x,C,dx,vs,rfl,h1,hC.cl,hC.no f hf,by rw[h3.length];exact hz,?_⟩
  refine dn σ _ R1 _ (E1.n6 (en:=.ob ((gz C).bx [x,dx] (fs++[(f,r.at_ y)]))) hΓ1 (a:=x) (by show x∈[x,dx];simp) ?_ λb hb=>.inl hb) s1 hn
  rw[ea]
  exact Ab (B:=gz C) ⟨x,dx,_,rfl,rfl,aF,by rw[aJ (QW nd)];exact h2,fY.put (r:=r.at_ y) e1 h3 h,nd⟩ hR)
abbrev yk:=T2->Addr->List Pk->(jy->Prop)->Prop
def vA (S:yk)(K:T2):Sp:=λvs H Q _=>∃R x dx C U7 ps Pd,vs= .ref x::U7/\au R H/\t9 R [x,dx]/\((gz C).bx [x,dx] []).R K H R (.ref x)/\j7 K R U7 ps/\S K C ps Pd/\
 ∀H' R' fs,Ext (mB H [x,dx]) R H' R'->((gz C).bx [x,dx] fs).R K H' R' (.ref x)->t9 R' [x,dx]->Pd fs->Q .UQ H'
variable {P:Rh}{w:World}{K:T2}{mg:Oc}{base:Heap}
theorem yF {S:yk}{x qual:Str}{st:Stmt}{f:Addr}{fd:Rm}{N ps:Of}{k:Nat}(F:dH K x qual st f fd)(Sc:ay N ps (ag st))(len:∀C qs Pd,S K C qs Pd->qs.length+1=ps.length)
 (UT:∀(UE:Value) (A:Ri) (outer:List Env) (s:Q9) (H:Hp) (E:XK) (C a dx:Addr) (qs:List Pk) (Pd:jy->Prop),bI k (A.deeper (Q5 qual (ag st) s.heap.objs.size f UE))->S K C qs Pd->
  WS (eD d7 P w K mg base N qual (ag st) f UE A outer s H E).ic (bu st) (.ob ((gz C).bx [a,dx] [])::eh qs (N.length-1)) (λΓ=>∃fs,Γ[0]?=some (.ob ((gz C).bx [a,dx] fs))/\Pd fs) (λ_ _ _ _=>False)):dY P w K mg base d7 (k+1) f fd ps (vA S K):=by
 refine F.ok Sc (λvs H Q E h=>?_) (λUE A outer s H vs Q E hr h=>?_)
 ·obtain⟨R,a,dx,C,U7,qs,Pd,rfl,_,_,_,p,hS,_⟩:=h
  rw[OP,p.length];exact len C qs Pd hS
 ·obtain⟨R,a,dx,C,U7,qs,Pd,rfl,sR,hR,hB,p,hS,q⟩:=h
  have hl:qs.length+1<=N.length:=by
   rw[len C qs Pd hS]
   have:=congrArg List.length Sc.pre
   rw[OY] at this
   omega
  refine⟨_,jX,UT UE A outer s H E C a dx qs Pd hr hS (L2.start N (.ref a::U7)) (mB H [a,dx]) R H R (xb (B:=gz C) sR hR hB p hl) {nx:=λ_ H'=>Q .UQ H',rt:=Q} (λσ' H' R' Γ' E' _ ⟨fs,hΓ,t⟩=>?_) λv H' R' xx t=>t.elim⟩
  obtain⟨ea,hB',Vg⟩:=yZ (B:=gz C) (E'.ent 0 _ hΓ)
  exact q H' R' fs E'.ext hB' Vg t
theorem vM {S:yk}{c:Str}{k:Nat}{e:Expr}{es:Oj}{p pos:Pos}{ps:List Pk}{Pd:jy->Prop}{C f:Addr}{fd:Rm}{pn:Of}{rr:Rep α}{z:α}(M:Mk X.K C f)(F:dY X.prog X.w X.K X.mg X.base d7 k f fd pn (vA S X.K))(hr:bI (k+1) X.A)(hm:X.mg c=some (.ref C))(hb:Binds X.K fd pn [])(ha:HA X (e::es) Γ ps Γ1)(hS:S X.K C ps Pd)
 (hz:∀(fs:jy) (R:Hp) (x dx:Addr) (vs:List (Str×V)),Pd fs->fY fs X.K R vs->R x=some (.ins C dx vs)->rr.R X.K R (.ref x) z)
 (hg:Gl X c:=by rfl) (Vo:UX c:=by decide) (he:Rc (e::es) X.env=(false,eval e X.env)::Rc es X.env:=by rfl) (U0:(Rk pos (Rc es X.env)).any (·.1)=false:=by rfl):
 EV X (.Call (.Name c p) (e::es) [] pos) Γ rr z Γ1:=λσ H0 R0 H R E Q q=>
 eS (EC M F hr hg hm hb .nil rZ lT Vo he U0) (ha σ H0 R0 H R E _ λvs H1 R1 E1 s1 p1 x dx hx hdx UJ=>by
  have hd1:∀b,mB (upd (upd H1 dx (.own x)) x (.ins C dx [])) [x,dx] b=H1 b:=λb=>by
   by_cases hb:b∈[x,dx]
   ·rw[qo hb]
    rcases OT.mp hb with rfl | hb
    ·exact hx.symm
    ·rw[OF.mp hb];exact hdx.symm
   ·rw[uL hb]
    simp at hb
    rw[aJ hb.1,aJ hb.2]
  have hR:t9 R1 [x,dx]:=λb hb=>by
   rcases OT.mp hb with rfl | hb
   ·exact E1.sub.free hx
   ·rw[OF.mp hb];exact E1.sub.free hdx
  refine⟨R1,x,dx,C,vs,ps,Pd,by rw[Pf],λb o q=>?_,hR,⟨x,dx,[],rfl,rfl,aF,by rw[aJ UJ,aF],.nil,QW UJ⟩,p1,hS,λH' R' fs xx hB Vg hP=>⟨rfl,?_⟩⟩
  ·have b1:b≠x:=λe=>by rw[e,hR x (by simp)] at q;cases q
   have b2:b≠dx:=λe=>by rw[e,hR dx (by simp)] at q;cases q
   rw[aJ b1,aJ b2];exact E1.sub b o q
  ·rw[show mB (upd (upd H1 dx (.own x)) x (.ins C dx [])) [x,dx]=H1 from funext hd1] at xx
   obtain⟨x',dx',ws,el,ev,h1,h2,h3,nd⟩:=hB
   cases el
   have E2:=E1.grow xx
   have E3:=E2.rX h2 (Vg dx (by simp)) (E1.ext.h.free hdx) (E1.off hdx)
   have sd:au R' (upd R' dx (.own x)):=au.fresh (Vg dx (by simp)) _
   have hRx:upd R' dx (.own x) x=none:=by rw[aJ nd];exact Vg x (by simp)
   have E4:=E3.rX h1 hRx (E1.ext.h.free hx) (E1.off hx)
   have sx:=sd.trans (au.fresh hRx (.ins C dx ws))
   exact q (.ref x) H' _ E4 ((s1.trans xx.r).trans sx) (hz fs _ x dx ws hP (h3.mono sx) aF))
theorem jm {e:Expr}{f:Str}{pos:Pos}{C:Addr}{ns:Of}{rr:Rep α}{z:α}{r:Rep β}{y:β}(hC:bH X.K C ns)(hf:f∈ns)(he:EV X e Γ rr z Γ1)
 (hz:∀(K:T2) (R:Hp) (v:V),rr.R K R v z->∃x dx vs u,v= .ref x/\R x=some (.ins C dx vs)/\vs.lookup f=some u/\r.R K R u y) (hb:Rj e f X.env (eval e X.env)=eval e X.env:=by rfl):EV X (.Attribute e f pos) Γ r y Γ1:=λσ H0 R0 H R E Q q=>
 eS (tE aP hb) (he σ H0 R0 H R E _ λv H1 R1 E1 s1 e1=>by
  obtain⟨x,dx,vs,u,rfl,h1,h2,h3⟩:=hz _ _ _ e1
  exact⟨x,C,dx,vs,u,rfl,E1.sub _ _ h1,hC.cl,hC.no f hf,h2,q u H1 R1 E1 s1 h3⟩)
end
section
variable {X:Cx}{Γ Γ1 Γ2 Γ3:Ga}{α β γ δ:Type}{N:Ga->Prop}{T:RT}
variable {e:Expr}{r:Rep α}{x:Str}
theorem mx {pos:Pos}{y:α}(he:EV X e Γ r y Γ1)(h:N Γ1)(VH:Rl e none pos.line X.env=pure false:=by rfl):W1 X (.Expr e pos) Γ N T:=λσ H0 R0 H R E D dn dr=>
 sS (gM aP VH) (he σ H0 R0 H R E _ λv H1 R1 E1 s1 e1=>dn σ H1 R1 _ E1 s1 h)
theorem yM (i:Nat){p1 pos:Pos}{a c:Int}(he:EV X e Γ ah c Γ)(hΓ:Γ[i]?=some (.im ah a))(h:N (Γ.set i (.im ah (a+c))))
 (hN:X.N.Nodup:=by first | assumption | decide) (hi:X.N[i]?=some x:=by rfl) (hx:autoParam (Loc X.env.scope x) V1)
 (hf:autoParam (X.fn x=true∨X.env.scope.names.lookup x=some .local) V0):
 W1 X (.AugAssign (.Name x p1) .Add e pos) Γ N T:=λσ H0 R0 H R E D dn dr=>by
 obtain⟨v,ea,hr⟩:=E.ent i _ hΓ
 cases (show v=V.int a from hr)
 refine sS (FL hN hi hx aP JK hf) ⟨.int a,at_of ea,he σ H0 R0 H R E _ λu H2 R2 E2 s2 e2=>?_⟩
 cases (show u=V.int c from e2)
 exact⟨a,c,rfl,rfl,dn _ H2 R2 _ (E2.set i (r:=ah) (x:=a+c) rfl) s2 h⟩
theorem EH {i j:Nat}{r':Rep β}{xs:List α}{ys:List β}(Zf:i≠j)(hΓ:Γ[i]?=some (.mu r xs))(hj:Γ[j]?=some (.mu r' ys))(hz:xs.length<=Ra)(VX:ys.length<=Ra)(σ:St)(H0 R0 H R:Hp)(E:aw X.K σ H0 R0 H R Γ):aw X.K σ H H H H (((Γ.map rW).set i (.im (ae r) xs)).set j (.im (ae r') ys)):=by
 obtain⟨a,vs,ea,ha,hR,pp⟩:=E.ent i _ hΓ
 obtain⟨b,ws,eb,hb,hRb,pq⟩:=E.ent j _ hj
 have E1:=E.VJ.oU (i:=i) (e0:=.no) (en:=.im (ae r) xs) (by rw[OJ,hΓ];rfl) ⟨.ref a,ea,a,vs,rfl,ha,Paired.map (λ_ _=>r.mono E.sub) pp,hz⟩ λb w=>by cases w
 exact E1.oU (i:=j) (e0:=.no) (by rw[Pb Zf,OJ,hj];rfl) ⟨.ref b,eb,b,ws,rfl,hb,Paired.map (λ_ _=>r'.mono E.sub) pq,VX⟩ λb w=>by cases w
theorem yb:dP X (Ro .LtE) (λx y H Q=>∃i j,x= .str i/\y= .str j/\Q (.bl (!decide (j.cps.toList<i.cps.toList))) H):=by
 intro UB s σ H x y v u Q I rx ry h
 obtain⟨i,j,rfl,rfl,q⟩:=h
 obtain⟨t,rfl⟩:=rx
 obtain⟨t',rfl⟩:=ry
 exact PySem.P.le_str (bK I q rfl)
theorem CY {y:Str}:fz X .LtE aj aj x y (!decide (y.cps.toList<x.cps.toList)):=⟨_,yb,λR H v u Q _ e1 e2 q=>by
 cases e1;cases e2
 exact⟨x,y,rfl,rfl,q⟩⟩
theorem zB {xs:Of}:fz X .NotIn aj (ae aj) x xs (!decide (x∈xs)):=⟨_,uX,λR H v u Q s e1 e2 q=>by
 cases e1
 obtain⟨a,vs,rfl,hq,p,_⟩:=e2
 have e:=kC p
 subst e
 exact⟨a,_,rfl,.inl (aZ.of (s _ _ hq)),rfl,kf xs,by rw[Ut rfl,lg];exact q⟩⟩
theorem tO {xs:List α}(h:EV X e Γ (ae r) xs Γ1)(he:∀whole,RZ e X.env whole=(do let v ← whole;Sg e.pos;RM [v] (SF v)):=by intro _;rfl):TV X e Γ (!xs.isEmpty) Γ1:=by
 intro σ H0 R0 H R E Q q
 refine tS (nX aP he) (h σ H0 R0 H R E _ λv H1 R1 E1 s1 e1=>?_)
 obtain⟨a,vs,rfl,ha,pp,_⟩:=e1
 refine⟨!xs.isEmpty,.inl ⟨vs,aZ.of (E1.sub _ _ ha),?_⟩,q H1 R1 E1 s1⟩
 cases pp<;>rfl
end
section
variable {X:Cx}{Γ Γ1 Γ2 Γ3:Ga}{α β γ δ:Type}{N:Ga->Prop}{T:RT}
theorem qw (i:Nat){x:Str}{p1 p2 pos:Pos}(h:N (Γ.set i (.di [])))
 (hN:X.N.Nodup:=by first | assumption | decide) (hi:X.N[i]?=some x:=by rfl) (hx:autoParam (Loc X.env.scope x) V1)
 (hs:Rl (.Dict [] [] p2) (some (.Name x p1)) pos.line X.env=pure false:=by rfl) (hf:autoParam (X.fn x=true∨X.env.scope.names.lookup x=some .local) V0):
 W1 X (.Assign [.Name x p1] (.Dict [] [] p2) pos) Γ N T:=λσ H0 R0 H R E D dn dr=>by
 refine sS (jK hN hi hx Am hs hf) λp hp=>?_
 have E1:=E.grow (Ext.dS E.sub hp (.dK (bZ [])))
 exact dn _ _ R _ (E1.uj (u:=.dK (bZ [])) (en:=.di []) i ⟨p,rfl,aF,E.sub.free hp⟩ (E.ext.h.free hp) λj e _ q w=>E.off hp j e q w) (au.refl _) h
theorem tW {R:Hp}:∀{xs:Of} {vs:List V},dF R vs (xs.map PV.str)->vs=xs.map V.str
 | [],_,.nil=>rfl
 | x::xs,_,.cons h t=>by cases h;rw[tW t];rfl
theorem vX {es:Oj}{k:Nat}{pos:Pos}{xs:Of}(h:EA X es Γ ax (xs.map PV.str) Γ1)(hz:xs.length<=Ra):EV X (.Tuple es k pos) Γ sZ xs Γ1:=
 EV.re (ip h (by rw[OH];exact hz)) λK R v e=>by
   cases e with
   | tup hp pp=>rw[tW pp] at hp;exact⟨_,rfl,dc.of hp⟩
end
def Cn (lo:Int)(n:Nat):It:=⟨λi _=>i<n,λi H x H'=>H'=H/\x= .int (lo-i),λi _=>n<=i⟩
theorem z5 {P:Rh}{w:World}{K:T2}{tg:Expr}(it:Addr)(lo:Int)(n:Nat):Turn P w K tg (Cn lo n) [it] it (λi h=>SD h it (lo+(i:Nat)*(-1)) ((n:Int)-(i:Nat)) (-1)) where
 mem:=by simp
 obj:=λi h st b hb=>by
  have e:b=it:=by simpa using hb
  subst e
  exact⟨_,st,λv z=>by
   have z':Data.fields _=Data.cell v:=z
   cases z'⟩
 keep:=λi h h' st k=>k it (by simp) _ st
 item:=by
  intro X hP hw hK hc i UB s σ H E I hf st hg
  subst hP hw hK
  obtain⟨f0,f1,f2,f3,f4,f5⟩:=hf it (by simp)
  have W:=Walks.range (prog:=X.prog) (w:=X.w) (I.ok.hd hc) it lo (-1) n
  refine W.item i s _ _ hg st λv h' tk hv V5 kk=>?_
  obtain⟨t,rfl⟩:=hv
  have I1:Inv X UB σ H {s with heap:=h',toks:=tk}:=I.turned (λb o hb e=>kk b o (by simpa using hb) e) f0 f1 f3 f4 f5
  refine⟨_,rfl,mR (s:={s with heap:=h',toks:=tk}) (n:="range_iterator") V5 rfl rfl (by decide) ⟨.int (lo-i),H,I1,⟨t,?_⟩,⟨rfl,rfl⟩,V5,λb hb=>(hf b hb).1⟩⟩
  rw[show lo+(i:Int)*(-1)=lo-(i:Int) by omega]
 done:=by
  intro X hP hw hK hc i UB s σ H E I hf st hg
  subst hP hw hK
  obtain⟨f0,f1,f2,f3,f4,f5⟩:=hf it (by simp)
  exact wpAny_pyNext_range_end (I.ok.hd hc) st (by have:n<=i:=hg;omega) λh' eb=>⟨rfl,I.turned (t':=s.toks) (λb o hb e=>eb b o hb e) f0 f1 f3 f4 f5⟩
 self:=λ_ _ _ _ _ st h=>wpAny_pyIter_rangeiter st h
theorem qN {a b:Int}:SW a b (-1)=((a-b).toNat:Int):=by
 unfold SW
 rw[Us (by decide)]
 split
 ·rw[show -(-1:Int)=1 by decide,Int.ediv_one];omega
 ·omega
theorem small_down {a b:Int}(ha: -(2 ^ 40)<=a)(VA:a<2 ^ 40)(hb: -(2 ^ 40)<=b)(Vv:b<2 ^ 40):Builtin.Range.small a b (-1)=true:=by
 unfold Builtin.Range.small
 rw[qN]
 simp only[Builtin.Range.rangeFitsLong,Oq,Ov,decide_eq_true_eq,beq_iff_eq,show¬(-1:Int)>0 by decide,if_false]
 omega
section
variable {X:Cx}{tg:Expr}{Γ Γ1 Γ2 Γ3:Ga}
def LJ (ta:TA):TI:=λσ H R=>ta σ H λvs H1=>∃i j:Int,vs=[.int i,.int j,.int (-1)]/\(-(2 ^ 40)<=i/\i<2 ^ 40/\ -(2 ^ 40)<=j/\j<2 ^ 40)/\R (Cn i (i-j).toNat) H1
theorem Fe {UB:Od}{σ:St}{H:Hp}{s:Q9}{R:It->Hp->Prop}{E:Value->Q9->Prop}{lo hi:Int}{t u v:Tok}{tk:Nat}(I:Inv X UB σ H s)(h1: -(2 ^ 40)<=lo)(h2:lo<2 ^ 40)(h3: -(2 ^ 40)<=hi)(h4:hi<2 ^ 40)
 (q:R (Cn lo (lo-hi).toNat) H):wpAny (model X.prog X.w) X.A (pyIter (.ref s.heap.objs.size)) (GH X UB σ tg R) E {s with heap:=s.heap.push {cls:=.type "range",data:=.fields #[.int lo t,.int hi u,.int (-1) v]},toks:=tk}:=by
 refine wpAny_pyIter_range (IsRange.new ..) (small_down h1 h2 h3 h4) ?_
 have I1:Inv X UB σ H {s with heap:=s.heap.push {cls:=.type "range",data:=.fields #[.int lo t,.int hi u,.int (-1) v]},toks:=tk}:=I.kept λb o e=>Ti _ e
 refine⟨(s.heap.push {cls:=.type "range",data:=.fields #[.int lo t,.int hi u,.int (-1) v]}).objs.size,[(s.heap.push {cls:=.type "range",data:=.fields #[.int lo t,.int hi u,.int (-1) v]}).objs.size],_,_,H,rfl,
  I1.kept (t':=tk) λb o e=>Ti _ e,z5 _ lo (lo-hi).toNat,?_,λb hb=>?_,q⟩
 ·have e1:lo+((0:Nat):Int)*(-1)=lo:=by simp
  have e2:(((lo-hi).toNat:Nat):Int)-((0:Nat):Int)=SW lo hi (-1):=by rw[qN];simp
  show SD _ _ (lo+((0:Nat):Int)*(-1)) ((((lo-hi).toNat:Nat):Int)-((0:Nat):Int)) (-1)
  rw[e1,e2]
  exact Tn _ rfl
 ·have e:b=(s.heap.push {cls:=.type "range",data:=.fields #[.int lo t,.int hi u,.int (-1) v]}).objs.size:=by simpa using hb
  subst e
  exact I1.gO (QC _) (I1.UH.fresh (QC _))
theorem z3 {a b c:Expr}{ta:TA}{p pos:Pos}(hg:Gl X "range")(hm:X.mg "range"=none)(ha:PA X [a,b,c] ta)(hs:Rc [a,b,c] X.env=(false,eval a X.env)::Rc [b,c] X.env:=by rfl)(U0:(Rk pos (Rc [b,c] X.env)).any (·.1)=false:=by rfl):
 PI X tg (.Call (.Name "range" p) [a,b,c] [] pos) (LJ ta):=by
 intro UB s σ H R I h
 refine Call_ (f9 I hg hm Q7 (Q2 (aX (ha pos UB s σ H _ I h) λus s1 ⟨vs,H1,I1,r1,q1⟩=>?_) hs U0))
 obtain⟨i,j,e,⟨q1,q2,q3,q4⟩,q⟩:=q1
 subst e
 cases r1 with
 | cons r rr=>
   cases rr with
   | cons r' rr=>
     cases rr with
     | cons r'' rr=>
       cases rr
       obtain⟨t,rfl⟩:=r
       obtain⟨t',rfl⟩:=r'
       obtain⟨t'',rfl⟩:=r''
       exact call_range_3 (by decide) (Fe I1 q1 q2 q3 q4 q) (.inl (PyProof.noPylong_of_log2 (by decide +kernel)))
def downs (lo:Int)(n:Nat):Oe:=(O5 n).map λ(k:Nat)=>lo-(k:Int)
theorem g0 (lo:Int)(n:Nat):(downs lo n).length=n:=by unfold downs;rw[OH,P2]
theorem sq {lo:Int}{n i:Nat}{x:Int}(h:(downs lo n)[i]?=some x):i<n/\x=lo-(i:Int):=by
 have hi:i<n:=by have:=(OD.mp h).1;rwa [g0] at this
 refine⟨hi,?_⟩
 unfold downs at h
 rw[OJ,Pt hi] at h
 exact(Option.some.inj h).symm
theorem Be {K:T2}{R1:Hp}(lo:Int)(n:Nat):Src K (Cn lo n) R1 ah (downs lo n):=λH' R' sR sH i=>⟨λx hx=>by
 obtain⟨h1,rfl⟩:=sq hx
 refine⟨h1,λv H2 hy=>?_⟩
 obtain⟨rfl,rfl⟩:=hy
 exact⟨R',Ext.refl sH,rfl⟩,λhi=>by rw[g0] at hi;exact hi⟩
theorem xZ {a b c:Expr}{p1 p2:Pos}{m n:Int}(hm:X.mg "range"=none)(ha:HA X [a,b,c] Γ [⟨ah,m⟩,⟨ah,n⟩,⟨ah, -1⟩] Γ1)(hn: -1000000<=m/\m<=1000000/\ -1000000<=n/\n<=1000000)
 (hs:Rc [a,b,c] X.env=(false,eval a X.env)::Rc [b,c] X.env:=by rfl) (U0:(Rk p2 (Rc [b,c] X.env)).any (·.1)=false:=by rfl) (hg:Gl X "range":=by rfl):IV X tg (.Call (.Name "range" p1) [a,b,c] [] p2) Γ ah (downs m (m-n).toNat) Γ1:=by
 refine⟨_,z3 hg hm lT hs U0,λσ H0 R0 H R E Rq q=>ha σ H0 R0 H R E _ λvs H1 R1 E1 s1 e1=>?_⟩
 have e:vs=[.int m,.int n,.int (-1)]:=by
  cases e1 with
  | cons a1 t=>cases t with
    | cons a2 t=>cases t with
      | cons a3 t=>cases t;cases a1;cases a2;cases a3;rfl
 subst e
 exact⟨m,n,rfl,⟨by omega,by omega,by omega,by omega⟩,q _ H1 R1 E1 s1 (by rw[g0];exact QD (show(m-n).toNat<=2000000 by omega) (by decide)) (Be m (m-n).toNat)⟩
end
end Fc
namespace Fc.ZT
open PySem PySem.Spec PyProof.Rows
section
variable {prog:Rh}{w:World}{A:Ri}{E:Value->Q9->Prop}{s:Q9}
theorem vp {i l:Addr}{UD:Array Value}(hh:A.handled=none)(UJ:i≠l):Dr prog w A i l UD (λk h=>h.IsListIter i l k/\h.IsList l UD) where
 up:=λ⟨⟨o,ho,r⟩,⟨o',VY,r'⟩⟩ hk=>⟨⟨o,hk _ (.inl rfl) o ho,r⟩,⟨o',hk _ (.inr rfl) o' VY,r'⟩⟩
 there:=λ⟨⟨o,ho,_⟩,_⟩=>Tj ho
 item:=λ{k x s Q E} ⟨hit,ht⟩ hx hQ=>wpAny_nextOf_list_item hit ht hx λh' h1 h2=>hQ h' ⟨h1,ht.extBut h2.extBut (QW UJ)⟩ h2
 done:=λ{k s Q E} ⟨hit,ht⟩ hx hE=>wpAny_nextOf_list_end hh hit ht hx λh' e h1 h2=>hE h' e h1 h2
end
abbrev zhX (h:Heap)(l1 l2:Addr):Heap:=((((h.push {cls:=.type "tuple_iterator",data:=.fields #[.ref l1,.int 0 0]}).push {cls:=.type "list_iterator",data:=.fields #[.ref l2,.int 0 0]}).push {cls:=.type "tuple",data:=.seq #[.ref h.objs.size,.ref (h.objs.size+1)]}).push {cls:=.type "tuple",data:=.seq #[.none,.none]}).push {cls:=.type "zip",data:=.fields #[.none,.bool false,.bool false,.ref (h.objs.size+2),.ref (h.objs.size+3)]}
theorem Br (l1 l2:Addr)(xs ys:Array Value):Meets (Builtin.«zip.__new__» ⟨[.type "zip",.ref l1,.ref l2],[]⟩) (λ_ R s=>s.heap.IsTuple l1 xs/\s.heap.IsList l2 ys/\R (.ok (.ret (.ref (s.heap.objs.size+4)))) {s with heap:=zhX s.heap l1 l2}):=
 .of_wp λprog w A R s h=>by
  obtain⟨hp,g,d,tk,os⟩:=s;obtain⟨hl1,Xo,h⟩:=h
  have Va:isSubtype (.type "zip") (.type "zip")=pure true:=by rw[isSubtype_type];kernel_rfl
  have hL1:Heap.IsTuple (Q9.heap ⟨hp,g,d,tk,os⟩) l1 xs:=hl1
  have hL2:Heap.IsList (Q9.heap ⟨hp.push {cls:=.type "tuple_iterator",data:=.fields #[.ref l1,.int 0 0]},g,d,tk,os⟩) l2 ys:=Heap.IsList.push Xo _
  wp_walk using wpAny_pyIter_tuple hL1,Sb hL2
  refine⟨_,rfl,?_⟩
  simp only[To]
  exact h
section
variable {prog:Rh}{w:World}{A:Ri}{E:Value->Q9->Prop}{s:Q9}
theorem z0 {l1 l2:Addr}{xs ys:Array Value}{Q:Value->Q9->Prop}(hl1:s.heap.IsTuple l1 xs)(Xo:s.heap.IsList l2 ys)
 (h:∀h',IsZip h' (s.heap.objs.size+4) (s.heap.objs.size+2) (s.heap.objs.size+3) .none->Rv h' (s.heap.objs.size+2) (.ref s.heap.objs.size) (.ref (s.heap.objs.size+1))->Rv h' (s.heap.objs.size+3) .none .none->h'.IsTupleIter s.heap.objs.size l1 0->h'.IsListIter (s.heap.objs.size+1) l2 0->
  (∀c o,s.heap.get? c=some o->h'.get? c=some o)->Q (.ref (s.heap.objs.size+4)) {s with heap:=h'}):wpAny (model prog w) A (call (.type "zip") [.ref l1,.ref l2]) Q E s:=by
 refine callType_new F.called_zip (by decide) (F.typeCall_zip_2 _ _) (F.newCall_zip_2 _ _) (λobj=>F.args_object_init_3 obj _ _) F.entry_zip_new (Br l1 l2 xs ys) ⟨hl1,Xo,?_⟩
 have at_:∀(h:Heap) (o:Obj) (n:Nat),h.objs.size=n->o.isFreed=false->(h.push o).get? n=some o:=λh o n e f=>by subst e;exact Tn _ f
 have g5:=at_ ((((s.heap.push {cls:=.type "tuple_iterator",data:=.fields #[.ref l1,.int 0 0]}).push {cls:=.type "list_iterator",data:=.fields #[.ref l2,.int 0 0]}).push {cls:=.type "tuple",data:=.seq #[.ref s.heap.objs.size,.ref (s.heap.objs.size+1)]}).push {cls:=.type "tuple",data:=.seq #[.none,.none]}) {cls:=.type "zip",data:=.fields #[.none,.bool false,.bool false,.ref (s.heap.objs.size+2),.ref (s.heap.objs.size+3)]} (s.heap.objs.size+4) (by simp[To]) rfl
 have g4:=at_ (((s.heap.push {cls:=.type "tuple_iterator",data:=.fields #[.ref l1,.int 0 0]}).push {cls:=.type "list_iterator",data:=.fields #[.ref l2,.int 0 0]}).push {cls:=.type "tuple",data:=.seq #[.ref s.heap.objs.size,.ref (s.heap.objs.size+1)]}) {cls:=.type "tuple",data:=.seq #[.none,.none]} (s.heap.objs.size+3) (by simp[To]) rfl
 have g3:=at_ ((s.heap.push {cls:=.type "tuple_iterator",data:=.fields #[.ref l1,.int 0 0]}).push {cls:=.type "list_iterator",data:=.fields #[.ref l2,.int 0 0]}) {cls:=.type "tuple",data:=.seq #[.ref s.heap.objs.size,.ref (s.heap.objs.size+1)]} (s.heap.objs.size+2) (by simp[To]) rfl
 have g2:=at_ (s.heap.push {cls:=.type "tuple_iterator",data:=.fields #[.ref l1,.int 0 0]}) {cls:=.type "list_iterator",data:=.fields #[.ref l2,.int 0 0]} (s.heap.objs.size+1) (by simp[To]) rfl
 have g1:=at_ s.heap {cls:=.type "tuple_iterator",data:=.fields #[.ref l1,.int 0 0]} s.heap.objs.size rfl rfl
 have p:=@Ti
 exact⟨⟨_,g5,rfl⟩,h _ g5 (p _ (p _ g3)) (p _ g4) ⟨_,p _ (p _ (p _ (p _ g1))),rfl,rfl⟩ ⟨_,p _ (p _ (p _ g2)),rfl,rfl⟩ λc o x=>p _ (p _ (p _ (p _ (p _ x))))⟩
end
end Fc.ZT
namespace Fc
open PySem PySem.Spec PySem.W PySem.Calls L2
open PyProof.Rows hiding St
section
variable {X:Cx}{Γ Γ1 Γ2 Γ3:Ga}{α β γ δ:Type}{N:Ga->Prop}{T:RT}
variable {es:Oj}{tp:Pos}
def HW (K:T2)(a b:Addr):It:=
 ⟨λi H=>∃xs ys x y,dc K H a xs/\aZ K H b ys/\xs[i]?=some x/\ys[i]?=some y,
  λi H v H'=>∃p x y,H p=none/\v= .ref p/\H'=upd H p (.tup [x,y])/\(∀xs,dc K H a xs->xs[i]?=some x)/\∀ys,aZ K H b ys->ys[i]?=some y,
  λi H=>∃xs ys,dc K H a xs/\aZ K H b ys/\(xs.length<=i∨ys.length<=i)⟩
def Mv (z TI TO i1 i2 a b:Addr)(i:Nat)(h:Heap):Prop:=
 IsZip h z TI TO .none/\Rv h TI (.ref i1) (.ref i2)/\(∃u v,Rv h TO u v)/\h.IsTupleIter i1 a i/\h.IsListIter i2 b i/\a≠TO/\b≠TO
theorem Ml {h:Heap}{z TI TO i1 i2 a b:Addr}{i:Nat}{xs ys:Array Value}(F:tK z TI TO i1 i2)(st:Mv z TI TO i1 i2 a b i h)(pa:IsTup h a xs)(pb:PlainL h b ys):ZipApart z TI TO i1 i2 a b:=by
 obtain⟨hz,_,⟨u,v,Vr⟩,⟨o1,e1,c1,_⟩,⟨o2,e2,c2,_⟩,n1,n2⟩:=st
 exact⟨F.TIz,F.TOz,F.i1z,F.i2z,F.TITO,F.TIi1,F.TIi2,F.TOi1,F.TOi2,F.i12,
  tup_ne pa hz (by simp),n1,tup_ne pa e1 (by rw[c1];simp),tup_ne pa e2 (by rw[c2];simp),
  dG pb hz (by simp),dG pb Vr (by simp),dG pb e1 (by rw[c1];simp),dG pb e2 (by rw[c2];simp)⟩
theorem zN {P:Rh}{w:World}{K:T2}{k:Nat}(a b z TI TO i1 i2:Addr)(F:tK z TI TO i1 i2):Turn P w K (.Tuple es k tp) (HW K a b) [z,TI,TO,i1,i2] z (Mv z TI TO i1 i2 a b) where
 mem:=by simp
 obj:=λi h st c hc=>by
  obtain⟨hz,Vy,⟨u,v,Vr⟩,⟨o1,e1,c1,d1⟩,⟨o2,e2,c2,d2⟩,_⟩:=st
  simp only[OT,O9,or_false] at hc
  rcases hc with rfl | rfl | rfl | rfl | rfl
  ·exact⟨_,hz,λv q=>by cases q⟩
  ·exact⟨_,Vy,λv q=>by cases q⟩
  ·exact⟨_,Vr,λv q=>by cases q⟩
  ·exact⟨o1,e1,λv q=>by rw[d1] at q;cases q⟩
  ·exact⟨o2,e2,λv q=>by rw[d2] at q;cases q⟩
 keep:=λi h h' st kk=>by
  obtain⟨hz,Vy,⟨u,v,Vr⟩,h1,h2,n1,n2⟩:=st
  exact⟨kk z (by simp) _ hz,kk TI (by simp) _ Vy,⟨u,v,kk TO (by simp) _ Vr⟩,h1.imp λo q=>⟨kk i1 (by simp) o q.1,q.2⟩,h2.imp λo q=>⟨kk i2 (by simp) o q.1,q.2⟩,n1,n2⟩
 item:=by
  intro X hP hw hK hc i UB s σ H E I hf st hg
  subst hP hw hK
  obtain⟨xs,ys,x,y,hq,VB,hx,hy⟩:=hg
  obtain⟨UD,r,pl,hz⟩:=I.tuple hq
  obtain⟨its',r',Vs,VX⟩:=I.list VB
  obtain⟨u,hu,rx⟩:=r.get hx
  obtain⟨u',WK,ry⟩:=r'.get hy
  have D:=Ml F st pl Vs
  have hh:=I.ok.hd hc
  obtain⟨WV,Vy,⟨c,d,Vr⟩,h1,h2,n1,n2⟩:=st
  have hn:H s.heap.objs.size=none:=I.UH.fresh (QC _)
  refine ZT.Er D (ZT.uN (A:=X.A.in1) hh (QW D.l1i1)) (ZT.vp (A:=X.A.in1) hh (QW D.l2i2)) WV Vy Vr ⟨h1,pl⟩ ⟨h2,Vs.isList⟩ (x:=u) (y:=u') (by simpa using hu) (by simpa using WK) λh' a1 a2 a3 a4 a5 hk=>?_
  refine⟨_,rfl,?_⟩
  refine wpAny_letOwnedTupleGo_zip (s:={s with heap:=h'}) a1 λh3 hz3 WC=>?_
  have lt:∀{c o},s.heap.get? c=some o->c≠s.heap.objs.size:=λe=>QH (Tj e)
  have Yw:∀b o,b∉[z,TI,TO,i1,i2]->s.heap.get? b=some o->h3.get? b=some o:=λb o hb q=>by
   simp only[OT,O9,or_false,not_or] at hb
   exact WC.extBut b o hb.1 (hk b o hb.1 hb.2.2.1 hb.2.2.2.1 hb.2.2.2.2 q)
  have I1:Inv X UB σ H {s with heap:=h3,toks:=s.toks}:=jt I Yw hf
  have Zt:h3.get? s.heap.objs.size=some {cls:=.type "tuple",data:=.seq #[u,u']}:=WC.extBut _ _ (QW (lt WV)) a5
  have I2:Inv X UB σ (upd H s.heap.objs.size (.tup [x,y])) {s with heap:=h3,toks:=s.toks}:=
   adopt I1 (I.gO (QC _) hn) (I.sz) ⟨by show 2<=Ra;decide,[u,u'],.cons rx (.cons ry .nil),⟨_,Zt,rfl,_,rfl⟩⟩
  refine⟨.ref s.heap.objs.size,_,I2,rfl,⟨s.heap.objs.size,x,y,hn,rfl,rfl,λzs X0=>?_,λzs X0=>?_⟩,⟨hz3,?_,⟨_,_,WC.extBut _ _ F.TOz a2⟩,a3.1.extBut WC.extBut F.i1z,a4.1.extBut WC.extBut F.i2z,n1,n2⟩,λb hb=>?_⟩
  ·rw[I.qX X0 hq];exact hx
  ·rw[I.ig X0 VB];exact hy
  ·exact WC.extBut _ _ F.TIz (hk _ _ F.TIz F.TITO F.TIi1 F.TIi2 Vy)
  ·have Vx:b≠s.heap.objs.size:=by
    simp only[OT,O9,or_false] at hb
    rcases hb with rfl | rfl | rfl | rfl | rfl
    ·exact lt WV
    ·exact lt Vy
    ·exact lt Vr
    ·obtain⟨_,e,_⟩:=h1;exact lt e
    ·obtain⟨_,e,_⟩:=h2;exact lt e
   rw[aJ Vx]
   exact(hf b hb).1
 done:=by
  intro X hP hw hK hc i UB s σ H E I hf st hg
  subst hP hw hK
  obtain⟨xs,ys,hq,VB,hx⟩:=hg
  obtain⟨UD,r,pl,hz⟩:=I.tuple hq
  obtain⟨its',r',Vs,VX⟩:=I.list VB
  have D:=Ml F st pl Vs
  have hh:=I.ok.hd hc
  obtain⟨WV,Vy,⟨c,d,Vr⟩,h1,h2,n1,n2⟩:=st
  have l1:=r.length
  have l2:=r'.length
  refine ZT.JW D (ZT.uN (A:=X.A.in1) hh (QW D.l1i1)) (ZT.vp (A:=X.A.in1) hh (QW D.l2i2)) WV Vy Vr ⟨h1,pl⟩ ⟨h2,Vs.isList⟩ (hx.imp (λq=>by simp;omega) λq=>by simp;omega) λh' hk=>⟨rfl,?_⟩
  refine jt (t':=s.toks) I (λb o hb q=>?_) hf
  simp only[OT,O9,or_false,not_or] at hb
  exact hk b o hb.1 hb.2.2.1 hb.2.2.2.1 hb.2.2.2.2 q
 self:=λ_ _ _ _ _ st h=>Sf st.1 h
def Kc (K:T2)(ta:TA):TI:=λσ H R=>ta σ H λvs H1=>∃a b xs ys,vs=[.ref a,.ref b]/\dc K H1 a xs/\aZ K H1 b ys/\R (HW K a b) H1
theorem DU {a b:Expr}{ta:TA}{p pos:Pos}{k:Nat}(hg:Gl X "zip")(hm:X.mg "zip"=none)(ha:PA X [a,b] ta)(hs:Rc [a,b] X.env=[(false,eval a X.env),(false,eval b X.env)]:=by rfl)(Vf:Rc [b] X.env=[(false,eval b X.env)]:=by rfl):PI X (.Tuple es k tp) (.Call (.Name "zip" p) [a,b] [] pos) (Kc X.K ta):=by
 intro UB s σ H R I h
 refine Call_ (f9 I hg hm boot_zip (Q2 (aX (ha pos UB s σ H _ I h) λus s1 ⟨vs,H1,I1,r1,q1⟩=>?_) (by rw[hs,Vf]) (by rw[Vf];rfl)))
 obtain⟨l,l',xs,ys,e,hq,VB,q⟩:=q1
 subst e
 cases r1 with
 | cons r rr=>
   cases rr with
   | cons r' rr=>
     cases rr
     cases r
     cases r'
     obtain⟨UD,_,pl,_⟩:=I1.tuple hq
     obtain⟨its',_,Vs,_⟩:=I1.list VB
     have ll:l<s1.heap.objs.size:=by obtain⟨o,e,_⟩:=pl;exact Tj e
     have ll':l'<s1.heap.objs.size:=by obtain⟨o,n,e,_⟩:=Vs;exact Tj e
     refine ZT.z0 pl Vs.isList λh' a1 a2 a3 a4 a5 hk=>?_
     refine Sf a1 ?_
     have I2:Inv X UB σ H1 {s1 with heap:=h'}:=I1.kept (t':=s1.toks) hk
     have ff:∀b,s1.heap.objs.size<=b->jE X UB H1 b:=λb hb=>I1.gO hb (I1.UH.fresh hb)
     refine⟨s1.heap.objs.size+4,[s1.heap.objs.size+4,s1.heap.objs.size+2,s1.heap.objs.size+3,s1.heap.objs.size,s1.heap.objs.size+1],_,_,H1,rfl,I2,zN l l' _ _ _ _ _ (Fy _),⟨a1,a2,⟨_,_,a3⟩,a4,a5,QH (QG ll (QK _ 3)),QH (QG ll' (QK _ 3))⟩,λb hb=>?_,q⟩
     simp only[OT,O9,or_false] at hb
     rcases hb with rfl | rfl | rfl | rfl | rfl
     ·exact ff _ (QK _ 4)
     ·exact ff _ (QK _ 2)
     ·exact ff _ (QK _ 3)
     ·exact ff _ (QC _)
     ·exact ff _ (QK _ 1)
theorem EU {a b:Expr}{p pos:Pos}{k:Nat}{ys:Of}{r:Rep α}{xs:List α}(hm:X.mg "zip"=none)(ha:EV X a Γ sZ ys Γ1)(hb:EV X b Γ1 (ae r) xs Γ2)(hs:Rc [a,b] X.env=[(false,eval a X.env),(false,eval b X.env)]:=by rfl)(Vf:Rc [b] X.env=[(false,eval b X.env)]:=by rfl)(hg:Gl X "zip":=by rfl):
 IV X (.Tuple es k tp) (.Call (.Name "zip" p) [a,b] [] pos) Γ (cD aj r) (ys.zip xs) Γ2:=by
 refine⟨_,DU hg hm (a7 aP (a7 aP bJ Vf) (by rw[hs,Vf])) hs Vf,λσ H0 R0 H R E Rq q=>ha σ H0 R0 H R E _ λv H1 R1 E1 s1 e1=>hb σ H0 R0 H1 R1 E1 _ λv' H2 R2 E2 s2 e2=>?_⟩
 obtain⟨a,rfl,WX⟩:=sZ.mono (K:=X.K) s2 e1
 obtain⟨b,vs,rfl,hp,pp,hz⟩:=e2
 have up:∀{R' H':Hp},au R2 R'->au R' H'->dc X.K H' a (ys.map V.str):=λsR sH=>WX.imp (λh=>h.imp (λq=>sH _ _ (sR _ _ q)) λ⟨o,q⟩=>⟨o,sH _ _ (sR _ _ q)⟩) id
 refine⟨a,b,_,vs,rfl,up (au.refl _) E2.sub,aZ.of (E2.sub _ _ hp),q _ H2 R2 E2 (s1.trans s2) (by rw[Pw];exact QD (QS _ _) hz) λH' R' sR sH i=>⟨λy hy=>?_,λhi=>?_⟩⟩
 ·have hq:aZ X.K H' b vs:=aZ.of (sH _ _ (sR _ _ hp))
  have VB:=up sR sH
  obtain⟨e1,e2⟩:=jB hy
  obtain⟨v,hv,hr⟩:=dh pp e2
  have Wm:(ys.map V.str)[i]?=some (V.str y.1):=by rw[OJ,e1];rfl
  refine⟨⟨_,vs,_,v,VB,hq,Wm,hv⟩,λv2 H3 X1=>?_⟩
  obtain⟨p,x,x',XG,rfl,rfl,hy,YT⟩:=X1
  have t1:=hy _ VB
  have t2:=YT vs hq
  rw[Wm] at t1
  rw[hv] at t2
  cases t1
  cases t2
  have s3:au R' (upd R' p (.tup [.str y.1,v])):=au.fresh (sH.free XG) _
  exact⟨upd R' p (.tup [.str y.1,v]),Ext.fresh sH XG _,p,_,_,rfl,aF,rfl,r.mono s3 (r.mono sR hr)⟩
 ·refine⟨_,vs,up sR sH,aZ.of (sH _ _ (sR _ _ hp)),?_⟩
  rw[Pw] at hi
  rw[OH,pp.length]
  omega
end
section
variable {X:Cx}{Γ Γ1 Γ2 Γ3:Ga}{α β γ δ:Type}{N:Ga->Prop}{T:RT}
theorem aW.cst {e:Expr}{r:Rep α}{xs ys:List α}(h:aW X e Γ r xs Γ1)(q:xs=ys):aW X e Γ r ys Γ1:=q▸h
theorem Eo {e f:Expr}{x:Str}{p1 ap cp:Pos}{D:List (Str×Of)}{k:Str}{zs:Of}(hD:lj X.prog X.w X.K X.mg x D)(he:EV X e Γ aj k Γ1)(hf:EV X f Γ1 sZ zs Γ2)(hg:Gl X x:=by rfl)(hd:UX x:=by decide)(m:M2 X (.Name x p1) "get" ap e f cp:=by exact⟨rfl,rfl,rfl,rfl⟩):EV X (.Call (.Attribute (.Name x p1) "get" ap) [e,f] [] cp) Γ sZ ((cu D k).getD zs) Γ2:=by
 intro σ H0 R0 H R E Q q
 obtain⟨a,o,vs,hm,hk,hdo,hs,hp⟩:=hD
 have pe:PE X (.Call (.Attribute (.Name x p1) "get" ap) [e,f] [] cp) (λσ H Q=>eQ X e σ H λy H1=>y= .str k/\eQ X f σ H1 λz H2=>(∀b,cu D k≠none->RG vs (Sum.inr k:Key)=some (.ref b)->Q (.ref b) H2)/\(cu D k=none->Q z H2)):=by
  intro UB s σ H Q I h
  refine wpAny_Call_method m.base m.few m.line PySem.F.plainAttrs_dict PySem.F.slot_dict_get PySem.F.type_dict_get (aX (iq (v:=.ref a) hg hm rfl hd UB s σ H (λv H2=>v= .ref a/\H2=H) I ⟨rfl,rfl⟩) λu s1 ⟨x1,H1,I1,rx,e3,e4⟩=>?_)
  subst e3;subst e4
  obtain rfl:u=TN a:=rx
  have dd:s1.heap.DictOf (bY X.prog X.w) a vs:=Tr.mpr ⟨o,I1.fe a o hk,hdo⟩
  refine⟨dd.typeIs,λb q=>?_,?_⟩
  ·cases q
   obtain⟨ob,_,_,h1,h2,_⟩:=dd
   exact⟨ob,h1,h2.2.1⟩
  rw[m.trees]
  refine S6 rfl (Calls.evalArgs_plain (S7 (aX (h UB s1 I1) λiv s2 ⟨y,H2,I2,ry,ey,q2⟩=>
   S7 (aX (q2 UB s2 I2) λfv s3 ⟨z,H3,I3,rz,q3,q4⟩=>Calls.spliced_nil ?_))))
  subst ey
  have dd3:s3.heap.DictOf (bY X.prog X.w) a vs:=Tr.mpr ⟨o,I3.fe a o hk,hdo⟩
  refine call_meetsIn PySem.F.slot_dict_get dd3.typeIs PySem.F.entry_dict_get (PySem.F.args_dict_get_3 _ _ _) (meets_dict_get_default (bY X.prog X.w) a (jh (k:=Sum.inr k) ry) hs fv) ⟨_,dd3.mapOf,?_⟩
  rcases r6 (x:=k) hp with⟨h1,h2⟩ | ⟨ys,b,h1,h2,_⟩
  ·rw[h2];exact⟨z,_,I3.tok _,rz,q4 h1⟩
  ·rw[h2];exact⟨.ref b,_,I3.tok _,rfl,q3 b (by rw[h1];exact QY _) h2⟩
 refine eS pe (he σ H0 R0 H R E _ λv H1 R1 E1 s1 e1=>⟨e1,hf σ H0 R0 H1 R1 E1 _ λv2 H2 R2 E2 s2 e2=>⟨λb hb hv=>?_,λhn=>?_⟩⟩)
 ·rcases r6 (x:=k) hp with⟨h1,h2⟩ | ⟨ys,b',h1,h2,o',UD,n,h3⟩
  ·exact Ur h1 hb
  ·rw[hv] at h2;cases h2
   refine q _ H2 R2 E2 (s1.trans s2) ?_
   rw[h1]
   exact⟨b,rfl,.inr ⟨o',UD,n,h3⟩⟩
 ·refine q _ H2 R2 E2 (s1.trans s2) ?_
  rw[hn];exact e2
end
def Mi (K:T2)(a:Addr)(n:Nat):It:=
 ⟨λi H=>∃xs,aZ K H a xs/\xs.length=n/\i<n,λi H x H'=>H'=H/\∀xs,aZ K H a xs->xs[n-1-i]?=some x,λi _=>n<=i⟩
theorem A3 {P:Rh}{w:World}{K:T2}{tg:Expr}(a it:Addr)(n:Nat):Turn P w K tg (Mi K a n) [it] it (λi h=>i<=n/\h.IsRevIter it a ((n:Int)-1-(i:Int))) where
 mem:=by simp
 obj:=λi h st b hb=>by
  have e:b=it:=by simpa using hb
  subst e
  obtain⟨_,o,e,c,d⟩:=st
  exact⟨o,e,λv z=>by rw[d] at z;cases z⟩
 keep:=λi h h' st k=>⟨st.1,st.2.at λo e=>k it (by simp) o e⟩
 item:=by
  intro X hP hw hK hc i UB s σ H E I hf st hg
  subst hP hw hK
  obtain⟨xs,hq,hl,hi⟩:=hg
  obtain⟨UD,rv,p,hz⟩:=I.list hq
  have hx:xs[n-1-i]?=some xs[n-1-i]:=OE (by omega)
  obtain⟨u,hu,ru⟩:=rv.get hx
  obtain⟨f0,f1,f2,f3,f4,f5⟩:=hf it (by simp)
  have W3:s.heap.IsRevIter it a (((n-1-i:Nat)):Int):=by rw[show(((n-1-i:Nat)):Int)=(n:Int)-1-(i:Int) by omega];exact st.2
  refine wpAny_pyNext_rev_item W3 p.isList (x:=u) (by simpa using hu) λh' V5 sb=>?_
  have I1:Inv X UB σ H {s with heap:=h'}:=I.turned (t':=s.toks) (λb o hb e=>(sb.2 b hb).trans e) f0 f1 f3 f4 f5
  have Xe:h'.IsRevIter it a ((n:Int)-1-((i+1:Nat):Int)):=by rw[show(n:Int)-1-((i+1:Nat):Int)=(((n-1-i:Nat)):Int)-1 by omega];exact V5
  obtain⟨o,e,c,d⟩:=id Xe
  exact⟨u,rfl,mR (s:={s with heap:=h'}) e c d (by decide) ⟨_,H,I1,ru,⟨rfl,λys hy=>by rw[I.ig hy hq];exact hx⟩,⟨by omega,Xe⟩,λb hb=>(hf b hb).1⟩⟩
 done:=by
  intro X hP hw hK hc i UB s σ H E I hf st hg
  subst hP hw hK
  obtain⟨f0,f1,f2,f3,f4,f5⟩:=hf it (by simp)
  obtain⟨VN,st⟩:=st
  have e:(n:Int)-1-(i:Int)= -1:=by have:n<=i:=hg;omega
  rw[e] at st
  exact wpAny_pyNext_rev_end (I.ok.hd hc) st λh' eb=>⟨rfl,I.turned (t':=s.toks) (λb o hb e=>eb b o hb e) f0 f1 f3 f4 f5⟩
 self:=λ_ _ _ _ _ st h=>wpAny_pyIter_revIter st.2 h
section
variable {X:Cx}{Γ Γ1 Γ2 Γ3:Ga}{α β γ δ:Type}{N:Ga->Prop}{T:RT}{tg:Expr}
variable {pos:Pos}{x:Str}{e:Expr}{p1:Pos}
def N2 (K:T2)(ta:TA):TI:=λσ H R=>ta σ H λvs H1=>∃a xs,vs=[.ref a]/\aZ K H1 a xs/\R (Mi K a xs.length) H1
theorem GJ {a:Expr}{ta:TA}{p:Pos}(hg:Gl X "reversed")(hm:X.mg "reversed"=none)(ha:PA X [a] ta)(hs:Rc [a] X.env=[(false,eval a X.env)]:=by rfl):PI X tg (.Call (.Name "reversed" p) [a] [] pos) (N2 X.K ta):=by
 intro UB s σ H R I h
 refine Call_ (f9 I hg hm PyProof.Rows.boot_reversed (Q2 (aX (ha pos UB s σ H _ I h) λus s1 ⟨vs,H1,I1,r1,q1⟩=>?_) hs rfl))
 obtain⟨l,xs,e,hq,q⟩:=q1
 subst e
 cases r1 with
 | cons r rr=>
   cases rr
   cases r
   obtain⟨UD,rv,pl,hz⟩:=I1.list hq
   have hl:=rv.length
   refine call_reversed_list pl.isList ?_
   have I2:Inv X UB σ H1 {s1 with heap:=s1.heap.push (revObj l ((UD.toArray.size:Int)-1))}:=I1.kept (t':=s1.toks) λb o e=>Ti _ e
   have it0:(s1.heap.push (revObj l ((UD.toArray.size:Int)-1))).IsRevIter s1.heap.objs.size l ((xs.length:Int)-1-((0:Nat):Int)):=⟨_,Tn _ rfl,rfl,by
    rw[show((xs.length:Int)-1-((0:Nat):Int))=((UD.toArray.size:Int)-1) by simp;omega];rfl⟩
   refine wpAny_pyIter_revIter it0 ?_
   refine⟨s1.heap.objs.size,[s1.heap.objs.size],_,_,H1,rfl,I2,A3 l _ xs.length,⟨QE _,it0⟩,λb hb=>?_,q⟩
   have e:b=s1.heap.objs.size:=by simpa using hb
   subst e
   exact I1.gO (QC _) (I1.UH.fresh (QC _))
theorem JC {a:Expr}{p:Pos}{r:Rep α}{xs:List α}(hm:X.mg "reversed"=none)(ha:EV X a Γ (ae r) xs Γ1)(hs:Rc [a] X.env=[(false,eval a X.env)]:=by rfl)(hg:Gl X "reversed":=by rfl):IV X tg (.Call (.Name "reversed" p) [a] [] pos) Γ r xs.reverse Γ1:=by
 refine⟨_,GJ hg hm (a7 aP bJ hs) hs,λσ H0 R0 H R E Rq q=>ha σ H0 R0 H R E _ λv H1 R1 E1 s1 e1=>?_⟩
 obtain⟨a,vs,rfl,hp,pp,z⟩:=e1
 have hvl:=pp.length
 refine⟨a,vs,rfl,aZ.of (E1.sub _ _ hp),q _ H1 R1 E1 s1 (by rw[Qi];exact z) λH' R' sR sH i=>⟨λx hx=>?_,λhi=>?_⟩⟩
 ·have hq:aZ X.K H' a vs:=aZ.of (sH _ _ (sR _ _ hp))
  have hi:i<xs.length:=by have:=(OD.mp hx).1;rwa [Qi] at this
  rw[Qr hi] at hx
  obtain⟨v,hv,hr⟩:=dh pp hx
  refine⟨⟨vs,hq,rfl,by omega⟩,λv' H2 hy=>?_⟩
  obtain⟨rfl,hy⟩:=hy
  have:=hy vs hq
  rw[show vs.length-1-i=xs.length-1-i by omega,hv] at this
  cases this
  exact⟨R',Ext.refl sH,r.mono sR hr⟩
 ·rw[Qi] at hi
  show vs.length<=i
  omega
theorem yR (i:Nat){ap cp:Pos}{r:Rep α}{xs ys:List α}(he:EV X e Γ (ae r) ys Γ1)(hΓ:Γ[i]?=some (.mu r xs))(hΓ1:Γ1[i]?=some (.mu r xs))(hz:xs.length+ys.length<=Ra)(h:N (Γ1.set i (.mu r (xs++ys))))
 (hN:X.N[i]?=some x:=by rfl) (hv:autoParam (cN X.env.scope x) Vc)
 (hd:UX x:=by decide) (UI:Ve x:=by decide)
 (VH:Rl (.Call (.Attribute (.Name x p1) "extend" ap) [e] [] cp) none pos.line X.env=pure false:=by rfl)
 (UO:Rj (.Name x p1) "extend" X.env (eval (.Name x p1) X.env)=eval (.Name x p1) X.env:=by rfl)
 (U6:((Rk cp (Rc [e] X.env)).all (λx=> !x.1)&&(RS cp (RA [] X.env)).all (λx=>x.1.isSome)
  &&decide ([e].length+([]:List Rp).length+(if([]:List Rp).isEmpty then 0 else 1)<30))=true:=by rfl)
 (UN:(ap.endLine==cp.line)=true:=by rfl) (hs:Rc [e] X.env=(false,eval e X.env)::Rc [] X.env:=by rfl):W1 X (.Expr (.Call (.Attribute (.Name x p1) "extend" ap) [e] [] cp) pos) Γ N T:=λσ H0 R0 H R E D dn dr=>by
 obtain⟨a,vs,ea,ha,hR,pp⟩:=E.ent i _ hΓ
 refine sS (gM (iI S9 PySem.F.slot_list_extend PySem.F.type_list_extend z4 (br hN hv hd UI) (a7 aP bJ hs) UO U6 UN hs rfl) VH) ?_
 refine⟨.ref a,at_of ea,.inl ⟨rfl,vs,aZ.of ha⟩,he σ H0 R0 H R E _ λu H1 R1 E1 s1 e1=>?_⟩
 obtain⟨b,ws,rfl,hb,pw,hw⟩:=e1
 obtain⟨a',U7,Vb,VA,Vg,Vq⟩:=E1.ent i _ hΓ1
 rw[ea] at Vb;cases Vb
 refine⟨a,b,U7,ws,rfl,rfl,VA,E1.sub _ _ hb,by rw[Vq.length,pw.length];exact hz,?_⟩
 exact dn σ _ R1 _ (E1.upd (en:=.mu r (xs++ys)) hΓ1 rfl ea Vg ⟨a,_,rfl,aF,Vg,dj Vq pw⟩) s1 h
theorem wk {d:Expr}{kvs:List (Int×V)}{k:Int}(hu:X.A.units+1<cLine)(he:EV X e Γ ah k Γ1)(hd:EV X d Γ1 gu kvs Γ2)(hm:RO .NotIn d=false:=by first | exact sj _ | with_unfolding_all rfl):TV X (.Compare e [.NotIn] [d] pos) Γ (!gD kvs k) Γ2:=by
 intro σ H0 R0 H R E Q q
 refine tS (lY (mE hu aP aP) hm) (he σ H0 R0 H R E _ λv H1 R1 E1 s1 e1=>hd σ H0 R0 H1 R1 E1 _ λu H2 R2 E2 s2 e2=>?_)
 cases e1
 obtain⟨p,rfl,hp⟩:=e2
 refine⟨p,_,rfl,gQ.k (k:=Sum.inl k) (E2.sub _ _ hp),_,rfl,?_⟩
 rw[og]
 exact q H2 R2 E2 (s1.trans s2)
abbrev uS (ks:Of):List (Key×V):=ks.map λk=>(Sum.inr k,V.bl true)
def nq (a:Addr)(ks:Of):wq where
 fp:=[a]
 R:=λK H R v=>v= .ref a/\H a=some (.dK (uS ks))
 loc:=λhH hR ⟨e,h1⟩=>⟨e,(hH a (by simp)).trans h1⟩
 has:=λ⟨e,h1⟩ b hb=>by rw[OF.mp hb,h1];exact QY _
theorem WS.KD (i:Nat){Wy:List Stmt}(hΓ:Γ[i]?=some (.di []))(h:∀a,WS X Wy (Γ.set i (.ob (nq a []))) N T):WS X Wy Γ N T:=λσ H0 R0 H R E D dn dr=>by
 obtain⟨a,ea,ha,hR⟩:=E.ent i _ hΓ
 refine h a σ H0 R0 H R (E.tell hΓ ⟨⟨.ref a,ea,rfl,ha⟩,λb hb=>?_⟩ λb w=>?_) D dn dr
 ·rw[OF.mp hb];exact hR
 ·rw[show b=a from OF.mp w];exact cq.mpr ea
theorem A9 (k:Str):∀ks:Of,cW (uS ks) (Sum.inr k:Key)=if k∈ks then some (.bl true) else none
 | []=>rfl
 | x::ks=>by
   by_cases e:x=k
   ·show cW ((Sum.inr x,V.bl true)::uS ks) _=_
    rw[dv (p:=((Sum.inr x:Key),V.bl true)) (by rw[e]),Ut (by rw[e];exact OM)]
   ·show cW ((Sum.inr x,V.bl true)::uS ks) _=_
    rw[da (p:=((Sum.inr x:Key),V.bl true)) (λz=>e (Sum.inr.inj z)),A9 k ks]
    by_cases h:k∈ks
    ·rw[Ut h,Ut (OL _ h)]
    ·rw[Us h,Us λz=>by rcases OT.mp z with q | q;exact e q.symm;exact h q]
theorem DF (i:Nat){ke ve:Expr}{p2:Pos}{a:Addr}{ks:Of}{k:Str}(hu:X.A.units+1<cLine)(hk:EV X ke Γ aj k Γ)(hv:PE X ve (tC (.bl true)))(hΓ:Γ[i]?=some (.ob (nq a ks)))(hn:k∉ks)(hz:ks.length<Ra)(h:N (Γ.set i (.ob (nq a (ks++[k])))))
 (hN:X.N[i]?=some x:=by rfl) (YV:autoParam (cN X.env.scope x) Vc)
 (hd:UX x:=by decide) (UI:Ve x:=by decide)
 (hs:Rl ve (some (.Subscript (.Name x p1) ke p2)) pos.line X.env=pure false:=by rfl):W1 X (.Assign [.Subscript (.Name x p1) ke p2] ve pos) Γ N T:=λσ H0 R0 H R E D dn dr=>by
 refine sS (pK hu (br hN YV hd UI) aP hv hs) ?_
 obtain⟨⟨v,ea,rfl,ha⟩,hR⟩:=E.ent i _ hΓ
 refine⟨.ref a,at_of ea,hk σ H0 R0 H R E _ λu H1 R1 E1 s1 e1=>?_⟩
 obtain⟨⟨v,Vb,rfl,VA⟩,Vg⟩:=E1.ent i _ hΓ
 cases e1
 refine⟨a,_,rfl,nG.k (k:=Sum.inr k) VA (by rw[OH];exact hz),?_⟩
 rw[nZ (.bl true) (by rw[A9,Us hn])]
 have e:uS ks++[((Sum.inr k:Key),V.bl true)]=uS (ks++[k]):=by unfold uS;rw[O3];rfl
 rw[e]
 exact dn σ _ R1 _ (E1.n6 (en:=.ob (nq a (ks++[k]))) hΓ (a:=a) (by show a∈[a];simp) ⟨⟨.ref a,Vb,rfl,aF⟩,Vg⟩ λc w=>.inl w) s1 h
theorem AF (i:Nat){a:Addr}{ks:Of}{k:Str}(hu:X.A.units+1<cLine)(he:EV X e Γ aj k Γ)(hΓ:Γ[i]?=some (.ob (nq a ks)))(hN:X.N[i]?=some x:=by rfl)(hv:autoParam (cN X.env.scope x) Vc)
 (hd:UX x:=by decide) (UI:Ve x:=by decide):TV X (.Compare e [.NotIn] [.Name x p1] pos) Γ (!decide (k∈ks)) Γ:=by
 intro σ H0 R0 H R E Q q
 refine tS (lY (mE hu aP (br hN hv hd UI)) (by with_unfolding_all rfl)) (he σ H0 R0 H R E _ λv H1 R1 E1 s1 e1=>?_)
 obtain⟨⟨v,ea,rfl,ha⟩,hR⟩:=E1.ent i _ hΓ
 cases e1
 refine⟨.ref a,at_of ea,a,_,rfl,gQ.k (k:=Sum.inr k) ha,_,rfl,?_⟩
 rw[A9]
 have e:(if k∈ks then some (V.bl true) else none).isSome=decide (k∈ks):=by by_cases h:k∈ks<;>simp[h]
 rw[e]
 exact q H1 R1 E1 s1
end
section
variable {prog:Rh}{w:World}{K:Type} [DecidableEq K]{knd:KeyKind prog w K}{A:Ri}{E:Value->Q9->Prop}{s:Q9}
theorem Bn {d:Addr}{kvs:List (K×Value)}{k:K}{key dflt:Value}{Q:Value->Q9->Prop}(Wb:knd.is k key=true)(hm:s.heap.DictOf knd d kvs)
 (X3:∀v,RG kvs k=some v->Q v {s with toks:=s.toks+1})
 (hnew:RG kvs k=none->∀h',h'.DictOf knd d (SK kvs k dflt)->Tp d s.heap h'->Q dflt {s with heap:=h',toks:=s.toks+1})
 (hsz:kvs.length<=Ra):wpAny (model prog w) A (SM d key dflt) Q E s:=by
 have hmap:=hm.mapOf
 obtain⟨o,es,ep,ho,hc,hd,hk,hp,hn⟩:=hm
 have hes:es.size<=Ra:=by
  have e1:=hp.length
  have e2:es.toList.length=es.size:=by simp
  omega
 obtain⟨o2,es2,ep2,ho2,Zn,hd2,Yw,hf⟩:=hmap
 rw[ho] at ho2;cases ho2
 rw[hd] at hd2;cases hd2
 unfold SM
 try with_reducible refine R6 ?_
 refine Rb (knd.pyHash Wb ?_)
 refine Rb (wpAny_dictFind_of (s:={s with toks:=s.toks+1}) Wb ho hd hk ?_)
 have hidx:(es.findIdx? λe=>knd.is k e.key)=kvs.findIdx? λkv=>decide (kv.1=k):=by
  rw[← hp.findIdx k];obtain⟨l⟩:=es;simp
 cases hi:es.findIdx? λe=>knd.is k e.key with
 | some i=>
   have hfk:RG kvs k=(es[i]?).map (·.val):=by rw[← hf k,findBy_of_findIdx?,hi]
   refine Rb (wpAny_dictEntries (s:={s with toks:=s.toks+1}) ho hd ?_)
   cases he:es[i]? with
   | none=>
     exfalso
     have:=Array.findIdx?_eq_some_iff_findIdx_eq.mp hi
     have Vx:i<es.size:=this.1
     rw[Array.getElem?_eq_getElem Vx] at he
     exact nomatch he
   | some e=>
     rw[he] at hfk
     exact Rb (Sl (Rg (X3 e.val hfk)))
 | none=>
   have hfk:RG kvs k=none:=by rw[← hf k,findBy_of_findIdx?,hi]
   have Y4:k∉kvs.map (·.1):=not_mem_of_findIdx_none (hidx▸hi)
   have Zr:¬(kvs.any λkv=>decide (kv.1=k))=true:=by
    rw[Qa];rintro⟨kv,hkv,he⟩
    exact Y4 (OO.mpr ⟨kv,hkv,Uu he⟩)
   refine Rb (Sl (Rb (wpAny_updateDictKeys (hz:=hes) (s:={s with toks:=s.toks+1}) ho hd (Rg (hnew hfk _ ⟨_,_,ep+1,Tq _ ho (Obj.isFreed_of_dict (Obj.data_mapDictKeys hd _)),
    hc.mapDictKeys _,Obj.data_mapDictKeys hd _,hk.push Wb _,?_,?_⟩ (Tp.update ..))))))
   ·rw[SK,Us Zr]
    have:=hp.append Wb (knd.hash k) dflt
    obtain⟨l⟩:=es
    simpa using this
   ·rw[SK,Us Zr,O3,Qs]
    refine⟨hn,by simp,?_⟩
    intro a ha b hb
    simp only[Pc,Qv,OF] at hb
    subst hb
    exact λe=>Y4 (e▸ha)
theorem BI {d:Addr}{kvs:List (K×Value)}{k:K}{key:Value}(Wb:knd.is k key=true)(hd:(d==Rx)=false)(dflt:Value)(hsz:kvs.length<=Ra):
 MeetsIn prog w (Builtin.«dict.setdefault» ⟨[.ref d,key,dflt],[]⟩) (λ_ R s=>s.heap.DictOf knd d kvs/\
  (∀v,RG kvs k=some v->R (.ok (.ret v)) {s with toks:=s.toks+1})/\
  (RG kvs k=none->∀h',h'.DictOf knd d (SK kvs k dflt)->Tp d s.heap h'->R (.ok (.ret dflt)) {s with heap:=h',toks:=s.toks+1})):=
 .of_wp λA R s ⟨hm,h1,h2⟩=>by
  unfold Builtin.«dict.setdefault»
  refine Rb ?_
  unfold Builtin.Dict.keyAndDefault
  refine Rb (wpAny_notOrdered_dict hm.mapOf.typeIs ?_)
  show wpAny _ _ (pure (d,key,some dflt)) _ _ s
  refine Rg ?_
  show wpAny _ _ (if(d==Rx)=true then _ else(SM d key dflt >>=_)) _ _ s
  rw[Us (by rw[hd];exact Oo)]
  exact Rb (Bn Wb hm (λv hv=>Rg ⟨v,rfl,h1 v hv⟩) (λhn h' hm' hs'=>Rg ⟨dflt,rfl,h2 hn h' hm' hs'⟩) hsz)
end
section
variable {X:Cx}{Γ Γ1 Γ2 Γ3:Ga}{α β γ δ:Type}{N:Ga->Prop}{T:RT}{tg:Expr}
variable {x:Str}{pos:Pos}
def Lu:V->List V->Hp->VK->Prop:=λx vs H Q=>∃(a:Addr) (F:Ol) (k v:Int),x= .ref a/\vs=[.int k,.int v]/\H a=some (.dK (bZ (cR F)))/\F.length<Ra/\∀u,Q u (if(bE F k).isSome then H else upd H a (.dK (bZ (cR (F++[(k,v)])))))
theorem DG:wa X "dict.setdefault" Lu:=by
 intro UB s σ H x vs u us Q I rx rv h
 obtain⟨a,F,k,v,rfl,rfl,hH,hz,q⟩:=h
 cases rx
 obtain⟨u1,u2,rfl,⟨t,rfl⟩,⟨t2,rfl⟩⟩:=vals2 rv
 obtain⟨z,hd,kvs,rel,dd⟩:=wV I.UH hH
 have hzl:kvs.length<=Ra:=by rw[← rel.length];exact z
 have Wl:=rel.val (Sum.inl k:Key)
 rw[kR] at Wl
 refine call_meetsIn PySem.F.slot_dict_setdefault dd.typeIs PySem.F.entry_dict_setdefault (PySem.F.args_dict_setdefault_3 _ _ _) (BI (knd:=bY X.prog X.w) (kvs:=kvs) (jh (k:=Sum.inl k) (u:=.int k t) ⟨t,rfl⟩) hd (.int v t2) hzl) ⟨dd,λw' hw=>?_,λhn h' Xb hs=>?_⟩
 ·cases e:bE F k with
  | none=>rw[e,hw] at Wl;cases Wl
  | some y=>
    rw[e,hw] at Wl
    have:=q (.int y)
    rw[e,Ut (show(some y).isSome=true from rfl)] at this
    exact⟨.int y,H,I.tok _,Wl,this⟩
 ·cases e:bE F k with
  | some y=>rw[e,hn] at Wl;cases Wl
  | none=>
    have:=q (.int v)
    rw[e,Us (by decide)] at this
    have hput:putK (bZ (cR F)) (Sum.inl k:Key) (.int v)=bZ (cR (F++[(k,v)])):=by
     rw[sI];unfold lK;rw[e,Us (by decide)]
    have hl:(bZ (cR (F++[(k,v)]))).length<=Ra:=by unfold bZ cR;simp;omega
    refine⟨.int v,_,mI I (by rw[hH];exact Uq) hs (let ⟨q,_,_,hq,_⟩:=Xb;⟨q,hq⟩) (ua hl hd ?_ Xb),⟨t2,rfl⟩,this⟩
    rw[← hput]
    exact rel.put (Sum.inl k:Key) ⟨t2,rfl⟩
theorem set_same.{u}{A:Type u}{l:List A}{i:Nat}{x:A}(h:l[i]?=some x):l.set i x=l:=by
 refine PU λj=>?_
 by_cases e:i=j
 ·subst e;rw[OW (OD.mp h).1,h]
 ·rw[Pb e]
theorem Ge (i:Nat){e f:Expr}{p1 ap cp:Pos}{F:Ol}{k v:Int}(he:EV X e Γ ah k Γ)(hf:EV X f Γ ah v Γ)(hΓ:Γ[i]?=some (.di (cR F)))(hz:F.length<Ra)(h:N (Γ.set i (.di (cR (if(bE F k).isSome then F else F++[(k,v)])))))
 (hN:X.N[i]?=some x:=by rfl) (hv:autoParam (cN X.env.scope x) Vc)
 (hd:UX x:=by decide) (UI:Ve x:=by decide)
 (VH:Rl (.Call (.Attribute (.Name x p1) "setdefault" ap) [e,f] [] cp) none pos.line X.env=pure false:=by rfl)
 (UO:Rj (.Name x p1) "setdefault" X.env (eval (.Name x p1) X.env)=eval (.Name x p1) X.env:=by rfl)
 (U6:((Rk cp (Rc [e,f] X.env)).all (λx=> !x.1)&&(RS cp (RA [] X.env)).all (λx=>x.1.isSome)
  &&decide ([e,f].length+([]:List Rp).length+(if([]:List Rp).isEmpty then 0 else 1)<30))=true:=by rfl)
 (UN:(ap.endLine==cp.line)=true:=by rfl) (hs:Rc [e,f] X.env=(false,eval e X.env)::Rc [f] X.env:=by rfl) (Vf:Rc [f] X.env=(false,eval f X.env)::Rc [] X.env:=by rfl) (U0:(Rk cp (Rc [f] X.env)).any (·.1)=false:=by rfl):
 W1 X (.Expr (.Call (.Attribute (.Name x p1) "setdefault" ap) [e,f] [] cp) pos) Γ N T:=λσ H0 R0 H R E D dn dr=>by
 obtain⟨a,ea,ha,hR⟩:=E.ent i _ hΓ
 refine sS (gM (iI PySem.F.plainAttrs_dict PySem.F.slot_dict_setdefault PySem.F.type_dict_setdefault DG (br hN hv hd UI) (a7 aP (a7 aP bJ Vf) hs) UO U6 UN hs U0) VH) ?_
 refine⟨.ref a,at_of ea,.inr (.inr (.inl ⟨rfl,.inl ⟨_,ha⟩⟩)),he σ H0 R0 H R E _ λv1 H1 R1 E1 s1 q1=>hf σ H0 R0 H1 R1 E1 _ λv2 H2 R2 E2 s2 q2=>?_⟩
 cases q1
 cases q2
 obtain⟨a',Vb,VA,Vg⟩:=E2.ent i _ hΓ
 rw[ea] at Vb;cases Vb
 refine⟨a,F,k,v,rfl,rfl,VA,hz,λu=>?_⟩
 cases q:(bE F k).isSome with
 | true=>
   rw[q,Ut rfl] at h
   rw[Ut rfl]
   refine dn σ H2 R2 _ E2 (s1.trans s2) ?_
   rwa [set_same hΓ] at h
 | false=>
   rw[q,Us (by decide)] at h
   rw[Us (by decide)]
   exact dn σ _ R2 _ (E2.upd (en:=.di (cR (F++[(k,v)]))) hΓ rfl ea Vg ⟨a,rfl,aF,Vg⟩) (s1.trans s2) h
def oP (X:Cx)(e:Expr)(Γ:Ga)(k:Int):Prop:=∀(σ:St) (H0 R0 H R:Hp),aw X.K σ H0 R0 H R Γ->∀(H':Hp) (Q:VK),au R H'->Q (.int k) H'->eQ X e σ H' Q
theorem u7 (i:Nat){y:Int}(hΓ:Γ[i]?=some (.im ah y))(hN:X.N[i]?=some x:=by rfl)(hv:autoParam (cN X.env.scope x) Vc)
 (hd:UX x:=by decide) (UI:Ve x:=by decide):oP X (.Name x pos) Γ y:=λσ H0 R0 H R E H' Q s q=>by
 obtain⟨v,e,h⟩:=E.ent i _ hΓ
 cases h
 exact eS (br hN hv hd UI) ⟨_,at_of e,q⟩
theorem D4 (i:Nat){ke ve le ue:Expr}{p1 p2:Pos}{k l v u:Int}(hk:oP X ke Γ k)(hl:oP X le Γ l)(hv:PE X ve (tC (.int v)))(hu:PE X ue (tC (.int u)))(Yv:k≠l)(h:N (Γ.set i (.di (cR [(k,v),(l,u)]))))
 (hN:X.N.Nodup:=by first | assumption | decide) (hi:X.N[i]?=some x:=by rfl) (hx:autoParam (Loc X.env.scope x) V1)
 (hs:Rl (.Dict [some ke,some le] [ve,ue] p2) (some (.Name x p1)) pos.line X.env=pure false:=by rfl) (hf:autoParam (X.fn x=true∨X.env.scope.names.lookup x=some .local) V0):
 W1 X (.Assign [.Name x p1] (.Dict [some ke,some le] [ve,ue] p2) pos) Γ N T:=λσ H0 R0 H R E D dn dr=>by
 refine sS (jK hN hi hx (vU (nD aP hv (nD aP hu vF)) rfl rfl (by simp) (by simp)) hs hf) λp hp=>?_
 have sR:au R (upd H p (.dK [])):=E.sub.trans (au.fresh hp _)
 refine hk σ H0 R0 H R E _ _ sR ?_
 refine hl σ H0 R0 H R E _ _ sR ?_
 refine⟨aF,[(Sum.inl k,.int v),(Sum.inl l,.int u)],rfl,(by show 2<=15;decide),?_⟩
 have E1:=E.grow (Ext.dS E.sub hp (.dK (bZ (cR [(k,v),(l,u)]))))
 have e:upd (upd H p (.dK [])) p (.dK (jI [] [(Sum.inl k,.int v),(Sum.inl l,.int u)]))=upd H p (.dK (bZ (cR [(k,v),(l,u)]))):=by
  rw[qE]
  congr 2
  show putK [((Sum.inl k:Key),V.int v)] (Sum.inl l) (.int u)=_
  rw[nZ (.int u) (by
   rw[da (p:=((Sum.inl k:Key),V.int v)) (λz=>Yv (Sum.inl.inj z))];rfl)]
  rfl
 rw[e]
 exact dn _ _ R _ (E1.uj (u:=.dK (bZ (cR [(k,v),(l,u)]))) (en:=.di (cR [(k,v),(l,u)])) i ⟨p,rfl,aF,E.sub.free hp⟩ (E.ext.h.free hp) λj e _ q w=>E.off hp j e q w) (au.refl _) h
theorem Eh {iter:Expr}{xs:List PV}(hz:xs.length<=Ra)(h:EV X iter Γ ax (.tup xs) Γ1):IV X tg iter Γ ax xs Γ1:=by
 refine⟨_,zk aP,λσ H0 R0 H R E Rq q=>h σ H0 R0 H R E _ λv H1 R1 E1 s1 e1=>?_⟩
 cases e1 with
 | @tup a vs _ hp pp=>
   have WX:∀H' R':Hp,au R1 R'->au R' H'->dc X.K H' a vs:=λH' R' sR sH=>dc.of (sH _ _ (sR _ _ hp))
   refine⟨a,rfl,⟨_,WX H1 R1 (au.refl _) E1.sub⟩,q _ H1 R1 E1 s1 hz λH' R' sR sH i=>⟨λx hx=>?_,λhi=>⟨_,WX H' R' sR sH,by rw[pp.pair.length];exact hi⟩⟩⟩
   obtain⟨v,hv,hr⟩:=dh pp.pair hx
   refine⟨⟨_,_,WX H' R' sR sH,hv⟩,λv2 H2 hy=>?_⟩
   obtain⟨rfl,hy⟩:=hy
   have:=hy _ (WX _ R' sR sH)
   rw[hv] at this
   cases this
   exact⟨R',Ext.refl sH,hr.mono sR⟩
end
section
variable {X:Cx}{Γ Γ1 Γ2 Γ3:Ga}{α β γ δ:Type}{N:Ga->Prop}{T:RT}
theorem BF (i:Nat){x:Str}{p p1 pos:Pos}{F:Ol}(hm:X.mg "len"=none)(hΓ:Γ[i]?=some (.di (cR F)))(hN:X.N[i]?=some x:=by rfl)(hv:autoParam (cN X.env.scope x) Vc)
 (hd:UX x:=by decide) (UI:Ve x:=by decide) (hs:Rc [.Name x p1] X.env=[(false,eval (.Name x p1) X.env)]:=by rfl) (hg:Gl X "len":=by rfl):EV X (.Call (.Name "len" p) [.Name x p1] [] pos) Γ ah (F.length:Int) Γ:=by
 intro σ H0 R0 H R E Q q
 obtain⟨a,ea,ha,hR⟩:=E.ent i _ hΓ
 refine eS (dX rh hg hm RH (a7 (br hN hv hd UI) bJ hs) (by decide) (by decide) hs) ⟨.ref a,at_of ea,a,_,rfl,ha,?_⟩
 unfold bZ cR
 rw[OH,OH]
 exact q _ H R E (au.refl _) rfl
end
section
variable {X:Cx}{Γ Γ1 Γ2 Γ3:Ga}{α β γ δ:Type}{N:Ga->Prop}{T:RT}
theorem sO {a:Expr}{p pos:Pos}{F:Ol}(hm:X.mg "len"=none)(ha:EV X a Γ iQ F Γ1)(hs:Rc [a] X.env=[(false,eval a X.env)]:=by rfl)(hg:Gl X "len":=by rfl):EV X (.Call (.Name "len" p) [a] [] pos) Γ ah (F.length:Int) Γ1:=
 EV.cast (pM (kvs:=cR F) hm (EV.rep ha λ_ _ q=>q) hs hg) (by unfold cR;rw[OH])
end
section
variable {X:Cx}{Γ Γ1 Γ2 Γ3:Ga}{α β γ δ:Type}{N:Ga->Prop}{T:RT}
theorem GV (i1 i2:Nat){x1 x2:Str}{k:Nat}{p1 p2 tp pos:Pos}{e:Expr}{r:Rep α}{r':Rep β}{y1:α}{y2:β}(he:EV X e Γ (cD r r') (y1,y2) Γ1)(h:N ((Γ1.set i1 (.im r y1)).set i2 (.im r' y2)))
 (hc:X.calm=true:=by rfl) (hN:X.N.Nodup:=by first | assumption | decide)
 (h1:X.N[i1]?=some x1:=by rfl) (l1:autoParam (Loc X.env.scope x1) V1) (f1:autoParam (X.fn x1=true∨X.env.scope.names.lookup x1=some .local) V0)
 (h2:X.N[i2]?=some x2:=by rfl) (l2:autoParam (Loc X.env.scope x2) V1) (f2:autoParam (X.fn x2=true∨X.env.scope.names.lookup x2=some .local) V0)
 (hs:Sd [.Tuple [.Name x1 p1,.Name x2 p2] k tp] e pos.line X.env=pure false:=by rfl) (hw:Se [.Tuple [.Name x1 p1,.Name x2 p2] k tp] e X.env=pure none:=by rfl) (ho:(RP [.Tuple [.Name x1 p1,.Name x2 p2] k tp] X.env).map (·.2)=[RU (.Tuple [.Name x1 p1,.Name x2 p2] k tp) X.env]:=by rfl):W1 X (.Assign [.Tuple [.Name x1 p1,.Name x2 p2] k tp] e pos) Γ N T:=λσ H0 R0 H R E D dn dr=>by
 refine sS (o9 aP (uU hc (gC (gH hN h1 l1 f1) (gC (gH hN h2 l2 f2) pO))) hs hw ho) (he σ H0 R0 H R E _ λv H1 R1 E1 s1 q1=>?_)
 obtain⟨a,v1,v2,rfl,ha,g1,g2⟩:=q1
 exact⟨a,_,rfl,dc.of (E1.sub _ _ ha),rfl,_,_,rfl,_,_,rfl,rfl,dn _ H1 R1 _ ((E1.set i1 (r:=r) g1).set i2 (r:=r') g2) s1 h⟩
end
def FlE:Ent->Prop
 | .no=>True
 | .im _ _=>True
 | _=>False
def uw:Ga->Prop
 | []=>True
 | e::r=>FlE e/\uw r
theorem uw.fp:∀{Γ:Ga},uw Γ->∀(i:Nat) (e:Ent),Γ[i]?=some e->∀o,e.fp o=[]
 | e::_,⟨h,_⟩,0,_,q,o=>by
   cases q
   cases e with
   | no=>rfl
   | im _ _=>rfl
   | mu _ _=>exact h.elim
   | di _=>exact h.elim
   | ob _=>exact h.elim
 | _::r,⟨_,h⟩,i+1,e,q,o=>uw.fp h i e (by simpa using q) o
 | [],_,i,e,q,o=>by simp at q
theorem aw.B8 {K:T2}{σ:St}{H0 R0 H R:Hp}{Γ:Ga}(E:aw K σ H0 R0 H R Γ)(fl:uw Γ):aw K σ H R H R Γ:=
 ⟨⟨au.refl _,au.refl _,E.sub,λ_ _=>rfl⟩,E.ent,(λi e a q w=>by rw[fl.fp i e q] at w;cases w),(λi j e e' a q q' w w'=>by rw[fl.fp i e q] at w;cases w),E.len⟩
section
variable {X:Cx}{Γ Γ1 Γ2 Γ3:Ga}{α β γ δ:Type}{N:Ga->Prop}{T:RT}
def Jh (X:Cx)(e:Expr)(Γ:Ga){α:Type}(r:Rep α)(P:List α->Prop)(Γ':Ga):Prop:=
 ∀(σ:St) (H0 R0 H R:Hp),aw X.K σ H0 R0 H R Γ->∀Q:VK,(∀a vs ys H' R',aw X.K σ H0 R0 H' R' Γ'->au R R'->H' a=some (.lst vs)->R' a=none->H0 a=none->Off a σ Γ'->PySem.Paired (r.R X.K R') vs ys->ys.length<=Ra->P ys->Q (.ref a) H')->eQ X e σ H Q
theorem aW.evr {e:Expr}{r:Rep α}{ys:List α}{P:List α->Prop}(h:aW X e Γ r ys Γ1)(hp:P ys):Jh X e Γ r P Γ1:=λσ H0 R0 H R E Q q=>h σ H0 R0 H R E Q λa vs H' R' E' s' h1 h2 h3 h4 h5 h6=>q a vs ys H' R' E' s' h1 h2 h3 h4 h5 h6 hp
theorem xn {tg elt:Expr}{scope:Scope}{cl:List (Str×Addr)}{own fr:Of}{ix:List Nat}{ra:Rep α}{rb:Rep β}{xs:List α}{P:α->List β->Prop}{bf:α->Ga->Ga}{J:It}{σ:St}{H0 R0 H1 R1:Hp}{Q:VK}(E1:aw X.K σ H0 R0 H1 R1 Γ1)(src:Src X.K J R1 ra xs)(hz:xs.length<=Ra)
 (hb:∀(C:Addr) (s:Q9) (H:Hp) (ex:Oh),BG (bq X scope cl C (own++fr) s H ex) tg ra bf) (hw:∀x,Wk (bf x (dA own ix Γ1)) (dA own ix Γ1)) (hfl:∀x,uw (bf x (dA own ix Γ1)))
 (he:∀(C:Addr) (s:Q9) (H:Hp) (ex:Oh) x,x∈xs->Jh (bq X scope cl C (own++fr) s H ex) elt (bf x (dA own ix Γ1)) rb (P x) (bf x (dA own ix Γ1)))
 (q:∀a bs Vh H' R',Ext H1 R1 H' R'->H' a=none->fV X.K rb H' R' bs Vh->bs.Nodup->(∀b∈bs,H1 b=none/\R' b=none)->PySem.Paired P xs Vh->(∀ys∈Vh,ys.length<=Ra)->Q (.ref a) (upd H' a (.lst (bs.map .ref)))):
 ∃W:Nat->Nat->List V->St->Hp->Prop,(∃m,W 0 m [] (gm own ix σ) H1)/\∀i m ys σ' H',W i m ys σ' H'->
  ys.length<=Ra/\((J.stop i H'/\∀p,H' p=none->Q (.ref p) (upd H' p (.lst ys)))∨
  (J.go i H'/\∀x H2,J.Yn i H' x H2->(λv σ H Q=>∀C s Hh ex,mF (bq X scope cl C (own++fr) s Hh ex) tg v σ H Q:TG) x σ' H2 λσ2 H3=>(λσ H Q=>∀C s Hh ex,nU (bq X scope cl C (own++fr) s Hh ex) [] σ H Q:TT) σ2 H3 λb H4=>
    if b=true then(λσ H Q=>∀C s Hh ex,eQ (bq X scope cl C (own++fr) s Hh ex) elt σ H Q:TE) σ2 H4 λv H5=>∃m',m'<m/\W (i+1) m' (ys++[v]) σ2 H5 else∃m',m'<m/\W (i+1) m' ys σ2 H4)):=by
 refine⟨λi m ys σ' H'=>m=xs.length-i/\i<=xs.length/\∃R' bs Vh,aw X.K σ' H1 R1 H' R' (dA own ix Γ1)/\ys=bs.map .ref/\fV X.K rb H' R' bs Vh/\bs.Nodup/\(∀b∈bs,H1 b=none/\R' b=none)/\PySem.Paired P (xs.take i) Vh/\∀ys∈Vh,ys.length<=Ra,⟨_,rfl,QE _,R1,[],[],tI E1 own ix,rfl,⟨rfl,λi b r h1=>by simp at h1⟩,Ql,(λb hb=>by cases hb),(.nil:PySem.Paired P [] []),(λys hy=>by cases hy)⟩,?_⟩
 rintro i m ys σ' H' ⟨rfl,hle,R',bs,Vh,E',rfl,hrs,Yc,Yg,pq,hsz⟩
 have hbl:bs.length=i:=by rw[hrs.1,← pq.length,OY];omega
 have hys:(bs.map V.ref).length<=Ra:=by rw[OH,hbl];omega
 obtain⟨YF,V6⟩:=src H' R' E'.ext.r E'.sub i
 refine⟨hys,?_⟩
 by_cases Vx:i<xs.length
 ·obtain⟨go,yl⟩:=YF _ (OE Vx)
  have VT:xs[i]∈xs:=O0 Vx
  have tk:(xs.take (i+1))=xs.take i++[xs[i]]:=by rw[Pg,OE Vx];rfl
  refine .inr ⟨go,λv H2 hy C s Hh ex=>?_⟩
  obtain⟨R2,x2,hr⟩:=yl v H2 hy
  refine hb C s Hh ex σ' H1 R1 H2 R2 _ v _ (E'.grow x2) hr _ λσ2 E2=>?_
  intro C s Hh ex
  refine(cO (X:=bq X scope cl C (own++fr) s Hh ex)) σ2 H2 R2 H2 R2 (E2.B8 (hfl _)) _ λH4 R4 E4 s4=>?_
  rw[Ut rfl]
  intro C s Hh ex
  refine he C s Hh ex _ VT σ2 H4 R4 H4 R4 (E4.B8 (hfl _)) _ λa vs zs H5 R5 E5 s5 ha hR h0 off pp VX hP=>?_
  have x5:Ext H' R' H5 R5:=x2.trans (E4.ext.trans E5.ext)
  have x25:Ext H2 R2 H5 R5:=E4.ext.trans E5.ext
  have VN:∀b∈bs,H' b≠none:=λb hb=>by
   obtain⟨r,hr⟩:=hrs.one hb
   rw[hr];exact QY _
  have hold:∀b∈bs,b≠a:=λb hb e=>by
   have:H4 b≠none:=au.some (x2.h.trans E4.ext.h) (VN b hb)
   exact this (e▸h0)
  refine⟨xs.length-(i+1),by omega,rfl,Vx,R5,bs++[a],Vh++[zs],(E2.grow x25).weak (hw _),by rw[O3];rfl,?_,?_,λb hb=>?_,?_,λys hy=>?_⟩
  ·refine fV.snoc (fV.loc hrs (λc hc=>?_) x5.r) ha pp
   cases e:H' c with
   | none=>exact Ur e (VN c hc)
   | some u=>exact x5.h c u e
  ·exact fP Yc λz=>hold a z rfl
  ·rcases OS.mp hb with z | z
   ·exact⟨(Yg b z).1,(x5.old b (VN b z)).trans (Yg b z).2⟩
   ·rw[OF.mp z]
    exact⟨(E'.ext.h.trans (x2.h.trans E4.ext.h)).free h0,hR⟩
  ·rw[tk]
   exact dj pq (.cons hP .nil)
  ·rcases OS.mp hy with z | z
   ·exact hsz ys z
   ·rw[OF.mp z];exact VX
 ·have e:i=xs.length:=by omega
  subst e
  rw[Pl] at pq
  exact .inl ⟨V6 (QC _),λa ha=>q a bs Vh H' R' E'.ext ha hrs Yc Yg pq hsz⟩
theorem EF (i:Nat){y:Str}{py V7:Pos}{tg elt iter:Expr}{scope:Scope}{pos:Pos}{cl:List (Str×Addr)}{own fr:Of}{ix:List Nat}{ra:Rep α}{rb:Rep β}{xs:List α}{P:α->List β->Prop}{bf:α->Ga->Ga}
 (S:eN X scope cl own fr ix) (hit:IV X tg iter Γ ra xs Γ1)
 (hb:∀(C:Addr) (s:Q9) (H:Hp) (ex:Oh),BG (bq X scope cl C (own++fr) s H ex) tg ra bf) (hw:∀x,Wk (bf x (dA own ix Γ1)) (dA own ix Γ1)) (hfl:∀x,uw (bf x (dA own ix Γ1)))
 (he:∀(C:Addr) (s:Q9) (H:Hp) (ex:Oh) x,x∈xs->Jh (bq X scope cl C (own++fr) s H ex) elt (bf x (dA own ix Γ1)) rb (P x) (bf x (dA own ix Γ1)))
 (h:∀a bs Vh,PySem.Paired P xs Vh->(∀ys∈Vh,ys.length<=Ra)->N (Γ1.set i (.ob (dJ rb a bs Vh))))
 (VH:Rl (.ListComp elt [⟨tg,iter,[],0⟩] scope pos) (some (.Name y py)) V7.line X.env=pure true:=by rfl)
 (hN:X.N.Nodup:=by first | assumption | decide) (Zg:X.N[i]?=some y:=by rfl) (hx:autoParam (Loc X.env.scope y) V1)
 (hc:X.calm=true:=by rfl) (hs:∀x,Rz iter X.env x=pure x:=by intro _;rfl) (hf:autoParam (X.fn y=true∨X.env.scope.names.lookup y=some .local) V0):
 W1 X (.Assign [.Name y py] (.ListComp elt [⟨tg,iter,[],0⟩] scope pos) V7) Γ N T:=λσ H0 R0 H R E D dn dr=>by
 obtain⟨wi,hi,hit⟩:=hit
 refine sS (pF (i:=i) (g:=λv σ H Q=>∀C s Hh ex,mF (bq X scope cl C (own++fr) s Hh ex) tg v σ H Q) (tc:=λσ H Q=>∀C s Hh ex,nU (bq X scope cl C (own++fr) s Hh ex) [] σ H Q) (te:=λσ H Q=>∀C s Hh ex,eQ (bq X scope cl C (own++fr) s Hh ex) elt σ H Q) VH hN Zg hx hc S hi
  (λC s H ex=>⟨λUB s1 σ H v u Q I r h=>h C s _ ex UB s1 u I r,λUB s1 σ H Q I h=>h C s _ ex UB s1 I,λUB s1 σ H Q I h=>h C s _ ex UB s1 I⟩) hs hf) ?_
 refine hit σ H0 R0 H R E _ λJ H1 R1 E1 s1 hz src=>xn (Q:=λv H'=>D.nx (σ.set i (some v)) H') E1 src hz hb hw hfl he λa bs Vh H' R' xx ha hg Yc Yg pq hsz=>?_
 have E2:=E1.grow xx
 have E3:=E2.grow (Ext.dS E2.sub ha (.lst (bs.map .ref)))
 have inb:∀c∈bs,H' c≠none:=λc hc=>by
  obtain⟨r,hr⟩:=hg.one hc
  rw[hr];exact QY _
 have nab:a∉bs:=λz=>inb a z ha
 refine dn _ _ R' _ (E3.setG (en:=.ob (dJ rb a bs Vh)) i ⟨⟨.ref a,rfl,rfl,aF,hg.loc (λc hc=>aJ λz=>nab (z▸hc)) (au.refl _),Pa.mpr ⟨nab,Yc⟩⟩,λb hb=>?_⟩ (λb hb=>?_) λb hb j e _ qj w=>?_) (s1.trans xx.r) (h a bs Vh pq hsz)
 ·rcases OT.mp hb with rfl | hb
  ·exact E2.sub.free ha
  ·exact(Yg b hb).2
 ·rcases OT.mp hb with rfl | hb
  ·exact E2.ext.h.free ha
  ·exact E1.ext.h.free (Yg b hb).1
 ·rcases OT.mp hb with rfl | hb
  ·exact E2.off ha j e qj w
  ·exact(Ent.gY (E1.ent j e qj) w).1 (Yg b hb).1
end
section
variable {P:Rh}{w:World}{K:T2}{mg:Oc}{base:Heap}{α:Type}
theorem ET {r:Rep α}{S:jv α}{x qual:Str}{st:Stmt}{f:Addr}{fd:Rm}{N ps:Of}{k:Nat}(F:dH K x qual st f fd)(Sc:ay N ps (ag st))(hm:mg x=some (.ref f))(hb:Binds K fd ps [])(len:∀xs qs T,S K xs qs T->qs.length+1=ps.length)
 (UT:∀(UE:Value) (A:Ri) (outer:List Env) (s:Q9) (H:Hp) (E:XK) (a:Addr) (xs:List α) (qs:List Pk) (T:List α->RT),bI k (A.deeper (Q5 qual (ag st) s.heap.objs.size f UE))->S K xs qs T->
  WS (eD d7 P w K mg base N qual (ag st) f UE A outer s H E).ic (bu st) (.ob (bM a r xs)::eh qs (N.length-1)) (λΓ=>∃xs',Γ[0]?=some (.ob (bM a r xs'))/\∀H0 H' R',T xs' H0 .UQ H' R') (t8 K a r T)):aA P w K mg base x (k+1) (eB r S K):=by
 refine⟨f,fd,ps,?_,hm,F.kp,hb⟩
 refine F.ok Sc (λvs H Q E h=>?_) (λUE A outer s H vs Q E hr h=>?_)
 ·obtain⟨R,a,ws,xs,U7,qs,T,rfl,_,_,_,_,p,hS,_⟩:=h
  rw[OP,p.length];exact len xs qs T hS
 ·obtain⟨R,a,ws,xs,U7,qs,T,rfl,sR,hR,ha,pp,p,hS,q⟩:=h
  have hl:qs.length+1<=N.length:=by
   rw[len xs qs T hS]
   have:=congrArg List.length Sc.pre
   rw[OY] at this
   omega
  refine⟨_,jX,UT UE A outer s H E a xs qs T hr hS (L2.start N (.ref a::U7)) (del H a) R H R (oq sR hR ha pp p hl) {nx:=λ_ H'=>Q .UQ H',rt:=Q} (λσ' H' R' Γ' E' _ ⟨xs',hΓ,t⟩=>?_) λv H' R' xx t=>?_⟩
  ·obtain⟨ea,⟨We,VA,Vq⟩,Vg⟩:=fN (E'.ent 0 _ hΓ)
   exact q .UQ H' R' We xs' E'.ext VA Vg Vq (t _ _ _)
  ·obtain⟨We,xs',h1,h2,h3,h4⟩:=t
   exact q v H' R' We xs' xx h1 h2 h3 h4
theorem Bf {r:Rep α}{S:jv α}{x:Str}{st:Stmt}{N ps:Of}{k:Nat}(D:Def K mg x st ps)(Sc:ay N ps (ag st))
 (UT:∀(f:Addr) (UE:Value) (A:Ri) (outer:List Env) (s:Q9) (H:Hp) (E:XK) (a:Addr) (xs:List α) (qs:List Pk) (T:List α->RT),bI k (A.deeper (Q5 x (ag st) s.heap.objs.size f UE))->S K xs qs T->
  WS (eD d7 P w K mg base N x (ag st) f UE A outer s H E).ic (bu st) (.ob (bM a r xs)::eh qs (N.length-1)) (λΓ=>∃xs',Γ[0]?=some (.ob (bM a r xs'))/\∀H0 H' R',T xs' H0 .UQ H' R') (t8 K a r T))
 (len:∀xs qs T,S K xs qs T->qs.length+1=ps.length:=by(intros;rename_i h;repeat (first | (rw[h.1];rfl) | obtain⟨_,h⟩:=h))):aA P w K mg base x (k+1) (eB r S K):=by
 obtain⟨f,fd,F,hm,hb⟩:=D
 exact ET F Sc hm hb len (UT f)
end
section
variable {X:Cx}{Γ Γ1 Γ2 Γ3:Ga}{α β γ δ:Type}{N:Ga->Prop}{T:RT}
def AU (k:Str):Value->Bool
 | .str x _=>decide (x=k)
 | _=>false
def Ew:V->List V->Hp->VK->Prop:=λx vs H Q=>∃(l:Addr) (ns:Of) (k:Str) (j:Nat),x= .ref l/\vs=[.str k]/\H l=some (.lst (ns.map V.str))/\ns[j]?=some k/\(∀m,m<j->ns[m]?≠some k)/\Q (.int (j:Nat)) H
theorem y9:wa X "list.index" Ew:=by
 intro UB s σ H x vs v us Q I rx rv h
 obtain⟨l,ns,k,j,rfl,rfl,hH,hj,WY,q⟩:=h
 cases rx
 obtain⟨u,rfl,t,rfl⟩:=rv.one
 obtain⟨hz,UD,m,r1,hl,ho⟩:=I.lA hH
 have jl:j<ns.length:=(OD.mp hj).1
 have Xo:UD.length=ns.length:=by rw[← hl,OH]
 have at_:∀(n:Nat) (h1:n<UD.length) (h2:n<ns.length),∃t',UD[n]= .str ns[n] t':=λn h1 h2=>by
  obtain⟨u,e1,t',e2⟩:=r1.get (show(ns.map V.str)[n]?=some (.str ns[n]) by rw[OJ,OE h2];rfl)
  rw[OE h1] at e1
  exact⟨t',(Option.some.inj e1).trans e2⟩
 refine RY PySem.F.slot_list_index ⟨_,ho,rfl⟩ PySem.F.entry_list_index (PySem.F.args_list_index_2 _ _)
  (SeqAt.list_indexAt l UD.toArray m _ _ (.str k t) (AU k) j (by simpa[Xo] using jl) ?_ ?_ ?_) ⟨ho,λw hw=>?_,?_⟩
 ·have:Ra<2 ^ 63-1:=by decide
  rw[OH] at hz
  omega
 ·obtain⟨t',e⟩:=at_ j (by omega) jl
  show AU k UD[j]=true
  rw[e]
  rw[OE jl] at hj
  exact Uw (Option.some.inj hj)
 ·intro n hn Y6
  obtain⟨t',e⟩:=at_ n (by simpa using hn) (by omega)
  show AU k UD[n]=false
  rw[e]
  refine Ux λz=>WY n Y6 ?_
  rw[OE (by omega),z]
 ·have hw:w∈UD:=by simpa using hw
  obtain⟨n,hn,rfl⟩:=Qc.mp hw
  obtain⟨t',e⟩:=at_ n hn (by omega)
  rw[e]
  intro prog w E Q hq
  exact wpAny_eqBool_str hq
 ·exact⟨.int _,H,I.tok _,⟨_,rfl⟩,q⟩
theorem yo {a e:Expr}{ap cp:Pos}{ns:Of}{k:Str}{j:Nat}(ha:EV X a Γ (ae aj) ns Γ1)(he:EV X e Γ1 aj k Γ2)(hj:ns[j]?=some k)(WY:∀m,m<j->ns[m]?≠some k)
 (UO:Rj a "index" X.env (eval a X.env)=eval a X.env:=by rfl)
 (U6:((Rk cp (Rc [e] X.env)).all (λx=> !x.1)&&(RS cp (RA [] X.env)).all (λx=>x.1.isSome)
  &&decide ([e].length+([]:List Rp).length+(if([]:List Rp).isEmpty then 0 else 1)<30))=true:=by rfl)
 (UN:(ap.endLine==cp.line)=true:=by rfl) (hs:Rc [e] X.env=(false,eval e X.env)::Rc [] X.env:=by rfl):EV X (.Call (.Attribute a "index" ap) [e] [] cp) Γ ah (j:Nat) Γ2:=λσ H0 R0 H R E Q q=>by
 refine eS (iI S9 PySem.F.slot_list_index PySem.F.type_list_index y9 aP (a7 aP bJ hs) UO U6 UN hs rfl) (ha σ H0 R0 H R E _ λv H1 R1 E1 s1 e1=>?_)
 obtain⟨b,vs,rfl,hb,pp,hz⟩:=e1
 have ev:=kC pp
 subst ev
 refine⟨.inl ⟨rfl,_,aZ.of (E1.sub _ _ hb)⟩,he σ H0 R0 H1 R1 E1 _ λu H2 R2 E2 s2 e2=>?_⟩
 cases e2
 exact⟨b,ns,k,j,rfl,rfl,E2.sub _ _ (s2 _ _ hb),hj,WY,q _ _ _ E2 (s1.trans s2) rfl⟩
theorem ints4 {R:Hp}{vs:List V}{a b c d:Int}(h:dF R vs [.int a,.int b,.int c,.int d]):vs=[.int a,.int b,.int c,.int d]:=by
 cases h with
 | cons h1 t=>cases t with
   | cons h2 t=>cases t with
     | cons h3 t=>cases t with
       | cons h4 t=>cases t;cases h1;cases h2;cases h3;cases h4;rfl
theorem Fn {es:Oj}{k:Nat}{pos:Pos}{r:Row}(h:EA X es Γ ax [.int r.1,.int r.2.1,.int r.2.2.1,.int r.2.2.2] Γ1):EV X (.Tuple es k pos) Γ cx r Γ1:=
 EV.re (ip h (by show 4<=Ra;decide)) λK R v e=>by
   cases e with
   | tup hp pp=>rw[ints4 pp] at hp;exact⟨_,rfl,hp⟩
end
def iD (t:Int×Int):PV:=.tup [.int t.1,.int t.2]
theorem wC {K:T2}{R:Hp}:∀{vs:List V} {xs:Ol},PySem.Paired ((cD ah ah).R K R) vs xs->dF R vs (xs.map iD)
 | _,_,.nil=>.nil
 | _,_,.cons h t=>by
   obtain⟨a,v1,v2,rfl,ha,g1,g2⟩:=h
   cases g1;cases g2
   exact .cons (.tup ha (.cons (.int _) (.cons (.int _) .nil))) (wC t)
section
variable {X:Cx}{Γ Γ1:Ga}
theorem EV.CQ {e:Expr}{xs:Ol}(h:EV X e Γ (ae (cD ah ah)) xs Γ1):EV X e Γ ax (.lst (xs.map iD)) Γ1:=h.re λK R v ⟨a,vs,e,q,p,z⟩=>by subst e;exact .lst q (wC p) (by rw[OH];exact z)
end
section
variable {X:Cx}{α:Type}
theorem HY {r:Rep α}{xs:List α}:fz X .Is (ae r) jO xs () false:=by
 refine⟨_,Gu,λR H v u Q s a b q=>⟨b,?_⟩⟩
 obtain⟨p,vs,rfl,_⟩:=a
 rw[Ux (λz=>by cases z)];exact q
end
theorem IB {K:T2}{R:Hp}{v:V}{xs:List PV}(h:ax.R K R v (.tup xs)):∃a vs,v= .ref a/\R a=some (.tup vs)/\dF R vs xs:=by
 cases h with
 | tup h t=>exact⟨_,_,rfl,h,t⟩
theorem pN {R:Hp}{vs:List V}{x:PV}{xs:List PV}(h:dF R vs (x::xs)):∃v us,vs=v::us/\eA R v x/\dF R us xs:=by
 cases h with
 | cons h t=>exact⟨_,_,rfl,h,t⟩
section
variable {X:Cx}{Γ Γ1:Ga}{N:Ga->Prop}{T:RT}
theorem FO (i1 i2 i3:Nat){x1 x2 x3:Str}{k:Nat}{p1 p2 p3 tp pos:Pos}{e:Expr}{y1 y2 y3:PV}(he:EV X e Γ ax (.tup [y1,y2,y3]) Γ1)(h:N (((Γ1.set i1 (.im ax y1)).set i2 (.im ax y2)).set i3 (.im ax y3)))
 (hc:X.calm=true:=by rfl) (hN:X.N.Nodup:=by first | assumption | decide)
 (h1:X.N[i1]?=some x1:=by rfl) (l1:autoParam (Loc X.env.scope x1) V1) (f1:autoParam (X.fn x1=true∨X.env.scope.names.lookup x1=some .local) V0)
 (h2:X.N[i2]?=some x2:=by rfl) (l2:autoParam (Loc X.env.scope x2) V1) (f2:autoParam (X.fn x2=true∨X.env.scope.names.lookup x2=some .local) V0)
 (h3:X.N[i3]?=some x3:=by rfl) (l3:autoParam (Loc X.env.scope x3) V1) (f3:autoParam (X.fn x3=true∨X.env.scope.names.lookup x3=some .local) V0)
 (hs:Sd [.Tuple [.Name x1 p1,.Name x2 p2,.Name x3 p3] k tp] e pos.line X.env=pure false:=by rfl) (hw:Se [.Tuple [.Name x1 p1,.Name x2 p2,.Name x3 p3] k tp] e X.env=pure none:=by rfl) (ho:(RP [.Tuple [.Name x1 p1,.Name x2 p2,.Name x3 p3] k tp] X.env).map (·.2)=[RU (.Tuple [.Name x1 p1,.Name x2 p2,.Name x3 p3] k tp) X.env]:=by rfl):W1 X (.Assign [.Tuple [.Name x1 p1,.Name x2 p2,.Name x3 p3] k tp] e pos) Γ N T:=λσ H0 R0 H R E D dn dr=>by
 refine sS (o9 aP (uU hc (gC (gH hN h1 l1 f1) (gC (gH hN h2 l2 f2) (gC (gH hN h3 l3 f3) pO)))) hs hw ho) (he σ H0 R0 H R E _ λv H1 R1 E1 s1 q1=>?_)
 obtain⟨a,vs,rfl,ha,pp⟩:=IB q1
 obtain⟨v1,t1,rfl,g1,pp⟩:=pN pp
 obtain⟨v2,t2,rfl,g2,pp⟩:=pN pp
 obtain⟨v3,t3,rfl,g3,pp⟩:=pN pp
 cases pp
 exact⟨a,_,rfl,dc.of (E1.sub _ _ ha),rfl,_,_,rfl,_,_,rfl,_,_,rfl,rfl,dn _ H1 R1 _ (((E1.set i1 (r:=ax) g1).set i2 (r:=ax) g2).set i3 (r:=ax) g3) s1 h⟩
end
end Fc
namespace K1
open PySem L2 Fc
open PySem.Spec hiding Row
open PyProof.Rows hiding St
open PySem.Builtin.Int (intBits)
variable {P:Rh}{w:World}{K:T2}{mg:Oc}{base:Heap}{f:Addr}{fd:Rm}
section
variable {n:Nat}
abbrev oM (v:Oe×List Fc.Row):Ent:=.im (cD (ae ah) (ae cx)) v
abbrev ao (x:Int):Ent:=.im ah x
abbrev bP (x:Oe):Ent:=.im (ae ah) x
theorem l6 {x y:Int}(h0:0<=x)(h1:x<4294967296):SO x y:=.of_left (Sr (by omega) (by omega))
theorem tQ {i:Int}(h0:0<=i)(h1:i<n):fb n i=some i.toNat:=by unfold fb;rw[Ut h0,Ut h1]
abbrev dk:Rep (Int×Int):=cD ah ah
theorem mO {k:Int}:k∈ups 0 n↔0<=k/\k<n:=by
 unfold ups
 rw[OO]
 constructor
 ·rintro⟨j,hj,rfl⟩
  have:=Pm.mp hj
  omega
 ·rintro⟨h0,h1⟩
  exact⟨k.toNat,Pm.mpr (by omega),by omega⟩
theorem Bu (n:Nat):(ups 0 n).Pairwise (· < ·):=by
 unfold ups
 rw[List.pairwise_map]
 exact List.pairwise_lt_range.imp λh=>by omega
theorem qQ (n:Nat):(ups 0 n).Nodup:=(Bu n).imp λh=>by omega
theorem aH (h:n<=1000000):n<=Ra:=QD h (by decide)
theorem aV {α:Type}{xs:List α}{i:Int}(d:α)(h0:0<=i)(h1:i<xs.length):bU xs i=some (xs.getD i.toNat d):=by
 rw[mm h0 h1,OE (by omega),OG,OE (by omega)];rfl
theorem jF {α:Type}{xs:List α}{y:α}(h:xs[xs.length-1]?=some y):bU xs (-1)=some y:=by
 have hl:0<xs.length:=by
  have:=(OD.mp h).1
  omega
 unfold bU fb
 rw[Us (by omega),Ut (by omega)]
 show xs[((-1:Int)+(xs.length:Int)).toNat]?=_
 rw[show((-1:Int)+(xs.length:Int)).toNat=xs.length-1 by omega];exact h
end
end K1
namespace K1
open PySem
variable {P:Rh}{w:World}{K:T2}{mg:Oc}{base:Heap}{f:Addr}{fd:Rm}
abbrev top (i:Nat):Stmt:=PySem.Challenge.pw_fewcounters_k69_whole_walks_are_runs.main.body.getD i (.Pass ⟨0,0,0,0⟩)
abbrev vc:Nat:=16
abbrev tR:Nat:=17
abbrev ym:Nat:=18
abbrev oV:Nat:=19
abbrev o8:Nat:=20
abbrev nC:Nat:=21
abbrev oK:Nat:=22
abbrev sv:Nat:=23
abbrev pA:Nat:=24
abbrev xh:Nat:=25
abbrev va:Nat:=26
abbrev yz:Nat:=27
abbrev oQ:Nat:=28
abbrev zS:Nat:=29
abbrev uW:Nat:=30
abbrev Bm:Nat:=31
abbrev ow:Nat:=32
abbrev vi:Nat:=33
abbrev zc:Nat:=34
abbrev Kh:Nat:=35
abbrev ED:Nat:=44
abbrev AS:Nat:=45
abbrev Fi:Nat:=46
abbrev tH:Nat:=47
abbrev pQ:Nat:=48
abbrev xG:Nat:=49
abbrev n5:Nat:=50
abbrev vf:Nat:=51
abbrev vb:Nat:=52
abbrev rL:Nat:=53
abbrev yv:Nat:=54
abbrev sk:Nat:=55
abbrev xR:Nat:=56
abbrev xE:Nat:=57
abbrev tV:Nat:=58
abbrev oW:Nat:=61
abbrev rQ:Nat:=62
abbrev rR:Nat:=63
abbrev qp:Nat:=64
abbrev nF:Nat:=65
abbrev xu:Nat:=66
abbrev p9:Nat:=67
abbrev rV:Nat:=68
abbrev m8:Nat:=69
abbrev qf:Nat:=70
abbrev nM:Nat:=71
abbrev oG:Nat:=72
abbrev yC:Nat:=74
abbrev zM:Nat:=80
abbrev oN:Nat:=81
abbrev rS:Nat:=83
abbrev su:Nat:=84
abbrev ui:Nat:=85
abbrev qu:Nat:=86
abbrev rM:Nat:=87
abbrev sQ:Nat:=88
abbrev rO:Nat:=89
abbrev rN:Nat:=90
abbrev t7:Nat:=91
abbrev pf:Nat:=92
abbrev FZ:Nat:=93
end K1
namespace K1
open PySem L2 Fc
open PySem.Spec hiding Row
open PyProof.Rows hiding St
open PySem.Builtin.Int (intBits)
variable {P:Rh}{w:World}{K:T2}{mg:Oc}{base:Heap}{f:Addr}{fd:Rm}
structure cb (K:T2) (mg:Oc):Prop where
 len:mg "len"=none
 min:mg "min"=none
 range:mg "range"=none
 int:mg "int"=none
 list:mg "list"=none
 zip:mg "zip"=none
 enumerate:mg "enumerate"=none
 reversed:mg "reversed"=none
 any:mg "any"=none
 all:mg "all"=none
def r9 (c:Int):Nat->Int
 | 0=>c
 | n+1=>r9 c n/2147483587
def fZ (d k:Int):Int:=d%10 ^ 18+48271*(k+1)
def mz (u k:Int):Int:=u*u%2147483629+69621*k
def ub (d k:Int):Int:=mz (fZ d k) k*mz (fZ d k) k%2147483587
def tJ (ns:Oe)(k:Int):Int:=r9 (ns.getD (k/8%63).toNat 0/10 ^ 18) (k%8).toNat
def sg (ns:Oe)(k:Int):Bool:=decide (k/8%63<(ns.length:Int))&&decide (10 ^ 18<=ns.getD (k/8%63).toNat 0)
def aK (ns:Oe)(k:Int):Int:=
 if sg ns k=true/\0<tJ ns k then tJ ns k%2147483587
 else ub (if 0<ns.length then ns.getD (k%(ns.length:Int)).toNat 0 else 0) k
theorem qh (ns:Oe)(k:Int):0<=aK ns k/\aK ns k<2147483587:=by
 unfold aK
 split
 ·exact⟨OA _ (by decide),Oz _ (by decide)⟩
 ·unfold ub
  exact⟨OA _ (by decide),Oz _ (by decide)⟩
section
abbrev Aj:Stmt:=top rS
abbrev MB:Of:=["_law_script","_law_k","_law_at","_law_cell","_law_j","_law_number"]
theorem Il:ay MB ["_law_script","_law_k"] (ag Aj):=UY
structure wu (ns:Oe):Prop where
 l:ns.length<=63
 b:∀n∈ns,intBits n<=2 ^ 20
def DB:bQ:=λK ps T=>∃(ns:Oe) (k:Int),ps=[⟨bB,ns⟩,⟨ah,k⟩]/\wu ns/\0<=k/\k<=1000000/\T=bL K ah (· =aK ns k)
theorem LN (M:cb K mg)(Df:Def K mg "_law_mixed" Aj ["_law_script","_law_k"]):aA P w K mg base "_law_mixed" 1 (aE DB K):=by
 have nd:=Il.nd
 refine bc Df Il (λf UE A outer s H E qs T hr hS=>?_)
 obtain⟨ns,k,rfl,hs,k0,k1,rfl⟩:=hS
 have h63:=hs.l
 change WS _ _ [.im bB ns,ao k,.no,.no,.no,.no] _ _
 have a0:=OA (k/8) (show(63:Int)≠0 by decide)
 refine ai (aU 2 (cH (kP (aa 1 rfl) ev_int ⟨by decide,by decide⟩) ev_int (by decide)) ?_)
 change WS _ _ [.im bB ns,ao k,ao (k/8%63),.no,.no,.no] _ _
 have rest:∀e3 e4:Ent,¬(sg ns k=true/\0<tJ ns k)->WS (eD d7 P w K mg base MB "_law_mixed" (ag Aj) f UE A outer s H E).ic ((bu Aj).drop 2) [.im bB ns,ao k,ao (k/8%63),e3,e4,.no] (λ_=>False) (bL K ah (· =aK ns k)):=by
  intro e3 e4 hn
  refine ai (aU 3 ev_int ?_)
  change WS _ _ [.im bB ns,ao k,ao (k/8%63),ao 0,e4,.no] _ _
  refine bN (N1:=λΓ=>Γ=[.im bB ns,ao k,ao (k/8%63),ao (if 0<ns.length then ns.getD (k%(ns.length:Int)).toNat 0 else 0),e4,.no]) (ba (aD gP (mX M.len (aa 0 rfl)) ev_int) (λh=>?_) (λh=>aL ?_)) ?_
  ·have hl:(0:Int)<ns.length:=Uu h
   have hmin:(if(ns.length:Int)<63 then(ns.length:Int) else 63)=ns.length:=by
    by_cases q:(ns.length:Int)<63
    ·rw[Ut q]
    ·rw[Us q];omega
   have q0:=OA k (show(ns.length:Int)≠0 by omega)
   have q1:=Oz k hl
   refine ak (aU 3 (sX (aa 0 rfl) (cH (aa 1 rfl) (EV.cast (qi M.min (af ev_int (af (mX M.len (aa 0 rfl)) aq))) hmin) hl) (aV 0 q0 q1)) ?_)
   rw[Ut (by omega:0<ns.length)];rfl
  ·have hl:¬(0:Int)<ns.length:=Uv h
   rw[Us (by omega)]
  rintro _ rfl
  have e:aK ns k=ub (if 0<ns.length then ns.getD (k%(ns.length:Int)).toNat 0 else 0) k:=by unfold aK;rw[Us hn]
  rw[e]
  generalize (if 0<ns.length then ns.getD (k%(ns.length:Int)).toNat 0 else 0)=d
  have u0:=OA d (show(10:Int) ^ 18≠0 by decide)
  have u1:=Oz d (show(0:Int)<10 ^ 18 by decide)
  refine ai (aU 5 (y:=fZ d k) (cg (cH (aa 3 rfl) (uJ ev_int ev_int ⟨by decide,by decide,by decide⟩) (by decide)) (kO ev_int (cg (aa 1 rfl) ev_int) (l6 (by decide) (by decide)))) ?_)
  change WS _ _ [.im bB ns,ao k,ao (k/8%63),ao d,e4,ao (fZ d k)] _ _
  have n0:0<=fZ d k:=by unfold fZ;omega
  have n1:fZ d k<2 ^ 63:=by unfold fZ;omega
  have m0:=OA (fZ d k*fZ d k) (show(2147483629:Int)≠0 by decide)
  have m1:=Oz (fZ d k*fZ d k) (show(0:Int)<2147483629 by decide)
  refine ai (aU 5 (y:=mz (fZ d k) k) (cg (cH (kO (aa 5 rfl) (aa 5 rfl) (Cz n0 n1)) ev_int (by decide)) (kO ev_int (aa 1 rfl) (l6 (by decide) (by decide)))) ?_)
  change WS _ _ [.im bB ns,ao k,ao (k/8%63),ao d,e4,ao (mz (fZ d k) k)] _ _
  have v0:0<=mz (fZ d k) k:=by unfold mz;omega
  have v1:mz (fZ d k) k<2 ^ 63:=by unfold mz;omega
  exact ak (aN (cH (kO (aa 5 rfl) (aa 5 rfl) (Cz v0 v1)) ev_int (by decide)) rfl)
 refine ai (ba (TW.tv (cT (aD gE (aa 2 rfl) (mX M.len (aa 0 rfl))) (λh=>dQ (aD N7 (sX (aa 0 rfl) (aa 2 rfl) (aV 0 a0 (Uu h))) (uJ ev_int ev_int ⟨by decide,by decide,by decide⟩))))) (λh=>?_) (λh=>aL (rest _ _ (λ⟨q,_⟩=>by rw[show sg ns k=false from h] at q;cases q))))
 have Zq:sg ns k=true:=h
 obtain⟨hl,_⟩:=Bool.and_eq_true_iff.mp Zq
 have hl:=Uu hl
 refine ai (aU 3 (nK (sX (aa 0 rfl) (aa 2 rfl) (aV 0 a0 hl)) (uJ ev_int ev_int ⟨by decide,by decide,by decide⟩) ⟨by decide,by decide⟩) ?_)
 change WS _ _ [.im bB ns,ao k,ao (k/8%63),ao (ns.getD (k/8%63).toNat 0/10 ^ 18),.no,.no] _ _
 have j0:=OA k (show(8:Int)≠0 by decide)
 have j1:=Oz k (show(0:Int)<8 by decide)
 refine bN (N1:=λΓ=>∃e4,Γ=[.im bB ns,ao k,ao (k/8%63),ao (tJ ns k),e4,.no]) (bX (λi Γ=>∃e4,Γ=[.im bB ns,ao k,ao (k/8%63),ao (r9 (ns.getD (k/8%63).toNat 0/10 ^ 18) i),e4,.no]) (dg M.range (cH (aa 1 rfl) ev_int (by decide)) ⟨by omega,by omega⟩) (aO 4) ⟨_,rfl⟩ (λi j Γ _ hΓ=>?_) (λΓ hΓ=>?_)) ?_
 ·obtain⟨e4,rfl⟩:=hΓ
  change WS _ _ [.im bB ns,ao k,ao (k/8%63),ao (r9 (ns.getD (k/8%63).toNat 0/10 ^ 18) i),ao j,.no] _ _
  exact ak (aU 3 (nK (aa 3 rfl) ev_int ⟨by decide,by decide⟩) ⟨_,rfl⟩)
 ·obtain⟨e4,rfl⟩:=hΓ
  rw[a9]
  exact⟨e4,rfl⟩
 rintro _ ⟨e4,rfl⟩
 refine ak (ba (aD gP (aa 3 rfl) ev_int) (λh=>?_) (λh=>aL (rest _ _ (λ⟨_,q⟩=>Ur q (Uv h)))))
 have h:0<tJ ns k:=Uu h
 exact ak (aN (cH (aa 3 rfl) ev_int (by decide)) (by unfold aK;rw[Ut ⟨Zq,h⟩]))
abbrev bC:Rep (Oe ⊕ Int):=uD bB ah
abbrev bo (ns:Oe)(k c:Int):List (Oe ⊕ Int):=[.inl ns,.inr k,.inr c]
abbrev Jf:Stmt:=top su
theorem JR:ay ["_law_pen"] ["_law_pen"] (ag Jf):=UY
def tY:jv (Oe ⊕ Int):=λK xs ps T=>∃(ns:Oe) (k c:Int),xs=bo ns k c/\ps=[]/\wu ns/\0<=k/\k<1000000/\T=λxs'=>bL K ah λz=>xs'=bo ns (k+1) c/\z=aK ns (k+1)
theorem Kw (CM:aA P w K mg base "_law_mixed" 1 (aE DB K))(Df:Def K mg "_law_pull" Jf ["_law_pen"]):aA P w K mg base "_law_pull" 2 (eB bC tY K):=by
 have nd:=JR.nd
 refine vQ Df JR (λf UE A outer s H E a xs qs T hr hS=>?_)
 obtain⟨ns,k,c,rfl,rfl,hs,k0,k1,rfl⟩:=hS
 change WS _ _ [.ob (bM a bC (bo ns k c))] _ _
 refine ai (gA 0 (j:=1) (EV.inr (cg (EV.nk (fC 0 ev_int rfl (y:=(Sum.inr k:Oe ⊕ Int)) rfl)) ev_int)) ev_int rfl rfl rfl ?_)
 change WS _ _ [.ob (bM a bC (bo ns (k+1) c))] _ _
 exact ak (iM 0 (aB CM hr (af (EV.ofl (fC 0 ev_int rfl (y:=(Sum.inl ns:Oe ⊕ Int)) rfl)) (af (EV.nk (fC 0 ev_int rfl (y:=(Sum.inr (k+1):Oe ⊕ Int)) rfl)) aq)) ⟨ns,k+1,rfl,hs,by omega,by omega,rfl⟩) rfl ⟨rfl,rfl⟩)
end
abbrev f6:Str:="abcdefghijklmnopqrstuvwxyz"
abbrev f7:Of:=["part","end","do","call","if","else","while","leave","back"]
def lS (m:Int):Nat->Str
 | 0=>""
 | n+1=>lS m n++kj f6 ((m/8+(n:Int)*(m/88))%26).toNat
def UL (n:Int):Str:=
 if n%4=0 then f7.getD (n/4%9).toNat ""
 else if n%4=1 then f7.getD (n/4%9).toNat ""++kj f6 (n/4/9%26).toNat
 else lS (n/4) (1+n/4%8).toNat
structure cG (x:Str):Prop where
 l1:1<=x.length
 l8:x.length<=8
 az:∀c∈x.cps.toList,97<=c/\c<=122
theorem len_app (x y:Str):(x++y).length=x.length+y.length:=by
 show(x.cps++y.cps).size=_
 rw[Array.size_append];rfl
theorem pX {x y:Str}{c:Nat}(h:c∈(x++y).cps.toList):c∈x.cps.toList∨c∈y.cps.toList:=by
 have e:(x++y).cps.toList=x.cps.toList++y.cps.toList:=by show(x.cps++y.cps).toList=_;simp
 rw[e] at h
 exact OS.mp h
theorem F4 (i:Nat)(h:i<26):97<=f6.cps.getD i 0/\f6.cps.getD i 0<=122:=by
 have:∀j:Fin 26,97<=f6.cps.getD j.val 0/\f6.cps.getD j.val 0<=122:=by decide +kernel
 exact this ⟨i,h⟩
theorem y4 {i:Nat}(h:i<26):∀c∈(kj f6 i).cps.toList,97<=c/\c<=122:=by
 intro c hc
 have:c=f6.cps.getD i 0:=by simpa[kj] using hc
 rw[this];exact F4 i h
theorem Ma (x:Int):(x%26).toNat<26:=by
 have:=OA x (show(26:Int)≠0 by decide)
 have:=Oz x (show(0:Int)<26 by decide)
 omega
theorem mQ (m:Int):∀n,(lS m n).length=n
 | 0=>rfl
 | n+1=>by rw[lS,len_app,mQ m n];rfl
theorem yh (m:Int):∀n,∀c∈(lS m n).cps.toList,97<=c/\c<=122
 | 0,c,h=>by
   have e:(lS m 0).cps.toList=[]:=rfl
   rw[e] at h;cases h
 | n+1,c,h=>by
   rcases pX h with z | z
   ·exact yh m n c z
   ·exact y4 (Ma _) c z
theorem xV (i:Nat)(h:i<9):cG (f7.getD i "")/\(f7.getD i "").length<=5:=by
 have:∀j:Fin 9,(1<=(f7.getD j.val "").length/\(f7.getD j.val "").length<=5)/\∀c∈(f7.getD j.val "").cps.toList,97<=c/\c<=122:=by decide +kernel
 obtain⟨⟨a,b⟩,c⟩:=this ⟨i,h⟩
 exact⟨⟨a,QD b (by decide),c⟩,b⟩
theorem iz (n:Int):cG (UL n):=by
 have q0:=OA (n/4) (show(9:Int)≠0 by decide)
 have q1:=Oz (n/4) (show(0:Int)<9 by decide)
 have r0:=OA (n/4) (show(8:Int)≠0 by decide)
 have r1:=Oz (n/4) (show(0:Int)<8 by decide)
 obtain⟨w1,w2⟩:=xV (n/4%9).toNat (by omega)
 unfold UL
 split
 ·exact w1
 split
 ·refine⟨?_,?_,λc hc=>?_⟩
  ·rw[len_app];have:=w1.l1;omega
  ·rw[len_app];show _+1<=8;omega
  ·rcases pX hc with z | z
   ·exact w1.az c z
   ·exact y4 (Ma _) c z
 ·exact⟨by rw[mQ];omega,by rw[mQ];omega,yh _ _⟩
section
abbrev FE:Stmt:=top ui
abbrev nNM:Of:=["_law_number","_law_letters","_law_words_here","_law_way","_law_name_here","_law_k"]
theorem Hu:ay nNM ["_law_number"] (ag FE):=UY
def Dc:bQ:=λK ps T=>∃n:Int,ps=[⟨ah,n⟩]/\0<=n/\n<2147483587/\T=bL K aj (· =UL n)
theorem K4 (M:cb K mg)(Df:Def K mg "_law_name" FE ["_law_number"]):aA P w K mg base "_law_name" 1 (aE Dc K):=by
 have nd:=Hu.nd
 refine bc Df Hu (λf UE A outer s H E qs T hr hS=>?_)
 obtain⟨n,rfl,n0,n1,rfl⟩:=hS
 have q0:=OA (n/4) (show(9:Int)≠0 by decide)
 have q1:=Oz (n/4) (show(0:Int)<9 by decide)
 have r0:=OA (n/4) (show(8:Int)≠0 by decide)
 have r1:=Oz (n/4) (show(0:Int)<8 by decide)
 have ll:f6.length=26:=by decide +kernel
 have lz:f6.length<=Ra:=by rw[ll];decide
 change WS _ _ [ao n,.no,.no,.no,.no,.no] _ _
 refine ai (aU 1 (y:=f6) aG ?_)
 refine ai (aU 2 (y:=f7) (aW.im (aR (r:=aj) (av aG (av aG (av aG (av aG (av aG (av aG (av aG (av aG (av aG aT))))))))) (by show 9<=Ra;decide))) ?_)
 refine ai (aU 3 (cH (aa 0 rfl) ev_int (by decide)) ?_)
 refine ai (aU 0 (kP (aa 0 rfl) ev_int ⟨by decide,by decide⟩) ?_)
 change WS _ _ [ao (n/4),.im aj f6,.im (ae aj) f7,ao (n%4),.no,.no] _ _
 have hw:bU f7 (n/4%9)=some (f7.getD (n/4%9).toNat ""):=aV (xs:=f7) "" q0 (by show _<((9:Nat):Int);omega)
 refine ai (ba (aD eo (aa 3 rfl) ev_int) (λh=>?_) (λh=>aL ?_))
 ·have h:n%4=0:=Uu h
  exact ak (aN (aY (aa 2 rfl) (cH (aa 0 rfl) ev_int (by decide)) hw) (by unfold UL;rw[Ut h]))
 have h0:¬n%4=0:=Uv h
 have wl:=(xV (n/4%9).toNat (by omega)).2
 have s0:=OA (n/4/9) (show(26:Int)≠0 by decide)
 have s1:=Oz (n/4/9) (show(0:Int)<26 by decide)
 refine ai (ba (aD eo (aa 3 rfl) ev_int) (λh=>?_) (λh=>aL ?_))
 ·have h:n%4=1:=Uu h
  exact ak (aN (pY (aY (aa 2 rfl) (cH (aa 0 rfl) ev_int (by decide)) hw) (yu (aa 1 rfl) (cH (kP (aa 0 rfl) ev_int ⟨by decide,by decide⟩) ev_int (by decide)) s0 (by rw[ll];exact s1) lz) (QD (show _<=6 by show _+1<=6;omega) (by decide))) (by unfold UL;rw[Us h0,Ut h]))
 have h1:¬n%4=1:=Uv h
 refine ai (aU 4 (y:=lS (n/4) 0) aG ?_)
 change WS _ _ [ao (n/4),.im aj f6,.im (ae aj) f7,ao (n%4),.im aj (lS (n/4) 0),.no] _ _
 refine bN (N1:=λΓ=>∃e5,Γ=[ao (n/4),.im aj f6,.im (ae aj) f7,ao (n%4),.im aj (UL n),e5]) (bX (λi Γ=>∃e5,Γ=[ao (n/4),.im aj f6,.im (ae aj) f7,ao (n%4),.im aj (lS (n/4) i),e5]) (dg M.range (cg ev_int (cH (aa 0 rfl) ev_int (by decide))) ⟨by omega,by omega⟩) (aO 5) ⟨_,rfl⟩ (λi j Γ hj hΓ=>?_) (λΓ hΓ=>?_)) ?_
 ·obtain⟨e5,rfl⟩:=hΓ
  obtain⟨jl,ej⟩:=ef hj
  obtain rfl:j=(i:Int):=by omega
  have t0:=OA (n/4/8+(i:Int)*(n/4/88)) (show(26:Int)≠0 by decide)
  have t1:=Oz (n/4/8+(i:Int)*(n/4/88)) (show(0:Int)<26 by decide)
  change WS _ _ [ao (n/4),.im aj f6,.im (ae aj) f7,ao (n%4),.im aj (lS (n/4) i),ao (i:Int)] _ _
  exact ak (aU 4 (y:=lS (n/4) (i+1)) (pY (aa 4 rfl) (yu (aa 1 rfl) (cH (cg (kP (aa 0 rfl) ev_int ⟨by decide,by decide⟩) (kO (aa 5 rfl) (kP (aa 0 rfl) ev_int ⟨by decide,by decide⟩) (l6 (by omega) (by omega)))) ev_int (by decide)) t0 (by rw[ll];exact t1) lz) (by rw[mQ];exact QD (show _<=20 by show _+1<=20;omega) (by decide))) ⟨_,rfl⟩)
 ·obtain⟨e5,rfl⟩:=hΓ
  rw[a9]
  refine⟨e5,?_⟩
  have e:UL n=lS (n/4) (1+n/4%8).toNat:=by unfold UL;rw[Us h0,Us h1]
  rw[e]
 rintro _ ⟨e5,rfl⟩
 exact ak (aN (aa 4 rfl) rfl)
end
inductive Th
 | Vl (x:Str)
 | call (j:Int)
 | ifs (x:Str) (a b:List Th)
 | UU (x:Str) (a:List Th)
 | leave
 | back
mutual
def eY:Th->PV
 | .Vl x=>.lst [.str "do",.str x]
 | .call j=>.lst [.str "call",.int j]
 | .ifs x a b=>.lst [.str "if",.str x,.lst (bA a),.lst (bA b)]
 | .UU x a=>.lst [.str "while",.str x,.lst (bA a)]
 | .leave=>.lst [.str "leave"]
 | .back=>.lst [.str "back"]
def bA:List Th->List PV
 | []=>[]
 | t::ts=>eY t::bA ts
end
theorem fm:∀ts:List Th,bA ts=ts.map eY
 | []=>by rw[bA];rfl
 | t::ts=>by rw[bA,fm ts];rfl
mutual
def d8:Th->Bool
 | .leave=>false
 | .back=>false
 | .ifs _ a b=>c6 a ||c6 b
 | _=>true
def c6:List Th->Bool
 | []=>true
 | t::ts=>d8 t&&c6 ts
end
mutual
def hX:Th->Nat
 | .ifs _ a b=>1+max (eM a) (eM b)
 | .UU _ a=>1+eM a
 | _=>0
def eM:List Th->Nat
 | []=>0
 | t::ts=>max (hX t) (eM ts)
end
mutual
def dw:Th->Nat
 | .Vl _=>1
 | .call _=>1
 | .ifs _ a b=>2+cM a+cM b
 | .UU _ a=>2+cM a
 | _=>0
def cM:List Th->Nat
 | []=>0
 | t::ts=>dw t+cM ts
end
section
variable {ns Uz:Oe}{n b:Nat}
theorem jo:∀a b:List Th,cM (a++b)=cM a+cM b
 | [],b=>by rw[cM];simp
 | t::a,b=>by rw[Qk,cM,cM,jo a b];omega
theorem kG:∀a b:List Th,eM (a++b)=max (eM a) (eM b)
 | [],b=>by rw[eM];simp
 | t::a,b=>by rw[Qk,eM,eM,kG a b];omega
abbrev Pn:=Int×Int
def U3 (ns Uz:Oe)(sub:Option (Int->Pn->List Th×Pn))(UA:Int)(s:Pn):Th×Pn:=
 if aK ns (s.1+1)%12=0/\0<UA then(.leave,(s.1+2,s.2))
 else if aK ns (s.1+1)%12=1 then(.back,(s.1+2,s.2))
 else if 9<aK ns (s.1+1)%12/\0<Uz.length then(.call (Uz.getD (aK ns (s.1+3)%(Uz.length:Int)).toNat 0),(s.1+3,s.2-1))
 else match sub with
  | some L=>
    if(3<aK ns (s.1+1)%12/\aK ns (s.1+1)%12<7)/\1<s.2 then(.ifs (UL (aK ns (s.1+2))) (L UA (s.1+2,s.2-2)).1 (L UA (L UA (s.1+2,s.2-2)).2).1,(L UA (L UA (s.1+2,s.2-2)).2).2)
    else if(6<aK ns (s.1+1)%12/\aK ns (s.1+1)%12<10)/\1<s.2 then(.UU (UL (aK ns (s.1+2))) (L (UA+1) (s.1+2,s.2-2)).1,(L (UA+1) (s.1+2,s.2-2)).2)
    else(.Vl (UL (aK ns (s.1+2))),(s.1+2,s.2-1))
  | none=>(.Vl (UL (aK ns (s.1+2))),(s.1+2,s.2-1))
def nP:Th->Bool
 | .back=>true
 | _=>false
def gN (ns Uz:Oe)(sub:Option (Int->Pn->List Th×Pn))(tp:Bool)(UA:Int)(x:List Th×Pn):List Th×Pn:=
 if 0<x.2.2/\c6 x.1=true then
  if tp=true/\x.1.length=0/\nP (U3 ns Uz sub UA x.2).1=true then(x.1++[.Vl "back"],((U3 ns Uz sub UA x.2).2.1,(U3 ns Uz sub UA x.2).2.2-1))
  else(x.1++[(U3 ns Uz sub UA x.2).1],(U3 ns Uz sub UA x.2).2)
 else x
def U2 {α:Type}(f:α->α):Nat->α->α
 | 0,x=>x
 | n+1,x=>f (U2 f n x)
def eV (ns:Oe)(tp:Bool)(k:Int):Nat:=(aK ns (k+1)%4+2*(if tp then 1 else 0)).toNat
def UP (ns Uz:Oe):Nat->Bool->Int->Pn->List Th×Pn
 | 0,tp,UA,s=>U2 (gN ns Uz none tp UA) (eV ns tp s.1) ([],(s.1+1,s.2))
 | n+1,tp,UA,s=>U2 (gN ns Uz (some (UP ns Uz n false)) tp UA) (eV ns tp s.1) ([],(s.1+1,s.2))
structure Dj (n b:Nat) (s:Pn) (r:List Th×Pn):Prop where
 dp:eM r.1<=n
 c:(cM r.1:Int)+r.2.2=s.2/\0<=r.2.2
 k:s.1<=r.2.1/\r.2.1<=s.1+b
 l:r.1.length<=5
def Cf (n b:Nat)(L:Int->Pn->List Th×Pn):Prop:=∀lp s,0<=s.2->Dj n b s (L lp s)
theorem vz (ns:Oe)(tp:Bool)(k:Int):eV ns tp k<=5:=by
 unfold eV
 have a:=OA (aK ns (k+1)) (show(4:Int)≠0 by decide)
 have b:=Oz (aK ns (k+1)) (show(0:Int)<4 by decide)
 cases tp<;>simp<;>omega
structure pJ (n:Nat) (b:Nat) (s:Pn) (r:Th×Pn):Prop where
 dp:hX r.1<=n
 c:(dw r.1:Int)+r.2.2=s.2/\0<=r.2.2
 k:s.1<=r.2.1/\r.2.1<=s.1+b
theorem sJ (ns Uz:Oe)(UA:Int)(s:Pn)(h:0<s.2):pJ 0 3 s (U3 ns Uz none UA s):=by
 unfold U3
 split
 ·exact⟨by simp[hX],⟨by simp[dw],by show 0<=s.2;omega⟩,by constructor<;>simp<;>omega⟩
 split
 ·exact⟨by simp[hX],⟨by simp[dw],by show 0<=s.2;omega⟩,by constructor<;>simp<;>omega⟩
 split
 ·exact⟨by simp[hX],⟨by simp[dw];omega,by show 0<=s.2-1;omega⟩,by constructor<;>simp<;>omega⟩
 ·exact⟨by simp[hX],⟨by simp[dw];omega,by show 0<=s.2-1;omega⟩,by constructor<;>simp<;>omega⟩
theorem uV {L:Int->Pn->List Th×Pn}(hL:Cf n b L)(UA:Int)(s:Pn)(h:0<s.2):pJ (n+1) (3+2*b) s (U3 ns Uz (some L) UA s):=by
 unfold U3
 split
 ·exact⟨by simp[hX],⟨by simp[dw],by show 0<=s.2;omega⟩,by constructor<;>simp<;>omega⟩
 split
 ·exact⟨by simp[hX],⟨by simp[dw],by show 0<=s.2;omega⟩,by constructor<;>simp<;>omega⟩
 split
 ·exact⟨by simp[hX],⟨by simp[dw];omega,by show 0<=s.2-1;omega⟩,by constructor<;>simp<;>omega⟩
 dsimp only
 split
 ·rename_i hh
  have c2:1<s.2:=hh.2
  obtain⟨d1,⟨a1,a2⟩,k1,_⟩:=hL UA (s.1+2,s.2-2) (by show 0<=s.2-2;omega)
  obtain⟨d2,⟨a3,a4⟩,k2,_⟩:=hL UA (L UA (s.1+2,s.2-2)).2 a2
  dsimp only at a1 k1
  refine⟨by simp only[hX];omega,⟨by simp only[dw];push_cast;omega,a4⟩,?_⟩
  constructor
  ·exact OC (by omega) (OC k1.1 k2.1)
  ·show(L UA (L UA (s.1+2,s.2-2)).2).2.1<=s.1+((3+2*b:Nat):Int)
   have:=k2.2
   have:=k1.2
   push_cast
   omega
 split
 ·rename_i _ hh
  have c2:1<s.2:=hh.2
  obtain⟨d1,⟨a1,a2⟩,k1,_⟩:=hL (UA+1) (s.1+2,s.2-2) (by show 0<=s.2-2;omega)
  dsimp only at a1 k1
  refine⟨by simp only[hX];omega,⟨by simp only[dw];push_cast;omega,a2⟩,?_⟩
  constructor
  ·exact OC (by omega) k1.1
  ·show(L (UA+1) (s.1+2,s.2-2)).2.1<=s.1+((3+2*b:Nat):Int)
   have:=k1.2
   push_cast
   omega
 ·exact⟨by simp[hX],⟨by simp[dw];omega,by show 0<=s.2-1;omega⟩,by constructor<;>simp<;>omega⟩
structure oH (n b i:Nat) (k0 c0:Int) (x:List Th×Pn):Prop where
 dp:eM x.1<=n
 c:(cM x.1:Int)+x.2.2=c0/\0<=x.2.2
 k:k0<=x.2.1/\x.2.1<=k0+b*i
 l:x.1.length<=i
theorem oH.step {i:Nat}{k0 c0:Int}{x:List Th×Pn}{sub:Option (Int->Pn->List Th×Pn)}{tp:Bool}{UA:Int}(h:oH n b i k0 c0 x)(ht:0<x.2.2->pJ n b x.2 (U3 ns Uz sub UA x.2))(hb:1<=b):oH n b (i+1) k0 c0 (gN ns Uz sub tp UA x):=by
 have hm:((b*(i+1):Nat):Int)=(b*i:Nat)+b:=by push_cast;rw[Int.mul_add];omega
 have hk:=h.k
 have hc:=h.c
 have hl:=h.l
 have hd:=h.dp
 unfold gN
 split
 ·rename_i hh
  have t:=ht hh.1
  have tk:=t.k
  have tc:=t.c
  split
  ·rename_i h2
   have hbk:(U3 ns Uz sub UA x.2).1= .back:=by
    have:=h2.2.2
    cases e:(U3 ns Uz sub UA x.2).1<;>rw[e] at this<;>first | rfl | cases this
   rw[hbk] at tc
   have hrw:(dw .back:Int)=0:=by simp[dw]
   rw[hrw] at tc
   refine⟨?_,⟨?_,?_⟩,⟨?_,?_⟩,?_⟩
   ·rw[kG];simp[eM,hX];exact hd
   ·rw[jo];simp[cM,dw];omega
   ·show 0<=(U3 ns Uz sub UA x.2).2.2-1
    have:=hh.1
    omega
   ·exact OC hk.1 tk.1
   ·show(U3 ns Uz sub UA x.2).2.1<=k0+((b*(i+1):Nat):Int)
    have:=tk.2;have:=hk.2
    rw[hm];push_cast at *;omega
   ·simp;omega
  ·refine⟨?_,⟨?_,tc.2⟩,⟨?_,?_⟩,?_⟩
   ·rw[kG];have:=t.dp;simp[eM];omega
   ·rw[jo];simp[cM];omega
   ·exact OC hk.1 tk.1
   ·show(U3 ns Uz sub UA x.2).2.1<=k0+((b*(i+1):Nat):Int)
    have:=tk.2;have:=hk.2
    rw[hm];push_cast at *;omega
   ·simp;omega
 ·refine⟨hd,hc,⟨hk.1,?_⟩,by omega⟩
  have:=hk.2
  show x.2.1<=k0+((b*(i+1):Nat):Int)
  rw[hm];push_cast at *;omega
def ka:Nat->Nat
 | 0=>16
 | n+1=>1+5*(3+2*ka n)
theorem sy {ns Uz:Oe}{sub:Option (Int->Pn->List Th×Pn)}{n b:Nat}(hb:1<=b)(hT:∀(lp:Int) (s:Pn),0<s.2->pJ n b s (U3 ns Uz sub lp s))(tp:Bool)(lp:Int)(s:Pn)(hs:0<=s.2):∀m,oH n b m (s.1+1) s.2 (U2 (gN ns Uz sub tp lp) m ([],(s.1+1,s.2)))
 | 0=>⟨by simp[U2,eM],⟨by simp[U2,cM],hs⟩,⟨OB _,by simp[U2]⟩,by simp[U2]⟩
 | m+1=>oH.step (sy hb hT tp lp s hs m) (λh=>hT lp _ h) hb
theorem zI {sub:Option (Int->Pn->List Th×Pn)}(hb:1<=b)(hT:∀(lp:Int) (s:Pn),0<s.2->pJ n b s (U3 ns Uz sub lp s))(tp:Bool)(lp:Int)(s:Pn)(hs:0<=s.2):Dj n (1+5*b) s (U2 (gN ns Uz sub tp lp) (eV ns tp s.1) ([],(s.1+1,s.2))):=by
 have h:=sy hb hT tp lp s hs (eV ns tp s.1)
 have hm:=vz ns tp s.1
 have hmul:b*eV ns tp s.1<=b*5:=Nat.mul_le_mul_left b hm
 refine⟨h.dp,h.c,⟨by have:=h.k.1;omega,?_⟩,QD h.l hm⟩
 have:=h.k.2
 omega
theorem i7 (ns Uz:Oe):∀(n:Nat) (tp:Bool),Cf n (ka n) (UP ns Uz n tp)
 | 0,tp=>λlp s hs=>zI (b:=3) (by decide) (λlp s h=>sJ ns Uz lp s h) tp lp s hs
 | n+1,tp=>λlp s hs=>zI (b:=3+2*ka n) (by omega) (λlp s h=>uV (i7 ns Uz n false) lp s h) tp lp s hs
def cV:Th->Str
 | .Vl _=>"do"
 | .call _=>"call"
 | .ifs _ _ _=>"if"
 | .UU _ _=>"while"
 | .leave=>"leave"
 | .back=>"back"
def iU:Th->List PV
 | .Vl x=>[.str "do",.str x]
 | .call j=>[.str "call",.int j]
 | .ifs x a b=>[.str "if",.str x,.lst (bA a),.lst (bA b)]
 | .UU x a=>[.str "while",.str x,.lst (bA a)]
 | .leave=>[.str "leave"]
 | .back=>[.str "back"]
theorem iR (t:Th):eY t= .lst (iU t):=by cases t<;>rw[eY]<;>rfl
theorem Gw (t:Th):bU (iU t) 0=some (.str (cV t)):=by cases t<;>rfl
end
section
variable {X:Cx}{Γ Γ1:Ga}
theorem iH {a:Expr}{j:Nat}{p1 pos:Pos}{t:Th}(h:EV X a Γ ax (eY t) Γ1):EV X (.Subscript a (.Constant (.int 0) j p1) pos) Γ aj (cV t) Γ1:=EV.sP (aY (EV.lP (by rw[iR] at h;exact h)) ev_int (Gw t))
theorem l7 {a:Expr}{j:Nat}{p1 pos:Pos}{t:Th}{i:Int}{xs:List PV}(h:EV X a Γ ax (eY t) Γ1)(hx:bU (iU t) i=some (.lst xs)):EV X (.Subscript a (.Constant (.int i) j p1) pos) Γ (ae ax) xs Γ1:=EV.lP (aY (EV.lP (by rw[iR] at h;exact h)) ev_int hx)
end
section
abbrev FD:Stmt:=top qu
abbrev nPA:Of:=["_law_items","_law_one"]
theorem AH:ay nPA ["_law_items"] (ag FD):=UY
def z8 (n:Nat):bQ:=λK ps T=>∃ts:List Th,ps=[⟨ae ax,bA ts⟩]/\eM ts<n/\T=bL K bF (· =c6 ts)
theorem Bg (t:Th):(cV t="leave"∨cV t="back")->d8 t=false:=by
 intro h
 cases t<;>simp[cV] at h<;>first | (exfalso;revert h;decide) | simp[d8]
theorem si {t:Th}:∀{ts:List Th},t∈ts->hX t<=eM ts
 | s::ts,h=>by
   rw[eM]
   rcases OT.mp h with rfl | h
   ·omega
   ·have:=si h;omega
theorem Lo (F:dH K "_law_passes" "_law_passes" FD f fd)(hm:mg "_law_passes"=some (.ref f))(hb:Binds K fd ["_law_items"] []):∀n:Nat,aA P w K mg base "_law_passes" (n+1) (aE (z8 n) K):=by
 intro n
 have nd:=AH.nd
 induction n with
 | zero=>
   refine fR F AH hm hb (λqs T ⟨_,e,_⟩=>by rw[e];rfl) (λUE A outer s H E qs T hr hS=>?_)
   obtain⟨ts,_,h,_⟩:=hS
   exact Ur h (QT _)
 | succ n ih=>
   refine fR F AH hm hb (λqs T ⟨_,e,_⟩=>by rw[e];rfl) (λUE A outer s H E qs T hr hS=>?_)
   obtain⟨ts,rfl,hd,rfl⟩:=hS
   change WS _ _ [.im (ae ax) (bA ts),.no] _ _
   refine ai (bX (r:=ax) (λi Γ=>∃e1,Γ=[.im (ae ax) (bA ts),e1]/\c6 ts=c6 (ts.drop i)) (bG (aa 0 rfl)) (aO 1) ⟨_,rfl,rfl⟩ (λi x Γ hx hΓ=>?_) (λΓ hΓ=>?_))
   ·obtain⟨e1,rfl,hp⟩:=hΓ
    rw[fm,OJ] at hx
    obtain⟨t,ht,rfl⟩:=QX.mp hx
    have hdr:ts.drop i=t::ts.drop (i+1):=by
     obtain⟨h1,h2⟩:=OD.mp ht
     rw[List.drop_eq_getElem_cons h1,h2]
    rw[hdr,c6] at hp
    have hdt:=si (OK ht)
    change WS _ _ [.im (ae ax) (bA ts),.im ax (eY t)] _ _
    refine ai (ba (TW.tv (fQ (aD cv (iH (aa 1 rfl)) aG) (λ_=>fc (aD cv (iH (aa 1 rfl)) aG)))) (λh=>?_) (λh=>aL ?_))
    ·have h:cV t="leave"∨cV t="back":=by simpa using h
     exact ak (aN fh (by rw[hp,Bg t h];rfl))
    ·have h:¬(cV t="leave"∨cV t="back"):=by simpa using h
     by_cases hif:∃x a b,t= .ifs x a b
     ·obtain⟨x,a,b,rfl⟩:=hif
      have VZ:eM a<n/\eM b<n:=by rw[hX] at hdt;omega
      refine ak (ba (TW.tv (cT (aD cv (iH (aa 1 rfl)) aG) (λ_=>cT (bW (cj (aB ih hr (af (l7 (aa 1 rfl) (xs:=bA a) rfl) aq) ⟨a,rfl,VZ.1,rfl⟩))) (λ_=>dQ (bW (cj (aB ih hr (af (l7 (aa 1 rfl) (xs:=bA b) rfl) aq) ⟨b,rfl,VZ.2,rfl⟩))))))) (λh=>?_) (λh=>aL ⟨_,rfl,?_⟩))
      ·have h:c6 a=false/\c6 b=false:=by simpa[cV] using h
       exact ak (aN fh (by rw[hp,d8,h.1,h.2];rfl))
      ·have h:c6 a=false->c6 b=true:=by simpa[cV] using h
       rw[hp,d8]
       cases ea:c6 a with
       | true=>simp
       | false=>rw[h ea];simp
     ·have hk:decide (cV t="if")=false:=by cases t<;>first | rfl | exact Ur ⟨_,_,_,rfl⟩ hif
      have hpt:d8 t=true:=by cases t<;>first | (simp[d8];done) | exact Ur ⟨_,_,_,rfl⟩ hif | exact Ur (.inl rfl) h | exact Ur (.inr rfl) h
      refine ak (ba (TW.tv (cT (y:=true) (aD cv (iH (aa 1 rfl)) aG) (λh=>Ur (hk.symm.trans h) (by decide)))) (λh=>?_) (λh=>aL ⟨_,rfl,?_⟩))
      ·rw[hk] at h;cases h
      ·rw[hp,hpt];rfl
   ·obtain⟨e1,rfl,hp⟩:=hΓ
    rw[show(bA ts).length=ts.length by rw[fm,OH],List.drop_length,c6] at hp
    exact ak (aN fh hp.symm)
end
def dB (ns Uz:Oe):Nat->Option (Int->Pn->List Th×Pn)
 | 0=>none
 | n+1=>some (UP ns Uz n false)
theorem kJ (ns Uz:Oe)(n:Nat)(tp:Bool)(UA:Int)(s:Pn):UP ns Uz n tp UA s=U2 (gN ns Uz (dB ns Uz n) tp UA) (eV ns tp s.1) ([],(s.1+1,s.2)):=by cases n<;>rfl
def bT:Nat->Nat
 | 0=>3
 | n+1=>3+2*ka n
theorem Dz (n:Nat):3<=bT n:=by cases n<;>simp[bT]
structure lu (ns Uz:Oe) (n b:Nat) (k c:Int):Prop where
 s:wu ns
 k0:0<=k
 k1:k+(b:Int)<=900000
 c0:0<=c
 c1:c<=100
 l:Uz.length<=100
 n4:n<=4
abbrev Fp (n:Nat)(UA:Int)(Uz:Oe):List Pk:=[⟨ah,4-(n:Int)⟩,⟨ah,UA⟩,⟨ae ah,Uz⟩]
def Cs (n:Nat):jv (Oe ⊕ Int):=λK xs ps T=>∃(ns Uz:Oe) (k c UA:Int),xs=bo ns k c/\ps=Fp n UA Uz/\lu ns Uz n (bT n) k c/\0<c/\T=λxs'=>bL K ax λy=>xs'=bo ns (U3 ns Uz (dB ns Uz n) UA (k,c)).2.1 (U3 ns Uz (dB ns Uz n) UA (k,c)).2.2/\y=eY (U3 ns Uz (dB ns Uz n) UA (k,c)).1
def Ik (n:Nat):jv (Oe ⊕ Int):=λK xs ps T=>∃(ns Uz:Oe) (k c UA:Int),xs=bo ns k c/\ps=Fp n UA Uz/\lu ns Uz n (ka n) k c/\T=λxs'=>bL K (ae ax) λy=>xs'=bo ns (UP ns Uz n (decide (n=4)) UA (k,c)).2.1 (UP ns Uz n (decide (n=4)) UA (k,c)).2.2/\y=bA (UP ns Uz n (decide (n=4)) UA (k,c)).1
section
variable {ns Uz:Oe}{sub:Option (Int->Pn->List Th×Pn)}{L:Int->Pn->List Th×Pn}{UA k c:Int}
abbrev fJ (ns:Oe)(k:Int):Int:=aK ns (k+1)%12
abbrev C0 (ns:Oe)(k UA:Int):Prop:=fJ ns k=0/\0<UA
abbrev C2 (ns Uz:Oe)(k:Int):Prop:=9<fJ ns k/\0<Uz.length
abbrev C3 (ns:Oe)(k c:Int):Prop:=(3<fJ ns k/\fJ ns k<7)/\1<c
abbrev C4 (ns:Oe)(k c:Int):Prop:=(6<fJ ns k/\fJ ns k<10)/\1<c
theorem ya (h:C0 ns k UA):U3 ns Uz sub UA (k,c)=(.leave,(k+2,c)):=Ut h
theorem Al (h0:¬C0 ns k UA)(h:fJ ns k=1):U3 ns Uz sub UA (k,c)=(.back,(k+2,c)):=by
 unfold U3;rw[Us h0,Ut h]
theorem A1 (h0:¬C0 ns k UA)(h1:¬fJ ns k=1)(h:C2 ns Uz k):U3 ns Uz sub UA (k,c)=(.call (Uz.getD (aK ns (k+3)%(Uz.length:Int)).toNat 0),(k+3,c-1)):=by
 unfold U3;rw[Us h0,Us h1,Ut h]
theorem FF (h0:¬C0 ns k UA)(h1:¬fJ ns k=1)(h2:¬C2 ns Uz k)(h:C3 ns k c):U3 ns Uz (some L) UA (k,c)=(.ifs (UL (aK ns (k+2))) (L UA (k+2,c-2)).1 (L UA (L UA (k+2,c-2)).2).1,(L UA (L UA (k+2,c-2)).2).2):=by
 unfold U3;rw[Us h0,Us h1,Us h2];dsimp only;rw[Ut h]
theorem Jy (h0:¬C0 ns k UA)(h1:¬fJ ns k=1)(h2:¬C2 ns Uz k)(h3:¬C3 ns k c)(h:C4 ns k c):U3 ns Uz (some L) UA (k,c)=(.UU (UL (aK ns (k+2))) (L (UA+1) (k+2,c-2)).1,(L (UA+1) (k+2,c-2)).2):=by
 unfold U3;rw[Us h0,Us h1,Us h2];dsimp only;rw[Us h3,Ut h]
theorem FH (h0:¬C0 ns k UA)(h1:¬fJ ns k=1)(h2:¬C2 ns Uz k)(h:∀L,sub=some L->¬C3 ns k c/\¬C4 ns k c):U3 ns Uz sub UA (k,c)=(.Vl (UL (aK ns (k+2))),(k+2,c-1)):=by
 unfold U3;rw[Us h0,Us h1,Us h2]
 cases sub with
 | none=>rfl
 | some L=>dsimp only;rw[Us (h L rfl).1,Us (h L rfl).2]
end
section
abbrev Du:Stmt:=top rM
abbrev nTH:Of:=["_law_pen","_law_depth","_law_loops","_law_calls","_law_way","_law_name_here","_law_first"]
abbrev tX:Of:=["_law_pen","_law_depth","_law_loops","_law_calls"]
theorem GW:ay nTH tX (ag Du):=UY
theorem xC (M:cb K mg)(CP:aA P w K mg base "_law_pull" 2 (eB bC tY K))(CN:aA P w K mg base "_law_name" 1 (aE Dc K))(n:Nat)(CL:∀m,n=m+1->aA P w K mg base "_law_list" (2*m+8) (eB bC (Ik m) K))(F:dH K "_law_thing" "_law_thing" Du f fd)(hm:mg "_law_thing"=some (.ref f))(hb:Binds K fd tX []):aA P w K mg base "_law_thing" (2*n+7) (eB bC (Cs n) K):=by
 have nd:=GW.nd
 have CP:=CP.mono (show 2<=2*n+6 by omega)
 have CN:=CN.mono (show 1<=2*n+6 by omega)
 refine sU (k:=2*n+6) F GW hm hb (λxs qs T ⟨_,_,_,_,_,_,e,_⟩=>by rw[e];rfl) (λUE A outer s H E a xs qs T hr hS=>?_)
 obtain⟨ns,Uz,k,c,UA,rfl,rfl,hp,c0,rfl⟩:=hS
 have hb16:=Dz n
 have k0:=hp.k0
 have k1:=hp.k1
 have cl:=hp.l
 have c1:=hp.c1
 change WS _ _ [.ob (bM a bC (bo ns k c)),ao (4-(n:Int)),ao UA,bP Uz,.no,.no,.no] _ _
 refine ai (aU 4 (cH (eL 0 (st:=bo ns (k+1) c) (z:=aK ns (k+1)) CP hr aq rfl ⟨ns,k,c,rfl,rfl,hp.s,k0,by omega,rfl⟩) ev_int (by decide)) ?_)
 change WS _ _ [.ob (bM a bC (bo ns (k+1) c)),ao (4-(n:Int)),ao UA,bP Uz,ao (aK ns (k+1)%12),.no,.no] _ _
 have m2:=qh ns (k+2)
 have e2:k+1+1=k+2:=by omega
 refine ai (aU 5 (y:=UL (aK ns (k+2))) (aB CN hr (af (eL 0 (st:=bo ns (k+2) c) (z:=aK ns (k+2)) CP hr aq rfl ⟨ns,k+1,c,rfl,rfl,hp.s,by omega,by omega,by rw[e2]⟩) aq) ⟨_,rfl,m2.1,m2.2,rfl⟩) ?_)
 change WS _ _ [.ob (bM a bC (bo ns (k+2) c)),ao (4-(n:Int)),ao UA,bP Uz,ao (aK ns (k+1)%12),.im aj (UL (aK ns (k+2))),.no] _ _
 have fin:∀(k' c':Int) (t:Th) (r:Th×Pn),U3 ns Uz (dB ns Uz n) UA (k,c)=(t,(k',c'))->(λxs' (y:PV)=>xs'=bo ns (U3 ns Uz (dB ns Uz n) UA (k,c)).2.1 (U3 ns Uz (dB ns Uz n) UA (k,c)).2.2/\y=eY (U3 ns Uz (dB ns Uz n) UA (k,c)).1) (bo ns k' c') (.lst (iU t)):=λk' c' t r h=>by rw[h];exact⟨rfl,(iR t).symm⟩
 refine ai (ba (TW.tv (cT (aD eo (aa 4 rfl) ev_int) (λ_=>dQ (aD gP (aa 2 rfl) ev_int)))) (λh=>?_) (λh=>aL ?_))
 ·have h:C0 ns k UA:=by simpa using h
  exact ak (iM 0 (EV.pL (aW.im (aR (r:=ax) (av (EV.pS aG) aT) (by show 1<=Ra;decide)))) rfl (fin _ _ .leave (.leave,(k,c)) (ya h)))
 have h0:¬C0 ns k UA:=by simpa using h
 refine ai (ba (aD eo (aa 4 rfl) ev_int) (λh=>?_) (λh=>aL ?_))
 ·have h:fJ ns k=1:=Uu h
  exact ak (iM 0 (EV.pL (aW.im (aR (r:=ax) (av (EV.pS aG) aT) (by show 1<=Ra;decide)))) rfl (fin _ _ .back (.leave,(k,c)) (Al h0 h)))
 have h1:¬fJ ns k=1:=Uv h
 refine ai (ba (TW.tv (cT (aD gP (aa 4 rfl) ev_int) (λ_=>dQ (aD gP (cX M.len (aa 3 rfl)) ev_int)))) (λh=>?_) (λh=>aL ?_))
 ·have h:C2 ns Uz k:=by
   have h:9<fJ ns k/\(0:Int)<(Uz.length:Int):=by simpa using h
   exact⟨h.1,by omega⟩
  have hl:(0:Int)<(Uz.length:Int):=by have:=h.2;omega
  refine ai (gA 0 (j:=2) (EV.inr (gc (EV.nk (fC 0 ev_int rfl (y:=(Sum.inr c:Oe ⊕ Int)) rfl)) ev_int)) ev_int rfl rfl rfl ?_)
  change WS _ _ [.ob (bM a bC (bo ns (k+2) (c-1))),ao (4-(n:Int)),ao UA,bP Uz,ao (aK ns (k+1)%12),.im aj (UL (aK ns (k+2))),.no] _ _
  have e3:k+2+1=k+3:=by omega
  have q0:=OA (aK ns (k+3)) (show(Uz.length:Int)≠0 by omega)
  have q1:=Oz (aK ns (k+3)) hl
  exact ak (iM 0 (EV.pL (aW.im (aR (r:=ax) (av (EV.pS aG) (av (EV.pI (aY (aa 3 rfl) (cH (eL 0 (st:=bo ns (k+3) (c-1)) (z:=aK ns (k+3)) CP hr aq rfl ⟨ns,k+2,c-1,rfl,rfl,hp.s,by omega,by omega,by rw[e3]⟩) (cX M.len (aa 3 rfl)) hl) (aV 0 q0 q1))) aT)) (by show 2<=Ra;decide)))) rfl (fin _ _ (.call _) (.leave,(k,c)) (A1 h0 h1 h)))
 have h2:¬C2 ns Uz k:=by
  have h:9<fJ ns k->¬(0:Int)<(Uz.length:Int):=by simpa using h
  exact λ⟨x,y⟩=>h x (by omega)
 refine ai (ba (TW.tv (cT (aD gP (aa 4 rfl) ev_int) (λ_=>cT (aD gE (aa 4 rfl) ev_int) (λ_=>cT (aD gE (aa 1 rfl) ev_int) (λ_=>dQ (aD gP (EV.nk (fC 0 ev_int rfl (y:=(Sum.inr c:Oe ⊕ Int)) rfl)) ev_int)))))) (λh=>?_) (λh=>aL ?_))
 ·have h:3<fJ ns k/\fJ ns k<7/\4-(n:Int)<4/\1<c:=by simpa using h
  have h3:C3 ns k c:=⟨⟨h.1,h.2.1⟩,h.2.2.2⟩
  have hc:=h.2.2.2
  have hn:=h.2.2.1
  obtain⟨m,rfl⟩:∃m,n=m+1:=⟨n-1,by omega⟩
  have CL:=(CL m rfl).mono (show 2*m+8<=2*(m+1)+6 by omega)
  have n4:=hp.n4
  have hf:decide (m=4)=false:=Ux (by omega)
  have hbd:bT (m+1)=3+2*ka m:=rfl
  refine ai (gA 0 (j:=2) (EV.inr (gc (EV.nk (fC 0 ev_int rfl (y:=(Sum.inr c:Oe ⊕ Int)) rfl)) ev_int)) ev_int rfl rfl rfl ?_)
  change WS _ _ [.ob (bM a bC (bo ns (k+2) (c-2))),ao (4-((m+1:Nat):Int)),ao UA,bP Uz,ao (aK ns (k+1)%12),.im aj (UL (aK ns (k+2))),.no] _ _
  have p1:lu ns Uz m (ka m) (k+2) (c-2):=⟨hp.s,by omega,by omega,by omega,by omega,hp.l,by omega⟩
  obtain⟨g1,g2,g3,g4⟩:=i7 ns Uz m false UA (k+2,c-2) (by show 0<=c-2;omega)
  have e1:=FF (L:=UP ns Uz m false) h0 h1 h2 h3
  generalize Y0:UP ns Uz m false UA (k+2,c-2)=r1 at g1 g2 g3 g4 e1
  dsimp only at g2 g3
  refine ai (aU 6 (eL 0 (st:=bo ns (UP ns Uz m false UA (k+2,c-2)).2.1 (UP ns Uz m false UA (k+2,c-2)).2.2) (z:=bA (UP ns Uz m false UA (k+2,c-2)).1) CL hr (af (EV.cast (y':=4-(m:Int)) (cg (aa 1 rfl) ev_int) (by omega)) (af (aa 2 rfl) (af (aa 3 rfl) aq))) rfl ⟨ns,Uz,_,_,UA,rfl,rfl,p1,by rw[hf]⟩) ?_)
  rw[Y0]
  change WS _ _ [.ob (bM a bC (bo ns r1.2.1 r1.2.2)),ao (4-((m+1:Nat):Int)),ao UA,bP Uz,ao (aK ns (k+1)%12),.im aj (UL (aK ns (k+2))),.im (ae ax) (bA r1.1)] _ _
  have p2:lu ns Uz m (ka m) r1.2.1 r1.2.2:=⟨hp.s,by omega,by omega,by omega,by omega,hp.l,by omega⟩
  exact ak (iM 0 (EV.pL (aW.im (aR (r:=ax) (av (EV.pS aG) (av (EV.pS (aa 5 rfl)) (av (EV.pL (aa 6 rfl)) (av (EV.pL (eL 0 (st:=bo ns (UP ns Uz m false UA r1.2).2.1 (UP ns Uz m false UA r1.2).2.2) (z:=bA (UP ns Uz m false UA r1.2).1) CL hr (af (EV.cast (y':=4-(m:Int)) (cg (aa 1 rfl) ev_int) (by omega)) (af (aa 2 rfl) (af (aa 3 rfl) aq))) rfl ⟨ns,Uz,_,_,UA,rfl,rfl,p2,by rw[hf]⟩)) aT)))) (by show 4<=Ra;decide)))) rfl (fin _ _ (.ifs _ _ _) (.leave,(k,c)) e1))
 have h3:n=0∨¬C3 ns k c:=by
  have h:3<fJ ns k->fJ ns k<7->4-(n:Int)<4->¬1<c:=by simpa using h
  by_cases z:n=0
  ·exact .inl z
  ·exact .inr λ⟨⟨x,y⟩,u⟩=>h x y (by omega) u
 refine ai (ba (TW.tv (cT (aD gP (aa 4 rfl) ev_int) (λ_=>cT (aD gE (aa 4 rfl) ev_int) (λ_=>cT (aD gE (aa 1 rfl) ev_int) (λ_=>dQ (aD gP (EV.nk (fC 0 ev_int rfl (y:=(Sum.inr c:Oe ⊕ Int)) rfl)) ev_int)))))) (λh=>?_) (λh=>aL ?_))
 ·have h:6<fJ ns k/\fJ ns k<10/\4-(n:Int)<4/\1<c:=by simpa using h
  have h4:C4 ns k c:=⟨⟨h.1,h.2.1⟩,h.2.2.2⟩
  have hc:=h.2.2.2
  have hn:=h.2.2.1
  have h3x:¬C3 ns k c:=h3.resolve_left (by omega)
  obtain⟨m,rfl⟩:∃m,n=m+1:=⟨n-1,by omega⟩
  have CL:=(CL m rfl).mono (show 2*m+8<=2*(m+1)+6 by omega)
  have n4:=hp.n4
  have hf:decide (m=4)=false:=Ux (by omega)
  have hbd:bT (m+1)=3+2*ka m:=rfl
  refine ai (gA 0 (j:=2) (EV.inr (gc (EV.nk (fC 0 ev_int rfl (y:=(Sum.inr c:Oe ⊕ Int)) rfl)) ev_int)) ev_int rfl rfl rfl ?_)
  change WS _ _ [.ob (bM a bC (bo ns (k+2) (c-2))),ao (4-((m+1:Nat):Int)),ao UA,bP Uz,ao (aK ns (k+1)%12),.im aj (UL (aK ns (k+2))),.no] _ _
  have p1:lu ns Uz m (ka m) (k+2) (c-2):=⟨hp.s,by omega,by omega,by omega,by omega,hp.l,by omega⟩
  have e1:=Jy (L:=UP ns Uz m false) h0 h1 h2 h3x h4
  exact ak (iM 0 (EV.pL (aW.im (aR (r:=ax) (av (EV.pS aG) (av (EV.pS (aa 5 rfl)) (av (EV.pL (eL 0 (st:=bo ns (UP ns Uz m false (UA+1) (k+2,c-2)).2.1 (UP ns Uz m false (UA+1) (k+2,c-2)).2.2) (z:=bA (UP ns Uz m false (UA+1) (k+2,c-2)).1) CL hr (af (EV.cast (y':=4-(m:Int)) (cg (aa 1 rfl) ev_int) (by omega)) (af (cg (aa 2 rfl) ev_int) (af (aa 3 rfl) aq))) rfl ⟨ns,Uz,_,_,UA+1,rfl,rfl,p1,by rw[hf]⟩)) aT))) (by show 3<=Ra;decide)))) rfl (fin _ _ (.UU _ _) (.leave,(k,c)) e1))
 have h4:n=0∨¬C4 ns k c:=by
  have h:6<fJ ns k->fJ ns k<10->4-(n:Int)<4->¬1<c:=by simpa using h
  by_cases z:n=0
  ·exact .inl z
  ·exact .inr λ⟨⟨x,y⟩,u⟩=>h x y (by omega) u
 refine ai (gA 0 (j:=2) (EV.inr (gc (EV.nk (fC 0 ev_int rfl (y:=(Sum.inr c:Oe ⊕ Int)) rfl)) ev_int)) ev_int rfl rfl rfl ?_)
 change WS _ _ [.ob (bM a bC (bo ns (k+2) (c-1))),ao (4-(n:Int)),ao UA,bP Uz,ao (aK ns (k+1)%12),.im aj (UL (aK ns (k+2))),.no] _ _
 refine ak (iM 0 (EV.pL (aW.im (aR (r:=ax) (av (EV.pS aG) (av (EV.pS (aa 5 rfl)) aT)) (by show 2<=Ra;decide)))) rfl (fin _ _ (.Vl _) (.leave,(k,c)) (FH h0 h1 h2 λL e=>?_)))
 cases n with
 | zero=>cases e
 | succ m=>exact⟨h3.resolve_left (by omega),h4.resolve_left (by omega)⟩
end
theorem Hb (n:Nat):ka n=1+5*bT n:=by cases n<;>rfl
theorem Di (ns Uz:Oe):∀(n:Nat) (lp:Int) (s:Pn),0<s.2->pJ n (bT n) s (U3 ns Uz (dB ns Uz n) lp s)
 | 0,lp,s,h=>sJ ns Uz lp s h
 | n+1,lp,s,h=>uV (i7 ns Uz n false) lp s h
theorem v7 (t:Th):nP t=decide (cV t="back"):=by cases t<;>rfl
theorem EI (a b:List Th):bA (a++b)=bA a++bA b:=by rw[fm,fm,fm,O3]
theorem eI (a:List Th):(bA a).length=a.length:=by rw[fm,OH]
section
abbrev nh:Stmt:=top sQ
abbrev Hn:Of:=["_law_pen","_law_depth","_law_loops","_law_calls","_law_items","_law_k","_law_one"]
theorem sY:ay Hn tX (ag nh):=UY
theorem ls_run (M:cb K mg)(CP:aA P w K mg base "_law_pull" 2 (eB bC tY K))(CA:aA P w K mg base "_law_passes" 6 (aE (z8 5) K)){n:Nat}(CT:aA P w K mg base "_law_thing" (2*n+7) (eB bC (Cs n) K)){UE:Value}{A:Ri}{outer:List Env}{s:Q9}{H:Hp}{E:XK}{a:Addr}{ns Uz:Oe}{k c UA:Int}{N:Ga->Prop}{T:RT}(hr:bI (2*n+7) (A.deeper (Q5 "_law_list" (ag nh) s.heap.objs.size f UE)))(hp:lu ns Uz n (ka n) k c)
 (Wn:∀e5 e6:Ent,WS (eD d7 P w K mg base Hn "_law_list" (ag nh) f UE A outer s H E).ic ((bu nh).drop 2) [.ob (bM a bC (bo ns (UP ns Uz n (decide (n=4)) UA (k,c)).2.1 (UP ns Uz n (decide (n=4)) UA (k,c)).2.2)),ao (4-(n:Int)),ao UA,bP Uz,.mu ax (bA (UP ns Uz n (decide (n=4)) UA (k,c)).1),e5,e6] N T):
 WS (eD d7 P w K mg base Hn "_law_list" (ag nh) f UE A outer s H E).ic (bu nh) [.ob (bM a bC (bo ns k c)),ao (4-(n:Int)),ao UA,bP Uz,.no,.no,.no] N T:=by
 have nd:=sY.nd
 have CP:=CP.mono (show 2<=2*n+7 by omega)
 have CA:=CA.mono (show 6<=2*n+7 by omega)
 have k0:=hp.k0
 have k1:=hp.k1
 have c0:=hp.c0
 have c1:=hp.c1
 have n4:=hp.n4
 have hbd:=Hb n
 have b3:=Dz n
 rw[kJ] at Wn
 generalize htp:decide (n=4)=tp at Wn
 have Xl:=sy (ns:=ns) (Uz:=Uz) (sub:=dB ns Uz n) (n:=n) (b:=bT n) (by omega) (Di ns Uz n) tp UA (k,c) c0
 dsimp only at Xl Wn
 have hmany:=vz ns tp k
 generalize hx:(λi=>U2 (gN ns Uz (dB ns Uz n) tp UA) i ([],(k+1,c)))=x at Xl
 have hxi:∀i,U2 (gN ns Uz (dB ns Uz n) tp UA) i ([],(k+1,c))=x i:=λi=>by rw[← hx]
 have hxs:∀i,x (i+1)=gN ns Uz (dB ns Uz n) tp UA (x i):=λi=>by rw[← hx];rfl
 have hx0:x 0=([],(k+1,c)):=by rw[← hx];rfl
 simp only[hxi] at Xl Wn
 refine ai (bV 4 (r:=ax) (ys:=[]) (aR aT (QE _)) ?_)
 change WS _ _ [.ob (bM a bC (bo ns k c)),ao (4-(n:Int)),ao UA,bP Uz,.mu ax [],.no,.no] _ _
 have m0:=OA (aK ns (k+1)) (show(4:Int)≠0 by decide)
 have m1:=Oz (aK ns (k+1)) (show(0:Int)<4 by decide)
 have X2:decide (4-(n:Int)=0)=tp:=by rw[← htp];exact decide_eq_decide.mpr ⟨λh=>by omega,λh=>by omega⟩
 have Y9:(aK ns (k+1)%4+2*(if decide (4-(n:Int)=0)=true then 1 else 0)).toNat=eV ns tp k:=by rw[X2];rfl
 have hb2:0<=(if decide (4-(n:Int)=0)=true then(1:Int) else 0)/\(if decide (4-(n:Int)=0)=true then(1:Int) else 0)<=1:=by split<;>decide
 refine ai (bX (r:=ah) (λi Γ=>∃e5 e6,Γ=[.ob (bM a bC (bo ns (x i).2.1 (x i).2.2)),ao (4-(n:Int)),ao UA,bP Uz,.mu ax (bA (x i).1),e5,e6]) (dg M.range (cg (cH (eL 0 (st:=bo ns (k+1) c) (z:=aK ns (k+1)) CP hr aq rfl ⟨ns,k,c,rfl,rfl,hp.s,k0,by omega,rfl⟩) ev_int (by decide)) (Hs ev_int (wd M.int (dm eo (aa 1 rfl) ev_int)) (.inl (by decide)))) ⟨by omega,by omega⟩) (aO 5) ⟨_,_,by rw[hx0];rfl⟩ (λi j Γ hj hΓ=>?_) (λΓ hΓ=>?_))
 ·obtain⟨e5,e6,rfl⟩:=hΓ
  have il:=(ef hj).1
  rw[Y9] at il
  obtain⟨rd,⟨rc,rc0⟩,⟨rk0,rk1⟩,rll⟩:=Xl i
  have hmul:bT n*i<=bT n*4:=Nat.mul_le_mul_left _ (by omega)
  have hs:=hxs i
  generalize x i=xi at rd rc rc0 rk0 rk1 rll hs
  obtain⟨UD,kk,cc⟩:=xi
  dsimp only at rd rc rc0 rk0 rk1 rll ⊢
  change WS _ _ [.ob (bM a bC (bo ns kk cc)),ao (4-(n:Int)),ao UA,bP Uz,.mu ax (bA UD),ao j,e6] _ _
  have rkk:kk+(bT n:Int)<=900000:=by push_cast at rk1;omega
  refine ak (ba (TW.tv (cT (aD gP (EV.nk (fC 0 ev_int rfl (y:=(Sum.inr cc:Oe ⊕ Int)) rfl)) ev_int) (λ_=>dQ (TV.VJ (oa (i:=4) rfl (aH (by rw[eI];omega))) (cj (aB CA hr (af (aa 4 rfl) aq) ⟨UD,rfl,by omega,rfl⟩)))))) (λh=>?_) (λh=>aL ?_))
  ·have h:0<cc/\c6 UD=true:=by simpa using h
   have ht:=Di ns Uz n UA (kk,cc) h.1
   have e1:gN ns Uz (dB ns Uz n) tp UA (UD,kk,cc)=if tp=true/\UD.length=0/\nP (U3 ns Uz (dB ns Uz n) UA (kk,cc)).1=true then(UD++[.Vl "back"],((U3 ns Uz (dB ns Uz n) UA (kk,cc)).2.1,(U3 ns Uz (dB ns Uz n) UA (kk,cc)).2.2-1)) else(UD++[(U3 ns Uz (dB ns Uz n) UA (kk,cc)).1],(U3 ns Uz (dB ns Uz n) UA (kk,cc)).2):=Ut h
   refine ai (aU 6 (eL 0 (st:=bo ns (U3 ns Uz (dB ns Uz n) UA (kk,cc)).2.1 (U3 ns Uz (dB ns Uz n) UA (kk,cc)).2.2) (z:=eY (U3 ns Uz (dB ns Uz n) UA (kk,cc)).1) CT hr (af (aa 1 rfl) (af (aa 2 rfl) (af (aa 3 rfl) aq))) rfl ⟨ns,Uz,kk,cc,UA,rfl,rfl,⟨hp.s,by omega,rkk,by omega,by omega,hp.l,n4⟩,h.1,rfl⟩) ?_)
   generalize U3 ns Uz (dB ns Uz n) UA (kk,cc)=r at ht e1
   obtain⟨tt,kr,cr⟩:=r
   dsimp only at e1 ⊢
   change WS _ _ [.ob (bM a bC (bo ns kr cr)),ao (4-(n:Int)),ao UA,bP Uz,.mu ax (bA UD),ao j,.im ax (eY tt)] _ _
   refine bN (N1:=λΓ=>∃t' c',Γ=[.ob (bM a bC (bo ns kr c')),ao (4-(n:Int)),ao UA,bP Uz,.mu ax (bA UD),ao j,.im ax (eY t')]/\gN ns Uz (dB ns Uz n) tp UA (UD,kk,cc)=(UD++[t'],(kr,c'))) (ba (TW.tv (cT (aD eo (aa 1 rfl) ev_int) (λ_=>cT (aD eo (qC 4 M.len rfl) ev_int) (λ_=>dQ (aD cv (iH (aa 6 rfl)) aG))))) (λh=>?_) (λh=>aL ⟨tt,cr,rfl,?_⟩)) ?_
   ·have h:tp=true/\UD.length=0/\nP tt=true:=by
     rw[X2,eI] at h
     rw[v7]
     simpa using h
    refine ai (gA 0 (j:=2) (EV.inr (gc (EV.nk (fC 0 ev_int rfl (y:=(Sum.inr cr:Oe ⊕ Int)) rfl)) ev_int)) ev_int rfl rfl rfl ?_)
    change WS _ _ [.ob (bM a bC (bo ns kr (cr-1))),ao (4-(n:Int)),ao UA,bP Uz,.mu ax (bA UD),ao j,.im ax (eY tt)] _ _
    refine ak (aU 6 (y:=eY (.Vl "back")) (EV.cast (y:=.lst (iU (.Vl "back"))) (EV.pL (aW.im (aR (r:=ax) (av (EV.pS aG) (av (EV.pS aG) aT)) (by show 2<=Ra;decide)))) (iR _).symm) ⟨.Vl "back",cr-1,rfl,?_⟩)
    rw[e1,Ut h]
   ·have h:¬(tp=true/\UD.length=0/\nP tt=true):=by
     rw[X2,eI] at h
     rw[v7]
     simpa using h
    rw[e1,Us h]
   rintro _ ⟨t',c',rfl,e2⟩
   refine ak (dR 4 (aa 6 rfl) rfl rfl (QF (show _<=10 by rw[eI];omega) (by decide)) ⟨ao j,.im ax (eY t'),?_⟩)
   rw[hs,e2,EI,bA,bA]
   rfl
  ·have h:¬(0<cc/\c6 UD=true):=by simpa using h
   refine⟨ao j,e6,?_⟩
   rw[hs,show gN ns Uz (dB ns Uz n) tp UA (UD,kk,cc)=(UD,kk,cc) from Us h]
 ·obtain⟨e5,e6,rfl⟩:=hΓ
  rw[a9,Y9]
  exact Wn e5 e6
theorem yB (M:cb K mg)(CP:aA P w K mg base "_law_pull" 2 (eB bC tY K))(CA:aA P w K mg base "_law_passes" 6 (aE (z8 5) K)){n:Nat}(CT:aA P w K mg base "_law_thing" (2*n+7) (eB bC (Cs n) K))(F:dH K "_law_list" "_law_list" nh f fd)(hm:mg "_law_list"=some (.ref f))(hb:Binds K fd tX []):aA P w K mg base "_law_list" (2*n+8) (eB bC (Ik n) K):=by
 have nd:=sY.nd
 refine sU (k:=2*n+7) F sY hm hb (λxs qs T ⟨_,_,_,_,_,_,e,_⟩=>by rw[e];rfl) (λUE A outer s H E a xs qs T hr hS=>?_)
 obtain⟨ns,Uz,k,c,UA,rfl,rfl,hp,rfl⟩:=hS
 refine ls_run M CP CA CT hr hp λe5 e6=>?_
 have g:=i7 ns Uz n (decide (n=4)) UA (k,c) hp.c0
 refine WS.freeze 4 rfl (aH (by rw[eI];exact QD g.l (by decide))) ?_
 exact ak (iM 0 (aa 4 rfl) rfl ⟨rfl,rfl⟩)
theorem CV (M:cb K mg)(CP:aA P w K mg base "_law_pull" 2 (eB bC tY K))(CN:aA P w K mg base "_law_name" 1 (aE Dc K))(CA:aA P w K mg base "_law_passes" 6 (aE (z8 5) K)){f2:Addr}{fd2:Rm}(F:dH K "_law_list" "_law_list" nh f fd)(hm:mg "_law_list"=some (.ref f))(hb:Binds K fd tX [])(F2:dH K "_law_thing" "_law_thing" Du f2 fd2)(W6:mg "_law_thing"=some (.ref f2))(hb2:Binds K fd2 tX []):∀n,aA P w K mg base "_law_list" (2*n+8) (eB bC (Ik n) K)
 | 0=>yB M CP CA (xC M CP CN 0 (λm h=>Ur h (by omega)) F2 W6 hb2) F hm hb
 | n+1=>yB M CP CA (xC M CP CN (n+1) (λm h=>by cases h;exact CV M CP CN CA F hm hb F2 W6 hb2 n) F2 W6 hb2) F hm hb
def MQ:jv (Oe ⊕ Int):=λK xs ps T=>∃(ns Uz:Oe) (k c:Int),xs=bo ns k c/\ps=Fp 4 0 Uz/\lu ns Uz 4 (ka 4) k c/\T=λxs'=>nu K ax λys=>xs'=bo ns (UP ns Uz 4 true 0 (k,c)).2.1 (UP ns Uz 4 true 0 (k,c)).2.2/\ys=bA (UP ns Uz 4 true 0 (k,c)).1
theorem LP (M:cb K mg)(CP:aA P w K mg base "_law_pull" 2 (eB bC tY K))(CA:aA P w K mg base "_law_passes" 6 (aE (z8 5) K))(CT:aA P w K mg base "_law_thing" 15 (eB bC (Cs 4) K))(Df:Def K mg "_law_list" nh tX):aA P w K mg base "_law_list" 16 (eB bC MQ K):=by
 have nd:=sY.nd
 refine vQ (k:=15) Df sY (λf UE A outer s H E a xs qs T hr hS=>?_)
 obtain⟨ns,Uz,k,c,rfl,rfl,hp,rfl⟩:=hS
 refine ls_run (n:=4) M CP CA CT hr hp λe5 e6=>?_
 have g:=i7 ns Uz 4 true 0 (k,c) hp.c0
 exact ak (Ek 0 4 rfl rfl (aH (by rw[eI];exact QD g.l (by decide))) ⟨rfl,rfl⟩)
end
section
variable {x:Str}
def je (Uy:Of)(x c:Str):Str:=if x∈Uy then gw x++c else x
abbrev km:Str:="qwer"
def uh (Uy:Of)(x:Str):Str:=(gy km).foldl (je Uy) x
def cY (ns:Oe)(s:Int):Nat->Of
 | 0=>[]
 | i+1=>cY ns s i++[uh (cY ns s i) (UL (aK ns (s+2+(i:Int))))]
def Vi (ns:Oe)(s:Int):Int:=1+aK ns (s+1)%4
def cZ (m:Int):Int:=([14,12,8,6]:Oe).getD (m-1).toNat 0
def eW (i:Nat)(m:Int):Oe:=ups ((i:Int)+1) (m-((i:Int)+1)).toNat
def UM (ns:Oe)(m k:Int):Nat->List (List Th)×Int
 | 0=>([],k)
 | i+1=>((UM ns m k i).1++[(UP ns (eW i m) 4 true 0 ((UM ns m k i).2,cZ m)).1],(UP ns (eW i m) 4 true 0 ((UM ns m k i).2,cZ m)).2.1)
def W2 (ns:Oe)(k:Int)(j:Nat):Nat:=(aK ns (k+1)%(j:Int)).toNat
def nO (ns:Oe)(x:List (List Th)×Int)(j:Nat):List (List Th)×Int:=
 (x.1.set (W2 ns x.2 j) (cE (aK ns (x.2+2)%((x.1.getD (W2 ns x.2 j) []).length:Int)).toNat (.call (j:Int)) (x.1.getD (W2 ns x.2 j) [])),x.2+2)
def U5 (ns:Oe)(x:List (List Th)×Int):Nat->List (List Th)×Int
 | 0=>x
 | i+1=>nO ns (U5 ns x i) (i+1)
def Vu (ns:Oe)(s:Int):Of:=cY ns s (Vi ns s).toNat
def VL (ns:Oe)(s:Int):List (List Th):=(U5 ns (UM ns (Vi ns s) (s+1+Vi ns s) (Vi ns s).toNat) (Vi ns s-1).toNat).1
theorem vG (ns:Oe)(s:Int):1<=Vi ns s/\Vi ns s<=4:=by
 unfold Vi
 have:=OA (aK ns (s+1)) (show(4:Int)≠0 by decide)
 have:=Oz (aK ns (s+1)) (show(0:Int)<4 by decide)
 omega
theorem zT {m:Int}(h1:1<=m)(h4:m<=4):6<=cZ m/\cZ m<=14:=by
 have:∀j:Fin 4,6<=([14,12,8,6]:Oe).getD j.val 0/\([14,12,8,6]:Oe).getD j.val 0<=14:=by decide
 exact this ⟨(m-1).toNat,by omega⟩
theorem um (x:Str):(gw x).length<=7:=by
 unfold gw
 show(List.take 7 x.cps.toList).toArray.size<=7
 rw[ON,OY];omega
theorem A2 {c:Nat}(h:c∈(gw x).cps.toList):c∈x.cps.toList:=by
 unfold gw at h
 have:c∈List.take 7 x.cps.toList:=by simpa using h
 exact Qt this
theorem pP {c:Str}(h:c∈gy km):cG c/\c.length=1:=by
 have:∀c∈gy km,((1<=c.length/\c.length<=8)/\∀d∈c.cps.toList,97<=d/\d<=122)/\c.length=1:=by decide +kernel
 obtain⟨⟨⟨a,b⟩,d⟩,e⟩:=this c h
 exact⟨⟨a,b,d⟩,e⟩
theorem Ig {Uy:Of}{c:Str}(hx:cG x)(hc:cG c/\c.length=1):cG (je Uy x c):=by
 unfold je
 split
 ·refine⟨?_,?_,λd hd=>?_⟩
  ·rw[len_app,hc.2];omega
  ·rw[len_app,hc.2];have:=um x;omega
  ·rcases pX hd with z | z
   ·exact hx.az d (A2 z)
   ·exact hc.1.az d z
 ·exact hx
theorem mC {Uy:Of}:∀{cs:Of} {x:Str},cG x->(∀c∈cs,cG c/\c.length=1)->cG (cs.foldl (je Uy) x)
 | [],_,hx,_=>hx
 | c::cs,x,hx,h=>mC (cs:=cs) (x:=je Uy x c) (Ig hx (h c OM)) λd hd=>h d (OL _ hd)
theorem Hq {Uy:Of}(hx:cG x):cG (uh Uy x):=mC hx λc hc=>pP hc
theorem kU (ns:Oe)(s:Int):∀i,(cY ns s i).length=i
 | 0=>rfl
 | i+1=>by rw[cY,OI,kU ns s i];rfl
theorem zJ (ns:Oe)(s:Int):∀i,∀x∈cY ns s i,cG x
 | 0,x,h=>by cases h
 | i+1,x,h=>by
   rw[cY] at h
   rcases OS.mp h with z | z
   ·exact zJ ns s i x z
   ·rw[OF.mp z];exact Hq (iz _)
theorem kE (ns:Oe)(m k:Int):∀i,(UM ns m k i).1.length=i
 | 0=>rfl
 | i+1=>by rw[UM,OI,kE ns m k i];rfl
theorem NZ:ka 4=177776:=rfl
theorem Cu (ns:Oe)(m k:Int)(hb:0<=cZ m):∀i:Nat,k<=(UM ns m k i).2/\(UM ns m k i).2<=k+177776*(i:Int)
 | 0=>⟨OB _,by show k<=_;omega⟩
 | i+1=>by
   obtain⟨a,b⟩:=Cu ns m k hb i
   obtain⟨c,d⟩:=(i7 ns (eW i m) 4 true 0 ((UM ns m k i).2,cZ m) hb).k
   rw[NZ] at d
   dsimp only at c d
   rw[UM]
   dsimp only
   exact⟨by omega,by push_cast;omega⟩
theorem JN (ns Uz:Oe)(c k:Int)(hc:0<c):0<(UP ns Uz 4 true 0 (k,c)).1.length:=by
 rw[kJ]
 have hm:2<=eV ns true k:=by
  unfold eV
  have:=OA (aK ns (k+1)) (show(4:Int)≠0 by decide)
  simp;omega
 have key:∀(f:List Th×Pn->List Th×Pn) (x:List Th×Pn),(∀y,y.1.length<=(f y).1.length)->0<(f x).1.length->∀m,1<=m->0<(U2 f m x).1.length:=by
  intro f x h1 h2 m
  induction m with
  | zero=>intro h;omega
  | succ m ih=>
    intro _
    rw[U2]
    cases m with
    | zero=>exact h2
    | succ m=>exact QG (ih (by omega)) (h1 _)
 refine key _ _ (λy=>?_) ?_ _ (show 1<=eV ns true k by omega)
 ·unfold gN
  split
  ·split<;>simp
  ·exact QC _
 ·unfold gN
  rw[Ut ⟨hc,by simp[c6]⟩]
  split<;>simp
theorem yO (ns:Oe)(m k:Int)(hb:0<cZ m):∀i,∀L∈(UM ns m k i).1,0<L.length/\L.length<=5
 | 0,L,h=>by cases h
 | i+1,L,h=>by
   rw[UM] at h
   rcases OS.mp h with z | z
   ·exact yO ns m k hb i L z
   ·rw[OF.mp z]
    exact⟨JN ns _ _ _ hb,(i7 ns (eW i m) 4 true 0 ((UM ns m k i).2,cZ m) (Int.le_of_lt hb)).l⟩
theorem Ad {α:Type}(k:Nat)(y:α)(xs:List α):(cE k y xs).length=xs.length+1:=by
 unfold cE
 rw[OI,OP,OY,P1];omega
theorem mem_set {α:Type}{l:List α}{i:Nat}{x y:α}(h:y∈l.set i x):y∈l∨y=x:=List.mem_or_eq_of_mem_set h
theorem v9 (ns:Oe)(x:List (List Th)×Int)(hx:∀L∈x.1,0<L.length/\L.length<=5):∀i,(U5 ns x i).1.length=x.1.length/\(U5 ns x i).2=x.2+2*(i:Int)/\∀L∈(U5 ns x i).1,0<L.length/\L.length<=5+i
 | 0=>⟨rfl,by show x.2=_;omega,λL h=>⟨(hx L h).1,(hx L h).2⟩⟩
 | i+1=>by
   obtain⟨a,b,c⟩:=v9 ns x hx i
   rw[U5]
   refine⟨by unfold nO;dsimp only;rw[Pj];exact a,by unfold nO;dsimp only;rw[b];push_cast;omega,λL h=>?_⟩
   unfold nO at h
   dsimp only at h
   rcases mem_set h with z | z
   ·have:=c L z;omega
   ·rw[z,Ad]
    generalize hn:W2 ns (U5 ns x i).2 (i+1)=n
    refine⟨by omega,?_⟩
    rw[OG]
    cases e:(U5 ns x i).1[n]? with
    | none=>show 0+1<=_;omega
    | some L'=>
      have:=(c L' (OK e)).2
      show L'.length+1<=_
      omega
end
section
abbrev GY:Stmt:=top rO
abbrev nDR:Of:=["_law_script","_law_start","_law_pen","_law_many","_law_names","_law_k","_law_name_here","_law_letter","_law_lists","_law_items"]
theorem HK:ay nDR ["_law_script","_law_start"] (ag GY):=UY
def M9:bQ:=λK ps T=>∃(ns:Oe) (s:Int),ps=[⟨bB,ns⟩,⟨ah,s⟩]/\wu ns/\0<=s/\s<=1000/\T=bL K (cD (ae aj) (ae (ae ax))) (· =(Vu ns s,(VL ns s).map bA))
theorem JL {K:T2}{R:Hp}{vs:List V}{ns:Oe}{k c:Int}{ts:List Th}(h1:PySem.Paired (bC.R K R) vs (bo ns k c))(h2:PySem.Paired (ax.R K R) vs (bA ts)):False:=by
 cases h1 with
 | cons a1 t1=>cases t1 with
   | cons a2 t2=>
     have e2:_=V.int k:=a2
     subst e2
     cases ts with
     | nil=>rw[bA] at h2;cases h2
     | cons x ts=>rw[bA] at h2;cases h2 with
       | cons b1 u1=>cases ts with
         | nil=>rw[bA] at u1;cases u1
         | cons y ts=>rw[bA] at u1;cases u1 with
           | cons b2 u2=>
             have b2:eA R (.int k) (eY y):=b2
             rw[iR] at b2
             cases b2
theorem KJ (M:cb K mg)(CP:aA P w K mg base "_law_pull" 2 (eB bC tY K))(CN:aA P w K mg base "_law_name" 1 (aE Dc K))(CL:aA P w K mg base "_law_list" 16 (eB bC MQ K))(F:dH K "_law_drawn" "_law_drawn" GY f fd)(hm:mg "_law_drawn"=some (.ref f))(hb:Binds K fd ["_law_script","_law_start"] []):aA P w K mg base "_law_drawn" 17 (aE M9 K):=by
 have nd:=HK.nd
 have CP:=CP.mono (show 2<=16 by decide)
 have CN:=CN.mono (show 1<=16 by decide)
 refine fR (k:=16) F HK hm hb (λqs T ⟨_,_,e,_⟩=>by rw[e];rfl) (λUE A outer st H E qs T hr hS=>?_)
 obtain⟨ns,s,rfl,hs,s0,s1,rfl⟩:=hS
 obtain⟨m1,m4⟩:=vG ns s
 change WS _ _ [.im bB ns,ao s,.no,.no,.no,.no,.no,.no,.no,.no] _ _
 refine ai (bV 2 (r:=bC) (ys:=bo ns s 0) (aR (av (EV.inl (aa 0 rfl)) (av (EV.inr (aa 1 rfl)) (av (EV.inr ev_int) aT))) (by show 3<=Ra;decide)) ?_)
 change WS _ _ [.im bB ns,ao s,.mu bC (bo ns s 0),.no,.no,.no,.no,.no,.no,.no] _ _
 refine ai (aU 3 (y:=Vi ns s) (cg ev_int (cH (gB 2 (st:=bo ns (s+1) 0) (z:=aK ns (s+1)) CP hr aq rfl rfl ⟨ns,s,0,rfl,rfl,hs,s0,by omega,rfl⟩) ev_int (by decide))) ?_)
 generalize hM:Vi ns s=m at m1 m4
 change WS _ _ [.im bB ns,ao s,.mu bC (bo ns (s+1) 0),ao m,.no,.no,.no,.no,.no,.no] _ _
 refine ai (bV 4 (r:=aj) (ys:=[]) (aR aT (QE _)) ?_)
 refine bN (N1:=λΓ=>∃e5 e6 e7,Γ=[.im bB ns,ao s,.mu bC (bo ns (s+1+m) 0),ao m,.mu aj (Vu ns s),e5,e6,e7,.no,.no]) (bX (λi Γ=>∃e5 e6 e7,Γ=[.im bB ns,ao s,.mu bC (bo ns (s+1+(i:Int)) 0),ao m,.mu aj (cY ns s i),e5,e6,e7,.no,.no]) (dg M.range (aa 3 rfl) ⟨by omega,by omega⟩) (aO 5) ⟨_,_,_,by rw[show s+1+((0:Nat):Int)=s+1 from Int.add_zero _];rfl⟩ (λi j Γ hj hΓ=>?_) (λΓ hΓ=>?_)) ?_
 ·obtain⟨e5,e6,e7,rfl⟩:=hΓ
  obtain⟨jl,ej⟩:=ef hj
  obtain rfl:j=(i:Int):=by omega
  have b:=qh ns (s+1+(i:Int)+1)
  change WS _ _ [.im bB ns,ao s,.mu bC (bo ns (s+1+(i:Int)) 0),ao m,.mu aj (cY ns s i),ao (i:Int),e6,e7,.no,.no] _ _
  refine ai (aU 6 (y:=UL (aK ns (s+1+(i:Int)+1))) (aB CN hr (af (gB 2 (st:=bo ns (s+1+(i:Int)+1) 0) (z:=aK ns (s+1+(i:Int)+1)) CP hr aq rfl rfl ⟨ns,_,0,rfl,rfl,hs,by omega,by omega,rfl⟩) aq) ⟨_,rfl,b.1,b.2,rfl⟩) ?_)
  have hx:=iz (aK ns (s+1+(i:Int)+1))
  have he:s+1+(i:Int)+1=s+2+(i:Int):=by omega
  have XI:cY ns s (i+1)=cY ns s i++[uh (cY ns s i) (UL (aK ns (s+1+(i:Int)+1)))]:=by rw[cY,he]
  generalize UL (aK ns (s+1+(i:Int)+1))=x at hx XI
  have hlen:=kU ns s i
  change WS _ _ [.im bB ns,ao s,.mu bC (bo ns (s+1+(i:Int)+1) 0),ao m,.mu aj (cY ns s i),ao (i:Int),.im aj x,e7,.no,.no] _ _
  have Zi:∀n,cG (((gy km).take n).foldl (je (cY ns s i)) x):=λn=>mC hx λc hc=>pP (Qt hc)
  refine bN (N1:=λΓ=>∃e7,Γ=[.im bB ns,ao s,.mu bC (bo ns (s+1+(i:Int)+1) 0),ao m,.mu aj (cY ns s i),ao (i:Int),.im aj (uh (cY ns s i) x),e7,.no,.no]) (bX (λn Γ=>∃e7,Γ=[.im bB ns,ao s,.mu bC (bo ns (s+1+(i:Int)+1) 0),ao m,.mu aj (cY ns s i),ao (i:Int),.im aj (((gy km).take n).foldl (je (cY ns s i)) x),e7,.no,.no]) (yr (x:=km) aG (by decide +kernel) (by decide +kernel)) (aO 7) ⟨_,rfl⟩ (λn c Γ hc hΓ=>?_) (λΓ hΓ=>?_)) ?_
  ·obtain⟨e7,rfl⟩:=hΓ
   have hf:=Zi n
   have Vz:((gy km).take (n+1)).foldl (je (cY ns s i)) x=je (cY ns s i) (((gy km).take n).foldl (je (cY ns s i)) x) c:=by
    rw[Pg,hc,P4];rfl
   rw[Vz]
   generalize ((gy km).take n).foldl (je (cY ns s i)) x=z at hf
   have cl:=(pP (OK hc)).2
   change WS _ _ [.im bB ns,ao s,.mu bC (bo ns (s+1+(i:Int)+1) 0),ao m,.mu aj (cY ns s i),ao (i:Int),.im aj z,.im aj c,.no,.no] _ _
   refine ak (ba (TV.VJ (oa (i:=4) rfl (aH (by rw[hlen];omega))) (aD uZ (aa 6 rfl) (aa 4 rfl))) (λh=>?_) (λh=>aL ⟨.im aj c,?_⟩))
   ·have h:z∈cY ns s i:=Uu h
    refine ak (aU 6 (y:=je (cY ns s i) z c) (EV.cast (pY (Gv (aa 6 rfl) hf.l8) (aa 7 rfl) (QD (show _<=8 by have:=um z;omega) (by decide))) (by unfold je;rw[Ut h])) ⟨.im aj c,rfl⟩)
   ·have h:¬z∈cY ns s i:=Uv h
    unfold je;rw[Us h]
  ·obtain⟨e7,rfl⟩:=hΓ
   refine⟨e7,?_⟩
   rw[Pl];rfl
  rintro _ ⟨e7,rfl⟩
  refine ak (dR 4 (aa 6 rfl) rfl rfl (QF (show _<=10 by rw[hlen];omega) (by decide)) ⟨ao (i:Int),.im aj (uh (cY ns s i) x),e7,?_⟩)
  rw[XI,show s+1+((i+1:Nat):Int)=s+1+(i:Int)+1 by push_cast;omega]
  rfl
 ·obtain⟨e5,e6,e7,rfl⟩:=hΓ
  rw[a9]
  refine⟨e5,e6,e7,?_⟩
  unfold Vu
  rw[hM,show((m.toNat:Nat):Int)=m by omega]
 rintro _ ⟨e5,e6,e7,rfl⟩
 have hdN:(Vu ns s).length<=4:=by unfold Vu;rw[kU,hM];omega
 generalize hdn:Vu ns s=dn at hdN
 obtain⟨b6,b14⟩:=zT m1 m4
 refine ai (bV 8 (r:=ax) (ys:=[]) (aR aT (QE _)) ?_)
 refine WS.LH 8 (r:=ax) (rr:=ax) rfl λa=>?_
 change WS _ _ [.im bB ns,ao s,.mu bC (bo ns (s+1+m) 0),ao m,.mu aj dn,e5,e6,e7,.ob (dJ ax a [] []),.no] _ _
 have kb:=Cu ns m (s+1+m) (by omega)
 refine bN (N1:=λΓ=>∃e5 c as,Γ=[.im bB ns,ao s,.mu bC (bo ns (UM ns m (s+1+m) m.toNat).2 c),ao m,.mu aj dn,e5,e6,e7,.ob (dJ ax a as ((UM ns m (s+1+m) m.toNat).1.map bA)),.no]) (bX (λi Γ=>∃e5 c as,Γ=[.im bB ns,ao s,.mu bC (bo ns (UM ns m (s+1+m) i).2 c),ao m,.mu aj dn,e5,e6,e7,.ob (dJ ax a as ((UM ns m (s+1+m) i).1.map bA)),.no]) (dg M.range (aa 3 rfl) ⟨by omega,by omega⟩) (aO 5) ⟨_,_,_,rfl⟩ (λi j Γ hj hΓ=>?_) (λΓ hΓ=>?_)) ?_
 ·obtain⟨e5,c,as,rfl⟩:=hΓ
  obtain⟨jl,ej⟩:=ef hj
  obtain rfl:j=(i:Int):=by omega
  obtain⟨k0,k1⟩:=kb i
  have hl:=kE ns m (s+1+m) i
  have VC:UM ns m (s+1+m) (i+1)=((UM ns m (s+1+m) i).1++[(UP ns (eW i m) 4 true 0 ((UM ns m (s+1+m) i).2,cZ m)).1],(UP ns (eW i m) 4 true 0 ((UM ns m (s+1+m) i).2,cZ m)).2.1):=rfl
  generalize UM ns m (s+1+m) i=x at k0 k1 hl VC
  rw[VC]
  obtain⟨Ls,k⟩:=x
  dsimp only at k0 k1 hl ⊢
  change WS _ _ [.im bB ns,ao s,.mu bC (bo ns k c),ao m,.mu aj dn,ao (i:Int),e6,e7,.ob (dJ ax a as (Ls.map bA)),.no] _ _
  have hbud:bU ([14,12,8,6]:Oe) (m-1)=some (cZ m):=aV 0 (by omega) (by show m-1<((4:Nat):Int);omega)
  refine ai (vH 2 (j:=2) (EV.inr (aY (aW.im (aR (r:=ah) (av ev_int (av ev_int (av ev_int (av ev_int aT)))) (by show 4<=Ra;decide))) (gc (aa 3 rfl) ev_int) hbud)) ev_int rfl rfl rfl ?_)
  change WS _ _ [.im bB ns,ao s,.mu bC (bo ns k (cZ m)),ao m,.mu aj dn,ao (i:Int),e6,e7,.ob (dJ ax a as (Ls.map bA)),.no] _ _
  have Wo:(eW i m).length<=100:=by unfold eW;rw[a9];omega
  refine ak (xB 8 (ys:=bA (UP ns (eW i m) 4 true 0 (k,cZ m)).1) (yc 2 (st:=bo ns (UP ns (eW i m) 4 true 0 (k,cZ m)).2.1 (UP ns (eW i m) 4 true 0 (k,cZ m)).2.2) CL hr (af ev_int (af ev_int (af (aW.im (qv M.list M.range (af (cg (aa 5 rfl) ev_int) (af (aa 3 rfl) aq)) ⟨by omega,by omega⟩ ⟨by omega,by omega⟩)) aq))) rfl rfl ⟨ns,eW i m,k,cZ m,rfl,rfl,⟨hs,by omega,show k+((177776:Nat):Int)<=900000 by omega,by omega,by omega,Wo,by decide⟩,rfl⟩ (λR vs h1 h2=>JL h1 h2)) rfl rfl (QF (show _<=10 by rw[OH,hl];omega) (by decide)) λb=>⟨ao (i:Int),(UP ns (eW i m) 4 true 0 (k,cZ m)).2.2,as++[b],?_⟩)
  rw[O3]
  rfl
 ·obtain⟨e5,c,as,rfl⟩:=hΓ
  rw[a9]
  exact⟨e5,c,as,rfl⟩
 rintro _ ⟨e5,c,as,rfl⟩
 have UJ:=yO ns m (s+1+m) (by omega) m.toNat
 have hxl:=kE ns m (s+1+m) m.toNat
 obtain⟨k0,k1⟩:=kb m.toNat
 have XM:VL ns s=(U5 ns (UM ns m (s+1+m) m.toNat) (m-1).toNat).1:=by unfold VL;rw[hM]
 generalize UM ns m (s+1+m) m.toNat=x at UJ hxl k0 k1 XM
 have hinv:=v9 ns x UJ
 refine bN (N1:=λΓ=>∃e5 e9 k as,Γ=[.im bB ns,ao s,.mu bC (bo ns k c),ao m,.mu aj dn,e5,e6,e7,.ob (dJ ax a as ((VL ns s).map bA)),e9]) (bX (λi Γ=>∃e5 e9 as,Γ=[.im bB ns,ao s,.mu bC (bo ns (U5 ns x i).2 c),ao m,.mu aj dn,e5,e6,e7,.ob (dJ ax a as ((U5 ns x i).1.map bA)),e9]) (qT M.range ev_int (aa 3 rfl) ⟨by omega,by omega,by omega,by omega⟩) (aO 5) ⟨_,_,_,rfl⟩ (λi j Γ hj hΓ=>?_) (λΓ hΓ=>?_)) ?_
 ·obtain⟨e5,e9,as,rfl⟩:=hΓ
  obtain⟨jl,ej⟩:=ef hj
  obtain rfl:j=((i+1:Nat):Int):=by push_cast;omega
  obtain⟨i1,i2,i3⟩:=hinv i
  have VC:U5 ns x (i+1)=nO ns (U5 ns x i) (i+1):=rfl
  rw[VC]
  generalize U5 ns x i=y at i1 i2 i3
  obtain⟨Ls,k⟩:=y
  dsimp only at i1 i2 i3
  unfold nO
  dsimp only
  change WS _ _ [.im bB ns,ao s,.mu bC (bo ns k c),ao m,.mu aj dn,ao ((i+1:Nat):Int),e6,e7,.ob (dJ ax a as (Ls.map bA)),e9] _ _
  have q0:=OA (aK ns (k+1)) (show((i+1:Nat):Int)≠0 by omega)
  have q1:=Oz (aK ns (k+1)) (show(0:Int)<((i+1:Nat):Int) by omega)
  have Vn:W2 ns k (i+1)<Ls.length:=by unfold W2;omega
  have Yx:fb (Ls.map bA).length (aK ns (k+1)%((i+1:Nat):Int))=some (W2 ns k (i+1)):=tQ q0 (by rw[OH];omega)
  refine ai (Eb 8 9 (cH (gB 2 (st:=bo ns (k+1) c) (z:=aK ns (k+1)) CP hr aq rfl rfl ⟨ns,k,c,rfl,rfl,hs,by omega,by omega,rfl⟩) (aa 5 rfl) (by omega)) rfl rfl Yx λb hb=>?_)
  generalize W2 ns k (i+1)=n at Vn hb
  change WS _ _ [.im bB ns,ao s,.mu bC (bo ns (k+1) c),ao m,.mu aj dn,ao ((i+1:Nat):Int),e6,e7,.ob (dJ ax a as (Ls.map bA)),.im qy b] _ _
  have hL:Ls[n]?=some (Ls.getD n []):=by rw[OG,OE Vn];rfl
  obtain⟨l0,l5⟩:=i3 _ (OK hL)
  generalize Ls.getD n []=L at hL l0 l5
  have hLm:(Ls.map bA)[n]?=some (bA L):=by rw[OJ,hL];rfl
  have W7:((bA L).length:Int)=(L.length:Int):=by rw[eI]
  have r0:=OA (aK ns (k+2)) (show(L.length:Int)≠0 by omega)
  have r1:=Oz (aK ns (k+2)) (show(0:Int)<(L.length:Int) by omega)
  have e3:k+1+1=k+2:=by omega
  refine ak (DT 8 9 (k:=aK ns (k+2)%(L.length:Int)) (y:=eY (.call ((i+1:Nat):Int))) (cH (gB 2 (st:=bo ns (k+2) c) (z:=aK ns (k+2)) CP hr aq rfl rfl ⟨ns,k+1,c,rfl,rfl,hs,by omega,by omega,by rw[e3]⟩) (EV.cast (AO 8 9 M.len rfl rfl hb hLm) W7) (by omega)) (EV.cast (y:=.lst (iU (.call ((i+1:Nat):Int)))) (EV.pL (aW.im (aR (r:=ax) (av (EV.pS aG) (av (EV.pI (aa 5 rfl)) aT)) (by show 2<=Ra;decide)))) (iR _).symm) rfl rfl hb rfl hLm r0 (by rw[eI];omega) (QF (show _<=20 by rw[eI];omega) (by decide)) ⟨ao ((i+1:Nat):Int),.im qy b,as,?_⟩)
  rw[List.map_set,fm (cE _ _ _),yE,← fm]
  rfl
 ·obtain⟨e5,e9,as,rfl⟩:=hΓ
  rw[a9]
  exact⟨e5,e9,_,as,by rw[XM]⟩
 rintro _ ⟨e5,e9,k,as,rfl⟩
 obtain⟨i1,i2,i3⟩:=hinv (m-1).toNat
 rw[← XM] at i1 i3
 refine WS.freeze 4 rfl (aH (by omega)) ?_
 refine WS.LR 8 rfl (aH (by rw[OH];omega)) (λxs hxs=>?_) ?_
 ·obtain⟨L,hL,rfl⟩:=OO.mp hxs
  exact aH (by rw[eI];have:=(i3 L hL).2;omega)
 exact ak (aN (gI (af (aa 4 rfl) (af (aa 8 rfl) aq))) rfl)
end
mutual
def cJ (lo m:Int):Bool->Th->Prop
 | _,.Vl x=>cG x
 | _,.call j=>lo<j/\j<m
 | lp,.ifs x a b=>cG x/\bR lo m lp a/\bR lo m lp b
 | _,.UU x a=>cG x/\bR lo m true a
 | lp,.leave=>lp=true
 | _,.back=>True
def bR (lo m:Int):Bool->List Th->Prop
 | _,[]=>True
 | lp,t::ts=>cJ lo m lp t/\(d8 t=true∨ts=[])/\bR lo m lp ts
end
section
variable {lo m:Int}{lp:Bool}
theorem jV {t:Th}:∀{a:List Th},bR lo m lp a->c6 a=true->cJ lo m lp t->bR lo m lp (a++[t])
 | [],_,_,ht=>by rw[Qz,bR];exact⟨ht,.inr rfl,by rw[bR];trivial⟩
 | x::a,h,hp,ht=>by
   rw[bR] at h
   rw[c6,Oq] at hp
   rw[Qk,bR]
   exact⟨h.1,.inl hp.1,jV h.2.2 hp.2 ht⟩
theorem vO {t:Th}(ht:cJ lo m lp t)(hp:d8 t=true):∀{k:Nat} {L:List Th},bR lo m lp L->k<L.length->bR lo m lp (cE k t L)
 | 0,L,h,_=>by show bR lo m lp (t::L);rw[bR];exact⟨ht,.inl hp,h⟩
 | k+1,[],_,hk=>by cases hk
 | k+1,x::L,h,hk=>by
   rw[bR] at h
   have hk:k<L.length:=by simpa using hk
   have hx:d8 x=true:=h.2.1.resolve_right λe=>by rw[e] at hk;cases hk
   show bR lo m lp (x::cE k t L)
   rw[bR]
   exact⟨h.1,.inl hx,vO ht hp h.2.2 hk⟩
theorem wI {ns Uz:Oe}{sub:Option (Int->Pn->List Th×Pn)}(hc:∀j∈Uz,lo<j/\j<m)(Va:∀L,sub=some L->∀lp s,0<=lp->bR lo m (decide (0<lp)) (L lp s).1)(UA:Int)(s:Pn)(hl:0<=UA):cJ lo m (decide (0<UA)) (U3 ns Uz sub UA s).1:=by
 unfold U3
 split
 ·rename_i h
  simp only[cJ]
  exact Uw h.2
 split
 ·simp only[cJ]
 split
 ·rename_i h
  simp only[cJ]
  have hl:(0:Int)<(Uz.length:Int):=by have:=h.2;omega
  have q0:=OA (aK ns (s.1+3)) (show(Uz.length:Int)≠0 by omega)
  have q1:=Oz (aK ns (s.1+3)) hl
  have hi:(aK ns (s.1+3)%(Uz.length:Int)).toNat<Uz.length:=by omega
  rw[OG,OE hi]
  exact hc _ (O0 hi)
 cases sub with
 | none=>simp only[cJ];exact iz _
 | some L=>
   dsimp only
   split
   ·simp only[cJ]
    exact⟨iz _,Va L rfl _ _ hl,Va L rfl _ _ hl⟩
   split
   ·simp only[cJ]
    have:=Va L rfl (UA+1) (s.1+2,s.2-2) (by omega)
    rw[Uw (show 0<UA+1 by omega)] at this
    exact⟨iz _,this⟩
   ·simp only[cJ];exact iz _
theorem vo:cG "back":=⟨by decide +kernel,by decide +kernel,by decide +kernel⟩
theorem p8 {α:Type}{f:α->α}{P:α->Prop}(h:∀x,P x->P (f x)):∀n x,P x->P (U2 f n x)
 | 0,_,hx=>hx
 | n+1,x,hx=>h _ (p8 h n x hx)
theorem E9 {ns Uz:Oe}(hc:∀j∈Uz,lo<j/\j<m):∀(n:Nat) (tp:Bool) (lp:Int) (s:Pn),0<=lp->bR lo m (decide (0<lp)) (UP ns Uz n tp lp s).1:=by
 intro n
 induction n with
 | zero=>
   intro tp lp s hl
   rw[kJ]
   refine p8 (P:=λ(x:List Th×Pn)=>bR lo m (decide (0<lp)) x.1) (λx hx=>?_) _ _ (by simp only[bR])
   unfold gN
   split
   ·rename_i h
    split
    ·exact jV hx h.2 (by simp only[cJ];exact vo)
    ·exact jV hx h.2 (wI hc (λL e=>by cases e) lp x.2 hl)
   ·exact hx
 | succ n ih=>
   intro tp lp s hl
   rw[kJ]
   refine p8 (P:=λ(x:List Th×Pn)=>bR lo m (decide (0<lp)) x.1) (λx hx=>?_) _ _ (by simp only[bR])
   unfold gN
   split
   ·rename_i h
    split
    ·exact jV hx h.2 (by simp only[cJ];exact vo)
    ·exact jV hx h.2 (wI hc (λL e lp' s' Wa=>by cases e;exact ih false lp' s' Wa) lp x.2 hl)
   ·exact hx
end
section
variable {L:List Th}
def g9 (L:List Th):Prop:=∃t ts,L=t::ts/\nP t=false
theorem Ez (h:g9 L)(t:Th):g9 (L++[t]):=by
 obtain⟨x,ts,rfl,h⟩:=h
 exact⟨x,ts++[t],rfl,h⟩
theorem Im (ns Uz:Oe)(c k:Int)(hc:0<c):g9 (UP ns Uz 4 true 0 (k,c)).1:=by
 rw[kJ]
 have hm:2<=eV ns true k:=by
  unfold eV
  have:=OA (aK ns (k+1)) (show(4:Int)≠0 by decide)
  simp;omega
 have key:∀(f:List Th×Pn->List Th×Pn) (x:List Th×Pn),(∀y,g9 y.1->g9 (f y).1)->g9 (f x).1->∀m,1<=m->g9 (U2 f m x).1:=by
  intro f x h1 h2 m
  induction m with
  | zero=>intro h;omega
  | succ m ih=>
    intro _
    rw[U2]
    cases m with
    | zero=>exact h2
    | succ m=>exact h1 _ (ih (by omega))
 refine key _ _ (λy hy=>?_) ?_ _ (show 1<=eV ns true k by omega)
 ·unfold gN
  split
  ·split<;>exact Ez hy _
  ·exact hy
 ·unfold gN
  rw[Ut ⟨hc,by simp[c6]⟩]
  split
  ·exact⟨_,[],rfl,rfl⟩
  ·rename_i h
   refine⟨_,[],rfl,?_⟩
   cases e:nP (U3 ns Uz (dB ns Uz 4) 0 ([],k+1,c).2).1 with
   | false=>rfl
   | true=>exact Ur ⟨rfl,rfl,e⟩ h
def j8 (x:Str):Option Nat:=x.cps.toList.getLast?
theorem kZ (x:Str)(c:Nat):j8 (x++⟨#[c]⟩)=some c:=by
 unfold j8
 have e:(x++(⟨#[c]⟩:Str)).cps.toList=x.cps.toList++[c]:=by show(x.cps++ #[c]).toList=_;simp
 rw[e];simp
theorem AG:gy km=[⟨#[113]⟩,⟨#[119]⟩,⟨#[101]⟩,⟨#[114]⟩]:=by decide +kernel
theorem DH {Uy:Of}(hl:Uy.length<=3)(x:Str):uh Uy x∉Uy:=by
 unfold uh
 rw[AG]
 simp only[List.foldl]
 have Vd:∀{y:Str},y∉Uy->∀c,je Uy y c=y:=λh c=>Us h
 have go:∀{y:Str},y∈Uy->∀c,je Uy y c=gw y++c:=λh c=>Ut h
 by_cases h0:x∈Uy
 rotate_left
 ·rw[Vd h0,Vd h0,Vd h0,Vd h0];exact h0
 rw[go h0]
 generalize hx1:gw x++(⟨#[113]⟩:Str)=x1
 have l1:j8 x1=some 113:=by rw[← hx1];exact kZ _ _
 by_cases h1:x1∈Uy
 rotate_left
 ·rw[Vd h1,Vd h1,Vd h1];exact h1
 rw[go h1]
 generalize W5:gw x1++(⟨#[119]⟩:Str)=x2
 have l2:j8 x2=some 119:=by rw[← W5];exact kZ _ _
 by_cases h2:x2∈Uy
 rotate_left
 ·rw[Vd h2,Vd h2];exact h2
 rw[go h2]
 generalize hx3:gw x2++(⟨#[101]⟩:Str)=x3
 have l3:j8 x3=some 101:=by rw[← hx3];exact kZ _ _
 by_cases h3:x3∈Uy
 rotate_left
 ·rw[Vd h3];exact h3
 rw[go h3]
 generalize hx4:gw x3++(⟨#[114]⟩:Str)=x4
 have l4:j8 x4=some 114:=by rw[← hx4];exact kZ _ _
 intro h4
 obtain⟨n1,b1,e1⟩:=P7 h1
 obtain⟨n2,b2,e2⟩:=P7 h2
 obtain⟨n3,b3,e3⟩:=P7 h3
 obtain⟨n4,b4,e4⟩:=P7 h4
 have ne:∀{i j:Nat} {hi:i<Uy.length} {hj:j<Uy.length} {y z:Str} {c d:Nat},Uy[i]=y->Uy[j]=z->j8 y=some c->j8 z=some d->c≠d->i≠j:=by
  intro i j hi hj y z c d e e' l l' UI z
  subst z
  rw[← e] at l
  rw[← e',l] at l'
  exact UI (Option.some.inj l')
 have:=ne e1 e2 l1 l2 (by decide)
 have:=ne e1 e3 l1 l3 (by decide)
 have:=ne e1 e4 l1 l4 (by decide)
 have:=ne e2 e3 l2 l3 (by decide)
 have:=ne e2 e4 l2 l4 (by decide)
 have:=ne e3 e4 l3 l4 (by decide)
 omega
theorem zE (ns:Oe)(s:Int):∀i,i<=4->(cY ns s i).Nodup
 | 0,_=>Ql
 | i+1,h=>by
   rw[cY]
   exact fP (zE ns s i (by omega)) (DH (by rw[kU];omega) _)
theorem FU (i:Nat)(m:Int):∀j∈eW i m,(i:Int)<j/\j<m:=by
 intro j hj
 unfold eW at hj
 obtain⟨n,hn⟩:=OR.mp hj
 obtain⟨a,b⟩:=ef hn
 omega
structure LsOk (m:Int) (b:Nat) (Ls:List (List Th)):Prop where
 ok:∀(p:Nat) (L:List Th),Ls[p]?=some L->bR (p:Int) m false L
 dp:∀L∈Ls,eM L<=4
 hd:∀L∈Ls,g9 L
 rw:∀L∈Ls,cM L<=b
theorem Ag (ns:Oe)(m k:Int)(hb:0<cZ m):∀i,LsOk m (cZ m).toNat (UM ns m k i).1/\((UM ns m k i).1.map cM).sum<=i*(cZ m).toNat
 | 0=>⟨⟨(λp L h=>by simp[UM] at h),(λL h=>by simp[UM] at h),(λL h=>by simp[UM] at h),(λL h=>by simp[UM] at h)⟩,QE _⟩
 | i+1=>by
   obtain⟨h,hs⟩:=Ag ns m k hb i
   have hl:=kE ns m k i
   have g:=i7 ns (eW i m) 4 true 0 ((UM ns m k i).2,cZ m) (Int.le_of_lt hb)
   have go:=E9 (lo:=(i:Int)) (m:=m) (ns:=ns) (FU i m) 4 true 0 ((UM ns m k i).2,cZ m) (OB 0)
   have gh:=Im ns (eW i m) (cZ m) (UM ns m k i).2 hb
   have gr:cM (UP ns (eW i m) 4 true 0 ((UM ns m k i).2,cZ m)).1<=(cZ m).toNat:=by
    have:=g.c
    dsimp only at this
    omega
   rw[UM]
   dsimp only
   generalize UP ns (eW i m) 4 true 0 ((UM ns m k i).2,cZ m)=r at g go gh gr
   generalize UM ns m k i=x at h hs hl
   have mem:∀{L},L∈x.1++[r.1]->L∈x.1∨L=r.1:=λh=>(OS.mp h).imp id OF.mp
   refine⟨⟨λp L hp=>?_,λL hL=>?_,λL hL=>?_,λL hL=>?_⟩,?_⟩
   ·rcases QJ p x.1.length with z | z
    ·rw[O6 z] at hp
     exact h.ok p L hp
    ·rw[O7 z] at hp
     have hz:p-x.1.length=0:=by
      have:=(OD.mp hp).1
      simp at this;omega
     rw[hz] at hp
     have e:r.1=L:=by simpa using hp
     have ep:p=i:=by omega
     rw[← e,ep]
     exact go
   ·rcases mem hL with z | rfl
    ·exact h.dp L z
    ·exact g.dp
   ·rcases mem hL with z | rfl
    ·exact h.hd L z
    ·exact gh
   ·rcases mem hL with z | rfl
    ·exact h.rw L z
    ·exact gr
   ·rw[O3,List.sum_append,Nat.add_mul]
    simp
    omega
theorem jZ {α:Type}(k:Nat)(y:α)(xs:List α):cE k y xs=xs.take k++y::xs.drop k:=rfl
theorem xY (k:Nat)(j:Int)(L:List Th):cM (cE k (.call j) L)=cM L+1:=by
 rw[jZ,jo,cM,dw]
 have:=jo (L.take k) (L.drop k)
 rw[Po] at this
 omega
theorem JJ (k:Nat)(j:Int)(L:List Th):eM (cE k (.call j) L)=eM L:=by
 rw[jZ,kG,eM,show hX (.call j)=0 by simp[hX]]
 have:=kG (L.take k) (L.drop k)
 rw[Po] at this
 omega
theorem Ex {k:Nat}{y x:Th}(h:x∈L):x∈cE k y L:=by
 rw[jZ]
 rw[← Po k L] at h
 rcases OS.mp h with z | z
 ·exact OU _ z
 ·exact OQ _ (OL _ z)
theorem Bv {k:Nat}{y:Th}:y∈cE k y L:=by
 rw[jZ];exact OQ _ OM
theorem I0 {k:Nat}{j:Int}(h:g9 L):g9 (cE k (.call j) L):=by
 obtain⟨t,ts,rfl,h⟩:=h
 cases k with
 | zero=>exact⟨_,_,rfl,rfl⟩
 | succ k=>exact⟨t,cE k (.call j) ts,rfl,h⟩
theorem sum_set:∀{l:List Nat} {n a b:Nat},l[n]?=some a->(l.set n b).sum+a=l.sum+b
 | x::l,0,a,b,h=>by
   have e:x=a:=by simpa using h
   rw[List.set_cons_zero,Qj,Qj,e];omega
 | x::l,n+1,a,b,h=>by
   have:=sum_set (l:=l) (n:=n) (a:=a) (b:=b) (by simpa using h)
   rw[List.set_cons_succ,Qj,Qj];omega
theorem yJ (ns:Oe)(x:List (List Th)×Int)(m:Int)(b:Nat)(hx:LsOk m b x.1)(hl:(x.1.length:Int)=m):∀i:Nat,(i:Int)<m->LsOk m (b+i) (U5 ns x i).1/\(U5 ns x i).1.length=x.1.length/\((U5 ns x i).1.map cM).sum=(x.1.map cM).sum+i/\∀j:Nat,1<=j->j<=i->∃L∈(U5 ns x i).1,Th.call (j:Int)∈L
 | 0,_=>⟨hx,rfl,rfl,λj h1 h2=>by omega⟩
 | i+1,hi=>by
   obtain⟨h,W7,hs,hc⟩:=yJ ns x m b hx hl i (by omega)
   rw[U5]
   generalize U5 ns x i=y at h W7 hs hc
   unfold nO
   have q0:=OA (aK ns (y.2+1)) (show((i+1:Nat):Int)≠0 by omega)
   have q1:=Oz (aK ns (y.2+1)) (show(0:Int)<((i+1:Nat):Int) by omega)
   have Vn:W2 ns y.2 (i+1)<=i:=by unfold W2;omega
   generalize W2 ns y.2 (i+1)=n at Vn
   have hn:n<y.1.length:=by omega
   have hL:y.1[n]?=some (y.1.getD n []):=by rw[OG,OE hn];rfl
   generalize y.1.getD n []=L at hL
   have mL:=OK hL
   have l0:0<L.length:=by obtain⟨t,ts,rfl,_⟩:=h.hd L mL;simp
   have r0:=OA (aK ns (y.2+2)) (show(L.length:Int)≠0 by omega)
   have r1:=Oz (aK ns (y.2+2)) (show(0:Int)<(L.length:Int) by omega)
   have hk:(aK ns (y.2+2)%(L.length:Int)).toNat<L.length:=by omega
   dsimp only
   generalize (aK ns (y.2+2)%(L.length:Int)).toNat=k at hk
   refine⟨⟨λp L' hp=>?_,λL' Xq=>?_,λL' Xq=>?_,λL' Xq=>?_⟩,by rw[Pj];exact W7,?_,λj h1 h2=>?_⟩
   ·by_cases e:p=n
    ·subst e
     rw[OW hn] at hp
     cases hp
     exact vO (by simp only[cJ];omega) (by simp only[d8]) (h.ok p L hL) hk
    ·rw[Pb (QW e)] at hp
     exact h.ok p L' hp
   ·rcases mem_set Xq with z | rfl
    ·exact h.dp L' z
    ·rw[JJ];exact h.dp L mL
   ·rcases mem_set Xq with z | rfl
    ·exact h.hd L' z
    ·exact I0 (h.hd L mL)
   ·rcases mem_set Xq with z | rfl
    ·have:=h.rw L' z;omega
    ·rw[xY];have:=h.rw L mL;omega
   ·rw[List.map_set]
    have:=sum_set (l:=y.1.map cM) (n:=n) (a:=cM L) (b:=cM (cE k (.call ((i+1:Nat):Int)) L)) (by rw[OJ,hL];rfl)
    rw[xY] at this ⊢
    omega
   ·have sets:∀{L':List Th},L'∈y.1->∃L2∈y.1.set n (cE k (.call ((i+1:Nat):Int)) L),∀t∈L',t∈L2:=λ{L'} Xq=>by
     obtain⟨q,hq⟩:=OR.mp Xq
     by_cases e:q=n
     ·subst e
      rw[hL] at hq;cases hq
      exact⟨_,OK (OW hn),λt ht=>Ex ht⟩
     ·exact⟨L',OK ((Pb (QW e)).trans hq),λt ht=>ht⟩
    by_cases e:j=i+1
    ·subst e
     exact⟨_,OK (OW hn),Bv⟩
    ·obtain⟨L',Xq,hj⟩:=hc j h1 (by omega)
     obtain⟨L2,m2,s2⟩:=sets Xq
     exact⟨L2,m2,s2 _ hj⟩
structure cy (xs:Of) (Ls:List (List Th)):Prop where
 l:xs.length=Ls.length
 l1:1<=Ls.length
 l4:Ls.length<=4
 nm:∀x∈xs,cG x
 nd:xs.Nodup
 ok:∀(p:Nat) (L:List Th),Ls[p]?=some L->bR (p:Int) (Ls.length:Int) false L
 dp:∀L∈Ls,eM L<=4
 hd:∀L∈Ls,g9 L
 rw:∀L∈Ls,cM L<=14
 tot:(Ls.map cM).sum<=30
 cl:∀j:Nat,1<=j->j<Ls.length->∃L∈Ls,Th.call (j:Int)∈L
theorem E8 (ns:Oe)(s:Int):cy (Vu ns s) (VL ns s):=by
 obtain⟨m1,m4⟩:=vG ns s
 unfold Vu VL
 generalize Vi ns s=m at m1 m4
 obtain⟨b6,b14⟩:=zT m1 m4
 obtain⟨h,hs⟩:=Ag ns m (s+1+m) (by omega) m.toNat
 have hl:=kE ns m (s+1+m) m.toNat
 generalize UM ns m (s+1+m) m.toNat=x at h hs hl
 obtain⟨o,oll,os,oc⟩:=yJ ns x m _ h (by omega) (m-1).toNat (by omega)
 have bm:(cZ m).toNat+(m-1).toNat<=14/\m.toNat*(cZ m).toNat+(m-1).toNat<=30:=by
  have:∀j:Fin 4,(cZ ((j.val:Int)+1)).toNat+j.val<=14/\(j.val+1)*(cZ ((j.val:Int)+1)).toNat+j.val<=30:=by decide +kernel
  have:=this ⟨(m-1).toNat,by omega⟩
  dsimp only at this
  rw[show(((m-1).toNat:Nat):Int)+1=m by omega,show(m-1).toNat+1=m.toNat by omega] at this
  exact this
 generalize U5 ns x (m-1).toNat=y at o oll os oc
 have em:((y.1.length:Nat):Int)=m:=by omega
 exact⟨by rw[kU];omega,by omega,by omega,zJ ns s _,zE ns s _ (by omega),by rw[em];exact o.ok,o.dp,o.hd,λL hL=>QD (o.rw L hL) bm.1,by omega,λj h1 h2=>oc j h1 (by omega)⟩
end
end K1
namespace K1
open PySem L2 Fc
open PySem.Spec hiding Row
open PyProof.Rows hiding St
open PySem.Builtin.Int (intBits)
variable {P:Rh}{w:World}{K:T2}{mg:Oc}{base:Heap}{f:Addr}{fd:Rm}
abbrev S1 (x:Str):Of:=[x]
abbrev S2 (x y:Str):Of:=[x,y]
mutual
def cP (Uy:Of):Th->Of
 | .Vl x=>S2 "do" x
 | .call j=>S2 "call" (Uy.getD j.toNat "")
 | .ifs x a b=>S2 "if" x++UK Uy a++S1 "else"++(UK Uy b++S1 "end")
 | .UU x a=>S2 "while" x++UK Uy a++S1 "end"
 | .leave=>S1 "leave"
 | .back=>S1 "back"
def UK (Uy:Of):List Th->Of
 | []=>[]
 | t::ts=>cP Uy t++UK Uy ts
end
theorem vJ (Uy:Of):∀a b:List Th,UK Uy (a++b)=UK Uy a++UK Uy b
 | [],b=>by rw[UK];rfl
 | t::a,b=>by rw[Qk,UK,UK,vJ Uy a b,OZ]
theorem EE (Uy:Of)(t:Th):UK Uy [t]=cP Uy t:=by rw[UK,UK,Pf]
mutual
theorem DZ {Uy:Of}{lo m:Int}:∀(t:Th) (lp:Bool),cJ lo m lp t->(cP Uy t).length<=4*dw t+(if dw t=0 then 1 else 0)
 | .Vl x,_,_=>by simp[cP,dw]
 | .call j,_,_=>by simp[cP,dw]
 | .ifs x a b,lp,h=>by
   simp only[cJ] at h
   have h1:=eK (Uy:=Uy) a lp h.2.1
   have h2:=eK (Uy:=Uy) b lp h.2.2
   simp[cP,dw]
   omega
 | .UU x a,lp,h=>by
   simp only[cJ] at h
   have h1:=eK (Uy:=Uy) a true h.2
   simp[cP,dw]
   omega
 | .leave,_,_=>by simp[cP,dw]
 | .back,_,_=>by simp[cP,dw]
theorem eK {Uy:Of}{lo m:Int}:∀(ts:List Th) (lp:Bool),bR lo m lp ts->(UK Uy ts).length<=4*cM ts+1
 | [],_,_=>by simp[UK]
 | t::ts,lp,h=>by
   simp only[bR] at h
   have h1:=DZ (Uy:=Uy) t lp h.1
   have h2:=eK (Uy:=Uy) ts lp h.2.2
   rw[UK,cM,OI]
   by_cases e:dw t=0
   ·rw[e,Ut rfl] at h1
    have hp:d8 t=false:=by cases t<;>simp[dw] at e<;>simp[d8]
    have:ts=[]:=h.2.1.resolve_left (by rw[hp];decide)
    subst this
    simp[UK,cM]
    omega
   ·rw[Us e] at h1
    omega
end
theorem wO {lo m:Int}{lp:Bool}{t:Th}:∀{ts:List Th},bR lo m lp ts->t∈ts->cJ lo m lp t
 | s::ts,h,hm=>by
   simp only[bR] at h
   rcases OT.mp hm with rfl | hm
   ·exact h.1
   ·exact wO h.2.2 hm
theorem zH {t:Th}:∀{ts:List Th},t∈ts->dw t<=cM ts
 | s::ts,h=>by
   rw[cM]
   rcases OT.mp h with rfl | h
   ·omega
   ·have:=zH h;omega
theorem uf {lo m:Int}{lp:Bool}:∀{ts:List Th} (i:Nat),bR lo m lp ts->bR lo m lp (ts.take i)
 | [],i,h=>by rw[take_nil];exact h
 | t::ts,0,h=>by simp only[take_zero,bR]
 | t::ts,i+1,h=>by
   simp only[bR] at h
   rw[Py,bR]
   exact⟨h.1,h.2.1.imp id λe=>by rw[e,take_nil],uf i h.2.2⟩
theorem Ea (ts:List Th)(i:Nat):cM (ts.take i)<=cM ts:=by
 have:=jo (ts.take i) (ts.drop i)
 rw[Po] at this
 omega
section
variable {X:Cx}{Γ Γ1:Ga}
theorem uq {a:Expr}{j:Nat}{p1 pos:Pos}{t:Th}{i:Int}{x:Str}(h:EV X a Γ ax (eY t) Γ1)(hx:bU (iU t) i=some (.str x)):EV X (.Subscript a (.Constant (.int i) j p1) pos) Γ aj x Γ1:=EV.sP (aY (EV.lP (by rw[iR] at h;exact h)) ev_int hx)
theorem FA {a:Expr}{j:Nat}{p1 pos:Pos}{t:Th}{i:Int}{x:Int}(h:EV X a Γ ax (eY t) Γ1)(hx:bU (iU t) i=some (.int x)):EV X (.Subscript a (.Constant (.int i) j p1) pos) Γ ah x Γ1:=EV.iP (aY (EV.lP (by rw[iR] at h;exact h)) ev_int hx)
end
section
variable {x:Str}
abbrev JE:Stmt:=top rN
abbrev nWD:Of:=["_law_items","_law_names","_law_words_here","_law_one"]
theorem A5:ay nWD ["_law_items","_law_names"] (ag JE):=UY
def MH (n:Nat):bQ:=λK ps T=>∃(ts:List Th) (Uy:Of) (lo m:Int) (lp:Bool),ps=[⟨ae ax,bA ts⟩,⟨ae aj,Uy⟩]/\eM ts<n/\bR lo m lp ts/\0<=lo/\m<=(Uy.length:Int)/\cM ts<=100/\T=bL K (ae aj) (· =UK Uy ts)
theorem l1 (x:Str):([x]:Of).length<=Ra:=by show 1<=Ra;decide
theorem l2 (x y:Str):([x,y]:Of).length<=Ra:=by show 2<=Ra;decide
theorem Ly (F:dH K "_law_words" "_law_words" JE f fd)(hm:mg "_law_words"=some (.ref f))(hb:Binds K fd ["_law_items","_law_names"] []):∀n:Nat,aA P w K mg base "_law_words" (n+1) (aE (MH n) K):=by
 intro n
 have nd:=A5.nd
 induction n with
 | zero=>
   refine fR F A5 hm hb (λqs T ⟨_,_,_,_,_,e,_⟩=>by rw[e];rfl) (λUE A outer s H E qs T hr hS=>?_)
   obtain⟨ts,_,_,_,_,_,h,_⟩:=hS
   exact Ur h (QT _)
 | succ n ih=>
   refine fR F A5 hm hb (λqs T ⟨_,_,_,_,_,e,_⟩=>by rw[e];rfl) (λUE A outer s H E qs T hr hS=>?_)
   obtain⟨ts,Uy,lo,m,lp,rfl,hd,UH,lo0,Yd,hrw,rfl⟩:=hS
   change WS _ _ [.im (ae ax) (bA ts),.im (ae aj) Uy,.no,.no] _ _
   refine ai (bV 2 (r:=aj) (ys:=[]) (aR aT (QE _)) ?_)
   refine bN (N1:=λΓ=>∃e3,Γ=[.im (ae ax) (bA ts),.im (ae aj) Uy,.mu aj (UK Uy ts),e3]) (bX (r:=ax) (λi Γ=>∃e3,Γ=[.im (ae ax) (bA ts),.im (ae aj) Uy,.mu aj (UK Uy (ts.take i)),e3]) (bG (aa 0 rfl)) (aO 3) ⟨_,rfl⟩ (λi x Γ hx hΓ=>?_) (λΓ hΓ=>?_)) ?_
   ·obtain⟨e3,rfl⟩:=hΓ
    rw[fm,OJ] at hx
    obtain⟨t,ht,rfl⟩:=QX.mp hx
    have tm:=OK ht
    have tok:=wO UH tm
    have tdp:=si tm
    have trw:=zH tm
    have wl:=eK (Uy:=Uy) (ts.take i) lp (uf i UH)
    have wr:=Ea ts i
    have VC:UK Uy (ts.take (i+1))=UK Uy (ts.take i)++cP Uy t:=by rw[Pg,ht,vJ];rw[show(some t).toList=[t] from rfl,EE]
    rw[VC]
    generalize UK Uy (ts.take i)=ws at wl
    have wz:ws.length<=401:=by omega
    change WS _ _ [.im (ae ax) (bA ts),.im (ae aj) Uy,.mu aj ws,.im ax (eY t)] _ _
    refine ak (ba (aD cv (iH (aa 3 rfl)) aG) (λh=>?_) (λh1=>?_))
    ·have h:cV t="do":=Uu h
     cases t with
     | Vl x=>
       refine WS.freeze 2 rfl (aH (by omega)) ?_
       refine ak (bV 2 (ys:=ws++S2 "do" x) (cz (aa 2 rfl) (aW.im (aR (r:=aj) (av aG (av (uq (aa 3 rfl) rfl) aT)) (l2 _ _))) (aH (by simp;omega))) ⟨.im ax (eY (.Vl x)),?_⟩)
       rw[cP];rfl
     | call j=>exact Ur h (by simp only[cV];decide)
     | ifs x a b=>exact Ur h (by simp only[cV];decide)
     | UU x a=>exact Ur h (by simp only[cV];decide)
     | leave=>exact Ur h (by simp only[cV];decide)
     | back=>exact Ur h (by simp only[cV];decide)
    have h1:¬cV t="do":=Uv h1
    refine ak (ba (aD cv (iH (aa 3 rfl)) aG) (λh=>?_) (λh2=>?_))
    ·have h:cV t="call":=Uu h
     cases t with
     | call j=>
       simp only[cJ] at tok
       refine WS.freeze 2 rfl (aH (by omega)) ?_
       refine ak (bV 2 (ys:=ws++S2 "call" (Uy.getD j.toNat "")) (cz (aa 2 rfl) (aW.im (aR (r:=aj) (av aG (av (aY (aa 1 rfl) (FA (aa 3 rfl) rfl) (aV (xs:=Uy) (i:=j) "" (by omega) (by omega))) aT)) (l2 _ _))) (aH (by simp;omega))) ⟨.im ax (eY (.call j)),?_⟩)
       rw[cP];rfl
     | Vl j=>exact Ur h (by simp only[cV];decide)
     | ifs x a b=>exact Ur h (by simp only[cV];decide)
     | UU x a=>exact Ur h (by simp only[cV];decide)
     | leave=>exact Ur h (by simp only[cV];decide)
     | back=>exact Ur h (by simp only[cV];decide)
    have h2:¬cV t="call":=Uv h2
    refine ak (ba (aD cv (iH (aa 3 rfl)) aG) (λh=>?_) (λh3=>?_))
    ·have h:cV t="if":=Uu h
     cases t with
     | ifs x a b=>
       simp only[cJ] at tok
       rw[hX] at tdp
       rw[dw] at trw
       have la:=eK (Uy:=Uy) a lp tok.2.1
       have lb:=eK (Uy:=Uy) b lp tok.2.2
       refine WS.freeze 2 rfl (aH (by omega)) ?_
       refine ai (bV 2 (ys:=ws++S2 "if" x++UK Uy a++S1 "else") (cz (aW.im (cz (aW.im (cz (aa 2 rfl) (aW.im (aR (r:=aj) (av aG (av (uq (aa 3 rfl) rfl) aT)) (l2 _ _))) (aH (by simp;omega)))) (aB ih hr (af (l7 (aa 3 rfl) rfl) (af (aa 1 rfl) aq)) ⟨a,Uy,lo,m,lp,rfl,by omega,tok.2.1,lo0,Yd,by omega,rfl⟩) (aH (by simp;omega)))) (aW.im (aR (r:=aj) (av aG aT) (l1 _))) (aH (by simp;omega))) ?_)
       refine WS.freeze 2 rfl (aH (by simp;omega)) ?_
       refine ak (bV 2 (ys:=ws++S2 "if" x++UK Uy a++S1 "else"++UK Uy b++S1 "end") (cz (aW.im (cz (aa 2 rfl) (aB ih hr (af (l7 (aa 3 rfl) rfl) (af (aa 1 rfl) aq)) ⟨b,Uy,lo,m,lp,rfl,by omega,tok.2.2,lo0,Yd,by omega,rfl⟩) (aH (by simp;omega)))) (aW.im (aR (r:=aj) (av aG aT) (l1 _))) (aH (by simp;omega))) ⟨.im ax (eY (.ifs x a b)),?_⟩)
       rw[cP]
       simp only[OZ]
       rfl
     | Vl j=>exact Ur h (by simp only[cV];decide)
     | call x=>exact Ur h (by simp only[cV];decide)
     | UU x a=>exact Ur h (by simp only[cV];decide)
     | leave=>exact Ur h (by simp only[cV];decide)
     | back=>exact Ur h (by simp only[cV];decide)
    have h3:¬cV t="if":=Uv h3
    refine ak (ba (aD cv (iH (aa 3 rfl)) aG) (λh=>?_) (λh4=>?_))
    ·have h:cV t="while":=Uu h
     cases t with
     | UU x a=>
       simp only[cJ] at tok
       rw[hX] at tdp
       rw[dw] at trw
       have la:=eK (Uy:=Uy) a true tok.2
       refine WS.freeze 2 rfl (aH (by omega)) ?_
       refine ak (bV 2 (ys:=ws++S2 "while" x++UK Uy a++S1 "end") (cz (aW.im (cz (aW.im (cz (aa 2 rfl) (aW.im (aR (r:=aj) (av aG (av (uq (aa 3 rfl) rfl) aT)) (l2 _ _))) (aH (by simp;omega)))) (aB ih hr (af (l7 (aa 3 rfl) rfl) (af (aa 1 rfl) aq)) ⟨a,Uy,lo,m,true,rfl,by omega,tok.2,lo0,Yd,by omega,rfl⟩) (aH (by simp;omega)))) (aW.im (aR (r:=aj) (av aG aT) (l1 _))) (aH (by simp;omega))) ⟨.im ax (eY (.UU x a)),?_⟩)
       rw[cP]
       simp only[OZ]
       rfl
     | Vl j=>exact Ur h (by simp only[cV];decide)
     | call x=>exact Ur h (by simp only[cV];decide)
     | ifs x a b=>exact Ur h (by simp only[cV];decide)
     | leave=>exact Ur h (by simp only[cV];decide)
     | back=>exact Ur h (by simp only[cV];decide)
    have h4:¬cV t="while":=Uv h4
    have ew:cP Uy t=[cV t]:=by
     cases t with
     | Vl x=>exact Ur rfl h1
     | call x=>exact Ur rfl h2
     | ifs x a b=>exact Ur rfl h3
     | UU x a=>exact Ur rfl h4
     | leave=>rw[cP];rfl
     | back=>rw[cP];rfl
    rw[ew]
    exact ak (dR 2 (iH (aa 3 rfl)) rfl rfl (QF wz (by decide)) ⟨.im ax (eY t),rfl⟩)
   ·obtain⟨e3,rfl⟩:=hΓ
    rw[eI,Pl]
    exact⟨e3,rfl⟩
   rintro _ ⟨e3,rfl⟩
   have wl:=eK (Uy:=Uy) ts lp UH
   refine WS.freeze 2 rfl (aH (by omega)) ?_
   exact ak (aN (aa 2 rfl) rfl)
def fg (Uy:Of)(z:Str×List Th):Of:=S2 "part" (z.1)++UK Uy z.2++S1 "end"
def jd (Uy:Of)(Ls:List (List Th)):Of:=(Uy.zip Ls).flatMap (fg Uy)
abbrev Ju:Stmt:=top t7
abbrev nTX:Of:=["_law_names","_law_lists","_law_words_here","_law_name_here","_law_items"]
theorem GK:ay nTX ["_law_names","_law_lists"] (ag Ju):=UY
def Mx:bQ:=λK ps T=>∃(Uy:Of) (Ls:List (List Th)),ps=[⟨ae aj,Uy⟩,⟨ae (ae ax),Ls.map bA⟩]/\cy Uy Ls/\T=bL K aj (· =TJ " " (jd Uy Ls))
structure fU (w:Str):Prop where
 l:w.length<=8
 f:32∉w.cps.toList
theorem cG.wo (h:cG x):fU x:=⟨h.l8,λz=>by have:=(h.az _ z).1;omega⟩
theorem eZ {w:Str}(h:(decide (w.length<=8)&&decide (32∉w.cps.toList))=true):fU w:=by
 rw[Oq] at h
 exact⟨Uu h.1,Uu h.2⟩
theorem DY {Uy:Of}(h:∀x∈Uy,cG x)(i:Nat):fU (Uy.getD i ""):=by
 rw[OG]
 cases e:Uy[i]? with
 | none=>exact eZ (by decide +kernel)
 | some x=>exact(h x (OK e)).wo
theorem mr {y:Str}(hx:fU x)(hy:fU y):∀w∈S2 x y,fU w:=λw hw=>by
 rcases OT.mp hw with rfl | hw
 ·exact hx
 ·rw[OF.mp hw];exact hy
theorem kK (hx:fU x):∀w∈S1 x,fU w:=λw hw=>by rw[OF.mp hw];exact hx
theorem fk {a b:Of}(ha:∀w∈a,fU w)(hb:∀w∈b,fU w):∀w∈a++b,fU w:=λw hw=>(OS.mp hw).elim (ha w) (hb w)
mutual
theorem HP {Uy:Of}{lo m:Int}(hn:∀x∈Uy,cG x):∀(t:Th) (lp:Bool),cJ lo m lp t->∀w∈cP Uy t,fU w
 | .Vl x,_,h=>by
   simp only[cJ] at h
   rw[cP];exact mr (eZ (by decide +kernel)) h.wo
 | .call j,_,_=>by rw[cP];exact mr (eZ (by decide +kernel)) (DY hn _)
 | .ifs x a b,lp,h=>by
   simp only[cJ] at h
   rw[cP]
   exact fk (fk (fk (mr (eZ (by decide +kernel)) h.1.wo) (md hn a lp h.2.1)) (kK (eZ (by decide +kernel)))) (fk (md hn b lp h.2.2) (kK (eZ (by decide +kernel))))
 | .UU x a,lp,h=>by
   simp only[cJ] at h
   rw[cP]
   exact fk (fk (mr (eZ (by decide +kernel)) h.1.wo) (md hn a true h.2)) (kK (eZ (by decide +kernel)))
 | .leave,_,_=>by rw[cP];exact kK (eZ (by decide +kernel))
 | .back,_,_=>by rw[cP];exact kK (eZ (by decide +kernel))
theorem md {Uy:Of}{lo m:Int}(hn:∀x∈Uy,cG x):∀(ts:List Th) (lp:Bool),bR lo m lp ts->∀w∈UK Uy ts,fU w
 | [],_,_=>by rw[UK];intro w h;cases h
 | t::ts,lp,h=>by
   simp only[bR] at h
   rw[UK]
   exact fk (HP hn t lp h.1) (md hn ts lp h.2.2)
end
section
variable {Uy:Of}{Ls:List (List Th)}
theorem jB {i:Nat}{z:Str×List Th}(h:(Uy.zip Ls)[i]?=some z):Uy[i]?=some z.1/\Ls[i]?=some z.2:=by
 rw[Qd] at h
 exact h
theorem Lr (h:cy Uy Ls){z:Str×List Th}(hz:z∈Uy.zip Ls):(fg Uy z).length<=60/\∀w∈fg Uy z,fU w:=by
 obtain⟨i,hi⟩:=OR.mp hz
 obtain⟨h1,h2⟩:=jB hi
 have hk:=h.ok i z.2 h2
 have hl:=eK (Uy:=Uy) z.2 false hk
 have hr:=h.rw z.2 (OK h2)
 unfold fg
 refine⟨by simp;omega,fk (fk (mr (eZ (by decide +kernel)) (h.nm z.1 (OK h1)).wo) (md h.nm z.2 false hk)) (kK (eZ (by decide +kernel)))⟩
theorem vY {Uy:Of}:∀{zs:List (Str×List Th)},(∀z∈zs,(fg Uy z).length<=60/\∀w∈fg Uy z,fU w)->(zs.flatMap (fg Uy)).length<=60*zs.length/\∀w∈zs.flatMap (fg Uy),fU w
 | [],_=>⟨QE _,λw h=>by cases h⟩
 | z::zs,h=>by
   obtain⟨a,b⟩:=vY (zs:=zs) λy hy=>h y (OL _ hy)
   obtain⟨c,d⟩:=h z OM
   rw[P6]
   exact⟨by rw[OI,OP];omega,fk d b⟩
theorem we (h:cy Uy Ls)(i:Nat):(((Uy.zip Ls).take i).flatMap (fg Uy)).length<=240/\∀w∈((Uy.zip Ls).take i).flatMap (fg Uy),fU w:=by
 obtain⟨a,b⟩:=vY (Uy:=Uy) (zs:=(Uy.zip Ls).take i) λz hz=>Lr h (Qt hz)
 refine⟨?_,b⟩
 have:=h.l;have:=h.l4
 rw[OY,Pw] at a
 omega
theorem ud (h:cy Uy Ls):(jd Uy Ls).length<=240/\∀w∈jd Uy Ls,fU w:=by
 have:=we h (Uy.zip Ls).length
 rw[Pl] at this
 exact this
theorem vw {ws:Of}(hl:ws.length<=240)(h:∀w∈ws,fU w):JoinOk " " ws=true:=by
 unfold JoinOk
 rw[StrLaws.joinFits (B:=8) (λy hy=>(h y hy).l) (by rw[show(" ":Str).length=1 by decide +kernel];omega)]
 rfl
theorem LD (M:cb K mg)(CW:aA P w K mg base "_law_words" 6 (aE (MH 5) K))(Df:Def K mg "_law_text" Ju ["_law_names","_law_lists"]):aA P w K mg base "_law_text" 7 (aE Mx K):=by
 have nd:=GK.nd
 refine bc (k:=6) Df GK (λf UE A outer s H E qs T hr hS=>?_)
 obtain⟨Uy,Ls,rfl,hP,rfl⟩:=hS
 change WS _ _ [.im (ae aj) Uy,.im (ae (ae ax)) (Ls.map bA),.no,.no,.no] _ _
 refine ai (aU 2 (y:=([]:Of)) (aW.im (aR (r:=aj) aT (QE _))) ?_)
 refine bN (N1:=λΓ=>∃e3 e4,Γ=[.im (ae aj) Uy,.im (ae (ae ax)) (Ls.map bA),.im (ae aj) (jd Uy Ls),e3,e4]) (bX (λi Γ=>∃e3 e4,Γ=[.im (ae aj) Uy,.im (ae (ae ax)) (Ls.map bA),.im (ae aj) (((Uy.zip Ls).take i).flatMap (fg Uy)),e3,e4]) (GQ M.zip (aa 0 rfl) (aa 1 rfl)) (fo 3 4) ⟨_,_,rfl⟩ (λi x Γ hx hΓ=>?_) (λΓ hΓ=>?_)) ?_
 ·obtain⟨e3,e4,rfl⟩:=hΓ
  rw[List.zip_map_right,OJ] at hx
  obtain⟨z,hz,rfl⟩:=QX.mp hx
  obtain⟨h1,h2⟩:=jB hz
  obtain⟨tl,_⟩:=we hP i
  have hk:=hP.ok i z.2 h2
  have hl:=eK (Uy:=Uy) z.2 false hk
  have hrw:=hP.rw z.2 (OK h2)
  have hdp:=hP.dp z.2 (OK h2)
  have W7:=hP.l
  have VC:((Uy.zip Ls).take (i+1)).flatMap (fg Uy)=((Uy.zip Ls).take i).flatMap (fg Uy)++fg Uy z:=by
   rw[Pg,hz,List.flatMap_append]
   simp
  rw[VC]
  generalize ((Uy.zip Ls).take i).flatMap (fg Uy)=ws at tl
  change WS _ _ [.im (ae aj) Uy,.im (ae (ae ax)) (Ls.map bA),.im (ae aj) ws,.im aj z.1,.im (ae ax) (bA z.2)] _ _
  refine ak (aU 2 (y:=ws++S2 "part" z.1++UK Uy z.2++S1 "end") (aW.im (cz (aW.im (cz (aW.im (cz (aa 2 rfl) (aW.im (aR (r:=aj) (av aG (av (aa 3 rfl) aT)) (l2 _ _))) (aH (by simp;omega)))) (aB CW hr (af (aa 4 rfl) (af (aa 0 rfl) aq)) ⟨z.2,Uy,(i:Int),(Ls.length:Int),false,rfl,by omega,hk,by omega,by omega,by omega,rfl⟩) (aH (by simp;omega)))) (aW.im (aR (r:=aj) (av aG aT) (l1 _))) (aH (by simp;omega)))) ⟨.im aj z.1,.im (ae ax) (bA z.2),?_⟩)
  unfold fg
  simp only[OZ]
  rfl
 ·obtain⟨e3,e4,rfl⟩:=hΓ
  refine⟨e3,e4,?_⟩
  rw[List.zip_map_right,OH,Pl]
  rfl
 rintro _ ⟨e3,e4,rfl⟩
 obtain⟨pl,po⟩:=ud hP
 exact ak (aN (EG aG (aa 2 rfl) (vw pl po)) (v8 _ _))
end
end
section
variable {ws:Of}
structure aI where
 kind:Str
 name:Str
 word:Int
 within:Int
abbrev d9:aI:=⟨"","",0,0⟩
abbrev named:Of:=["part","do","call","if","while"]
abbrev UW:Of:=["do","call","if","while","leave","back"]
abbrev U9:Of:=["part","if","else","while"]
abbrev UG:Of:=["else","end"]
structure eP where
 S:List aI
 O:Oe
 w:Nat
def aQ (S:List aI)(o:Int):Str:=(S.getD o.toNat d9).kind
def fu (k:Str)(ks:Of):Bool:=
 if ks.isEmpty then decide (k="part")
 else if k="leave" then decide (("while":Str)∈ks)
 else if k="else" then decide (ks.getLast?.getD ""="if")
 else if k="end" then !decide (ks.getLast?.getD ""="if")
 else decide (k∈UW)
abbrev vq (ws:Of)(x:eP):Str:=ws.getD x.w ""
def nS (k:Str)(n:Str)(x:eP):aI:=⟨k,n,(x.w:Int),x.O.getLast?.getD (-1)⟩
def VQ (k n:Str)(x:eP):eP:=
 ⟨x.S++[nS k (if k∈named then n else "") x],(if k∈UG then x.O.dropLast else x.O)++(if k∈U9 then[(x.S.length:Int)] else[]),x.w+(if k∈named then 2 else 1)⟩
def jf (ws:Of)(x:eP):eP:=VQ (vq ws x) (ws.getD (x.w+1) "") x
structure Fx (ws:Of) (x:eP):Prop where
 w:x.w<ws.length
 may:fu (vq ws x) (x.O.map (aQ x.S))=true
 nm:vq ws x∈named->x.w+1<ws.length/\cG (ws.getD (x.w+1) "")
 o:∀o∈x.O,0<=o/\o<(x.S.length:Int)
theorem mP {α:Type}(f:α->α)(m:Nat)(x:α):∀n,U2 f (m+n) x=U2 f n (U2 f m x)
 | 0=>rfl
 | n+1=>by rw[← Nat.add_assoc,U2,U2,mP f m x n]
def gi (ws:Of)(n:Nat)(x y:eP):Prop:=U2 (jf ws) n x=y/\∀i,i<n->Fx ws (U2 (jf ws) i x)
theorem gi.refl {x:eP}:gi ws 0 x x:=⟨rfl,λi h=>by omega⟩
theorem gi.trans {m n:Nat}{x y z:eP}(h:gi ws m x y)(h':gi ws n y z):gi ws (m+n) x z:=by
 refine⟨by rw[mP,h.1];exact h'.1,λi hi=>?_⟩
 by_cases q:i<m
 ·exact h.2 i q
 ·have e:i=m+(i-m):=by omega
  rw[e,mP,h.1]
  exact h'.2 (i-m) (by omega)
theorem gi.cast {n:Nat}{x y y':eP}(h:gi ws n x y)(e:y=y'):gi ws n x y':=e▸h
theorem gi.one {x y:eP}(h:Fx ws x)(e:jf ws x=y):gi ws 1 x y:=by
 refine⟨e,λi hi=>?_⟩
 obtain rfl:i=0:=by omega
 exact h
def pk (ws:Of)(w:Nat)(vs:Of):Prop:=∀(i:Nat) (v:Str),vs[i]?=some v->ws[w+i]?=some v
theorem pk.app {w:Nat}{a b:Of}(h:pk ws w (a++b)):pk ws w a/\pk ws (w+a.length) b:=by
 refine⟨λi v hv=>h i v ?_,λi v hv=>?_⟩
 ·rw[O6 (OD.mp hv).1];exact hv
 ·have:=h (a.length+i) v (by rw[O7 (by omega),show a.length+i-a.length=i by omega];exact hv)
  rw[show w+a.length+i=w+(a.length+i) by omega];exact this
theorem pk.d {w:Nat}{vs:Of}(h:pk ws w vs){i:Nat}{v:Str}(hv:vs[i]?=some v):ws.getD (w+i) ""=v/\w+i<ws.length:=by
 have:=h i v hv
 exact⟨by rw[OG,this];rfl,(OD.mp this).1⟩
mutual
def bw:Th->Nat
 | .ifs _ a b=>3+UC a+UC b
 | .UU _ a=>2+UC a
 | _=>1
def UC:List Th->Nat
 | []=>0
 | t::ts=>bw t+UC ts
end
end
mutual
def spT (Uy:Of)(a w u:Int):Th->List aI
 | .Vl x=>[⟨"do",x,w,u⟩]
 | .call j=>[⟨"call",Uy.getD j.toNat "",w,u⟩]
 | .ifs x A B=>[⟨"if",x,w,u⟩]++cK Uy (a+1) (w+2) a A++([⟨"else","",w+2+(UK Uy A).length,a⟩]++(cK Uy (a+2+UC A) (w+3+(UK Uy A).length) (a+1+UC A) B++[⟨"end","",w+3+(UK Uy A).length+(UK Uy B).length,a+1+UC A⟩]))
 | .UU x A=>[⟨"while",x,w,u⟩]++(cK Uy (a+1) (w+2) a A++[⟨"end","",w+2+(UK Uy A).length,a⟩])
 | .leave=>[⟨"leave","",w,u⟩]
 | .back=>[⟨"back","",w,u⟩]
def cK (Uy:Of)(a w u:Int):List Th->List aI
 | []=>[]
 | t::ts=>spT Uy a w u t++cK Uy (a+bw t) (w+(cP Uy t).length) u ts
end
mutual
theorem mH {Uy:Of}:∀(t:Th) (a w u:Int),(spT Uy a w u t).length=bw t
 | .Vl _,_,_,_=>by simp[spT,bw]
 | .call _,_,_,_=>by simp[spT,bw]
 | .ifs x A B,a,w,u=>by
   simp only[spT,bw,OI,cC A,cC B,OP,O8]
   omega
 | .UU x A,a,w,u=>by
   simp only[spT,bw,OI,cC A,OP,O8]
   omega
 | .leave,_,_,_=>by simp[spT,bw]
 | .back,_,_,_=>by simp[spT,bw]
theorem cC {Uy:Of}:∀(ts:List Th) (a w u:Int),(cK Uy a w u ts).length=UC ts
 | [],_,_,_=>by simp[cK,UC]
 | t::ts,a,w,u=>by rw[cK,UC,OI,mH t,cC ts]
end
section
variable {O:Oe}{S:List aI}{x:eP}{n:Str}{a:Int}{S':List aI}{f:Int->Str}{s:aI}
structure Ctx (x:eP) (lp:Bool):Prop where
 ne:x.O≠[]
 o:∀o∈x.O,0<=o/\o<(x.S.length:Int)
 lp:lp=true->("while":Str)∈x.O.map (aQ x.S)
theorem Eg {o:Int}(h0:0<=o)(h1:o<(S.length:Int)):aQ (S++S') o=aQ S o:=by
 unfold aQ
 rw[OG,OG,O6 (by omega)]
theorem yT:aQ (S++s::S') (S.length:Int)=s.kind:=by
 unfold aQ
 rw[OG,show((S.length:Nat):Int).toNat=S.length by omega]
 simp
theorem wR (h:∀o∈O,0<=o/\o<(S.length:Int)):O.map (aQ (S++S'))=O.map (aQ S):=Qh λo ho=>Eg (h o ho).1 (h o ho).2
theorem Ctx.more {lp:Bool}(h:Ctx x lp)(S':List aI)(w:Nat):Ctx ⟨x.S++S',x.O,w⟩ lp:=
 ⟨h.ne,λo ho=>⟨(h.o o ho).1,by have:=(h.o o ho).2;show o<((x.S++S').length:Int);rw[OI];omega⟩,λe=>by show _∈x.O.map (aQ (x.S++S'));rw[wR h.o];exact h.lp e⟩
theorem Ctx.inner {lp lp':Bool}(h:Ctx x lp)(s:aI)(w:Nat)(hl:lp'=true->lp=true∨s.kind="while"):Ctx ⟨x.S++[s],x.O++[(x.S.length:Int)],w⟩ lp':=by
 refine⟨by simp,λo ho=>?_,λe=>?_⟩
 ·show _/\o<((x.S++[s]).length:Int)
  rw[OI,O4]
  rcases OS.mp ho with z | z
  ·have:=h.o o z;omega
  ·rw[OF.mp z];omega
 ·show _∈(x.O++[(x.S.length:Int)]).map (aQ (x.S++[s]))
  rw[O3,wR h.o]
  rcases hl e with z | z
  ·exact OU _ (h.lp z)
  ·refine OQ _ ?_
   rw[List.map_singleton,yT,z]
   exact OF.mpr rfl
theorem jW {k:Str}{ks:Of}(UJ:ks≠[])(h:k∈UW)(hl:k≠"leave"):fu k ks=true:=by
 unfold fu
 have e:ks.isEmpty=false:=by cases ks with
  | nil=>exact Ur rfl UJ
  | cons _ _=>rfl
 have h1:k≠"else":=λz=>by rw[z] at h;revert h;decide +kernel
 have h2:k≠"end":=λz=>by rw[z] at h;revert h;decide +kernel
 rw[Us (by rw[e];decide),Us hl,Us h1,Us h2]
 exact Uw h
theorem mv (h:O≠[]):O.map f≠[]:=λe=>h (List.map_eq_nil_iff.mp e)
theorem fH {ws:Of}{k:Str}{vs:Of}{i:Nat}(hk:ws.getD x.w ""=k/\x.w<ws.length)(hn:k∈named->ws.getD (x.w+1) ""=n/\x.w+1<ws.length/\cG n)(hm:fu k (x.O.map (aQ x.S))=true)(ho:∀o∈x.O,0<=o/\o<(x.S.length:Int)):gi ws 1 x (VQ k n x):=by
 obtain⟨e1,h1⟩:=hk
 have e:vq ws x=k:=e1
 refine gi.one ⟨h1,by rw[e];exact hm,λh=>?_,ho⟩ ?_
 ·rw[e] at h
  obtain⟨e2,h2,h3⟩:=hn h
  exact⟨h2,by rw[e2];exact h3⟩
 ·unfold jf
  rw[e]
  by_cases h:k∈named
  ·rw[(hn h).1]
  ·unfold VQ;rw[Us h,Us h,Us h]
theorem uO:((O++[a]).map f).getLast?.getD ""=f a:=by simp
theorem AK (h:f a="if"):fu "else" ((O++[a]).map f)=true:=by
 unfold fu
 rw[Us (by simp),Us (by decide +kernel),Ut rfl,uO,h]
 rfl
theorem qq (h:f a≠"if"):fu "end" ((O++[a]).map f)=true:=by
 unfold fu
 rw[Us (by simp),Us (by decide +kernel),Us (by decide +kernel),Ut rfl,uO,Ux h]
 rfl
theorem yH {ks:Of}(h:("while":Str)∈ks):fu "leave" ks=true:=by
 unfold fu
 rw[Us (by cases ks with
  | nil=>cases h
  | cons _ _=>simp),Ut rfl]
 exact Uw h
abbrev uF (x:eP):Int:=x.O.getLast?.getD (-1)
theorem uC {k:Str}(h1:k∈named)(h2:k∉UG)(h3:k∉U9):VQ k n x=⟨x.S++[⟨k,n,x.w,uF x⟩],x.O,x.w+2⟩:=by
 unfold VQ nS;rw[Ut h1,Ut h1,Us h2,Us h3,Pf]
theorem wJ {k:Str}(h1:k∉named)(h2:k∉UG)(h3:k∉U9):VQ k n x=⟨x.S++[⟨k,"",x.w,uF x⟩],x.O,x.w+1⟩:=by
 unfold VQ nS;rw[Us h1,Us h1,Us h2,Us h3,Pf]
theorem pW {k:Str}(h1:k∈named)(h2:k∉UG)(h3:k∈U9):VQ k n x=⟨x.S++[⟨k,n,x.w,uF x⟩],x.O++[(x.S.length:Int)],x.w+2⟩:=by
 unfold VQ nS;rw[Ut h1,Ut h1,Us h2,Ut h3]
theorem Ed {w:Nat}:VQ "else" n ⟨S,O++[a],w⟩=⟨S++[⟨"else","",w,a⟩],O++[(S.length:Int)],w+1⟩:=by
 unfold VQ nS;rw[Us (show¬("else":Str)∈named by decide +kernel),Us (show¬("else":Str)∈named by decide +kernel),Ut (show("else":Str)∈UG by decide +kernel),Ut (show("else":Str)∈U9 by decide +kernel)];simp
theorem my {w:Nat}:VQ "end" n ⟨S,O++[a],w⟩=⟨S++[⟨"end","",w,a⟩],O,w+1⟩:=by
 unfold VQ nS;rw[Us (show¬("end":Str)∈named by decide +kernel),Us (show¬("end":Str)∈named by decide +kernel),Ut (show("end":Str)∈UG by decide +kernel),Us (show¬("end":Str)∈U9 by decide +kernel)];simp
theorem oh (h:∀o∈O,0<=o/\o<(S.length:Int))(S':List aI):∀o∈O++[(S.length:Int)],0<=o/\o<(((S++[s])++S').length:Int):=λo ho=>by
 rw[OI,OI,O4]
 rcases OS.mp ho with z | z
 ·have:=h o z;omega
 ·rw[OF.mp z];omega
theorem pG:aQ ((S++[s])++S') (S.length:Int)=s.kind:=by rw[OZ];exact yT
mutual
theorem NS {ws Uy:Of}{lo m:Int}(hn:∀x∈Uy,cG x)(hm:m<=(Uy.length:Int))(Xn:0<=lo):∀(t:Th) (lp:Bool) (x:eP),cJ lo m lp t->pk ws x.w (cP Uy t)->Ctx x lp->
 gi ws (bw t) x ⟨x.S++spT Uy (x.S.length:Int) (x.w:Int) (uF x) t,x.O,x.w+(cP Uy t).length⟩
 | .Vl y,lp,x,h,hw,hc=>by
   simp only[cJ] at h
   rw[cP] at hw
   have e1:=hw.d (i:=0) rfl
   have e2:=hw.d (i:=1) rfl
   have s:=fH (n:=y) (vs:=[]) (i:=0) e1 (λ_=>⟨e2.1,e2.2,h⟩) (jW (mv hc.ne) (by decide +kernel) (by decide +kernel)) hc.o
   rw[uC (by decide +kernel) (by decide +kernel) (by decide +kernel)] at s
   simp only[bw,spT,cP]
   exact s
 | .call j,lp,x,h,hw,hc=>by
   simp only[cJ] at h
   rw[cP] at hw
   have e1:=hw.d (i:=0) rfl
   have e2:=hw.d (i:=1) rfl
   have hj:cG (Uy.getD j.toNat ""):=by
    have hl:j.toNat<Uy.length:=by omega
    rw[OG,OE hl]
    exact hn _ (O0 hl)
   have s:=fH (n:=Uy.getD j.toNat "") (vs:=[]) (i:=0) e1 (λ_=>⟨e2.1,e2.2,hj⟩) (jW (mv hc.ne) (by decide +kernel) (by decide +kernel)) hc.o
   rw[uC (by decide +kernel) (by decide +kernel) (by decide +kernel)] at s
   simp only[bw,spT,cP]
   exact s
 | .leave,lp,x,h,hw,hc=>by
   simp only[cJ] at h
   rw[cP] at hw
   have e1:=hw.d (i:=0) rfl
   have s:=fH (n:="") (vs:=[]) (i:=0) e1 (λz=>Ur z (by decide +kernel)) (yH (hc.lp h)) hc.o
   rw[wJ (by decide +kernel) (by decide +kernel) (by decide +kernel)] at s
   simp only[bw,spT,cP]
   exact s
 | .back,lp,x,h,hw,hc=>by
   rw[cP] at hw
   have e1:=hw.d (i:=0) rfl
   have s:=fH (n:="") (vs:=[]) (i:=0) e1 (λz=>Ur z (by decide +kernel)) (jW (mv hc.ne) (by decide +kernel) (by decide +kernel)) hc.o
   rw[wJ (by decide +kernel) (by decide +kernel) (by decide +kernel)] at s
   simp only[bw,spT,cP]
   exact s
 | .UU y A,lp,x,h,hw,hc=>by
   simp only[cJ] at h
   rw[cP,OZ] at hw
   obtain⟨w1,w2⟩:=hw.app
   obtain⟨w2,w3⟩:=w2.app
   have e1:=w1.d (i:=0) rfl
   have e2:=w1.d (i:=1) rfl
   have s1:=fH (n:=y) (vs:=[]) (i:=0) e1 (λ_=>⟨e2.1,e2.2,h.1⟩) (jW (mv hc.ne) (by decide +kernel) (by decide +kernel)) hc.o
   rw[pW (by decide +kernel) (by decide +kernel) (by decide +kernel)] at s1
   have s2:=uR (lo:=lo) (m:=m) hn hm Xn A true ⟨x.S++[(⟨"while",y,x.w,uF x⟩:aI)],x.O++[(x.S.length:Int)],x.w+2⟩ h.2 w2 (hc.inner _ _ λ_=>.inr rfl)
   have hu:uF ⟨x.S++[(⟨"while",y,x.w,uF x⟩:aI)],x.O++[(x.S.length:Int)],x.w+2⟩=(x.S.length:Int):=by unfold uF;simp
   rw[hu] at s2
   have e3:=w3.d (i:=0) rfl
   have s3:=fH (ws:=ws) (x:=⟨x.S++[(⟨"while",y,x.w,uF x⟩:aI)]++cK Uy ((x.S++[(⟨"while",y,x.w,uF x⟩:aI)]).length:Int) ((x.w+2:Nat):Int) (x.S.length:Int) A,x.O++[(x.S.length:Int)],x.w+2+(UK Uy A).length⟩) (n:="") (vs:=[]) (i:=0) e3 (λz=>Ur z (by decide +kernel)) (qq (by rw[pG];show("while":Str)≠"if";decide +kernel)) (oh hc.o _)
   rw[my] at s3
   have s:=(s1.trans s2).trans s3
   simp only[bw,spT,cP]
   rw[show 1+UC A+1=2+UC A by omega] at s
   refine s.cast ?_
   simp only[OI,OP,O8,OZ]
   push_cast
   simp only[eP.mk.injEq]
   refine⟨?_,trivial,?_⟩
   ·rw[show(x.w:Int)+1+1=(x.w:Int)+2 by omega]
   ·omega
 | .ifs y A B,lp,x,h,hw,hc=>by
   simp only[cJ] at h
   rw[cP,OZ,OZ] at hw
   obtain⟨w1,w2⟩:=hw.app
   obtain⟨w2,w3⟩:=w2.app
   obtain⟨w3,w4⟩:=w3.app
   obtain⟨w4,w5⟩:=w4.app
   have e1:=w1.d (i:=0) rfl
   have e2:=w1.d (i:=1) rfl
   have s1:=fH (n:=y) (vs:=[]) (i:=0) e1 (λ_=>⟨e2.1,e2.2,h.1⟩) (jW (mv hc.ne) (by decide +kernel) (by decide +kernel)) hc.o
   rw[pW (by decide +kernel) (by decide +kernel) (by decide +kernel)] at s1
   generalize YY:(⟨"if",y,x.w,uF x⟩:aI)=s0 at s1
   have k0:s0.kind="if":=by rw[← YY]
   have s2:=uR (lo:=lo) (m:=m) hn hm Xn A lp ⟨x.S++[s0],x.O++[(x.S.length:Int)],x.w+2⟩ h.2.1 w2 (hc.inner _ _ λz=>.inl z)
   have hu:uF ⟨x.S++[s0],x.O++[(x.S.length:Int)],x.w+2⟩=(x.S.length:Int):=by unfold uF;simp
   rw[hu] at s2
   have e3:=w3.d (i:=0) rfl
   generalize Yh:cK Uy ((x.S++[s0]).length:Int) ((x.w+2:Nat):Int) (x.S.length:Int) A=SA at s2
   have lSA:SA.length=UC A:=by rw[← Yh,cC]
   have s3:=fH (ws:=ws) (x:=(⟨x.S++[s0]++SA,x.O++[(x.S.length:Int)],x.w+2+(UK Uy A).length⟩:eP)) (n:="") (vs:=[]) (i:=0) e3 (λz=>Ur z (by decide +kernel)) (AK (by rw[pG,k0])) (oh hc.o _)
   rw[Ed] at s3
   have c3:=(hc.more (s0::SA) (x.w+2+(UK Uy A).length)).inner (⟨"else","",((x.w+2+(UK Uy A).length:Nat):Int),(x.S.length:Int)⟩:aI) (x.w+2+(UK Uy A).length+1) (lp':=lp) λz=>.inl z
   have el:x.S++s0::SA=x.S++[s0]++SA:=by simp
   dsimp only at c3
   rw[el] at c3
   generalize XE:(⟨"else","",((x.w+2+(UK Uy A).length:Nat):Int),(x.S.length:Int)⟩:aI)=s1' at s3 c3
   have k1:s1'.kind≠"if":=by rw[← XE];show("else":Str)≠"if";decide +kernel
   have s4:=uR (lo:=lo) (m:=m) hn hm Xn B lp _ h.2.2 w4 c3
   have hu2:uF ⟨x.S++[s0]++SA++[s1'],x.O++[((x.S++[s0]++SA).length:Int)],x.w+2+(UK Uy A).length+1⟩=((x.S++[s0]++SA).length:Int):=by unfold uF;simp
   rw[hu2] at s4
   have e5:=w5.d (i:=0) rfl
   dsimp only at s4
   generalize hSB:cK Uy ((x.S++[s0]++SA++[s1']).length:Int) ((x.w+2+(UK Uy A).length+1:Nat):Int) ((x.S++[s0]++SA).length:Int) B=SB at s4
   have s5:=fH (ws:=ws) (x:=(⟨x.S++[s0]++SA++[s1']++SB,x.O++[((x.S++[s0]++SA).length:Int)],x.w+2+(UK Uy A).length+1+(UK Uy B).length⟩:eP)) (n:="") (vs:=[]) (i:=0) e5 (λz=>Ur z (by decide +kernel)) (qq (by rw[pG];exact k1)) (oh (by
    intro o ho
    have:=(hc.more (s0::SA) 0).o o ho
    dsimp only at this
    rw[el] at this
    exact this) _)
   rw[my] at s5
   have s:=(((s1.trans s2).trans s3).trans s4).trans s5
   simp only[bw,spT,cP]
   rw[show 1+UC A+1+UC B+1=3+UC A+UC B by omega] at s
   refine s.cast ?_
   subst YY XE
   simp only[OI,OP,O8,OZ,lSA] at Yh hSB ⊢
   rw[← Yh,← hSB]
   push_cast
   simp only[eP.mk.injEq]
   refine⟨?_,trivial,?_⟩
   ·rw[show(x.w:Int)+1+1=(x.w:Int)+2 by omega,show(x.w:Int)+2+((UK Uy A).length:Int)+1=(x.w:Int)+3+((UK Uy A).length:Int) by omega,show(x.S.length:Int)+(1+((UC A:Int)+1))=(x.S.length:Int)+2+(UC A:Int) by omega,show(x.S.length:Int)+(1+(UC A:Int))=(x.S.length:Int)+1+(UC A:Int) by omega]
   ·omega
theorem uR {ws Uy:Of}{lo m:Int}(hn:∀x∈Uy,cG x)(hm:m<=(Uy.length:Int))(Xn:0<=lo):∀(ts:List Th) (lp:Bool) (x:eP),bR lo m lp ts->pk ws x.w (UK Uy ts)->Ctx x lp->
 gi ws (UC ts) x ⟨x.S++cK Uy (x.S.length:Int) (x.w:Int) (uF x) ts,x.O,x.w+(UK Uy ts).length⟩
 | [],lp,x,h,hw,hc=>by
   simp only[UC,cK,UK]
   refine gi.refl.cast ?_
   simp
 | t::ts,lp,x,h,hw,hc=>by
   simp only[bR] at h
   rw[UK] at hw
   obtain⟨w1,w2⟩:=hw.app
   have s1:=NS hn hm Xn t lp x h.1 w1 hc
   have s2:=uR hn hm Xn ts lp ⟨x.S++spT Uy (x.S.length:Int) (x.w:Int) (uF x) t,x.O,x.w+(cP Uy t).length⟩ h.2.2 w2 (hc.more _ _)
   have s:=s1.trans s2
   simp only[UC,cK,UK]
   refine s.cast ?_
   simp only[OI,mH,OZ]
   push_cast
   simp only[eP.mk.injEq]
   refine⟨trivial,trivial,?_⟩
   omega
end
end
def gK (Uy:Of)(a w:Int):List (Str×List Th)->List aI
 | []=>[]
 | z::r=>[⟨"part",z.1,w, -1⟩]++(cK Uy (a+1) (w+2) a z.2++([⟨"end","",w+2+(UK Uy z.2).length,a⟩]++gK Uy (a+2+UC z.2) (w+3+(UK Uy z.2).length) r))
def dC:List (Str×List Th)->Nat
 | []=>0
 | z::r=>2+UC z.2+dC r
theorem vN {Uy:Of}:∀(zs:List (Str×List Th)) (a w:Int),(gK Uy a w zs).length=dC zs
 | [],_,_=>rfl
 | z::r,a,w=>by
   rw[gK,dC]
   simp only[OI,cC,vN r,OP,O8]
   omega
theorem Gn {ws Uy:Of}{m:Int}(hn:∀x∈Uy,cG x)(hm:m<=(Uy.length:Int)):∀(zs:List (Str×List Th)) (x:eP),(∀z∈zs,cG z.1/\∃lo,0<=lo/\bR lo m false z.2)->pk ws x.w (zs.flatMap (fg Uy))->x.O=[]->
 gi ws (dC zs) x ⟨x.S++gK Uy (x.S.length:Int) (x.w:Int) zs,[],x.w+(zs.flatMap (fg Uy)).length⟩
 | [],x,h,hw,hc=>by
   refine gi.refl.cast ?_
   simp[gK,← hc]
 | z::r,x,h,hw,hc=>by
   obtain⟨S,O,w⟩:=x
   obtain rfl:O=[]:=hc
   obtain⟨hz,lo,Xn,UH⟩:=h z OM
   rw[P6] at hw
   obtain⟨hw,hwr⟩:=hw.app
   rw[show fg Uy z=S2 "part" z.1++(UK Uy z.2++S1 "end") by unfold fg;rw[OZ]] at hw
   obtain⟨w1,w2⟩:=hw.app
   obtain⟨w2,w3⟩:=w2.app
   dsimp only at w1 w2 w3 hwr ⊢
   have e1:=w1.d (i:=0) rfl
   have e2:=w1.d (i:=1) rfl
   have s1:=fH (x:=(⟨S,[],w⟩:eP)) (n:=z.1) (vs:=[]) (i:=0) e1 (λ_=>⟨e2.1,e2.2,hz⟩) (show fu "part" []=true by decide +kernel) (λo ho=>by cases ho)
   rw[pW (by decide +kernel) (by decide +kernel) (by decide +kernel)] at s1
   dsimp only at s1
   rw[show uF ⟨S,[],w⟩= -1 from rfl] at s1
   generalize YY:(⟨"part",z.1,(w:Int), -1⟩:aI)=s0 at s1
   have k0:s0.kind="part":=by rw[← YY]
   have c1:Ctx ⟨S++[s0],[]++[(S.length:Int)],w+2⟩ false:=⟨by simp,λo ho=>by
    have e:o=(S.length:Int):=by simpa using ho
    show _/\o<((S++[s0]).length:Int)
    rw[OI,O4,e];omega,λe=>by cases e⟩
   have s2:=uR (lo:=lo) (m:=m) hn hm Xn z.2 false _ UH w2 c1
   rw[show uF ⟨S++[s0],[]++[(S.length:Int)],w+2⟩=(S.length:Int) from rfl] at s2
   dsimp only at s2
   generalize Yh:cK Uy ((S++[s0]).length:Int) ((w+2:Nat):Int) (S.length:Int) z.2=SA at s2
   have lSA:SA.length=UC z.2:=by rw[← Yh,cC]
   have e3:=w3.d (i:=0) rfl
   have s3:=fH (ws:=ws) (x:=(⟨S++[s0]++SA,[]++[(S.length:Int)],w+2+(UK Uy z.2).length⟩:eP)) (n:="") (vs:=[]) (i:=0) e3 (λz=>Ur z (by decide +kernel)) (qq (by rw[pG,k0];decide +kernel)) (oh (λo ho=>by cases ho) _)
   rw[my] at s3
   have s4:=Gn hn hm r ⟨S++[s0]++SA++[⟨"end","",((w+2+(UK Uy z.2).length:Nat):Int),(S.length:Int)⟩],[],w+2+(UK Uy z.2).length+1⟩ (λy hy=>h y (OL _ hy)) (by
    have e:w+2+(UK Uy z.2).length+1=w+(fg Uy z).length:=by unfold fg;simp only[OI,OP,O8];omega
    dsimp only
    rw[e];exact hwr) rfl
   have s:=((s1.trans s2).trans s3).trans s4
   rw[dC,show 2+UC z.2+dC r=1+UC z.2+1+dC r by omega]
   refine s.cast ?_
   subst YY
   dsimp only
   rw[gK,P6]
   have lp:(fg Uy z).length=3+(UK Uy z.2).length:=by unfold fg;simp only[OI,OP,O8];omega
   simp only[OI,OP,O8,OZ,lSA,lp] at Yh ⊢
   rw[← Yh]
   push_cast
   simp only[eP.mk.injEq]
   refine⟨?_,trivial,?_⟩
   ·rw[show(w:Int)+1+1=(w:Int)+2 by omega,show(w:Int)+2+((UK Uy z.2).length:Int)+1=(w:Int)+3+((UK Uy z.2).length:Int) by omega,show(S.length:Int)+(1+((UC z.2:Int)+1))=(S.length:Int)+2+(UC z.2:Int) by omega]
   ·omega
abbrev ar (Uy:Of)(Ls:List (List Th)):List aI:=gK Uy 0 0 (Uy.zip Ls)
theorem rq {Uy:Of}{Ls:List (List Th)}(h:cy Uy Ls):gi (jd Uy Ls) (dC (Uy.zip Ls)) ⟨[],[],0⟩ ⟨ar Uy Ls,[],(jd Uy Ls).length⟩:=by
 have:=Gn (ws:=jd Uy Ls) (Uy:=Uy) (m:=(Ls.length:Int)) h.nm (by rw[h.l];omega) (Uy.zip Ls) ⟨[],[],0⟩ (λz hz=>by
  obtain⟨i,hi⟩:=OR.mp hz
  obtain⟨h1,h2⟩:=jB hi
  exact⟨h.nm z.1 (OK h1),(i:Int),by omega,h.ok i z.2 h2⟩) (λi v hv=>by
   show(jd Uy Ls)[0+i]?=some v
   rw[QV];exact hv) rfl
 refine this.cast ?_
 simp[ar,jd]
structure kg (K:T2) (mg:Oc):Prop where
 most:∃t,mg "MOST_LETTERS"=some (.int 8 t)
 nost:∃t,mg "NO_STEP"=some (.int (-1) t)
 named:qx K mg "NAMED" named
 UW:qx K mg "SENTENCES" UW
 U9:qx K mg "OPENING" U9
 UG:qx K mg "CLOSING" UG
abbrev gT:Of:=["kind","name","word","within"]
theorem iN {x:Str}(h:decide (x∈gT)=true):x∈gT:=Uu h
def MJ (s:aI):jy:=[("kind",aj.at_ s.kind),("name",aj.at_ s.name),("word",ah.at_ s.word),("within",ah.at_ s.within)]
def bh (C:Addr):Rep aI:=⟨λK R v s=>∃x dx vs,v= .ref x/\R x=some (.ins C dx vs)/\fY (MJ s) K R vs,λs ⟨x,dx,vs,e,h1,h2⟩=>⟨x,dx,vs,e,s _ _ h1,h2.mono s⟩⟩
section
variable {X:Cx}{Γ Γ1:Ga}{C:Addr}{e:Expr}{pos:Pos}{s:aI}
theorem gp (hC:bH X.K C gT)(he:EV X e Γ (bh C) s Γ1)(hb:Rj e "kind" X.env (eval e X.env)=eval e X.env:=by rfl):EV X (.Attribute e "kind" pos) Γ aj s.kind Γ1:=jm hC (iN (by decide)) he (λK R v ⟨x,dx,vs,e,h1,h2⟩=>by obtain⟨u,q1,q2⟩:=h2.get (f:="kind") rfl;exact⟨x,dx,vs,u,e,h1,q1,q2⟩) hb
theorem pE (hC:bH X.K C gT)(he:EV X e Γ (bh C) s Γ1)(hb:Rj e "name" X.env (eval e X.env)=eval e X.env:=by rfl):EV X (.Attribute e "name" pos) Γ aj s.name Γ1:=jm hC (iN (by decide)) he (λK R v ⟨x,dx,vs,e,h1,h2⟩=>by obtain⟨u,q1,q2⟩:=h2.get (f:="name") rfl;exact⟨x,dx,vs,u,e,h1,q1,q2⟩) hb
theorem Kx (hC:bH X.K C gT)(he:EV X e Γ (bh C) s Γ1)(hb:Rj e "word" X.env (eval e X.env)=eval e X.env:=by rfl):EV X (.Attribute e "word" pos) Γ ah s.word Γ1:=jm hC (iN (by decide)) he (λK R v ⟨x,dx,vs,e,h1,h2⟩=>by obtain⟨u,q1,q2⟩:=h2.get (f:="word") rfl;exact⟨x,dx,vs,u,e,h1,q1,q2⟩) hb
theorem oJ (hC:bH X.K C gT)(he:EV X e Γ (bh C) s Γ1)(hb:Rj e "within" X.env (eval e X.env)=eval e X.env:=by rfl):EV X (.Attribute e "within" pos) Γ ah s.within Γ1:=jm hC (iN (by decide)) he (λK R v ⟨x,dx,vs,e,h1,h2⟩=>by obtain⟨u,q1,q2⟩:=h2.get (f:="within") rfl;exact⟨x,dx,vs,u,e,h1,q1,q2⟩) hb
end
section
abbrev qP:Stmt:=match top ED with
 | .ClassDef _ _ _ b _ _ _ _ _ _ _=>b.getD 0 (.Pass ⟨0,0,0,0⟩)
 | s=>s
abbrev tL:Of:=["self","kind","name","word","within"]
theorem Jt:ay tL tL (ag qP):=UY
def My (C0:Addr):yk:=λK C ps Pd=>C=C0/\∃s:aI,ps=[⟨aj,s.kind⟩,⟨aj,s.name⟩,⟨ah,s.word⟩,⟨ah,s.within⟩]/\Pd=λfs=>fs=MJ s
theorem JZ {C0:Addr}(HC:bH K C0 gT)(F:dH K "__init__" "Step.__init__" qP f fd):dY P w K mg base d7 1 f fd tL (vA (My C0) K):=by
 have nd:=Jt.nd
 refine yF F Jt (λC qs Pd ⟨_,m,e,_⟩=>by rw[e];rfl) (λUE A outer st H E C x dx qs Pd hr hS=>?_)
 obtain⟨rfl,s,rfl,rfl⟩:=hS
 change WS _ _ [.ob ((gz C).bx [x,dx] []),.im aj s.kind,.im aj s.name,ao s.word,ao s.within] _ _
 refine ai (hV 0 HC (iN (by decide)) (aa 1 rfl) rfl rfl (by show 0<1000;decide) ?_)
 refine ai (hV 0 HC (iN (by decide)) (aa 2 rfl) rfl rfl (by show 1<1000;decide) ?_)
 refine ai (hV 0 HC (iN (by decide)) (aa 3 rfl) rfl rfl (by show 2<1000;decide) ?_)
 exact ak (hV 0 HC (iN (by decide)) (aa 4 rfl) rfl rfl (by show 3<1000;decide) ⟨_,rfl,rfl⟩)
abbrev CK:Stmt:=top xG
theorem JY:ay ["word"] ["word"] (ag CK):=UY
def ME:bQ:=λK ps T=>∃x:Str,ps=[⟨aj,x⟩]/\cG x/\T=bL K bF (· =true)
theorem JH {x:Str}(h:cG x){c:Str}(hc:c∈gy x):∃n,c=⟨#[n]⟩/\97<=n/\n<=122:=by
 unfold gy at hc
 obtain⟨i,hi,rfl⟩:=OO.mp hc
 have hi:i<x.cps.size:=by simpa using hi
 refine⟨x.cps.getD i 0,rfl,h.az _ ?_⟩
 rw[Array.getD_eq_getD_getElem?]
 simp[hi]
theorem K5 {n:Nat}(h:97<=n/\n<=122):(!decide ((⟨#[n]⟩:Str).cps.toList<("a":Str).cps.toList))=true/\(!decide (("z":Str).cps.toList<(⟨#[n]⟩:Str).cps.toList))=true:=by
 have ea:("a":Str).cps.toList=[97]:=by decide +kernel
 have ez:("z":Str).cps.toList=[122]:=by decide +kernel
 rw[ea,ez]
 have e1:¬([n]:List Nat) < [97]:=by intro z;cases z with
  | rel h1=>omega
  | cons h1=>cases h1
 have e2:¬([122]:List Nat) < [n]:=by intro z;cases z with
  | rel h1=>omega
  | cons h1=>cases h1
 exact⟨by rw[show(⟨#[n]⟩:Str).cps.toList=[n] from rfl,Ux e1];rfl,by rw[show(⟨#[n]⟩:Str).cps.toList=[n] from rfl,Ux e2];rfl⟩
theorem Kr (M:cb K mg)(M2:kg K mg)(Df:Def K mg "is_name" CK ["word"]):aA P w K mg base "is_name" 1 (aE ME K):=by
 have nd:=JY.nd
 have VR:OX [("sign":Str)]:=by decide
 refine bc Df JY (λf UE A outer s H E qs T hr hS=>?_)
 obtain⟨x,rfl,hx,rfl⟩:=hS
 obtain⟨t,hmo⟩:=M2.most
 change WS _ _ [.im aj x] _ _
 have hl:x.cps.size<=Ra:=QD hx.l8 (by decide)
 have hasc:x.cps.all (· < 128)=true:=by
  rw[Array.all_eq_true]
  intro i hi
  have:=hx.az x.cps[i] (by simp)
  exact Uw (by omega)
 have l1:=hx.l1
 have l8:=hx.l8
 refine ak (aN (iX (ie gG gG ev_int (EW M.len (aa 0 rfl) hl) (ck hmo)) (λ_=>ja (gZ M.all (aW.im (bD (own:=["sign"]) (fr:=[]) (ix:=[]) (ra:=aj) (rb:=bF) (p:=λ_=>true) (f:=λ_=>true) (bt (so:=ag CK) (N0:=["word"]) rfl rfl (λx h=>a8 h) (by decide +kernel)) (yr (aa 0 rfl) hasc hl)
  (λC s H ex=>aO 0) (λx=>⟨.inr rfl,trivial⟩) (λC s H ex c hc=>cO) (λC s H ex c hc _=>?_)))))) ?_)
 ·obtain⟨n,rfl,hn⟩:=JH hx hc
  obtain⟨q1,q2⟩:=K5 hn
  exact EV.cast (ie CY CY aG (aa 0 rfl) aG) (by rw[q1,q2];rfl)
 ·have e1:decide ((1:Int)<=(x.length:Int))=true:=Uw (by omega)
  have e2:decide ((x.length:Int)<=8)=true:=Uw (by omega)
  rw[e1,e2]
  simp
abbrev Hc:Stmt:=top pQ
theorem Gh:ay ["words","word"] ["words","word"] (ag Hc):=UY
def M1:bQ:=λK ps T=>∃(ws:Of) (i:Nat),ps=[⟨ae aj,ws⟩,⟨ah,(i:Int)⟩]/\i+1<ws.length/\cG (ws.getD (i+1) "")/\T=bL K aj (· =ws.getD (i+1) "")
theorem KY (M:cb K mg)(CI:aA P w K mg base "is_name" 1 (aE ME K))(Df:Def K mg "name_behind" Hc ["words","word"]):aA P w K mg base "name_behind" 2 (aE M1 K):=by
 have nd:=Gh.nd
 refine bc Df Gh (λf UE A outer s H E qs T hr hS=>?_)
 obtain⟨ws,i,rfl,hi,hn,rfl⟩:=hS
 change WS _ _ [.im (ae aj) ws,ao (i:Int)] _ _
 have Vn:bU ws ((i:Int)+1)=some (ws.getD (i+1) ""):=aV (xs:=ws) (i:=((i:Int)+1)) "" (by omega) (by omega)
 refine ai (ba (TW.tv (fQ (aD eo (cg (aa 1 rfl) ev_int) (cX M.len (aa 0 rfl))) (λ_=>fc (bW (cj (aB CI hr (af (aY (aa 0 rfl) (cg (aa 1 rfl) ev_int) Vn) aq) ⟨_,rfl,hn,rfl⟩)))))) (λh=>?_) (λh=>aL ?_))
 ·rw[Ux (show¬(i:Int)+1=(ws.length:Int) by omega)] at h
  cases h
 ·exact ak (aN (aY (aa 0 rfl) (cg (aa 1 rfl) ev_int) Vn) rfl)
abbrev GD:Stmt:=top tH
theorem JT:ay ["kind","opened"] ["kind","opened"] (ag GD):=UY
def Mn:bQ:=λK ps T=>∃(k:Str) (ks:Of),ps=[⟨aj,k⟩,⟨ae aj,ks⟩]/\T=bL K bF (· =fu k ks)
theorem vR {ks:Of}(h:ks≠[]):bU ks (-1)=some (ks.getLast?.getD ""):=by
 obtain⟨l,x,rfl⟩:∃l x,ks=l++[x]:=⟨ks.dropLast,ks.getLast h,(Ph h).symm⟩
 unfold bU
 rw[show fb (l++[x]).length (-1)=some l.length by unfold fb;simp;omega]
 simp
theorem Le (M2:kg K mg)(Df:Def K mg "may_stand" GD ["kind","opened"]):aA P w K mg base "may_stand" 1 (aE Mn K):=by
 have nd:=JT.nd
 refine bc Df JT (λf UE A outer s H E qs T hr hS=>?_)
 obtain⟨k,ks,rfl,rfl⟩:=hS
 change WS _ _ [.im aj k,.im (ae aj) ks] _ _
 refine ai (ba (bW (tO (aa 1 rfl))) (λh=>?_) (λh=>aL ?_))
 ·have h:ks.isEmpty=true:=by simpa using h
  exact ak (aN (dm cv (aa 0 rfl) aG) (by unfold fu;rw[Ut h]))
 have h0:¬ks.isEmpty=true:=by simpa using h
 have UJ:ks≠[]:=λz=>h0 (by rw[z];rfl)
 refine ai (ba (aD cv (aa 0 rfl) aG) (λh=>?_) (λh=>aL ?_))
 ·have h:k="leave":=Uu h
  exact ak (aN (dm uZ aG (aa 1 rfl)) (by unfold fu;rw[Us h0,Ut h]))
 have h1:¬k="leave":=Uv h
 refine ai (ba (aD cv (aa 0 rfl) aG) (λh=>?_) (λh=>aL ?_))
 ·have h:k="else":=Uu h
  exact ak (aN (dm cv (aY (aa 1 rfl) (fM ev_int) (vR UJ)) aG) (by unfold fu;rw[Us h0,Us h1,Ut h]))
 have h2:¬k="else":=Uv h
 refine ai (ba (aD cv (aa 0 rfl) aG) (λh=>?_) (λh=>aL ?_))
 ·have h:k="end":=Uu h
  exact ak (aN (dm C6 (aY (aa 1 rfl) (fM ev_int) (vR UJ)) aG) (by unfold fu;rw[Us h0,Us h1,Us h2,Ut h]))
 have h3:¬k="end":=Uv h
 exact ak (aN (dm jY (aa 0 rfl) (gx M2.UW)) (by unfold fu;rw[Us h0,Us h1,Us h2,Us h3]))
end
theorem uK (ws:Of):∀i,(U2 (jf ws) i ⟨[],[],0⟩).S.length=i/\i<=(U2 (jf ws) i ⟨[],[],0⟩).w/\(U2 (jf ws) i ⟨[],[],0⟩).O.length<=i
 | 0=>⟨rfl,QC _,QC _⟩
 | i+1=>by
   obtain⟨a,b,c⟩:=uK ws i
   rw[U2]
   generalize U2 (jf ws) i ⟨[],[],0⟩=x at a b c
   unfold jf VQ
   refine⟨by rw[OI,a];rfl,?_,?_⟩
   ·dsimp only
    split<;>omega
   ·rw[OI]
    have h1:(if vq ws x∈UG then x.O.dropLast else x.O).length<=x.O.length:=by
     split
     ·rw[PH];omega
     ·exact QC _
    have h2:(if vq ws x∈U9 then[(x.S.length:Int)] else[]).length<=1:=by split<;>simp
    omega
theorem Bx {O:Oe}(h:O≠[]):bU O (-1)=some (O.getLast?.getD (-1)):=by
 obtain⟨l,x,rfl⟩:∃l x,O=l++[x]:=⟨O.dropLast,O.getLast h,(Ph h).symm⟩
 unfold bU
 rw[show fb (l++[x]).length (-1)=some l.length by unfold fb;simp;omega]
 simp
theorem BU {O:Oe}(h:O≠[]):O[O.length-1]?=some (O.getLast?.getD (-1)):=by
 obtain⟨l,x,rfl⟩:∃l x,O=l++[x]:=⟨O.dropLast,O.getLast h,(Ph h).symm⟩
 simp
section
structure wX (P:Rh) (w:World) (K:T2) (mg:Oc) (base:Heap) (C:Addr):Prop where
 cl:bH K C gT
 ex:∃fi Wr,Mk K C fi/\dY P w K mg base d7 1 fi Wr tL (vA (My C) K)/\Binds K Wr tL []
 mg:mg "Step"=some (.ref C)
theorem EO {X:Cx}{Γ Γ1:Ga}{C:Addr}{e:Expr}{es:Oj}{p pos:Pos}{s:aI}(G:wX X.prog X.w X.K X.mg X.base C)(hr:bI 2 X.A)(ha:HA X (e::es) Γ [⟨aj,s.kind⟩,⟨aj,s.name⟩,⟨ah,s.word⟩,⟨ah,s.within⟩] Γ1)
 (hg:Gl X "Step":=by rfl) (he:Rc (e::es) X.env=(false,eval e X.env)::Rc es X.env:=by rfl) (U0:(Rk pos (Rc es X.env)).any (·.1)=false:=by rfl):EV X (.Call (.Name "Step" p) (e::es) [] pos) Γ (bh C) s Γ1:=by
 obtain⟨fi,Wr,MK,SI,bi⟩:=G.ex
 exact vM MK SI hr G.mg bi ha ⟨rfl,s,rfl,rfl⟩ (λfs R x dx vs hP h1 h2=>by subst hP;exact⟨x,dx,vs,rfl,h2,h1⟩) hg (by decide) he U0
abbrev Cb:Stmt:=top Fi
abbrev L8:Of:=["text","words","steps","opened","word","kind","name"]
theorem Ib:ay L8 ["text"] (ag Cb):=UY
def M6 (C:Addr):bQ:=λK ps T=>∃(ws:Of) (n:Nat) (S:List aI),ps=[⟨aj,TJ " " ws⟩]/\ws≠[]/\ws.length<=240/\(∀w∈ws,fU w)/\gi ws n ⟨[],[],0⟩ ⟨S,[],ws.length⟩/\T=bL K (ae (bh C)) (· =S)
theorem AA {ws:Of}(h:∀w∈ws,fU w)(hl:ws.length<=240):(TJ " " ws).length<=Ra:=by
 have:=joinOk_length (vw hl h)
 rwa [v8] at this
theorem LY {C:Addr}(M:cb K mg)(M2:kg K mg)(G:wX P w K mg base C)(CM:aA P w K mg base "may_stand" 1 (aE Mn K))(CN:aA P w K mg base "name_behind" 2 (aE M1 K))(Df:Def K mg "read" Cb ["text"]):aA P w K mg base "read" 3 (aE (M6 C) K):=by
 have nd:=Ib.nd
 have VR:OX [("number":Str),"steps"]:=by decide
 have CM:=CM.mono (show 1<=2 by decide)
 refine bc (k:=2) Df Ib (λf UE A outer s H E qs T hr hS=>?_)
 obtain⟨ws,n,S,rfl,UJ,hl,hw,X6,rfl⟩:=hS
 obtain⟨t,WY⟩:=M2.nost
 have WB:TL (TJ " " ws) " "=ws:=by
  rw[A4]
  exact xf UJ λw h=>(hw w h).f
 change WS _ _ [.im aj (TJ " " ws),.no,.no,.no,.no,.no,.no] _ _
 generalize hj:TJ " " ws=txt at WB
 have htl:txt.length<=Ra:=by rw[← hj];exact AA hw hl
 refine ai (aU 1 (y:=ws) (EV.cast (aW.im (yy (aa 0 rfl) aG (by decide +kernel) htl (by rw[WB];exact aH (by omega)))) WB) ?_)
 refine ai (bV 2 (r:=bh C) (ys:=[]) (aR aT (QE _)) ?_)
 refine ai (bV 3 (r:=ah) (ys:=[]) (aR aT (QE _)) ?_)
 refine ai (aU 4 (y:=(0:Int)) ev_int ?_)
 change WS _ _ [.im aj txt,.im (ae aj) ws,.mu (bh C) [],.mu ah [],ao 0,.no,.no] _ _
 have hinv:=uK ws
 have Vz:∀i,U2 (jf ws) (i+1) ⟨[],[],0⟩=jf ws (U2 (jf ws) i ⟨[],[],0⟩):=λi=>rfl
 have h0:U2 (jf ws) 0 ⟨[],[],0⟩=⟨[],[],0⟩:=rfl
 obtain⟨VU,hrd⟩:=X6
 generalize hx:(λi=>U2 (jf ws) i ⟨[],[],0⟩)=x at *
 have hxi:∀i,U2 (jf ws) i ⟨[],[],0⟩=x i:=λi=>by rw[← hx]
 simp only[hxi] at hinv Vz h0 VU hrd
 refine bN (N1:=λΓ=>∃e5 e6,Γ=[.im aj txt,.im (ae aj) ws,.mu (bh C) S,.mu ah [],ao (ws.length:Int),e5,e6]) (jr (λk Γ=>∃i,k+i=n/\∃e5 e6,Γ=[.im aj txt,.im (ae aj) ws,.mu (bh C) (x i).S,.mu ah (x i).O,ao ((x i).w:Int),e5,e6]) (m0:=n) ⟨0,rfl,_,_,by rw[h0];rfl⟩ (λk Γ hI=>?_)) ?_
 ·obtain⟨i,Ye,e5,e6,rfl⟩:=hI
  obtain⟨iS,iw,iO⟩:=hinv i
  refine⟨decide (((x i).w:Int)<(ws.length:Int)),_,aD gE (aa 4 rfl) (cX M.len (aa 1 rfl)),λh=>?_,λh=>?_⟩
  ·have h:((x i).w:Int)<(ws.length:Int):=Uu h
   have VN:i<n:=by
    rcases QJ i n with z | z
    ·exact z
    ·exfalso
     have:i=n:=by omega
     rw[this,VU] at h
     exact Ur h (Int.lt_irrefl _)
   obtain⟨rw_,Wf,YH,ro⟩:=hrd i VN
   have hs:=Vz i
   generalize x i=y at iS iw iO rw_ Wf YH ro hs h
   obtain⟨Sy,Oy,wy⟩:=y
   dsimp only at iS iw iO rw_ Wf YH ro h ⊢
   have Vn:bU ws (wy:Int)=some (ws.getD wy ""):=aV (xs:=ws) (i:=(wy:Int)) "" (by omega) h
   refine ai (aU 5 (y:=ws.getD wy "") (aY (aa 1 rfl) (aa 4 rfl) Vn) ?_)
   rw[show jf ws ⟨Sy,Oy,wy⟩=VQ (ws.getD wy "") (ws.getD (wy+1) "") ⟨Sy,Oy,wy⟩ from rfl] at hs
   change fu (ws.getD wy "") (Oy.map (aQ Sy))=true at Wf
   change ws.getD wy ""∈named->wy+1<ws.length/\cG (ws.getD (wy+1) "") at YH
   generalize hkd:ws.getD wy ""=kd at Wf YH hs
   change WS _ _ [.im aj txt,.im (ae aj) ws,.mu (bh C) Sy,.mu ah Oy,ao (wy:Int),.im aj kd,e6] _ _
   have cc:(Oy.filter λ_=>true).map (aQ Sy)=Oy.map (aQ Sy):=by rw[Pp.mpr λ_ _=>rfl]
   refine ai (ba (TV.VJ (EH (i:=2) (j:=3) (by decide) rfl rfl (aH (by omega)) (aH (by omega))) (bW (cj (aB CM hr (af (aa 5 rfl) (af (aW.im (bD (own:=["number"]) (fr:=["steps"]) (ix:=[2]) (ra:=ah) (rb:=aj) (p:=λ_=>true) (f:=aQ Sy) (bt (so:=ag Cb) (N0:=L8) rfl rfl (λx h=>a8 h) (by decide +kernel)) (bG (aa 3 rfl))
    (λC s H ex=>aO 0) (λx=>⟨.inr rfl,.inl rfl,trivial⟩) (λC s H ex c hc=>cO) (λC' s H ex o ho _=>gp (C:=C) G.cl (aY (aa 1 rfl) (aa 0 rfl) (aV (xs:=Sy) (i:=o) d9 (ro o ho).1 (ro o ho).2))))) aq)) ⟨kd,Oy.map (aQ Sy),by rw[cc],rfl⟩)))) (λhh=>?_) (λ_=>aL ?_))
   ·rw[Wf] at hh;cases hh
   have Ys:kd∈named->wy+1<ws.length/\cG (ws.getD (wy+1) ""):=YH
   refine ai (aU 6 (y:=if kd∈named then ws.getD (wy+1) "" else "") (EV.cast (j9 (aD jY (aa 5 rfl) (gx M2.named)) (λhh=>aB CN hr (af (aa 1 rfl) (af (aa 4 rfl) aq)) ⟨ws,wy,rfl,(Ys (Uu hh)).1,(Ys (Uu hh)).2,rfl⟩) (λ_=>aG)) (by by_cases z:kd∈named<;>simp[z])) ?_)
   generalize hnam:(if kd∈named then ws.getD (wy+1) "" else "")=Xi
   change WS _ _ [.im aj txt,.im (ae aj) ws,.mu (bh C) Sy,.mu ah Oy,ao (wy:Int),.im aj kd,.im aj Xi] _ _
   have Zd:(if(!Oy.isEmpty)=true then Oy.getLast?.getD (-1) else -1)=Oy.getLast?.getD (-1):=by cases Oy<;>rfl
   refine ai (dR 2 (y:=(⟨kd,Xi,(wy:Int),Oy.getLast?.getD (-1)⟩:aI)) (EO (s:=⟨kd,Xi,(wy:Int),Oy.getLast?.getD (-1)⟩) G hr (af (aa 5 rfl) (af (aa 6 rfl) (af (aa 4 rfl) (af (EV.cast (j9 (jx 3 rfl) (λhh=>kD 3 (fM ev_int) rfl rfl (Bx (λz=>by rw[z] at hh;cases hh))) (λ_=>ck WY)) Zd) aq))))) rfl rfl (QF (show _<=1000 by omega) (by decide)) ?_)
   change WS _ _ [.im aj txt,.im (ae aj) ws,.mu (bh C) (Sy++[⟨kd,Xi,(wy:Int),Oy.getLast?.getD (-1)⟩]),.mu ah Oy,ao (wy:Int),.im aj kd,.im aj Xi] _ _
   have hS':(VQ kd (ws.getD (wy+1) "") ⟨Sy,Oy,wy⟩).S=Sy++[⟨kd,Xi,(wy:Int),Oy.getLast?.getD (-1)⟩]:=by unfold VQ nS;dsimp only;rw[hnam]
   rw[← hS']
   have hSl:(VQ kd (ws.getD (wy+1) "") ⟨Sy,Oy,wy⟩).S.length=Sy.length+1:=by rw[hS',OI];rfl
   have hOe:(VQ kd (ws.getD (wy+1) "") ⟨Sy,Oy,wy⟩).O=(if kd∈UG then Oy.dropLast else Oy)++(if kd∈U9 then[(Sy.length:Int)] else[]):=rfl
   have hwe:(VQ kd (ws.getD (wy+1) "") ⟨Sy,Oy,wy⟩).w=wy+(if kd∈named then 2 else 1):=rfl
   generalize VQ kd (ws.getD (wy+1) "") ⟨Sy,Oy,wy⟩=z at hs hS' hSl hOe hwe
   refine bN (N1:=λΓ=>Γ=[.im aj txt,.im (ae aj) ws,.mu (bh C) z.S,.mu ah (if kd∈UG then Oy.dropLast else Oy),ao (wy:Int),.im aj kd,.im aj Xi]) (ba (aD jY (aa 5 rfl) (gx M2.UG)) (λhh=>?_) (λhh=>aL ?_)) ?_
   ·have hh:kd∈UG:=Uu hh
    have hOne:Oy≠[]:=λe=>by
     rw[e] at Wf
     have:kd="part":=Uu Wf
     rw[this] at hh
     exact Ur hh (by decide +kernel)
    refine ak (mx (oz 3 rfl (BU hOne)) ?_)
    rw[Ut hh];rfl
   ·have hh:¬kd∈UG:=Uv hh
    rw[Us hh]
   rintro _ rfl
   have hOl:(if kd∈UG then Oy.dropLast else Oy).length<=Oy.length:=by
    split
    ·rw[PH];omega
    ·exact QC _
   generalize (if kd∈UG then Oy.dropLast else Oy)=O1 at hOe hOl
   refine bN (N1:=λΓ=>Γ=[.im aj txt,.im (ae aj) ws,.mu (bh C) z.S,.mu ah z.O,ao (wy:Int),.im aj kd,.im aj Xi]) (ba (aD jY (aa 5 rfl) (gx M2.U9)) (λhh=>?_) (λhh=>aL ?_)) ?_
   ·have hh:kd∈U9:=Uu hh
    refine ak (dR 3 (EV.cast (y':=(Sy.length:Int)) (gc (qC 2 M.len rfl) ev_int) (by omega)) rfl rfl (QF (show _<=1000 by omega) (by decide)) ?_)
    rw[hOe,Ut hh];rfl
   ·have hh:¬kd∈U9:=Uv hh
    rw[hOe,Us hh,Pf]
   rintro _ rfl
   refine ak (yM 4 (c:=if kd∈named then 2 else 1) (EV.cast (j9 (aD jY (aa 5 rfl) (gx M2.named)) (λ_=>ev_int) (λ_=>ev_int)) (by by_cases z:kd∈named<;>simp[z])) rfl ⟨k-1,by omega,i+1,by omega,.im aj kd,.im aj Xi,?_⟩)
   rw[hs,hwe]
   by_cases q:kd∈named
   ·rw[Ut q,Ut q];rfl
   ·rw[Us q,Us q];rfl
  ·have h:¬((x i).w:Int)<(ws.length:Int):=Uv h
   have VN:i=n:=by
    rcases QJ i n with z | z
    ·exact Ur (by have:=(hrd i z).w;omega) h
    ·omega
   subst VN
   refine⟨e5,e6,?_⟩
   rw[VU]
 rintro _ ⟨e5,e6,rfl⟩
 have hSn:S.length<=240:=by
  obtain⟨a,b,c⟩:=hinv n
  rw[VU] at a b
  dsimp only at a b
  omega
 refine ai (ba (jx 3 rfl) (λhh=>by cases hh) (λ_=>aL ?_))
 refine WS.freeze 2 rfl (aH (by omega)) ?_
 exact ak (aN (aa 2 rfl) rfl)
end
theorem ru {A:Ri}{k:Nat}(hr:bI k A):A.units+1<cLine:=by have:=hr.units;omega
def fW (F:Ol)(z:Int×aI):Ol:=if z.2.kind∈UG then lK F z.2.within z.1 else F
def dI (S:List aI):Ol:=(nums S).foldl fW []
theorem BW {F:Ol}{z:Int×aI}:(fW F z).length<=F.length+1:=by
 unfold fW
 split
 ·exact A6 _ _ _
 ·omega
theorem Ja (S:List aI)(i:Nat):(((nums S).take i).foldl fW []).length<=i:=by
 induction i with
 | zero=>exact QC _
 | succ i ih=>
   rw[Pg,P4]
   cases e:(nums S)[i]? with
   | none=>exact Nat.le_succ_of_le ih
   | some z=>
     show(fW _ z).length<=_
     exact QD BW (by omega)
abbrev cn (S:List aI)(o:Int):Int:=(S.getD o.toNat d9).within
def Ar (S:List aI)(n:Int)(kd:Str)(a:Int):Prop:=∃k:Nat,U2 (cn S) k (cn S n)=a/\(∀j,j<=k->0<=U2 (cn S) j (cn S n)/\U2 (cn S) j (cn S n)<(S.length:Int))/\(∀j,j<k->aQ S (U2 (cn S) j (cn S n))≠kd)/\aQ S a=kd
inductive dM (S:List aI) (F:Ol) (n:Int):Oe->Prop
 | row {c:Int} (h:aQ S n="if"∨aQ S n="while") (hc:bE F n=some c):dM S F n [n+1,c+1]
 | Xt {c:Int} (h:aQ S n="else") (hc:bE F n=some c):dM S F n [c]
 | Xj {a c:Int} (h:aQ S n="leave") (ha:Ar S n "while" a) (hc:bE F a=some c):dM S F n [c+1]
 | Xw {a c:Int} (h:aQ S n="back") (ha:Ar S n "part" a) (hc:bE F a=some c):dM S F n [c]
 | Xr (h:aQ S n="end") (h0:0<=cn S n) (h1:cn S n<(S.length:Int)) (hk:aQ S (cn S n)="while"):dM S F n [cn S n]
 | Xa (h:aQ S n="end") (h0:0<=cn S n) (h1:cn S n<(S.length:Int)) (hk:aQ S (cn S n)="part"):dM S F n []
 | Xs (h:aQ S n="end") (h0:0<=cn S n) (h1:cn S n<(S.length:Int)) (hk:aQ S (cn S n)="else"):dM S F n [n+1]
 | WQ (h:aQ S n="part"∨aQ S n="do"∨aQ S n="call"):dM S F n [n+1]
section
variable {C:Addr}
abbrev JF:Stmt:=top n5
abbrev nCS:Of:=["steps","closing","number","step"]
theorem FX:ay nCS ["steps"] (ag JF):=UY
def Ic (C:Addr):bQ:=λK ps T=>∃S:List aI,ps=[⟨ae (bh C),S⟩]/\S.length<=1000/\T=bL K iQ (· =dI S)
theorem Lb (M:cb K mg)(M2:kg K mg)(HC:bH K C gT)(Df:Def K mg "closing_steps" JF ["steps"]):aA P w K mg base "closing_steps" 1 (aE (Ic C) K):=by
 have nd:=FX.nd
 refine bc Df FX (λf UE A outer s H E qs T hr hS=>?_)
 obtain⟨S,rfl,hl,rfl⟩:=hS
 change WS _ _ [.im (ae (bh C)) S,.no,.no,.no] _ _
 refine ai (qw 1 ?_)
 refine bN (N1:=λΓ=>∃e2 e3,Γ=[.im (ae (bh C)) S,.di (cR (dI S)),e2,e3]) (bX (λi Γ=>∃e2 e3,Γ=[.im (ae (bh C)) S,.di (cR (((nums S).take i).foldl fW [])),e2,e3]) (gJ M.enumerate (aa 0 rfl)) (fo 2 3) ⟨_,_,rfl⟩ (λi z Γ hz hΓ=>?_) (λΓ hΓ=>?_)) ?_
 ·obtain⟨e2,e3,rfl⟩:=hΓ
  obtain⟨n,st⟩:=z
  have fl:=Ja S i
  have il:i<S.length:=by have:=(OD.mp hz).1;rwa [c5] at this
  have VC:((nums S).take (i+1)).foldl fW []=fW (((nums S).take i).foldl fW []) (n,st):=by rw[Pg,hz,P4];rfl
  rw[VC]
  generalize ((nums S).take i).foldl fW []=Fd at fl
  change WS _ _ [.im (ae (bh C)) S,.di (cR Fd),ao n,.im (bh C) st] _ _
  refine ak (ba (aD jY (gp (C:=C) HC (aa 3 rfl)) (gx M2.UG)) (λh=>?_) (λh=>aL ⟨ao n,.im (bh C) st,?_⟩))
  ·have h:st.kind∈UG:=Uu h
   refine ak (JP 1 (ru hr) (oJ (C:=C) HC (aa 3 rfl)) (aa 2 rfl) rfl (QF (show _<=1000 by omega) (by decide)) ⟨ao n,.im (bh C) st,?_⟩)
   unfold fW;rw[Ut h];rfl
  ·have h:¬st.kind∈UG:=Uv h
   unfold fW;rw[Us h]
 ·obtain⟨e2,e3,rfl⟩:=hΓ
  refine⟨e2,e3,?_⟩
  rw[Pl];rfl
 rintro _ ⟨e2,e3,rfl⟩
 exact ak (vS 1 rfl rfl)
abbrev Jb:Stmt:=top yv
abbrev nAR:Of:=["steps","number","kind","found"]
theorem Ip:ay nAR ["steps","number","kind"] (ag Jb):=UY
def MI (C:Addr):bQ:=λK ps T=>∃(S:List aI) (n a:Int) (kd:Str),ps=[⟨ae (bh C),S⟩,⟨ah,n⟩,⟨aj,kd⟩]/\0<=n/\n<(S.length:Int)/\Ar S n kd a/\T=bL K ah (· =a)
theorem Ko (HC:bH K C gT)(Df:Def K mg "around" Jb ["steps","number","kind"]):aA P w K mg base "around" 1 (aE (MI C) K):=by
 have nd:=Ip.nd
 refine bc Df Ip (λf UE A outer s H E qs T hr hS=>?_)
 obtain⟨S,n,a,kd,rfl,n0,n1,⟨k,ha,VN,UJ,hk⟩,rfl⟩:=hS
 change WS _ _ [.im (ae (bh C)) S,ao n,.im aj kd,.no] _ _
 refine ai (aU 3 (y:=cn S n) (oJ (C:=C) HC (aY (aa 0 rfl) (aa 1 rfl) (aV (xs:=S) (i:=n) d9 n0 n1))) ?_)
 refine bN (N1:=λΓ=>Γ=[.im (ae (bh C)) S,ao n,.im aj kd,ao a]) (jr (λm Γ=>∃i,m+i=k/\Γ=[.im (ae (bh C)) S,ao n,.im aj kd,ao (U2 (cn S) i (cn S n))]) (m0:=k) ⟨0,rfl,rfl⟩ (λm Γ hI=>?_)) ?_
 ·obtain⟨i,hi,rfl⟩:=hI
  obtain⟨o0,o1⟩:=VN i (by omega)
  have hs:U2 (cn S) (i+1) (cn S n)=cn S (U2 (cn S) i (cn S n)):=rfl
  have Y7:=UJ i
  have Ye:i=k->aQ S (U2 (cn S) i (cn S n))=kd/\U2 (cn S) i (cn S n)=a:=λe=>by rw[e,ha];exact⟨hk,rfl⟩
  generalize U2 (cn S) i (cn S n)=o at o0 o1 hs Y7 Ye
  refine⟨!decide (aQ S o=kd),_,aD C6 (gp (C:=C) HC (aY (aa 0 rfl) (aa 3 rfl) (aV (xs:=S) (i:=o) d9 o0 o1))) (aa 2 rfl),λh=>?_,λh=>?_⟩
  ·have h:¬aQ S o=kd:=by simpa using h
   have ik:i<k:=by
    rcases QJ i k with z | z
    ·exact z
    ·exact Ur (Ye (by omega)).1 h
   exact ak (aU 3 (oJ (C:=C) HC (aY (aa 0 rfl) (aa 3 rfl) (aV (xs:=S) (i:=o) d9 o0 o1))) ⟨m-1,by omega,i+1,by omega,by rw[hs];rfl⟩)
  ·have h:aQ S o=kd:=by simpa using h
   have ik:i=k:=by
    rcases QJ i k with z | z
    ·exact Ur h (Y7 z)
    ·omega
   rw[(Ye ik).2]
 rintro _ rfl
 exact ak (aN (aa 3 rfl) rfl)
abbrev Io:Stmt:=top rL
abbrev nLF:Of:=["steps","closing","number","kind","ended"]
abbrev Me:Of:=["steps","closing","number"]
theorem IT:ay nLF Me (ag Io):=UY
def L5 (C:Addr):bQ:=λK ps T=>∃(S:List aI) (F:Ol) (n:Int) (ls:Oe),ps=[⟨ae (bh C),S⟩,⟨iQ,F⟩,⟨ah,n⟩]/\0<=n/\n<(S.length:Int)/\dM S F n ls/\T=bL K (ae ah) (· =ls)
def vk (S:List aI)(n:Int):Str:=if aQ S n="end" then aQ S (cn S n) else ""
theorem Kz (HC:bH K C gT)(CA:aA P w K mg base "around" 1 (aE (MI C) K))(Df:Def K mg "leads_from" Io Me):aA P w K mg base "leads_from" 2 (aE (L5 C) K):=by
 have nd:=IT.nd
 refine bc Df IT (λf UE A outer s H E qs T hr hS=>?_)
 obtain⟨S,Fd,n,ls,rfl,n0,n1,hL,rfl⟩:=hS
 have hu:=ru hr
 have Vn:bU S n=some (S.getD n.toNat d9):=aV (xs:=S) (i:=n) d9 n0 n1
 have hen:aQ S n="end"->0<=cn S n/\cn S n<(S.length:Int):=λh=>by
  cases hL with
  | row g hc=>rcases g with g | g<;>rw[g] at h<;>exact Ur h (by decide +kernel)
  | Xt g hc=>rw[g] at h;exact Ur h (by decide +kernel)
  | Xj g ha hc=>rw[g] at h;exact Ur h (by decide +kernel)
  | Xw g ha hc=>rw[g] at h;exact Ur h (by decide +kernel)
  | Xr g h0 h1 hk=>exact⟨h0,h1⟩
  | Xa g h0 h1 hk=>exact⟨h0,h1⟩
  | Xs g h0 h1 hk=>exact⟨h0,h1⟩
  | WQ g=>rcases g with g | g | g<;>rw[g] at h<;>exact Ur h (by decide +kernel)
 change WS _ _ [.im (ae (bh C)) S,.im iQ Fd,ao n,.no,.no] _ _
 refine ai (aU 3 (y:=aQ S n) (gp (C:=C) HC (aY (aa 0 rfl) (aa 2 rfl) Vn)) ?_)
 refine ai (aU 4 (y:=vk S n) (EV.cast (j9 (x:=aQ S (cn S n)) (aD cv (aa 3 rfl) aG) (λh=>gp (C:=C) HC (aY (aa 0 rfl) (oJ (C:=C) HC (aY (aa 0 rfl) (aa 2 rfl) Vn)) (aV (xs:=S) (i:=cn S n) d9 (hen (Uu h)).1 (hen (Uu h)).2))) (λ_=>aG)) (by unfold vk;by_cases h:aQ S n="end"<;>simp[h])) ?_)
 change WS _ _ [.im (ae (bh C)) S,.im iQ Fd,ao n,.im aj (aQ S n),.im aj (vk S n)] _ _
 have en0:aQ S n≠"end"->vk S n="":=λh=>Us h
 have YB:aQ S n="end"->vk S n=aQ S (cn S n):=λh=>Ut h
 generalize hE:vk S n=ed at en0 YB
 have one_le:(1:Nat)<=Ra:=by decide
 refine ai (ba (aD jY (aa 3 rfl) (vX (xs:=["if","while"]) (av (EV.pS aG) (av (EV.pS aG) aT)) (by show 2<=Ra;decide))) (λh=>?_) (λh=>aL ?_))
 ·have h:aQ S n∈(["if","while"]:Of):=Uu h
  cases hL with
  | row g hc=>exact ak (aN (aW.im (aR (r:=ah) (av (cg (aa 2 rfl) ev_int) (av (cg (jC hu (aa 1 rfl) (aa 2 rfl) hc) ev_int) aT)) (by show 2<=Ra;decide))) rfl)
  | Xt g hc=>rw[g] at h;exact Ur h (by decide +kernel)
  | Xj g ha hc=>rw[g] at h;exact Ur h (by decide +kernel)
  | Xw g ha hc=>rw[g] at h;exact Ur h (by decide +kernel)
  | Xr g h0 h1 hk=>rw[g] at h;exact Ur h (by decide +kernel)
  | Xa g h0 h1 hk=>rw[g] at h;exact Ur h (by decide +kernel)
  | Xs g h0 h1 hk=>rw[g] at h;exact Ur h (by decide +kernel)
  | WQ g=>rcases g with g | g | g<;>rw[g] at h<;>exact Ur h (by decide +kernel)
 have h1:¬aQ S n∈(["if","while"]:Of):=Uv h
 refine ai (ba (aD cv (aa 3 rfl) aG) (λh=>?_) (λh=>aL ?_))
 ·have h:aQ S n="else":=Uu h
  cases hL with
  | row g hc=>rcases g with g | g<;>rw[g] at h<;>exact Ur h (by decide +kernel)
  | Xt g hc=>exact ak (aN (aW.im (aR (r:=ah) (av (jC hu (aa 1 rfl) (aa 2 rfl) hc) aT) one_le)) rfl)
  | Xj g ha hc=>rw[g] at h;exact Ur h (by decide +kernel)
  | Xw g ha hc=>rw[g] at h;exact Ur h (by decide +kernel)
  | Xr g h0 h1 hk=>rw[g] at h;exact Ur h (by decide +kernel)
  | Xa g h0 h1 hk=>rw[g] at h;exact Ur h (by decide +kernel)
  | Xs g h0 h1 hk=>rw[g] at h;exact Ur h (by decide +kernel)
  | WQ g=>rcases g with g | g | g<;>rw[g] at h<;>exact Ur h (by decide +kernel)
 have h2:¬aQ S n="else":=Uv h
 refine ai (ba (aD cv (aa 3 rfl) aG) (λh=>?_) (λh=>aL ?_))
 ·have h:aQ S n="leave":=Uu h
  cases hL with
  | row g hc=>rcases g with g | g<;>rw[g] at h<;>exact Ur h (by decide +kernel)
  | Xt g hc=>rw[g] at h;exact Ur h (by decide +kernel)
  | Xj g ha hc=>exact ak (aN (aW.im (aR (r:=ah) (av (cg (jC hu (aa 1 rfl) (aB CA hr (af (aa 0 rfl) (af (aa 2 rfl) (af aG aq))) ⟨S,n,_,_,rfl,n0,n1,ha,rfl⟩) hc) ev_int) aT) one_le)) rfl)
  | Xw g ha hc=>rw[g] at h;exact Ur h (by decide +kernel)
  | Xr g h0 h1 hk=>rw[g] at h;exact Ur h (by decide +kernel)
  | Xa g h0 h1 hk=>rw[g] at h;exact Ur h (by decide +kernel)
  | Xs g h0 h1 hk=>rw[g] at h;exact Ur h (by decide +kernel)
  | WQ g=>rcases g with g | g | g<;>rw[g] at h<;>exact Ur h (by decide +kernel)
 have h3:¬aQ S n="leave":=Uv h
 refine ai (ba (aD cv (aa 3 rfl) aG) (λh=>?_) (λh=>aL ?_))
 ·have h:aQ S n="back":=Uu h
  cases hL with
  | row g hc=>rcases g with g | g<;>rw[g] at h<;>exact Ur h (by decide +kernel)
  | Xt g hc=>rw[g] at h;exact Ur h (by decide +kernel)
  | Xj g ha hc=>rw[g] at h;exact Ur h (by decide +kernel)
  | Xw g ha hc=>exact ak (aN (aW.im (aR (r:=ah) (av (jC hu (aa 1 rfl) (aB CA hr (af (aa 0 rfl) (af (aa 2 rfl) (af aG aq))) ⟨S,n,_,_,rfl,n0,n1,ha,rfl⟩) hc) aT) one_le)) rfl)
  | Xr g h0 h1 hk=>rw[g] at h;exact Ur h (by decide +kernel)
  | Xa g h0 h1 hk=>rw[g] at h;exact Ur h (by decide +kernel)
  | Xs g h0 h1 hk=>rw[g] at h;exact Ur h (by decide +kernel)
  | WQ g=>rcases g with g | g | g<;>rw[g] at h<;>exact Ur h (by decide +kernel)
 have h4:¬aQ S n="back":=Uv h
 have WY:∀{k:Str},k≠""->aQ S n≠"end"->ed≠k:=λhk h z=>hk (by rw[← z,en0 h])
 refine ai (ba (aD cv (aa 4 rfl) aG) (λh=>?_) (λh=>aL ?_))
 ·have h:ed="while":=Uu h
  cases hL with
  | row g hc=>exact Ur h (WY (by decide +kernel) (by rcases g with g | g<;>rw[g]<;>decide +kernel))
  | Xt g hc=>exact Ur g h2
  | Xj g ha hc=>exact Ur g h3
  | Xw g ha hc=>exact Ur g h4
  | Xr g h0 h1 hk=>exact ak (aN (aW.im (aR (r:=ah) (av (oJ (C:=C) HC (aY (aa 0 rfl) (aa 2 rfl) Vn)) aT) one_le)) rfl)
  | Xa g h0 h1 hk=>rw[YB g,hk] at h;exact Ur h (by decide +kernel)
  | Xs g h0 h1 hk=>rw[YB g,hk] at h;exact Ur h (by decide +kernel)
  | WQ g=>exact Ur h (WY (by decide +kernel) (by rcases g with g | g | g<;>rw[g]<;>decide +kernel))
 have h5:¬ed="while":=Uv h
 cases hL with
 | row g hc=>exact Ur (by rcases g with g | g<;>rw[g]<;>decide +kernel) h1
 | Xt g hc=>exact Ur g h2
 | Xj g ha hc=>exact Ur g h3
 | Xw g ha hc=>exact Ur g h4
 | Xr g h0 h1 hk=>exact Ur ((YB g).trans hk) h5
 | Xa g h0 h1 hk=>
   have e:ed="part":=(YB g).trans hk
   exact ak (aN (y:=([]:Oe)) (EV.cast (j9 (y:=([]:Oe)) (aD cv (aa 4 rfl) aG) (λ_=>aW.im (aR (r:=ah) aT (QE _))) (λh=>Ur e (Uv h))) (by split<;>rfl)) rfl)
 | Xs g h0 h1 hk=>
   have e:ed≠"part":=by rw[YB g,hk];decide +kernel
   exact ak (aN (y:=[n+1]) (EV.cast (j9 (x:=[n+1]) (aD cv (aa 4 rfl) aG) (λh=>Ur (Uu h) e) (λ_=>aW.im (aR (r:=ah) (av (cg (aa 2 rfl) ev_int) aT) one_le))) (by split<;>rfl)) rfl)
 | WQ g=>
   have e:ed≠"part":=WY (by decide +kernel) (by rcases g with g | g | g<;>rw[g]<;>decide +kernel)
   exact ak (aN (y:=[n+1]) (EV.cast (j9 (x:=[n+1]) (aD cv (aa 4 rfl) aG) (λh=>Ur (Uu h) e) (λ_=>aW.im (aR (r:=ah) (av (cg (aa 2 rfl) ev_int) aT) one_le))) (by split<;>rfl)) rfl)
abbrev DE:Stmt:=top vb
abbrev L9:Of:=["steps","closing"]
theorem Ii:ay L9 ["steps"] (ag DE):=UY
def xy (S:List aI)(Ld:List Oe):Prop:=Ld.length=S.length/\∀n:Nat,n<S.length->dM S (dI S) (n:Int) (Ld.getD n [])
def MF (C:Addr):bQ:=λK ps T=>∃(S:List aI) (Ld:List Oe),ps=[⟨ae (bh C),S⟩]/\S.length<=1000/\xy S Ld/\T=bL K (ae (ae ah)) (· =Ld)
theorem Bp (Ld:List Oe):((ups 0 Ld.length).filter λ_=>true).map (λn=>Ld.getD n.toNat [])=Ld:=by
 rw[Pp.mpr λ_ _=>rfl]
 refine PU λi=>?_
 unfold ups
 rw[OJ,OJ]
 rcases QJ i Ld.length with h | h
 ·rw[Pt h,OE h]
  show some (Ld.getD (0+(i:Int)).toNat [])=_
  rw[show(0+(i:Int)).toNat=i by omega,OG,OE h];rfl
 ·rw[Pe (by simpa using h),Pe h];rfl
theorem LC (M:cb K mg)(CC:aA P w K mg base "closing_steps" 1 (aE (Ic C) K))(CF:aA P w K mg base "leads_from" 2 (aE (L5 C) K))(Df:Def K mg "leads_in" DE ["steps"]):aA P w K mg base "leads_in" 3 (aE (MF C) K):=by
 have nd:=Ii.nd
 have VR:OX [("number":Str),"steps","closing"]:=by decide
 have CC:=CC.mono (show 1<=2 by decide)
 refine bc (k:=2) Df Ii (λf UE A outer s H E qs T hr hS=>?_)
 obtain⟨S,Ld,rfl,hl,⟨W7,hL⟩,rfl⟩:=hS
 change WS _ _ [.im (ae (bh C)) S,.no] _ _
 refine ai (aU 1 (y:=dI S) (aB CC hr (af (aa 0 rfl) aq) ⟨S,rfl,hl,rfl⟩) ?_)
 change WS _ _ [.im (ae (bh C)) S,.im iQ (dI S)] _ _
 have cc:=Bp Ld
 rw[W7] at cc
 refine ak (aN (aW.im (bD (own:=["number"]) (fr:=["steps","closing"]) (ix:=[0,1]) (ra:=ah) (rb:=ae ah) (p:=λ_=>true) (f:=λn=>Ld.getD n.toNat []) (bt (so:=ag DE) (N0:=L9) rfl rfl (λx h=>a8 h) (by decide +kernel)) (dg M.range (cX M.len (aa 0 rfl)) ⟨by omega,by omega⟩)
  (λC s H ex=>aO 0) (λx=>⟨.inr rfl,.inl rfl,.inl rfl,trivial⟩) (λC s H ex c hc=>cO) (λC' s H ex o ho _=>?_))) ?_)
 ·obtain⟨i,hi⟩:=OR.mp ho
  obtain⟨il,rfl⟩:=ef hi
  have il:i<S.length:=by omega
  have:=hL i il
  rw[show(i:Int)=0+(i:Int) by omega] at this
  exact aB CF hr (af (aa 1 rfl) (af (aa 2 rfl) (af (aa 0 rfl) aq))) ⟨S,dI S,0+(i:Int),_,rfl,by omega,by omega,by rw[show(0+(i:Int)).toNat=i by omega];exact this,rfl⟩
 ·rw[show((S.length:Int)).toNat=S.length by omega]
  exact cc
abbrev Ct:Stmt:=top vf
abbrev Mf:Of:=["steps","closing"]
theorem Ir:ay Mf ["steps"] (ag Ct):=UY
abbrev gU:=Str×Int×Int
def j2 (p:gU):PV:=.tup [.str p.1,.int p.2.1,.int p.2.2]
def Ha (z:Int×aI):Bool:=decide (z.2.kind="part")
def Ht (S:List aI)(z:Int×aI):gU:=(z.2.name,z.1,(bE (dI S) z.1).getD 0)
def cI (S:List aI):List gU:=((nums S).filter Ha).map (Ht S)
def MY (C:Addr):bQ:=λK ps T=>∃S:List aI,ps=[⟨ae (bh C),S⟩]/\S.length<=1000/\(∀n:Nat,n<S.length->aQ S (n:Int)="part"->(bE (dI S) (n:Int)).isSome)/\T=bL K (ae ax) (· =(cI S).map j2)
theorem mG {S:List aI}{z:Int×aI}(h:z∈nums S):∃n:Nat,n<S.length/\z.1=(n:Int)/\S.getD n d9=z.2:=by
 obtain⟨i,hi⟩:=OR.mp h
 obtain⟨e1,e2⟩:=eJ hi
 exact⟨i,(OD.mp e2).1,e1,by rw[OG,e2];rfl⟩
theorem Ln (M:cb K mg)(HC:bH K C gT)(CC:aA P w K mg base "closing_steps" 1 (aE (Ic C) K))(Df:Def K mg "parts_in" Ct ["steps"]):aA P w K mg base "parts_in" 2 (aE (MY C) K):=by
 have nd:=Ir.nd
 have VR:OX [("number":Str),"step","closing"]:=by decide
 refine bc (k:=1) Df Ir (λf UE A outer s H E qs T hr hS=>?_)
 obtain⟨S,rfl,hl,hp,rfl⟩:=hS
 change WS _ _ [.im (ae (bh C)) S,.no] _ _
 refine ai (aU 1 (y:=dI S) (aB CC hr (af (aa 0 rfl) aq) ⟨S,rfl,hl,rfl⟩) ?_)
 change WS _ _ [.im (ae (bh C)) S,.im iQ (dI S)] _ _
 refine ak (aN (aW.im (bD (own:=["number","step"]) (fr:=["closing"]) (ix:=[1]) (ra:=cD ah (bh C)) (rb:=ax) (p:=Ha) (f:=λz=>j2 (Ht S z)) (bt (so:=ag Ct) (N0:=Mf) rfl rfl (λx h=>a8 h) (by decide +kernel)) (gJ M.enumerate (aa 0 rfl))
  (λC s H ex=>fo 0 1) (λx=>⟨.inr rfl,.inr rfl,.inl rfl,trivial⟩) (λC' s H ex z hz=>?_) (λC' s H ex z hz hpz=>?_))) ?_)
 ·exact fE (aD cv (gp (C:=C) HC (aa 1 rfl)) aG)
 ·obtain⟨n,nl,e1,e2⟩:=mG hz
  have hk:aQ S (n:Int)="part":=by
   unfold aQ
   rw[show((n:Nat):Int).toNat=n by omega,e2]
   exact Uu hpz
  have hs:=hp n nl hk
  rw[← e1] at hs
  have hc:bE (dI S) z.1=some ((bE (dI S) z.1).getD 0):=by
   cases q:bE (dI S) z.1 with
   | none=>rw[q] at hs;cases hs
   | some c=>rfl
  exact ip (av (EV.pS (pE (C:=C) HC (aa 1 rfl))) (av (EV.pI (aa 0 rfl)) (av (EV.pI (jC (ru hr) (aa 2 rfl) (aa 0 rfl) hc)) aT))) (by show 3<=Ra;decide)
 ·unfold cI
  rw[PR];rfl
end
abbrev c9:List (Str×Of):=[("do",["do"]),("call",["call"]),("if",["yes","no"]),("while",["yes","no"])]
def bz (k:Str):Bool:=(cu c9 k).isSome
def px (S:List aI)(Ld:List Oe)(td:Oe)(n:Int):Oe:=
 if(Ld.getD n.toNat []).isEmpty=false/\bz (aQ S n)=false then td.set n.toNat (td.getD ((Ld.getD n.toNat []).getD 0 0).toNat 0) else td
theorem Ee {S:List aI}{Ld:List Oe}{td:Oe}{n:Int}:(px S Ld td n).length=td.length:=by
 unfold px;split
 ·rw[Pj]
 ·rfl
def Wt (S:List aI)(Ld:List Oe)(i:Nat):Oe:=((downs ((S.length:Int)-1) S.length).take i).foldl (px S Ld) (ups 0 S.length)
theorem jJ {S:List aI}{Ld:List Oe}{i:Nat}(h:i<S.length):Wt S Ld (i+1)=px S Ld (Wt S Ld i) ((S.length:Int)-1-(i:Int)):=by
 have hd:(downs ((S.length:Int)-1) S.length)[i]?=some ((S.length:Int)-1-(i:Int)):=by
  unfold downs
  rw[OJ,Pt h];rfl
 unfold Wt
 rw[Pg,hd,P4];rfl
theorem js {S:List aI}{Ld:List Oe}:∀i,i<=S.length->(Wt S Ld i).length=S.length
 | 0,_=>a9 _ _
 | i+1,h=>by rw[jJ h,Ee];exact js i (by omega)
abbrev cF (S:List aI)(Ld:List Oe):Oe:=Wt S Ld S.length
def sT (S:List aI)(Ld:List Oe):Prop:=Ld.length=S.length/\∀ls∈Ld,∀l∈ls,0<=l/\l<(S.length:Int)
section
variable {C:Addr}
abbrev Fv:Stmt:=top sk
abbrev nST:Of:=["steps","leads","told","number"]
theorem Iq:ay nST ["steps","leads"] (ag Fv):=UY
def MZ (C:Addr):bQ:=λK ps T=>∃(S:List aI) (Ld:List Oe),ps=[⟨ae (bh C),S⟩,⟨ae (ae ah),Ld⟩]/\S.length<=1000/\sT S Ld/\T=bL K (ae ah) (· =cF S Ld)
theorem Kf (M:cb K mg)(HC:bH K C gT)(RW:lj P w K mg "ROW_WORDS" c9)(Df:Def K mg "stands_in" Fv ["steps","leads"]):aA P w K mg base "stands_in" 1 (aE (MZ C) K):=by
 have nd:=Iq.nd
 refine bc Df Iq (λf UE A outer s H E qs T hr hS=>?_)
 obtain⟨S,Ld,rfl,hl,⟨W7,VN⟩,rfl⟩:=hS
 change WS _ _ [.im (ae (bh C)) S,.im (ae (ae ah)) Ld,.no,.no] _ _
 refine ai (bV 2 (r:=ah) (ys:=ups 0 S.length) (aW.cst (rP M.list M.range (cX M.len (aa 0 rfl)) ⟨by omega,by omega⟩) (by rw[show((S.length:Int)).toNat=S.length by omega])) ?_)
 refine bN (N1:=λΓ=>∃e3,Γ=[.im (ae (bh C)) S,.im (ae (ae ah)) Ld,.mu ah (cF S Ld),e3]) (bX (λi Γ=>∃e3,Γ=[.im (ae (bh C)) S,.im (ae (ae ah)) Ld,.mu ah (Wt S Ld i),e3]) (xZ M.range (af (gc (cX M.len (aa 0 rfl)) ev_int) (af (fM ev_int) (af (fM ev_int) aq))) ⟨by omega,by omega,by omega,by omega⟩) (aO 3) ⟨_,rfl⟩ (λi n Γ hn hΓ=>?_) (λΓ hΓ=>?_)) ?_
 ·obtain⟨e3,rfl⟩:=hΓ
  obtain⟨il,rfl⟩:=sq hn
  have il:i<S.length:=by omega
  rw[jJ il]
  have tl:=js (S:=S) (Ld:=Ld) i (by omega)
  generalize Wt S Ld i=td at tl
  generalize hnn:(S.length:Int)-1-(i:Int)=n
  have n0:0<=n:=by omega
  have n1:n<(S.length:Int):=by omega
  change WS _ _ [.im (ae (bh C)) S,.im (ae (ae ah)) Ld,.mu ah td,ao n] _ _
  have Vn:bU Ld n=some (Ld.getD n.toNat []):=aV (xs:=Ld) (i:=n) [] n0 (by omega)
  have W6:Ld.getD n.toNat []∈Ld:=by
   rw[OG,OE (show n.toNat<Ld.length by omega)]
   exact O0 _
  refine ak (ba (TW.tv (cT (tO (aY (aa 1 rfl) (aa 3 rfl) Vn)) (λ_=>dQ (zu RW (gp (C:=C) HC (aY (aa 0 rfl) (aa 3 rfl) (aV (xs:=S) (i:=n) d9 n0 n1))))))) (λh=>?_) (λh=>aL ⟨ao n,?_⟩))
  ·have h:(Ld.getD n.toNat []).isEmpty=false/\bz (aQ S n)=false:=by simpa[bz,aQ] using h
   have Za:=VN _ W6
   obtain⟨l,r,hlr⟩:∃l r,Ld.getD n.toNat []=l::r:=by
    cases e:Ld.getD n.toNat [] with
    | nil=>rw[e] at h;exact Ur h.1 (by decide)
    | cons l r=>exact⟨l,r,rfl⟩
   have e0:(Ld.getD n.toNat []).getD 0 0=l:=by rw[hlr];rfl
   have hl0:bU (Ld.getD n.toNat []) 0=some l:=by rw[hlr,mm (by decide) (by simp)];rfl
   obtain⟨l0,l1⟩:=Za l (by rw[hlr];exact OM)
   refine ak (vH 2 (y:=td.getD l.toNat 0) (j:=n.toNat) (kD 2 (aY (aY (aa 1 rfl) (aa 3 rfl) Vn) ev_int hl0) rfl rfl (aV (xs:=td) (i:=l) 0 l0 (by omega))) (aa 3 rfl) rfl rfl (tQ n0 (by omega)) ⟨ao n,?_⟩)
   unfold px
   rw[Ut h,e0];rfl
  ·have h:¬((Ld.getD n.toNat []).isEmpty=false/\bz (aQ S n)=false):=by
    intro z
    unfold bz at z
    unfold aQ at z
    rw[z.1,z.2] at h
    exact Ur h (by decide)
   unfold px
   rw[Us h]
 ·obtain⟨e3,rfl⟩:=hΓ
  rw[g0,show((S.length:Int)-1 - -1).toNat=S.length by omega]
  exact⟨e3,rfl⟩
 rintro _ ⟨e3,rfl⟩
 refine WS.freeze 2 rfl (aH (by rw[js S.length (QC _)];omega)) ?_
 exact ak (aN (aa 2 rfl) rfl)
abbrev Rw:=Int×Int×Str×Str
def h8 (r:Rw):PV:=.tup [.int r.1,.int r.2.1,.str r.2.2.1,.str r.2.2.2]
def jP (Ld:List Oe)(z:Int×aI):List (Str×Int):=((cu c9 z.2.kind).getD []).zip (Ld.getD z.1.toNat [])
def m9 (St:Oe)(z:Int×aI)(y:Str×Int):Rw:=(z.1,St.getD y.2.toNat 0,y.1,z.2.name)
def ee (Ld:List Oe)(St:Oe)(z:Int×aI):List Rw:=(jP Ld z).map (m9 St z)
def gq (S:List aI)(Ld:List Oe)(St:Oe):List Rw:=(nums S).flatMap (ee Ld St)
theorem wK (Ld:List Oe)(z:Int×aI):(jP Ld z).length<=2:=by
 unfold jP
 rw[Pw]
 refine QD (QQ _ _) ?_
 unfold cu
 split
 ·decide
 unfold cu
 split
 ·decide
 unfold cu
 split
 ·decide
 unfold cu
 split
 ·decide
 ·exact QE _
theorem nB {α β:Type}{f:α->List β}{n:Nat}(h:∀x,(f x).length<=n):∀xs:List α,(xs.flatMap f).length<=n*xs.length
 | []=>QE _
 | x::xs=>by
   rw[P6,OI,OP,Nat.mul_succ]
   have:=h x
   have:=nB h xs
   omega
theorem oC (Ld:List Oe)(St:Oe)(z:Int×aI):(ee Ld St z).length<=2:=by unfold ee;rw[OH];exact wK Ld z
abbrev Gi:Stmt:=top xR
abbrev nRI:Of:=["steps","leads","stands","told","number","step","word","lead"]
abbrev MG:Of:=["steps","leads","stands"]
theorem FR:ay nRI MG (ag Gi):=UY
def Mw (C:Addr):bQ:=λK ps T=>∃(S:List aI) (Ld:List Oe) (St:Oe),ps=[⟨ae (bh C),S⟩,⟨ae (ae ah),Ld⟩,⟨ae ah,St⟩]/\S.length<=1000/\sT S Ld/\St.length=S.length/\T=bL K (ae ax) (· =(gq S Ld St).map h8)
theorem LU (M:cb K mg)(HC:bH K C gT)(RW:lj P w K mg "ROW_WORDS" c9)(Df:Def K mg "rows_in" Gi MG):aA P w K mg base "rows_in" 1 (aE (Mw C) K):=by
 have nd:=FR.nd
 refine bc Df FR (λf UE A outer s H E qs T hr hS=>?_)
 obtain⟨S,Ld,St,rfl,hl,⟨W7,VN⟩,hst,rfl⟩:=hS
 change WS _ _ [.im (ae (bh C)) S,.im (ae (ae ah)) Ld,bP St,.no,.no,.no,.no,.no] _ _
 refine ai (bV 3 (r:=ax) (ys:=[]) (aR aT (QE _)) ?_)
 refine bN (N1:=λΓ=>∃e4 e5 e6 e7,Γ=[.im (ae (bh C)) S,.im (ae (ae ah)) Ld,bP St,.mu ax ((gq S Ld St).map h8),e4,e5,e6,e7]) (bX (λi Γ=>∃e4 e5 e6 e7,Γ=[.im (ae (bh C)) S,.im (ae (ae ah)) Ld,bP St,.mu ax ((((nums S).take i).flatMap (ee Ld St)).map h8),e4,e5,e6,e7]) (gJ M.enumerate (aa 0 rfl)) (fo 4 5) ⟨_,_,_,_,rfl⟩ (λi z Γ hz hΓ=>?_) (λΓ hΓ=>?_)) ?_
 ·obtain⟨e4,e5,e6,e7,rfl⟩:=hΓ
  obtain⟨n,nl,e1,e2⟩:=mG (OK hz)
  have il:i<S.length:=by have:=(OD.mp hz).1;rwa [c5] at this
  have fl:=nB (oC Ld St) ((nums S).take i)
  have hti:((nums S).take i).length<=i:=by rw[OY];omega
  have VC:((nums S).take (i+1)).flatMap (ee Ld St)=((nums S).take i).flatMap (ee Ld St)++ee Ld St z:=by
   rw[Pg,hz,List.flatMap_append];simp
  rw[VC]
  generalize ((nums S).take i).flatMap (ee Ld St)=rs at fl
  have rl:rs.length<=2000:=by omega
  obtain⟨zn,zs⟩:=z
  dsimp only at e1 e2
  subst e1
  change WS _ _ [.im (ae (bh C)) S,.im (ae (ae ah)) Ld,bP St,.mu ax (rs.map h8),ao (n:Int),.im (bh C) zs,e6,e7] _ _
  have Vn:bU Ld (n:Int)=some (Ld.getD n []):=aV (xs:=Ld) (i:=(n:Int)) [] (by omega) (by omega)
  have W6:Ld.getD n []∈Ld:=by
   rw[OG,OE (show n<Ld.length by omega)]
   exact O0 _
  have Za:=VN _ W6
  have hzl:=wK Ld ((n:Int),zs)
  have hzz:jP Ld ((n:Int),zs)=((cu c9 zs.kind).getD []).zip (Ld.getD n []):=rfl
  refine ak (bX (λj Γ=>∃e6 e7,Γ=[.im (ae (bh C)) S,.im (ae (ae ah)) Ld,bP St,.mu ax ((rs++((jP Ld ((n:Int),zs)).take j).map (m9 St ((n:Int),zs))).map h8),ao (n:Int),.im (bh C) zs,e6,e7]) (EU M.zip (Eo RW (gp (C:=C) HC (aa 5 rfl)) (vX (xs:=[]) aT (QE _))) (aY (aa 1 rfl) (aa 4 rfl) Vn)) (fo 6 7) ⟨e6,e7,by rw[take_zero,Qv,Pf]⟩ (λj y Γ hy hΓ=>?_) (λΓ hΓ=>?_))
  ·obtain⟨e6,e7,rfl⟩:=hΓ
   rw[← hzz] at hy
   have hjl:j<(jP Ld ((n:Int),zs)).length:=(OD.mp hy).1
   have htj:(((jP Ld ((n:Int),zs)).take j).map (m9 St ((n:Int),zs))).length<=2:=by rw[OH,OY];omega
   have Y6:((jP Ld ((n:Int),zs)).take (j+1)).map (m9 St ((n:Int),zs))=((jP Ld ((n:Int),zs)).take j).map (m9 St ((n:Int),zs))++[m9 St ((n:Int),zs) y]:=by
    rw[Pg,hy,O3];rfl
   rw[Y6]
   have X1:y.2∈Ld.getD n []:=by
    rw[hzz] at hy
    exact(Qb (OK hy)).2
   obtain⟨y0,y1⟩:=Za y.2 X1
   generalize ((jP Ld ((n:Int),zs)).take j).map (m9 St ((n:Int),zs))=ts at htj
   obtain⟨yw,yl⟩:=y
   change WS _ _ [.im (ae (bh C)) S,.im (ae (ae ah)) Ld,bP St,.mu ax ((rs++ts).map h8),ao (n:Int),.im (bh C) zs,.im aj yw,ao yl] _ _
   refine ak (dR 3 (y:=h8 (m9 St ((n:Int),zs) (yw,yl))) (ip (av (EV.pI (aa 4 rfl)) (av (EV.pI (aY (aa 2 rfl) (aa 7 rfl) (aV (xs:=St) (i:=yl) 0 y0 (by omega)))) (av (EV.pS (aa 6 rfl)) (av (EV.pS (pE (C:=C) HC (aa 5 rfl))) aT)))) (by show 4<=Ra;decide)) rfl rfl (QF (show _<=3000 by rw[OH,OI];omega) (by decide)) ⟨.im aj yw,ao yl,?_⟩)
   rw[← OZ,O3 (l₁:=rs++ts)]
   rfl
  ·obtain⟨e6,e7,rfl⟩:=hΓ
   refine⟨ao (n:Int),.im (bh C) zs,e6,e7,?_⟩
   rw[← hzz,Pl]
   rfl
 ·obtain⟨e4,e5,e6,e7,rfl⟩:=hΓ
  refine⟨e4,e5,e6,e7,?_⟩
  rw[Pl];rfl
 rintro _ ⟨e4,e5,e6,e7,rfl⟩
 have fl:=nB (oC Ld St) (nums S)
 rw[c5] at fl
 refine WS.freeze 3 rfl (aH (by rw[OH];unfold gq;omega)) ?_
 exact ak (aN (aa 3 rfl) rfl)
end
structure gf where
 S:List aI
 parts:List gU
 Ld:List Oe
 St:Oe
 rows:List Rw
abbrev fA:Of:=["steps","parts","leads","stands","rows"]
theorem dt {x:Str}(h:decide (x∈fA)=true):x∈fA:=Uu h
def MT (C:Addr)(s:gf):jy:=[("steps",(ae (bh C)).at_ s.S),("parts",(ae ax).at_ (s.parts.map j2)),("leads",(ae (ae ah)).at_ s.Ld),("stands",(ae ah).at_ s.St),("rows",(ae ax).at_ (s.rows.map h8))]
def bp (C D:Addr):Rep gf:=⟨λK R v s=>∃x dx vs,v= .ref x/\R x=some (.ins D dx vs)/\fY (MT C s) K R vs,λs ⟨x,dx,vs,e,h1,h2⟩=>⟨x,dx,vs,e,s _ _ h1,h2.mono s⟩⟩
section
variable {X:Cx}{Γ Γ1:Ga}{C D:Addr}{e:Expr}{pos:Pos}{s:gf}
theorem xq (hC:bH X.K D fA)(he:EV X e Γ (bp C D) s Γ1)(hb:Rj e "steps" X.env (eval e X.env)=eval e X.env:=by rfl):EV X (.Attribute e "steps" pos) Γ (ae (bh C)) s.S Γ1:=jm hC (dt (by decide)) he (λK R v ⟨x,dx,vs,e,h1,h2⟩=>by obtain⟨u,q1,q2⟩:=h2.get (f:="steps") rfl;exact⟨x,dx,vs,u,e,h1,q1,q2⟩) hb
theorem gW (hC:bH X.K D fA)(he:EV X e Γ (bp C D) s Γ1)(hb:Rj e "parts" X.env (eval e X.env)=eval e X.env:=by rfl):EV X (.Attribute e "parts" pos) Γ (ae ax) (s.parts.map j2) Γ1:=jm hC (dt (by decide)) he (λK R v ⟨x,dx,vs,e,h1,h2⟩=>by obtain⟨u,q1,q2⟩:=h2.get (f:="parts") rfl;exact⟨x,dx,vs,u,e,h1,q1,q2⟩) hb
theorem K7 (hC:bH X.K D fA)(he:EV X e Γ (bp C D) s Γ1)(hb:Rj e "leads" X.env (eval e X.env)=eval e X.env:=by rfl):EV X (.Attribute e "leads" pos) Γ (ae (ae ah)) s.Ld Γ1:=jm hC (dt (by decide)) he (λK R v ⟨x,dx,vs,e,h1,h2⟩=>by obtain⟨u,q1,q2⟩:=h2.get (f:="leads") rfl;exact⟨x,dx,vs,u,e,h1,q1,q2⟩) hb
theorem Km (hC:bH X.K D fA)(he:EV X e Γ (bp C D) s Γ1)(hb:Rj e "stands" X.env (eval e X.env)=eval e X.env:=by rfl):EV X (.Attribute e "stands" pos) Γ (ae ah) s.St Γ1:=jm hC (dt (by decide)) he (λK R v ⟨x,dx,vs,e,h1,h2⟩=>by obtain⟨u,q1,q2⟩:=h2.get (f:="stands") rfl;exact⟨x,dx,vs,u,e,h1,q1,q2⟩) hb
theorem se (hC:bH X.K D fA)(he:EV X e Γ (bp C D) s Γ1)(hb:Rj e "rows" X.env (eval e X.env)=eval e X.env:=by rfl):EV X (.Attribute e "rows" pos) Γ (ae ax) (s.rows.map h8) Γ1:=jm hC (dt (by decide)) he (λK R v ⟨x,dx,vs,e,h1,h2⟩=>by obtain⟨u,q1,q2⟩:=h2.get (f:="rows") rfl;exact⟨x,dx,vs,u,e,h1,q1,q2⟩) hb
end
structure nY (S:List aI) (Ld:List Oe):Prop where
 l:S.length<=240
 ld:xy S Ld
 li:sT S Ld
 pt:∀n:Nat,n<S.length->aQ S (n:Int)="part"->(bE (dI S) (n:Int)).isSome
def US (S:List aI)(Ld:List Oe):gf:=⟨S,cI S,Ld,cF S Ld,gq S Ld (cF S Ld)⟩
def qA (x:Str)(S:List aI):Prop:=∃(ws:Of) (n:Nat),x=TJ " " ws/\ws≠[]/\ws.length<=240/\(∀w∈ws,fU w)/\gi ws n ⟨[],[],0⟩ ⟨S,[],ws.length⟩
section
variable {C D:Addr}
abbrev rJ:Stmt:=match top AS with
 | .ClassDef _ _ _ b _ _ _ _ _ _ _=>b.getD 0 (.Pass ⟨0,0,0,0⟩)
 | s=>s
abbrev sA:Of:=["self","text"]
theorem Jd:ay sA sA (ag rJ):=UY
def MO (C D0:Addr):yk:=λK D ps Pd=>D=D0/\∃(x:Str) (S:List aI) (Ld:List Oe),ps=[⟨aj,x⟩]/\qA x S/\nY S Ld/\Pd=λfs=>fs=MT C (US S Ld)
theorem J2 (HD:bH K D fA)(CR:aA P w K mg base "read" 3 (aE (M6 C) K))(CP:aA P w K mg base "parts_in" 2 (aE (MY C) K))(CL:aA P w K mg base "leads_in" 3 (aE (MF C) K))(CS:aA P w K mg base "stands_in" 1 (aE (MZ C) K))(CW:aA P w K mg base "rows_in" 1 (aE (Mw C) K))(F:dH K "__init__" "Spots.__init__" rJ f fd):dY P w K mg base d7 4 f fd sA (vA (MO C D) K):=by
 have nd:=Jd.nd
 have CP:=CP.mono (show 2<=3 by decide)
 have CS:=CS.mono (show 1<=3 by decide)
 have CW:=CW.mono (show 1<=3 by decide)
 refine yF (k:=3) F Jd (λD qs Pd ⟨_,_,_,_,e,_⟩=>by rw[e];rfl) (λUE A outer st H E D' x dx qs Pd hr hS=>?_)
 obtain⟨rfl,tx,S,Ld,rfl,⟨ws,n,et,UJ,hl,hw,X6⟩,Zu,rfl⟩:=hS
 have Wu:S.length<=1000:=by have:=Zu.l;omega
 change WS _ _ [.ob ((gz D').bx [x,dx] []),.im aj tx] _ _
 refine ai (hV 0 HD (dt (by decide)) (aB (y:=S) (r:=ae (bh C)) CR hr (af (aa 1 rfl) aq) ⟨ws,n,S,by rw[et],UJ,hl,hw,X6,rfl⟩) rfl rfl (by show 0<1000;decide) ?_)
 refine ai (hV 0 HD (dt (by decide)) (aB CP hr (af (lR 0 HD (dt (by decide)) rfl rfl) aq) ⟨S,rfl,Wu,Zu.pt,rfl⟩) rfl rfl (by show 1<1000;decide) ?_)
 refine ai (hV 0 HD (dt (by decide)) (aB CL hr (af (lR 0 HD (dt (by decide)) rfl rfl) aq) ⟨S,Ld,rfl,Wu,Zu.ld,rfl⟩) rfl rfl (by show 2<1000;decide) ?_)
 refine ai (hV 0 HD (dt (by decide)) (aB CS hr (af (lR 0 HD (dt (by decide)) rfl rfl) (af (lR 0 HD (dt (by decide)) rfl rfl) aq)) ⟨S,Ld,rfl,Wu,Zu.li,rfl⟩) rfl rfl (by show 3<1000;decide) ?_)
 exact ak (hV 0 HD (dt (by decide)) (aB CW hr (af (lR 0 HD (dt (by decide)) rfl rfl) (af (lR 0 HD (dt (by decide)) rfl rfl) (af (lR 0 HD (dt (by decide)) rfl rfl) aq))) ⟨S,Ld,cF S Ld,rfl,Wu,Zu.li,js S.length (QC _),rfl⟩) rfl rfl (by show 4<1000;decide) ⟨_,rfl,rfl⟩)
structure sE (P:Rh) (w:World) (K:T2) (mg:Oc) (base:Heap) (C D:Addr):Prop where
 cl:bH K D fA
 ex:∃fi Wr,Mk K D fi/\dY P w K mg base d7 4 fi Wr sA (vA (MO C D) K)/\Binds K Wr sA []
 mg:mg "Spots"=some (.ref D)
theorem BA {X:Cx}{Γ Γ1:Ga}{C D:Addr}{e:Expr}{p pos:Pos}{x:Str}{S:List aI}{Ld:List Oe}(G:sE X.prog X.w X.K X.mg X.base C D)(hr:bI 5 X.A)(ha:HA X [e] Γ [⟨aj,x⟩] Γ1)(hx:qA x S)(hk:nY S Ld)
 (hg:Gl X "Spots":=by rfl) (he:Rc [e] X.env=(false,eval e X.env)::Rc [] X.env:=by rfl) (U0:(Rk pos (Rc [] X.env)).any (·.1)=false:=by rfl):EV X (.Call (.Name "Spots" p) [e] [] pos) Γ (bp C D) (US S Ld) Γ1:=by
 obtain⟨fi,Wr,MK,SI,bi⟩:=G.ex
 exact vM MK SI hr G.mg bi ha ⟨rfl,x,S,Ld,rfl,hx,hk,rfl⟩ (λfs R x dx vs hP h1 h2=>by subst hP;exact⟨x,dx,vs,rfl,h2,h1⟩) hg (by decide) he U0
end
theorem zR {α:Type}{xs:List α}{i:Nat}(h:i<=xs.length):cut xs none (some (i:Int))=xs.take i:=by
 have e:HT.UR xs.length xs.length (some (i:Int))=i:=by
  show(if(i:Int)<0 then((i:Int)+(xs.length:Int)).toNat else min (i:Int).toNat xs.length)=i
  rw[Us (by omega)];omega
 unfold cut
 rw[e];rfl
theorem oX {α:Type}{xs:List α}{i:Nat}:cut xs (some (i:Int)) none=xs.drop i:=by
 have e:HT.UR xs.length 0 (some (i:Int))=min i xs.length:=by
  show(if(i:Int)<0 then((i:Int)+(xs.length:Int)).toNat else min (i:Int).toNat xs.length)=_
  rw[Us (by omega)];rfl
 have e2:HT.UR xs.length xs.length none=xs.length:=rfl
 unfold cut
 rw[e,e2]
 rcases QJ i xs.length with h | h
 ·rw[Nat.min_eq_left (by omega),PN (by rw[P1];omega)]
 ·rw[Nat.min_eq_right h,P9 (QC _),P9 h,take_nil]
theorem pz:∀(n:Nat) (l:Oe),l.Nodup->(∀x∈l,0<=x/\x<(n:Int))->l.length<=n
 | 0,l,_,h=>by
   cases l with
   | nil=>exact QC _
   | cons x r=>have:=h x OM;omega
 | n+1,l,nd,h=>by
   by_cases q:(n:Int)∈l
   ·have:=pz n (l.erase (n:Int)) (nd.erase _) λx hx=>by
     have hm:=(nd.mem_erase_iff.mp hx)
     have:=h x hm.2
     have:=hm.1
     omega
    rw[Qe q] at this
    omega
   ·have:=pz n l nd λx hx=>by
     have:=h x hx
     have:x≠(n:Int):=λe=>q (e▸hx)
     omega
    omega
def eX (F:Ol)(k:Int):Ol:=if(bE F k).isSome then F else F++[(k,(F.length:Int))]
def lW (p:gU)(r:Rw):Bool:=decide (p.2.1<r.1)&&decide (r.1<p.2.2)
def d6 (p:gU)(F:Ol)(r:Rw):Ol:=if lW p r then eX (eX F r.1) r.2.1 else F
def bS (s:gf)(p:gU):Ol:=s.rows.foldl (d6 p) [(s.St.getD p.2.1.toNat 0,0),(p.2.2,1)]
def Reach (s:gf)(fd:Oe):Prop:=(∀p∈s.parts,p.2.1∈fd)/\∀n∈fd,∀l∈s.Ld.getD n.toNat [],l∈fd
structure Good (s:gf):Prop where
 l:s.S.length<=240
 pl:s.parts.length<=4
 pn:(s.parts.map (·.1)).Nodup
 pv:∀p∈s.parts,0<=p.2.1/\p.2.1<(s.S.length:Int)
 li:sT s.S s.Ld
 l2:∀ls∈s.Ld,ls.length<=2
 sl:s.St.length=s.S.length
 sn:((s.S.filter λt=>decide (t.kind=("part":Str))).map (·.name)).Nodup
 ca:∀(n:Nat) (t:aI),s.S[n]?=some t->t.kind="call"->∃(m:Nat) (u:aI),n<m/\s.S[m]?=some u/\u.kind="part"/\u.name=t.name
 ct:∀fd,Reach s fd->∀n:Nat,n<s.S.length->aQ s.S (n:Int)∈UW->(n:Int)∈fd
 nc:∀p∈s.parts.drop 1,∃t∈s.S,t.kind="call"/\t.name=p.1
 eb:∀p∈s.parts,s.St.getD p.2.1.toNat 0≠p.2.2
 rl:s.rows.length<=30
 rk:∀r∈s.rows,(0<=r.1/\r.1<(s.S.length:Int))/\aQ s.S r.1∈UW
 pc:∀p∈s.parts,(bS s p).length<=16
def tq:PV->Str
 | .tup (.str x::_)=>x
 | _=>""
theorem zW (p:gU):tq (j2 p)=p.1:=rfl
section
variable {C D:Addr}
abbrev Cr:Stmt:=top rR
theorem GL:ay ["spots","parts"] ["spots","parts"] (ag Cr):=UY
def vT (C D:Addr):bQ:=λK ps T=>∃s:gf,ps=[⟨bp C D,s⟩,⟨ae ax,[]⟩]/\T=bL K (ae ah) (· =[])
theorem LA (Df:Def K mg "name_words" Cr ["spots","parts"]):aA P w K mg base "name_words" 1 (aE (vT C D) K):=by
 have nd:=GL.nd
 have VR:OX [("part":Str),"spots"]:=by decide
 refine bc Df GL (λf UE A outer st H E qs T hr hS=>?_)
 obtain⟨s,rfl,rfl⟩:=hS
 change WS _ _ [.im (bp C D) s,.im (ae ax) []] _ _
 exact ak (aN (aW.im (bD (own:=["part"]) (fr:=["spots"]) (ix:=[0]) (ra:=ax) (rb:=ah) (p:=λ_=>true) (f:=λ_=>0) (bt (so:=ag Cr) (N0:=["spots","parts"]) rfl rfl (λx h=>a8 h) (by decide +kernel)) (bG (aa 1 rfl))
  (λC s H ex=>aO 0) (λx=>⟨.inr rfl,.inl rfl,trivial⟩) (λC' s H ex c hc=>cO) (λC' s H ex o ho _=>by cases ho))) rfl)
abbrev yD:Stmt:=top qp
abbrev Gr:Of:=["spots","names"]
theorem FN:ay Gr ["spots"] (ag yD):=UY
def ia (C D:Addr):bQ:=λK ps T=>∃s:gf,ps=[⟨bp C D,s⟩]/\Good s/\T=bL K (ae ah) (· =[])
theorem i5 {α β:Type}{xs:List α}{p:α->Bool}{f:α->β}(h:∀x∈xs,p x=false):(xs.filter p).map f=[]:=by
 rw[Qo.mpr λx hx=>by rw[h x hx];decide];rfl
theorem Em {xs:Of}(h:xs.Nodup){i:Nat}{x:Str}(hx:xs[i]?=some x):x∉xs.take i:=by
 intro hm
 obtain⟨j,hj⟩:=OR.mp hm
 obtain⟨jl,ej⟩:=OD.mp hj
 obtain⟨il,ei⟩:=OD.mp hx
 rw[OY] at jl
 rw[List.getElem_take] at ej
 have:=(P0 (h₀:=by omega) (h₁:=il) h).mp (ej.trans ei.symm)
 omega
theorem KH (M:cb K mg)(HD:bH K D fA)(CN:aA P w K mg base "name_words" 1 (aE (vT C D) K))(Df:Def K mg "named_again" yD ["spots"]):aA P w K mg base "named_again" 2 (aE (ia C D) K):=by
 have nd:=FN.nd
 have VR:OX [("part":Str)]:=by decide
 have Xh:OX [("place":Str),"part","names"]:=by decide
 refine bc (k:=1) Df FN (λf UE A outer st H E qs T hr hS=>?_)
 obtain⟨s,rfl,hG,rfl⟩:=hS
 change WS _ _ [.im (bp C D) s,.no] _ _
 have Ys:((s.parts.map j2).filter λ_=>true).map tq=s.parts.map (·.1):=by rw[Pp.mpr λ_ _=>rfl,PR];rfl
 refine ai (aU 1 (y:=s.parts.map (·.1)) (EV.cast (aW.im (bD (own:=["part"]) (fr:=[]) (ix:=[]) (ra:=ax) (rb:=aj) (p:=λ_=>true) (f:=tq) (bt (so:=ag yD) (N0:=Gr) rfl rfl (λx h=>a8 h) (by decide +kernel)) (bG (gW (C:=C) HD (aa 0 rfl)))
  (λC s H ex=>aO 0) (λx=>⟨.inr rfl,trivial⟩) (λC' s H ex c hc=>cO) (λC' s H ex o ho _=>by
   obtain⟨p,_,rfl⟩:=OO.mp ho
   exact EV.sP (x:=p.1) (dq (aa 0 rfl) ev_int rfl)))) Ys) ?_)
 change WS _ _ [.im (bp C D) s,.im (ae aj) (s.parts.map (·.1))] _ _
 refine ak (aN (y:=([]:Oe)) (aB CN hr (af (aa 0 rfl) (af (x:=([]:List PV)) (EV.cast (aW.im (bD (own:=["place","part"]) (fr:=["names"]) (ix:=[1]) (ra:=cD ah ax) (rb:=ax) (p:=λz=>decide (tq z.2∈cut (s.parts.map (·.1)) none (some z.1))) (f:=λz=>z.2) (bt (so:=ag yD) (N0:=Gr) rfl rfl (λx h=>a8 h) (by decide +kernel)) (gJ M.enumerate (gW (C:=C) HD (aa 0 rfl)))
  (λC s H ex=>fo 0 1) (λx=>⟨.inr rfl,.inr rfl,.inl rfl,trivial⟩) (λC' s H ex z hz=>?_) (λC' s H ex z hz _=>aa 1 rfl))) ?_) aq)) ⟨s,rfl,rfl⟩) rfl)
 ·obtain⟨i,hi⟩:=OR.mp hz
  obtain⟨e1,e2⟩:=eJ hi
  rw[OJ] at e2
  obtain⟨p,_,ep⟩:=QX.mp e2
  obtain⟨zn,zp⟩:=z
  dsimp only at e1 ep
  subst ep
  exact fE (aD uZ (EV.sP (x:=p.1) (dq (aa 1 rfl) ev_int rfl)) (aW.im (jb (aa 2 rfl) ov_none (ov_some (aa 0 rfl)))))
 ·refine i5 λz hz=>?_
  obtain⟨i,hi⟩:=OR.mp hz
  obtain⟨e1,e2⟩:=eJ hi
  rw[OJ] at e2
  obtain⟨p,hp,ep⟩:=QX.mp e2
  rw[e1,← ep,zW]
  have il:=(OD.mp hp).1
  rw[zR (by rw[OH];omega)]
  exact Ux (Em hG.pn (by rw[OJ,hp];rfl))
end
section
variable {C D:Addr}
abbrev FY:Stmt:=top nF
abbrev nCA:Of:=["spots","found","behind","step"]
theorem Jv:ay nCA ["spots"] (ag FY):=UY
def Vm (S:List aI):Of:=(S.filter λt=>decide (t.kind=("part":Str))).map (·.name)
theorem kT (a b:List aI):Vm (a++b)=Vm a++Vm b:=by unfold Vm;rw[PZ,O3]
theorem GZ {S:List aI}(h:(Vm S).Nodup):(Vm S.reverse).Nodup:=by
 unfold Vm at h ⊢
 rw[List.filter_reverse,List.map_reverse]
 exact List.pairwise_reverse.mpr (h.imp λz=>QW z)
theorem K8 (M:cb K mg)(HC:bH K C gT)(HD:bH K D fA)(Df:Def K mg "called_astray" FY ["spots"]):aA P w K mg base "called_astray" 1 (aE (ia C D) K):=by
 have nd:=Jv.nd
 refine bc Df Jv (λf UE A outer st H E qs T hr hS=>?_)
 obtain⟨s,rfl,hG,rfl⟩:=hS
 have hu:=ru hr
 have hl:=hG.l
 have Yc:=GZ (S:=s.S) hG.sn
 change WS _ _ [.im (bp C D) s,.no,.no,.no] _ _
 refine ai (bV 1 (r:=ah) (ys:=[]) (aR aT (QE _)) ?_)
 refine ai (qw 2 ?_)
 refine WS.KD 2 rfl λa=>?_
 change WS _ _ [.im (bp C D) s,.mu ah [],.ob (nq a []),.no] _ _
 refine bN (N1:=λΓ=>∃ks e3,Γ=[.im (bp C D) s,.mu ah [],.ob (nq a ks),e3]) (bX (λi Γ=>∃e3,Γ=[.im (bp C D) s,.mu ah [],.ob (nq a (Vm (s.S.reverse.take i))),e3]) (JC M.reversed (xq (C:=C) HD (aa 0 rfl))) (aO 3) ⟨_,rfl⟩ (λi t Γ ht hΓ=>?_) (λΓ hΓ=>?_)) ?_
 ·obtain⟨e3,rfl⟩:=hΓ
  have il:i<s.S.length:=by have:=(OD.mp ht).1;rwa [Qi] at this
  have VC:Vm (s.S.reverse.take (i+1))=Vm (s.S.reverse.take i)++Vm [t]:=by rw[Pg,ht,kT];rfl
  have Va:(Vm (s.S.reverse.take (i+1))).Nodup:=by
   have:Vm s.S.reverse=Vm (s.S.reverse.take (i+1))++Vm (s.S.reverse.drop (i+1)):=by rw[← kT,Po]
   rw[this] at Yc
   exact(Qs.mp Yc).1
  have Yv:(Vm (s.S.reverse.take i)).length<=240:=by
   unfold Vm
   rw[OH]
   refine QD (Pz _ _) ?_
   rw[OY];omega
  have XO:t.kind="call"->t.name∈Vm (s.S.reverse.take i):=λhk=>by
   rw[Qr il] at ht
   obtain⟨m,u,hm',WK,hk',WM⟩:=hG.ca _ t ht hk
   have ml:=(OD.mp WK).1
   unfold Vm
   refine OO.mpr ⟨u,O2.mpr ⟨OK (i:=s.S.length-1-m) ?_,Uw hk'⟩,WM⟩
   rw[List.getElem?_take,Ut (by omega),Qr (by omega),show s.S.length-1-(s.S.length-1-m)=m by omega]
   exact WK
  rw[VC]
  generalize Vm (s.S.reverse.take i)=ks at VC Yv XO
  rw[VC] at Va
  change WS _ _ [.im (bp C D) s,.mu ah [],.ob (nq a ks),.im (bh C) t] _ _
  refine bN (N1:=λΓ=>Γ=[.im (bp C D) s,.mu ah [],.ob (nq a (ks++Vm [t])),.im (bh C) t]) (ba (aD cv (gp (C:=C) HC (aa 3 rfl)) aG) (λh=>?_) (λh=>aL ?_)) ?_
  ·have h:t.kind="part":=Uu h
   have hp:Vm [t]=[t.name]:=by unfold Vm;rw[PK (by simpa using h)];rfl
   rw[hp] at Va ⊢
   refine ak (DF 2 hu (pE (C:=C) HC (aa 3 rfl)) oS rfl (λz=>?_) (QF Yv (by decide)) rfl)
   exact(Qs.mp Va).2.2 t.name z t.name (OF.mpr rfl) rfl
  ·have h:¬t.kind="part":=Uv h
   have hp:Vm [t]=[]:=by unfold Vm;rw[PM (by simpa using h)];rfl
   rw[hp,Pf]
  rintro _ rfl
  refine ak (ba (TW.tv (cT (aD cv (gp (C:=C) HC (aa 3 rfl)) aG) (λ_=>dQ (AF 2 hu (pE (C:=C) HC (aa 3 rfl)) rfl)))) (λh=>?_) (λh=>aL ⟨.im (bh C) t,rfl⟩))
  exfalso
  obtain⟨h1,h2⟩:=Bool.and_eq_true_iff.mp h
  have h1:t.kind="call":=Uu h1
  rw[Uw (OU _ (XO h1))] at h2
  cases h2
 ·obtain⟨e3,rfl⟩:=hΓ
  exact⟨_,e3,rfl⟩
 rintro _ ⟨ks,e3,rfl⟩
 refine WS.freeze 1 rfl (QE _) ?_
 exact ak (aN (aa 1 rfl) rfl)
abbrev Dg:Stmt:=top xu
abbrev MM:Of:=["spots","found","waiting","number"]
theorem JA:ay MM ["spots"] (ag Dg):=UY
def dT (fd:Oe):List (Int×V):=fd.map λk=>(k,V.bl true)
theorem mw (fd:Oe)(k:Int):gD (dT fd) k=decide (k∈fd):=by
 unfold gD dT
 rw[any_map]
 by_cases h:k∈fd
 ·rw[Uw h,Qa]
  exact⟨k,h,by simp⟩
 ·rw[Ux h]
  rw[List.any_eq_false]
  intro x hx
  have:x≠k:=λe=>h (e▸hx)
  simpa using this
def Iw (C D:Addr):bQ:=λK ps T=>∃s:gf,ps=[⟨bp C D,s⟩]/\Good s/\T=bL K gu (λkvs=>∃fd,kvs=dT fd/\Reach s fd)
structure CtI (s:gf) (fd wt:Oe):Prop where
 nd:fd.Nodup
 fv:∀n∈fd,0<=n/\n<(s.S.length:Int)
 wv:∀n∈wt,0<=n/\n<(s.S.length:Int)
 st:∀p∈s.parts,p.2.1∈fd∨p.2.1∈wt
 cl:∀n∈fd,∀l∈s.Ld.getD n.toNat [],l∈fd∨l∈wt
def wU:PV->Int
 | .tup (_:: .int n::_)=>n
 | _=>0
theorem Lc (M:cb K mg)(HD:bH K D fA)(F:dH K "come_to" "come_to" Dg f fd)(hm:mg "come_to"=some (.ref f))(hb:Binds K fd ["spots"] []):aA P w K mg base "come_to" 1 (aE (Iw C D) K):=by
 have nd:=JA.nd
 have VR:OX [("part":Str)]:=by decide
 refine fR F JA hm hb (λqs T ⟨_,e,_⟩=>by rw[e];rfl) (λUE A outer st H E qs T hr hS=>?_)
 obtain⟨s,rfl,hG,rfl⟩:=hS
 have hu:=ru hr
 have hl:=hG.l
 obtain⟨W7,VN⟩:=hG.li
 have U0:=hG.pl
 change WS _ _ [.im (bp C D) s,.no,.no,.no] _ _
 refine ai (qw 1 ?_)
 have hst:((s.parts.map j2).filter λ_=>true).map wU=s.parts.map (·.2.1):=by rw[Pp.mpr λ_ _=>rfl,PR];rfl
 refine ai (kM 2 (own:=["part"]) (fr:=[]) (ix:=[]) (ra:=ax) (rb:=ah) (p:=λ_=>true) (f:=wU) (bt (so:=ag Dg) (N0:=MM) rfl rfl (λx h=>a8 h) (by decide +kernel)) (bG (gW (C:=C) HD (aa 0 rfl)))
  (λC s H ex=>aO 0) (λx=>⟨.inr rfl,trivial⟩) (λC' s H ex c hc=>cO) (λC' s H ex o ho _=>by
   obtain⟨p,_,rfl⟩:=OO.mp ho
   exact EV.iP (n:=p.2.1) (dq (aa 0 rfl) ev_int rfl)) ?_)
 rw[hst]
 change WS _ _ [.im (bp C D) s,.di (dT []),.mu ah (s.parts.map (·.2.1)),.no] _ _
 refine bN (N1:=λΓ=>∃fd e3,Γ=[.im (bp C D) s,.di (dT fd),.mu ah [],e3]/\Reach s fd) (jr (λm Γ=>∃fd wt e3,Γ=[.im (bp C D) s,.di (dT fd),.mu ah wt,e3]/\CtI s fd wt/\3*(s.S.length-fd.length)+wt.length=m/\m<=1000) (m0:=3*s.S.length+s.parts.length) ⟨[],s.parts.map (·.2.1),.no,rfl,⟨Ql,(λn h=>by cases h),(λn h=>?_),(λp hp=>.inr (OO.mpr ⟨p,hp,rfl⟩)),(λn h=>by cases h)⟩,by rw[OH];rfl,by omega⟩ (λm Γ hI=>?_)) ?_
 ·obtain⟨p,hp,rfl⟩:=OO.mp h
  exact hG.pv p hp
 ·obtain⟨fd,wt,e3,rfl,hC,hmm,hm1⟩:=hI
  have fl:=pz s.S.length fd hC.nd hC.fv
  refine⟨!wt.isEmpty,_,jx 2 rfl,λh=>?_,λh=>?_⟩
  ·have UJ:wt≠[]:=λz=>by rw[z] at h;cases h
   obtain⟨wi,n,rfl⟩:∃l x,wt=l++[x]:=⟨wt.dropLast,wt.getLast UJ,(Ph UJ).symm⟩
   rw[OI,O4] at hmm
   obtain⟨n0,n1⟩:=hC.wv n (OQ _ (OF.mpr rfl))
   refine ai (aU 3 (y:=n) (oz 2 rfl (by simp)) ?_)
   rw[show(wi++[n]).dropLast=wi by simp]
   change WS _ _ [.im (bp C D) s,.di (dT fd),.mu ah wi,ao n] _ _
   refine ak (ba (wG 1 true hu (aa 3 rfl) rfl) (λh=>?_) (λh=>aL ?_))
   ·have Yt:n∉fd:=by rw[Ut rfl,mw] at h;simpa using h
    have Vn:bU s.Ld n=some (s.Ld.getD n.toNat []):=aV (xs:=s.Ld) (i:=n) [] n0 (by omega)
    have W6:s.Ld.getD n.toNat []∈s.Ld:=by
     rw[OG,OE (show n.toNat<s.Ld.length by omega)]
     exact O0 _
    have h2:=hG.l2 _ W6
    have Za:=VN _ W6
    have fl2:=pz s.S.length (fd++[n]) (fP hC.nd Yt) λx hx=>by
     rcases OS.mp hx with z | z
     ·exact hC.fv x z
     ·rw[OF.mp z];exact⟨n0,n1⟩
    rw[OI,O4] at fl2
    refine ai (qS 1 hu (aa 3 rfl) oS rfl (by rw[mw];exact Ux Yt) (by unfold dT;rw[OH];exact QF (show _<=1000 by omega) (by decide)) ?_)
    have e:dT fd++[(n,V.bl true)]=dT (fd++[n]):=by unfold dT;rw[O3];rfl
    rw[e]
    change WS _ _ [.im (bp C D) s,.di (dT (fd++[n])),.mu ah wi,ao n] _ _
    refine ak (yR 2 (aY (K7 (C:=C) HD (aa 0 rfl)) (aa 3 rfl) Vn) rfl rfl (aH (by omega)) ⟨3*(s.S.length-(fd++[n]).length)+(wi++s.Ld.getD n.toNat []).length,by rw[OI,OI,O4];omega,fd++[n],wi++s.Ld.getD n.toNat [],ao n,rfl,⟨fP hC.nd Yt,λx hx=>?_,λx hx=>?_,λp hp=>?_,λx hx l Wa=>?_⟩,rfl,by rw[OI,OI,O4];omega⟩)
    ·rcases OS.mp hx with z | z
     ·exact hC.fv x z
     ·rw[OF.mp z];exact⟨n0,n1⟩
    ·rcases OS.mp hx with z | z
     ·exact hC.wv x (OU _ z)
     ·exact Za x z
    ·rcases hC.st p hp with z | z
     ·exact .inl (OU _ z)
     ·rcases OS.mp z with z | z
      ·exact .inr (OU _ z)
      ·exact .inl (OQ _ z)
    ·rcases OS.mp hx with z | z
     ·rcases hC.cl x z l Wa with q | q
      ·exact .inl (OU _ q)
      ·rcases OS.mp q with q | q
       ·exact .inr (OU _ q)
       ·exact .inl (OQ _ q)
     ·rw[OF.mp z] at Wa
      exact .inr (OQ _ Wa)
   ·have Yt:n∈fd:=by rw[Ut rfl,mw] at h;simpa using h
    refine⟨3*(s.S.length-fd.length)+wi.length,by omega,fd,wi,ao n,rfl,⟨hC.nd,hC.fv,λx hx=>hC.wv x (OU _ hx),λp hp=>?_,λx hx l Wa=>?_⟩,rfl,by omega⟩
    ·rcases hC.st p hp with z | z
     ·exact .inl z
     ·rcases OS.mp z with z | z
      ·exact .inr z
      ·rw[OF.mp z];exact .inl Yt
    ·rcases hC.cl x hx l Wa with q | q
     ·exact .inl q
     ·rcases OS.mp q with q | q
      ·exact .inr q
      ·rw[OF.mp q];exact .inl Yt
  ·have hwt:wt=[]:=by cases wt with
    | nil=>rfl
    | cons _ _=>cases h
   subst hwt
   exact⟨fd,e3,rfl,λp hp=>(hC.st p hp).resolve_right (by simp),λn hn l Wa=>(hC.cl n hn l Wa).resolve_right (by simp)⟩
 rintro _ ⟨fd,e3,rfl,hR⟩
 exact ak (zh 1 rfl ⟨fd,rfl,hR⟩)
abbrev zQ:Stmt:=top p9
abbrev Hv:Of:=["spots","known","lost"]
theorem GG:ay Hv ["spots"] (ag zQ):=UY
theorem KP (M:cb K mg)(M2:kg K mg)(HC:bH K C gT)(HD:bH K D fA)(CT:aA P w K mg base "come_to" 1 (aE (Iw C D) K))(F:dH K "not_come_to" "not_come_to" zQ f fd)(hm:mg "not_come_to"=some (.ref f))(hb:Binds K fd ["spots"] []):aA P w K mg base "not_come_to" 2 (aE (ia C D) K):=by
 have nd:=GG.nd
 have VR:OX [("number":Str),"step","known"]:=by decide
 have Xh:OX [("step":Str)]:=by decide
 refine fR (k:=1) F GG hm hb (λqs T ⟨_,e,_⟩=>by rw[e];rfl) (λUE A outer st H E qs T hr hS=>?_)
 obtain⟨s,rfl,hG,rfl⟩:=hS
 have hu:=ru hr
 have hl:=hG.l
 change WS _ _ [.im (bp C D) s,.no,.no] _ _
 refine ai (mT 1 CT hr (af (aa 0 rfl) aq) ⟨s,rfl,hG,rfl⟩ ?_)
 rintro _ ⟨fd,rfl,hR⟩
 change WS _ _ [.im (bp C D) s,.im gu (dT fd),.no] _ _
 refine ai (kM 2 (own:=["number","step"]) (fr:=["known"]) (ix:=[1]) (ra:=cD ah (bh C)) (rb:=bh C) (p:=λz=> !gD (dT fd) z.1) (f:=λz=>z.2) (bt (so:=ag zQ) (N0:=Hv) rfl rfl (λx h=>a8 h) (by decide +kernel)) (gJ M.enumerate (xq (C:=C) HD (aa 0 rfl)))
  (λC s H ex=>fo 0 1) (λx=>⟨.inr rfl,.inr rfl,.inl rfl,trivial⟩) (λC' s H ex z hz=>fE (wk hu (aa 0 rfl) (aa 2 rfl))) (λC' s H ex z hz _=>aa 1 rfl) ?_)
 have lz:(((nums s.S).filter λz=> !gD (dT fd) z.1).map λz=>z.2).length<=240:=by
  rw[OH]
  refine QD (Pz _ _) ?_
  rw[c5];exact hl
 refine WS.freeze 2 rfl (aH (by omega)) ?_
 refine ak (aN (aW.im (bD (own:=["step"]) (fr:=[]) (ix:=[]) (ra:=bh C) (rb:=ah) (p:=λt=>decide (t.kind∈UW)) (f:=λt=>t.word) (bt (so:=ag zQ) (N0:=Hv) rfl rfl (λx h=>a8 h) (by decide +kernel)) (bG (aa 2 rfl))
  (λC s H ex=>aO 0) (λx=>⟨.inr rfl,trivial⟩) (λC' s H ex t ht=>fE (aD jY (gp (C:=C) HC (aa 0 rfl)) (gx M2.UW))) (λC' s H ex t ht _=>Kx (C:=C) HC (aa 0 rfl)))) ?_)
 refine i5 λt ht=>?_
 obtain⟨z,hz,rfl⟩:=OO.mp ht
 obtain⟨hz,hp⟩:=O2.mp hz
 obtain⟨n,nl,e1,e2⟩:=mG hz
 refine Ux λhk=>?_
 have:=hG.ct fd hR n nl (by unfold aQ;rw[show((n:Nat):Int).toNat=n by omega,e2];exact hk)
 rw[mw,e1,Uw this] at hp
 cases hp
abbrev zK:Stmt:=top rV
abbrev Gj:Of:=["spots","called"]
theorem Jp:ay Gj ["spots"] (ag zK):=UY
theorem Kn (M:cb K mg)(HC:bH K C gT)(HD:bH K D fA)(CN:aA P w K mg base "name_words" 1 (aE (vT C D) K))(Df:Def K mg "not_called" zK ["spots"]):aA P w K mg base "not_called" 2 (aE (ia C D) K):=by
 have nd:=Jp.nd
 have VR:OX [("step":Str)]:=by decide
 have Xh:OX [("part":Str),"called"]:=by decide
 refine bc (k:=1) Df Jp (λf UE A outer st H E qs T hr hS=>?_)
 obtain⟨s,rfl,hG,rfl⟩:=hS
 change WS _ _ [.im (bp C D) s,.no] _ _
 refine ai (aU 1 (aW.im (bD (own:=["step"]) (fr:=[]) (ix:=[]) (ra:=bh C) (rb:=aj) (p:=λt=>decide (t.kind="call")) (f:=λt=>t.name) (bt (so:=ag zK) (N0:=Gj) rfl rfl (λx h=>a8 h) (by decide +kernel)) (bG (xq (C:=C) HD (aa 0 rfl)))
  (λC s H ex=>aO 0) (λx=>⟨.inr rfl,trivial⟩) (λC' s H ex t ht=>fE (aD cv (gp (C:=C) HC (aa 0 rfl)) aG)) (λC' s H ex t ht _=>pE (C:=C) HC (aa 0 rfl)))) ?_)
 generalize Wo:(s.S.filter λt=>decide (t.kind=("call":Str))).map (λt=>t.name)=cs
 change WS _ _ [.im (bp C D) s,.im (ae aj) cs] _ _
 refine ak (aN (y:=([]:Oe)) (aB CN hr (af (aa 0 rfl) (af (x:=([]:List PV)) (EV.cast (aW.im (bD (own:=["part"]) (fr:=["called"]) (ix:=[1]) (ra:=ax) (rb:=ax) (xs:=cut (s.parts.map j2) (some 1) none) (p:=λz=> !decide (tq z∈cs)) (f:=λz=>z) (bt (so:=ag zK) (N0:=Gj) rfl rfl (λx h=>a8 h) (by decide +kernel)) (bG (aW.im (jb (gW (C:=C) HD (aa 0 rfl)) (ov_some ev_int) ov_none)))
  (λC s H ex=>aO 0) (λx=>⟨.inr rfl,.inl rfl,trivial⟩) (λC' s H ex z hz=>?_) (λC' s H ex z hz _=>aa 0 rfl))) ?_) aq)) ⟨s,rfl,rfl⟩) rfl)
 ·rw[show((1:Int))=((1:Nat):Int) from rfl,oX,← Qy] at hz
  obtain⟨p,_,rfl⟩:=OO.mp hz
  exact fE (aD zB (EV.sP (x:=p.1) (dq (aa 0 rfl) ev_int rfl)) (aa 1 rfl))
 ·refine i5 λz hz=>?_
  rw[show((1:Int))=((1:Nat):Int) from rfl,oX,← Qy] at hz
  obtain⟨p,hp,rfl⟩:=OO.mp hz
  obtain⟨t,ht,hk,hn⟩:=hG.nc p hp
  rw[zW,Uw (show p.1∈cs from by rw[← Wo];exact OO.mpr ⟨t,O2.mpr ⟨ht,Uw hk⟩,hn⟩)]
  rfl
end
structure iL (mg:Oc):Prop where
 beg:∃t,mg "BEGIN"=some (.int 0 t)
 end_:∃t,mg "END"=some (.int 1 t)
 parts:∃t,mg "MOST_PARTS"=some (.int 4 t)
 places:∃t,mg "MOST_PLACES"=some (.int 16 t)
 rows:∃t,mg "MOST_PROGRAM_ROWS"=some (.int 30 t)
section
variable {X:Cx}{Γ Γ1:Ga}{C D:Addr}
theorem uE (i j:Nat){x z:Str}{p1 p2 ap pos:Pos}{s:gf}{k y:Int}(hD:bH X.K D fA)(hΓ:Γ[i]?=some (.im (bp C D) s))(hj:Γ[j]?=some (ao k))(hk:bU s.St k=some y)
 (hN:X.N[i]?=some x:=by rfl) (hv:autoParam (cN X.env.scope x) Vc) (hd:UX x:=by decide) (UI:Ve x:=by decide)
 (hN':X.N[j]?=some z:=by rfl) (Wm:autoParam (cN X.env.scope z) Vc) (Zl:(z==("__debug__":Str))=false:=by decide) (hcd':(z==("__classdict__":Str))=false:=by decide)
 (hb:Rj (.Name x p1) "stands" X.env (eval (.Name x p1) X.env)=eval (.Name x p1) X.env:=by rfl) (X4:eC (.Name z p2):=by exact λ_ _=>rfl):oP X (.Subscript (.Attribute (.Name x p1) "stands" ap) (.Name z p2) pos) Γ y:=λσ H0 R0 H R E H' Q sR q=>by
 obtain⟨v,ea,xx,dx,vs,rfl,h1,h2⟩:=E.ent i _ hΓ
 obtain⟨u,q1,q2⟩:=h2.get (f:="stands") rfl
 obtain⟨b,ws,rfl,Vv,pp,hz⟩:=(show(ae ah).R X.K R u s.St from q2)
 obtain⟨v0,e0,YW⟩:=E.ent j _ hj
 cases YW
 obtain⟨w,e3,e4⟩:=g8 pp hk
 cases e4
 exact eS (iJ iA (tE (br hN hv hd UI) hb) (br hN' Wm Zl hcd') X4) ⟨.ref xx,at_of ea,xx,D,dx,vs,.ref b,rfl,sR _ _ h1,hD.cl,hD.no _ (dt (by decide)),q1,.int k,at_of e0,b,ws,k,.int y,rfl,rfl,aZ.of (sR _ _ Vv),e3,q⟩
end
section
variable {C D:Addr}
abbrev CJ:Stmt:=top m8
theorem G1:ay ["spots"] ["spots"] (ag CJ):=UY
def N9:PV->Int
 | .tup (_::_:: .int n::_)=>n
 | _=>0
theorem KO (HD:bH K D fA)(CN:aA P w K mg base "name_words" 1 (aE (vT C D) K))(Df:Def K mg "ended_at_begin" CJ ["spots"]):aA P w K mg base "ended_at_begin" 2 (aE (ia C D) K):=by
 have nd:=G1.nd
 have VR:OX [("part":Str),"spots"]:=by decide
 refine bc (k:=1) Df G1 (λf UE A outer st H E qs T hr hS=>?_)
 obtain⟨s,rfl,hG,rfl⟩:=hS
 change WS _ _ [.im (bp C D) s] _ _
 refine ak (aN (y:=([]:Oe)) (aB CN hr (af (aa 0 rfl) (af (x:=([]:List PV)) (EV.cast (aW.im (bD (own:=["part"]) (fr:=["spots"]) (ix:=[0]) (ra:=ax) (rb:=ax) (p:=λz=>decide (s.St.getD (wU z).toNat 0=N9 z)) (f:=λz=>z) (bt (so:=ag CJ) (N0:=["spots"]) rfl rfl (λx h=>a8 h) (by decide +kernel)) (bG (gW (C:=C) HD (aa 0 rfl)))
  (λC s H ex=>aO 0) (λx=>⟨.inr rfl,.inl rfl,trivial⟩) (λC' s' H ex z hz=>?_) (λC' s H ex z hz _=>aa 0 rfl))) ?_) aq)) ⟨s,rfl,rfl⟩) rfl)
 ·obtain⟨p,hp,rfl⟩:=OO.mp hz
  obtain⟨p0,p1⟩:=hG.pv p hp
  exact fE (aD eo (aY (Km (C:=C) HD (aa 1 rfl)) (EV.iP (n:=p.2.1) (dq (aa 0 rfl) ev_int rfl)) (aV (xs:=s.St) (i:=p.2.1) 0 p0 (by rw[hG.sl];exact p1))) (EV.iP (n:=p.2.2) (dq (aa 0 rfl) ev_int rfl)))
 ·refine i5 λz hz=>?_
  obtain⟨p,hp,rfl⟩:=OO.mp hz
  exact Ux (hG.eb p hp)
abbrev Cd:Stmt:=top qf
theorem Gb:ay ["spots"] ["spots"] (ag Cd):=UY
theorem LV (M3:iL mg)(HD:bH K D fA)(Df:Def K mg "rows_beyond" Cd ["spots"]):aA P w K mg base "rows_beyond" 1 (aE (ia C D) K):=by
 have nd:=Gb.nd
 have VR:OX [("row":Str),"spots"]:=by decide
 refine bc Df Gb (λf UE A outer st H E qs T hr hS=>?_)
 obtain⟨s,rfl,hG,rfl⟩:=hS
 obtain⟨t,ht⟩:=M3.rows
 change WS _ _ [.im (bp C D) s] _ _
 have hc:cut (s.rows.map h8) (some 30) none=[]:=by
  rw[show((30:Int))=((30:Nat):Int) from rfl,oX,← Qy,P9 hG.rl];rfl
 exact ak (aN (aW.im (bD (own:=["row"]) (fr:=["spots"]) (ix:=[0]) (ra:=ax) (rb:=ah) (xs:=[]) (p:=λ_=>true) (f:=λ_=>0) (bt (so:=ag Cd) (N0:=["spots"]) rfl rfl (λx h=>a8 h) (by decide +kernel)) (bG (EV.cast (aW.im (jb (se (C:=C) HD (aa 0 rfl)) (ov_some (ck ht)) ov_none)) hc))
  (λC s H ex=>aO 0) (λx=>⟨.inr rfl,.inl rfl,trivial⟩) (λC' s H ex c hc=>cO) (λC' s H ex o ho _=>by cases ho))) rfl)
abbrev Ft:Stmt:=top oG
theorem GA:ay ["spots"] ["spots"] (ag Ft):=UY
theorem Ku (M3:iL mg)(HD:bH K D fA)(CN:aA P w K mg base "name_words" 1 (aE (vT C D) K))(Df:Def K mg "parts_beyond" Ft ["spots"]):aA P w K mg base "parts_beyond" 2 (aE (ia C D) K):=by
 have nd:=GA.nd
 refine bc (k:=1) Df GA (λf UE A outer st H E qs T hr hS=>?_)
 obtain⟨s,rfl,hG,rfl⟩:=hS
 obtain⟨t,ht⟩:=M3.parts
 change WS _ _ [.im (bp C D) s] _ _
 have hc:cut (s.parts.map j2) (some 4) none=[]:=by
  rw[show((4:Int))=((4:Nat):Int) from rfl,oX,← Qy,P9 hG.pl];rfl
 exact ak (aN (y:=([]:Oe)) (aB CN hr (af (aa 0 rfl) (af (x:=([]:List PV)) (EV.cast (aW.im (jb (gW (C:=C) HD (aa 0 rfl)) (ov_some (ck ht)) ov_none)) hc) aq)) ⟨s,rfl,rfl⟩) rfl)
abbrev AY:Stmt:=top tV
abbrev NF:Of:=["spots","part","first","last","told","row","step"]
theorem Cy:ay NF ["spots","part"] (ag AY):=UY
def BX (C D:Addr):bQ:=λK ps T=>∃(s:gf) (i:Nat) (p:gU),ps=[⟨bp C D,s⟩,⟨ah,(i:Int)⟩]/\Good s/\s.parts[i]?=some p/\T=bL K iQ (· =bS s p)
theorem mZ (F:Ol)(k:Int):(eX F k).length<=F.length+1:=by
 unfold eX;split
 ·omega
 ·rw[OI];simp
theorem EY (p:gU)(F:Ol)(r:Rw):(d6 p F r).length<=F.length+2:=by
 unfold d6;split
 ·exact QD (mZ _ _) (by have:=mZ F r.1;omega)
 ·omega
theorem G3 (p:gU)(F:Ol)(rs:List Rw):(rs.foldl (d6 p) F).length<=F.length+2*rs.length:=by
 induction rs generalizing F with
 | nil=>exact QC _
 | cons r rs ih=>
   rw[PX,OP]
   have:=ih (d6 p F r)
   have:=EY p F r
   omega
theorem FG (M:cb K mg)(M3:iL mg)(HD:bH K D fA)(Df:Def K mg "places_in" AY ["spots","part"]):aA P w K mg base "places_in" 1 (aE (BX C D) K):=by
 have nd:=Cy.nd
 refine bc Df Cy (λf UE A outer st H E qs T hr hS=>?_)
 obtain⟨s,i,p,rfl,hG,hp,rfl⟩:=hS
 obtain⟨t1,hbg⟩:=M3.beg
 obtain⟨t2,hen⟩:=M3.end_
 have pm:=OK hp
 have il:=(OD.mp hp).1
 obtain⟨p0,p1⟩:=hG.pv p pm
 have hrl:=hG.rl
 have Vn:bU (s.parts.map j2) (i:Int)=some (j2 p):=by
  rw[mm (by omega) (by rw[OH];omega),show((i:Nat):Int).toNat=i by omega,OJ,hp];rfl
 change WS _ _ [.im (bp C D) s,ao (i:Int),.no,.no,.no,.no,.no] _ _
 refine ai (aU 2 (y:=p.2.1) (EV.iP (dq (xs:=[.str p.1,.int p.2.1,.int p.2.2]) (aY (gW (C:=C) HD (aa 0 rfl)) (aa 1 rfl) Vn) ev_int rfl)) ?_)
 refine ai (aU 3 (y:=p.2.2) (EV.iP (dq (xs:=[.str p.1,.int p.2.1,.int p.2.2]) (aY (gW (C:=C) HD (aa 0 rfl)) (aa 1 rfl) Vn) ev_int rfl)) ?_)
 change WS _ _ [.im (bp C D) s,ao (i:Int),ao p.2.1,ao p.2.2,.no,.no,.no] _ _
 refine ai (D4 4 (v:=0) (u:=1) (uE (C:=C) 0 2 HD rfl rfl (aV (xs:=s.St) (i:=p.2.1) 0 p0 (by rw[hG.sl];exact p1))) (u7 3 rfl) (iq rfl hbg ⟨t1,rfl⟩) (iq rfl hen ⟨t2,rfl⟩) (hG.eb p pm) ?_)
 generalize hF0:[(s.St.getD p.2.1.toNat 0,(0:Int)),(p.2.2,1)]=F0
 have U0:bS s p=s.rows.foldl (d6 p) F0:=by unfold bS;rw[hF0]
 have f0l:F0.length=2:=by rw[← hF0];rfl
 rw[U0]
 change WS _ _ [.im (bp C D) s,ao (i:Int),ao p.2.1,ao p.2.2,.di (cR F0),.no,.no] _ _
 refine bN (N1:=λΓ=>∃e5 e6,Γ=[.im (bp C D) s,ao (i:Int),ao p.2.1,ao p.2.2,.di (cR (s.rows.foldl (d6 p) F0)),e5,e6]) (bX (λj Γ=>∃e5 e6,Γ=[.im (bp C D) s,ao (i:Int),ao p.2.1,ao p.2.2,.di (cR ((s.rows.take j).foldl (d6 p) F0)),e5,e6]) (bG (se (C:=C) HD (aa 0 rfl))) (aO 5) ⟨_,_,rfl⟩ (λj z Γ hz hΓ=>?_) (λΓ hΓ=>?_)) ?_
 ·obtain⟨e5,e6,rfl⟩:=hΓ
  rw[OJ] at hz
  obtain⟨r,Ww,rfl⟩:=QX.mp hz
  have jl:=(OD.mp Ww).1
  have fl:=G3 p F0 (s.rows.take j)
  have tl:(s.rows.take j).length<=30:=by rw[OY];omega
  have VC:(s.rows.take (j+1)).foldl (d6 p) F0=d6 p ((s.rows.take j).foldl (d6 p) F0) r:=by rw[Pg,Ww,P4];rfl
  rw[VC]
  generalize (s.rows.take j).foldl (d6 p) F0=Fj at fl
  have fj:Fj.length<=62:=by omega
  change WS _ _ [.im (bp C D) s,ao (i:Int),ao p.2.1,ao p.2.2,.di (cR Fj),.im ax (h8 r),e6] _ _
  refine ak (ba (iE gE gE (aa 2 rfl) (EV.iP (n:=r.1) (dq (aa 5 rfl) ev_int rfl)) (aa 3 rfl)) (λh=>?_) (λh=>aL ⟨.im ax (h8 r),e6,?_⟩))
  ·have VN:lW p r=true:=h
   have hcut:cut [PV.int r.1,.int r.2.1,.str r.2.2.1,.str r.2.2.2] none (some 2)=[.int r.1,.int r.2.1]:=rfl
   have g:d6 p Fj r=eX (eX Fj r.1) r.2.1:=Ut VN
   rw[g]
   have l1:=mZ Fj r.1
   refine ak (bX (r:=ax) (xs:=[.int r.1,.int r.2.1]) (λq Γ=>∃e6,Γ=[.im (bp C D) s,ao (i:Int),ao p.2.1,ao p.2.2,.di (cR (([r.1,r.2.1].take q).foldl eX Fj)),.im ax (h8 r),e6]) (Eh (by show 2<=Ra;decide) (EV.cast (Fw (aa 5 rfl) ov_none (ov_some ev_int)) (congrArg PV.tup hcut))) (aO 6) ⟨_,rfl⟩ (λq y Γ hy hΓ=>?_) (λΓ hΓ=>?_))
   ·obtain⟨e6,rfl⟩:=hΓ
    obtain⟨n,hn,rfl⟩:∃n,[r.1,r.2.1][q]?=some n/\PV.int n=y:=by
     have:([r.1,r.2.1].map PV.int)[q]?=some y:=hy
     rw[OJ] at this
     exact QX.mp this
    have hnq:([r.1,r.2.1].take (q+1)).foldl eX Fj=eX (([r.1,r.2.1].take q).foldl eX Fj) n:=by rw[Pg,hn,P4];rfl
    rw[hnq]
    have hql:(([r.1,r.2.1].take q).foldl eX Fj).length<=64:=by
     have key:∀(ks:Oe) (G:Ol),(ks.foldl eX G).length<=G.length+ks.length:=by
      intro ks
      induction ks with
      | nil=>intro G;exact QC _
      | cons k ks ih=>intro G;rw[PX,OP];have:=ih (eX G k);have:=mZ G k;omega
     have:=key ([r.1,r.2.1].take q) Fj
     have:([r.1,r.2.1].take q).length<=2:=by rw[OY];exact QS _ _
     omega
    generalize ([r.1,r.2.1].take q).foldl eX Fj=G at hql
    change WS _ _ [.im (bp C D) s,ao (i:Int),ao p.2.1,ao p.2.2,.di (cR G),.im ax (h8 r),.im ax (.int n)] _ _
    refine ak (Ge 4 (k:=n) (EV.iP (aa 6 rfl)) (BF 4 M.len rfl) rfl (QF hql (by decide)) ⟨.im ax (.int n),?_⟩)
    unfold eX
    rfl
   ·obtain⟨e6,rfl⟩:=hΓ
    exact⟨.im ax (h8 r),e6,rfl⟩
  ·have VN:¬lW p r=true:=by
    rw[show lW p r=false from h];decide
   rw[show d6 p Fj r=Fj from Us VN]
 ·obtain⟨e5,e6,rfl⟩:=hΓ
  refine⟨e5,e6,?_⟩
  rw[OH,Pl]
 rintro _ ⟨e5,e6,rfl⟩
 exact ak (vS 4 rfl rfl)
end
def wZ:PV->Int
 | .tup (.int n::_)=>n
 | _=>0
section
variable {C D:Addr}
abbrev yj:Stmt:=top nM
abbrev Ie:Of:=["spots","known","lost","found","number","part","whole"]
theorem Jl:ay Ie ["spots"] (ag yj):=UY
theorem J6 (M:cb K mg)(M3:iL mg)(HD:bH K D fA)(CN:aA P w K mg base "name_words" 1 (aE (vT C D) K))(CT:aA P w K mg base "come_to" 1 (aE (Iw C D) K))(CP:aA P w K mg base "places_in" 1 (aE (BX C D) K))(F:dH K "places_beyond" "places_beyond" yj f fd)(hm:mg "places_beyond"=some (.ref f))(hb:Binds K fd ["spots"] []):aA P w K mg base "places_beyond" 2 (aE (ia C D) K):=by
 have nd:=Jl.nd
 have VR:OX [("row":Str),"known"]:=by decide
 have Xh:OX [("row":Str),"part"]:=by decide
 refine fR (k:=1) F Jl hm hb (λqs T ⟨_,e,_⟩=>by rw[e];rfl) (λUE A outer st H E qs T hr hS=>?_)
 obtain⟨s,rfl,hG,rfl⟩:=hS
 obtain⟨t,hmp⟩:=M3.places
 have hu:=ru hr
 change WS _ _ [.im (bp C D) s,.no,.no,.no,.no,.no,.no] _ _
 refine ai (mT 1 CT hr (af (aa 0 rfl) aq) ⟨s,rfl,hG,rfl⟩ ?_)
 rintro _ ⟨fd,rfl,hR⟩
 change WS _ _ [.im (bp C D) s,.im gu (dT fd),.no,.no,.no,.no,.no] _ _
 have Zb:(((s.rows.map h8).filter λz=> !gD (dT fd) (wZ z)).map wZ)=[]:=i5 λz hz=>by
  obtain⟨r,Ww,rfl⟩:=OO.mp hz
  obtain⟨⟨r0,r1⟩,rk⟩:=hG.rk r Ww
  have:=hG.ct fd hR r.1.toNat (by omega) (by rw[show((r.1.toNat:Nat):Int)=r.1 by omega];exact rk)
  rw[show((r.1.toNat:Nat):Int)=r.1 by omega] at this
  show(!gD (dT fd) r.1)=false
  rw[mw,Uw this];rfl
 refine ai (kM 2 (own:=["row"]) (fr:=["known"]) (ix:=[1]) (ra:=ax) (rb:=ah) (p:=λz=> !gD (dT fd) (wZ z)) (f:=wZ) (bt (so:=ag yj) (N0:=Ie) rfl rfl (λx h=>a8 h) (by decide +kernel)) (bG (se (C:=C) HD (aa 0 rfl)))
  (λC s H ex=>aO 0) (λx=>⟨.inr rfl,.inl rfl,trivial⟩) (λC' s H ex z hz=>by
   obtain⟨r,_,rfl⟩:=OO.mp hz
   exact fE (wk hu (EV.iP (n:=r.1) (dq (aa 0 rfl) ev_int rfl)) (aa 1 rfl))) (λC' s H ex z hz _=>by
   obtain⟨r,_,rfl⟩:=OO.mp hz
   exact EV.iP (n:=r.1) (dq (aa 0 rfl) ev_int rfl)) ?_)
 rw[Zb]
 refine WS.freeze 2 rfl (QE _) ?_
 refine ai (bV 3 (r:=ax) (ys:=[]) (aR aT (QE _)) ?_)
 change WS _ _ [.im (bp C D) s,.im gu (dT fd),bP [],.mu ax [],.no,.no,.no] _ _
 refine bN (N1:=λΓ=>∃e4 e5 e6,Γ=[.im (bp C D) s,.im gu (dT fd),bP [],.mu ax [],e4,e5,e6]) (bX (λi Γ=>∃e4 e5 e6,Γ=[.im (bp C D) s,.im gu (dT fd),bP [],.mu ax [],e4,e5,e6]) (gJ M.enumerate (gW (C:=C) HD (aa 0 rfl))) (fo 4 5) ⟨_,_,_,rfl⟩ (λi z Γ hz hΓ=>?_) (λΓ hΓ=>hΓ)) ?_
 ·obtain⟨e4,e5,e6,rfl⟩:=hΓ
  obtain⟨e1,e2⟩:=eJ hz
  rw[OJ] at e2
  obtain⟨p,hp,ep⟩:=QX.mp e2
  obtain⟨zn,zp⟩:=z
  dsimp only at e1 ep
  subst ep
  subst e1
  change WS _ _ [.im (bp C D) s,.im gu (dT fd),bP [],.mu ax [],ao (i:Int),.im ax (j2 p),e6] _ _
  refine ai (aU 6 (y:=true) (EV.cast (yQ (Ac M.any (aW.im (bD (own:=["row"]) (fr:=["part"]) (ix:=[5]) (ra:=ah) (rb:=bF) (p:=λ_=>true) (f:=λ_=>true) (bt (so:=ag yj) (N0:=Ie) rfl rfl (λx h=>a8 h) (by decide +kernel)) (bG (aa 2 rfl))
   (λC s H ex=>aO 0) (λx=>⟨.inr rfl,.inl rfl,trivial⟩) (λC' s H ex c hc=>cO) (λC' s H ex o ho _=>by cases ho))))) rfl) ?_)
  change WS _ _ [.im (bp C D) s,.im gu (dT fd),bP [],.mu ax [],ao (i:Int),.im ax (j2 p),.im bF true] _ _
  refine ak (ba (TW.tv (cT (cj (aa 6 rfl)) (λ_=>dQ (aD gP (sO M.len (aB CP hr (af (aa 0 rfl) (af (aa 4 rfl) aq)) ⟨s,i,p,rfl,hG,hp,rfl⟩)) (ck hmp))))) (λh=>?_) (λh=>aL ⟨_,_,_,rfl⟩))
  exfalso
  have:=hG.pc p (OK hp)
  rw[Ux (show¬(16:Int)<((bS s p).length:Int) by omega)] at h
  cases h
 rintro _ ⟨e4,e5,e6,rfl⟩
 refine WS.freeze 3 rfl (QE _) ?_
 exact ak (aN (y:=([]:Oe)) (aB CN hr (af (aa 0 rfl) (af (aa 3 rfl) aq)) ⟨s,rfl,rfl⟩) rfl)
abbrev Je:Stmt:=top rQ
abbrev nHI:Of:=["spots","found"]
theorem Hj:ay nHI ["spots"] (ag Je):=UY
theorem Ka (NA:aA P w K mg base "named_again" 2 (aE (ia C D) K))(CA:aA P w K mg base "called_astray" 1 (aE (ia C D) K))(NC:aA P w K mg base "not_come_to" 2 (aE (ia C D) K))(NL:aA P w K mg base "not_called" 2 (aE (ia C D) K))(EB:aA P w K mg base "ended_at_begin" 2 (aE (ia C D) K))(RB:aA P w K mg base "rows_beyond" 1 (aE (ia C D) K))(PY:aA P w K mg base "places_beyond" 2 (aE (ia C D) K))(PB:aA P w K mg base "parts_beyond" 2 (aE (ia C D) K))(Df:Def K mg "hindrances" Je ["spots"]):aA P w K mg base "hindrances" 3 (aE (ia C D) K):=by
 have nd:=Hj.nd
 have CA:=CA.mono (show 1<=2 by decide)
 have RB:=RB.mono (show 1<=2 by decide)
 refine bc (k:=2) Df Hj (λf UE A outer st H E qs T hr hS=>?_)
 obtain⟨s,rfl,hG,rfl⟩:=hS
 change WS _ _ [.im (bp C D) s,.no] _ _
 have z:(([]:Oe)).length+(([]:Oe)).length<=Ra:=QE _
 refine ai (aU 1 (y:=([]:Oe)) (aW.im (cz (xs:=[]) (ys:=[]) (aW.im (cz (xs:=[]) (ys:=[]) (aW.im (cz (xs:=[]) (ys:=[]) (aB NA hr (af (aa 0 rfl) aq) ⟨s,rfl,hG,rfl⟩) (aB CA hr (af (aa 0 rfl) aq) ⟨s,rfl,hG,rfl⟩) z)) (aB NC hr (af (aa 0 rfl) aq) ⟨s,rfl,hG,rfl⟩) z)) (aB NL hr (af (aa 0 rfl) aq) ⟨s,rfl,hG,rfl⟩) z)) ?_)
 change WS _ _ [.im (bp C D) s,bP []] _ _
 exact ak (aN (y:=([]:Oe)) (aW.im (cz (xs:=[]) (ys:=[]) (aW.im (cz (xs:=[]) (ys:=[]) (aW.im (cz (xs:=[]) (ys:=[]) (aW.im (cz (xs:=[]) (ys:=[]) (aa 1 rfl) (aB EB hr (af (aa 0 rfl) aq) ⟨s,rfl,hG,rfl⟩) z)) (aB RB hr (af (aa 0 rfl) aq) ⟨s,rfl,hG,rfl⟩) z)) (aB PY hr (af (aa 0 rfl) aq) ⟨s,rfl,hG,rfl⟩) z)) (aB PB hr (af (aa 0 rfl) aq) ⟨s,rfl,hG,rfl⟩) z)) rfl)
abbrev Jw:Stmt:=top oW
abbrev nNP:Of:=["text","spots","found"]
theorem GC:ay nNP ["text"] (ag Jw):=UY
def M8 (C D:Addr):bQ:=λK ps T=>∃(x:Str) (S:List aI) (Ld:List Oe),ps=[⟨aj,x⟩]/\qA x S/\nY S Ld/\Good (US S Ld)/\T=bL K (bp C D) (· =US S Ld)
theorem KI (G:sE P w K mg base C D)(CH:aA P w K mg base "hindrances" 3 (aE (ia C D) K))(Df:Def K mg "need_program" Jw ["text"]):aA P w K mg base "need_program" 6 (aE (M8 C D) K):=by
 have nd:=GC.nd
 have CH:=CH.mono (show 3<=5 by decide)
 refine bc (k:=5) Df GC (λf UE A outer st H E qs T hr hS=>?_)
 obtain⟨x,S,Ld,rfl,hx,hk,hG,rfl⟩:=hS
 change WS _ _ [.im aj x,.no,.no] _ _
 refine ai (aU 1 (y:=US S Ld) (BA G hr (af (aa 0 rfl) aq) hx hk) ?_)
 refine ai (aU 2 (y:=([]:Oe)) (aB CH hr (af (aa 1 rfl) aq) ⟨US S Ld,rfl,hG,rfl⟩) ?_)
 change WS _ _ [.im aj x,.im (bp C D) (US S Ld),bP []] _ _
 refine ai (ba (tO (aa 2 rfl)) (λh=>by cases h) (λ_=>aL ?_))
 exact ak (aN (aa 1 rfl) rfl)
end
section
variable {α:Type}{a b:Int}{l:Oe}
def Pure:Prop:=∀(Uy:Of) (Ls:List (List Th)),cy Uy Ls->∃Ld,nY (ar Uy Ls) Ld/\Good (US (ar Uy Ls) Ld)
theorem EX {Uy:Of}{Ls:List (List Th)}(h:cy Uy Ls):qA (TJ " " (jd Uy Ls)) (ar Uy Ls):=by
 obtain⟨pl,po⟩:=ud h
 refine⟨jd Uy Ls,_,rfl,λe=>?_,pl,po,rq h⟩
 have:=h.l1
 have hl:=h.l
 cases Uy with
 | nil=>rw[O8] at hl;omega
 | cons x Uy=>cases Ls with
   | nil=>exact Ur h.l1 (by simp)
   | cons L Ls=>
     unfold jd at e
     rw[List.zip_cons_cons,P6] at e
     unfold fg at e
     simp at e
def dW (S:List α)(a:Nat)(vs:List α):Prop:=∀(i:Nat) (v:α),vs[i]?=some v->S[a+i]?=some v
theorem dW.app {S:List α}{w:Nat}{a b:List α}(h:dW S w (a++b)):dW S w a/\dW S (w+a.length) b:=by
 refine⟨λi v hv=>h i v ?_,λi v hv=>?_⟩
 ·rw[O6 (OD.mp hv).1];exact hv
 ·have:=h (a.length+i) v (by rw[O7 (by omega),show a.length+i-a.length=i by omega];exact hv)
  rw[show w+a.length+i=w+(a.length+i) by omega];exact this
theorem dW.self (S:List α):dW S 0 S:=λi v hv=>by rw[QV];exact hv
theorem dW.d {α:Type}{S:List α}{a:Nat}{vs:List α}(h:dW S a vs){i:Nat}{v:α}(hv:vs[i]?=some v)(d:α):S.getD (a+i) d=v/\a+i<S.length:=by
 have:=h i v hv
 exact⟨by rw[OG,this];rfl,(OD.mp this).1⟩
theorem dW.k {S:List aI}{a:Nat}{vs:List aI}(h:dW S a vs){i:Nat}{v:aI}(hv:vs[i]?=some v):aQ S ((a+i:Nat):Int)=v.kind/\cn S ((a+i:Nat):Int)=v.within/\a+i<S.length:=by
 obtain⟨e,l⟩:=h.d hv d9
 unfold aQ
 rw[show(((a+i:Nat)):Int).toNat=a+i by omega,e]
 refine⟨rfl,?_,l⟩
 show(S.getD (((a+i:Nat)):Int).toNat d9).within=_
 rw[show(((a+i:Nat)):Int).toNat=a+i by omega,e]
def cw (S:List aI):Oe:=(S.filter λt=>decide (t.kind∈UG)).map (·.within)
theorem gj (a b:List aI):cw (a++b)=cw a++cw b:=by unfold cw;rw[PZ,O3]
theorem lQ {s:aI}(h:s.kind∉UG):cw [s]=[]:=by unfold cw;rw[PM (by simpa using h)];rfl
theorem oI {s:aI}(h:s.kind∈UG):cw [s]=[s.within]:=by unfold cw;rw[PK (by simpa using h)];rfl
def ib (a b:Int)(l:Oe):Prop:=l.Nodup/\∀x∈l,a<=x/\x<b
theorem ib.app {c:Int}{m:Oe}(h:ib a b l)(h':ib b c m)(h1:a<=b)(h2:b<=c):ib a c (l++m):=by
 refine⟨Qs.mpr ⟨h.1,h'.1,λx hx y hy e=>?_⟩,λx hx=>?_⟩
 ·have:=h.2 x hx;have:=h'.2 y hy;omega
 ·rcases OS.mp hx with z | z
  ·have:=h.2 x z;omega
  ·have:=h'.2 x z;omega
theorem ib.wide {a' b':Int}(h:ib a b l)(h1:a'<=a)(h2:b<=b'):ib a' b' l:=⟨h.1,λx hx=>by have:=h.2 x hx;omega⟩
theorem ib.add {x:Int}(h:ib a b l)(hx:x<a∨b<=x)(lo hi:Int)(h1:lo<=a)(h2:b<=hi)(h3:lo<=x)(h4:x<hi):ib lo hi (l++[x]):=by
 refine⟨fP h.1 λz=>by have:=h.2 x z;omega,λy hy=>?_⟩
 rcases OS.mp hy with z | z
 ·have:=h.2 y z;omega
 ·rw[OF.mp z];omega
theorem ib.nil (a b:Int):ib a b []:=⟨Ql,λx h=>by cases h⟩
mutual
theorem cwT {Uy:Of}:∀(t:Th) (a w u:Int),ib a (a+bw t) (cw (spT Uy a w u t))
 | .Vl _,a,w,u=>by rw[spT,lQ (show("do":Str)∉UG by decide +kernel)];exact .nil _ _
 | .call _,a,w,u=>by rw[spT,lQ (show("call":Str)∉UG by decide +kernel)];exact .nil _ _
 | .leave,a,w,u=>by rw[spT,lQ (show("leave":Str)∉UG by decide +kernel)];exact .nil _ _
 | .back,a,w,u=>by rw[spT,lQ (show("back":Str)∉UG by decide +kernel)];exact .nil _ _
 | .UU x A,a,w,u=>by
   have h:=zq (Uy:=Uy) A (a+1) (w+2) a
   rw[spT,bw,gj,gj,lQ (show("while":Str)∉UG by decide +kernel),oI (show("end":Str)∈UG by decide +kernel),Qz]
   push_cast
   exact h.add (.inl (by omega)) _ _ (by omega) (by omega) (by omega) (by omega)
 | .ifs x A B,a,w,u=>by
   have h:=zq (Uy:=Uy) A (a+1) (w+2) a
   have h':=zq (Uy:=Uy) B (a+2+UC A) (w+3+(UK Uy A).length) (a+1+UC A)
   rw[spT,bw,gj,gj,gj,gj,lQ (show("if":Str)∉UG by decide +kernel),oI (show("else":Str)∈UG by decide +kernel),oI (show("end":Str)∈UG by decide +kernel),Qz]
   push_cast
   have g1:ib a (a+1+UC A) (cw (cK Uy (a+1) (w+2) a A)++[a]):=h.add (.inl (by omega)) _ _ (by omega) (by omega) (by omega) (by omega)
   have g2:ib (a+1+UC A) (a+2+UC A+UC B) (cw (cK Uy (a+2+UC A) (w+3+(UK Uy A).length) (a+1+UC A) B)++[a+1+UC A]):=h'.add (.inl (by omega)) _ _ (by omega) (by omega) (by omega) (by omega)
   have g:=g1.app g2 (by omega) (by omega)
   rw[OZ] at g
   exact g.wide (by omega) (by omega)
theorem zq {Uy:Of}:∀(ts:List Th) (a w u:Int),ib a (a+UC ts) (cw (cK Uy a w u ts))
 | [],a,w,u=>by rw[cK];exact .nil _ _
 | t::ts,a,w,u=>by
   have h:=cwT (Uy:=Uy) t a w u
   have h':=zq (Uy:=Uy) ts (a+bw t) (w+(cP Uy t).length) u
   rw[cK,gj,UC]
   push_cast
   exact(h.app h' (by omega) (by omega)).wide (by omega) (by omega)
end
end
section
variable {S:List aI}
theorem Mr {Uy:Of}:∀(zs:List (Str×List Th)) (a w:Int),ib a (a+dC zs) (cw (gK Uy a w zs))
 | [],a,w=>by rw[gK];exact .nil _ _
 | z::r,a,w=>by
   have h:=zq (Uy:=Uy) z.2 (a+1) (w+2) a
   have h':=Mr (Uy:=Uy) r (a+2+UC z.2) (w+3+(UK Uy z.2).length)
   rw[gK,dC,gj,gj,gj,lQ (show("part":Str)∉UG by decide +kernel),oI (show("end":Str)∈UG by decide +kernel),Qz]
   push_cast
   have g1:ib a (a+2+UC z.2) (cw (cK Uy (a+1) (w+2) a z.2)++[a]):=h.add (.inl (by omega)) _ _ (by omega) (by omega) (by omega) (by omega)
   have g:=g1.app h' (by omega) (by omega)
   rw[OZ] at g
   exact g.wide (by omega) (by omega)
theorem Ba {a b:Option Int}(h:a.map V.int=b.map V.int):a=b:=by
 cases a<;>cases b<;>simp at h<;>simp[h]
theorem ur (F:Ol)(k v j:Int):bE (lK F k v) j=if j=k then some v else bE F j:=by
 have h:=BC (bZ (cR F)) (Sum.inl k:Key) (Sum.inl j) (.int v)
 rw[sI,kR,kR] at h
 apply Ba
 rw[h]
 by_cases e:j=k
 ·rw[Ut (by rw[e]),Ut e];rfl
 ·rw[Us (λz=>e (Sum.inl.inj z)),Us e]
theorem jM {F:Ol}{k:Int}:(bE F k).isSome=true↔k∈F.map (·.1):=by
 unfold bE
 rw[Q0,List.find?_isSome]
 simp only[decide_eq_true_eq,OO]
theorem wM {k:Int}:∀{ps:List (Int×aI)} {F:Ol},(∀z∈ps,z.2.kind∈UG->z.2.within≠k)->bE (ps.foldl fW F) k=bE F k
 | [],F,_=>rfl
 | y::ps,F,h=>by
   rw[PX,wM λz hz=>h z (OL _ hz)]
   unfold fW
   split
   ·rename_i hc
    rw[ur,Us (λe=>h y OM hc e.symm)]
   ·rfl
theorem qF:∀{ps:List (Int×aI)} {F:Ol},((ps.filter λz=>decide (z.2.kind∈UG)).map (·.2.within)).Nodup->∀z∈ps,z.2.kind∈UG->bE (ps.foldl fW F) z.2.within=some z.1
 | y::ps,F,nd,z,hz,hc=>by
   rw[PX]
   by_cases hy:y.2.kind∈UG
   ·rw[PK (by simpa using hy),Pc,Pa] at nd
    rcases OT.mp hz with rfl | hz
    ·rw[wM λx hx hxc e=>nd.1 (OO.mpr ⟨x,O2.mpr ⟨hx,by simpa using hxc⟩,e⟩)]
     unfold fW
     rw[Ut hy,ur,Ut rfl]
    ·exact qF nd.2 z hz hc
   ·rw[PM (by simpa using hy)] at nd
    rcases OT.mp hz with rfl | hz
    ·exact Ur hc hy
    ·exact qF nd z hz hc
theorem nH (S:List aI):(nums S).map (·.2)=S:=by
 refine PU λi=>?_
 rw[OJ]
 rcases QJ i S.length with h | h
 ·have hn:i<(nums S).length:=by rw[c5];exact h
  rw[OE hn]
  have:=(eJ (OE hn)).2
  rw[this];rfl
 ·rw[Pe (by rw[c5];exact h),Pe h];rfl
theorem El (S:List aI):cw S=((nums S).filter λz=>decide (z.2.kind∈UG)).map (·.2.within):=by
 conv=>lhs;rw[← nH S]
 unfold cw
 rw[QA,PR]
 rfl
theorem kW {n:Nat}{s:aI}(h:S[n]?=some s):((n:Int),s)∈nums S:=by
 have hl:=(OD.mp h).1
 have hn:n<(nums S).length:=by rw[c5];exact hl
 obtain⟨e1,e2⟩:=eJ (OE hn)
 rw[h] at e2
 have:(nums S)[n]=((n:Int),s):=Q1 e1 (Option.some.inj e2).symm
 rw[← this]
 exact O0 hn
theorem oB (nd:(cw S).Nodup){n:Nat}{s:aI}(h:S[n]?=some s)(hc:s.kind∈UG):bE (dI S) s.within=some (n:Int):=by
 rw[El] at nd
 exact qF nd ((n:Int),s) (kW h) hc
def Up (S:List aI)(u:Int)(kd:Str)(a:Int):Prop:=∃k:Nat,U2 (cn S) k u=a/\(∀j,j<=k->0<=U2 (cn S) j u/\U2 (cn S) j u<(S.length:Int))/\(∀j,j<k->aQ S (U2 (cn S) j u)≠kd)/\aQ S a=kd
theorem pZ {α:Type}(f:α->α)(x:α)(j:Nat):U2 f (j+1) x=U2 f j (f x):=by
 rw[show j+1=1+j by omega,mP];rfl
theorem Up.here {u:Int}{kd:Str}(h0:0<=u)(h1:u<(S.length:Int))(hk:aQ S u=kd):Up S u kd u:=⟨0,rfl,λj hj=>by
 obtain rfl:j=0:=by omega
 exact⟨h0,h1⟩,λj hj=>by omega,hk⟩
theorem Up.step {u a:Int}{kd:Str}(h0:0<=u)(h1:u<(S.length:Int))(hk:aQ S u≠kd)(h:Up S (cn S u) kd a):Up S u kd a:=by
 obtain⟨k,e,VN,UJ,ha⟩:=h
 refine⟨k+1,by rw[pZ];exact e,λj hj=>?_,λj hj=>?_,ha⟩
 ·cases j with
  | zero=>exact⟨h0,h1⟩
  | succ j=>rw[pZ];exact VN j (by omega)
 ·cases j with
  | zero=>exact hk
  | succ j=>rw[pZ];exact UJ j (by omega)
mutual
def eE (a wl pe:Int):Th->List Oe
 | .Vl _=>[[a+1]]
 | .call _=>[[a+1]]
 | .ifs _ A B=>[[a+1,a+2+UC A]]++h9 (a+1) wl pe A++([[a+2+UC A+UC B]]++(h9 (a+2+UC A) wl pe B++[[a+3+UC A+UC B]]))
 | .UU _ A=>[[a+1,a+2+UC A]]++(h9 (a+1) (a+2+UC A) pe A++[[a]])
 | .leave=>[[wl]]
 | .back=>[[pe]]
def h9 (a wl pe:Int):List Th->List Oe
 | []=>[]
 | t::ts=>eE a wl pe t++h9 (a+bw t) wl pe ts
end
end
mutual
theorem mV:∀(t:Th) (a wl pe:Int),(eE a wl pe t).length=bw t
 | .Vl _,_,_,_=>by simp[eE,bw]
 | .call _,_,_,_=>by simp[eE,bw]
 | .ifs x A B,a,wl,pe=>by
   simp only[eE,bw,OI,du A,du B,OP,O8]
   omega
 | .UU x A,a,wl,pe=>by
   simp only[eE,bw,OI,du A,OP,O8]
   omega
 | .leave,_,_,_=>by simp[eE,bw]
 | .back,_,_,_=>by simp[eE,bw]
theorem du:∀(ts:List Th) (a wl pe:Int),(h9 a wl pe ts).length=UC ts
 | [],_,_,_=>by simp[h9,UC]
 | t::ts,a,wl,pe=>by rw[h9,UC,OI,mV t,du ts]
end
section
variable {S:List aI}{Ld:List Oe}{B pe:Int}{a:Nat}
def rj (a:Int):List (Str×List Th)->List Oe
 | []=>[]
 | z::r=>[[a+1]]++(h9 (a+1) 0 (a+1+UC z.2) z.2++([[]]++rj (a+2+UC z.2) r))
theorem wQ:∀(zs:List (Str×List Th)) (a:Int),(rj a zs).length=dC zs
 | [],_=>rfl
 | z::r,a=>by
   rw[rj,dC]
   simp only[OI,du,wQ r,OP,O8]
   omega
structure ki (S:List aI) (Ld:List Oe) (B pe:Int) (n:Nat):Prop where
 ld:dM S (dI S) (n:Int) (Ld.getD n [])
 rg:∀l∈Ld.getD n [],B<=l/\l<=pe
 ln:(Ld.getD n []).length<=2
 go:bz (aQ S (n:Int))=false->∃l r,Ld.getD n []=l::r/\((n:Int)<l∨bz (aQ S l)=true)
structure zU (S:List aI) (B pe wl u:Int) (lp:Bool) (hi:Nat):Prop where
 pt:∃p,Up S u "part" p/\bE (dI S) p=some pe
 wh:lp=true->(∃A,Up S u "while" A/\bE (dI S) A=some (wl-1))/\(hi:Int)<=wl/\wl<=pe
 pe:(hi:Int)<=pe
 u0:0<=u
 u1:u<(S.length:Int)
def gv (S:List aI)(Ld:List Oe)(B pe:Int)(a k:Nat):Prop:=∀i,i<k->ki S Ld B pe (a+i)
theorem gv.app {k m:Nat}(h:gv S Ld B pe a k)(h':gv S Ld B pe (a+k) m):gv S Ld B pe a (k+m):=λi hi=>by
 by_cases q:i<k
 ·exact h i q
 ·have:=h' (i-k) (by omega)
  rwa [show a+k+(i-k)=a+i by omega] at this
theorem gv.one (h:ki S Ld B pe a):gv S Ld B pe a 1:=λi hi=>by
 obtain rfl:i=0:=by omega
 exact h
theorem gv.nil:gv S Ld B pe a 0:=λi hi=>by omega
theorem II:bz "do"=true:=by decide +kernel
theorem A0:bz "call"=true:=by decide +kernel
theorem yN:bz "if"=true:=by decide +kernel
theorem ma:bz "while"=true:=by decide +kernel
theorem iV {n:Nat}{l:Int}(hL:Ld.getD n []=[l])(h:dM S (dI S) (n:Int) [l])(h0:B<=l)(h1:l<=pe)(hg:(n:Int)<l∨bz (aQ S l)=true):ki S Ld B pe n:=by
 refine⟨by rw[hL];exact h,by rw[hL];intro x hx;rw[OF.mp hx];exact⟨h0,h1⟩,by rw[hL];exact QL 1,λ_=>⟨l,[],hL,hg⟩⟩
theorem yK {n:Nat}{l m:Int}(hL:Ld.getD n []=[l,m])(h:dM S (dI S) (n:Int) [l,m])(h0:B<=l)(h1:l<=pe)(h2:B<=m)(h3:m<=pe)(hg:bz (aQ S (n:Int))=true):ki S Ld B pe n:=by
 refine⟨by rw[hL];exact h,by
  rw[hL];intro x hx
  rcases OT.mp hx with rfl | hx
  ·exact⟨h0,h1⟩
  ·rw[OF.mp hx];exact⟨h2,h3⟩,by rw[hL];exact QC 2,λq=>by rw[hg] at q;cases q⟩
end
section
variable {S:List aI}{Ld:List Oe}{Uy:Of}{lo m B pe:Int}(W0:(cw S).Nodup)
include W0
mutual
theorem stT:∀(t:Th) (lp:Bool) (a:Nat) (w u wl:Int),cJ lo m lp t->dW S a (spT Uy (a:Int) w u t)->dW Ld a (eE (a:Int) wl pe t)->zU S B pe wl u lp (a+bw t)->B<=(a:Int)->gv S Ld B pe a (bw t)
 | .Vl x,lp,a,w,u,wl,h,hS,hL,hc,hB=>by
   rw[spT] at hS
   rw[eE] at hL
   simp only[bw] at hc ⊢
   obtain⟨k1,k2,k3⟩:=hS.k (i:=0) rfl
   have e1:=(hL.d (i:=0) rfl []).1
   have:=hc.pe
   refine .one (iV e1 (.WQ (.inr (.inl k1))) (by omega) (by push_cast at this;omega) (.inl ?_))
   show(a:Int)<_
   omega
 | .call x,lp,a,w,u,wl,h,hS,hL,hc,hB=>by
   rw[spT] at hS
   rw[eE] at hL
   simp only[bw] at hc ⊢
   obtain⟨k1,k2,k3⟩:=hS.k (i:=0) rfl
   have e1:=(hL.d (i:=0) rfl []).1
   have:=hc.pe
   refine .one (iV e1 (.WQ (.inr (.inr k1))) (by omega) (by push_cast at this;omega) (.inl ?_))
   show(a:Int)<_
   omega
 | .leave,lp,a,w,u,wl,h,hS,hL,hc,hB=>by
   simp only[cJ] at h
   rw[spT] at hS
   rw[eE] at hL
   simp only[bw] at hc ⊢
   obtain⟨k1,k2,k3⟩:=hS.k (i:=0) rfl
   have e1:=(hL.d (i:=0) rfl []).1
   obtain⟨⟨A,hA,hF⟩,w1,w2⟩:=hc.wh h
   push_cast at w1
   have hl:dM S (dI S) ((a+0:Nat):Int) [wl-1+1]:=.Xj (a:=A) k1 (by unfold Ar;rw[k2];exact hA) hF
   rw[show wl-1+1=wl by omega] at hl
   refine .one (iV e1 hl (by omega) (by omega) (.inl ?_))
   show(a:Int)<_
   omega
 | .back,lp,a,w,u,wl,h,hS,hL,hc,hB=>by
   rw[spT] at hS
   rw[eE] at hL
   simp only[bw] at hc ⊢
   obtain⟨k1,k2,k3⟩:=hS.k (i:=0) rfl
   have e1:=(hL.d (i:=0) rfl []).1
   obtain⟨p,hp,hF⟩:=hc.pt
   have w1:=hc.pe
   push_cast at w1
   refine .one (iV e1 (.Xw (a:=p) k1 (by unfold Ar;rw[show cn S (a:Int)=u from k2];exact hp) hF) (by omega) (by omega) (.inl ?_))
   show(a:Int)<_
   omega
 | .UU x A,lp,a,w,u,wl,h,hS,hL,hc,hB=>by
   simp only[cJ] at h
   rw[spT] at hS
   rw[eE] at hL
   simp only[bw] at hc ⊢
   obtain⟨s1,s2⟩:=hS.app
   obtain⟨s2,s3⟩:=s2.app
   obtain⟨d1,d2⟩:=hL.app
   obtain⟨d2,d3⟩:=d2.app
   rw[cC] at s3
   rw[du] at d3
   simp only[OP,O8] at s2 s3 d2 d3
   obtain⟨k1,k2,k3⟩:=s1.k (i:=0) rfl
   obtain⟨k4,k5,k6⟩:=s3.k (i:=0) rfl
   have e1:=(d1.d (i:=0) rfl []).1
   have e3:=(d3.d (i:=0) rfl []).1
   have hF:bE (dI S) (a:Int)=some (((a+(0+1)+UC A+0:Nat)):Int):=oB (s:=⟨"end","",w+2+(UK Uy A).length,(a:Int)⟩) W0 (s3 0 _ rfl) (show("end":Str)∈UG by decide +kernel)
   have Y1:=hc.pe
   push_cast at Y1 hF
   have WU:aQ S (a:Int)="while":=k1
   have k2':cn S (a:Int)=u:=k2
   have ala:a<S.length:=k3
   have p1:ki S Ld B pe a:=by
    have hl:dM S (dI S) (a:Int) [(a:Int)+1,(a:Int)+(0+1)+UC A+0+1]:=.row (.inr WU) hF
    rw[show(a:Int)+(0+1)+UC A+0+1=(a:Int)+2+UC A by omega] at hl
    exact yK e1 hl (by omega) (by omega) (by omega) (by omega) (by rw[WU];exact ma)
   have c2:zU S B pe ((a:Int)+2+UC A) (a:Int) true (a+(0+1)+UC A):=by
    obtain⟨p,hp,Y2⟩:=hc.pt
    refine⟨⟨p,.step (by omega) (by omega) (by rw[WU];decide +kernel) (by rw[k2'];exact hp),Y2⟩,λ_=>⟨⟨(a:Int),.here (by omega) (by omega) WU,?_⟩,by push_cast;omega,by omega⟩,by push_cast;omega,by omega,by omega⟩
    rw[hF];congr 1;omega
   have p2:=yf A true (a+(0+1)) (w+2) (a:Int) ((a:Int)+2+UC A) h.2 (by push_cast;exact s2) (by push_cast;exact d2) c2 (by push_cast;omega)
   have p3:ki S Ld B pe (a+(0+1)+UC A+0):=by
    have hl:dM S (dI S) ((a+(0+1)+UC A+0:Nat):Int) [cn S ((a+(0+1)+UC A+0:Nat):Int)]:=.Xr k4 (by rw[k5];show(0:Int)<=(a:Int);omega) (by rw[k5];show(a:Int)<_;omega) (by rw[k5];exact WU)
    rw[k5] at hl
    exact iV e3 hl (by omega) (by omega) (.inr (by rw[WU];exact ma))
   have:=(gv.one p1).app (p2.app (gv.one p3))
   rwa [show 1+(UC A+1)=2+UC A by omega] at this
 | .ifs x A Bb,lp,a,w,u,wl,h,hS,hL,hc,hB=>by
   simp only[cJ] at h
   rw[spT,OZ] at hS
   rw[eE,OZ] at hL
   simp only[bw] at hc ⊢
   obtain⟨s1,s2⟩:=hS.app
   obtain⟨s2,s3⟩:=s2.app
   obtain⟨s3,s4⟩:=s3.app
   obtain⟨s4,s5⟩:=s4.app
   obtain⟨d1,d2⟩:=hL.app
   obtain⟨d2,d3⟩:=d2.app
   obtain⟨d3,d4⟩:=d3.app
   obtain⟨d4,d5⟩:=d4.app
   rw[cC] at s3 s4 s5
   rw[cC] at s5
   rw[du] at d3 d4 d5
   rw[du] at d5
   simp only[OP,O8] at s2 s3 s4 s5 d2 d3 d4 d5
   obtain⟨k1,k2,k3⟩:=s1.k (i:=0) rfl
   obtain⟨k4,k5,k6⟩:=s3.k (i:=0) rfl
   obtain⟨k7,k8,k9⟩:=s5.k (i:=0) rfl
   have e1:=(d1.d (i:=0) rfl []).1
   have e3:=(d3.d (i:=0) rfl []).1
   have e5:=(d5.d (i:=0) rfl []).1
   have hF:bE (dI S) (a:Int)=some (((a+(0+1)+UC A+0:Nat)):Int):=oB (s:=⟨"else","",w+2+(UK Uy A).length,(a:Int)⟩) W0 (s3 0 _ rfl) (show("else":Str)∈UG by decide +kernel)
   have hF2:bE (dI S) ((a:Int)+1+UC A)=some (((a+(0+1)+UC A+(0+1)+UC Bb+0:Nat)):Int):=oB (s:=⟨"end","",w+3+(UK Uy A).length+(UK Uy Bb).length,(a:Int)+1+UC A⟩) W0 (s5 0 _ rfl) (show("end":Str)∈UG by decide +kernel)
   have Y1:=hc.pe
   push_cast at Y1 hF hF2
   have WU:aQ S (a:Int)="if":=k1
   have k2':cn S (a:Int)=u:=k2
   have ala:a<S.length:=k3
   have en:((a+(0+1)+UC A+0:Nat):Int)=(a:Int)+1+UC A:=by push_cast;omega
   rw[en] at k4 k5
   have k4':aQ S ((a:Int)+1+UC A)="else":=k4
   have k5':cn S ((a:Int)+1+UC A)=(a:Int):=k5
   have p1:ki S Ld B pe a:=by
    have hl:dM S (dI S) (a:Int) [(a:Int)+1,(a:Int)+(0+1)+UC A+0+1]:=.row (.inl WU) hF
    rw[show(a:Int)+(0+1)+UC A+0+1=(a:Int)+2+UC A by omega] at hl
    exact yK e1 hl (by omega) (by omega) (by omega) (by omega) (by rw[WU];exact yN)
   have cA:zU S B pe wl (a:Int) lp (a+(0+1)+UC A):=by
    obtain⟨p,hp,Y2⟩:=hc.pt
    refine⟨⟨p,.step (by omega) (by omega) (by rw[WU];decide +kernel) (by rw[k2'];exact hp),Y2⟩,λq=>?_,by push_cast;omega,by omega,by omega⟩
    obtain⟨⟨Aw,hA,hAF⟩,w1,w2⟩:=hc.wh q
    push_cast at w1
    exact⟨⟨Aw,.step (by omega) (by omega) (by rw[WU];decide +kernel) (by rw[k2'];exact hA),hAF⟩,by push_cast;omega,w2⟩
   have cB:zU S B pe wl ((a:Int)+1+UC A) lp (a+(0+1)+UC A+(0+1)+UC Bb):=by
    obtain⟨p,hp,Y2⟩:=cA.pt
    refine⟨⟨p,.step (by omega) (by omega) (by rw[k4'];decide +kernel) (by rw[k5'];exact hp),Y2⟩,λq=>?_,by push_cast;omega,by omega,by omega⟩
    obtain⟨⟨Aw,hA,hAF⟩,w1,w2⟩:=cA.wh q
    obtain⟨_,w3,_⟩:=hc.wh q
    push_cast at w3
    exact⟨⟨Aw,.step (by omega) (by omega) (by rw[k4'];decide +kernel) (by rw[k5'];exact hA),hAF⟩,by push_cast;omega,w2⟩
   have p2:=yf A lp (a+(0+1)) (w+2) (a:Int) wl h.2.1 (by push_cast;exact s2) (by push_cast;exact d2) cA (by push_cast;omega)
   have p3:ki S Ld B pe (a+(0+1)+UC A+0):=by
    have hl:dM S (dI S) ((a+(0+1)+UC A+0:Nat):Int) [(a:Int)+(0+1)+UC A+(0+1)+UC Bb+0]:=by rw[en];exact .Xt k4' hF2
    rw[show(a:Int)+(0+1)+UC A+(0+1)+UC Bb+0=(a:Int)+2+UC A+UC Bb by omega] at hl
    exact iV e3 hl (by omega) (by omega) (.inl (by push_cast;omega))
   have q4:(((a+(0+1)+UC A+(0+1):Nat)):Int)=(a:Int)+2+UC A:=by push_cast;omega
   have p4:=yf Bb lp (a+(0+1)+UC A+(0+1)) (w+3+(UK Uy A).length) ((a:Int)+1+UC A) wl h.2.2 (by rw[q4];exact s4) (by rw[q4];exact d4) cB (by push_cast;omega)
   have p5:ki S Ld B pe (a+(0+1)+UC A+(0+1)+UC Bb+0):=by
    have hl:dM S (dI S) ((a+(0+1)+UC A+(0+1)+UC Bb+0:Nat):Int) [((a+(0+1)+UC A+(0+1)+UC Bb+0:Nat):Int)+1]:=.Xs k7 (by rw[k8];show(0:Int)<=(a:Int)+1+UC A;omega) (by rw[k8];show(a:Int)+1+UC A<_;omega) (by rw[k8];exact k4')
    rw[show((a+(0+1)+UC A+(0+1)+UC Bb+0:Nat):Int)+1=(a:Int)+3+UC A+UC Bb by push_cast;omega] at hl
    exact iV e5 hl (by omega) (by omega) (.inl (by push_cast;omega))
   have:=(gv.one p1).app (p2.app ((gv.one p3).app (p4.app (gv.one p5))))
   rwa [show 1+(UC A+(1+(UC Bb+1)))=3+UC A+UC Bb by omega] at this
theorem yf:∀(ts:List Th) (lp:Bool) (a:Nat) (w u wl:Int),bR lo m lp ts->dW S a (cK Uy (a:Int) w u ts)->dW Ld a (h9 (a:Int) wl pe ts)->zU S B pe wl u lp (a+UC ts)->B<=(a:Int)->gv S Ld B pe a (UC ts)
 | [],lp,a,w,u,wl,h,hS,hL,hc,hB=>by rw[UC];exact .nil
 | t::ts,lp,a,w,u,wl,h,hS,hL,hc,hB=>by
   simp only[bR] at h
   rw[cK] at hS
   rw[h9] at hL
   rw[UC] at hc ⊢
   obtain⟨s1,s2⟩:=hS.app
   obtain⟨d1,d2⟩:=hL.app
   rw[mH] at s2
   rw[mV] at d2
   have Y1:=hc.pe
   push_cast at Y1
   have p1:=stT t lp a w u wl h.1 s1 d1 ⟨hc.pt,λq=>by
    obtain⟨x,y,z⟩:=hc.wh q
    push_cast at y
    exact⟨x,by push_cast;omega,z⟩,by push_cast;omega,hc.u0,hc.u1⟩ hB
   have p2:=yf ts lp (a+bw t) (w+(cP Uy t).length) u wl h.2.2 (by push_cast;exact s2) (by push_cast;exact d2) ⟨hc.pt,λq=>by
    obtain⟨x,y,z⟩:=hc.wh q
    push_cast at y
    exact⟨x,by push_cast;omega,z⟩,by push_cast;omega,hc.u0,hc.u1⟩ (by push_cast;omega)
   exact p1.app p2
end
end
structure HG (S:List aI) (Ld:List Oe) (Uy:Of) (f:Nat) (w:Int) (z:Str×List Th):Prop where
 s:dW S f ([⟨"part",z.1,w, -1⟩]++(cK Uy ((f:Int)+1) (w+2) (f:Int) z.2++[⟨"end","",w+2+(UK Uy z.2).length,(f:Int)⟩]))
 d:dW Ld f ([[(f:Int)+1]]++(h9 ((f:Int)+1) 0 ((f:Int)+1+UC z.2) z.2++[[]]))
theorem dW.pre {α:Type}{S:List α}{a:Nat}{x y:List α}(h:dW S a (x++y)):dW S a x:=h.app.1
theorem zz {S:List aI}{Ld:List Oe}{Uy:Of}:∀{zs:List (Str×List Th)} {a:Nat} {w:Int},dW S a (gK Uy (a:Int) w zs)->dW Ld a (rj (a:Int) zs)->∀(j:Nat) (z:Str×List Th),zs[j]?=some z->∃w',HG S Ld Uy (a+dC (zs.take j)) w' z
 | [],_,_,_,_,j,z,h=>by simp at h
 | y::r,a,w,hS,hL,j,z,h=>by
   rw[gK] at hS
   rw[rj] at hL
   cases j with
   | zero=>
     have e:y=z:=by simpa using h
     subst e
     refine⟨w,?_,?_⟩
     ·rw[show([⟨"part",y.1,w, -1⟩]++(cK Uy ((a:Int)+1) (w+2) (a:Int) y.2++([⟨"end","",w+2+(UK Uy y.2).length,(a:Int)⟩]++gK Uy ((a:Int)+2+UC y.2) (w+3+(UK Uy y.2).length) r)):List aI)=([⟨"part",y.1,w, -1⟩]++(cK Uy ((a:Int)+1) (w+2) (a:Int) y.2++[⟨"end","",w+2+(UK Uy y.2).length,(a:Int)⟩]))++gK Uy ((a:Int)+2+UC y.2) (w+3+(UK Uy y.2).length) r by simp only[OZ]] at hS
      exact hS.pre
     ·rw[show([[(a:Int)+1]]++(h9 ((a:Int)+1) 0 ((a:Int)+1+UC y.2) y.2++([[]]++rj ((a:Int)+2+UC y.2) r)):List Oe)=([[(a:Int)+1]]++(h9 ((a:Int)+1) 0 ((a:Int)+1+UC y.2) y.2++[[]]))++rj ((a:Int)+2+UC y.2) r by simp only[OZ]] at hL
      exact hL.pre
   | succ j=>
     have s4:=hS.app.2.app.2.app.2
     have d4:=hL.app.2.app.2.app.2
     rw[cC] at s4
     rw[du] at d4
     simp only[OP,O8] at s4 d4
     have e:a+(0+1)+UC y.2+(0+1)=a+2+UC y.2:=by omega
     rw[e] at s4 d4
     have:=zz (zs:=r) (a:=a+2+UC y.2) (w:=w+3+(UK Uy y.2).length) (by push_cast;exact s4) (by push_cast;exact d4) j z (by simpa using h)
     rw[Py,dC]
     rwa [show a+(2+UC y.2+dC (r.take j))=a+2+UC y.2+dC (r.take j) by omega]
theorem cover:∀(zs:List (Str×List Th)) (n:Nat),n<dC zs->∃(j:Nat) (z:Str×List Th),zs[j]?=some z/\dC (zs.take j)<=n/\n<dC (zs.take j)+2+UC z.2
 | [],n,h=>by rw[dC] at h;omega
 | y::r,n,h=>by
   rw[dC] at h
   by_cases q:n<2+UC y.2
   ·exact⟨0,y,rfl,QE _,by show n<0+2+_;omega⟩
   ·obtain⟨j,z,h1,h2,h3⟩:=cover r (n-(2+UC y.2)) (by omega)
    exact⟨j+1,z,h1,by rw[Py,dC];omega,by rw[Py,dC];omega⟩
theorem mN:∀(zs:List (Str×List Th)) (j k:Nat) (z:Str×List Th),zs[j]?=some z->j<k->dC (zs.take j)+2+UC z.2<=dC (zs.take k)
 | [],j,k,z,h,_=>by simp at h
 | y::r,0,k+1,z,h,_=>by
   have e:y=z:=by simpa using h
   subst e
   rw[Py,dC,take_zero,dC];omega
 | y::r,j+1,k+1,z,h,hk=>by
   have:=mN r j k z (by simpa using h) (by omega)
   rw[Py,Py,dC,dC];omega
section
variable {S:List aI}{Ld:List Oe}{Uy:Of}{f:Nat}{w:Int}{z:Str×List Th}
abbrev lst (f:Nat)(z:Str×List Th):Nat:=f+1+UC z.2
structure eG (S:List aI) (Ld:List Oe) (Uy:Of) (f:Nat) (w:Int) (z:Str×List Th):Prop where
 k:aQ S (f:Int)="part"
 nm:S[f]?=some ⟨"part",z.1,w, -1⟩
 s:dW S (f+1) (cK Uy (((f+1:Nat)):Int) (w+2) (f:Int) z.2)
 d:dW Ld (f+1) (h9 (((f+1:Nat)):Int) 0 ((lst f z:Nat):Int) z.2)
 e:S[lst f z]?=some ⟨"end","",w+2+(UK Uy z.2).length,(f:Int)⟩
 df:Ld.getD f []=[(f:Int)+1]
 dl:Ld.getD (lst f z) []=[]
 dn:lst f z<Ld.length
theorem HG.p (h:HG S Ld Uy f w z):eG S Ld Uy f w z:=by
 obtain⟨hS,hL⟩:=h
 obtain⟨s1,s2⟩:=hS.app
 obtain⟨s2,s3⟩:=s2.app
 obtain⟨d1,d2⟩:=hL.app
 obtain⟨d2,d3⟩:=d2.app
 rw[cC] at s3
 rw[du] at d3
 simp only[OP,O8] at s2 s3 d2 d3
 refine⟨(s1.k (i:=0) rfl).1,s1 0 _ rfl,by push_cast;exact s2,by push_cast;exact d2,s3 0 _ rfl,(d1.d (i:=0) rfl []).1,(d3.d (i:=0) rfl []).1,(d3.d (i:=0) rfl []).2⟩
theorem eT {n:Nat}{s:aI}(h:S[n]?=some s):aQ S (n:Int)=s.kind/\cn S (n:Int)=s.within:=by
 have e:S.getD ((n:Nat):Int).toNat d9=s:=by rw[show((n:Nat):Int).toNat=n by omega,OG,h];rfl
 exact⟨by unfold aQ;rw[e],by show(S.getD ((n:Nat):Int).toNat d9).within=_;rw[e]⟩
theorem eG.cl (h:eG S Ld Uy f w z)(W0:(cw S).Nodup):bE (dI S) (f:Int)=some ((lst f z:Nat):Int):=oB W0 h.e (show("end":Str)∈UG by decide +kernel)
theorem eG.all (h:eG S Ld Uy f w z)(W0:(cw S).Nodup){lo m:Int}(UH:bR lo m false z.2):∀n,f<=n->n<lst f z->ki S Ld ((f:Int)+1) ((lst f z:Nat):Int) n:=by
 have fl:f<S.length:=(OD.mp h.nm).1
 have hs:=yf (B:=(f:Int)+1) (lo:=lo) (m:=m) W0 z.2 false (f+1) (w+2) (f:Int) 0 UH h.s h.d ⟨⟨(f:Int),.here (by omega) (by omega) h.k,h.cl W0⟩,(λq=>by cases q),OB _,by omega,by omega⟩ (by push_cast;omega)
 intro n h1 h2
 by_cases q:n=f
 ·subst q
  exact iV h.df (.WQ (.inl h.k)) (by omega) (by push_cast;omega) (.inl (by omega))
 ·have XQ:n<f+1+UC z.2:=h2
  have:=hs (n-(f+1)) (by omega)
  rwa [show f+1+(n-(f+1))=n by omega] at this
theorem eG.last (h:eG S Ld Uy f w z):dM S (dI S) ((lst f z:Nat):Int) (Ld.getD (lst f z) []):=by
 obtain⟨k1,k2⟩:=eT h.e
 have fl:f<S.length:=(OD.mp h.nm).1
 rw[h.dl]
 exact .Xa k1 (by rw[k2];show(0:Int)<=(f:Int);omega) (by rw[k2];show(f:Int)<_;omega) (by rw[k2];exact h.k)
end
section
variable {Uy:Of}{Ls:List (List Th)}
abbrev cf (Uy:Of)(Ls:List (List Th)):List (Str×List Th):=Uy.zip Ls
abbrev cS (Uy:Of)(Ls:List (List Th)):List Oe:=rj 0 (cf Uy Ls)
abbrev fst (Uy:Of)(Ls:List (List Th))(j:Nat):Nat:=dC ((cf Uy Ls).take j)
theorem fD {j:Nat}{z:Str×List Th}(h:(cf Uy Ls)[j]?=some z):∃w,eG (ar Uy Ls) (cS Uy Ls) Uy (fst Uy Ls j) w z:=by
 obtain⟨w,hw⟩:=zz (S:=ar Uy Ls) (Ld:=cS Uy Ls) (Uy:=Uy) (zs:=cf Uy Ls) (a:=0) (w:=0) (dW.self _) (dW.self _) j z h
 rw[QV] at hw
 exact⟨w,hw.p⟩
theorem gX:(cw (ar Uy Ls)).Nodup:=(Mr (Uy:=Uy) (cf Uy Ls) 0 0).1
theorem dN (h:cy Uy Ls){j:Nat}{z:Str×List Th}(hz:(cf Uy Ls)[j]?=some z):bR (j:Int) (Ls.length:Int) false z.2/\g9 z.2/\cM z.2<=14/\Uy[j]?=some z.1/\Ls[j]?=some z.2:=by
 obtain⟨h1,h2⟩:=jB hz
 have hm:=OK h2
 exact⟨h.ok j z.2 h2,h.hd z.2 hm,h.rw z.2 hm,h1,h2⟩
theorem DC:(ar Uy Ls).length=dC (cf Uy Ls):=vN _ _ _
theorem Kb:(cS Uy Ls).length=dC (cf Uy Ls):=wQ _ _
theorem iu (h:cy Uy Ls)(n:Nat)(hn:n<(ar Uy Ls).length):∃(j:Nat) (z:Str×List Th) (w:Int),(cf Uy Ls)[j]?=some z/\eG (ar Uy Ls) (cS Uy Ls) Uy (fst Uy Ls j) w z/\fst Uy Ls j<=n/\n<=lst (fst Uy Ls j) z/\lst (fst Uy Ls j) z<(ar Uy Ls).length:=by
 rw[DC] at hn
 obtain⟨j,z,h1,h2,h3⟩:=cover _ n hn
 obtain⟨w,hb⟩:=fD (Uy:=Uy) (Ls:=Ls) h1
 refine⟨j,z,w,h1,hb,h2,by show n<=dC (List.take j (cf Uy Ls))+1+UC z.2;omega,(OD.mp hb.e).1⟩
theorem Bd (h:cy Uy Ls):xy (ar Uy Ls) (cS Uy Ls)/\sT (ar Uy Ls) (cS Uy Ls)/\∀ls∈cS Uy Ls,ls.length<=2:=by
 have hl:(cS Uy Ls).length=(ar Uy Ls).length:=by rw[DC,Kb]
 have key:∀n,n<(ar Uy Ls).length->dM (ar Uy Ls) (dI (ar Uy Ls)) (n:Int) ((cS Uy Ls).getD n [])/\(∀l∈(cS Uy Ls).getD n [],0<=l/\l<((ar Uy Ls).length:Int))/\((cS Uy Ls).getD n []).length<=2:=by
  intro n hn
  obtain⟨j,z,w,hz,hb,h1,h2,h3⟩:=iu h n hn
  by_cases q:n=lst (fst Uy Ls j) z
  ·subst q
   refine⟨hb.last,?_,?_⟩
   ·rw[hb.dl];intro l hl;cases hl
   ·rw[hb.dl];exact QE _
  ·have st:=hb.all gX (dN h hz).1 n h1 (by omega)
   refine⟨st.ld,λl Wa=>?_,st.ln⟩
   have:=st.rg l Wa
   omega
 have mem:∀ls∈cS Uy Ls,∃n,n<(ar Uy Ls).length/\(cS Uy Ls).getD n []=ls:=λls hm=>by
  obtain⟨n,hn,e⟩:=P7 hm
  exact⟨n,by omega,by rw[OG,OE hn,e];rfl⟩
 refine⟨⟨hl,λn hn=>(key n hn).1⟩,⟨hl,λls hm l Wa=>?_⟩,λls hm=>?_⟩
 ·obtain⟨n,hn,e⟩:=mem ls hm
  exact(key n hn).2.1 l (by rw[e];exact Wa)
 ·obtain⟨n,hn,e⟩:=mem ls hm
  rw[← e];exact(key n hn).2.2
end
section
variable {S:List aI}{Ld:List Oe}
variable {n:Nat}
theorem wH {i:Nat}(hi:i<S.length)(hn:n≠S.length-1-i):(Wt S Ld (i+1)).getD n 0=(Wt S Ld i).getD n 0:=by
 rw[jJ hi]
 unfold px
 split
 ·simp only[OG]
  rw[Pb (by omega)]
 ·rfl
theorem sD:∀(i n:Nat),i<=S.length->n<S.length-i->(Wt S Ld i).getD n 0=(n:Int)
 | 0,n,_,h=>by
   show(ups 0 S.length).getD n 0=_
   rw[OG]
   unfold ups
   rw[OJ,Pt (by omega)]
   show(0:Int)+(n:Int)=_
   omega
 | i+1,n,hi,h=>by rw[wH (by omega) (by omega)];exact sD i n (by omega) (by omega)
theorem wF {i n:Nat}(hn:S.length-i<=n):∀d:Nat,i+d<=S.length->(Wt S Ld (i+d)).getD n 0=(Wt S Ld i).getD n 0
 | 0,_=>rfl
 | d+1,h=>by rw[← Nat.add_assoc,wH (by omega) (by omega)];exact wF hn d (by omega)
theorem tZ {i:Nat}(hi:i<=S.length)(hn:S.length-i<=n):(Wt S Ld i).getD n 0=(cF S Ld).getD n 0:=by
 have:=wF (S:=S) (Ld:=Ld) hn (S.length-i) (by omega)
 rw[show i+(S.length-i)=S.length by omega] at this
 exact this.symm
theorem eU (hn:n<S.length)(h:(Ld.getD n [])=[]∨bz (aQ S (n:Int))=true):(cF S Ld).getD n 0=(n:Int):=by
 rw[← tZ (i:=S.length-1-n+1) (by omega) (by omega),jJ (by omega),show(S.length:Int)-1-((S.length-1-n:Nat):Int)=(n:Int) by omega]
 unfold px
 rw[Us (by
  rw[show((n:Nat):Int).toNat=n by omega]
  rintro⟨h1,h2⟩
  rcases h with h | h
  ·rw[h] at h1;cases h1
  ·rw[h] at h2;cases h2)]
 exact sD _ n (by omega) (by omega)
theorem nI (hn:n<S.length){l:Int}{r:Oe}(hL:Ld.getD n []=l::r)(hr:bz (aQ S (n:Int))=false)(l0:0<=l)(l1:l<(S.length:Int)):(cF S Ld).getD n 0=if(n:Int)<l then(cF S Ld).getD l.toNat 0 else l:=by
 rw[← tZ (i:=S.length-1-n+1) (n:=n) (by omega) (by omega),jJ (by omega),show(S.length:Int)-1-((S.length-1-n:Nat):Int)=(n:Int) by omega]
 unfold px
 rw[show((n:Nat):Int).toNat=n by omega,hL,Ut ⟨rfl,hr⟩]
 have ln:=js (S:=S) (Ld:=Ld) (S.length-1-n) (by omega)
 rw[OG,OW (by omega)]
 show(Wt S Ld (S.length-1-n)).getD l.toNat 0=_
 by_cases q:(n:Int)<l
 ·rw[Ut q];exact tZ (by omega) (by omega)
 ·rw[Us q,sD _ _ (by omega) (by omega)];omega
end
section
variable {S:List aI}{Ld:List Oe}{Uy:Of}{f:Nat}{w:Int}{z:Str×List Th}
variable {lo m:Int}
def Hi (S:List aI)(f l:Nat)(v:Int):Prop:=(f:Int)<v/\v<=(l:Int)/\(v=(l:Int)∨bz (aQ S v)=true)
theorem eG.xo (h:eG S Ld Uy f w z)(W0:(cw S).Nodup)(UH:bR lo m false z.2):∀(d n:Nat),lst f z-n=d->f<=n->n<=lst f z->Hi S f (lst f z) ((cF S Ld).getD n 0):=by
 have ll:lst f z<S.length:=(OD.mp h.e).1
 have fl:f<lst f z:=by show f<f+1+UC z.2;omega
 intro d
 induction d using Nat.strongRecOn with
 | _ d ih=>
   intro n hd h1 h2
   by_cases q:n=lst f z
   ·rw[q,eU ll (.inl h.dl)]
    exact⟨by omega,OB _,.inl rfl⟩
   ·have st:=h.all W0 UH n h1 (by omega)
    cases hr:bz (aQ S (n:Int)) with
    | true=>
      rw[eU (by omega) (.inr hr)]
      have:n≠f:=λe=>by
       rw[e,h.k] at hr
       exact Ur hr (by decide +kernel)
      exact⟨by omega,by omega,.inr hr⟩
    | false=>
      obtain⟨l,r,hL,hg⟩:=st.go hr
      obtain⟨r0,r1⟩:=st.rg l (by rw[hL];exact OM)
      rw[nI (by omega) hL hr (by omega) (by omega)]
      by_cases ql:(n:Int)<l
      ·rw[Ut ql]
       exact ih (lst f z-l.toNat) (by omega) l.toNat rfl (by omega) (by omega)
      ·rw[Us ql]
       exact⟨by omega,r1,.inr (hg.resolve_left ql)⟩
theorem lC (h:eG S Ld Uy f w z)(UH:bR lo m false z.2)(hh:g9 z.2):bz (aQ S ((f+1:Nat):Int))=true/\1<=UC z.2:=by
 obtain⟨t,ts,e,hb⟩:=hh
 have hs:=h.s
 rw[e] at hs UH ⊢
 rw[cK] at hs
 simp only[bR] at UH
 rw[UC]
 have hs:=hs.pre
 cases t with
 | Vl x=>rw[spT] at hs;refine⟨?_,by simp only[bw];omega⟩;rw[show((f+1:Nat):Int)=((f+1+0:Nat):Int) from rfl,(hs.k (i:=0) rfl).1];exact II
 | call x=>rw[spT] at hs;refine⟨?_,by simp only[bw];omega⟩;rw[show((f+1:Nat):Int)=((f+1+0:Nat):Int) from rfl,(hs.k (i:=0) rfl).1];exact A0
 | ifs x A B=>rw[spT] at hs;refine⟨?_,by simp only[bw];omega⟩;rw[show((f+1:Nat):Int)=((f+1+0:Nat):Int) from rfl,(hs.pre.pre.k (i:=0) rfl).1];exact yN
 | UU x A=>rw[spT] at hs;refine⟨?_,by simp only[bw];omega⟩;rw[show((f+1:Nat):Int)=((f+1+0:Nat):Int) from rfl,(hs.pre.k (i:=0) rfl).1];exact ma
 | leave=>simp only[cJ] at UH;cases UH.1
 | back=>cases hb
theorem eG.first (h:eG S Ld Uy f w z)(UH:bR lo m false z.2)(hh:g9 z.2):(cF S Ld).getD f 0=((f+1:Nat):Int):=by
 have ll:lst f z<S.length:=(OD.mp h.e).1
 have ll:f+1+UC z.2<S.length:=ll
 obtain⟨hr,h1⟩:=lC h UH hh
 rw[nI (n:=f) (by omega) h.df (by rw[h.k];decide +kernel) (by omega) (by omega),Ut (by omega),show((f:Int)+1).toNat=f+1 by omega]
 exact eU (by omega) (.inr hr)
def kA (Ld:List Oe)(fd:Oe):Prop:=∀n∈fd,∀l∈Ld.getD n.toNat [],l∈fd
theorem kA.on {Ld:List Oe}{fd:Oe}(h:kA Ld fd){n:Nat}{ls:Oe}(hn:(n:Int)∈fd)(hL:Ld.getD n []=ls){l:Int}(hl:l∈ls):l∈fd:=h _ hn l (by rw[show((n:Nat):Int).toNat=n by omega,hL];exact hl)
end
section
variable {S:List aI}{Ld:List Oe}{Uy:Of}{fd:Oe}{lo m:Int}(hC:kA Ld fd)
include hC
mutual
theorem goT:∀(t:Th) (lp:Bool) (a:Nat) (w u wl pe:Int),cJ lo m lp t->dW S a (spT Uy (a:Int) w u t)->dW Ld a (eE (a:Int) wl pe t)->(a:Int)∈fd->(∀i,i<bw t->aQ S ((a+i:Nat):Int)∈UW->((a+i:Nat):Int)∈fd)/\(d8 t=true->((a+bw t:Nat):Int)∈fd)
 | .Vl x,lp,a,w,u,wl,pe,h,hS,hL,ha=>by
   rw[eE] at hL
   simp only[bw]
   refine⟨(λi hi _=>by cases (show i=0 by omega);exact ha),(λ_=>?_)⟩
   have:=hC.on ha (hL.d (i:=0) rfl []).1 (l:=(a:Int)+1) (OF.mpr rfl)
   push_cast;exact this
 | .call x,lp,a,w,u,wl,pe,h,hS,hL,ha=>by
   rw[eE] at hL
   simp only[bw]
   refine⟨(λi hi _=>by cases (show i=0 by omega);exact ha),(λ_=>?_)⟩
   have:=hC.on ha (hL.d (i:=0) rfl []).1 (l:=(a:Int)+1) (OF.mpr rfl)
   push_cast;exact this
 | .leave,lp,a,w,u,wl,pe,h,hS,hL,ha=>by
   simp only[bw]
   exact⟨(λi hi _=>by cases (show i=0 by omega);exact ha),(λq=>by simp[d8] at q)⟩
 | .back,lp,a,w,u,wl,pe,h,hS,hL,ha=>by
   simp only[bw]
   exact⟨(λi hi _=>by cases (show i=0 by omega);exact ha),(λq=>by simp[d8] at q)⟩
 | .UU x A,lp,a,w,u,wl,pe,h,hS,hL,ha=>by
   simp only[cJ] at h
   rw[spT] at hS
   rw[eE] at hL
   simp only[bw]
   obtain⟨s1,s2⟩:=hS.app
   obtain⟨s2,s3⟩:=s2.app
   obtain⟨d1,d2⟩:=hL.app
   obtain⟨d2,d3⟩:=d2.app
   rw[cC] at s3
   simp only[OP,O8] at s2 s3 d2 d3
   have e1:=(d1.d (i:=0) rfl []).1
   have g1:(((a+(0+1):Nat)):Int)∈fd:=by
    have:=hC.on ha e1 (l:=(a:Int)+1) OM
    push_cast;simpa using this
   have g2:(((a+(2+UC A):Nat)):Int)∈fd:=by
    have:=hC.on ha e1 (l:=(a:Int)+2+UC A) (OL _ (OF.mpr rfl))
    rwa [show(((a+(2+UC A):Nat)):Int)=(a:Int)+2+UC A by push_cast;omega]
   obtain⟨q1,_⟩:=xW A true (a+(0+1)) (w+2) (a:Int) ((a:Int)+2+UC A) pe h.2 (by push_cast;exact s2) (by push_cast;exact d2) g1
   refine⟨λi hi hk=>?_,λ_=>g2⟩
   by_cases i0:i=0
   ·subst i0;exact ha
   by_cases i1:i<1+UC A
   ·have:=q1 (i-1) (by omega) (by rw[show a+(0+1)+(i-1)=a+i by omega];exact hk)
    rwa [show a+(0+1)+(i-1)=a+i by omega] at this
   ·obtain rfl:i=1+UC A:=by omega
    have ke:=(s3.k (i:=0) rfl).1
    rw[show a+(0+1)+UC A+0=a+(1+UC A) by omega] at ke
    rw[ke] at hk
    exact Ur hk (show("end":Str)∉UW by decide +kernel)
 | .ifs x A B,lp,a,w,u,wl,pe,h,hS,hL,ha=>by
   simp only[cJ] at h
   rw[spT,OZ] at hS
   rw[eE,OZ] at hL
   simp only[bw]
   obtain⟨s1,s2⟩:=hS.app
   obtain⟨s2,s3⟩:=s2.app
   obtain⟨s3,s4⟩:=s3.app
   obtain⟨s4,s5⟩:=s4.app
   obtain⟨d1,d2⟩:=hL.app
   obtain⟨d2,d3⟩:=d2.app
   obtain⟨d3,d4⟩:=d3.app
   obtain⟨d4,d5⟩:=d4.app
   rw[cC] at s3 s4 s5
   rw[cC] at s5
   rw[du] at d3 d4 d5
   rw[du] at d5
   simp only[OP,O8] at s2 s3 s4 s5 d2 d3 d4 d5
   have e1:=(d1.d (i:=0) rfl []).1
   have e3:=(d3.d (i:=0) rfl []).1
   have e5:=(d5.d (i:=0) rfl []).1
   have g1:(((a+(0+1):Nat)):Int)∈fd:=by
    have:=hC.on ha e1 (l:=(a:Int)+1) OM
    push_cast;simpa using this
   have g2:(((a+(0+1)+UC A+(0+1):Nat)):Int)∈fd:=by
    have:=hC.on ha e1 (l:=(a:Int)+2+UC A) (OL _ (OF.mpr rfl))
    rwa [show(((a+(0+1)+UC A+(0+1):Nat)):Int)=(a:Int)+2+UC A by push_cast;omega]
   obtain⟨q1,q2⟩:=xW A lp (a+(0+1)) (w+2) (a:Int) wl pe h.2.1 (by push_cast;exact s2) (by push_cast;exact d2) g1
   have q4:(((a+(0+1)+UC A+(0+1):Nat)):Int)=(a:Int)+2+UC A:=by push_cast;omega
   obtain⟨q3,q5⟩:=xW B lp (a+(0+1)+UC A+(0+1)) (w+3+(UK Uy A).length) ((a:Int)+1+UC A) wl pe h.2.2 (by rw[q4];exact s4) (by rw[q4];exact d4) g2
   have fin:(((a+(0+1)+UC A+(0+1)+UC B+0:Nat)):Int)∈fd->(((a+(3+UC A+UC B):Nat)):Int)∈fd:=λq=>by
    have:=hC.on q e5 (l:=(a:Int)+3+UC A+UC B) (OF.mpr rfl)
    rwa [show(((a+(3+UC A+UC B):Nat)):Int)=(a:Int)+3+UC A+UC B by push_cast;omega]
   refine⟨λi hi hk=>?_,λhp=>fin ?_⟩
   ·by_cases i0:i=0
    ·subst i0;exact ha
    by_cases i1:i<1+UC A
    ·have:=q1 (i-1) (by omega) (by rw[show a+(0+1)+(i-1)=a+i by omega];exact hk)
     rwa [show a+(0+1)+(i-1)=a+i by omega] at this
    by_cases i2:i=1+UC A
    ·subst i2
     have ke:=(s3.k (i:=0) rfl).1
     rw[show a+(0+1)+UC A+0=a+(1+UC A) by omega] at ke
     rw[ke] at hk
     exact Ur hk (show("else":Str)∉UW by decide +kernel)
    by_cases i3:i<2+UC A+UC B
    ·have:=q3 (i-(2+UC A)) (by omega) (by rw[show a+(0+1)+UC A+(0+1)+(i-(2+UC A))=a+i by omega];exact hk)
     rwa [show a+(0+1)+UC A+(0+1)+(i-(2+UC A))=a+i by omega] at this
    ·obtain rfl:i=2+UC A+UC B:=by omega
     have ke:=(s5.k (i:=0) rfl).1
     rw[show a+(0+1)+UC A+(0+1)+UC B+0=a+(2+UC A+UC B) by omega] at ke
     rw[ke] at hk
     exact Ur hk (show("end":Str)∉UW by decide +kernel)
   ·simp only[d8,Ov] at hp
    rcases hp with hp | hp
    ·have hel:=q2 hp
     have:=hC.on (n:=a+(0+1)+UC A+0) hel e3 (l:=(a:Int)+2+UC A+UC B) (OF.mpr rfl)
     rwa [show(((a+(0+1)+UC A+(0+1)+UC B+0:Nat)):Int)=(a:Int)+2+UC A+UC B by push_cast;omega]
    ·exact q5 hp
theorem xW:∀(ts:List Th) (lp:Bool) (a:Nat) (w u wl pe:Int),bR lo m lp ts->dW S a (cK Uy (a:Int) w u ts)->dW Ld a (h9 (a:Int) wl pe ts)->(a:Int)∈fd->(∀i,i<UC ts->aQ S ((a+i:Nat):Int)∈UW->((a+i:Nat):Int)∈fd)/\(c6 ts=true->((a+UC ts:Nat):Int)∈fd)
 | [],lp,a,w,u,wl,pe,h,hS,hL,ha=>by
   rw[UC]
   exact⟨λi hi=>by omega,λ_=>ha⟩
 | t::ts,lp,a,w,u,wl,pe,h,hS,hL,ha=>by
   simp only[bR] at h
   rw[cK] at hS
   rw[h9] at hL
   rw[UC]
   obtain⟨s1,s2⟩:=hS.app
   obtain⟨d1,d2⟩:=hL.app
   rw[mH] at s2
   rw[mV] at d2
   obtain⟨q1,q2⟩:=goT t lp a w u wl pe h.1 s1 d1 ha
   rcases h.2.1 with hp | hp
   ·obtain⟨q3,q4⟩:=xW ts lp (a+bw t) (w+(cP Uy t).length) u wl pe h.2.2 (by push_cast;exact s2) (by push_cast;exact d2) (q2 hp)
    refine⟨λi hi hk=>?_,λXF=>?_⟩
    ·by_cases q:i<bw t
     ·exact q1 i q hk
     ·have:=q3 (i-bw t) (by omega) (by rw[show a+bw t+(i-bw t)=a+i by omega];exact hk)
      rwa [show a+bw t+(i-bw t)=a+i by omega] at this
    ·rw[c6,Oq] at XF
     have:=q4 XF.2
     rwa [show a+bw t+UC ts=a+(bw t+UC ts) by omega] at this
   ·subst hp
    rw[UC]
    refine⟨λi hi hk=>q1 i (by omega) hk,λXF=>?_⟩
    rw[c6,Oq] at XF
    exact q2 XF.1
end
end
structure BN (Uy:Of) (lo m:Int) (s:aI):Prop where
 np:s.kind≠"part"
 cl:s.kind="call"->∃j:Int,lo<j/\j<m/\s.name=Uy.getD j.toNat ""
theorem fI {Uy:Of}{lo m:Int}{s:aI}(h1:s.kind≠"part")(h2:s.kind≠"call"):BN Uy lo m s:=⟨h1,λe=>Ur e h2⟩
theorem all1 {P:aI->Prop}{s:aI}(h:P s):∀x∈[s],P x:=λx hx=>by rw[OF.mp hx];exact h
theorem nT {P:aI->Prop}{a b:List aI}(h:∀x∈a,P x)(h':∀x∈b,P x):∀x∈a++b,P x:=λx hx=>(OS.mp hx).elim (h x) (h' x)
mutual
theorem JU {Uy:Of}{lo m:Int}:∀(t:Th) (lp:Bool) (a w u:Int),cJ lo m lp t->∀s∈spT Uy a w u t,BN Uy lo m s
 | .Vl x,lp,a,w,u,h=>by rw[spT];exact all1 (fI (show("do":Str)≠"part" by decide +kernel) (show("do":Str)≠"call" by decide +kernel))
 | .call j,lp,a,w,u,h=>by
   simp only[cJ] at h
   rw[spT];exact all1 ⟨show("call":Str)≠"part" by decide +kernel,λ_=>⟨j,h.1,h.2,rfl⟩⟩
 | .leave,lp,a,w,u,h=>by rw[spT];exact all1 (fI (show("leave":Str)≠"part" by decide +kernel) (show("leave":Str)≠"call" by decide +kernel))
 | .back,lp,a,w,u,h=>by rw[spT];exact all1 (fI (show("back":Str)≠"part" by decide +kernel) (show("back":Str)≠"call" by decide +kernel))
 | .UU x A,lp,a,w,u,h=>by
   simp only[cJ] at h
   rw[spT]
   exact nT (all1 (fI (show("while":Str)≠"part" by decide +kernel) (show("while":Str)≠"call" by decide +kernel))) (nT (iY A true _ _ _ h.2) (all1 (fI (show("end":Str)≠"part" by decide +kernel) (show("end":Str)≠"call" by decide +kernel))))
 | .ifs x A B,lp,a,w,u,h=>by
   simp only[cJ] at h
   rw[spT]
   exact nT (nT (all1 (fI (show("if":Str)≠"part" by decide +kernel) (show("if":Str)≠"call" by decide +kernel))) (iY A lp _ _ _ h.2.1)) (nT (all1 (fI (show("else":Str)≠"part" by decide +kernel) (show("else":Str)≠"call" by decide +kernel))) (nT (iY B lp _ _ _ h.2.2) (all1 (fI (show("end":Str)≠"part" by decide +kernel) (show("end":Str)≠"call" by decide +kernel)))))
theorem iY {Uy:Of}{lo m:Int}:∀(ts:List Th) (lp:Bool) (a w u:Int),bR lo m lp ts->∀s∈cK Uy a w u ts,BN Uy lo m s
 | [],lp,a,w,u,h=>by rw[cK];intro s hs;cases hs
 | t::ts,lp,a,w,u,h=>by
   simp only[bR] at h
   rw[cK]
   exact nT (JU t lp _ _ _ h.1) (iY ts lp _ _ _ h.2.2)
end
theorem call_in {Uy:Of}{j:Int}:∀{ts:List Th} (a w u:Int),Th.call j∈ts->∃s∈cK Uy a w u ts,s.kind="call"/\s.name=Uy.getD j.toNat ""
 | t::ts,a,w,u,h=>by
   rw[cK]
   rcases OT.mp h with rfl | h
   ·exact⟨_,OU _ (by rw[spT];exact OF.mpr rfl),rfl,rfl⟩
   ·obtain⟨s,hs,h1⟩:=call_in (Uy:=Uy) (j:=j) (ts:=ts) (a+bw t) (w+(cP Uy t).length) u h
    exact⟨s,OQ _ hs,h1⟩
def i6 (k:Str):Nat:=((cu c9 k).getD []).length
def jA (S:List aI):Nat:=(S.map λs=>i6 s.kind).sum
theorem gb (a b:List aI):jA (a++b)=jA a+jA b:=by unfold jA;rw[O3,List.sum_append]
theorem fL (s:aI):jA [s]=i6 s.kind:=by unfold jA;simp
mutual
theorem rkT {Uy:Of}:∀(t:Th) (a w u:Int),jA (spT Uy a w u t)=dw t
 | .Vl x,a,w,u=>by rw[spT,fL,dw];show i6 "do"=1;decide +kernel
 | .call x,a,w,u=>by rw[spT,fL,dw];show i6 "call"=1;decide +kernel
 | .leave,a,w,u=>by rw[spT,fL];simp only[dw];show i6 "leave"=0;decide +kernel
 | .back,a,w,u=>by rw[spT,fL];simp only[dw];show i6 "back"=0;decide +kernel
 | .UU x A,a,w,u=>by
   rw[spT,dw,gb,gb,fL,fL,vV A,show i6 "while"=2 by decide +kernel,show i6 "end"=0 by decide +kernel];omega
 | .ifs x A B,a,w,u=>by
   rw[spT,dw,gb,gb,gb,gb,fL,fL,fL,vV A,vV B,show i6 "if"=2 by decide +kernel,show i6 "end"=0 by decide +kernel,show i6 "else"=0 by decide +kernel];omega
theorem vV {Uy:Of}:∀(ts:List Th) (a w u:Int),jA (cK Uy a w u ts)=cM ts
 | [],a,w,u=>by rw[cK,cM];rfl
 | t::ts,a,w,u=>by rw[cK,cM,gb,rkT t,vV ts]
end
section
variable {Kp:Oe}
theorem Mz {Uy:Of}:∀(zs:List (Str×List Th)) (a w:Int),jA (gK Uy a w zs)=(zs.map λz=>cM z.2).sum
 | [],a,w=>by rw[gK];rfl
 | z::r,a,w=>by
   rw[gK,gb,gb,gb,fL,fL,vV,Mz r,show i6 "part"=0 by decide +kernel,show i6 "end"=0 by decide +kernel,Pc,Qj];omega
theorem sG {α β:Type}{f:α->List β}{g:α->Nat}(h:∀x,(f x).length<=g x):∀xs:List α,(xs.flatMap f).length<=(xs.map g).sum
 | []=>QE _
 | x::xs=>by
   rw[P6,OI,Pc,Qj]
   have:=h x
   have:=sG h xs
   omega
theorem Bq (S:List aI)(Ld:List Oe)(St:Oe):(gq S Ld St).length<=jA S:=by
 have:=sG (f:=ee Ld St) (g:=λz=>i6 z.2.kind) (λz=>by
  unfold ee jP
  rw[OH,Pw]
  exact QQ _ _) (nums S)
 refine QD this (QU ?_)
 unfold jA
 conv=>rhs;rw[← nH S]
 rw[PR]
 rfl
theorem lF {S:List aI}{Ld:List Oe}{St:Oe}{r:Rw}(h:r∈gq S Ld St):∃(n:Nat) (s:aI) (l:Int),S[n]?=some s/\r.1=(n:Int)/\bz s.kind=true/\l∈Ld.getD n []/\r.2.1=St.getD l.toNat 0:=by
 unfold gq at h
 obtain⟨z,hz,hr⟩:=Qu.mp h
 unfold ee at hr
 obtain⟨y,hy,rfl⟩:=OO.mp hr
 obtain⟨i,hi⟩:=OR.mp hz
 obtain⟨e1,e2⟩:=eJ hi
 unfold jP at hy
 obtain⟨h1,h2⟩:=Qb (show(y.1,y.2)∈_ from hy)
 rw[e1,show((i:Nat):Int).toNat=i by omega] at h2
 refine⟨i,z.2,y.2,e2,e1,?_,h2,rfl⟩
 unfold bz
 cases q:cu c9 z.2.kind with
 | none=>rw[q] at h1;cases h1
 | some v=>rfl
theorem tf {k:Str}(h:bz k=true):k∈UW:=by
 unfold bz cu at h
 split at h
 ·rename_i e;rw[← e];decide +kernel
 unfold cu at h
 split at h
 ·rename_i e;rw[← e];decide +kernel
 unfold cu at h
 split at h
 ·rename_i e;rw[← e];decide +kernel
 unfold cu at h
 split at h
 ·rename_i e;rw[← e];decide +kernel
 ·cases h
theorem yL:∀{l m:Oe},l.Nodup->(∀x∈l,x∈m)->l.length<=m.length
 | [],m,_,_=>QE _
 | x::l,m,nd,h=>by
   obtain⟨n1,n2⟩:=Pa.mp nd
   have hx:=h x OM
   have:=yL (l:=l) (m:=m.erase x) n2 λy hy=>by
    have:y≠x:=λe=>n1 (e▸hy)
    exact(List.mem_erase_of_ne this).mpr (h y (OL _ hy))
   rw[Qe hx] at this
   have:0<m.length:=List.length_pos_of_mem hx
   rw[OP];omega
def iB (Kp:Oe)(F:Ol):Prop:=(F.map (·.1)).Nodup/\∀x∈F.map (·.1),x∈Kp
theorem iB.put {F:Ol}(h:iB Kp F){k:Int}(hk:k∈Kp):iB Kp (eX F k):=by
 unfold eX
 split
 ·exact h
 ·rename_i hn
  have hnk:k∉F.map (·.1):=λz=>hn (jM.mpr z)
  refine⟨by rw[O3];exact fP h.1 hnk,λx hx=>?_⟩
  rw[O3] at hx
  rcases OS.mp hx with z | z
  ·exact h.2 x z
  ·rw[show x=k by simpa using z];exact hk
theorem iB.rows {p:gU}:∀{rs:List Rw} {F:Ol},iB Kp F->(∀r∈rs,lW p r=true->r.1∈Kp/\r.2.1∈Kp)->iB Kp (rs.foldl (d6 p) F)
 | [],F,h,_=>h
 | r::rs,F,h,hr=>by
   rw[PX]
   refine iB.rows ?_ λx hx=>hr x (OL _ hx)
   unfold d6
   split
   ·rename_i hi
    obtain⟨h1,h2⟩:=hr r OM hi
    exact(h.put h1).put h2
   ·exact h
theorem iB.len {F:Ol}(h:iB Kp F):F.length<=Kp.length:=by
 have:=yL h.1 h.2
 rwa [OH] at this
theorem vI:∀S:List aI,(S.filter λs=>bz s.kind).length<=jA S
 | []=>QE _
 | s::S=>by
   have ih:=vI S
   have e:jA (s::S)=i6 s.kind+jA S:=by unfold jA;rw[Pc,Qj]
   rw[e]
   by_cases h:bz s.kind=true
   ·rw[PK (p:=λ(s:aI)=>bz s.kind) h,OP]
    have:1<=i6 s.kind:=by
     unfold i6
     unfold bz cu at h
     unfold cu
     split at h
     ·rename_i e;rw[Ut e];decide
     rename_i e
     rw[Us e]
     unfold cu at h ⊢
     split at h
     ·rename_i e;rw[Ut e];decide
     rename_i e
     rw[Us e]
     unfold cu at h ⊢
     split at h
     ·rename_i e;rw[Ut e];decide
     rename_i e
     rw[Us e]
     unfold cu at h ⊢
     split at h
     ·rename_i e;rw[Ut e];decide
     ·cases h
    omega
   ·rw[PM (p:=λ(s:aI)=>bz s.kind) h];omega
theorem Kj {S:List aI}(h:∀s∈S,s.kind≠"part"):Vm S=[]:=by
 unfold Vm
 rw[Qo.mpr λs hs=>by simpa using h s hs];rfl
theorem He {Uy:Of}{m:Int}:∀(zs:List (Str×List Th)) (a w:Int),(∀z∈zs,∃lo,bR lo m false z.2)->Vm (gK Uy a w zs)=zs.map (·.1)
 | [],a,w,_=>by rw[gK];rfl
 | z::r,a,w,h=>by
   obtain⟨lo,hz⟩:=h z OM
   rw[gK,kT,kT,kT,He r _ _ λy hy=>h y (OL _ hy),Kj λs hs=>(iY (Uy:=Uy) z.2 false _ _ _ hz s hs).np]
   rfl
theorem uB (S:List aI):(cI S).map (·.1)=Vm S:=by
 unfold cI Vm
 conv=>rhs;rw[← nH S]
 rw[QA,PR,PR]
 rfl
end
section
variable {Uy:Of}{Ls:List (List Th)}(h:cy Uy Ls)
include h
theorem Ih:(cf Uy Ls).map (·.1)=Uy:=List.map_fst_zip (by rw[h.l];exact QC _)
theorem Hd:(cf Uy Ls).map (·.2)=Ls:=List.map_snd_zip (by rw[h.l];exact QC _)
theorem J8:∀z∈cf Uy Ls,∃lo,bR lo (Ls.length:Int) false z.2:=λz hz=>by
 obtain⟨j,hj⟩:=OR.mp hz
 exact⟨_,(dN h hj).1⟩
theorem B9:Vm (ar Uy Ls)=Uy:=by
 rw[He (m:=(Ls.length:Int)) _ _ _ (J8 h),Ih h]
theorem oi:(cI (ar Uy Ls)).map (·.1)=Uy:=by rw[uB,B9 h]
theorem Lp:(ar Uy Ls).length<=240:=by
 obtain⟨pl,_⟩:=ud h
 obtain⟨e,_⟩:=rq h
 obtain⟨i1,i2,_⟩:=uK (jd Uy Ls) (dC (Uy.zip Ls))
 rw[e] at i1 i2
 dsimp only at i1 i2
 omega
theorem vt {n:Nat}(hn:n<(ar Uy Ls).length)(hk:aQ (ar Uy Ls) (n:Int)="part"):∃(j:Nat) (z:Str×List Th) (w:Int),(cf Uy Ls)[j]?=some z/\eG (ar Uy Ls) (cS Uy Ls) Uy (fst Uy Ls j) w z/\n=fst Uy Ls j:=by
 obtain⟨j,z,w,hz,hb,h1,h2,h3⟩:=iu h n hn
 refine⟨j,z,w,hz,hb,?_⟩
 rcases QJ (fst Uy Ls j) n with q | q
 ·exfalso
  by_cases e:n=lst (fst Uy Ls j) z
  ·rw[e,(eT hb.e).1] at hk
   exact Ur hk (show("end":Str)≠"part" by decide +kernel)
  ·have XQ:n<fst Uy Ls j+1+UC z.2:=QN h2 e
   have hi:n-(fst Uy Ls j+1)<(cK Uy (((fst Uy Ls j+1:Nat)):Int) (w+2) (fst Uy Ls j:Int) z.2).length:=by rw[cC];omega
   have hs:=hb.s.k (OE hi)
   rw[show fst Uy Ls j+1+(n-(fst Uy Ls j+1))=n by omega] at hs
   rw[hs.1] at hk
   exact(iY (Uy:=Uy) z.2 false _ _ _ (dN h hz).1 _ (O0 hi)).np hk
 ·omega
theorem jU {p:gU}(hp:p∈cI (ar Uy Ls)):∃(j:Nat) (z:Str×List Th) (w:Int),(cf Uy Ls)[j]?=some z/\eG (ar Uy Ls) (cS Uy Ls) Uy (fst Uy Ls j) w z/\p=(z.1,((fst Uy Ls j:Nat):Int),((lst (fst Uy Ls j) z:Nat):Int)):=by
 unfold cI at hp
 obtain⟨y,hy,rfl⟩:=OO.mp hp
 obtain⟨hy,hk⟩:=O2.mp hy
 obtain⟨n,nl,e1,e2⟩:=mG hy
 have Vt:aQ (ar Uy Ls) (n:Int)="part":=by
  unfold aQ;rw[show((n:Nat):Int).toNat=n by omega,e2];exact Uu hk
 obtain⟨j,z,w,hz,hb,e3⟩:=vt h nl Vt
 refine⟨j,z,w,hz,hb,?_⟩
 subst e3
 unfold Ht
 rw[e1,hb.cl gX]
 have:y.2=⟨"part",z.1,w, -1⟩:=by rw[← e2,OG,hb.nm];rfl
 rw[this]
 rfl
end
section
variable {v:de}{n i:Nat}
theorem zY {α:Type}(l:List α)(d:α)(p:α->Bool):((O5 l.length).filter λi=>p (l.getD i d)).length=(l.filter p).length:=by
 have e:(O5 l.length).map (λi=>l.getD i d)=l:=by
  refine PU λi=>?_
  rw[OJ]
  rcases QJ i l.length with h | h
  ·rw[Pt h,OE h]
   show some (l.getD i d)=_
   rw[OG,OE h];rfl
  ·rw[Pe (by simpa using h),Pe h];rfl
 conv=>rhs;rw[← e,QA,OH]
 rfl
def nr (S:List aI)(f:Nat)(z:Str×List Th):Oe:=((O5 (UC z.2)).filter λi=>bz (aQ S ((f+1+i:Nat):Int))).map (λi=>((f+1+i:Nat):Int))++[((lst f z:Nat):Int)]
theorem j5 {S:List aI}{f:Nat}{z:Str×List Th}{v:Int}(h:Hi S f (lst f z) v):v∈nr S f z:=by
 obtain⟨h1,h2,h3⟩:=h
 unfold nr
 by_cases q:v=((lst f z:Nat):Int)
 ·exact OQ _ (by rw[q];exact OF.mpr rfl)
 ·have XQ:v<=((f+1+UC z.2:Nat):Int):=h2
  have q':v≠((f+1+UC z.2:Nat):Int):=q
  refine OU _ (OO.mpr ⟨v.toNat-(f+1),O2.mpr ⟨Pm.mpr (by omega),?_⟩,by omega⟩)
  rw[show((f+1+(v.toNat-(f+1)):Nat):Int)=v by omega]
  exact h3.resolve_left q
theorem yV {S:List aI}{Ld:List Oe}{Uy:Of}{f:Nat}{w:Int}{z:Str×List Th}(h:eG S Ld Uy f w z)(hr:cM z.2<=14):(nr S f z).length<=16:=by
 unfold nr
 rw[OI,OH,O4]
 have e:((O5 (UC z.2)).filter λi=>bz (aQ S ((f+1+i:Nat):Int)))=((O5 (cK Uy (((f+1:Nat)):Int) (w+2) (f:Int) z.2).length).filter λi=>bz ((cK Uy (((f+1:Nat)):Int) (w+2) (f:Int) z.2).getD i d9).kind):=by
  rw[cC]
  refine List.filter_congr λi hi=>?_
  have hi:i<(cK Uy (((f+1:Nat)):Int) (w+2) (f:Int) z.2).length:=by rw[cC];exact Pm.mp hi
  rw[(h.s.k (OE hi)).1,OG,OE hi]
  rfl
 rw[e,zY (cK Uy (((f+1:Nat)):Int) (w+2) (f:Int) z.2) d9 λs=>bz s.kind]
 have:=vI (cK Uy (((f+1:Nat)):Int) (w+2) (f:Int) z.2)
 rw[vV] at this
 omega
theorem uo {Uy:Of}{Ls:List (List Th)}(h:cy Uy Ls):nY (ar Uy Ls) (cS Uy Ls)/\Good (US (ar Uy Ls) (cS Uy Ls)):=by
 obtain⟨hLd,hLi,Xo⟩:=Bd h
 have hS:=Lp h
 refine⟨⟨hS,hLd,hLi,λn hn hk=>?_⟩,?_⟩
 ·obtain⟨j,z,w,hz,hb,e⟩:=vt h hn hk
  subst e
  rw[hb.cl gX];rfl
 have bl:∀{j:Nat} {z:Str×List Th} {w:Int},eG (ar Uy Ls) (cS Uy Ls) Uy (fst Uy Ls j) w z->fst Uy Ls j<(ar Uy Ls).length:=λhb=>(OD.mp hb.nm).1
 have hn:=oi h
 have hlp:(cI (ar Uy Ls)).length=Uy.length:=by rw[← congrArg List.length hn,OH]
 refine⟨hS,?_,?_,λp hp=>?_,hLi,Xo,js _ (QC _),?_,λn t ht hk=>?_,λfd hR n WM hk=>?_,λp hp=>?_,λp hp=>?_,?_,λr hr=>?_,λp hp=>?_⟩
 ·show(cI (ar Uy Ls)).length<=4
  rw[hlp,h.l];exact h.l4
 ·show((cI (ar Uy Ls)).map (·.1)).Nodup
  rw[hn];exact h.nd
 ·obtain⟨j,z,w,hz,hb,rfl⟩:=jU h hp
  have:=bl hb
  exact⟨by show(0:Int)<=((fst Uy Ls j:Nat):Int);omega,by show((fst Uy Ls j:Nat):Int)<((ar Uy Ls).length:Int);omega⟩
 ·show(Vm (ar Uy Ls)).Nodup
  rw[B9 h];exact h.nd
 ·-- Uz
  have ht:(ar Uy Ls)[n]?=some t:=ht
  have WM:=(OD.mp ht).1
  obtain⟨j,z,w,hz,hb,h1,h2,h3⟩:=iu h n WM
  have Vt:=(eT ht).1
  have UJ:n≠fst Uy Ls j:=λe=>by
   rw[e,hb.k,hk] at Vt
   exact Ur Vt (by decide +kernel)
  have Y5:n≠lst (fst Uy Ls j) z:=λe=>by
   rw[e,(eT hb.e).1,hk] at Vt
   exact Ur Vt (show("end":Str)≠"call" by decide +kernel)
  have XQ:n<fst Uy Ls j+1+UC z.2:=QN h2 Y5
  have hi:n-(fst Uy Ls j+1)<(cK Uy (((fst Uy Ls j+1:Nat)):Int) (w+2) (fst Uy Ls j:Int) z.2).length:=by rw[cC];omega
  have hs:=hb.s _ _ (OE hi)
  rw[show fst Uy Ls j+1+(n-(fst Uy Ls j+1))=n by omega,ht] at hs
  have ko:=iY (Uy:=Uy) z.2 false _ _ _ (dN h hz).1 _ (O0 hi)
  rw[← Option.some.inj hs] at ko
  obtain⟨c,c1,c2,c3⟩:=ko.cl hk
  have Wo:c.toNat<Uy.length:=by rw[h.l];omega
  have hcz:c.toNat<(cf Uy Ls).length:=by rw[Pw,h.l];omega
  obtain⟨w',Vv⟩:=fD (Uy:=Uy) (Ls:=Ls) (OE hcz)
  have Vx:=mN (cf Uy Ls) j c.toNat z hz (by omega)
  refine⟨fst Uy Ls c.toNat,_,?_,Vv.nm,rfl,?_⟩
  ·have:fst Uy Ls j+2+UC z.2<=fst Uy Ls c.toNat:=Vx
   omega
  ·rw[c3]
   have VX:=(dN h (OE hcz)).2.2.2.1
   rw[OG,VX];rfl
 ·-- coming to each YG
  obtain⟨hR1,W9⟩:=hR
  have WM:n<(ar Uy Ls).length:=WM
  obtain⟨j,z,w,hz,hb,h1,h2,h3⟩:=iu h n WM
  have Vt:aQ (ar Uy Ls) (n:Int)∈UW:=hk
  have UJ:n≠fst Uy Ls j:=λe=>by
   rw[e,hb.k] at Vt
   exact Ur Vt (by decide +kernel)
  have Y5:n≠lst (fst Uy Ls j) z:=λe=>by
   rw[e,(eT hb.e).1] at Vt
   exact Ur Vt (show("end":Str)∉UW by decide +kernel)
  have XQ:n<fst Uy Ls j+1+UC z.2:=QN h2 Y5
  have hf:((fst Uy Ls j:Nat):Int)∈fd:=by
   refine hR1 (z.1,((fst Uy Ls j:Nat):Int),(bE (dI (ar Uy Ls)) ((fst Uy Ls j:Nat):Int)).getD 0) ?_
   show _∈cI (ar Uy Ls)
   unfold cI
   exact OO.mpr ⟨(((fst Uy Ls j:Nat):Int),⟨"part",z.1,w, -1⟩),O2.mpr ⟨kW hb.nm,Uw rfl⟩,rfl⟩
  have hC:kA (cS Uy Ls) fd:=W9
  have hf1:=hC.on hf hb.df (l:=((fst Uy Ls j:Nat):Int)+1) (OF.mpr rfl)
  have:=(xW (Uy:=Uy) (S:=ar Uy Ls) hC z.2 false (fst Uy Ls j+1) (w+2) _ 0 _ (dN h hz).1 hb.s hb.d (by push_cast;exact hf1)).1 (n-(fst Uy Ls j+1)) (by omega) (by rw[show fst Uy Ls j+1+(n-(fst Uy Ls j+1))=n by omega];exact Vt)
  rwa [show fst Uy Ls j+1+(n-(fst Uy Ls j+1))=n by omega] at this
 ·-- each later part is called
  have hp:p∈(cI (ar Uy Ls)).drop 1:=hp
  obtain⟨k,hk⟩:=OR.mp hp
  rw[QB] at hk
  have hnk:Uy[1+k]?=some p.1:=by rw[← hn,OJ,hk];rfl
  have Yv:=(OD.mp hnk).1
  obtain⟨L,hL,hcL⟩:=h.cl (1+k) (by omega) (by rw[← h.l];exact Yv)
  obtain⟨i,hi⟩:=OR.mp hL
  have il:=(OD.mp hi).1
  have hiz:i<(cf Uy Ls).length:=by rw[Pw,h.l];omega
  obtain⟨w',Vv⟩:=fD (Uy:=Uy) (Ls:=Ls) (OE hiz)
  have e2:=(dN h (OE hiz)).2.2.2.2
  rw[hi] at e2
  have e2:=Option.some.inj e2
  obtain⟨s,hs,s1,s2⟩:=call_in (Uy:=Uy) (((fst Uy Ls i+1:Nat)):Int) (w'+2) ((fst Uy Ls i:Nat):Int) hcL
  rw[e2] at hs
  obtain⟨q,hq⟩:=OR.mp hs
  refine⟨s,OK (Vv.s q s hq),s1,?_⟩
  rw[s2,show(((1+k:Nat)):Int).toNat=1+k by omega,OG,hnk];rfl
 ·-- no part ends at UD begin
  obtain⟨j,z,w,hz,hb,rfl⟩:=jU h hp
  obtain⟨VF,Wz,Xg,_⟩:=dN h hz
  show(cF (ar Uy Ls) (cS Uy Ls)).getD ((fst Uy Ls j:Nat):Int).toNat 0≠((lst (fst Uy Ls j) z:Nat):Int)
  rw[show((fst Uy Ls j:Nat):Int).toNat=fst Uy Ls j by omega,hb.first VF Wz]
  have:=(lC hb VF Wz).2
  show((fst Uy Ls j+1:Nat):Int)≠((fst Uy Ls j+1+UC z.2:Nat):Int)
  omega
 ·-- rows
  show(gq (ar Uy Ls) (cS Uy Ls) (cF (ar Uy Ls) (cS Uy Ls))).length<=30
  refine QD (Bq _ _ _) ?_
  rw[Mz]
  have e:(cf Uy Ls).map (λz=>cM z.2)=Ls.map cM:=by
   conv=>rhs;rw[← Hd h]
   rw[PR];rfl
  show((cf Uy Ls).map λz=>cM z.2).sum<=30
  rw[e];exact h.tot
 ·obtain⟨n,s,l,h1,h2,h3,_⟩:=lF hr
  have WM:=(OD.mp h1).1
  rw[h2]
  refine⟨⟨by omega,by show(n:Int)<((ar Uy Ls).length:Int);omega⟩,?_⟩
  show aQ (ar Uy Ls) (n:Int)∈UW
  rw[(eT h1).1];exact tf h3
 ·-- places
  obtain⟨j,z,w,hz,hb,rfl⟩:=jU h hp
  obtain⟨VF,Wz,Xg,_⟩:=dN h hz
  have fl:fst Uy Ls j<lst (fst Uy Ls j) z:=by show _<fst Uy Ls j+1+UC z.2;omega
  have Vw:=λn h1 h2=>hb.xo gX VF _ n rfl h1 h2
  refine QD (iB.len (Kp:=nr (ar Uy Ls) (fst Uy Ls j) z) ?_) (yV hb Xg)
  refine iB.rows ?_ λr hr hi=>?_
  ·have UJ:(cF (ar Uy Ls) (cS Uy Ls)).getD (fst Uy Ls j) 0≠((lst (fst Uy Ls j) z:Nat):Int):=by
    rw[hb.first VF Wz]
    have:=(lC hb VF Wz).2
    show((fst Uy Ls j+1:Nat):Int)≠((fst Uy Ls j+1+UC z.2:Nat):Int)
    omega
   have e0:(US (ar Uy Ls) (cS Uy Ls)).St.getD ((fst Uy Ls j:Nat):Int).toNat 0=(cF (ar Uy Ls) (cS Uy Ls)).getD (fst Uy Ls j) 0:=by rw[show((fst Uy Ls j:Nat):Int).toNat=fst Uy Ls j by omega];rfl
   dsimp only
   rw[e0]
   refine⟨?_,λx hx=>?_⟩
   ·exact Pa.mpr ⟨λq=>UJ (OF.mp q),Pa.mpr ⟨by simp,Ql⟩⟩
   ·have hx:x=(cF (ar Uy Ls) (cS Uy Ls)).getD (fst Uy Ls j) 0∨x=((lst (fst Uy Ls j) z:Nat):Int):=by simpa using hx
    rcases hx with rfl | rfl
    ·exact j5 (Vw _ (QC _) (by omega))
    ·exact j5 ⟨by omega,OB _,.inl rfl⟩
  ·obtain⟨n,s,l,h1,h2,h3,h4,h5⟩:=lF hr
   unfold lW at hi
   rw[Oq] at hi
   have i1:((fst Uy Ls j:Nat):Int)<r.1:=Uu hi.1
   have i2:r.1<((lst (fst Uy Ls j) z:Nat):Int):=Uu hi.2
   rw[h2] at i1 i2
   have Vt:aQ (ar Uy Ls) (n:Int)=s.kind:=(eT h1).1
   have st:=hb.all gX VF n (by omega) (by omega)
   have rg:=st.rg l h4
   refine⟨?_,?_⟩
   ·rw[h2]
    exact j5 ⟨i1,by omega,.inr (by rw[Vt];exact h3)⟩
   ·rw[h5]
    exact j5 (Vw l.toNat (by omega) (by omega))
theorem Ej:Pure:=λUy Ls h=>⟨cS Uy Ls,uo h⟩
structure hZ (mg:Oc):Prop where
 isinstance:mg "isinstance"=none
 bool:mg "bool"=none
 max:mg "max"=none
 Wh:∃t,mg "NO_CALL"=some (.int (-1) t)
 first:∃t,mg "FIRST_PART"=some (.int 0 t)
 yes:∃t,mg "YES"=some (.int 1 t)
 ended:∃t,mg "ENDED"=some (.str "ended" t)
 bound:∃t,mg "BOUND"=some (.str "bound" t)
 Xc:∃t,mg "WANTING"=some (.str "wanting" t)
abbrev dO:=Ol
abbrev oj:Row:=(0,0,0,0)
def rowOf (v:de)(k:Int):Row:=v.2.getD k.toNat oj
def mM (v:de)(p q:Int):Oe:=(ups 0 v.2.length).filter λk=>decide (((rowOf v k).1,(rowOf v k).2.1)=(p,q))
theorem lB {st:dO}(h:st≠[]):st.dropLast++[st.getLast h]=st:=Ph h
def trim (st:dO):dO:=(st.reverse.dropWhile λt=>decide (t.2=1)).reverse
theorem sC:trim []=[]:=rfl
theorem tG {st:dO}(h:st≠[])(e:(st.getLast h).2=1):trim st=trim st.dropLast:=by
 have e1:st.reverse=st.getLast h::st.dropLast.reverse:=by
  have:=congrArg List.reverse (lB h)
  rw[← this];simp
 unfold trim
 rw[e1,List.dropWhile_cons,Ut (Uw e)]
theorem qI {st:dO}(h:st≠[])(e:(st.getLast h).2≠1):trim st=st:=by
 have e1:st.reverse=st.getLast h::st.dropLast.reverse:=by
  have:=congrArg List.reverse (lB h)
  rw[← this];simp
 unfold trim
 rw[e1,List.dropWhile_cons,Us (by simpa using e),← e1,List.reverse_reverse]
theorem sr:∀(n:Nat) (st:dO),st.length=n->∃s',st=trim st++s'/\(∀t∈s',t.2=1)/\∀h:trim st≠[],((trim st).getLast h).2≠1
 | 0,st,hn=>by
   have:st=[]:=List.length_eq_zero_iff.mp hn
   subst this
   rw[sC]
   exact⟨[],rfl,by simp,λh=>Ur rfl h⟩
 | n+1,st,hn=>by
   have UJ:st≠[]:=λe=>by rw[e] at hn;simp at hn
   by_cases e:(st.getLast UJ).2=1
   ·obtain⟨s',h1,h2,h3⟩:=sr n st.dropLast (by rw[PH,hn];rfl)
    rw[tG UJ e]
    refine⟨s'++[st.getLast UJ],?_,λt ht=>?_,h3⟩
    ·rw[← OZ,← h1];exact(lB UJ).symm
    ·rcases OS.mp ht with q | q
     ·exact h2 t q
     ·rw[OF.mp q];exact e
   ·rw[qI UJ e]
    exact⟨[],by simp,by simp,λ_=>e⟩
structure fX (v:de):Prop where
 pl:v.1.length<=4
 p1:1<=v.1.length
 rl:v.2.length<=30
 sz:∀n∈v.1,2<=n/\n<=16
 rw:∀r∈v.2,(0<=r.1/\r.1<(v.1.length:Int))/\(0<=r.2.1/\r.2.1<v.1.getD r.1.toNat 0)/\(0<=r.2.2.1/\r.2.2.1<v.1.getD r.1.toNat 0)/\(r.2.2.2= -1∨(0<=r.2.2.2/\r.2.2.2<(v.1.length:Int)))
 fr:∀p k:Nat,p<v.1.length->(k:Int)<v.1.getD p 0->k≠1->∃(n:Nat) (r:Row),v.2[n]?=some r/\r.1=(p:Int)/\r.2.1=(k:Int)
theorem ny {α β:Type}{P:α->List β->Prop}(hp:∀x ys,P x ys->ys=[]):∀{xs:List α} {Vh:List (List β)},PySem.Paired P xs Vh->Vh=PQ xs.length []
 | _,_,.nil=>rfl
 | _,_,.cons h t=>by rw[OP,List.replicate_succ,ny hp t,hp _ _ h]
def jn (v:de)(p:Int)(i:Nat)(q:Int):Oe:=(ups 0 i).filter λk=>decide (((rowOf v k).1,(rowOf v k).2.1)=(p,q))
theorem BE (i:Nat):ups 0 (i+1)=ups 0 i++[(i:Int)]:=by
 unfold ups
 rw[Qx,O3]
 simp
theorem ox (v:de)(p:Int)(i:Nat)(q:Int):jn v p (i+1) q=jn v p i q++(if(rowOf v (i:Int)).1=p/\(rowOf v (i:Int)).2.1=q then[(i:Int)] else[]):=by
 unfold jn
 rw[BE,PZ]
 congr 1
 by_cases h:(rowOf v (i:Int)).1=p/\(rowOf v (i:Int)).2.1=q
 ·rw[Ut h,PK (by simp[h.1,h.2])];rfl
 ·rw[Us h,PM (by simp;exact λa b=>h ⟨a,b⟩)];rfl
def iC (v:de)(p:Int)(n i:Nat):List Oe:=(ups 0 n).map (jn v p i)
def jc (v:de)(p:Int):List Oe:=(ups 0 (v.1.getD p.toNat 0).toNat).map (mM v p)
theorem jT (v:de)(p:Int)(n i:Nat):(iC v p n i).length=n:=by unfold iC;rw[OH,a9]
theorem qB {j:Nat}(h:j<n):(ups 0 n)[j]?=some (j:Int):=by unfold ups;rw[OJ,Pt h];simp
theorem mS {p:Int}{j:Nat}(h:j<n):(iC v p n i)[j]?=some (jn v p i (j:Int)):=by unfold iC;rw[OJ,qB h];rfl
theorem zG {p:Int}(h:(rowOf v (i:Int)).1≠p):iC v p n (i+1)=iC v p n i:=by
 unfold iC
 refine Qh λq hq=>?_
 rw[ox,Us (λz=>h z.1),Pf]
theorem Az {p:Int}(h:(rowOf v (i:Int)).1=p)(s0:0<=(rowOf v (i:Int)).2.1)(s1:(rowOf v (i:Int)).2.1<(n:Int)):(iC v p n i).set (rowOf v (i:Int)).2.1.toNat (jn v p i (rowOf v (i:Int)).2.1++[(i:Int)])=iC v p n (i+1):=by
 apply PU
 intro j
 by_cases hj:j<n
 ·rw[mS hj,ox]
  by_cases e:(rowOf v (i:Int)).2.1.toNat=j
  ·subst e
   rw[OW (by rw[jT];exact hj),Ut ⟨h,by omega⟩]
   rw[show(((rowOf v (i:Int)).2.1.toNat:Nat):Int)=(rowOf v (i:Int)).2.1 by omega]
  ·rw[Pb e,mS hj,Us (λz=>e (by have:=z.2;omega)),Pf]
 ·rw[Pe (by rw[Pj,jT];omega),Pe (by rw[jT];omega)]
theorem qU (v:de)(p:Int)(i:Nat)(q:Int):(jn v p i q).length<=i:=by
 unfold jn
 refine QD (Pz _ _) ?_
 rw[a9];exact QC _
theorem BR {p q:Int}(q0:0<=q)(q1:q<v.1.getD p.toNat 0):(jc v p)[q.toNat]?=some (mM v p q):=by
 have:=mS (v:=v) (p:=p) (n:=(v.1.getD p.toNat 0).toNat) (i:=v.2.length) (j:=q.toNat) (by omega)
 rw[show((q.toNat:Nat):Int)=q by omega] at this
 exact this
theorem boot_bool:RK "bool"=some (.type "bool"):=by decide +kernel
end
section
theorem lD {st:dO}(h:st≠[]):st[st.length-1]?=some (st.getLast h):=by rw[List.getLast_eq_getElem];exact OE _
abbrev C7:Stmt:=top oQ
abbrev Mq:Of:=["web","part","leaving","number","row"]
theorem FK:ay Mq ["web","part"] (ag C7):=UY
def MN (fr:Bool):bQ:=λK ps T=>∃(v:de) (p:Int),ps=[⟨c8,v⟩,⟨ah,p⟩]/\fX v/\0<=p/\p<(v.1.length:Int)/\T=if fr=true then nu K (ae ah) (· =jc v p) else L6 K ah (· =jc v p)
theorem Lh (fr:Bool)(M:cb K mg)(Df:Def K mg "rows_leaving" C7 ["web","part"]):aA P w K mg base "rows_leaving" 1 (aE (MN fr) K):=by
 have nd:=FK.nd
 have VR:OX [("place":Str)]:=by decide
 refine bc Df FK (λf UE A outer s H E qs T hr hS=>?_)
 obtain⟨v,p,rfl,hv,p0,p1,rfl⟩:=hS
 have pl:=hv.pl
 have rl:=hv.rl
 have hn:bU v.1 p=some (v.1.getD p.toNat 0):=aV 0 p0 p1
 have nb:=hv.sz (v.1.getD p.toNat 0) (by rw[OG,OE (by omega)];exact O0 _)
 generalize hN:v.1.getD p.toNat 0=n at hn nb
 change WS _ _ [oM v,ao p,.no,.no,.no] _ _
 refine ai (EF 2 (own:=["place"]) (fr:=[]) (ix:=[]) (ra:=ah) (rb:=ah) (P:=λ_ ys=>ys=[]) (bt (so:=ag C7) (N0:=Mq) rfl rfl (λx h=>a8 h) (by decide +kernel)) (dg M.range (aY (jN (aa 0 rfl)) (aa 1 rfl) hn) ⟨by omega,by omega⟩)
  (λC s H ex=>aO 0) (λx=>⟨.inr rfl,trivial⟩) (λx=>⟨trivial,trivial⟩) (λC s H ex x hx=>aW.evr (aR aT (by decide)) rfl) λa bs Vh pq _=>?_)
 have ey:=ny (λ_ _ h=>h) pq
 rw[a9] at ey
 have e0:PQ n.toNat ([]:Oe)=iC v p n.toNat 0:=by
  unfold iC jn
  apply PU
  intro j
  rw[PD,OJ]
  by_cases hj:j<n.toNat
  ·rw[Ut hj,qB hj];rfl
  ·rw[Us hj,Pe (by rw[a9];omega)];rfl
 rw[e0] at ey
 subst ey
 refine ai (bX (r:=cD ah cx) (λi Γ=>∃v3 v4,Γ=[oM v,ao p,.ob (dJ ah a bs (iC v p n.toNat i)),v3,v4])
  (gJ M.enumerate (dU (aa 0 rfl))) (fo 3 4) ⟨_,_,rfl⟩ ?_ ?_)
 ·rintro i x Γ hx ⟨v3,v4,rfl⟩
  obtain⟨e1,e2⟩:=eJ hx
  have il:=(OD.mp e2).1
  have er:rowOf v i=x.2:=by unfold rowOf;rw[OG,show((i:Int)).toNat=i by omega,e2];rfl
  refine ak (ba (aD eo (iF (aa 4 rfl)) (aa 1 rfl)) (λh=>?_) (λh=>aL ?_))
  ·have h:x.2.1=p:=Uu h
   have rp:=hv.rw _ (OK e2)
   have q0:=rp.2.1.1
   have q1:=rp.2.1.2
   rw[h,hN] at q1
   have len:=jT v p n.toNat i
   refine ak (xk 2 (ij (aa 4 rfl)) (aa 3 rfl) rfl (tQ q0 (by omega)) (mS (j:=x.2.2.1.toNat) (by omega)) (QF (QD (qU v p i _) (show i<=100 by omega)) (by decide)) ?_)
   refine⟨ao x.1,.im cx x.2,?_⟩
   have:=Az (v:=v) (p:=p) (n:=n.toNat) (i:=i) (by rw[er];exact h) (by rw[er];exact q0) (by rw[er];omega)
   rw[er] at this
   rw[e1,show((x.2.2.1.toNat:Nat):Int)=x.2.2.1 by omega,this]
   rfl
  ·have h:x.2.1≠p:=Uv h
   refine⟨ao x.1,.im cx x.2,?_⟩
   rw[zG (by rw[er];exact h)]
   rfl
 ·rintro Γ ⟨v3,v4,rfl⟩
  rw[c5]
  have e:iC v p n.toNat v.2.length=jc v p:=by unfold jc;rw[hN];rfl
  rw[e]
  have ll:(jc v p).length<=16:=by rw[← e,jT];omega
  cases fr with
  | false=>exact ak (F8 2 rfl rfl)
  | true=>
    refine ak (EM 2 rfl (aH (by omega)) (λxs hx=>?_) rfl)
    rw[← e] at hx
    obtain⟨q,_,rfl⟩:=OO.mp hx
    exact aH (QD (qU v p _ q) (by omega))
abbrev Jm:Stmt:=top vc
theorem Jx:ay ["value"] ["value"] (ag Jm):=UY
def DA:bQ:=λK ps T=>∃x:Int,ps=[⟨ah,x⟩]/\T=bL K bF (· =true)
theorem Lq (M:cb K mg)(M4:hZ mg)(Df:Def K mg "is_whole" Jm ["value"]):aA P w K mg base "is_whole" 1 (aE DA K):=by
 have nd:=Jx.nd
 refine bc Df Jx (λf UE A outer s H E qs T hr hS=>?_)
 obtain⟨x,rfl,rfl⟩:=hS
 exact ak (aN (iX (eO M4.isinstance M.int PyProof.Rows.boot_int (aa 0 rfl) ty_int) (λ_=>ja (yQ (eO M4.isinstance M4.bool boot_bool (aa 0 rfl) ty_int)))) rfl)
abbrev yW:Stmt:=top tR
theorem IY:ay ["values"] ["values"] (ag yW):=UY
def Dh:bQ:=λK ps T=>((∃ns:Oe,ps=[⟨ae ah,ns⟩])∨(∃r:Row,ps=[⟨cx,r⟩]))/\T=bL K bF (· =true)
theorem Ak {α:Type}(xs:List α):((xs.filter λ_=>true).map λ_=>true).all id=true:=by
 rw[Pq];intro b hb
 obtain⟨_,_,rfl⟩:=OO.mp hb;rfl
theorem KS (M:cb K mg)(M4:hZ mg)(CI:aA P w K mg base "is_whole" 1 (aE DA K))(F:dH K "are_whole" "are_whole" yW f fd)(hm:mg "are_whole"=some (.ref f))(hb:Binds K fd ["values"] []):aA P w K mg base "are_whole" 2 (aE Dh K):=by
 have nd:=IY.nd
 have VR:OX [("value":Str)]:=by decide
 refine fR F IY hm hb (λqs T ⟨e,_⟩=>by rcases e with⟨_,e⟩ | ⟨_,e⟩<;>(rw[e];rfl)) (λUE A outer s H E qs T hr hS=>?_)
 obtain⟨⟨ns,rfl⟩ | ⟨r,rfl⟩,rfl⟩:=hS
 ·exact ak (aN (gZ M.all (aW.im (bD (own:=["value"]) (fr:=[]) (ix:=[]) (p:=λ_=>true) (f:=λ_=>true) (bt (so:=ag yW) (N0:=["values"]) rfl rfl (λx h=>a8 h) (by decide +kernel)) (bG (aa 0 rfl))
   (λC s H ex=>aO 0) (λx=>⟨.inr rfl,trivial⟩) (λC s H ex x hx=>cO) (λC s H ex x hx _=>aB CI hr (af (aa 0 rfl) aq) ⟨_,rfl,rfl⟩)))) (Ak ns))
 ·exact ak (aN (gZ M.all (aW.im (bD (own:=["value"]) (fr:=[]) (ix:=[]) (p:=λ_=>true) (f:=λ_=>true) (bt (so:=ag yW) (N0:=["values"]) rfl rfl (λx h=>a8 h) (by decide +kernel)) (Fq (aa 0 rfl))
   (λC s H ex=>aO 0) (λx=>⟨.inr rfl,trivial⟩) (λC s H ex x hx=>cO) (λC s H ex x hx _=>aB CI hr (af (aa 0 rfl) aq) ⟨_,rfl,rfl⟩)))) (Ak _))
abbrev Co:Stmt:=top oN
abbrev Dx:Of:=["answers","bound"]
theorem IQ:ay Dx Dx (ag Co):=UY
def lq (ans:Oe):Bool:=((ans.filter λ_=>true).map λa=>decide (0<=a)&&decide (a<=1)).all id
def Mo:bQ:=λK ps T=>∃(ans:Oe) (bound:Int),ps=[⟨ae ah,ans⟩,⟨ah,bound⟩]/\lq ans=true/\0<=bound/\T=bL K jO (λ_=>True)
theorem Ki (M:cb K mg)(M4:hZ mg)(CI:aA P w K mg base "is_whole" 1 (aE DA K))(CA:aA P w K mg base "are_whole" 2 (aE Dh K))(F:dH K "need_answers" "need_answers" Co f fd)(hm:mg "need_answers"=some (.ref f))(hb:Binds K fd Dx []):aA P w K mg base "need_answers" 3 (aE Mo K):=by
 have nd:=IQ.nd
 have VR:OX [("answer":Str)]:=by decide
 refine zL F IQ hm hb (λqs T ⟨_,_,e,_⟩=>by rw[e];rfl) (λUE A outer s H E qs T hr hS=>?_)
 obtain⟨ans,bound,rfl,ha,hb,rfl⟩:=hS
 refine⟨λ_ _ _=>⟨(),rfl,trivial⟩,?_⟩
 change WS _ _ [bP ans,ao bound] _ _
 refine ai (ba (TW.tv (fQ (bW (cj (eO M4.isinstance M.list Q4 (aa 0 rfl) ty_list))) (λ_=>fQ (bW (cj (aB CA hr (af (aa 0 rfl) aq) ⟨.inl ⟨_,rfl⟩,rfl⟩))) (λ_=>fc (bW (cj (gZ M.all (aW.im (bD (own:=["answer"]) (fr:=[]) (ix:=[]) (p:=λ_=>true) (f:=λa=>decide (0<=a)&&decide (a<=1)) (bt (so:=ag Co) (N0:=Dx) rfl rfl (λx h=>a8 h) (by decide +kernel)) (bG (aa 0 rfl))
  (λC s H ex=>aO 0) (λx=>⟨.inr rfl,trivial⟩) (λC s H ex x hx=>cO) (λC s H ex x hx _=>ie gG gG ev_int (aa 0 rfl) ev_int)))))))))) (λh=>?_) (λh=>aL ?_))
 ·have h2:(false ||(false || !lq ans))=true:=h
  rw[ha] at h2;cases h2
 refine ak (ba (TW.tv (fQ (bW (cj (aB (CI.mono (by decide)) hr (af (aa 1 rfl) aq) ⟨_,rfl,rfl⟩))) (λ_=>fc (aD gE (aa 1 rfl) ev_int)))) (λh=>?_) (λh=>aL trivial))
 have h2:(false ||decide (bound<0))=true:=h
 simp at h2
 omega
abbrev Ia:Stmt:=top vi
theorem HV:ay ["part"] ["part"] (ag Ia):=UY
def Cv:bQ:=λK ps T=>∃p:Int,ps=[⟨ah,p⟩]/\T=bL K dk (· =(p,0))
theorem Kl (M3:iL mg)(Df:Def K mg "at_begin" Ia ["part"]):aA P w K mg base "at_begin" 1 (aE Cv K):=by
 have nd:=HV.nd
 obtain⟨t1,hB⟩:=M3.beg
 refine bc Df HV (λf UE A outer s H E qs T hr hS=>?_)
 obtain⟨p,rfl,rfl⟩:=hS
 change WS _ _ [ao p] _ _
 exact ak (aN (gI (af (aa 0 rfl) (af (ck hB) aq))) rfl)
abbrev x8:Stmt:=top Kh
theorem HE:ay ["stack","row"] ["stack","row"] (ag x8):=UY
def hU (st:dO)(r:Row):dO:=trim (if r.2.2.2= -1 then st.set (st.length-1) (r.1,r.2.2.1) else st.set (st.length-1) (r.1,r.2.2.1)++[(r.2.2.2,0)])
def JS:jv (Int×Int):=λK xs ps T=>∃r:Row,ps=[⟨cx,r⟩]/\xs≠[]/\xs.length<=200000/\T=λxs'=>bL K jO λz=>xs'=hU xs r/\z=()
theorem Ll (M3:iL mg)(M4:hZ mg)(CA:aA P w K mg base "at_begin" 1 (aE Cv K))(Df:Def K mg "go" x8 ["stack","row"]):aA P w K mg base "go" 2 (eB dk JS K):=by
 have nd:=HE.nd
 obtain⟨t1,hNC⟩:=M4.Wh
 obtain⟨t2,Yi⟩:=M3.end_
 refine Bf Df HE (λf UE A outer s H E a xs qs T hr hS=>?_)
 obtain⟨r,rfl,ne,hl,rfl⟩:=hS
 change WS _ _ [.ob (bM a dk xs),.im cx r] _ _
 have hpos:0<xs.length:=P8.mpr ne
 have Yx:fb xs.length (-1)=some (xs.length-1):=by unfold fb;rw[Us (by omega),Ut (by omega)];congr 1;omega
 refine ai (gA 0 (j:=xs.length-1) (gI (af (iF (aa 1 rfl)) (af (mY (aa 1 rfl)) aq))) (fM ev_int) rfl rfl Yx ?_)
 have two:∀s2:dO,trim s2=hU xs r->WS (eD d7 P w K mg base ["stack","row"] "go" (ag x8) f UE A outer s H E).ic ((bu x8).drop 2) [.ob (bM a dk s2),.im cx r] (λΓ=>∃xs',Γ[0]?=some (.ob (bM a dk xs'))/\∀H0 H' R',(bL K jO λz=>xs'=hU xs r/\z=()) H0 .UQ H' R') (t8 K a dk λxs'=>bL K jO λz=>xs'=hU xs r/\z=()):=by
  intro s2 he
  refine ak (jr (λm Γ=>∃s3:dO,Γ=[.ob (bM a dk s3),.im cx r]/\m=s3.length/\trim s3=hU xs r) (m0:=s2.length) ⟨s2,rfl,rfl,he⟩ ?_)
  rintro m Γ ⟨s3,rfl,rfl,ht⟩
  by_cases UJ:s3=[]
  ·subst UJ
   refine⟨_,_,TV.box 0 (TW.tv (cT (y:=false) (jx 0 rfl) (λh=>Ur h (by decide)))) rfl rfl,λh=>Ur h (by decide),λ_=>?_⟩
   exact⟨[],rfl,λ_ _ _=>⟨(),rfl,by rw[← ht,sC],rfl⟩⟩
  ·have hl3:=lD UJ
   have ne':s3.isEmpty=false:=by cases s3 with
    | nil=>exact Ur rfl UJ
    | cons a b=>rfl
   refine⟨_,_,TV.box 0 (TW.tv (cT (jx 0 rfl) (λ_=>dQ (aD eo (dU (kD 0 (fM ev_int) rfl rfl (jF hl3))) (ck Yi))))) rfl rfl,λh=>?_,λh=>?_⟩
   ·rw[Oq] at h
    have h1:(s3.getLast UJ).2=1:=Uu h.2
    refine ak (mx (EV.box 0 (oz 0 rfl hl3) rfl rfl) ?_)
    exact⟨s3.dropLast.length,by rw[PH];have:=P8.mpr UJ;omega,s3.dropLast,rfl,rfl,by rw[← tG UJ h1];exact ht⟩
   ·rw[ne'] at h
    have h1:(s3.getLast UJ).2≠1:=by simpa using h
    rw[qI UJ h1] at ht
    exact⟨s3,rfl,λ_ _ _=>⟨(),rfl,ht,rfl⟩⟩
 refine ai (ba (aD BL (kH (aa 1 rfl)) (ck hNC)) (λh=>?_) (λh=>aL ?_))
 ·have h:r.2.2.2≠ -1:=by simpa using h
  refine ak (mx (EV.box 0 (zC 0 (aB CA hr (af (kH (aa 1 rfl)) aq) ⟨_,rfl,rfl⟩) rfl rfl (QF (show _<=200001 by rw[Pj];omega) (by decide))) rfl rfl) ?_)
  exact two _ (by rw[hU,Us h])
 ·have h:r.2.2.2= -1:=by simpa using h
  exact two _ (by rw[hU,Ut h])
end
abbrev r8:gU:=("",0,0)
def bO (s:gf)(n:Int):Int:=((s.parts.filter λp=>decide (p.2.1<=n)).length:Int)-1
def dD (s:gf):List Ol:=s.parts.map (bS s)
def ju (Uy:Of)(x:Str):Nat:=Uy.findIdx λy=>decide (y=x)
def c7 (s:gf)(r:Rw):Row:=
 (bO s r.1,(bE ((dD s).getD (bO s r.1).toNat []) r.1).getD 0,(bE ((dD s).getD (bO s r.1).toNat []) r.2.1).getD 0,if r.2.2.1="call" then(ju (s.parts.map (·.1)) r.2.2.2:Int) else -1)
def U8 (s:gf):de:=((dD s).map λF=>(F.length:Int),s.rows.map (c7 s))
structure A7 (s:gf):Prop where
 pt:∀r∈s.rows,0<=bO s r.1/\bO s r.1<(s.parts.length:Int)
 f1:∀r∈s.rows,(bE ((dD s).getD (bO s r.1).toNat []) r.1).isSome
 f2:∀r∈s.rows,(bE ((dD s).getD (bO s r.1).toNat []) r.2.1).isSome
 cl:∀r∈s.rows,r.2.2.1="call"->r.2.2.2∈s.parts.map (·.1)
theorem oZ {Uy:Of}{x:Str}(h:x∈Uy):Uy[ju Uy x]?=some x/\∀m,m<ju Uy x->Uy[m]?≠some x:=by
 unfold ju
 have hl:(Uy.findIdx λy=>decide (y=x))<Uy.length:=List.findIdx_lt_length_of_exists ⟨x,h,Uw rfl⟩
 refine⟨?_,λm hm e=>?_⟩
 ·have:=List.findIdx_getElem (w:=hl)
  rw[OE hl,Uu this]
 ·have:=List.not_of_lt_findIdx hm
  obtain⟨ml,em⟩:=OD.mp e
  rw[em] at this
  simp at this
theorem qL {o:Option Int}(h:o.isSome=true):o=some (o.getD 0):=by
 cases o with
 | none=>cases h
 | some x=>rfl
section
variable {C D:Addr}
abbrev xO:Stmt:=top xE
theorem CU:ay ["spots","number"] ["spots","number"] (ag xO):=UY
def JB (C D:Addr):bQ:=λK ps T=>∃(s:gf) (n:Int),ps=[⟨bp C D,s⟩,⟨ah,n⟩]/\s.parts.length<=4/\T=bL K ah (· =bO s n)
theorem Hl (M:cb K mg)(HD:bH K D fA)(Df:Def K mg "part_at" xO ["spots","number"]):aA P w K mg base "part_at" 1 (aE (JB C D) K):=by
 have nd:=CU.nd
 have VR:OX [("part":Str),"number"]:=by decide
 refine bc Df CU (λf UE A outer st H E qs T hr hS=>?_)
 obtain⟨s,n,rfl,hl,rfl⟩:=hS
 change WS _ _ [.im (bp C D) s,ao n] _ _
 refine ak (aN (gc (cX M.len (aW.im (bD (own:=["part"]) (fr:=["number"]) (ix:=[1]) (ra:=ax) (rb:=ax) (p:=λz=>decide (wU z<=n)) (f:=λz=>z) (bt (so:=ag xO) (N0:=["spots","number"]) rfl rfl (λx h=>a8 h) (by decide +kernel)) (bG (gW (C:=C) HD (aa 0 rfl)))
  (λC s H ex=>aO 0) (λx=>⟨.inr rfl,.inl rfl,trivial⟩) (λC' s' H ex z hz=>?_) (λC' s H ex z hz _=>aa 0 rfl)))) ev_int) ?_)
 ·obtain⟨p,hp,rfl⟩:=OO.mp hz
  exact fE (aD gG (EV.iP (n:=p.2.1) (dq (aa 0 rfl) ev_int rfl)) (aa 1 rfl))
 ·unfold bO
  rw[OH,QA,OH]
  rfl
abbrev vP:Stmt:=top yC
abbrev Dd:Of:=["text","spots","names","places","rows","row","part","calls"]
theorem Gy:ay Dd ["text"] (ag vP):=UY
def IF:bQ:=λK ps T=>∃(x:Str) (S:List aI) (Ld:List Oe),ps=[⟨aj,x⟩]/\qA x S/\nY S Ld/\Good (US S Ld)/\A7 (US S Ld)/\T=bL K c8 (· =U8 (US S Ld))
theorem Li (M:cb K mg)(M4:hZ mg)(HD:bH K D fA)(CN:aA P w K mg base "need_program" 6 (aE (M8 C D) K))(CP:aA P w K mg base "places_in" 1 (aE (BX C D) K))(CA:aA P w K mg base "part_at" 1 (aE (JB C D) K))(F:dH K "web_of" "web_of" vP f fd)(hm:mg "web_of"=some (.ref f))(hb:Binds K fd ["text"] []):aA P w K mg base "web_of" 7 (aE IF K):=by
 have nd:=Gy.nd
 have VR:OX [("part":Str)]:=by decide
 have Xh:OX [("part":Str),"spots"]:=by decide
 have ndc3:OX [("known":Str)]:=by decide
 have CP:=CP.mono (show 1<=6 by decide)
 have CA:=CA.mono (show 1<=6 by decide)
 refine fR (k:=6) F Gy hm hb (λqs T ⟨_,_,_,e,_⟩=>by rw[e];rfl) (λUE A outer st H E qs T hr hS=>?_)
 obtain⟨x,S,Ld,rfl,hx,hk,hG,hW,rfl⟩:=hS
 obtain⟨t,hnc⟩:=M4.Wh
 have hu:=ru hr
 change WS _ _ [.im aj x,.no,.no,.no,.no,.no,.no,.no] _ _
 refine ai (aU 1 (y:=US S Ld) (aB CN hr (af (aa 0 rfl) aq) ⟨x,S,Ld,rfl,hx,hk,hG,rfl⟩) ?_)
 generalize US S Ld=s at hG hW
 have U0:=hG.pl
 have hrl:=hG.rl
 change WS _ _ [.im aj x,.im (bp C D) s,.no,.no,.no,.no,.no,.no] _ _
 have Ys:((s.parts.map j2).filter λ_=>true).map tq=s.parts.map (·.1):=by rw[Pp.mpr λ_ _=>rfl,PR];rfl
 refine ai (kM 2 (own:=["part"]) (fr:=[]) (ix:=[]) (ra:=ax) (rb:=aj) (p:=λ_=>true) (f:=tq) (bt (so:=ag vP) (N0:=Dd) rfl rfl (λx h=>a8 h) (by decide +kernel)) (bG (gW (C:=C) HD (aa 1 rfl)))
  (λC s H ex=>aO 0) (λx=>⟨.inr rfl,trivial⟩) (λC' s H ex c hc=>cO) (λC' s H ex o ho _=>by
   obtain⟨p,_,rfl⟩:=OO.mp ho
   exact EV.sP (x:=p.1) (dq (aa 0 rfl) ev_int rfl)) ?_)
 rw[Ys]
 generalize Yr:s.parts.map (·.1)=Uy
 have Y5:Uy.length=s.parts.length:=by rw[← Yr,OH]
 refine WS.freeze 2 rfl (aH (by omega)) ?_
 change WS _ _ [.im aj x,.im (bp C D) s,.im (ae aj) Uy,.no,.no,.no,.no,.no] _ _
 have hpls:((ups 0 Uy.length).filter λ_=>true).map (λi=>bS s (s.parts.getD i.toNat r8))=dD s:=by
  rw[Pp.mpr λ_ _=>rfl,Y5]
  unfold dD
  refine PU λi=>?_
  unfold ups
  rw[OJ,OJ,OJ]
  rcases QJ i s.parts.length with h | h
  ·rw[Pt h,OE h]
   show some (bS s (s.parts.getD (0+(i:Int)).toNat r8))=_
   rw[show(0+(i:Int)).toNat=i by omega,OG,OE h];rfl
  ·rw[Pe (by simpa using h),Pe h];rfl
 refine ai (kM 3 (own:=["part"]) (fr:=["spots"]) (ix:=[1]) (ra:=ah) (rb:=iQ) (p:=λ_=>true) (f:=λi=>bS s (s.parts.getD i.toNat r8)) (bt (so:=ag vP) (N0:=Dd) rfl rfl (λx h=>a8 h) (by decide +kernel)) (dg M.range (cX M.len (aa 2 rfl)) ⟨by omega,by omega⟩)
  (λC s H ex=>aO 0) (λx=>⟨.inr rfl,.inl rfl,trivial⟩) (λC' s H ex c hc=>cO) (λC' s' H ex o ho _=>by
   obtain⟨i,hi⟩:=OR.mp ho
   obtain⟨il,rfl⟩:=ef hi
   have il:i<s.parts.length:=by omega
   rw[show(0:Int)+(i:Int)=(i:Int) by omega]
   exact aB CP hr (af (aa 1 rfl) (af (aa 0 rfl) aq)) ⟨s,i,s.parts.getD i r8,rfl,hG,by rw[OG,OE il];rfl,rfl⟩) ?_)
 rw[show((Uy.length:Int)).toNat=Uy.length by omega,hpls]
 have hpll:(dD s).length=s.parts.length:=by unfold dD;rw[OH]
 refine WS.freeze 3 rfl (aH (by omega)) ?_
 refine ai (bV 4 (r:=cx) (ys:=[]) (aR aT (QE _)) ?_)
 change WS _ _ [.im aj x,.im (bp C D) s,.im (ae aj) Uy,.im (ae iQ) (dD s),.mu cx [],.no,.no,.no] _ _
 refine bN (N1:=λΓ=>∃e5 e6 e7,Γ=[.im aj x,.im (bp C D) s,.im (ae aj) Uy,.im (ae iQ) (dD s),.mu cx (s.rows.map (c7 s)),e5,e6,e7]) (bX (λi Γ=>∃e5 e6 e7,Γ=[.im aj x,.im (bp C D) s,.im (ae aj) Uy,.im (ae iQ) (dD s),.mu cx ((s.rows.take i).map (c7 s)),e5,e6,e7]) (bG (se (C:=C) HD (aa 1 rfl))) (aO 5) ⟨_,_,_,rfl⟩ (λi z Γ hz hΓ=>?_) (λΓ hΓ=>?_)) ?_
 ·obtain⟨e5,e6,e7,rfl⟩:=hΓ
  rw[OJ] at hz
  obtain⟨r,Ww,rfl⟩:=QX.mp hz
  have rm:=OK Ww
  have il:=(OD.mp Ww).1
  obtain⟨q0,q1⟩:=hW.pt r rm
  have VC:(s.rows.take (i+1)).map (c7 s)=(s.rows.take i).map (c7 s)++[c7 s r]:=by rw[Pg,Ww,O3];rfl
  rw[VC]
  have tl:((s.rows.take i).map (c7 s)).length<=30:=by rw[OH,OY];omega
  generalize (s.rows.take i).map (c7 s)=rs at tl
  change WS _ _ [.im aj x,.im (bp C D) s,.im (ae aj) Uy,.im (ae iQ) (dD s),.mu cx rs,.im ax (h8 r),e6,e7] _ _
  refine ai (aU 6 (y:=bO s r.1) (aB CA hr (af (aa 1 rfl) (af (EV.iP (n:=r.1) (dq (aa 5 rfl) ev_int rfl)) aq)) ⟨s,r.1,rfl,U0,rfl⟩) ?_)
  have Wo:r.2.2.1="call"->r.2.2.2∈Uy:=λq=>by rw[← Yr];exact hW.cl r rm q
  refine ai (aU 7 (y:=if r.2.2.1="call" then(ju Uy r.2.2.2:Int) else -1) (EV.cast (j9 (aD cv (EV.sP (x:=r.2.2.1) (dq (aa 5 rfl) ev_int rfl)) aG) (λh=>yo (aa 2 rfl) (EV.sP (x:=r.2.2.2) (dq (aa 5 rfl) ev_int rfl)) (oZ (Wo (Uu h))).1 (oZ (Wo (Uu h))).2) (λ_=>ck hnc)) (by by_cases q:r.2.2.1="call"<;>simp[q])) ?_)
  have Vn:bU (dD s) (bO s r.1)=some ((dD s).getD (bO s r.1).toNat []):=aV (xs:=dD s) (i:=bO s r.1) [] q0 (by omega)
  refine ak (dR 4 (y:=c7 s r) (Fn (av (EV.pI (aa 6 rfl)) (av (EV.pI (jC hu (aY (aa 3 rfl) (aa 6 rfl) Vn) (EV.iP (n:=r.1) (dq (aa 5 rfl) ev_int rfl)) (qL (hW.f1 r rm)))) (av (EV.pI (jC hu (aY (aa 3 rfl) (aa 6 rfl) Vn) (EV.iP (n:=r.2.1) (dq (aa 5 rfl) ev_int rfl)) (qL (hW.f2 r rm)))) (av (EV.cast (EV.pI (aa 7 rfl)) (by unfold c7;rw[Yr])) aT))))) rfl rfl (QF tl (by decide)) ⟨.im ax (h8 r),ao (bO s r.1),ao (if r.2.2.1="call" then(ju Uy r.2.2.2:Int) else -1),rfl⟩)
 ·obtain⟨e5,e6,e7,rfl⟩:=hΓ
  refine⟨e5,e6,e7,?_⟩
  rw[OH,Pl]
 rintro _ ⟨e5,e6,e7,rfl⟩
 refine WS.freeze 4 rfl (aH (by rw[OH];omega)) ?_
 refine ak (aN (gI (af (aW.im (bD (own:=["known"]) (fr:=[]) (ix:=[]) (ra:=iQ) (rb:=ah) (p:=λ_=>true) (f:=λF=>(F.length:Int)) (bt (so:=ag vP) (N0:=Dd) rfl rfl (λx h=>a8 h) (by decide +kernel)) (bG (aa 3 rfl))
  (λC s H ex=>aO 0) (λx=>⟨.inr rfl,trivial⟩) (λC' s H ex c hc=>cO) (λC' s' H ex o ho _=>sO M.len (aa 0 rfl)))) (af (aa 4 rfl) aq))) ?_)
 unfold U8
 rw[Pp.mpr λ_ _=>rfl]
end
section
variable {F:Ol}{S:List aI}
def Ix (F:Ol):Prop:=∀(i:Nat) (y:Int×Int),F[i]?=some y->y.2=(i:Int)
theorem Ix.put (h:Ix F)(k:Int):Ix (eX F k):=by
 unfold eX
 split
 ·exact h
 ·intro i y hy
  rcases QJ i F.length with q | q
  ·rw[O6 q] at hy;exact h i y hy
  ·rw[O7 q] at hy
   have:i-F.length=0:=by
    have:=(OD.mp hy).1
    rw[O4] at this;omega
   rw[this] at hy
   have hy:(k,(F.length:Int))=y:=by simpa using hy
   rw[← hy]
   show(F.length:Int)=(i:Int)
   omega
theorem qg (F:Ol)(k:Int):F <+:eX F k:=by
 unfold eX
 split
 ·exact prefix_rfl
 ·exact List.prefix_append _ _
theorem wm (F:Ol)(k:Int):k∈(eX F k).map (·.1):=by
 unfold eX
 split
 ·rename_i h;exact jM.mp h
 ·rw[O3];exact OQ _ (by simp)
theorem Ep (p:gU)(F:Ol)(r:Rw):F <+:d6 p F r:=by
 unfold d6
 split
 ·exact(qg _ _).trans (qg _ _)
 ·exact prefix_rfl
theorem Ix.rows {p:gU}:∀{rs:List Rw} {F:Ol},Ix F->Ix (rs.foldl (d6 p) F)
 | [],F,h=>h
 | r::rs,F,h=>by
   rw[PX]
   refine Ix.rows ?_
   unfold d6
   split
   ·exact(h.put _).put _
   ·exact h
theorem lM {p:gU}:∀{rs:List Rw} {F:Ol},F <+:rs.foldl (d6 p) F
 | [],F=>prefix_rfl
 | r::rs,F=>by rw[PX];exact(Ep p F r).trans lM
theorem lH {p:gU}{r:Rw}(hi:lW p r=true):∀{rs:List Rw} {F:Ol},r∈rs->r.1∈(rs.foldl (d6 p) F).map (·.1)/\r.2.1∈(rs.foldl (d6 p) F).map (·.1)
 | x::rs,F,h=>by
   rw[PX]
   rcases OT.mp h with rfl | h
   ·have pre:=lM (p:=p) (rs:=rs) (F:=d6 p F r)
    have e:d6 p F r=eX (eX F r.1) r.2.1:=by unfold d6;rw[Ut hi]
    have sub:∀y,y∈(d6 p F r).map (·.1)->y∈(rs.foldl (d6 p) (d6 p F r)).map (·.1):=λy hy=>by
     obtain⟨z,hz,rfl⟩:=OO.mp hy
     exact OO.mpr ⟨z,pre.subset hz,rfl⟩
    refine⟨sub _ ?_,sub _ ?_⟩
    ·rw[e]
     obtain⟨z,hz,ez⟩:=OO.mp (wm F r.1)
     exact OO.mpr ⟨z,(qg _ _).subset hz,ez⟩
    ·rw[e];exact wm _ _
   ·exact lH hi h
theorem HQ (a b:Int):Ix [(a,0),(b,1)]:=by
 intro i y hy
 match i with
 | 0=>have:(a,(0:Int))=y:=by simpa using hy
      rw[← this];rfl
 | 1=>have:(b,(1:Int))=y:=by simpa using hy
      rw[← this];rfl
 | i+2=>simp at hy
theorem Ec {k v:Int}(h:bE F k=some v):(k,v)∈F:=by
 unfold bE at h
 obtain⟨y,hy,rfl⟩:=QX.mp h
 have h1:=List.mem_of_find?_eq_some hy
 have h2:=List.find?_some hy
 have h2:y.1=k:=Uu h2
 rw[← h2];exact h1
theorem kI {k v:Int}:∀{F:Ol},(F.map (·.1)).Nodup->(k,v)∈F->bE F k=some v
 | y::F,nd,h=>by
   obtain⟨n1,n2⟩:=Pa.mp (show(y.1::F.map (·.1)).Nodup from nd)
   unfold bE
   rcases OT.mp h with e | h
   ·rw[← e,List.find?_cons_of_pos (by simp)];rfl
   ·rw[List.find?_cons_of_neg (by
     simp only[decide_eq_true_eq]
     intro e
     exact n1 (by rw[e];exact OO.mpr ⟨_,h,rfl⟩))]
    exact kI n2 h
theorem Ix.val (h:Ix F){k:Int}(hk:k∈F.map (·.1)):∃i:Nat,bE F k=some (i:Int)/\i<F.length/\F[i]?=some (k,(i:Int)):=by
 have hs:=jM.mpr hk
 cases e:bE F k with
 | none=>rw[e] at hs;cases hs
 | some v=>
   have hm:=Ec e
   obtain⟨i,hi⟩:=OR.mp hm
   have:=h i _ hi
   have hv:v=(i:Int):=this
   rw[hv] at hi ⊢
   exact⟨i,rfl,(OD.mp hi).1,hi⟩
theorem xv {α:Type}{p:α->Bool}{l:List α}{j:Nat}(hj:j<l.length)(h:∀(i:Nat) (x:α),l[i]?=some x->(p x=true↔i<=j)):(l.filter p).length=j+1:=by
 conv=>lhs;rw[← Po (j+1) l]
 rw[PZ,Pp.mpr λx hx=>?_,Qo.mpr λx hx=>?_,Pf,OY]
 ·omega
 ·obtain⟨i,hi⟩:=OR.mp hx
  rw[QB] at hi
  intro q
  have:=(h _ _ hi).mp q
  omega
 ·obtain⟨i,hi⟩:=OR.mp hx
  have il:i<(l.take (j+1)).length:=(OD.mp hi).1
  rw[OY] at il
  rw[List.getElem?_take_of_lt (by omega)] at hi
  exact(h _ _ hi).mpr (by omega)
theorem qW {Ld:List Oe}{St:Oe}{r:Rw}(h:r∈gq S Ld St):∃(n:Nat) (s:aI) (l:Int),S[n]?=some s/\r.1=(n:Int)/\bz s.kind=true/\l∈Ld.getD n []/\r.2.1=St.getD l.toNat 0/\r.2.2.1∈(cu c9 s.kind).getD []/\r.2.2.2=s.name:=by
 unfold gq at h
 obtain⟨z,hz,hr⟩:=Qu.mp h
 unfold ee at hr
 obtain⟨y,hy,rfl⟩:=OO.mp hr
 obtain⟨i,hi⟩:=OR.mp hz
 obtain⟨e1,e2⟩:=eJ hi
 unfold jP at hy
 obtain⟨h1,h2⟩:=Qb (show(y.1,y.2)∈_ from hy)
 rw[e1,show((i:Nat):Int).toNat=i by omega] at h2
 refine⟨i,z.2,y.2,e2,e1,?_,h2,rfl,h1,rfl⟩
 unfold bz
 cases q:cu c9 z.2.kind with
 | none=>rw[q] at h1;cases h1
 | some v=>rfl
theorem rH {k:Str}(h:("call":Str)∈(cu c9 k).getD []):k="call":=by
 unfold cu at h
 split at h
 ·exact Ur h (by decide +kernel)
 unfold cu at h
 split at h
 ·rename_i e;exact e.symm
 unfold cu at h
 split at h
 ·exact Ur h (by decide +kernel)
 unfold cu at h
 split at h
 ·exact Ur h (by decide +kernel)
 ·unfold cu at h;cases h
theorem uQ {n:Int}{ls:Oe}(h:dM S F n ls)(hr:bz (aQ S n)=true):ls≠[]:=by
 cases h with
 | Xa h _ _ _=>rw[h] at hr;exact Ur hr (by decide +kernel)
 | _=>simp
theorem Bl {k:Str}(h:bz k=true):(cu c9 k).getD []≠[]:=by
 unfold bz cu at h
 unfold cu
 split at h
 ·rename_i e;rw[Ut e];decide
 rename_i e
 rw[Us e]
 unfold cu at h ⊢
 split at h
 ·rename_i e;rw[Ut e];decide
 rename_i e
 rw[Us e]
 unfold cu at h ⊢
 split at h
 ·rename_i e;rw[Ut e];decide
 rename_i e
 rw[Us e]
 unfold cu at h ⊢
 split at h
 ·rename_i e;rw[Ut e];decide
 ·cases h
theorem Iv {Ld:List Oe}{St:Oe}{n:Nat}{s:aI}(hs:S[n]?=some s)(hk:bz s.kind=true)(hl:Ld.getD n []≠[]):∃r∈gq S Ld St,r.1=(n:Int):=by
 have hw:=Bl hk
 cases e1:(cu c9 s.kind).getD [] with
 | nil=>exact Ur e1 hw
 | cons x xs=>cases e2:Ld.getD n [] with
   | nil=>exact Ur e2 hl
   | cons y ys=>
     refine⟨m9 St ((n:Int),s) (x,y),Qu.mpr ⟨((n:Int),s),kW hs,?_⟩,rfl⟩
     unfold ee
     refine OO.mpr ⟨(x,y),?_,rfl⟩
     unfold jP
     rw[show(((n:Int),s).1).toNat=n by show((n:Nat):Int).toNat=n;omega,e2]
     show(x,y)∈((cu c9 s.kind).getD []).zip (y::ys)
     rw[e1];exact OM
abbrev aM (Uy:Of)(Ls:List (List Th)):gf:=US (ar Uy Ls) (cS Uy Ls)
abbrev i4 (f:Nat)(z:Str×List Th):gU:=(z.1,(f:Int),((lst f z:Nat):Int))
end
section
variable {Uy:Of}{Ls:List (List Th)}
variable {z:Str×List Th}{j:Nat}
theorem uM (h:cy Uy Ls)(hz:(cf Uy Ls)[j]?=some z):(cI (ar Uy Ls))[j]?=some (i4 (fst Uy Ls j) z):=by
 have hn:=oi h
 have hlp:(cI (ar Uy Ls)).length=Uy.length:=by rw[← congrArg List.length hn,OH]
 obtain⟨_,_,_,Y6,_⟩:=dN h hz
 have jl:=(OD.mp Y6).1
 have jp:j<(cI (ar Uy Ls)).length:=by omega
 rw[OE jp]
 obtain⟨j',z',w',VX,Vv,e⟩:=jU h (O0 jp)
 have h1:Uy[j]?=some ((cI (ar Uy Ls))[j]).1:=by
  conv=>lhs;rw[← hn]
  rw[OJ,OE jp];rfl
 obtain⟨_,_,_,Yb,_⟩:=dN h VX
 rw[e] at h1
 have h1:Uy[j]?=some z'.1:=h1
 have jl':=(OD.mp Yb).1
 have ej:j=j':=by
  rw[OE jl] at h1
  rw[OE jl'] at Yb
  exact(P0 h.nd).mp ((Option.some.inj h1).trans (Option.some.inj Yb).symm)
 subst ej
 rw[hz] at VX
 cases Option.some.inj VX
 rw[e]
theorem lZ (h:cy Uy Ls):(cf Uy Ls).length=Ls.length:=by rw[Pw,h.l];omega
theorem iZ (h:cy Uy Ls):(cI (ar Uy Ls)).length=Ls.length:=by
 rw[← h.l,← congrArg List.length (oi h),OH]
theorem fO (h:cy Uy Ls){n:Nat}(hz:(cf Uy Ls)[j]?=some z)(h1:fst Uy Ls j<=n)(h2:n<=lst (fst Uy Ls j) z):bO (aM Uy Ls) (n:Int)=(j:Int):=by
 have jl:=(OD.mp hz).1
 have zl:=lZ h
 have pl:=iZ h
 unfold bO
 show(((cI (ar Uy Ls)).filter λp=>decide (p.2.1<=(n:Int))).length:Int)-1=_
 rw[xv (j:=j) (by omega) λi x hx=>?_]
 ·push_cast;omega
 ·have il:=(OD.mp hx).1
  have Yp:(cf Uy Ls)[i]?=some ((cf Uy Ls)[i]'(by omega)):=OE (by omega)
  rw[uM h Yp] at hx
  have hx:=Option.some.inj hx
  rw[← hx]
  show decide (((fst Uy Ls i:Nat):Int)<=(n:Int))=true↔i<=j
  rw[decide_eq_true_eq]
  constructor
  ·intro q
   refine Classical.byContradiction λc=>?_
   have:=mN (cf Uy Ls) j i z hz (by omega)
   have h2:n<=fst Uy Ls j+1+UC z.2:=h2
   have:fst Uy Ls j+2+UC z.2<=fst Uy Ls i:=this
   omega
  ·intro q
   rcases QJ i j with c | c
   ·have:=mN (cf Uy Ls) i j _ Yp c
    have:fst Uy Ls i+2+UC ((cf Uy Ls)[i]'(by omega)).2<=fst Uy Ls j:=this
    omega
   ·have:i=j:=by omega
    subst this;omega
structure J4 (S:List aI) (f l:Nat) (F:Ol):Prop where
 ix:Ix F
 nd:(F.map (·.1)).Nodup
 le:F.length<=16
 ge:2<=F.length
 kp:∀k∈F.map (·.1),(f:Int)<k/\k<=(l:Int)/\(k=(l:Int)∨bz (aQ S k)=true)
 en:F[1]?=some ((l:Int),1)
 bg:∃b,F[0]?=some (b,0)
theorem HL {S:List aI}{f:Nat}{v:Int}(h:v∈nr S f z):Hi S f (lst f z) v:=by
 unfold nr at h
 rcases OS.mp h with h | h
 ·obtain⟨i,hi,rfl⟩:=OO.mp h
  obtain⟨h1,h2⟩:=O2.mp hi
  have h1:=Pm.mp h1
  refine⟨by omega,?_,.inr h2⟩
  show((f+1+i:Nat):Int)<=((f+1+UC z.2:Nat):Int)
  omega
 ·rw[OF.mp h]
  exact⟨by show(f:Int)<((f+1+UC z.2:Nat):Int);omega,OB _,.inl rfl⟩
theorem G9 (h:cy Uy Ls){w:Int}(hz:(cf Uy Ls)[j]?=some z)(hb:eG (ar Uy Ls) (cS Uy Ls) Uy (fst Uy Ls j) w z){r:Rw}(hr:r∈(aM Uy Ls).rows)(hi:lW (i4 (fst Uy Ls j) z) r=true):r.1∈nr (ar Uy Ls) (fst Uy Ls j) z/\r.2.1∈nr (ar Uy Ls) (fst Uy Ls j) z:=by
 obtain⟨VF,Wz,Xg,_⟩:=dN h hz
 have Vw:=λn h1 h2=>hb.xo gX VF _ n rfl h1 h2
 obtain⟨n,s,l,h1,h2,h3,h4,h5⟩:=lF hr
 unfold lW at hi
 rw[Oq] at hi
 have i1:((fst Uy Ls j:Nat):Int)<r.1:=Uu hi.1
 have i2:r.1<((lst (fst Uy Ls j) z:Nat):Int):=Uu hi.2
 rw[h2] at i1 i2
 have Vt:aQ (ar Uy Ls) (n:Int)=s.kind:=(eT h1).1
 have st:=hb.all gX VF n (by omega) (by omega)
 have rg:=st.rg l h4
 refine⟨?_,?_⟩
 ·rw[h2]
  exact j5 ⟨i1,by omega,.inr (by rw[Vt];exact h3)⟩
 ·rw[h5]
  exact j5 (Vw l.toNat (by omega) (by omega))
theorem fK (h:cy Uy Ls)(hz:(cf Uy Ls)[j]?=some z):J4 (ar Uy Ls) (fst Uy Ls j) (lst (fst Uy Ls j) z) (bS (aM Uy Ls) (i4 (fst Uy Ls j) z)):=by
 obtain⟨w,hb⟩:=fD (Uy:=Uy) (Ls:=Ls) hz
 obtain⟨VF,Wz,Xg,_⟩:=dN h hz
 have fl:fst Uy Ls j<lst (fst Uy Ls j) z:=by show _<fst Uy Ls j+1+UC z.2;omega
 have Vw:=λn h1 h2=>hb.xo gX VF _ n rfl h1 h2
 have UJ:(cF (ar Uy Ls) (cS Uy Ls)).getD (fst Uy Ls j) 0≠((lst (fst Uy Ls j) z:Nat):Int):=by
  rw[hb.first VF Wz]
  have:=(lC hb VF Wz).2
  show((fst Uy Ls j+1:Nat):Int)≠((fst Uy Ls j+1+UC z.2:Nat):Int)
  omega
 have e0:(aM Uy Ls).St.getD ((fst Uy Ls j:Nat):Int).toNat 0=(cF (ar Uy Ls) (cS Uy Ls)).getD (fst Uy Ls j) 0:=by rw[show((fst Uy Ls j:Nat):Int).toNat=fst Uy Ls j by omega];rfl
 unfold bS
 dsimp only
 rw[e0]
 generalize hb0:(cF (ar Uy Ls) (cS Uy Ls)).getD (fst Uy Ls j) 0=b at UJ
 have ks:iB (nr (ar Uy Ls) (fst Uy Ls j) z) ((aM Uy Ls).rows.foldl (d6 (i4 (fst Uy Ls j) z)) [(b,0),(((lst (fst Uy Ls j) z:Nat):Int),1)]):=by
  refine iB.rows ⟨?_,λx hx=>?_⟩ λr hr hi=>G9 h hz hb hr hi
  ·exact Pa.mpr ⟨λq=>UJ (OF.mp q),Pa.mpr ⟨by simp,Ql⟩⟩
  ·have hx:x=b∨x=((lst (fst Uy Ls j) z:Nat):Int):=by simpa using hx
   rcases hx with rfl | rfl
   ·rw[← hb0];exact j5 (Vw _ (QC _) (by omega))
   ·exact j5 ⟨by omega,OB _,.inl rfl⟩
 have pre:=lM (p:=(i4 (fst Uy Ls j) z)) (rs:=(aM Uy Ls).rows) (F:=[(b,0),(((lst (fst Uy Ls j) z:Nat):Int),1)])
 obtain⟨t,ht⟩:=pre
 refine⟨Ix.rows (HQ _ _),ks.1,QD ks.len (yV hb Xg),?_,λk hk=>HL (ks.2 k hk),?_,⟨b,?_⟩⟩
 ·rw[← ht];simp
 ·rw[← ht];rfl
 ·rw[← ht];rfl
theorem n9 (h:cy Uy Ls){r:Rw}(hr:r∈(aM Uy Ls).rows):∃(j:Nat) (z:Str×List Th),(cf Uy Ls)[j]?=some z/\bO (aM Uy Ls) r.1=(j:Int)/\lW (i4 (fst Uy Ls j) z) r=true:=by
 obtain⟨n,s,l,h1,h2,h3,h4,h5⟩:=lF hr
 have hn:=(OD.mp h1).1
 obtain⟨j,z,w,hz,hb,q1,q2,q3⟩:=iu h n hn
 have Vt:aQ (ar Uy Ls) (n:Int)=s.kind:=(eT h1).1
 refine⟨j,z,hz,by rw[h2];exact fO h hz q1 q2,?_⟩
 have n1:n≠fst Uy Ls j:=λe=>by
  rw[e,hb.k] at Vt
  rw[← Vt] at h3
  exact Ur h3 (by decide +kernel)
 have n2:n≠lst (fst Uy Ls j) z:=λe=>by
  rw[e,(eT hb.e).1] at Vt
  rw[← Vt] at h3
  exact Ur h3 (show¬bz "end"=true by decide +kernel)
 unfold lW
 rw[Oq,h2]
 exact⟨Uw (show((fst Uy Ls j:Nat):Int)<(n:Int) by omega),Uw (show(n:Int)<((lst (fst Uy Ls j) z:Nat):Int) by omega)⟩
theorem gg (h:cy Uy Ls)(hz:(cf Uy Ls)[j]?=some z):(dD (aM Uy Ls))[j]?=some (bS (aM Uy Ls) (i4 (fst Uy Ls j) z)):=by
 unfold dD
 rw[OJ]
 show((cI (ar Uy Ls))[j]?).map _=_
 rw[uM h hz];rfl
theorem vm (h:cy Uy Ls):(dD (aM Uy Ls)).length=Ls.length:=by
 unfold dD
 rw[OH]
 exact iZ h
theorem Dq (h:cy Uy Ls):A7 (aM Uy Ls):=by
 have zl:=lZ h
 have pl:=iZ h
 have key:∀r∈(aM Uy Ls).rows,r.1∈((dD (aM Uy Ls)).getD (bO (aM Uy Ls) r.1).toNat []).map (·.1)/\r.2.1∈((dD (aM Uy Ls)).getD (bO (aM Uy Ls) r.1).toNat []).map (·.1):=λr hr=>by
  obtain⟨j,z,hz,e,hi⟩:=n9 h hr
  rw[e,show((j:Nat):Int).toNat=j by omega,OG,gg h hz]
  exact lH hi hr
 refine⟨λr hr=>?_,λr hr=>jM.mpr (key r hr).1,λr hr=>jM.mpr (key r hr).2,λr hr hc=>?_⟩
 ·obtain⟨j,z,hz,e,_⟩:=n9 h hr
  have jl:=(OD.mp hz).1
  rw[e]
  exact⟨by omega,by show(j:Int)<((cI (ar Uy Ls)).length:Int);omega⟩
 ·obtain⟨n,s,l,h1,h2,h3,h4,h5,h6,h7⟩:=qW hr
  rw[hc] at h6
  have hk:=rH h6
  obtain⟨Ld,WB,hG⟩:=Ej Uy Ls h
  obtain⟨m,u,_,hm,hu,hun⟩:=hG.ca n s h1 hk
  rw[h7,← hun]
  show u.name∈(cI (ar Uy Ls)).map (·.1)
  rw[uB]
  unfold Vm
  exact OO.mpr ⟨u,O2.mpr ⟨OK hm,Uw hu⟩,rfl⟩
theorem xI (h:cy Uy Ls)(hG:Good (aM Uy Ls)):fX (U8 (aM Uy Ls)):=by
 have zl:=lZ h
 have pl:=iZ h
 have wb:=Dq h
 have sl:=vm h
 have l1:=h.l1
 have l4:=h.l4
 have vl:(U8 (aM Uy Ls)).1.length=Ls.length:=by unfold U8;rw[OH];exact sl
 have YC:∀{j:Nat} {z:Str×List Th},(cf Uy Ls)[j]?=some z->(U8 (aM Uy Ls)).1.getD j 0=((bS (aM Uy Ls) (i4 (fst Uy Ls j) z)).length:Int):=λ{j z} hz=>by
  unfold U8
  rw[OG,OJ,gg h hz];rfl
 refine⟨by omega,by omega,?_,λn hn=>?_,λr hr=>?_,λp k hp hk hk1=>?_⟩
 ·unfold U8
  rw[OH];exact hG.rl
 ·unfold U8 at hn
  obtain⟨F,hF,rfl⟩:=OO.mp hn
  obtain⟨j,hj⟩:=OR.mp hF
  have jl:=(OD.mp hj).1
  have hz:(cf Uy Ls)[j]?=some ((cf Uy Ls)[j]'(by omega)):=OE (by omega)
  have po:=fK h hz
  rw[gg h hz] at hj
  rw[← Option.some.inj hj]
  have:=po.le
  have:=po.ge
  omega
 ·unfold U8 at hr
  obtain⟨q,hq,rfl⟩:=OO.mp hr
  obtain⟨j,z,hz,e,hi⟩:=n9 h hq
  have jl:=(OD.mp hz).1
  have po:=fK h hz
  obtain⟨k1,k2⟩:=lH hi hq (F:=[((aM Uy Ls).St.getD ((fst Uy Ls j:Nat):Int).toNat 0,0),(((lst (fst Uy Ls j) z:Nat):Int),1)])
  obtain⟨i1,e1,l1',_⟩:=po.ix.val k1
  obtain⟨i2,e2,l2',_⟩:=po.ix.val k2
  have eF:(dD (aM Uy Ls)).getD (bO (aM Uy Ls) q.1).toNat []=bS (aM Uy Ls) (i4 (fst Uy Ls j) z):=by
   rw[e,show((j:Nat):Int).toNat=j by omega,OG,gg h hz];rfl
  have w1:(c7 (aM Uy Ls) q).1=(j:Int):=e
  have w2:(c7 (aM Uy Ls) q).2.1=(i1:Int):=by unfold c7;dsimp only;rw[eF,e1];rfl
  have w3:(c7 (aM Uy Ls) q).2.2.1=(i2:Int):=by unfold c7;dsimp only;rw[eF,e2];rfl
  rw[w1,w2,w3,vl,show((j:Nat):Int).toNat=j by omega,YC hz]
  refine⟨⟨by omega,by omega⟩,⟨by omega,by omega⟩,⟨by omega,by omega⟩,?_⟩
  show(if q.2.2.1="call" then _ else _)= -1∨_
  unfold c7
  dsimp only
  by_cases c:q.2.2.1="call"
  ·rw[Ut c]
   have:=(OD.mp (oZ (wb.cl q hq c)).1).1
   have U0:((aM Uy Ls).parts.map (·.1)).length=Ls.length:=by rw[OH];exact pl
   exact .inr ⟨by omega,by omega⟩
  ·rw[Us c];exact .inl rfl
 ·have hz:(cf Uy Ls)[p]?=some ((cf Uy Ls)[p]'(by omega)):=OE (by omega)
  rw[YC hz] at hk
  have po:=fK h hz
  generalize hzz:((cf Uy Ls)[p]'(by omega))=z at hz po hk
  generalize hF:bS (aM Uy Ls) (i4 (fst Uy Ls p) z)=F at po hk
  have kl:k<F.length:=by omega
  have Zv:F[k]?=some F[k]:=OE kl
  have hv:=po.ix k _ Zv
  have VT:F[k]∈F:=O0 kl
  obtain⟨a1,a2,a3⟩:=po.kp _ (OO.mpr ⟨_,VT,rfl⟩)
  have UJ:F[k].1≠((lst (fst Uy Ls p) z:Nat):Int):=λc=>by
   have h1:(F.map (·.1))[k]?=some F[k].1:=by rw[OJ,Zv];rfl
   have h2:(F.map (·.1))[1]?=some ((lst (fst Uy Ls p) z:Nat):Int):=by rw[OJ,po.en];rfl
   rw[c] at h1
   have k1:=(OD.mp h1)
   have k2:=(OD.mp h2)
   obtain⟨x1,y1⟩:=k1
   obtain⟨x2,y2⟩:=k2
   exact hk1 ((P0 po.nd).mp (y1.trans y2.symm))
  have VS:=a3.resolve_left UJ
  obtain⟨w,hb⟩:=fD (Uy:=Uy) (Ls:=Ls) hz
  obtain⟨VF,Wz,Xg,_⟩:=dN h hz
  have ll:lst (fst Uy Ls p) z<(ar Uy Ls).length:=(OD.mp hb.e).1
  obtain⟨n,hn⟩:∃n:Nat,F[k].1=(n:Int):=⟨F[k].1.toNat,by omega⟩
  rw[hn] at a1 a2 VS UJ
  have nl:n<(ar Uy Ls).length:=by omega
  have hs:(ar Uy Ls)[n]?=some (ar Uy Ls)[n]:=OE nl
  have Vt:aQ (ar Uy Ls) (n:Int)=((ar Uy Ls)[n]).kind:=(eT hs).1
  have st:=hb.all gX VF n (by omega) (by omega)
  obtain⟨r,hr,er⟩:=Iv (St:=(aM Uy Ls).St) hs (by rw[← Vt];exact VS) (uQ st.ld VS)
  have hr:r∈(aM Uy Ls).rows:=hr
  obtain⟨i,hi⟩:=OR.mp hr
  refine⟨i,c7 (aM Uy Ls) r,by unfold U8;rw[OJ,hi];rfl,?_,?_⟩
  ·show bO _ r.1=_
   rw[er]
   exact fO h hz (by omega) (by omega)
  ·unfold c7
   dsimp only
   rw[er,fO h hz (by omega) (by omega),show((p:Nat):Int).toNat=p by omega,OG,gg h hz,hF]
   show(bE F (n:Int)).getD 0=_
   rw[kI (v:=(k:Int)) po.nd (by
    have:F[k]=((n:Int),(k:Int)):=Q1 hn hv
    rw[← this];exact VT)]
   rfl
end
section
variable {v:de}{ans:Oe}{st:dO}
abbrev Wk:=Oe×Str×dO
abbrev mn:=Oe×Nat×dO
def Jj (x:Wk):PV:=.tup [.lst (x.1.map PV.int),.str x.2.1,.lst (x.2.2.map iD)]
def fw (st:dO):Int×Int:=st.getLastD (0,0)
def d0 (v:de)(st:dO):Oe:=mM v (fw st).1 (fw st).2
def nE (v:de)(ans:Oe)(u:Nat)(st:dO):Option (Int×Nat):=
 if 1<(d0 v st).length then(ans[u]?).map λa=>((d0 v st).getD (1-a).toNat 0,u+1) else some ((d0 v st).getD 0 0,u)
def lU (v:de)(ans:Oe)(s:mn):Option mn:=(nE v ans s.2.1 s.2.2).map λc=>(s.1++[c.1],c.2,hU s.2.2 (rowOf v c.1))
def fB (v:de)(ans:Oe):Nat->mn->Wk
 | 0,s=>if s.2.2=[] then(s.1,"ended",[]) else(s.1,"bound",s.2.2)
 | n+1,s=>if s.2.2=[] then(s.1,"ended",[]) else
   match lU v ans s with
   | none=>(s.1,"wanting",s.2.2)
   | some s'=>fB v ans n s'
theorem oR:∀{n:Nat} {s:mn},s.2.2=[]->fB v ans n s=(s.1,("ended":Str),[])
 | 0,s,h=>by rw[fB,Ut h]
 | n+1,s,h=>by rw[fB,Ut h]
theorem vB {s:mn}(h:s.2.2≠[]):fB v ans 0 s=(s.1,("bound":Str),s.2.2):=by rw[fB,Us h]
theorem pU {n:Nat}{s:mn}(h:s.2.2≠[])(hn:lU v ans s=none):fB v ans (n+1) s=(s.1,("wanting":Str),s.2.2):=by rw[fB,Us h,hn]
theorem pT {n:Nat}{s s':mn}(h:s.2.2≠[])(hn:lU v ans s=some s'):fB v ans (n+1) s=fB v ans n s':=by rw[fB,Us h,hn]
theorem Gk {s s':mn}(h:lU v ans s=some s'):∃c,s'.1=s.1++[c]:=by
 unfold lU at h
 obtain⟨c,_,rfl⟩:=QX.mp h
 exact⟨c.1,rfl⟩
theorem sM {v:de}{ans:Oe}:∀(n:Nat) (s:mn),∃ex,(fB v ans n s).1=s.1++ex/\ex.length<=n
 | 0,s=>⟨[],by rw[fB];split<;>simp,QC _⟩
 | n+1,s=>by
   by_cases h:s.2.2=[]
   ·exact⟨[],by rw[oR h];simp,QE _⟩
   ·cases q:lU v ans s with
    | none=>exact⟨[],by rw[pU h q];simp,QE _⟩
    | some s'=>
      obtain⟨ex,h1,h2⟩:=sM (v:=v) (ans:=ans) n s'
      obtain⟨c,hc⟩:=Gk q
      refine⟨c::ex,?_,by rw[OP];omega⟩
      rw[pT h q,h1,hc,OZ];rfl
structure mj (v:de) (st:dO):Prop where
 el:∀t∈st,(0<=t.1/\t.1<(v.1.length:Int))/\0<=t.2/\t.2<v.1.getD t.1.toNat 0
 tp:∀h:st≠[],(st.getLast h).2≠1
theorem fX.two (hv:fX v){p:Int}(h0:0<=p)(h1:p<(v.1.length:Int)):2<=v.1.getD p.toNat 0:=by
 rw[OG,OE (by omega)]
 exact(hv.sz _ (O0 _)).1
theorem rK (hv:fX v):mj v [(0,0)]:=by
 have:=hv.p1
 have h2:=hv.two (p:=0) (OB _) (by omega)
 refine⟨λt ht=>?_,λh=>by show(0:Int)≠1;decide⟩
 rw[OF.mp ht]
 exact⟨⟨OB _,by show(0:Int)<_;omega⟩,OB _,by show(0:Int)<v.1.getD (0:Int).toNat 0;omega⟩
theorem B6 (hv:fX v)(hs:mj v st)(UJ:st≠[]){r:Row}(hr:r∈v.2):mj v (hU st r)/\(hU st r).length<=st.length+1:=by
 obtain⟨r1,r2,r3,r4⟩:=hv.rw r hr
 have base:∀t∈st.set (st.length-1) (r.1,r.2.2.1),(0<=t.1/\t.1<(v.1.length:Int))/\0<=t.2/\t.2<v.1.getD t.1.toNat 0:=λt ht=>by
  rcases List.mem_or_eq_of_mem_set ht with h | h
  ·exact hs.el t h
  ·rw[h];exact⟨r1,r3⟩
 unfold hU
 generalize hst2:(if r.2.2.2= -1 then st.set (st.length-1) (r.1,r.2.2.1) else st.set (st.length-1) (r.1,r.2.2.1)++[(r.2.2.2,0)])=s2
 have h2:(∀t∈s2,(0<=t.1/\t.1<(v.1.length:Int))/\0<=t.2/\t.2<v.1.getD t.1.toNat 0)/\s2.length<=st.length+1:=by
  rw[← hst2]
  by_cases c:r.2.2.2= -1
  ·rw[Ut c];exact⟨base,by rw[Pj];omega⟩
  ·rw[Us c]
   refine⟨λt ht=>?_,by rw[OI,Pj];exact QC _⟩
   rcases OS.mp ht with h | h
   ·exact base t h
   ·rw[OF.mp h]
    have r4:=r4.resolve_left c
    have:=hv.two r4.1 r4.2
    exact⟨r4,OB _,by show(0:Int)<v.1.getD r.2.2.2.toNat 0;omega⟩
 obtain⟨s',e,_,h3⟩:=sr s2.length s2 rfl
 refine⟨⟨λt ht=>h2.1 t (by rw[e];exact OU _ ht),h3⟩,?_⟩
 have:s2.length=(trim s2).length+s'.length:=by
  have:=congrArg List.length e
  rwa [OI] at this
 omega
theorem lN (h:st≠[]):fw st=st.getLast h:=by unfold fw;cases st with
 | nil=>exact Ur rfl h
 | cons a b=>rfl
theorem vC {c:Int}(h:c∈d0 v st):0<=c/\c<(v.2.length:Int)/\rowOf v c∈v.2:=by
 unfold d0 mM at h
 obtain⟨h1,_⟩:=O2.mp h
 unfold ups at h1
 obtain⟨i,hi,rfl⟩:=OO.mp h1
 have hi:=Pm.mp hi
 refine⟨by omega,by omega,?_⟩
 unfold rowOf
 rw[show((0:Int)+(i:Int)).toNat=i by omega,OG,OE hi]
 exact O0 hi
theorem yA (hv:fX v)(hs:mj v st)(UJ:st≠[]):d0 v st≠[]:=by
 have h1:=hs.el _ (List.getLast_mem UJ)
 have h2:=hs.tp UJ
 have et:=lN UJ
 rw[← et] at h1 h2
 obtain⟨n,r,hn,e1,e2⟩:=hv.fr (fw st).1.toNat (fw st).2.toNat (by omega) (by have:=h1.2.2;omega) (by omega)
 intro c
 have:(n:Int)∈d0 v st:=by
  unfold d0 mM
  have nl:=(OD.mp hn).1
  refine O2.mpr ⟨?_,?_⟩
  ·unfold ups;exact OO.mpr ⟨n,Pm.mpr nl,by omega⟩
  ·have:rowOf v (n:Int)=r:=by unfold rowOf;rw[show((n:Nat):Int).toNat=n by omega,OG,hn];rfl
   rw[this,e1,e2]
   refine Uw (Q1 ?_ ?_)
   ·show(((fw st).1.toNat:Nat):Int)=(fw st).1;omega
   ·show(((fw st).2.toNat:Nat):Int)=(fw st).2;omega
 rw[c] at this;cases this
theorem z9 (h:lq ans=true){i:Nat}{a:Int}(ha:ans[i]?=some a):0<=a/\a<=1:=by
 unfold lq at h
 rw[Pq] at h
 have:=h (decide (0<=a)&&decide (a<=1)) (OO.mpr ⟨a,O2.mpr ⟨OK ha,rfl⟩,rfl⟩)
 have this:(decide (0<=a)&&decide (a<=1))=true:=this
 rw[Oq] at this
 exact⟨Uu this.1,Uu this.2⟩
theorem wA (hv:fX v)(ha:lq ans=true)(hs:mj v st)(UJ:st≠[]){u:Nat}{c:Int×Nat}(h:nE v ans u st=some c):c.1∈d0 v st:=by
 have fne:=yA hv hs UJ
 have fl:=P8.mpr fne
 unfold nE at h
 split at h
 ·obtain⟨a,h1,rfl⟩:=QX.mp h
  have:=z9 ha h1
  dsimp only
  rw[OG,OE (by omega)]
  exact O0 _
 ·cases Option.some.inj h
  dsimp only
  rw[OG,OE (by omega)]
  exact O0 _
end
section
abbrev Dv:Stmt:=top zM
abbrev M7:Of:=["text","answers","bound","web","leaving","stack","rows","used","found","chosen"]
theorem HB:ay M7 ["text","answers","bound"] (ag Dv):=UY
abbrev W3:mn:=([],0,[(0,0)])
def Hr:bQ:=λK ps T=>∃(x:Str) (ans:Oe) (bound:Int) (S:List aI) (Ld:List Oe),ps=[⟨aj,x⟩,⟨ae ah,ans⟩,⟨ah,bound⟩]/\qA x S/\nY S Ld/\Good (US S Ld)/\A7 (US S Ld)/\fX (U8 (US S Ld))/\lq ans=true/\0<=bound/\(fB (U8 (US S Ld)) ans bound.toNat W3).1.length<=100000/\T=bL K ax (· =Jj (fB (U8 (US S Ld)) ans bound.toNat W3))
theorem KZ (M:cb K mg)(M4:hZ mg)(CW:aA P w K mg base "web_of" 7 (aE IF K))(CN:aA P w K mg base "need_answers" 3 (aE Mo K))(CR:aA P w K mg base "rows_leaving" 1 (aE (MN true) K))(CB:aA P w K mg base "at_begin" 1 (aE Cv K))(CG:aA P w K mg base "go" 2 (eB dk JS K))(F:dH K "walked" "walked" Dv f fd)(hm:mg "walked"=some (.ref f))(hb:Binds K fd ["text","answers","bound"] []):aA P w K mg base "walked" 8 (aE Hr K):=by
 have nd:=HB.nd
 have VR:OX [("part":Str),"web"]:=by decide
 have CN:=CN.mono (show 3<=7 by decide)
 have CR:=CR.mono (show 1<=7 by decide)
 have CB:=CB.mono (show 1<=7 by decide)
 have CG:=CG.mono (show 2<=7 by decide)
 obtain⟨t1,Zw⟩:=M4.first
 obtain⟨t2,hY⟩:=M4.yes
 obtain⟨t3,hEN⟩:=M4.ended
 obtain⟨t4,hBO⟩:=M4.bound
 obtain⟨t5,hWA⟩:=M4.Xc
 refine fR (k:=7) F HB hm hb (λqs T ⟨_,_,_,_,_,e,_⟩=>by rw[e];rfl) (λUE A outer st H E qs T hr hS=>?_)
 obtain⟨x,ans,bound,S,Ld,rfl,hx,hk,hG,hWb,hv,ha,hb0,hlen,rfl⟩:=hS
 change WS _ _ [.im aj x,bP ans,ao bound,.no,.no,.no,.no,.no,.no,.no] _ _
 refine ai (aU 3 (y:=U8 (US S Ld)) (aB CW hr (af (aa 0 rfl) aq) ⟨x,S,Ld,rfl,hx,hk,hG,hWb,rfl⟩) ?_)
 generalize U8 (US S Ld)=v at hv hlen
 have pl:=hv.pl
 change WS _ _ [.im aj x,bP ans,ao bound,.im c8 v,.no,.no,.no,.no,.no,.no] _ _
 refine ai (qz CN hr (af (aa 1 rfl) (af (aa 2 rfl) aq)) ⟨ans,bound,rfl,ha,hb0,rfl⟩ ?_)
 refine ai (kM 4 (own:=["part"]) (fr:=["web"]) (ix:=[3]) (ra:=ah) (rb:=ae (ae ah)) (p:=λ_=>true) (f:=jc v) (bt (so:=ag Dv) (N0:=M7) rfl rfl (λx h=>a8 h) (by decide +kernel)) (dg M.range (cX M.len (jN (aa 3 rfl))) ⟨by omega,by omega⟩)
  (λC s H ex=>aO 0) (λx=>⟨.inr rfl,.inl rfl,trivial⟩) (λC' s H ex c hc=>cO) (λC' s' H ex o ho _=>by
   obtain⟨i,hi⟩:=OR.mp ho
   obtain⟨il,rfl⟩:=ef hi
   exact aW.im (ir CR hr (af (aa 1 rfl) (af (aa 0 rfl) aq)) ⟨v,_,rfl,hv,by omega,by omega,rfl⟩)) ?_)
 rw[Pp.mpr λ_ _=>rfl,show((v.1.length:Int)).toNat=v.1.length by omega]
 refine WS.freeze 4 rfl (aH (by rw[OH,a9];omega)) ?_
 generalize hlv:(ups 0 v.1.length).map (jc v)=lv
 refine ai (bV 5 (r:=dk) (aR (av (aB CB hr (af (ck Zw) aq) ⟨_,rfl,rfl⟩) aT) (by show 1<=Ra;decide)) ?_)
 refine ai (bV 6 (r:=ah) (ys:=[]) (aR aT (QE _)) ?_)
 refine ai (aU 7 (y:=((0:Nat):Int)) ev_int ?_)
 change WS _ _ [.im aj x,bP ans,ao bound,.im c8 v,.im (ae (ae (ae ah))) lv,.mu dk [(0,0)],.mu ah [],ao ((0:Nat):Int),.no,.no] _ _
 generalize hR:fB v ans bound.toNat W3=R at hlen
 refine bN (N1:=λΓ=>∃e7 e8 e9,Γ=[.im aj x,bP ans,ao bound,.im c8 v,.im (ae (ae (ae ah))) lv,.mu dk [],.mu ah R.1,e7,e8,e9]/\R=(R.1,("ended":Str),[]))
  (jr (λm Γ=>∃(rows:Oe) (u:Nat) (st:dO) (e8 e9:Ent),Γ=[.im aj x,bP ans,ao bound,.im c8 v,.im (ae (ae (ae ah))) lv,.mu dk st,.mu ah rows,ao (u:Int),e8,e9]/\fB v ans m (rows,u,st)=R/\(rows.length:Int)+(m:Int)=bound/\mj v st/\st.length<=rows.length+1/\u<=ans.length) (m0:=bound.toNat) ⟨[],0,[(0,0)],.no,.no,rfl,hR,by rw[O8];omega,rK hv,QC _,QE _⟩ ?_) ?_
 ·rintro m Γ ⟨rows,u,st,e8,e9,rfl,hw,hm,hs,hl,hu⟩
  have rl:rows.length<=100000:=by
   obtain⟨ex,h1,_⟩:=sM (v:=v) (ans:=ans) m (rows,u,st)
   rw[hw] at h1
   rw[h1,OI] at hlen
   have:rows.length+ex.length<=100000:=hlen
   omega
  refine⟨!st.isEmpty,_,jx 5 rfl,λh=>?_,λh=>?_⟩
  ·have UJ:st≠[]:=λe=>by rw[e] at h;cases h
   have lz:=lD UJ
   have et:=lN UJ
   have te:=hs.el _ (List.getLast_mem UJ)
   rw[← et] at te lz
   have fne:=yA hv hs UJ
   have fl:=P8.mpr fne
   refine ai (ba (aD eo (qC 6 M.len rfl) (aa 2 rfl)) (λh=>?_) (λh=>aL ?_))
   ·have h:(rows.length:Int)=bound:=Uu h
    have m0:m=0:=by omega
    subst m0
    rw[vB UJ] at hw
    refine WS.freeze 5 rfl (aH (by omega)) (WS.freeze 6 rfl (aH (by omega)) ?_)
    refine ak (aN (ip (av (EV.Iz (aa 6 rfl)) (av (EV.pS (nL hBO)) (av (EV.CQ (aa 5 rfl)) aT))) (by show 3<=Ra;decide)) ?_)
    rw[← hw];rfl
   have h:¬(rows.length:Int)=bound:=Uv h
   obtain⟨m',rfl⟩:∃m',m=m'+1:=⟨m-1,by omega⟩
   have h1:bU lv (fw st).1=some (jc v (fw st).1):=by
    rw[← hlv,aV (xs:=(ups 0 v.1.length).map (jc v)) [] te.1.1 (by rw[OH,a9];exact te.1.2),OG,OJ,qB (by omega),show(((fw st).1.toNat:Nat):Int)=(fw st).1 by omega];rfl
   have h2:bU (jc v (fw st).1) (fw st).2=some (d0 v st):=by
    have:=BR (v:=v) te.2.1 te.2.2
    have hl:=(OD.mp this).1
    rw[aV (xs:=jc v (fw st).1) [] te.2.1 (by omega),OG,this];rfl
   refine ai (aU 8 (r:=ae ah) (y:=d0 v st) (aY (aY (aa 4 rfl) (jN (kD 5 (fM ev_int) rfl rfl (jF lz))) h1) (dU (kD 5 (fM ev_int) rfl rfl (jF lz))) h2) ?_)
   refine ai (aU 9 (y:=(d0 v st).getD 0 0) (aY (aa 8 rfl) ev_int (aV (xs:=d0 v st) (i:=0) 0 (OB _) (by omega))) ?_)
   change WS _ _ [.im aj x,bP ans,ao bound,.im c8 v,.im (ae (ae (ae ah))) lv,.mu dk st,.mu ah rows,ao (u:Int),bP (d0 v st),ao ((d0 v st).getD 0 0)] _ _
   refine bN (N1:=λΓ=>∃(c:Int) (u':Nat),Γ=[.im aj x,bP ans,ao bound,.im c8 v,.im (ae (ae (ae ah))) lv,.mu dk st,.mu ah rows,ao (u':Int),bP (d0 v st),ao c]/\nE v ans u st=some (c,u')/\u'<=ans.length)
    (ba (aD gP (cX M.len (aa 8 rfl)) ev_int) (λh=>?_) (λh=>aL ?_)) ?_
   ·have h:1<((d0 v st).length:Int):=Uu h
    refine ai (ba (aD eo (aa 7 rfl) (cX M.len (aa 1 rfl))) (λq=>?_) (λq=>aL ?_))
    ·have q:(u:Int)=(ans.length:Int):=Uu q
     have hn:lU v ans (rows,u,st)=none:=by
      unfold lU nE
      rw[Ut (by show 1<(d0 v st).length;omega),Pe (show ans.length<=u by omega)];rfl
     rw[pU UJ hn] at hw
     refine WS.freeze 5 rfl (aH (by omega)) (WS.freeze 6 rfl (aH (by omega)) ?_)
     refine ak (aN (ip (av (EV.Iz (aa 6 rfl)) (av (EV.pS (nL hWA)) (av (EV.CQ (aa 5 rfl)) aT))) (by show 3<=Ra;decide)) ?_)
     rw[← hw];rfl
    ·have q:¬(u:Int)=(ans.length:Int):=Uv q
     have ul:u<ans.length:=by omega
     have hau:ans[u]?=some ans[u]:=OE ul
     have VZ:=z9 ha hau
     generalize ans[u]=b at hau VZ
     have Vn:bU ans (u:Int)=some b:=by rw[aV (xs:=ans) 0 (by omega) (by omega),OG,show((u:Nat):Int).toNat=u by omega,hau];rfl
     refine ai (aU 9 (y:=(d0 v st).getD (1-b).toNat 0) (aY (aa 8 rfl) (gc (ck hY) (aY (aa 1 rfl) (aa 7 rfl) Vn)) (aV (xs:=d0 v st) (i:=1-b) 0 (by omega) (by omega))) ?_)
     refine ak (yM 7 (a:=(u:Int)) (c:=1) ev_int rfl ⟨(d0 v st).getD (1-b).toNat 0,u+1,?_,?_,ul⟩)
     ·rw[show((u+1:Nat):Int)=(u:Int)+1 by push_cast;rfl];rfl
     ·unfold nE
      rw[Ut (by omega),hau];rfl
   ·have h:¬1<((d0 v st).length:Int):=Uv h
    refine⟨_,u,rfl,?_,hu⟩
    unfold nE
    rw[Us (by omega)]
   rintro _ ⟨c,u',rfl,hc,WK⟩
   have cm:=wA hv ha hs UJ hc
   obtain⟨c0,c1,c2⟩:=vC cm
   have hn:lU v ans (rows,u,st)=some (rows++[c],u',hU st (rowOf v c)):=by unfold lU;rw[hc];rfl
   rw[pT UJ hn] at hw
   have gk:mj v (hU st (rowOf v c))/\(hU st (rowOf v c)).length<=st.length+1:=B6 hv hs UJ c2
   refine ai (dR 6 (y:=c) (aa 9 rfl) rfl rfl (QF rl (by decide)) ?_)
   refine ak (mx (gB 5 (st:=hU st (rowOf v c)) (rr:=jO) (z:=()) CG hr (af (aY (dU (aa 3 rfl)) (aa 9 rfl) (aV oj c0 c1)) aq) rfl rfl ⟨_,rfl,UJ,by omega,rfl⟩) ?_)
   refine⟨m',by omega,rows++[c],u',hU st (rowOf v c),_,_,rfl,hw,?_,gk.1,?_,WK⟩
   ·rw[OI,O4];push_cast;push_cast at hm;omega
   ·rw[OI,O4];omega
  ·have UJ:st=[]:=by
    cases st with
    | nil=>rfl
    | cons a b=>cases h
   subst UJ
   rw[oR rfl] at hw
   exact⟨ao (u:Int),e8,e9,by rw[← hw],by rw[← hw]⟩
 ·rintro _ ⟨e7,e8,e9,rfl,he⟩
  refine WS.freeze 5 rfl (QE _) (WS.freeze 6 rfl (aH (by omega)) ?_)
  refine ak (aN (ip (av (EV.Iz (aa 6 rfl)) (av (EV.pS (nL hEN)) (av (EV.CQ (aa 5 rfl)) aT))) (by show 3<=Ra;decide)) ?_)
  unfold Jj
  rw[he]
end
theorem Ff {ans:Oe}(h:∀a∈ans,a=0∨a=1):lq ans=true:=by
 unfold lq
 rw[Pq]
 intro b hb
 obtain⟨a,ha,rfl⟩:=OO.mp hb
 rcases h a (O2.mp ha).1 with rfl | rfl<;>decide
def jD (ns:Oe)(k:Int):Nat:=(aK ns k/3%41).toNat
def kn (ns:Oe)(k j:Int):Int:=if aK ns k%3<aK ns (k+1+j)%4 then 1 else 0
def Wd (ns:Oe)(k:Int):Oe:=(ups 0 (jD ns k)).map (kn ns k)
theorem An (ns:Oe)(k:Int):∀a∈Wd ns k,a=0∨a=1:=λa ha=>by
 unfold Wd at ha
 obtain⟨j,_,rfl⟩:=OO.mp ha
 unfold kn
 split
 ·exact .inr rfl
 ·exact .inl rfl
theorem vx (ns:Oe)(k:Int):jD ns k<=40:=by unfold jD;omega
theorem uc (ns:Oe)(k:Int):(Wd ns k).length<=40:=by unfold Wd;rw[OH,a9];exact vx ns k
section
abbrev FQ:Stmt:=top pf
abbrev nAN:Of:=["_law_script","_law_k","_law_number","_law_lean","_law_bits","_law_j","_law_bit"]
theorem Ho:ay nAN ["_law_script","_law_k"] (ag FQ):=UY
def Mm:bQ:=λK ps T=>∃(ns:Oe) (k:Int),ps=[⟨bB,ns⟩,⟨ah,k⟩]/\wu ns/\0<=k/\k<=10000/\T=nu K ah (· =Wd ns k)
theorem LG (M:cb K mg)(CM:aA P w K mg base "_law_mixed" 1 (aE DB K))(Df:Def K mg "_law_answers" FQ ["_law_script","_law_k"]):aA P w K mg base "_law_answers" 2 (aE Mm K):=by
 have nd:=Ho.nd
 refine bc (k:=1) Df Ho (λf UE A outer s H E qs T hr hS=>?_)
 obtain⟨ns,k,rfl,hs,k0,k1,rfl⟩:=hS
 have bd:=qh ns k
 have hle:=vx ns k
 change WS _ _ [.im bB ns,ao k,.no,.no,.no,.no,.no] _ _
 refine ai (aU 2 (y:=aK ns k) (aB CM hr (af (aa 0 rfl) (af (aa 1 rfl) aq)) ⟨ns,k,rfl,hs,k0,by omega,rfl⟩) ?_)
 refine ai (aU 3 (y:=aK ns k%3) (cH (aa 2 rfl) ev_int (by decide)) ?_)
 refine ai (bV 4 (r:=ah) (ys:=[]) (aR aT (QE _)) ?_)
 change WS _ _ [.im bB ns,ao k,ao (aK ns k),ao (aK ns k%3),.mu ah [],.no,.no] _ _
 refine bN (N1:=λΓ=>∃e5 e6,Γ=[.im bB ns,ao k,ao (aK ns k),ao (aK ns k%3),.mu ah (Wd ns k),e5,e6]) (bX (λi Γ=>∃e5 e6,Γ=[.im bB ns,ao k,ao (aK ns k),ao (aK ns k%3),.mu ah (((ups 0 (jD ns k)).take i).map (kn ns k)),e5,e6]) (dg M.range (cH (nK (aa 2 rfl) ev_int ⟨by decide,by decide⟩) ev_int (by decide)) ⟨by omega,by omega⟩) (aO 5) ⟨_,_,rfl⟩ (λi j Γ hj hΓ=>?_) (λΓ hΓ=>?_)) ?_
 ·obtain⟨e5,e6,rfl⟩:=hΓ
  have hj2:(ups 0 (jD ns k))[i]?=some j:=hj
  obtain⟨jl,ej⟩:=ef hj
  have jl:i<jD ns k:=jl
  have VC:((ups 0 (jD ns k)).take (i+1)).map (kn ns k)=((ups 0 (jD ns k)).take i).map (kn ns k)++[kn ns k j]:=by rw[Pg,hj2,O3];rfl
  rw[VC]
  have tl:(((ups 0 (jD ns k)).take i).map (kn ns k)).length<=40:=by rw[OH,OY];omega
  generalize ((ups 0 (jD ns k)).take i).map (kn ns k)=bs at tl
  change WS _ _ [.im bB ns,ao k,ao (aK ns k),ao (aK ns k%3),.mu ah bs,ao j,e6] _ _
  refine ai (aU 6 (y:=aK ns (k+1+j)%4) (cH (aB CM hr (af (aa 0 rfl) (af (cg (cg (aa 1 rfl) ev_int) (aa 5 rfl)) aq)) ⟨ns,k+1+j,rfl,hs,by omega,by omega,rfl⟩) ev_int (by decide)) ?_)
  refine ak (dR 4 (y:=kn ns k j) (EV.cast (wd M.int (dm gP (aa 6 rfl) (aa 3 rfl))) ?_) rfl rfl (QF tl (by decide)) ⟨_,_,rfl⟩)
  unfold kn
  simp only[decide_eq_true_eq]
 ·obtain⟨e5,e6,rfl⟩:=hΓ
  refine⟨e5,e6,?_⟩
  rw[a9]
  rw[show(aK ns k/3%41).toNat=jD ns k from rfl,PN (by rw[a9];exact QC _)]
  rfl
 rintro _ ⟨e5,e6,rfl⟩
 exact ak (pV 4 rfl (aH (by have:=uc ns k;omega)) rfl)
end
structure rY (mg:Oc):Prop where
 Vj:∃t,mg "LEAST_PLACES"=some (.int 2 t)
 VG:∃t,mg "MOST_ROWS"=some (.int 60 t)
 tuple:mg "tuple"=none
structure j6 (mg:Oc):Prop where
 WA:∃t,mg "MOST_PARTS"=some (.int 4 t)
 Vj:∃t,mg "LEAST_PLACES"=some (.int 2 t)
 Wi:∃t,mg "MOST_PLACES"=some (.int 16 t)
 VG:∃t,mg "MOST_ROWS"=some (.int 60 t)
 WG:∃t,mg "FIRST_PART"=some (.int 0 t)
 begin_:∃t,mg "BEGIN"=some (.int 0 t)
 end_:∃t,mg "END"=some (.int 1 t)
 XX:∃t,mg "NO_CALL"=some (.int (-1) t)
 len:mg "len"=none
 all:mg "all"=none
 any:mg "any"=none
 range:mg "range"=none
 enumerate:mg "enumerate"=none
 isinstance:mg "isinstance"=none
 int:mg "int"=none
 bool:mg "bool"=none
 list:mg "list"=none
 tuple:mg "tuple"=none
theorem K2 {K:T2}{mg:Oc}(M:cb K mg)(M3:iL mg)(M4:hZ mg)(X:rY mg):j6 mg:=⟨M3.parts,X.Vj,M3.places,X.VG,M4.first,M3.beg,M3.end_,M4.Wh,M.len,M.all,M.any,M.range,M.enumerate,M4.isinstance,M.int,M4.bool,M.list,X.tuple⟩
theorem all_true {α:Type}(xs:List α):((xs.filter λ_=>true).map λ_=>true).all id=true:=by
 rw[Pq];intro b hb
 obtain⟨_,_,rfl⟩:=OO.mp hb;rfl
theorem Aq {xs:Oe}{i:Int}(h0:0<=i)(h1:i<xs.length):bU xs i=some (xs.getD i.toNat 0):=by
 rw[mm h0 h1,OE (by omega),OG,OE (by omega)];rfl
section
abbrev Ij:Stmt:=top o8
theorem IK:ay ["row"] ["row"] (ag Ij):=UY
def Mp:bQ:=λK ps T=>∃r:Row,ps=[⟨cx,r⟩]/\T=bL K bF (· =true)
theorem KU (M:j6 mg)(CA:aA P w K mg base "are_whole" 2 (aE Dh K))(Df:Def K mg "has_row_form" Ij ["row"]):aA P w K mg base "has_row_form" 3 (aE Mp K):=by
 have nd:=IK.nd
 refine bc Df IK (λf UE A outer s H E qs T hr hS=>?_)
 obtain⟨r,rfl,rfl⟩:=hS
 exact ak (aN (iX (eO M.isinstance M.tuple PyProof.Rows.boot_tuple (aa 0 rfl) Jn) (λ_=>iX (dm eo (vD M.len (aa 0 rfl) IE) ev_int) (λ_=>ja (aB CA hr (af (aa 0 rfl) aq) ⟨.inr ⟨_,rfl⟩,rfl⟩)))) rfl)
abbrev B7:Stmt:=top oV
theorem Js:ay ["web","places","rows"] ["web"] (ag B7):=UY
def M0:bQ:=λK ps T=>∃v:de,ps=[⟨c8,v⟩]/\T=bL K bF (· =true)
theorem L0 (M:j6 mg)(CA:aA P w K mg base "are_whole" 2 (aE Dh K))(CR:aA P w K mg base "has_row_form" 3 (aE Mp K))(Df:Def K mg "has_web_form" B7 ["web"]):aA P w K mg base "has_web_form" 4 (aE M0 K):=by
 have nd:=Js.nd
 have VR:OX [("row":Str)]:=by decide
 refine bc Df Js (λf UE A outer s H E qs T hr hS=>?_)
 obtain⟨v,rfl,rfl⟩:=hS
 refine ai (ba (TW.tv (fQ (bW (cj (eO M.isinstance M.tuple PyProof.Rows.boot_tuple (aa 0 rfl) (DW (r:=ae ah) (r':=ae cx))))) (λ_=>fc (aD BL (vD M.len (aa 0 rfl) (D6 (r:=ae ah) (r':=ae cx))) ev_int)))) (λh=>Ur h (by decide)) (λ_=>aL ?_))
 refine ai (aU 1 (jN (r:=ae ah) (r':=ae cx) (aa 0 rfl)) (ai (aU 2 (dU (r:=ae ah) (r':=ae cx) (aa 0 rfl)) ?_)))
 refine ai (ba (TW.tv (fQ (bW (cj (eO M.isinstance M.list Q4 (aa 1 rfl) ty_list))) (λ_=>fc (bW (cj (eO M.isinstance M.list Q4 (aa 2 rfl) ty_list)))))) (λh=>Ur h (by decide)) (λ_=>aL ?_))
 exact ak (aN (iX (aB (CA.mono (by decide:2<=3)) hr (af (aa 1 rfl) aq) ⟨.inl ⟨_,rfl⟩,rfl⟩) (λ_=>ja (gZ M.all (aW.im (bD (own:=["row"]) (fr:=[]) (ix:=[]) (p:=λ_=>true) (f:=λ_=>true) (bt (so:=ag B7) (N0:=["web","places","rows"]) rfl rfl (λx h=>a8 h) (by decide +kernel)) (bG (aa 2 rfl))
  (λC s H ex=>aO 0) (λx=>⟨.inr rfl,trivial⟩) (λC s H ex x hx=>cO) (λC s H ex x hx _=>aB CR hr (af (aa 0 rfl) aq) ⟨_,rfl,rfl⟩)))))) (by rw[all_true];rfl))
abbrev Ca:Stmt:=top nC
theorem FP:ay ["web","places","rows"] ["web"] (ag Ca):=UY
def j3 (v:de):Bool:=
 if !(decide ((1:Int)<=(v.1.length:Int))&&decide ((v.1.length:Int)<=4)) || !(decide ((1:Int)<=(v.2.length:Int))&&decide ((v.2.length:Int)<=60)) then false
 else((v.1.filter λ_=>true).map λn=>decide ((2:Int)<=n)&&decide (n<=16)).all id
def Mj:bQ:=λK ps T=>∃v:de,ps=[⟨c8,v⟩]/\T=bL K bF (· =j3 v)
theorem Kv (M:j6 mg)(Df:Def K mg "has_web_sizes" Ca ["web"]):aA P w K mg base "has_web_sizes" 1 (aE Mj K):=by
 have nd:=FP.nd
 have VR:OX [("size":Str)]:=by decide
 obtain⟨t1,h1⟩:=M.WA
 obtain⟨t2,h2⟩:=M.VG
 obtain⟨t3,h3⟩:=M.Vj
 obtain⟨t4,h4⟩:=M.Wi
 refine bc Df FP (λf UE A outer s H E qs T hr hS=>?_)
 obtain⟨v,rfl,rfl⟩:=hS
 refine ai (aU 1 (jN (r:=ae ah) (r':=ae cx) (aa 0 rfl)) (ai (aU 2 (dU (r:=ae ah) (r':=ae cx) (aa 0 rfl)) ?_)))
 refine ai (ba (TW.tv (fQ (bW (iE gG gG ev_int (cX M.len (aa 1 rfl)) (ck h1))) (λ_=>fc (bW (iE gG gG ev_int (cX M.len (aa 2 rfl)) (ck h2)))))) (λh=>?_) (λh=>aL ?_))
 ·exact ak (aN fh (by rw[j3,Ut h]))
 ·exact ak (aN (gZ M.all (aW.im (bD (own:=["size"]) (fr:=[]) (ix:=[]) (p:=λ_=>true) (f:=λn=>decide ((2:Int)<=n)&&decide (n<=16)) (bt (so:=ag Ca) (N0:=["web","places","rows"]) rfl rfl (λx h=>a8 h) (by decide +kernel)) (bG (aa 1 rfl))
   (λC s H ex=>aO 0) (λx=>⟨.inr rfl,trivial⟩) (λC s H ex x hx=>cO) (λC s H ex x hx _=>ie gG gG (ck h3) (aa 0 rfl) (ck h4))))) (by rw[j3,Us (by rw[h];decide)]))
abbrev F6:Stmt:=top oK
theorem Fs:ay ["places","row","part"] ["places","row"] (ag F6):=UY
def ji (ns:Oe)(r:Row):Bool:=
 if !(decide (0<=r.1)&&decide (r.1<(ns.length:Int))) then false
 else if !(decide (0<=r.2.1)&&decide (r.2.1<ns.getD r.1.toNat 0)) || !(decide (0<=r.2.2.1)&&decide (r.2.2.1<ns.getD r.1.toNat 0)) then false
 else(!decide (r.2.1=1))&&(decide (r.2.2.2= -1) ||(decide (r.1<r.2.2.2)&&decide (r.2.2.2<(ns.length:Int))))
def Mh:bQ:=λK ps T=>∃ns r,ps=[⟨ae ah,ns⟩,⟨cx,r⟩]/\T=bL K bF (· =ji ns r)
theorem Lz (M:j6 mg)(Df:Def K mg "leads_within" F6 ["places","row"]):aA P w K mg base "leads_within" 1 (aE Mh K):=by
 have nd:=Fs.nd
 obtain⟨t1,Yi⟩:=M.end_
 obtain⟨t2,hNC⟩:=M.XX
 refine bc Df Fs (λf UE A outer s H E qs T hr hS=>?_)
 obtain⟨ns,r,rfl,rfl⟩:=hS
 refine ai (aU 2 (iF (aa 1 rfl)) ?_)
 refine ai (ba (bW (iE gG gE ev_int (aa 2 rfl) (cX M.len (aa 0 rfl)))) (λh=>?_) (λh=>?_))
 ·exact ak (aN fh (by rw[ji,Ut h]))
 refine aL ?_
 have h':0<=r.1/\r.1<(ns.length:Int):=by simpa using h
 have Yx:bU ns r.1=some (ns.getD r.1.toNat 0):=Aq h'.1 h'.2
 refine ai (ba (TW.tv (fQ (bW (iE gG gE ev_int (ij (aa 1 rfl)) (aY (aa 0 rfl) (aa 2 rfl) Yx))) (λ_=>fc (bW (iE gG gE ev_int (mY (aa 1 rfl)) (aY (aa 0 rfl) (aa 2 rfl) Yx)))))) (λh2=>?_) (λh2=>?_))
 ·exact ak (aN fh (by rw[ji,Us (by rw[h];decide),Ut h2]))
 refine aL (ak (aN (iX (dm BL (ij (aa 1 rfl)) (ck Yi)) (λ_=>ja (J0 (dm eo (kH (aa 1 rfl)) (ck hNC)) (λ_=>ja (ie gE gE (aa 2 rfl) (kH (aa 1 rfl)) (cX M.len (aa 0 rfl))))))) ?_))
 rw[ji,Us (by rw[h];decide),Us (by rw[h2];decide)]
abbrev Dy:Stmt:=top sv
theorem GU:ay ["rows","part"] ["rows","part"] (ag Dy):=UY
def called (rs:List Row)(p:Int):Bool:=((rs.filter λ_=>true).map λr=>decide (r.2.2.2=p)).any id
def Mt:bQ:=λK ps T=>∃(rs:List Row) (p:Int),ps=[⟨ae cx,rs⟩,⟨ah,p⟩]/\T=bL K bF (· =called rs p)
theorem KC (M:j6 mg)(Df:Def K mg "is_called" Dy ["rows","part"]):aA P w K mg base "is_called" 1 (aE Mt K):=by
 have nd:=GU.nd
 have VR:OX [("row":Str),"part"]:=by decide
 refine bc Df GU (λf UE A outer s H E qs T hr hS=>?_)
 obtain⟨rs,p,rfl,rfl⟩:=hS
 exact ak (aN (Ac M.any (aW.im (bD (own:=["row"]) (fr:=["part"]) (ix:=[1]) (p:=λ_=>true) (f:=λr=>decide (r.2.2.2=p)) (bt (so:=ag Dy) (N0:=["rows","part"]) rfl rfl (λx h=>a8 h) (by decide +kernel)) (bG (aa 0 rfl))
  (λC s H ex=>aO 0) (λx=>⟨.inr rfl,.inl rfl,trivial⟩) (λC s H ex x hx=>cO) (λC s H ex x hx _=>dm eo (kH (aa 0 rfl)) (aa 1 rfl))))) rfl)
end
theorem lh {α:Type} [DecidableEq α]:∀{xs ys:List α},xs.Nodup->(∀x∈xs,x∈ys)->xs.length<=ys.length
 | [],_,_,_=>QE _
 | x::xs,ys,h,hs=>by
   obtain⟨h1,h2⟩:=Pa.mp h
   have hx:x∈ys:=hs x OM
   have:=lh (xs:=xs) (ys:=ys.erase x) h2 λy hy=>(List.mem_erase_of_ne (show y≠x from λe=>h1 (e▸hy))).mpr (hs y (OL _ hy))
   rw[Qe hx] at this
   have:=List.length_pos_of_mem hx
   rw[OP]
   omega
theorem zo {α:Type} [DecidableEq α]{xs ys:List α}(h:xs.Nodup)(h':ys.Nodup)(e:∀x,x∈xs↔x∈ys):xs.length=ys.length:=
 Nat.le_antisymm (lh h λx hx=>(e x).mp hx) (lh h' λx hx=>(e x).mpr hx)
def nj (ks:Oe):List (Int×V):=ks.map λk=>(k,.bl true)
theorem pH (ks:Oe)(k:Int):gD (nj ks) k=decide (k∈ks):=by
 unfold gD nj
 rw[any_map,Ot,Qa]
 simp
structure sV (es:Ol) (s:Int) (ks ws:Oe):Prop where
 nd:ks.Nodup
 re:∀k∈ks,Fc.Reach es s k
 st:s∈ks
 wt:∀k∈ws,k∈ks
 bd:∀k∈ks,k∈s::es.map (·.2)
theorem sV.le {es:Ol}{s:Int}{ks ws:Oe}(h:sV es s ks ws):ks.length<=es.length+1:=by
 have:=lh h.nd h.bd
 simpa using this
section
abbrev F3:Stmt:=top xh
abbrev nRE:Of:=["leads","start","found","waiting","place","lead"]
theorem IM:ay nRE ["leads","start"] (ag F3):=UY
def Ms:bQ:=λK ps T=>∃(es:Ol) (s:Int),ps=[⟨ae dk,es⟩,⟨ah,s⟩]/\es.length<=100000/\T=bL K gu λkvs=>(kvs.map (·.1)).Nodup/\∀k,k∈kvs.map (·.1)↔Fc.Reach es s k
theorem Kt (F:dH K "reached" "reached" F3 f fd)(hm:mg "reached"=some (.ref f))(hb:Binds K fd ["leads","start"] []):aA P w K mg base "reached" 1 (aE Ms K):=by
 have nd:=IM.nd
 refine fR F IM hm hb (λqs T ⟨_,_,e,_⟩=>by rw[e];rfl) (λUE A outer s H E qs T hr hS=>?_)
 obtain⟨es,s0,rfl,hlen,rfl⟩:=hS
 have hu:=Cc hr
 change WS _ _ [.im (ae dk) es,ao s0,.no,.no,.no,.no] _ _
 refine ai (Eu 2 (xA 1 rfl) oS (ai (bV 3 (aR (av (aa 1 rfl) aT) (by show 1<=Ra;decide)) ?_)))
 refine ai (jr (λm Γ=>∃ks ws v4 v5,Γ=[.im (ae dk) es,ao s0,.di (nj ks),.mu ah ws,v4,v5]/\sV es s0 ks ws/\m=2*(es.length+1-ks.length)+ws.length/\m<=2*es.length+1/\∀k∈ks,k∉ws->∀b,(k,b)∈es->b∈ks) (m0:=2*(es.length+1-1)+1)
  ⟨[s0],[s0],.no,.no,rfl,⟨by simp,λk hk=>by rw[OF.mp hk];exact .base,OF.mpr rfl,λk hk=>hk,λk hk=>by rw[OF.mp hk];exact OM⟩,rfl,QC _,λk hk hn=>Ur hk hn⟩ ?_)
 rintro m Γ ⟨ks,ws,v4,v5,rfl,hI,rfl,hmb,Wo⟩
 refine⟨!ws.isEmpty,_,jx 3 rfl,λUJ=>?_,λhe=>?_⟩
 ·have hws:ws≠[]:=by intro e;rw[e] at UJ;exact Ur UJ (by decide)
  have hpos:0<ws.length:=P8.mpr hws
  obtain⟨p,hp⟩:∃p,ws[ws.length-1]?=some p:=⟨_,OE (by omega)⟩
  have hpm:p∈ws:=OK hp
  have X5:ws=ws.dropLast++[p]:=by
   have e:=Ph hws
   rw[List.getLast_eq_getElem,] at e
   rw[OE (by omega)] at hp
   rw[Option.some.inj hp] at e
   exact e.symm
  have XM:ws.dropLast.length=ws.length-1:=PH
  refine ai (aU 4 (oz 3 rfl hp) ?_)
  refine ak (bX (r:=dk) (λi Γ=>∃V9 WI v5,Γ=[.im (ae dk) es,ao s0,.di (nj V9),.mu ah WI,ao p,v5]/\sV es s0 V9 WI/\p∈V9/\2*(es.length+1-V9.length)+WI.length<2*(es.length+1-ks.length)+ws.length/\(∀k∈V9,k∉WI->k≠p->∀b,(k,b)∈es->b∈V9)/\∀(j:Nat) b,j<i->es[j]?=some (p,b)->b∈V9)
   (bG (aa 0 rfl)) (aO 5) ⟨ks,ws.dropLast,v5,rfl,⟨hI.nd,hI.re,hI.st,λk hk=>hI.wt k (List.dropLast_subset _ hk),hI.bd⟩,hI.wt p hpm,by omega,λk hk hn Yu=>Wo k hk λhw=>?_,λj b hj=>Ur hj (QT _)⟩ ?_ ?_)
  ·rw[X5] at hw
   rcases OS.mp hw with q | q
   ·exact hn q
   ·exact Yu (OF.mp q)
  ·rintro i t Γ ht ⟨V9,WI,u5,rfl,hJ,hp1,hme,hc1,Zn⟩
   have htm:t∈es:=OK ht
   refine ak (ba (TW.tv (cT (aD eo (jN (aa 5 rfl)) (aa 4 rfl)) (λ_=>dQ (wG 2 true hu (dU (aa 5 rfl)) rfl)))) (λh=>?_) (λh=>aL ?_))
   ·rw[Oq] at h
    have h1:t.1=p:=Uu h.1
    have h2:t.2∉V9:=by
     have:=h.2
     rw[Ut rfl,pH] at this
     simpa using this
    have hJ':sV es s0 (V9++[t.2]) (WI++[t.2]):=by
     refine⟨fP hJ.nd h2,λk hk=>?_,OU _ hJ.st,λk hk=>?_,λk hk=>?_⟩
     ·rcases OS.mp hk with q | q
      ·exact hJ.re k q
      ·rw[OF.mp q]
       exact .step (hJ.re p hp1) (by rw[← h1];exact htm)
     ·rcases OS.mp hk with q | q
      ·exact OU _ (hJ.wt k q)
      ·exact OQ _ q
     ·rcases OS.mp hk with q | q
      ·exact hJ.bd k q
      ·rw[OF.mp q]
       exact OL _ (OO.mpr ⟨t,htm,rfl⟩)
    have hle:=hJ'.le
    have hle1:=hJ.le
    rw[OI,O4] at hle
    refine ai (qS 2 hu (dU (aa 5 rfl)) oS rfl (by rw[pH];exact Ux h2) (by unfold nj;rw[OH];exact QF (show V9.length<=100001 by omega) (by decide)) ?_)
    have ed:nj V9++[(t.2,V.bl true)]=nj (V9++[t.2]):=by unfold nj;rw[O3];rfl
    rw[ed]
    have YU:WI.length<=400000:=by
     omega
    refine ak (dR 3 (dU (aa 5 rfl)) rfl rfl (QF YU (by decide)) ?_)
    refine⟨V9++[t.2],WI++[t.2],_,rfl,hJ',OU _ hp1,?_,λk hk hn Yu b hb=>?_,λj b hj Yf=>?_⟩
    ·rw[OI,OI,O4];omega
    ·rcases OS.mp hk with q | q
     ·exact OU _ (hc1 k q (λz=>hn (OU _ z)) Yu b hb)
     ·exact Ur (OQ _ q) hn
    ·rcases QJ j i with q | q
     ·exact OU _ (Zn j b q Yf)
     ·have:j=i:=by omega
      subst this
      rw[ht] at Yf
      cases Yf
      exact OQ _ (OF.mpr rfl)
   ·refine⟨V9,WI,_,rfl,hJ,hp1,hme,hc1,λj b hj Yf=>?_⟩
    rcases QJ j i with q | q
    ·exact Zn j b q Yf
    ·have:j=i:=by omega
     subst this
     rw[ht] at Yf
     cases Yf
     have h':=h
     rw[Bool.and_eq_false_iff] at h'
     rcases h' with z | z
     ·exact Ur rfl (Uv z)
     ·rw[Ut rfl,pH] at z
      simpa using z
  ·rintro Γ ⟨V9,WI,u5,rfl,hJ,hp1,hme,hc1,Zn⟩
   refine⟨_,hme,V9,WI,_,_,rfl,hJ,rfl,by omega,λk hk hn b hb=>?_⟩
   by_cases Yu:k=p
   ·subst Yu
    obtain⟨j,hj⟩:=OR.mp hb
    exact Zn j b (OD.mp hj).1 hj
   ·exact hc1 k hk hn Yu b hb
 ·have hws:ws=[]:=by
   cases ws with
   | nil=>rfl
   | cons _ _=>simp at he
  subst hws
  refine ak (zh 2 rfl ?_)
  have em:(nj ks).map (·.1)=ks:=by unfold nj;rw[PR];exact List.map_id ks
  rw[em]
  exact⟨hI.nd,λk=>⟨hI.re k,λhk=>Fc.Reach.sub (P:=λk=>k∈ks) hI.st (λa b ha VZ=>Wo a ha (by simp) b VZ) hk⟩⟩
open Classical in
noncomputable def mi (es:Ol)(s n:Int):Bool:=decide (∃ks:Oe,ks.Nodup/\(∀k,k∈ks↔Fc.Reach es s k)/\(ks.length:Int)=n)
open Classical in
theorem qJ {es:Ol}{s n:Int}{ks:Oe}(h:ks.Nodup)(e:∀k,k∈ks↔Fc.Reach es s k):decide ((ks.length:Int)=n)=mi es s n:=by
 unfold mi
 by_cases hn:(ks.length:Int)=n
 ·rw[Uw hn,Uw];exact⟨ks,h,e,hn⟩
 ·rw[Ux hn,Ux]
  rintro⟨ks',h',e',WM⟩
  exact hn (by rw[← WM,zo h h' λk=>(e k).trans (e' k).symm])
def fwd (rs:List Row)(p:Int):Ol:=(rs.filter λr=>decide (r.1=p)).map λr=>(r.2.1,r.2.2.1)
def bwd (rs:List Row)(p:Int):Ol:=(rs.filter λr=>decide (r.1=p)).map λr=>(r.2.2.1,r.2.1)
noncomputable def mh (rs:List Row)(p n:Int):Bool:=mi (fwd rs p) 0 n&&mi (bwd rs p) 1 n
abbrev zw:Stmt:=top pA
abbrev G2:Of:=["rows","part","size","ahead","behind"]
theorem IG:ay G2 ["rows","part","size"] (ag zw):=UY
def Md:bQ:=λK ps T=>∃(rs:List Row) (p n:Int),ps=[⟨ae cx,rs⟩,⟨ah,p⟩,⟨ah,n⟩]/\rs.length<=1000/\T=bL K bF (· =mh rs p n)
theorem KA (M:j6 mg)(CR:aA P w K mg base "reached" 1 (aE Ms K))(Df:Def K mg "lies_on_ways" zw ["rows","part","size"]):aA P w K mg base "lies_on_ways" 2 (aE Md K):=by
 have nd:=IG.nd
 have VR:OX [("row":Str),"part"]:=by decide
 obtain⟨t1,hB⟩:=M.begin_
 obtain⟨t2,hE⟩:=M.end_
 refine bc Df IG (λf UE A outer s H E qs T hr hS=>?_)
 obtain⟨rs,p,n,rfl,hl,rfl⟩:=hS
 change WS _ _ [.im (ae cx) rs,ao p,ao n,.no,.no] _ _
 have lf:∀g:Row->Int×Int,((rs.filter λr=>decide (r.1=p)).map g).length<=100000:=λg=>by
  rw[OH]
  have:=Pz (λr:Row=>decide (r.1=p)) rs
  omega
 refine ai (mT 3 CR hr (af (aW.im (bD (own:=["row"]) (fr:=["part"]) (ix:=[1]) (p:=λr=>decide (r.1=p)) (f:=λr=>(r.2.1,r.2.2.1)) (bt (so:=ag zw) (N0:=G2) rfl rfl (λx h=>a8 h) (by decide +kernel)) (bG (aa 0 rfl))
  (λC s H ex=>aO 0) (λx=>⟨.inr rfl,.inl rfl,trivial⟩) (λC s H ex x hx=>fE (aD eo (iF (aa 0 rfl)) (aa 1 rfl))) (λC s H ex x hx _=>gI (af (ij (aa 0 rfl)) (af (mY (aa 0 rfl)) aq))))) (af (ck hB) aq)) ⟨_,_,rfl,lf _,rfl⟩ ?_)
 rintro kv1 ⟨n1,e1⟩
 refine ai (mT 4 CR hr (af (aW.im (bD (own:=["row"]) (fr:=["part"]) (ix:=[1]) (p:=λr=>decide (r.1=p)) (f:=λr=>(r.2.2.1,r.2.1)) (bt (so:=ag zw) (N0:=G2) rfl rfl (λx h=>a8 h) (by decide +kernel)) (bG (aa 0 rfl))
  (λC s H ex=>aO 0) (λx=>⟨.inr rfl,.inl rfl,trivial⟩) (λC s H ex x hx=>fE (aD eo (iF (aa 0 rfl)) (aa 1 rfl))) (λC s H ex x hx _=>gI (af (mY (aa 0 rfl)) (af (ij (aa 0 rfl)) aq))))) (af (ck hE) aq)) ⟨_,_,rfl,lf _,rfl⟩ ?_)
 rintro kv2 ⟨n2,e2⟩
 refine ak (aN (iX (dm eo (pM M.len (aa 3 rfl)) (aa 2 rfl)) (λ_=>ja (dm eo (pM M.len (aa 4 rfl)) (aa 2 rfl)))) ?_)
 have q1:=qJ (n:=n) n1 e1
 have q2:=qJ (n:=n) n2 e2
 rw[OH] at q1 q2
 show(decide ((kv1.length:Int)=n)&&decide ((kv2.length:Int)=n))=mh rs p n
 rw[q1,q2];rfl
abbrev vZ:Stmt:=top ym
abbrev Cj:Of:=["web","places","rows"]
theorem Hw:ay Cj ["web"] (ag vZ):=UY
noncomputable def lI (v:de):Bool:=
 if !j3 v then false
 else if !((v.2.filter λ_=>true).map (ji v.1)).all id then false
 else if !(((ups (0+1) ((v.1.length:Int)-(0+1)).toNat).filter λ_=>true).map (called v.2)).all id then false
 else(((nums v.1).filter λ_=>true).map λx=>mh v.2 x.1 x.2).all id
def Mb:bQ:=λK ps T=>∃v:de,ps=[⟨c8,v⟩]/\v.1.length<=1000/\v.2.length<=1000/\T=bL K bF (· =lI v)
theorem Kk (M:j6 mg)(C1:aA P w K mg base "has_web_form" 4 (aE M0 K))(C2:aA P w K mg base "has_web_sizes" 1 (aE Mj K))(C3:aA P w K mg base "leads_within" 1 (aE Mh K))(C4:aA P w K mg base "is_called" 1 (aE Mt K))(C5:aA P w K mg base "lies_on_ways" 2 (aE Md K))(Df:Def K mg "is_web" vZ ["web"]):aA P w K mg base "is_web" 5 (aE Mb K):=by
 have nd:=Hw.nd
 have C2:=C2.mono (show 1<=4 by decide)
 have C3:=C3.mono (show 1<=4 by decide)
 have C4:=C4.mono (show 1<=4 by decide)
 have C5:=C5.mono (show 2<=4 by decide)
 have nd1:OX [("row":Str),"places"]:=by decide
 have Xz:OX [("part":Str),"rows"]:=by decide
 have nd3:OX [("part":Str),"size","rows"]:=by decide
 obtain⟨t1,Zw⟩:=M.WG
 refine bc Df Hw (λf UE A outer s H E qs T hr hS=>?_)
 obtain⟨v,rfl,l1,l2,rfl⟩:=hS
 change WS _ _ [.im c8 v,.no,.no] _ _
 refine ai (ba (TW.tv (fQ (bW (cj (aB C1 hr (af (aa 0 rfl) aq) ⟨v,rfl,rfl⟩))) (λ_=>fc (bW (cj (aB C2 hr (af (aa 0 rfl) aq) ⟨v,rfl,rfl⟩)))))) (λh=>?_) (λh=>aL ?_))
 ·have h:(!j3 v)=true:=by simpa using h
  exact ak (aN fh (by rw[lI,Ut h]))
 have h1:(!j3 v)=false:=by simpa using h
 refine ai (aU 1 (jN (r:=ae ah) (r':=ae cx) (aa 0 rfl)) (ai (aU 2 (dU (r:=ae ah) (r':=ae cx) (aa 0 rfl)) ?_)))
 refine ai (ba (bW (cj (gZ M.all (aW.im (bD (own:=["row"]) (fr:=["places"]) (ix:=[1]) (p:=λ_=>true) (f:=ji v.1) (bt (so:=ag vZ) (N0:=Cj) rfl rfl (λx h=>a8 h) (by decide +kernel)) (bG (aa 2 rfl))
  (λC s H ex=>aO 0) (λx=>⟨.inr rfl,.inl rfl,trivial⟩) (λC s H ex x hx=>cO) (λC s H ex x hx _=>aB C3 hr (af (aa 1 rfl) (af (aa 0 rfl) aq)) ⟨_,_,rfl,rfl⟩)))))) (λh=>?_) (λh=>aL ?_))
 ·exact ak (aN fh (by rw[lI,Us (by rw[h1];decide),Ut h]))
 have h2:=h
 refine ai (ba (bW (cj (gZ M.all (aW.im (bD (own:=["part"]) (fr:=["rows"]) (ix:=[2]) (p:=λ_=>true) (f:=called v.2) (bt (so:=ag vZ) (N0:=Cj) rfl rfl (λx h=>a8 h) (by decide +kernel)) (qT M.range (cg (ck Zw) ev_int) (cX M.len (aa 1 rfl)) ⟨by decide,by decide,by omega,by omega⟩)
  (λC s H ex=>aO 0) (λx=>⟨.inr rfl,.inl rfl,trivial⟩) (λC s H ex x hx=>cO) (λC s H ex x hx _=>aB C4 hr (af (aa 1 rfl) (af (aa 0 rfl) aq)) ⟨_,_,rfl,rfl⟩)))))) (λh=>?_) (λh=>aL ?_))
 ·exact ak (aN fh (by rw[lI,Us (by rw[h1];decide),Us (by rw[h2];decide),Ut h]))
 have h3:=h
 refine ak (aN (gZ M.all (aW.im (bD (own:=["part","size"]) (fr:=["rows"]) (ix:=[2]) (p:=λ_=>true) (f:=λx=>mh v.2 x.1 x.2) (bt (so:=ag vZ) (N0:=Cj) rfl rfl (λx h=>a8 h) (by decide +kernel)) (gJ M.enumerate (aa 1 rfl))
  (λC s H ex=>fo 0 1) (λx=>⟨.inr rfl,.inr rfl,.inl rfl,trivial⟩) (λC s H ex x hx=>cO) (λC s H ex x hx _=>aB C5 hr (af (aa 2 rfl) (af (aa 0 rfl) (af (aa 1 rfl) aq))) ⟨_,_,_,rfl,l2,rfl⟩)))) ?_)
 rw[lI,Us (by rw[h1];decide),Us (by rw[h2];decide),Us (by rw[h3];decide)]
end
def xT (v:de):Prop:=v.1.length<=4/\v.2.length<=60/\lI v=true
section
abbrev Bw:Stmt:=top va
theorem B4:ay ["web"] ["web"] (ag Bw):=UY
def Ay:bQ:=λK ps T=>∃v:de,ps=[⟨c8,v⟩]/\xT v/\T=bL K jO (λ_=>True)
theorem JG (CW:aA P w K mg base "is_web" 5 (aE Mb K))(Df:Def K mg "need_web" Bw ["web"]):aA P w K mg base "need_web" 6 (aE Ay K):=by
 have nd:=B4.nd
 refine DX Df B4 (λf UE A outer s H E qs T hr hS=>?_)
 obtain⟨v,rfl,hv,rfl⟩:=hS
 have pl:=hv.1
 have rl:=hv.2.1
 refine⟨λ_ _ _=>⟨(),rfl,trivial⟩,?_⟩
 change WS _ _ [.im c8 v] _ _
 refine ak (ba (bW (cj (aB CW hr (af (aa 0 rfl) aq) ⟨v,rfl,by omega,by omega,rfl⟩))) (λh=>?_) (λh=>aL trivial))
 rw[hv.2.2] at h;exact Ur h (by decide)
end
section
variable {v:de}
structure JX (v:de) (st:dO) (k:Int):Prop where
 k0:0<=k
 k1:k<(v.2.length:Int)
 ne:st≠[]
 at_:((rowOf v k).1,(rowOf v k).2.1)=fw st
inductive dE (v:de):Oe->dO->Prop
 | nil:dE v [] [(0,0)]
 | snoc {rows:Oe} {st:dO} {k:Int}:dE v rows st->JX v st k->dE v (rows++[k]) (hU st (rowOf v k))
theorem dE.last {rows:Oe}{st:dO}{k:Int}(h:dE v (rows++[k]) st):∃s0,dE v rows s0/\JX v s0 k/\st=hU s0 (rowOf v k):=by
 generalize e:rows++[k]=l at h
 cases h with
 | nil=>simp at e
 | snoc g c=>
   obtain⟨rfl,e2⟩:=List.append_inj' e rfl
   cases e2
   exact⟨_,g,c,rfl⟩
theorem dE.pre {rows:Oe}:∀{l:Oe} {st:dO},dE v l st->∀{ys:Oe},rows++ys=l->∃s0,dE v rows s0:=by
 intro l st h
 induction h with
 | nil=>intro ys e;exact⟨_,by rw[(List.append_eq_nil_iff.mp e).1];exact .nil⟩
 | @snoc l' V5 k g c ih=>
   intro ys e
   by_cases q:ys=[]
   ·subst q
    rw[Pf] at e
    exact⟨_,by rw[e];exact .snoc g c⟩
   ·rw[← Ph q,← OZ] at e
    exact ih (List.append_inj' e rfl).1
theorem dE.fn {rows:Oe}{s1:dO}(h:dE v rows s1):∀{s2:dO},dE v rows s2->s1=s2:=by
 induction h with
 | nil=>intro s2 h2;generalize e:([]:Oe)=l at h2;cases h2 with
   | nil=>rfl
   | snoc _ _=>simp at e
 | snoc g c ih=>intro s2 h2;obtain⟨s0,h0,_,rfl⟩:=h2.last;rw[ih h0]
theorem dE.ok (hv:fX v){rows:Oe}{st:dO}(h:dE v rows st):mj v st/\st.length<=rows.length+1:=by
 induction h with
 | nil=>exact⟨rK hv,QC _⟩
 | @snoc rows st k g c ih=>
   have k0:=c.k0
   have k1:=c.k1
   have hm:rowOf v k∈v.2:=by
    unfold rowOf
    rw[OG,OE (by omega)]
    exact O0 _
   obtain⟨a,b⟩:=B6 hv ih.1 c.ne hm
   refine⟨a,?_⟩
   rw[OI,O4]
   omega
theorem Mg {A:Ri}{k:Nat}(hr:bI k A):A.units<cLine:=by have:=hr.un;omega
end
section
abbrev Bt:Stmt:=top yz
theorem Cg:ay ["web","number"] ["web","number"] (ag Bt):=UY
def IU:bQ:=λK ps T=>∃(v:de) (k:Int),ps=[⟨c8,v⟩,⟨ah,k⟩]/\T=bL K bF (· =(decide (0<=k)&&decide (k<(v.2.length:Int))))
theorem JM (M:cb K mg)(CI:aA P w K mg base "is_whole" 1 (aE DA K))(Df:Def K mg "is_row" Bt ["web","number"]):aA P w K mg base "is_row" 2 (aE IU K):=by
 have nd:=Cg.nd
 refine bc Df Cg (λf UE A outer s H E qs T hr hS=>?_)
 obtain⟨v,k,rfl,rfl⟩:=hS
 change WS _ _ [oM v,ao k] _ _
 exact ak (aN (iX (aB CI hr (af (aa 1 rfl) aq) ⟨k,rfl,rfl⟩) (λ_=>ja (ie gG gE ev_int (aa 1 rfl) (cX M.len (dU (aa 0 rfl)))))) (Bool.true_and _))
abbrev AX:Stmt:=top zc
abbrev Np:Of:=["web","stack","number","row"]
theorem C9:ay Np ["web","stack","number"] (ag AX):=UY
def FV:bQ:=λK ps T=>∃(v:de) (st:dO) (k:Int),ps=[⟨c8,v⟩,⟨ae dk,st⟩,⟨ah,k⟩]/\JX v st k/\T=bL K bF (· =true)
theorem Jq (CI:aA P w K mg base "is_row" 2 (aE IU K))(Df:Def K mg "can_go" AX ["web","stack","number"]):aA P w K mg base "can_go" 3 (aE FV K):=by
 have nd:=C9.nd
 refine bc Df C9 (λf UE A outer s H E qs T hr hS=>?_)
 obtain⟨v,st,k,rfl,c,rfl⟩:=hS
 have hu:=Cc hr
 have k0:=c.k0
 have k1:=c.k1
 change WS _ _ [oM v,.im (ae dk) st,ao k,.no] _ _
 have ne':st.isEmpty=false:=by
  have:=c.ne
  cases st with
  | nil=>exact Ur rfl this
  | cons a b=>rfl
 refine ai (ba (TW.tv (fQ (bW (KR 1 rfl)) λa1=>fc (bW (cj (aB CI hr (af (aa 0 rfl) (af (aa 2 rfl) aq)) ⟨v,k,rfl,rfl⟩))))) (λh=>?_) (λh=>aL ?_))
 ·rw[ne'] at h
  simp at h
  omega
 ·have hk:bU v.2 k=some (rowOf v k):=aV oj k0 k1
  refine ai (aU 3 (aY (dU (aa 0 rfl)) (aa 2 rfl) hk) ?_)
  refine ak (aN (dm (Kg eq_int eq_int hu hu) (gI (af (iF (aa 3 rfl)) (af (ij (aa 3 rfl)) aq))) (aY (aa 1 rfl) (fM ev_int) (jF (lD c.ne)))) ?_)
  rw[← lN c.ne]
  exact Uw c.at_
abbrev BS:Stmt:=top ow
theorem Cp:ay ["web","rows","stack","number"] ["web","rows"] (ag BS):=UY
def BV:bQ:=λK ps T=>∃(v:de) (rows:Oe) (st:dO),ps=[⟨c8,v⟩,⟨ae ah,rows⟩]/\fX v/\dE v rows st/\rows.length<=100000/\T=nu K dk (· =st)
theorem GR (M:cb K mg)(M4:hZ mg)(CA:aA P w K mg base "at_begin" 1 (aE Cv K))(CC:aA P w K mg base "can_go" 3 (aE FV K))(CO:aA P w K mg base "go" 2 (eB dk JS K))(Df:Def K mg "stack_behind" BS ["web","rows"]):aA P w K mg base "stack_behind" 4 (aE BV K):=by
 have nd:=Cp.nd
 have CA:=CA.mono (show 1<=3 by decide)
 have CO:=CO.mono (show 2<=3 by decide)
 obtain⟨t1,Zw⟩:=M4.first
 refine bc Df Cp (λf UE A outer s H E qs T hr hS=>?_)
 obtain⟨v,rows,st,rfl,hv,hG,hl,rfl⟩:=hS
 change WS _ _ [oM v,bP rows,.no,.no] _ _
 refine ai (ba (bW (cj (eO M4.isinstance M.list Q4 (aa 1 rfl) ty_list))) (λh=>Ur h (by decide)) (λ_=>aL ?_))
 refine ai (bV 2 (r:=dk) (aR (av (aB CA hr (af (ck Zw) aq) ⟨_,rfl,rfl⟩) aT) (by show 1<=Ra;decide)) ?_)
 refine ai (bX (r:=ah) (λi Γ=>∃s0 v3,Γ=[oM v,bP rows,.mu dk s0,v3]/\dE v (rows.take i) s0)
  (bG (aa 1 rfl)) (aO 3) ⟨[(0,0)],_,rfl,.nil⟩ ?_ ?_)
 ·rintro i k Γ Ye ⟨s0,v3,rfl,YA⟩
  have hil:i<rows.length:=(OD.mp Ye).1
  have VC:rows.take (i+1)=rows.take i++[k]:=by rw[Pg,Ye];rfl
  have Wq:dE v ((rows.take i++[k])++rows.drop (i+1)) st:=by rw[← VC,Po];exact hG
  obtain⟨s1,h1⟩:=dE.pre (rows:=rows.take i++[k]) Wq rfl
  obtain⟨s2,h2,hc,_⟩:=h1.last
  have e:=YA.fn h2
  subst e
  obtain⟨_,sl⟩:=YA.ok hv
  rw[OY] at sl
  refine ai (ba (TV.VJ (oa (i:=2) rfl (aH (by omega))) (bW (cj (aB CC hr (af (aa 0 rfl) (af (aa 2 rfl) (af (aa 3 rfl) aq))) ⟨v,s0,k,rfl,hc,rfl⟩)))) (λh=>by cases h) (λh=>aL ?_))
  have hk:bU v.2 k=some (rowOf v k):=aV oj hc.k0 hc.k1
  refine ak (mx (gB 2 (st:=hU s0 (rowOf v k)) (rr:=jO) (z:=()) CO hr (af (aY (dU (aa 0 rfl)) (aa 3 rfl) hk) aq) rfl rfl ⟨_,rfl,hc.ne,by omega,rfl⟩) ?_)
  refine⟨_,_,rfl,?_⟩
  rw[VC];exact YA.snoc hc
 ·rintro Γ ⟨s0,v3,rfl,YA⟩
  rw[Pl] at YA
  have e:=YA.fn hG
  subst e
  obtain⟨_,sl⟩:=hG.ok hv
  exact ak (pV 2 rfl (aH (by omega)) rfl)
abbrev BD:Stmt:=top uW
theorem Dw:ay ["web","rows"] ["web","rows"] (ag BD):=UY
def GI:bQ:=λK ps T=>∃(v:de) (rows:Oe) (st:dO),ps=[⟨c8,v⟩,⟨ae ah,rows⟩]/\fX v/\dE v rows st/\rows.length<=100000/\T=bL K bF (· =st.isEmpty)
theorem Gq (CS:aA P w K mg base "stack_behind" 4 (aE BV K))(Df:Def K mg "is_run_of" BD ["web","rows"]):aA P w K mg base "is_run_of" 5 (aE GI K):=by
 have nd:=Dw.nd
 refine bc Df Dw (λf UE A outer s H E qs T hr hS=>?_)
 obtain⟨v,rows,st,rfl,hv,hG,hl,rfl⟩:=hS
 change WS _ _ [oM v,bP rows] _ _
 exact ak (aN (dm (xX (r':=ah) (Mg hr)) (aW.im (ir CS hr (af (aa 0 rfl) (af (aa 1 rfl) aq)) ⟨v,rows,st,rfl,hv,hG,hl,rfl⟩)) (aW.im (aR aT (by decide)))) rfl)
abbrev BJ:Stmt:=top zS
theorem De:ay ["web","rows"] ["web","rows"] (ag BJ):=UY
def IX:bQ:=λK ps T=>∃(v:de) (rows:Oe) (st:dO),ps=[⟨c8,v⟩,⟨ae ah,rows⟩]/\xT v/\fX v/\dE v rows st/\rows.length<=100000/\T=bL K bF (· =st.isEmpty)
theorem Fu (CN:aA P w K mg base "need_web" 6 (aE Ay K))(CO:aA P w K mg base "is_run_of" 5 (aE GI K))(Df:Def K mg "is_run" BJ ["web","rows"]):aA P w K mg base "is_run" 7 (aE IX K):=by
 have nd:=De.nd
 have CO:=CO.mono (show 5<=6 by decide)
 refine bc Df De (λf UE A outer s H E qs T hr hS=>?_)
 obtain⟨v,rows,st,rfl,hw,hv,hG,hl,rfl⟩:=hS
 change WS _ _ [oM v,bP rows] _ _
 refine ai (qz CN hr (af (aa 0 rfl) aq) ⟨v,rfl,hw,rfl⟩ ?_)
 exact ak (aN (aB CO hr (af (aa 0 rfl) (af (aa 1 rfl) aq)) ⟨v,rows,st,rfl,hv,hG,hl,rfl⟩) rfl)
abbrev Av:Stmt:=top Bm
theorem DD:ay ["web","rows","stack"] ["web","rows"] (ag Av):=UY
def Hy:bQ:=λK ps T=>∃(v:de) (rows:Oe) (st:dO),ps=[⟨c8,v⟩,⟨ae ah,rows⟩]/\xT v/\fX v/\dE v rows st/\rows.length<=100000/\T=nu K dk (· =st)
theorem Hz (CN:aA P w K mg base "need_web" 6 (aE Ay K))(CS:aA P w K mg base "stack_behind" 4 (aE BV K))(Df:Def K mg "stood" Av ["web","rows"]):aA P w K mg base "stood" 7 (aE Hy K):=by
 have nd:=DD.nd
 have CS:=CS.mono (show 4<=6 by decide)
 refine bc Df DD (λf UE A outer s H E qs T hr hS=>?_)
 obtain⟨v,rows,st,rfl,hw,hv,hG,hl,rfl⟩:=hS
 obtain⟨_,sl⟩:=hG.ok hv
 have hz:st.length<=Ra:=aH (by omega)
 change WS _ _ [oM v,bP rows,.no] _ _
 refine ai (qz CN hr (af (aa 0 rfl) aq) ⟨v,rfl,hw,rfl⟩ ?_)
 refine ai (bV 2 (r:=dk) (ir CS hr (af (aa 0 rfl) (af (aa 1 rfl) aq)) ⟨v,rows,st,rfl,hv,hG,hl,rfl⟩) ?_)
 refine ai (ba (TV.VJ (oa (i:=2) rfl hz) (aD HY (aa 2 rfl) Fb)) (λh=>by cases h) (λ_=>aL ?_))
 exact ak (pV 2 rfl hz rfl)
end
section
variable {Ld:List Oe}{lo m:Int}{R:Int->Prop}(hC:∀(n:Nat) (l:Int),l∈Ld.getD n []->R l->R (n:Int))
include hC
mutual
theorem bkT:∀(t:Th) (lp:Bool) (a:Nat) (wl pe:Int),cJ lo m lp t->dW Ld a (eE (a:Int) wl pe t)->R ((a+bw t:Nat):Int)->(lp=true->R wl)->R pe->∀i,i<bw t->R ((a+i:Nat):Int)
 | .Vl x,lp,a,wl,pe,h,hL,hn,hw,hp,i,hi=>by
   rw[eE] at hL
   simp only[bw] at hn hi
   obtain rfl:i=0:=by omega
   exact hC (a+0) ((a:Int)+1) (by rw[(hL.d (i:=0) rfl []).1];exact OF.mpr rfl) (by rw[show((a:Int)+1)=(((a+1:Nat)):Int) by push_cast;rfl];exact hn)
 | .call x,lp,a,wl,pe,h,hL,hn,hw,hp,i,hi=>by
   rw[eE] at hL
   simp only[bw] at hn hi
   obtain rfl:i=0:=by omega
   exact hC (a+0) ((a:Int)+1) (by rw[(hL.d (i:=0) rfl []).1];exact OF.mpr rfl) (by rw[show((a:Int)+1)=(((a+1:Nat)):Int) by push_cast;rfl];exact hn)
 | .leave,lp,a,wl,pe,h,hL,hn,hw,hp,i,hi=>by
   rw[eE] at hL
   simp only[bw] at hi
   simp only[cJ] at h
   obtain rfl:i=0:=by omega
   exact hC (a+0) wl (by rw[(hL.d (i:=0) rfl []).1];exact OF.mpr rfl) (hw h)
 | .back,lp,a,wl,pe,h,hL,hn,hw,hp,i,hi=>by
   rw[eE] at hL
   simp only[bw] at hi
   obtain rfl:i=0:=by omega
   exact hC (a+0) pe (by rw[(hL.d (i:=0) rfl []).1];exact OF.mpr rfl) hp
 | .UU x A,lp,a,wl,pe,h,hL,hn,hw,hp,i,hi=>by
   simp only[cJ] at h
   rw[eE] at hL
   simp only[bw] at hn hi
   obtain⟨d1,d2⟩:=hL.app
   obtain⟨d2,d3⟩:=d2.app
   rw[du] at d3
   simp only[OP,O8] at d2 d3
   have e1:=(d1.d (i:=0) rfl []).1
   have e3:=(d3.d (i:=0) rfl []).1
   have q2:(((a+(2+UC A):Nat)):Int)=(a:Int)+2+UC A:=by push_cast;omega
   have r0:R ((a+0:Nat):Int):=hC (a+0) ((a:Int)+2+UC A) (by rw[e1];exact OL _ (OF.mpr rfl)) (by rw[← q2];exact hn)
   have r3:R ((a+(0+1)+UC A+0:Nat):Int):=hC _ (a:Int) (by rw[e3];exact OF.mpr rfl) r0
   by_cases i0:i=0
   ·subst i0;exact r0
   by_cases i1:i<1+UC A
   ·have:=ye A true (a+(0+1)) ((a:Int)+2+UC A) pe h.2 (by push_cast;exact d2) r3 (λ_=>by rw[← q2];exact hn) hp (i-1) (by omega)
    rwa [show a+(0+1)+(i-1)=a+i by omega] at this
   ·obtain rfl:i=1+UC A:=by omega
    rwa [show a+(0+1)+UC A+0=a+(1+UC A) by omega] at r3
 | .ifs x A B,lp,a,wl,pe,h,hL,hn,hw,hp,i,hi=>by
   simp only[cJ] at h
   rw[eE,OZ] at hL
   simp only[bw] at hn hi
   obtain⟨d1,d2⟩:=hL.app
   obtain⟨d2,d3⟩:=d2.app
   obtain⟨d3,d4⟩:=d3.app
   obtain⟨d4,d5⟩:=d4.app
   rw[du] at d3 d4 d5
   rw[du] at d5
   simp only[OP,O8] at d2 d3 d4 d5
   have e1:=(d1.d (i:=0) rfl []).1
   have e3:=(d3.d (i:=0) rfl []).1
   have e5:=(d5.d (i:=0) rfl []).1
   have q5:(((a+(3+UC A+UC B):Nat)):Int)=(a:Int)+3+UC A+UC B:=by push_cast;omega
   have r5:R ((a+(0+1)+UC A+(0+1)+UC B+0:Nat):Int):=hC _ ((a:Int)+3+UC A+UC B) (by rw[e5];exact OF.mpr rfl) (by rw[← q5];exact hn)
   have r3:R ((a+(0+1)+UC A+0:Nat):Int):=hC _ ((a:Int)+2+UC A+UC B) (by rw[e3];exact OF.mpr rfl) (by
    rwa [show(((a+(0+1)+UC A+(0+1)+UC B+0:Nat)):Int)=(a:Int)+2+UC A+UC B by push_cast;omega] at r5)
   have q4:(((a+(0+1)+UC A+(0+1):Nat)):Int)=(a:Int)+2+UC A:=by push_cast;omega
   have rA:=ye A lp (a+(0+1)) wl pe h.2.1 (by push_cast;exact d2) r3 hw hp
   have rB:=ye B lp (a+(0+1)+UC A+(0+1)) wl pe h.2.2 (by rw[q4];exact d4) r5 hw hp
   have r1:R ((a+(0+1):Nat):Int):=by
    by_cases q:0<UC A
    ·exact rA 0 q
    ·rwa [show a+(0+1)+UC A+0=a+(0+1) by omega] at r3
   have r0:R ((a+0:Nat):Int):=hC (a+0) ((a:Int)+1) (by rw[e1];exact OM) (by
    have:(((a+(0+1):Nat)):Int)=(a:Int)+1:=by push_cast;omega
    rwa [this] at r1)
   by_cases i0:i=0
   ·subst i0;exact r0
   by_cases i1:i<1+UC A
   ·have:=rA (i-1) (by omega)
    rwa [show a+(0+1)+(i-1)=a+i by omega] at this
   by_cases i2:i=1+UC A
   ·subst i2
    rwa [show a+(0+1)+UC A+0=a+(1+UC A) by omega] at r3
   by_cases i3:i<2+UC A+UC B
   ·have:=rB (i-(2+UC A)) (by omega)
    rwa [show a+(0+1)+UC A+(0+1)+(i-(2+UC A))=a+i by omega] at this
   ·obtain rfl:i=2+UC A+UC B:=by omega
    rwa [show a+(0+1)+UC A+(0+1)+UC B+0=a+(2+UC A+UC B) by omega] at r5
theorem ye:∀(ts:List Th) (lp:Bool) (a:Nat) (wl pe:Int),bR lo m lp ts->dW Ld a (h9 (a:Int) wl pe ts)->R ((a+UC ts:Nat):Int)->(lp=true->R wl)->R pe->∀i,i<UC ts->R ((a+i:Nat):Int)
 | [],lp,a,wl,pe,h,hL,hn,hw,hp,i,hi=>by rw[UC] at hi;omega
 | t::ts,lp,a,wl,pe,h,hL,hn,hw,hp,i,hi=>by
   simp only[bR] at h
   rw[h9] at hL
   rw[UC] at hn hi
   obtain⟨d1,d2⟩:=hL.app
   rw[mV] at d2
   have r2:=ye ts lp (a+bw t) wl pe h.2.2 (by push_cast;exact d2) (by rwa [show a+bw t+UC ts=a+(bw t+UC ts) by omega]) hw hp
   have rn:R ((a+bw t:Nat):Int):=by
    by_cases q:0<UC ts
    ·exact r2 0 q
    ·rwa [show a+(bw t+UC ts)=a+bw t by omega] at hn
   by_cases q:i<bw t
   ·exact bkT t lp a wl pe h.1 d1 rn hw hp i q
   ·have:=r2 (i-bw t) (by omega)
    rwa [show a+bw t+(i-bw t)=a+i by omega] at this
end
end
section
variable {S:List aI}
def fG (s:gf)(n:Int):Int:=(bE ((dD s).getD (bO s n).toNat []) (s.St.getD n.toNat 0)).getD 0
theorem yY {es:Ol}{fs:Ol}(hx:∀a b,(a,b)∈es->(b,a)∈fs){a b:Int}(h:Fc.Reach es a b):Fc.Reach fs b a:=by
 have tr:∀{x y z:Int},Fc.Reach fs x y->Fc.Reach fs y z->Fc.Reach fs x z:=by
  intro x y z h1 h2
  induction h2 with
  | base=>exact h1
  | step _ hm ih=>exact ih.step hm
 induction h with
 | base=>exact .base
 | step _ hm ih=>exact tr (Fc.Reach.step .base (hx _ _ hm)) ih
theorem AQ {F:Ol}{n:Int}{ls:Oe}(h:dM S F n ls)(hr:bz (aQ S n)=false):ls.length<=1:=by
 cases h with
 | row h _=>
   rcases h with h | h
   ·rw[h] at hr;exact Ur hr (by decide +kernel)
   ·rw[h] at hr;exact Ur hr (by decide +kernel)
 | _=>simp
theorem rF {F:Ol}{n:Int}{ls:Oe}(h:dM S F n ls)(hr:bz (aQ S n)=true):ls.length=((cu c9 (aQ S n)).getD []).length:=by
 have no:∀{k:Str},bz k=true->bz k=false->False:=λa b=>by rw[a] at b;cases b
 cases h with
 | row h _=>rcases h with h | h<;>(rw[h];show 2=_;decide +kernel)
 | Xt h _=>rw[h] at hr;exact Ur hr (by decide +kernel)
 | Xj h _ _=>rw[h] at hr;exact Ur hr (by decide +kernel)
 | Xw h _ _=>rw[h] at hr;exact Ur hr (by decide +kernel)
 | Xr h _ _ _=>rw[h] at hr;exact Ur hr (by decide +kernel)
 | Xa h _ _ _=>rw[h] at hr;exact Ur hr (by decide +kernel)
 | Xs h _ _ _=>rw[h] at hr;exact Ur hr (by decide +kernel)
 | WQ h=>
   rcases h with h | h | h
   ·rw[h] at hr;exact Ur hr (by decide +kernel)
   ·rw[h];show 1=_;decide +kernel
   ·rw[h];show 1=_;decide +kernel
theorem wL {Ld:List Oe}{St:Oe}{n:Nat}{s:aI}(hs:S[n]?=some s)(hl:(Ld.getD n []).length=((cu c9 s.kind).getD []).length){l:Int}(hm:l∈Ld.getD n []):∃r∈gq S Ld St,r.1=(n:Int)/\r.2.1=St.getD l.toNat 0/\r.2.2.1∈(cu c9 s.kind).getD []/\r.2.2.2=s.name:=by
 obtain⟨i,hi⟩:=OR.mp hm
 have il:=(OD.mp hi).1
 have iw:i<((cu c9 s.kind).getD []).length:=by omega
 refine⟨m9 St ((n:Int),s) (((cu c9 s.kind).getD [])[i],l),Qu.mpr ⟨((n:Int),s),kW hs,?_⟩,rfl,rfl,O0 iw,rfl⟩
 unfold ee
 refine OO.mpr ⟨(((cu c9 s.kind).getD [])[i],l),?_,rfl⟩
 unfold jP
 rw[show(((n:Int),s).1).toNat=n by show((n:Nat):Int).toNat=n;omega]
 refine OK (i:=i) ?_
 rw[Qd]
 exact⟨OE iw,hi⟩
end
section
variable {Uy:Of}{Ls:List (List Th)}
variable {j:Nat}{z:Str×List Th}{n:Nat}
abbrev U4 (Uy:Of)(Ls:List (List Th)):de:=U8 (aM Uy Ls)
theorem kQ (h:cy Uy Ls)(hz:(cf Uy Ls)[j]?=some z)(h1:fst Uy Ls j<=n)(h2:n<=lst (fst Uy Ls j) z):fG (aM Uy Ls) (n:Int)=(bE (bS (aM Uy Ls) (i4 (fst Uy Ls j) z)) ((cF (ar Uy Ls) (cS Uy Ls)).getD n 0)).getD 0:=by
 unfold fG
 rw[fO h hz h1 h2,show((j:Nat):Int).toNat=j by omega,OG,gg h hz]
 rfl
theorem wN (h:cy Uy Ls)(hz:(cf Uy Ls)[j]?=some z)(h1:fst Uy Ls j<=n)(h2:n<lst (fst Uy Ls j) z){l:Int}(hl:l∈(cS Uy Ls).getD n []):((fst Uy Ls j:Nat):Int)<=l/\l<=((lst (fst Uy Ls j) z:Nat):Int)/\((fG (aM Uy Ls) (n:Int),fG (aM Uy Ls) l)∈fwd (U4 Uy Ls).2 (j:Int)∨fG (aM Uy Ls) (n:Int)=fG (aM Uy Ls) l):=by
 obtain⟨w,hb⟩:=fD (Uy:=Uy) (Ls:=Ls) hz
 obtain⟨VF,Wz,Xg,_⟩:=dN h hz
 have ll:lst (fst Uy Ls j) z<(ar Uy Ls).length:=(OD.mp hb.e).1
 have st:=hb.all gX VF n h1 h2
 obtain⟨r0,r1⟩:=st.rg l hl
 refine⟨by omega,r1,?_⟩
 have nl:n<(ar Uy Ls).length:=by omega
 have hs:(ar Uy Ls)[n]?=some (ar Uy Ls)[n]:=OE nl
 have Vt:aQ (ar Uy Ls) (n:Int)=((ar Uy Ls)[n]).kind:=(eT hs).1
 obtain⟨l',rfl⟩:∃l':Nat,l=(l':Int):=⟨l.toNat,by omega⟩
 have e1:=kQ h hz h1 (QO h2)
 have e2:=kQ h hz (n:=l') (by omega) (by omega)
 cases hr:bz (aQ (ar Uy Ls) (n:Int)) with
 | true=>
   left
   have hlen:=rF st.ld hr
   rw[Vt] at hlen
   obtain⟨r,YZ,a1,a2,_,_⟩:=wL (St:=cF (ar Uy Ls) (cS Uy Ls)) hs hlen hl
   rw[show((l':Nat):Int).toNat=l' by omega] at a2
   have YZ:r∈(aM Uy Ls).rows:=YZ
   have sh:=eU (S:=ar Uy Ls) (Ld:=cS Uy Ls) nl (.inr hr)
   refine OO.mpr ⟨c7 (aM Uy Ls) r,O2.mpr ⟨OO.mpr ⟨r,YZ,rfl⟩,?_⟩,?_⟩
   ·refine Uw ?_
    show bO _ r.1=_
    rw[a1];exact fO h hz h1 (QO h2)
   ·unfold c7
    dsimp only
    rw[a1,a2,fO h hz h1 (QO h2),show((j:Nat):Int).toNat=j by omega,OG,gg h hz,e1,e2,sh]
    rfl
 | false=>
   right
   have lo1:=AQ st.ld hr
   obtain⟨l0,rr,hL,hg⟩:=st.go hr
   rw[hL] at hl lo1
   have:rr=[]:=by
    cases rr with
    | nil=>rfl
    | cons _ _=>simp at lo1
   subst this
   have el:=OF.mp hl
   subst el
   have so:=nI nl hL hr (by omega) (by omega)
   rw[show((l':Nat):Int).toNat=l' by omega] at so
   rw[e1,e2,so]
   by_cases q:(n:Int)<(l':Int)
   ·rw[Ut q]
   ·rw[Us q,eU (by omega) (.inr (hg.resolve_left q))]
theorem uz (h:cy Uy Ls)(hz:(cf Uy Ls)[j]?=some z):(bS (aM Uy Ls) (i4 (fst Uy Ls j) z))[0]?=some ((cF (ar Uy Ls) (cS Uy Ls)).getD (fst Uy Ls j) 0,0):=by
 have pre:=lM (p:=(i4 (fst Uy Ls j) z)) (rs:=(aM Uy Ls).rows) (F:=[((aM Uy Ls).St.getD ((fst Uy Ls j:Nat):Int).toNat 0,0),(((lst (fst Uy Ls j) z:Nat):Int),1)])
 obtain⟨t,ht⟩:=pre
 unfold bS
 dsimp only
 rw[← ht,show((fst Uy Ls j:Nat):Int).toNat=fst Uy Ls j by omega]
 rfl
theorem oO (h:cy Uy Ls)(hz:(cf Uy Ls)[j]?=some z):fG (aM Uy Ls) ((fst Uy Ls j:Nat):Int)=0:=by
 rw[kQ h hz (QC _) (by show fst Uy Ls j<=fst Uy Ls j+1+UC z.2;omega),kI (v:=0) (fK h hz).nd (OK (uz h hz))]
 rfl
theorem yP (h:cy Uy Ls)(hz:(cf Uy Ls)[j]?=some z):fG (aM Uy Ls) ((lst (fst Uy Ls j) z:Nat):Int)=1:=by
 obtain⟨w,hb⟩:=fD (Uy:=Uy) (Ls:=Ls) hz
 have ll:lst (fst Uy Ls j) z<(ar Uy Ls).length:=(OD.mp hb.e).1
 have po:=fK h hz
 rw[kQ h hz (by show fst Uy Ls j<=fst Uy Ls j+1+UC z.2;omega) (QC _),eU ll (.inl hb.dl),kI (v:=1) po.nd (OK po.en)]
 rfl
theorem D1 {rs:List Row}{p a b:Int}(h:(a,b)∈fwd rs p):(b,a)∈bwd rs p:=by
 unfold fwd at h
 obtain⟨r,hr,e⟩:=OO.mp h
 unfold bwd
 refine OO.mpr ⟨r,hr,?_⟩
 have e1:r.2.1=a:=congrArg Prod.fst e
 have e2:r.2.2.1=b:=congrArg Prod.snd e
 rw[← e1,← e2]
theorem wD {rs:List Row}{p a b:Int}(h:(a,b)∈bwd rs p):(b,a)∈fwd rs p:=by
 unfold bwd at h
 obtain⟨r,hr,e⟩:=OO.mp h
 unfold fwd
 refine OO.mpr ⟨r,hr,?_⟩
 have e1:r.2.2.1=a:=congrArg Prod.fst e
 have e2:r.2.1=b:=congrArg Prod.snd e
 rw[← e1,← e2]
theorem zO (h:cy Uy Ls)(hz:(cf Uy Ls)[j]?=some z)(h1:fst Uy Ls j<=n)(h2:n<=lst (fst Uy Ls j) z):Fc.Reach (bwd (U4 Uy Ls).2 (j:Int)) 1 (fG (aM Uy Ls) (n:Int)):=by
 obtain⟨w,hb⟩:=fD (Uy:=Uy) (Ls:=Ls) hz
 obtain⟨VF,Wz,Xg,_⟩:=dN h hz
 let R:Int->Prop:=λn=>((fst Uy Ls j:Nat):Int)<=n->n<=((lst (fst Uy Ls j) z:Nat):Int)->Fc.Reach (bwd (U4 Uy Ls).2 (j:Int)) 1 (fG (aM Uy Ls) n)
 have hC:∀(n:Nat) (l:Int),l∈(cS Uy Ls).getD n []->R l->R (n:Int):=λn l hl hR q1 q2=>by
  by_cases q:n=lst (fst Uy Ls j) z
  ·rw[q,hb.dl] at hl;cases hl
  ·obtain⟨c1,c2,c3⟩:=wN h hz (n:=n) (by omega) (by omega) hl
   have:=hR c1 c2
   rcases c3 with c3 | c3
   ·exact this.step (D1 c3)
   ·rw[c3];exact this
 have rl:R ((lst (fst Uy Ls j) z:Nat):Int):=λ_ _=>by rw[yP h hz];exact .base
 have all:=ye (R:=R) hC z.2 false (fst Uy Ls j+1) 0 ((lst (fst Uy Ls j) z:Nat):Int) VF hb.d rl (λq=>by cases q) rl
 have rf1:R ((fst Uy Ls j+1:Nat):Int):=by
  by_cases q:0<UC z.2
  ·exact all 0 q
  ·have:lst (fst Uy Ls j) z=fst Uy Ls j+1:=by show fst Uy Ls j+1+UC z.2=_;omega
   rwa [this] at rl
 have rf:R ((fst Uy Ls j:Nat):Int):=hC (fst Uy Ls j) ((fst Uy Ls j:Int)+1) (by rw[hb.df];exact OF.mpr rfl) (by
  have:(((fst Uy Ls j+1:Nat)):Int)=(fst Uy Ls j:Int)+1:=by push_cast;rfl
  rwa [this] at rf1)
 have fin:R (n:Int):=by
  by_cases q1:n=fst Uy Ls j
  ·rw[q1];exact rf
  by_cases q2:n=lst (fst Uy Ls j) z
  ·rw[q2];exact rl
  have XQ:n<fst Uy Ls j+1+UC z.2:=QN h2 q2
  have:=all (n-(fst Uy Ls j+1)) (by omega)
  rwa [show fst Uy Ls j+1+(n-(fst Uy Ls j+1))=n by omega] at this
 exact fin (by omega) (by omega)
open Classical in
theorem xD (h:cy Uy Ls)(hG:Good (aM Uy Ls)){j n:Nat}{z:Str×List Th}(hz:(cf Uy Ls)[j]?=some z)(h1:fst Uy Ls j<=n)(h2:n<=lst (fst Uy Ls j) z)(hk:aQ (ar Uy Ls) (n:Int)∈UW):Fc.Reach (fwd (U4 Uy Ls).2 (j:Int)) 0 (fG (aM Uy Ls) (n:Int)):=by
 let Q:Int->Prop:=λn=>Fc.Reach (fwd (U4 Uy Ls).2 (bO (aM Uy Ls) n)) 0 (fG (aM Uy Ls) n)
 obtain⟨w,hb⟩:=fD (Uy:=Uy) (Ls:=Ls) hz
 have ll:lst (fst Uy Ls j) z<(ar Uy Ls).length:=(OD.mp hb.e).1
 let fd:Oe:=(ups 0 (ar Uy Ls).length).filter λn=>decide (Q n)
 have inn:∀{n:Nat},n<(ar Uy Ls).length->Q (n:Int)->(n:Int)∈fd:=λ{n} hn hq=>O2.mpr ⟨by unfold ups;exact OO.mpr ⟨n,Pm.mpr hn,by omega⟩,Uw hq⟩
 have hR:Reach (aM Uy Ls) fd:=by
  refine⟨λp hp=>?_,λx hx l hl=>?_⟩
  ·obtain⟨j',z',w',VX,Vv,rfl⟩:=jU h hp
   have fl:fst Uy Ls j'<(ar Uy Ls).length:=(OD.mp Vv.nm).1
   refine inn fl ?_
   show Fc.Reach _ 0 (fG _ _)
   rw[oO h VX];exact .base
  ·obtain⟨hx1,W5⟩:=O2.mp hx
   have W5:Q x:=Uu W5
   unfold ups at hx1
   obtain⟨i,hi,rfl⟩:=OO.mp hx1
   have hi:=Pm.mp hi
   rw[show(0:Int)+(i:Int)=(i:Int) by omega] at W5 hl
   rw[show((i:Nat):Int).toNat=i by omega] at hl
   have hl:l∈(cS Uy Ls).getD i []:=hl
   obtain⟨j',z',w',VX,Vv,q1,q2,_⟩:=iu h i hi
   have Xx:i≠lst (fst Uy Ls j') z':=λe=>by rw[e,Vv.dl] at hl;cases hl
   have q2'':i<lst (fst Uy Ls j') z':=QN q2 Xx
   obtain⟨c1,c2,c3⟩:=wN h VX q1 q2'' hl
   have ll':lst (fst Uy Ls j') z'<(ar Uy Ls).length:=(OD.mp Vv.e).1
   obtain⟨l',rfl⟩:∃l':Nat,l=(l':Int):=⟨l.toNat,by omega⟩
   refine inn (by omega) ?_
   have pi:=fO h VX q1 q2
   have pl:=fO h VX (n:=l') (by omega) (by omega)
   show Fc.Reach (fwd (U4 Uy Ls).2 (bO (aM Uy Ls) (l':Int))) 0 (fG (aM Uy Ls) (l':Int))
   have W5:Fc.Reach (fwd (U4 Uy Ls).2 (bO (aM Uy Ls) (i:Int))) 0 (fG (aM Uy Ls) (i:Int)):=W5
   rw[pl]
   rw[pi] at W5
   rcases c3 with c3 | c3
   ·exact W5.step c3
   ·rw[← c3];exact W5
 have:=hG.ct fd hR n (show n<(ar Uy Ls).length by omega) hk
 have hq:Q (n:Int):=Uu (O2.mp this).2
 have hq:Fc.Reach (fwd (U4 Uy Ls).2 (bO (aM Uy Ls) (n:Int))) 0 (fG (aM Uy Ls) (n:Int)):=hq
 rwa [fO h hz h1 h2] at hq
open Classical in
theorem ID (h:cy Uy Ls)(hG:Good (aM Uy Ls)){j:Nat}{z:Str×List Th}(hz:(cf Uy Ls)[j]?=some z):mh (U4 Uy Ls).2 (j:Int) ((bS (aM Uy Ls) (i4 (fst Uy Ls j) z)).length:Int)=true:=by
 obtain⟨w,hb⟩:=fD (Uy:=Uy) (Ls:=Ls) hz
 obtain⟨VF,Wz,Xg,_⟩:=dN h hz
 have jl:=(OD.mp hz).1
 have zl:=lZ h
 have ll:lst (fst Uy Ls j) z<(ar Uy Ls).length:=(OD.mp hb.e).1
 have fl:fst Uy Ls j<=lst (fst Uy Ls j) z:=by show fst Uy Ls j<=fst Uy Ls j+1+UC z.2;omega
 have po:=fK h hz
 have Xk:=xI h hG
 have YC:(U4 Uy Ls).1.getD j 0=((bS (aM Uy Ls) (i4 (fst Uy Ls j) z)).length:Int):=by
  unfold U4 U8
  rw[OG,OJ,gg h hz];rfl
 have pis:=λn h1 h2=>kQ h hz (n:=n) h1 h2
 generalize hF:bS (aM Uy Ls) (i4 (fst Uy Ls j) z)=F at po YC pis
 have ge:=po.ge
 have in_f:∀a b,(a,b)∈fwd (U4 Uy Ls).2 (j:Int)->(0<=a/\a<(F.length:Int))/\(0<=b/\b<(F.length:Int)):=λa b VZ=>by
  unfold fwd at VZ
  obtain⟨r,hr,e⟩:=OO.mp VZ
  obtain⟨Y0,V4⟩:=O2.mp hr
  have V4:r.1=(j:Int):=Uu V4
  obtain⟨_,b1,b2,_⟩:=Xk.rw r Y0
  rw[V4,show((j:Nat):Int).toNat=j by omega,YC] at b1 b2
  have e1:r.2.1=a:=congrArg Prod.fst e
  have e2:r.2.2.1=b:=congrArg Prod.snd e
  rw[← e1,← e2]
  exact⟨b1,b2⟩
 have key:∀i:Nat,i<F.length->i≠1->∃n:Nat,fst Uy Ls j<=n/\n<=lst (fst Uy Ls j) z/\aQ (ar Uy Ls) (n:Int)∈UW/\fG (aM Uy Ls) (n:Int)=(i:Int):=λi il i1=>by
  have Zv:F[i]?=some F[i]:=OE il
  have hv:=po.ix i _ Zv
  have VT:F[i]∈F:=O0 il
  obtain⟨a1,a2,a3⟩:=po.kp _ (OO.mpr ⟨_,VT,rfl⟩)
  have UJ:F[i].1≠((lst (fst Uy Ls j) z:Nat):Int):=λc=>by
   have g1:(F.map (·.1))[i]?=some F[i].1:=by rw[OJ,Zv];rfl
   have g2:(F.map (·.1))[1]?=some ((lst (fst Uy Ls j) z:Nat):Int):=by rw[OJ,po.en];rfl
   rw[c] at g1
   obtain⟨x1,y1⟩:=OD.mp g1
   obtain⟨x2,y2⟩:=OD.mp g2
   exact i1 ((P0 po.nd).mp (y1.trans y2.symm))
  have VS:=a3.resolve_left UJ
  obtain⟨n,hn⟩:∃n:Nat,F[i].1=(n:Int):=⟨F[i].1.toNat,by omega⟩
  rw[hn] at a1 a2 VS
  refine⟨n,by omega,by omega,tf VS,?_⟩
  rw[pis n (by omega) (by omega),eU (by omega) (.inr VS),kI (v:=(i:Int)) po.nd (by
   have:F[i]=((n:Int),(i:Int)):=Q1 hn hv
   rw[← this];exact VT)]
  rfl
 have r01:Fc.Reach (fwd (U4 Uy Ls).2 (j:Int)) 0 1:=by
  have:=zO h hz (QC _) fl
  rw[oO h hz] at this
  exact yY (λa b=>wD) this
 unfold mh mi
 rw[Oq]
 refine⟨Uw ⟨ups 0 F.length,qQ _,λk=>⟨λhk=>?_,λhk=>?_⟩,by rw[a9]⟩,Uw ⟨ups 0 F.length,qQ _,λk=>⟨λhk=>?_,λhk=>?_⟩,by rw[a9]⟩⟩
 ·obtain⟨k0,k1⟩:=mO.mp hk
  obtain⟨i,rfl⟩:∃i:Nat,k=(i:Int):=⟨k.toNat,by omega⟩
  by_cases i1:i=1
  ·rw[i1];exact r01
  ·obtain⟨n,n1,n2,n3,n4⟩:=key i (by omega) i1
   rw[← n4];exact xD h hG hz n1 n2 n3
 ·refine mO.mpr (Fc.Reach.sub (P:=λk=>0<=k/\k<(F.length:Int)) ⟨OB _,by omega⟩ (λa b _ VZ=>(in_f a b VZ).2) hk)
 ·obtain⟨k0,k1⟩:=mO.mp hk
  obtain⟨i,rfl⟩:∃i:Nat,k=(i:Int):=⟨k.toNat,by omega⟩
  by_cases i1:i=1
  ·rw[i1];exact .base
  ·obtain⟨n,n1,n2,n3,n4⟩:=key i (by omega) i1
   rw[← n4];exact zO h hz n1 n2
 ·refine mO.mpr (Fc.Reach.sub (P:=λk=>0<=k/\k<(F.length:Int)) ⟨by omega,by omega⟩ (λa b _ VZ=>(in_f b a (wD VZ)).1) hk)
end
end K1
namespace K1
open PySem L2 Fc
open PySem.Spec hiding Row
open PyProof.Rows hiding St
open PySem.Builtin.Int (intBits)
variable {P:Rh}{w:World}{K:T2}{mg:Oc}{base:Heap}{f:Addr}{fd:Rm}
section
variable {Uy:Of}{Ls:List (List Th)}
theorem yi {Uy:Of}(nd:Uy.Nodup){c:Nat}{x:Str}(h:Uy[c]?=some x):ju Uy x=c:=by
 have h1:=(oZ (OK h)).1
 obtain⟨l1,e1⟩:=OD.mp h1
 obtain⟨l2,e2⟩:=OD.mp h
 exact(P0 nd).mp (e1.trans e2.symm)
theorem DN (h:cy Uy Ls){j n:Nat}{z:Str×List Th}(hz:(cf Uy Ls)[j]?=some z){w:Int}(hb:eG (ar Uy Ls) (cS Uy Ls) Uy (fst Uy Ls j) w z)(h1:fst Uy Ls j<n)(h2:n<lst (fst Uy Ls j) z){t:aI}(ht:(ar Uy Ls)[n]?=some t)(hk:t.kind="call"):∃c:Nat,j<c/\c<Ls.length/\Uy[c]?=some t.name:=by
 have XQ:n<fst Uy Ls j+1+UC z.2:=h2
 have hi:n-(fst Uy Ls j+1)<(cK Uy (((fst Uy Ls j+1:Nat)):Int) (w+2) (fst Uy Ls j:Int) z.2).length:=by rw[cC];omega
 have hs:=hb.s _ _ (OE hi)
 rw[show fst Uy Ls j+1+(n-(fst Uy Ls j+1))=n by omega,ht] at hs
 have ko:=iY (Uy:=Uy) z.2 false _ _ _ (dN h hz).1 _ (O0 hi)
 rw[← Option.some.inj hs] at ko
 obtain⟨c,c1,c2,c3⟩:=ko.cl hk
 have Wo:c.toNat<Uy.length:=by rw[h.l];omega
 refine⟨c.toNat,by omega,by omega,?_⟩
 rw[c3,OE Wo,OG,OE Wo];rfl
theorem BO (h:cy Uy Ls){q:Rw}(hq:q∈(aM Uy Ls).rows):(c7 (aM Uy Ls) q).2.1≠1/\((c7 (aM Uy Ls) q).2.2.2= -1∨((c7 (aM Uy Ls) q).1<(c7 (aM Uy Ls) q).2.2.2/\(c7 (aM Uy Ls) q).2.2.2<(Ls.length:Int))):=by
 obtain⟨j,z,hz,e,hi⟩:=n9 h hq
 obtain⟨w,hb⟩:=fD (Uy:=Uy) (Ls:=Ls) hz
 have po:=fK h hz
 obtain⟨k1,k2⟩:=lH hi hq (F:=[((aM Uy Ls).St.getD ((fst Uy Ls j:Nat):Int).toNat 0,0),(((lst (fst Uy Ls j) z:Nat):Int),1)])
 obtain⟨i1,e1,l1',f1⟩:=po.ix.val k1
 have eF:(dD (aM Uy Ls)).getD (bO (aM Uy Ls) q.1).toNat []=bS (aM Uy Ls) (i4 (fst Uy Ls j) z):=by
  rw[e,show((j:Nat):Int).toNat=j by omega,OG,gg h hz];rfl
 unfold lW at hi
 rw[Oq] at hi
 have i1':((fst Uy Ls j:Nat):Int)<q.1:=Uu hi.1
 have i2':q.1<((lst (fst Uy Ls j) z:Nat):Int):=Uu hi.2
 have w1:(c7 (aM Uy Ls) q).1=(j:Int):=e
 have w2:(c7 (aM Uy Ls) q).2.1=(i1:Int):=by unfold c7;dsimp only;rw[eF,e1];rfl
 refine⟨?_,?_⟩
 ·rw[w2]
  intro c
  have:i1=1:=by omega
  rw[this] at f1
  rw[po.en] at f1
  have:=congrArg Prod.fst (Option.some.inj f1)
  have:((lst (fst Uy Ls j) z:Nat):Int)=q.1:=this
  omega
 ·rw[w1]
  show(if q.2.2.1="call" then(ju ((aM Uy Ls).parts.map (·.1)) q.2.2.2:Int) else -1)= -1∨_<(if q.2.2.1="call" then(ju ((aM Uy Ls).parts.map (·.1)) q.2.2.2:Int) else -1)/\(if q.2.2.1="call" then(ju ((aM Uy Ls).parts.map (·.1)) q.2.2.2:Int) else -1)<_
  by_cases c:q.2.2.1="call"
  ·rw[Ut c]
   obtain⟨n,s,l,g1,g2,g3,g4,g5,g6,g7⟩:=qW hq
   rw[c] at g6
   have hk:=rH g6
   rw[g2] at i1' i2'
   obtain⟨d,d1,d2,d3⟩:=DN h hz hb (n:=n) (by omega) (by omega) g1 hk
   have en:(aM Uy Ls).parts.map (·.1)=Uy:=oi h
   rw[en,g7,yi h.nd d3]
   exact .inr ⟨by omega,by omega⟩
  ·rw[Us c];exact .inl rfl
theorem xU (h:cy Uy Ls)(hG:Good (aM Uy Ls)){p:Nat}(p1:1<=p)(p2:p<Ls.length):∃r∈(U4 Uy Ls).2,r.2.2.2=(p:Int):=by
 have en:(aM Uy Ls).parts.map (·.1)=Uy:=oi h
 have pl:(aM Uy Ls).parts.length=Ls.length:=iZ h
 have XF:(aM Uy Ls).parts[p]?=some ((aM Uy Ls).parts[p]'(by omega)):=OE (by omega)
 have hnp:Uy[p]?=some ((aM Uy Ls).parts[p]'(by omega)).1:=by
  conv=>lhs;rw[← en]
  rw[OJ,XF];rfl
 obtain⟨t,ht,hk,hn⟩:=hG.nc _ (OR.mpr ⟨p-1,by rw[QB,show 1+(p-1)=p by omega];exact XF⟩)
 obtain⟨n,Yq⟩:=OR.mp ht
 have Yq:(ar Uy Ls)[n]?=some t:=Yq
 have nl:=(OD.mp Yq).1
 obtain⟨j,z,w,hz,hb,q1,q2,_⟩:=iu h n nl
 have Vt:aQ (ar Uy Ls) (n:Int)="call":=by rw[(eT Yq).1,hk]
 have n2:n≠lst (fst Uy Ls j) z:=λe=>by
  rw[e,(eT hb.e).1] at Vt
  exact Ur Vt (show("end":Str)≠"call" by decide +kernel)
 obtain⟨VF,_⟩:=dN h hz
 have st:=hb.all gX VF n q1 (QN q2 n2)
 have hr:bz (aQ (ar Uy Ls) (n:Int))=true:=by rw[Vt];decide +kernel
 have hlen:=rF st.ld hr
 have UJ:=uQ st.ld hr
 rw[(eT Yq).1] at hlen
 obtain⟨l,hl⟩:=List.exists_mem_of_ne_nil _ UJ
 obtain⟨r,YZ,a1,a2,a3,a4⟩:=wL (St:=cF (ar Uy Ls) (cS Uy Ls)) Yq hlen hl
 refine⟨c7 (aM Uy Ls) r,OO.mpr ⟨r,YZ,rfl⟩,?_⟩
 rw[hk] at a3
 have a3:r.2.2.1="call":=by
  have:(cu c9 "call").getD []=[("call":Str)]:=by decide +kernel
  rw[this] at a3;exact OF.mp a3
 show(if r.2.2.1="call" then(ju ((aM Uy Ls).parts.map (·.1)) r.2.2.2:Int) else -1)=_
 rw[Ut a3,en,a4,hn,yi h.nd hnp]
theorem JD (h:cy Uy Ls)(hG:Good (aM Uy Ls)):xT (U4 Uy Ls):=by
 have Xk:=xI h hG
 have pl:=Xk.pl
 have p1:=Xk.p1
 have rl:=Xk.rl
 have vl:(U4 Uy Ls).1.length=Ls.length:=by unfold U4 U8;rw[OH];exact vm h
 have r1:1<=(U4 Uy Ls).2.length:=by
  obtain⟨n,r,hn,_⟩:=Xk.fr 0 0 (by omega) (by have:=Xk.two (p:=0) (OB _) (by omega);exact Int.lt_of_lt_of_le (by decide) this) (by decide)
  have nn:n<(U4 Uy Ls).2.length:=(OD.mp hn).1
  show 1<=(U4 Uy Ls).2.length
  exact QF (QE n) nn
 refine⟨pl,by show(U4 Uy Ls).2.length<=60;have:(U4 Uy Ls).2.length<=30:=rl;omega,?_⟩
 have s1:j3 (U4 Uy Ls)=true:=by
  unfold j3
  rw[Us (by
   rw[Uw (show(1:Int)<=((U4 Uy Ls).1.length:Int) by have:1<=(U4 Uy Ls).1.length:=p1;omega),Uw (show((U4 Uy Ls).1.length:Int)<=4 by have:(U4 Uy Ls).1.length<=4:=pl;omega),Uw (show(1:Int)<=((U4 Uy Ls).2.length:Int) by omega),Uw (show((U4 Uy Ls).2.length:Int)<=60 by have:(U4 Uy Ls).2.length<=30:=rl;omega)]
   decide),Pq]
  intro b hb
  obtain⟨n,hn,rfl⟩:=OO.mp hb
  have:=Xk.sz n (O2.mp hn).1
  show(decide ((2:Int)<=n)&&decide (n<=16))=true
  rw[Uw this.1,Uw this.2];rfl
 have s2:(((U4 Uy Ls).2.filter λ_=>true).map (ji (U4 Uy Ls).1)).all id=true:=by
  rw[Pq]
  intro b hb
  obtain⟨r,hr,rfl⟩:=OO.mp hb
  have hr:=(O2.mp hr).1
  obtain⟨a1,a2,a3,a4⟩:=Xk.rw r hr
  obtain⟨q,hq,e⟩:=OO.mp hr
  obtain⟨m1,m2⟩:=BO h hq
  rw[e] at m1 m2
  show ji (U4 Uy Ls).1 r=true
  unfold ji
  rw[Us (by rw[Uw a1.1,Uw a1.2];decide),Us (by rw[Uw a2.1,Uw a2.2,Uw a3.1,Uw a3.2];decide),Ux m1]
  rw[← vl] at m2
  rcases m2 with m2 | m2
  ·rw[Uw m2];rfl
  ·rw[Uw m2.1,Uw m2.2];simp
 have s3:(((ups (0+1) (((U4 Uy Ls).1.length:Int)-(0+1)).toNat).filter λ_=>true).map (called (U4 Uy Ls).2)).all id=true:=by
  rw[Pq]
  intro b hb
  obtain⟨p,hp,rfl⟩:=OO.mp hb
  have hp:=(O2.mp hp).1
  obtain⟨i,hi⟩:=OR.mp hp
  obtain⟨il,rfl⟩:=ef hi
  obtain⟨r,hr,er⟩:=xU h hG (p:=i+1) (by omega) (by omega)
  show called (U4 Uy Ls).2 _=true
  unfold called
  rw[Qa]
  exact⟨true,OO.mpr ⟨r,O2.mpr ⟨hr,rfl⟩,Uw (by rw[er];push_cast;omega)⟩,rfl⟩
 have s4:(((nums (U4 Uy Ls).1).filter λ_=>true).map λx=>mh (U4 Uy Ls).2 x.1 x.2).all id=true:=by
  rw[Pq]
  intro b hb
  obtain⟨x,hx,rfl⟩:=OO.mp hb
  have hx:=(O2.mp hx).1
  obtain⟨i,hi⟩:=OR.mp hx
  obtain⟨e1,e2⟩:=eJ hi
  have il:=(OD.mp e2).1
  have zl:=lZ h
  have hz:(cf Uy Ls)[i]?=some ((cf Uy Ls)[i]'(by omega)):=OE (by omega)
  show mh (U4 Uy Ls).2 x.1 x.2=true
  have ex:x.2=((bS (aM Uy Ls) (((cf Uy Ls)[i]'(by omega)).1,((fst Uy Ls i:Nat):Int),((lst (fst Uy Ls i) ((cf Uy Ls)[i]'(by omega)):Nat):Int))).length:Int):=by
   unfold U4 U8 at e2
   rw[OJ,gg h hz] at e2
   exact(Option.some.inj e2).symm
  rw[e1,ex]
  exact ID h hG hz
 unfold lI
 rw[Us (by rw[s1];decide),Us (by rw[s2];decide),Us (by rw[s3];decide)]
 exact s4
end
theorem DV {v:de}(hv:fX v){ans:Oe}(ha:lq ans=true):∀(n:Nat) (s:mn),dE v s.1 s.2.2->dE v (fB v ans n s).1 (fB v ans n s).2.2/\((fB v ans n s).2.1="ended"↔(fB v ans n s).2.2=[]):=by
 have n1:("bound":Str)≠"ended":=by decide
 have n2:("wanting":Str)≠"ended":=by decide
 intro n
 induction n with
 | zero=>
   intro s h
   by_cases q:s.2.2=[]
   ·rw[oR q];rw[q] at h;exact⟨h,λ_=>rfl,λ_=>rfl⟩
   ·rw[vB q];exact⟨h,λe=>Ur e n1,λe=>Ur e q⟩
 | succ n ih=>
   intro s h
   by_cases q:s.2.2=[]
   ·rw[oR q];rw[q] at h;exact⟨h,λ_=>rfl,λ_=>rfl⟩
   cases q2:lU v ans s with
   | none=>rw[pU q q2];exact⟨h,λe=>Ur e n2,λe=>Ur e q⟩
   | some s'=>
     rw[pT q q2]
     refine ih s' ?_
     unfold lU at q2
     obtain⟨c,hc,rfl⟩:=QX.mp q2
     have cm:=wA hv ha (h.ok hv).1 q hc
     obtain⟨c0,c1,_⟩:=vC cm
     refine h.snoc ⟨c0,c1,q,?_⟩
     unfold d0 mM at cm
     exact Uu (O2.mp cm).2
theorem qR:∀xs:Ol,PV.gR (xs.map iD)<=1
 | []=>by rw[Qv,PV.gR];omega
 | x::xs=>by
   have:=qR xs
   rw[Pc,PV.gR]
   have e:PV.deep (iD x)=1:=by unfold iD;simp[PV.deep,PV.gR]
   omega
theorem z7 (xs:Ol):(PV.lst (xs.map iD)).deep<=9:=by
 have:=qR xs
 rw[PV.deep];omega
theorem Iu {A:Ri}{k n:Nat}(hr:bI k A)(h:n<=9):A.units+n<cLine:=by have:=hr.un;omega
theorem zy {v:de}{ans:Oe}{n:Int}:(fB v ans n.toNat W3).1.length<=n.toNat:=by
 obtain⟨ex,h1,h2⟩:=sM (v:=v) (ans:=ans) n.toNat W3
 rw[h1,OI]
 show 0+ex.length<=_
 omega
section
abbrev oT:Stmt:=top FZ
abbrev nLA:Of:=["_law_script","_law_names","_law_lists","_law_text_here","_law_answers_here","_law_web","_law_bounds","_law_k","_law_bound","_law_gone","_law_word","_law_stack","_law_ahead"]
theorem IS:ay nLA ["_law_script"] (ag oT):=UY
def tU:bQ:=λK ps T=>∃ns:Oe,ps=[⟨bB,ns⟩]/\ns.length<=63/\(∀n∈ns,intBits n<=2 ^ 20)/\T=bL K bF (· =true)
theorem Ky (M:cb K mg)(CM:aA P w K mg base "_law_mixed" 1 (aE DB K))(CD:aA P w K mg base "_law_drawn" 17 (aE M9 K))(CT:aA P w K mg base "_law_text" 7 (aE Mx K))(CA:aA P w K mg base "_law_answers" 2 (aE Mm K))(CO:aA P w K mg base "web_of" 7 (aE IF K))(CW:aA P w K mg base "walked" 8 (aE Hr K))(CI:aA P w K mg base "is_run" 7 (aE IX K))(CS:aA P w K mg base "stood" 7 (aE Hy K))(F:dH K "law" "law" oT f fd):dY P w K mg base d7 18 f fd ["_law_script"] (aE tU K):=by
 have nd:=IS.nd
 have CM:=CM.mono (show 1<=17 by decide)
 have CT:=CT.mono (show 7<=17 by decide)
 have CA:=CA.mono (show 2<=17 by decide)
 have CO:=CO.mono (show 7<=17 by decide)
 have CW:=CW.mono (show 8<=17 by decide)
 have CI:=CI.mono (show 7<=17 by decide)
 have CS:=CS.mono (show 7<=17 by decide)
 refine Fz (k:=17) F IS (λqs T ⟨_,e,_⟩=>by rw[e];rfl) (λUE A outer s H E qs T hr hS=>?_)
 obtain⟨ns,rfl,h63,Wc,rfl⟩:=hS
 have hs:wu ns:=⟨h63,Wc⟩
 change WS _ _ [.im bB ns,.no,.no,.no,.no,.no,.no,.no,.no,.no,.no,.no,.no] _ _
 refine ai (GV 1 2 (aB CD hr (af (aa 0 rfl) (af ev_int aq)) ⟨ns,0,rfl,hs,OB _,by decide,rfl⟩) ?_)
 have hP:=E8 ns 0
 generalize Vu ns 0=Uy at hP
 generalize VL ns 0=Ls at hP
 change WS _ _ [.im bB ns,.im (ae aj) Uy,.im (ae (ae ax)) (Ls.map bA),.no,.no,.no,.no,.no,.no,.no,.no,.no,.no] _ _
 refine ai (aU 3 (y:=TJ " " (jd Uy Ls)) (aB CT hr (af (aa 1 rfl) (af (aa 2 rfl) aq)) ⟨Uy,Ls,rfl,hP,rfl⟩) ?_)
 refine ai (bV 4 (r:=ah) (ys:=Wd ns 300) (ir CA hr (af (aa 0 rfl) (af ev_int aq)) ⟨ns,300,rfl,hs,by decide,by decide,rfl⟩) ?_)
 have al:=uc ns 300
 have ab:=Ff (An ns 300)
 refine WS.freeze 4 rfl (aH (by omega)) ?_
 generalize Wd ns 300=ans at al ab
 obtain⟨hk,hG⟩:=uo hP
 have hwb:=Dq hP
 have hv:=xI hP hG
 have ht:=JD hP hG
 have hx:=EX hP
 refine ai (aU 5 (r:=c8) (y:=U4 Uy Ls) (aB CO hr (af (aa 3 rfl) aq) ⟨_,ar Uy Ls,cS Uy Ls,rfl,hx,hk,hG,hwb,rfl⟩) ?_)
 have walk:∀(bound:Int),0<=bound->bound<=2000->Hr K [⟨aj,TJ " " (jd Uy Ls)⟩,⟨ae ah,ans⟩,⟨ah,bound⟩] (bL K ax (· =Jj (fB (U4 Uy Ls) ans bound.toNat W3))):=λbound h2 h3=>⟨_,ans,bound,ar Uy Ls,cS Uy Ls,rfl,hx,hk,hG,hwb,hv,ab,h2,QD zy (by omega),rfl⟩
 have hv:fX (U4 Uy Ls):=hv
 generalize U4 Uy Ls=v at walk hv ht
 generalize TJ " " (jd Uy Ls)=x at walk
 refine ai (bV 6 (r:=ah) (ys:=[2000]) (aR (av ev_int aT) (by show 1<=Ra;decide)) ?_)
 change WS _ _ [.im bB ns,.im (ae aj) Uy,.im (ae (ae ax)) (Ls.map bA),.im aj x,bP ans,.im c8 v,.mu ah [2000],.no,.no,.no,.no,.no,.no] _ _
 refine bN (N1:=λΓ=>∃(bs:Oe) (e7:Ent),Γ=[.im bB ns,.im (ae aj) Uy,.im (ae (ae ax)) (Ls.map bA),.im aj x,bP ans,.im c8 v,.mu ah bs,e7,.no,.no,.no,.no,.no]/\bs.length<=100/\∀b∈bs,0<=b/\b<=2000) (bX (λi Γ=>∃(bs:Oe) (e7:Ent),Γ=[.im bB ns,.im (ae aj) Uy,.im (ae (ae ax)) (Ls.map bA),.im aj x,bP ans,.im c8 v,.mu ah bs,e7,.no,.no,.no,.no,.no]/\bs.length<=i+1/\∀b∈bs,0<=b/\b<=2000) (dg M.range (qi M.min (af ev_int (af (mX M.len (aa 0 rfl)) aq))) ⟨by omega,by omega⟩) (aO 7) ⟨[2000],_,rfl,QC _,λb hb=>by rw[OF.mp hb];decide⟩ (λi j Γ hj hΓ=>?_) (λΓ hΓ=>?_)) ?_
 ·obtain⟨bs,e7,rfl,bl,bb⟩:=hΓ
  obtain⟨jl,ej⟩:=ef hj
  have jl:i<100:=by omega
  obtain rfl:j=(i:Int):=by omega
  refine ak (dR 6 (y:=aK ns (350+(i:Int))%80) (cH (aB CM hr (af (aa 0 rfl) (af (cg ev_int (aa 7 rfl)) aq)) ⟨ns,350+(i:Int),rfl,hs,by omega,by omega,rfl⟩) ev_int (by decide)) rfl rfl (QF (show bs.length<=200 by omega) (by decide)) ⟨_,_,rfl,?_,λb hb=>?_⟩)
  ·rw[OI,O4];omega
  ·rcases OS.mp hb with hb | hb
   ·exact bb b hb
   ·rw[OF.mp hb];omega
 ·obtain⟨bs,e7,rfl,bl,bb⟩:=hΓ
  refine⟨bs,e7,rfl,?_,bb⟩
  rw[a9] at bl
  omega
 rintro _ ⟨bs,e7,rfl,bl,bb⟩
 refine WS.freeze 6 rfl (aH (by omega)) ?_
 refine bN (N1:=λΓ=>True) (bX (λi Γ=>∃e7 e8 e9 e10 e11 Xu,Γ=[.im bB ns,.im (ae aj) Uy,.im (ae (ae ax)) (Ls.map bA),.im aj x,bP ans,.im c8 v,bP bs,e7,e8,e9,e10,e11,Xu]) (bG (aa 6 rfl)) (aO 8) ⟨_,_,_,_,_,_,rfl⟩ (λi b Γ hb hΓ=>?_) (λΓ hΓ=>trivial)) (λ_ _=>ak (aN fh rfl))
 obtain⟨e7,e8,e9,e10,e11,Xu,rfl⟩:=hΓ
 obtain⟨b0,b1⟩:=bb b (OK hb)
 have hw:=walk b b0 b1
 have few:=zy (v:=v) (ans:=ans) (n:=b)
 obtain⟨hg,hi⟩:=DV hv ab b.toNat W3 .nil
 generalize hR:fB v ans b.toNat W3=R at hw few hg hi
 have rl:R.1.length<=2000:=by omega
 change WS _ _ [.im bB ns,.im (ae aj) Uy,.im (ae (ae ax)) (Ls.map bA),.im aj x,bP ans,.im c8 v,bP bs,e7,ao b,e9,e10,e11,Xu] _ _
 refine ai (FO 9 10 11 (y1:=.lst (R.1.map PV.int)) (y2:=.str R.2.1) (y3:=.lst (R.2.2.map iD)) (aB CW hr (af (aa 3 rfl) (af (aW.im (nR M.list (aa 4 rfl))) (af (aa 8 rfl) aq))) hw) ?_)
 change WS _ _ [.im bB ns,.im (ae aj) Uy,.im (ae (ae ax)) (Ls.map bA),.im aj x,bP ans,.im c8 v,bP bs,e7,ao b,.im ax (.lst (R.1.map PV.int)),.im ax (.str R.2.1),.im ax (.lst (R.2.2.map iD)),Xu] _ _
 have em:R.2.2.isEmpty=decide (R.2.1="ended"):=by
  by_cases q:R.2.1="ended"
  ·rw[Uw q,hi.mp q];rfl
  ·rw[Ux q]
   cases h2:R.2.2 with
   | nil=>exact Ur (hi.mpr h2) q
   | cons a b=>rfl
 refine ai (ba (k:=false) (TV.cast (TW.tv (fQ (x:=false) (y:=false) (TV.cast (aD Ci (aB CI hr (af (aa 5 rfl) (af (aW.im (nR M.list (EV.tw (xs:=R.1) (aa 9 rfl)))) aq)) ⟨v,R.1,R.2.2,rfl,ht,hv,hg,by omega,rfl⟩) (dm cv (EV.sP (x:=R.2.1) (aa 10 rfl)) aG)) (by rw[em];simp)) (λ_=>fc (aD (Gs (x:=.lst (R.2.2.map iD)) (.inr ⟨_,rfl⟩) (Iu hr (z7 _))) (EV.CQ (aW.im (ir CS hr (af (aa 5 rfl) (af (aW.im (nR M.list (EV.tw (xs:=R.1) (aa 9 rfl)))) aq)) ⟨v,R.1,R.2.2,rfl,ht,hv,hg,by omega,rfl⟩))) (aa 11 rfl))))) rfl) (λh=>by cases h) (λ_=>aL ?_))
 refine ai (ba (k:=false) (TV.cast (TW.tv (fQ (x:=false) (y:=false) (TV.cast (aD Ci (dm cv (EV.sP (x:=R.2.1) (aa 10 rfl)) aG) (dm (xX (r':=ah) (Mg hr)) (EV.lP (aa 11 rfl)) (aW.im (aR aT (by decide))))) (by rw[show(R.2.2.map iD).isEmpty=R.2.2.isEmpty by cases R.2.2<;>rfl,em];simp)) (λ_=>fc (TV.cast (aD gP (cX M.len (EV.tw (xs:=R.1) (aa 9 rfl))) (aa 8 rfl)) (Ux (by omega)))))) rfl) (λh=>by cases h) (λ_=>aL ?_))
 refine ak (bX (λi Γ=>∃e7 Xu,Γ=[.im bB ns,.im (ae aj) Uy,.im (ae (ae ax)) (Ls.map bA),.im aj x,bP ans,.im c8 v,bP bs,e7,ao b,.im ax (.lst (R.1.map PV.int)),.im ax (.str R.2.1),.im ax (.lst (R.2.2.map iD)),Xu]) (dg M.range (qi M.min (af ev_int (af (cX M.len (EV.tw (xs:=R.1) (aa 9 rfl))) aq))) ⟨by omega,by omega⟩) (aO 7) ⟨_,_,rfl⟩ (λk j Γ hj hΓ=>?_) (λΓ hΓ=>?_))
 ·obtain⟨e7,Xu,rfl⟩:=hΓ
  obtain⟨jl,ej⟩:=ef hj
  obtain rfl:j=(k:Int):=by omega
  have kl:k<R.1.length:=by omega
  have hck:R.1[k]?=some R.1[k]:=OE kl
  generalize R.1[k]=c at hck
  have Wq:dE v ((R.1.take k++[c])++R.1.drop (k+1)) R.2.2:=by
   have:R.1.take k++[c]=R.1.take (k+1):=by rw[Pg,hck];rfl
   rw[this,Po];exact hg
  obtain⟨s1,h1⟩:=dE.pre (rows:=R.1.take k++[c]) Wq rfl
  obtain⟨s0,h0,hc,_⟩:=h1.last
  obtain⟨_,sl⟩:=h0.ok hv
  rw[OY] at sl
  change WS _ _ [.im bB ns,.im (ae aj) Uy,.im (ae (ae ax)) (Ls.map bA),.im aj x,bP ans,.im c8 v,bP bs,ao (k:Int),ao b,.im ax (.lst (R.1.map PV.int)),.im ax (.str R.2.1),.im ax (.lst (R.2.2.map iD)),Xu] _ _
  refine ai (bV 12 (r:=dk) (ys:=s0) (ir CS hr (af (aa 5 rfl) (af (aW.im (jb (EV.tw (xs:=R.1) (aa 9 rfl)) ov_none (ov_some (aa 7 rfl)))) aq)) ⟨v,_,s0,rfl,ht,hv,by rw[zR (by omega)];exact h0,by have:=oE R.1 none (some (k:Int));omega,rfl⟩) ?_)
  have VS:bU v.2 c=some (rowOf v c):=aV oj hc.k0 hc.k1
  have Vn:bU R.1 (k:Int)=some c:=by rw[aV (xs:=R.1) 0 (by omega) (by omega),OG,show((k:Nat):Int).toNat=k by omega,hck];rfl
  refine ak (ba (k:=false) (TV.cast (aD (Lj eq_int eq_int (Iu hr (by decide)) (Iu hr (by decide))) (kD 12 (fM ev_int) rfl rfl (jF (lD hc.ne))) (gI (af (iF (aY (dU (aa 5 rfl)) (aY (EV.tw (xs:=R.1) (aa 9 rfl)) (aa 7 rfl) Vn) VS)) (af (ij (aY (dU (aa 5 rfl)) (aY (EV.tw (xs:=R.1) (aa 9 rfl)) (aa 7 rfl) Vn) VS)) aq)))) ?_) (λh=>by cases h) (λ_=>aL ?_))
  ·rw[← lN hc.ne,← hc.at_];simp
  ·exact⟨_,_,rfl⟩
 ·obtain⟨e7,Xu,rfl⟩:=hΓ
  exact⟨_,_,_,_,_,_,rfl⟩
end
section
variable {h:Heap}{oc:Value}{od an:Option Addr}{V3:Array Og}{doc pm UE ct:Value}{x:Str}{t1 t2:Tok}{p1:Str}{st:Stmt}{p2:Str}
def xr (K:T2)(mg:Oc):Prop:=∃C fi Wr,bH K C gT/\Mk K C fi/\mg "Step"=some (.ref C)/\dH K "__init__" "Step.__init__" qP fi Wr/\Binds K Wr tL []
def xS (K:T2)(mg:Oc):Prop:=∃C fi Wr,bH K C fA/\Mk K C fi/\mg "Spots"=some (.ref C)/\dH K "__init__" "Spots.__init__" rJ fi Wr/\Binds K Wr sA []
structure Top (P:Rh) (w:World) (K:T2) (mg:Oc):Prop where
 M:cb K mg
 M2:kg K mg
 M3:iL mg
 M4:hZ mg
 M5:rY mg
 RW:lj P w K mg "ROW_WORDS" c9
 SC:xr K mg
 PC:xS K mg
 MX:Def K mg "_law_mixed" Aj ["_law_script","_law_k"]
 PL:Def K mg "_law_pull" Jf ["_law_pen"]
 NM:Def K mg "_law_name" FE ["_law_number"]
 PA:Def K mg "_law_passes" FD ["_law_items"]
 TH:Def K mg "_law_thing" Du ["_law_pen","_law_depth","_law_loops","_law_calls"]
 LS:Def K mg "_law_list" nh ["_law_pen","_law_depth","_law_loops","_law_calls"]
 DR:Def K mg "_law_drawn" GY ["_law_script","_law_start"]
 WD:Def K mg "_law_words" JE ["_law_items","_law_names"]
 TX:Def K mg "_law_text" Ju ["_law_names","_law_lists"]
 IN:Def K mg "is_name" CK ["word"]
 NB:Def K mg "name_behind" Hc ["words","word"]
 MS:Def K mg "may_stand" GD ["kind","opened"]
 RD:Def K mg "read" Cb ["text"]
 CS:Def K mg "closing_steps" JF ["steps"]
 AR:Def K mg "around" Jb ["steps","number","kind"]
 LF:Def K mg "leads_from" Io ["steps","closing","number"]
 LI:Def K mg "leads_in" DE ["steps"]
 PI:Def K mg "parts_in" Ct ["steps"]
 ST:Def K mg "stands_in" Fv ["steps","leads"]
 RI:Def K mg "rows_in" Gi ["steps","leads","stands"]
 NW:Def K mg "name_words" Cr ["spots","parts"]
 NA:Def K mg "named_again" yD ["spots"]
 CA:Def K mg "called_astray" FY ["spots"]
 CT:Def K mg "come_to" Dg ["spots"]
 NC:Def K mg "not_come_to" zQ ["spots"]
 NL:Def K mg "not_called" zK ["spots"]
 EB:Def K mg "ended_at_begin" CJ ["spots"]
 RB:Def K mg "rows_beyond" Cd ["spots"]
 PL2:Def K mg "places_in" AY ["spots","part"]
 PY:Def K mg "places_beyond" yj ["spots"]
 PB:Def K mg "parts_beyond" Ft ["spots"]
 HI:Def K mg "hindrances" Je ["spots"]
 NP:Def K mg "need_program" Jw ["text"]
 RV:Def K mg "rows_leaving" C7 ["web","part"]
 IW:Def K mg "is_whole" Jm ["value"]
 AW:Def K mg "are_whole" yW ["values"]
 NQ:Def K mg "need_answers" Co ["answers","bound"]
 AB:Def K mg "at_begin" Ia ["part"]
 GO:Def K mg "go" x8 ["stack","row"]
 PA2:Def K mg "part_at" xO ["spots","number"]
 WO:Def K mg "web_of" vP ["text"]
 WJ:Def K mg "walked" Dv ["text","answers","bound"]
 AN:Def K mg "_law_answers" FQ ["_law_script","_law_k"]
 RF:Def K mg "has_row_form" Ij ["row"]
 WF:Def K mg "has_web_form" B7 ["web"]
 WZ:Def K mg "has_web_sizes" Ca ["web"]
 LW:Def K mg "leads_within" F6 ["places","row"]
 IC:Def K mg "is_called" Dy ["rows","part"]
 RE:Def K mg "reached" F3 ["leads","start"]
 LO:Def K mg "lies_on_ways" zw ["rows","part","size"]
 WE:Def K mg "is_web" vZ ["web"]
 NWw:Def K mg "need_web" Bw ["web"]
 RWq:Def K mg "is_row" Bt ["web","number"]
 CGq:Def K mg "can_go" AX ["web","stack","number"]
 SBq:Def K mg "stack_behind" BS ["web","rows"]
 ROq:Def K mg "is_run_of" BD ["web","rows"]
 IRq:Def K mg "is_run" BJ ["web","rows"]
 STq:Def K mg "stood" Av ["web","rows"]
theorem Hf {P:Rh}{base:Heap}{fd:Rm}(T:Top P w K mg)(F:dH K "law" "law" oT f fd):dY P w K mg base d7 18 f fd ["_law_script"] (aE tU K):=by
 have M:=T.M
 have M2:=T.M2
 have M3:=T.M3
 have M4:=T.M4
 have MW:=K2 M M3 M4 T.M5
 obtain⟨C,fi,Wr,HC,MK,hMg,FI,bi⟩:=T.SC
 obtain⟨D,fj,fdj,HD,MD,hMd,FJ,bj⟩:=T.PC
 have GS:wX P w K mg base C:=⟨HC,⟨fi,Wr,MK,JZ HC FI,bi⟩,hMg⟩
 have MX:=LN (P:=P) (w:=w) (base:=base) M T.MX
 have PL:=Kw (P:=P) (w:=w) (base:=base) MX T.PL
 have NM:=K4 (P:=P) (w:=w) (base:=base) M T.NM
 obtain⟨_,_,F1,m1,b1⟩:=T.PA
 have PA:=Lo (P:=P) (w:=w) (base:=base) F1 m1 b1 5
 obtain⟨_,_,FTH,mTH,bTH⟩:=T.TH
 obtain⟨_,_,F1,m1,b1⟩:=T.LS
 have LS:=LP (P:=P) (w:=w) (base:=base) M PL PA (xC M PL NM 4 (λm h=>by cases h;exact CV M PL NM PA F1 m1 b1 FTH mTH bTH 3) FTH mTH bTH) T.LS
 obtain⟨_,_,F1,m1,b1⟩:=T.DR
 have DR:=KJ (P:=P) (w:=w) (base:=base) M PL NM LS F1 m1 b1
 obtain⟨_,_,F1,m1,b1⟩:=T.WD
 have WD:=Ly (P:=P) (w:=w) (base:=base) F1 m1 b1 5
 have TX:=LD (P:=P) (w:=w) (base:=base) M WD T.TX
 have IN:=Kr (P:=P) (w:=w) (base:=base) M M2 T.IN
 have NB:=KY (P:=P) (w:=w) (base:=base) M IN T.NB
 have MS:=Le (P:=P) (w:=w) (base:=base) M2 T.MS
 have RD:=LY (P:=P) (w:=w) (base:=base) M M2 GS MS NB T.RD
 have CS:=Lb (P:=P) (w:=w) (base:=base) M M2 HC T.CS
 have AR:=Ko (P:=P) (w:=w) (base:=base) HC T.AR
 have LF:=Kz (P:=P) (w:=w) (base:=base) HC AR T.LF
 have LI:=LC (P:=P) (w:=w) (base:=base) M CS LF T.LI
 have PI:=Ln (P:=P) (w:=w) (base:=base) M HC CS T.PI
 have ST:=Kf (P:=P) (w:=w) (base:=base) M HC T.RW T.ST
 have RI:=LU (P:=P) (w:=w) (base:=base) M HC T.RW T.RI
 have GP:sE P w K mg base C D:=⟨HD,⟨fj,fdj,MD,J2 HD RD PI LI ST RI FJ,bj⟩,hMd⟩
 have NW:=LA (P:=P) (w:=w) (base:=base) (C:=C) (D:=D) T.NW
 have NA:=KH (P:=P) (w:=w) (base:=base) M HD NW T.NA
 have CA:=K8 (P:=P) (w:=w) (base:=base) M HC HD T.CA
 obtain⟨_,_,F1,m1,b1⟩:=T.CT
 have CT:=Lc (P:=P) (w:=w) (base:=base) (C:=C) M HD F1 m1 b1
 obtain⟨_,_,F1,m1,b1⟩:=T.NC
 have NC:=KP (P:=P) (w:=w) (base:=base) M M2 HC HD CT F1 m1 b1
 have NL:=Kn (P:=P) (w:=w) (base:=base) M HC HD NW T.NL
 have EB:=KO (P:=P) (w:=w) (base:=base) HD NW T.EB
 have RB:=LV (P:=P) (w:=w) (base:=base) (C:=C) M3 HD T.RB
 have PL2:=FG (P:=P) (w:=w) (base:=base) (C:=C) M M3 HD T.PL2
 obtain⟨_,_,F1,m1,b1⟩:=T.PY
 have PY:=J6 (P:=P) (w:=w) (base:=base) M M3 HD NW CT PL2 F1 m1 b1
 have PB:=Ku (P:=P) (w:=w) (base:=base) M3 HD NW T.PB
 have HI:=Ka (P:=P) (w:=w) (base:=base) NA CA NC NL EB RB PY PB T.HI
 have NP:=KI (P:=P) (w:=w) (base:=base) GP HI T.NP
 have RV:=Lh (P:=P) (w:=w) (base:=base) true M T.RV
 have IW:=Lq (P:=P) (w:=w) (base:=base) M M4 T.IW
 obtain⟨_,_,F1,m1,b1⟩:=T.AW
 have AW:=KS (P:=P) (w:=w) (base:=base) M M4 IW F1 m1 b1
 obtain⟨_,_,F1,m1,b1⟩:=T.NQ
 have NQ:=Ki (P:=P) (w:=w) (base:=base) M M4 IW AW F1 m1 b1
 have AB:=Kl (P:=P) (w:=w) (base:=base) M3 T.AB
 have GO:=Ll (P:=P) (w:=w) (base:=base) M3 M4 AB T.GO
 have PA2:=Hl (P:=P) (w:=w) (base:=base) (C:=C) M HD T.PA2
 obtain⟨_,_,F1,m1,b1⟩:=T.WO
 have WO:=Li (P:=P) (w:=w) (base:=base) M M4 HD NP PL2 PA2 F1 m1 b1
 obtain⟨_,_,F1,m1,b1⟩:=T.WJ
 have WJ:=KZ (P:=P) (w:=w) (base:=base) M M4 WO NQ RV AB GO F1 m1 b1
 have AN:=LG (P:=P) (w:=w) (base:=base) M MX T.AN
 have RF:=KU (P:=P) (w:=w) (base:=base) MW AW T.RF
 have WF:=L0 (P:=P) (w:=w) (base:=base) MW AW RF T.WF
 have WZ:=Kv (P:=P) (w:=w) (base:=base) MW T.WZ
 have LW:=Lz (P:=P) (w:=w) (base:=base) MW T.LW
 have IC:=KC (P:=P) (w:=w) (base:=base) MW T.IC
 obtain⟨_,_,F1,m1,b1⟩:=T.RE
 have RE:=Kt (P:=P) (w:=w) (base:=base) F1 m1 b1
 have LO:=KA (P:=P) (w:=w) (base:=base) MW RE T.LO
 have WE:=Kk (P:=P) (w:=w) (base:=base) MW WF WZ LW IC LO T.WE
 have NWw:=JG (P:=P) (w:=w) (base:=base) WE T.NWw
 have RWq:=JM (P:=P) (w:=w) (base:=base) M IW T.RWq
 have CGq:=Jq (P:=P) (w:=w) (base:=base) RWq T.CGq
 have SBq:=GR (P:=P) (w:=w) (base:=base) M M4 AB CGq GO T.SBq
 have ROq:=Gq (P:=P) (w:=w) (base:=base) SBq T.ROq
 have IRq:=Fu (P:=P) (w:=w) (base:=base) NWw ROq T.IRq
 have STq:=Hz (P:=P) (w:=w) (base:=base) NWw SBq T.STq
 exact Ky M MX DR TX AN WO WJ IRq STq F
theorem ou {xs:Of}{g:Addr}{gd:Option Addr}{gn:Nat}{gs:Array Og}{UD:Array Value}(KX:K.In h)(G:h.Ns Rf mg)(a:T3 K Rf x=some (some (.ref g)))(l:K.lookup g=some ⟨.type "tuple",gd,.seq UD gn,gs⟩)(z:UD.size<=Ra)(v:Vals (xs.map V.str) UD.toList):qx K mg x xs:=⟨g,_,_,_,T5 KX G a,l,rfl,rfl,z,v⟩
theorem DK (KX:K.In h)(G:h.Ns Rf mg)
 (b1:T3 K Rf "len"=some none) (b2:T3 K Rf "min"=some none) (b3:T3 K Rf "range"=some none) (b4:T3 K Rf "int"=some none) (b5:T3 K Rf "list"=some none) (b6:T3 K Rf "zip"=some none) (b7:T3 K Rf "enumerate"=some none) (b8:T3 K Rf "reversed"=some none) (b9:T3 K Rf "any"=some none) (b10:T3 K Rf "all"=some none):cb K mg:=
 ⟨T6 KX G b1,T6 KX G b2,T6 KX G b3,T6 KX G b4,T6 KX G b5,T6 KX G b6,T6 KX G b7,T6 KX G b8,T6 KX G b9,T6 KX G b10⟩
theorem AL (KX:K.In h)(G:h.Ns Rf mg){s1_1 s1_2 s1_3 s1_4 s1_5 s2_1 s2_2 s2_3 s2_4 s2_5 s2_6 s3_1 s3_2 s3_3 s3_4 s4_1 s4_2:Tok}{g1 g2 g3 g4:Addr}{d1 d2 d3 d4:Option Addr}{n1 n2 n3 n4:Nat}{e1 e2 e3 e4:Array Og}
 (a1:T3 K Rf "MOST_LETTERS"=some (some (.int 8 t1))) (a2:T3 K Rf "NO_STEP"=some (some (.int (-1) t2)))
 (c1:T3 K Rf "NAMED"=some (some (.ref g1))) (l1:K.lookup g1=some ⟨.type "tuple",d1,.seq #[.str "part" s1_1,.str "do" s1_2,.str "call" s1_3,.str "if" s1_4,.str "while" s1_5] n1,e1⟩) (c2:T3 K Rf "SENTENCES"=some (some (.ref g2))) (l2:K.lookup g2=some ⟨.type "tuple",d2,.seq #[.str "do" s2_1,.str "call" s2_2,.str "if" s2_3,.str "while" s2_4,.str "leave" s2_5,.str "back" s2_6] n2,e2⟩) (c3:T3 K Rf "OPENING"=some (some (.ref g3))) (l3:K.lookup g3=some ⟨.type "tuple",d3,.seq #[.str "part" s3_1,.str "if" s3_2,.str "else" s3_3,.str "while" s3_4] n3,e3⟩) (c4:T3 K Rf "CLOSING"=some (some (.ref g4))) (l4:K.lookup g4=some ⟨.type "tuple",d4,.seq #[.str "else" s4_1,.str "end" s4_2] n4,e4⟩):kg K mg:=
 ⟨⟨_,T5 KX G a1⟩,⟨_,T5 KX G a2⟩,ou KX G c1 l1 (by show 5<=Ra;decide) (.cons ⟨s1_1,rfl⟩ (.cons ⟨s1_2,rfl⟩ (.cons ⟨s1_3,rfl⟩ (.cons ⟨s1_4,rfl⟩ (.cons ⟨s1_5,rfl⟩ (.nil)))))),ou KX G c2 l2 (by show 6<=Ra;decide) (.cons ⟨s2_1,rfl⟩ (.cons ⟨s2_2,rfl⟩ (.cons ⟨s2_3,rfl⟩ (.cons ⟨s2_4,rfl⟩ (.cons ⟨s2_5,rfl⟩ (.cons ⟨s2_6,rfl⟩ (.nil))))))),ou KX G c3 l3 (by show 4<=Ra;decide) (.cons ⟨s3_1,rfl⟩ (.cons ⟨s3_2,rfl⟩ (.cons ⟨s3_3,rfl⟩ (.cons ⟨s3_4,rfl⟩ (.nil))))),ou KX G c4 l4 (by show 2<=Ra;decide) (.cons ⟨s4_1,rfl⟩ (.cons ⟨s4_2,rfl⟩ (.nil)))⟩
theorem Bk (KX:K.In h)(G:h.Ns Rf mg){t3 t4 t5:Tok}(a1:T3 K Rf "BEGIN"=some (some (.int 0 t1)))(a2:T3 K Rf "END"=some (some (.int 1 t2)))(a3:T3 K Rf "MOST_PARTS"=some (some (.int 4 t3)))(a4:T3 K Rf "MOST_PLACES"=some (some (.int 16 t4)))(a5:T3 K Rf "MOST_PROGRAM_ROWS"=some (some (.int 30 t5))):iL mg:=
 ⟨⟨_,T5 KX G a1⟩,⟨_,T5 KX G a2⟩,⟨_,T5 KX G a3⟩,⟨_,T5 KX G a4⟩,⟨_,T5 KX G a5⟩⟩
theorem Ao (KX:K.In h)(G:h.Ns Rf mg){t3 t4 t5 t6:Tok}(b1:T3 K Rf "isinstance"=some none)(b2:T3 K Rf "bool"=some none)(b3:T3 K Rf "max"=some none)(a1:T3 K Rf "NO_CALL"=some (some (.int (-1) t1)))(a2:T3 K Rf "FIRST_PART"=some (some (.int 0 t2)))(a3:T3 K Rf "YES"=some (some (.int 1 t3)))(a4:T3 K Rf "ENDED"=some (some (.str "ended" t4)))(a5:T3 K Rf "BOUND"=some (some (.str "bound" t5)))(a6:T3 K Rf "WANTING"=some (some (.str "wanting" t6))):hZ mg:=
 ⟨T6 KX G b1,T6 KX G b2,T6 KX G b3,⟨_,T5 KX G a1⟩,⟨_,T5 KX G a2⟩,⟨_,T5 KX G a3⟩,⟨_,T5 KX G a4⟩,⟨_,T5 KX G a5⟩,⟨_,T5 KX G a6⟩⟩
theorem Bj (KX:K.In h)(G:h.Ns Rf mg)(a1:T3 K Rf "LEAST_PLACES"=some (some (.int 2 t1)))(a2:T3 K Rf "MOST_ROWS"=some (some (.int 60 t2)))(b1:T3 K Rf "tuple"=some none):rY mg:=
 ⟨⟨_,T5 KX G a1⟩,⟨_,T5 KX G a2⟩,T6 KX G b1⟩
theorem eu {kV:Value}(KX:K.In h)(G:h.Ns Rf mg)(a:T3 K Rf x=some (some (.ref f)))(l:K.lookup f=some ⟨oc,od,.func (T7 x x (cQ st) (bu st) (ag st) .none kV doc pm an UE ct),V3⟩)(c:Ua K UE x=true)(k:T8 K (.ref f)=true)
 (b:∀(kV doc pm:Value) (an:Option Addr) (UE ct u1:Value),So (T7 x x (cQ st) (bu st) (ag st) .none kV doc pm an UE ct) ⟨[u1],[]⟩=pure [(p1,u1)]:=by intros;rfl):Def K mg x st [p1]:=oF KX G a l c k λkV doc pm an UE ct us h=>match us,h with | [u1],_=>b kV doc pm an UE ct u1
theorem fT {kV:Value}(KX:K.In h)(G:h.Ns Rf mg)(a:T3 K Rf x=some (some (.ref f)))(l:K.lookup f=some ⟨oc,od,.func (T7 x x (cQ st) (bu st) (ag st) .none kV doc pm an UE ct),V3⟩)(c:Ua K UE x=true)(k:T8 K (.ref f)=true)
 (b:∀(kV doc pm:Value) (an:Option Addr) (UE ct u1 u2:Value),So (T7 x x (cQ st) (bu st) (ag st) .none kV doc pm an UE ct) ⟨[u1,u2],[]⟩=pure [(p1,u1),(p2,u2)]:=by intros;rfl):Def K mg x st [p1,p2]:=oF KX G a l c k λkV doc pm an UE ct us h=>match us,h with | [u1,u2],_=>b kV doc pm an UE ct u1 u2
theorem wc {p3:Str}{kV:Value}(KX:K.In h)(G:h.Ns Rf mg)(a:T3 K Rf x=some (some (.ref f)))(l:K.lookup f=some ⟨oc,od,.func (T7 x x (cQ st) (bu st) (ag st) .none kV doc pm an UE ct),V3⟩)(c:Ua K UE x=true)(k:T8 K (.ref f)=true)
 (b:∀(kV doc pm:Value) (an:Option Addr) (UE ct u1 u2 u3:Value),So (T7 x x (cQ st) (bu st) (ag st) .none kV doc pm an UE ct) ⟨[u1,u2,u3],[]⟩=pure [(p1,u1),(p2,u2),(p3,u3)]:=by intros;rfl):Def K mg x st [p1,p2,p3]:=oF KX G a l c k λkV doc pm an UE ct us h=>match us,h with | [u1,u2,u3],_=>b kV doc pm an UE ct u1 u2 u3
theorem L7 {p3 p4:Str}{kV:Value}(KX:K.In h)(G:h.Ns Rf mg)(a:T3 K Rf x=some (some (.ref f)))(l:K.lookup f=some ⟨oc,od,.func (T7 x x (cQ st) (bu st) (ag st) .none kV doc pm an UE ct),V3⟩)(c:Ua K UE x=true)(k:T8 K (.ref f)=true)
 (b:∀(kV doc pm:Value) (an:Option Addr) (UE ct u1 u2 u3 u4:Value),So (T7 x x (cQ st) (bu st) (ag st) .none kV doc pm an UE ct) ⟨[u1,u2,u3,u4],[]⟩=pure [(p1,u1),(p2,u2),(p3,u3),(p4,u4)]:=by intros;rfl):Def K mg x st [p1,p2,p3,p4]:=oF KX G a l c k λkV doc pm an UE ct us h=>match us,h with | [u1,u2,u3,u4],_=>b kV doc pm an UE ct u1 u2 u3 u4
theorem D9 {P:Rh}(KX:K.In h)(G:h.Ns Rf mg){d v1 v2 v3 v4:Addr}{k1 k2 k3 k4 s1_1 s2_1 s3_1 s3_2 s4_1 s4_2:Tok}{ep n1 n2 n3 n4:Nat}{d1 d2 d3 d4:Option Addr}{l1 l2 l3 l4:Array Og}
 (a:T3 K Rf "ROW_WORDS"=some (some (.ref d))) (l:K.lookup d=some ⟨.type "dict",none,.dict #[⟨Tv w.params "do",.str "do" k1,.ref v1⟩,⟨Tv w.params "call",.str "call" k2,.ref v2⟩,⟨Tv w.params "if",.str "if" k3,.ref v3⟩,⟨Tv w.params "while",.str "while" k4,.ref v4⟩] ep, #[]⟩) (sm:(d==Rx)=false)
 (u1:K.lookup v1=some ⟨.type "tuple",d1,.seq #[.str "do" s1_1] n1,l1⟩) (u2:K.lookup v2=some ⟨.type "tuple",d2,.seq #[.str "call" s2_1] n2,l2⟩) (u3:K.lookup v3=some ⟨.type "tuple",d3,.seq #[.str "yes" s3_1,.str "no" s3_2] n3,l3⟩) (u4:K.lookup v4=some ⟨.type "tuple",d4,.seq #[.str "yes" s4_1,.str "no" s4_2] n4,l4⟩):lj P w K mg "ROW_WORDS" c9:=by
 refine⟨d,_,[((Sum.inr "do":Key),.ref v1),((Sum.inr "call":Key),.ref v2),((Sum.inr "if":Key),.ref v3),((Sum.inr "while":Key),.ref v4)],T5 KX G a,l,⟨_,_,⟨rfl,rfl,rfl⟩,rfl,λe he=>?_,?_,by show OX [(Sum.inr "do":Key),(Sum.inr "call":Key),(Sum.inr "if":Key),(Sum.inr "while":Key)];decide⟩,sm,?_⟩
 ·simp only[List.mem_toArray,OT,O9,or_false] at he
  rcases he with rfl | rfl | rfl | rfl
  ·exact⟨Sum.inr "do",dy P w "do" k1,rfl⟩
  ·exact⟨Sum.inr "call",dy P w "call" k2,rfl⟩
  ·exact⟨Sum.inr "if",dy P w "if" k3,rfl⟩
  ·exact⟨Sum.inr "while",dy P w "while" k4,rfl⟩
 ·exact .cons (dy P w "do" k1) rfl (.cons (dy P w "call" k2) rfl (.cons (dy P w "if" k3) rfl (.cons (dy P w "while" k4) rfl (.nil))))
 ·exact .cons ⟨rfl,v1,_,_,_,rfl,u1,rfl,rfl,(by show 1<=Ra;decide),.cons ⟨s1_1,rfl⟩ (.nil)⟩ (.cons ⟨rfl,v2,_,_,_,rfl,u2,rfl,rfl,(by show 1<=Ra;decide),.cons ⟨s2_1,rfl⟩ (.nil)⟩ (.cons ⟨rfl,v3,_,_,_,rfl,u3,rfl,rfl,(by show 2<=Ra;decide),.cons ⟨s3_1,rfl⟩ (.cons ⟨s3_2,rfl⟩ (.nil))⟩ (.cons ⟨rfl,v4,_,_,_,rfl,u4,rfl,rfl,(by show 2<=Ra;decide),.cons ⟨s4_1,rfl⟩ (.cons ⟨s4_2,rfl⟩ (.nil))⟩ (.nil))))
theorem step_mk (KX:K.In h)(G:h.Ns Rf mg){C:Addr}{kV:Value}(aC:T3 K Rf "Step"=some (some (.ref C)))(a1:T4 K (.ref C) "__init__"=some (some (.ref f)))(i1:Uo K (.ref f)=true)
 (l1:K.lookup f=some ⟨oc,od,.func (T7 "__init__" "Step.__init__" (cQ qP) (bu qP) (ag qP) .none kV doc pm an UE ct),V3⟩) (c1:Ua K UE "Step.__init__"=true) (k1:T8 K (.ref f)=true) (pg:Ue K C Str.empty=true) (hd:Ud K C=true) (po:Ug K C=true) (sa:T4 K (.ref C) "__setattr__"=some (some (.builtin "object.__setattr__"))) (mk:Uh K C=true) (kc:T8 K (.ref C)=true)
 (o1:T4 K (.ref C) "kind"=some none) (o2:T4 K (.ref C) "name"=some none) (o3:T4 K (.ref C) "word"=some none) (o4:T4 K (.ref C) "within"=some none):xr K mg:=by
 refine⟨C,f,_,⟨⟨pg,hd,po,sa⟩,λx hx=>?_⟩,⟨mk,a1,i1,kc⟩,T5 KX G aC,jR (st:=qP) l1 c1 k1,(jR (st:=qP) l1 c1 k1).binds (ps:=tL) λ_ _ _ _ _ _ us hl=>match us,hl with | [_,_,_,_,_],_=>rfl⟩
 simp only[gT,OT,O9,or_false] at hx
 rcases hx with rfl | rfl | rfl | rfl
 ·exact o1
 ·exact o2
 ·exact o3
 ·exact o4
theorem E6 (KX:K.In h)(G:h.Ns Rf mg){C:Addr}{kV:Value}(aC:T3 K Rf "Spots"=some (some (.ref C)))(a1:T4 K (.ref C) "__init__"=some (some (.ref f)))(i1:Uo K (.ref f)=true)
 (l1:K.lookup f=some ⟨oc,od,.func (T7 "__init__" "Spots.__init__" (cQ rJ) (bu rJ) (ag rJ) .none kV doc pm an UE ct),V3⟩) (c1:Ua K UE "Spots.__init__"=true) (k1:T8 K (.ref f)=true) (pg:Ue K C Str.empty=true) (hd:Ud K C=true) (po:Ug K C=true) (sa:T4 K (.ref C) "__setattr__"=some (some (.builtin "object.__setattr__"))) (mk:Uh K C=true) (kc:T8 K (.ref C)=true)
 (o1:T4 K (.ref C) "steps"=some none) (o2:T4 K (.ref C) "parts"=some none) (o3:T4 K (.ref C) "leads"=some none) (o4:T4 K (.ref C) "stands"=some none) (o5:T4 K (.ref C) "rows"=some none):xS K mg:=by
 refine⟨C,f,_,⟨⟨pg,hd,po,sa⟩,λx hx=>?_⟩,⟨mk,a1,i1,kc⟩,T5 KX G aC,jR (st:=rJ) l1 c1 k1,(jR (st:=rJ) l1 c1 k1).binds (ps:=sA) λ_ _ _ _ _ _ us hl=>match us,hl with | [_,_],_=>rfl⟩
 simp only[fA,OT,O9,or_false] at hx
 rcases hx with rfl | rfl | rfl | rfl | rfl
 ·exact o1
 ·exact o2
 ·exact o3
 ·exact o4
 ·exact o5
theorem GF {l:Uk}{fa:Addr}{kV:Value}(KX:K.In h)(G:h.Ns Rf mg)(hfa:mg "law"=some (.ref fa))(T:Top l.prog w K mg)
 (a:T3 K Rf "law"=some (some (.ref f))) (lk:K.lookup f=some ⟨oc,od,.func (T7 "law" "law" (cQ oT) (bu oT) (ag oT) .none kV doc pm an UE ct),V3⟩) (c:Ua K UE "law"=true) (k:T8 K (.ref f)=true):
 ∃fd:Rm,(∀(s:Q9) (v:Value),SJ s fd ⟨[v],[]⟩ [("_law_script",v)])/\∀base:Heap,K.In base->base.Ns Rf mg->dY l.prog w K mg base d7 18 fa fd ["_law_script"] (aE tU K):=by
 have e:=hfa.symm.trans (T5 KX G a)
 cases e
 exact⟨T7 "law" "law" (cQ oT) (bu oT) (ag oT) .none kV doc pm an UE ct,λs v=>.of_eq rfl,λbase _ _=>Hf T (jR lk c k)⟩
theorem walk {l:Uk}{q:Rh}{loose:Of}{XP:(Oc)->Heap->Prop}{YP:World->Heap->Prop}{d:DefRec}{K:Params->T2}(hn:l.most=some 63)(Zk:d.params.defaults=[])
 (hY:∀(w:World) (h:Heap),YP w h->(K w.params).In h)
 (F:∀(w:World) (mg:Oc) (fa:Addr) (h:Heap),(K w.params).In h->h.Ns Rf mg->mg d.name=some (.ref fa)->
  ∃fd:Rm,(∀(s:Q9) (u:Value),SJ s fd ⟨[u],[]⟩ [("_law_script",u)])/\∀base:Heap,(K w.params).In base->base.Ns Rf mg->dY l.prog w (K w.params) mg base d7 18 fa fd ["_law_script"] (aE tU (K w.params))):
 PySem.W.WalkO q loose XP YP l.row.toRowW d [] (λf vs=>PySem.call f vs):=
 L2.Bc (n:=63) (k:=18) (x:="_law_script") (CX:=λ_=>d7) (sp:=λw=>aE tU (K w.params)) hn (by decide) Zk ⟨rfl,by decide,by decide⟩ hY F
   (λw H a ns hl Wc _ hS=>⟨H,[⟨bB,ns⟩],_,au.refl _,.cons ⟨a,rfl,hS,hl⟩ .nil,⟨ns,rfl,hl,Wc,rfl⟩,λv H' R' _ t=>by obtain⟨y,hy,rfl⟩:=t;exact hy⟩) λ_ _ _ _ _ z=>z
end
end K1
open PySem PySem.W PyProof.Rows
namespace PySem.W.Fast
def tw10080525162774054390:=0
def tw1120559214649635144:=0
def tw10430177703859314272:=0
def tw3467605735104340109:=0
def tw8190893069998428356:=0
def tw4721547104984793631:=0
def tw6941642437629494493:=0
def tw5891640644649897435:=0
def tw12715492539034623396:=0
def tw2641063166236859904:=0
def tw15502504341197631440:=0
def tw10517149449698344488:=0
def tw17899022137333066032:=0
def tw17658098974418498130:=0
def tw14618002154947593141:=0
def tw17112582760986049510:=0
def tw15969722683976407147:=0
def tw16770462778714174865:=0
def tw15380428535653146116:=0
def tw14955439414580545471:=0
def tw10109051424853991688:=0
def tw15185747278857195389:=0
def tw2983910569022993542:=0
def tw12326163504055338024:=0
def tw14308016146236780415:=0
def tw8617012520707138851:=0
def tw7903600309160667725:=0
def tw8091477690422116608:=0
def tw11279437025434144404:=0
def tw13588435723713019733:=0
def tw14732584841927114874:=0
def tw6499961023280650923:=0
def tw14057143303410294991:=0
def tw1607084661586929070:=0
def tw2697255746975798212:=0
def tw5734659955590646759:=0
def tw17975799965056597074:=0
def tw5701460361696376884:=0
def tw12023984188969280409:=0
def tw2646923859925346554:=0
def tw1115991203558851389:=0
def tw13582708843609558831:=0
def tw9010505477549020664:=0
def tw13017564339807459315:=0
def tw3095613718672841596:=0
def tw50348197225600582:=0
def tw15795229407632289755:=0
def tw2553970422963162148:=0
def tw16294783172537849621:=0
def tw1697731364610382842:=0
def tw8548306384764698809:=0
def tw14519161400115044915:=0
def tw12515562629353908147:=0
def tw6515130267027036482:=0
def tw8393279744209103548:=0
def tw5719423666702377665:=0
def tw10702151200510965125:=0
def tw3861235038981721190:=0
def tw622813662680427205:=0
def tw12467241890605797771:=0
def tw12135180006299842583:=0
def tw8036637473806639621:=0
def tw15885689591565693351:=0
def tw13487806460395889753:=0
def tw5823667579257014880:=0
def tw2609827749565311055:=0
def tw3716802805850651220:=0
def tw6474191552994138491:=0
def tw8368909120284908685:=0
def tw6995000718999761826:=0
def tw17827249726374579807:=0
def tw13877376809842709094:=0
def tw13660167375956699442:=0
def tw13061424745397368391:=0
def tw709458786903832557:=0
def tw16500029897079790697:=0
def tw15010141313330048152:=0
def tw389982644666073422:=0
def tw13890403907047867613:=0
def tw1520598202477553258:=0
def tw9133817606441870351:=0
def tw9332051636500589245:=0
def tw12659979337821721048:=0
def tw17858130885010203864:=0
def tw4782971824597656588:=0
def tw2203335049673923010:=0
def tw12455313776139702509:=0
def tw15106203269320014791:=0
def tw15507535423673619511:=0
def tw5681709819216348249:=0
def tw9931044847307139594:=0
def tw12256377961981055754:=0
def tw11132423514328960490:=0
def tw6461175909724878298:=0
def tw16931581279926954062:=0
def tw5853652415026725333:=0
def tw3147596055563528043:=0
def tw5596374216239412979:=0
def tw13489994749582544085:=0
def tw10989279239862082115:=0
def tw10431038440893148879:=0
def tw13611203526803785713:=0
def tw3959869969723337148:=0
def tw9855237573500725420:=0
def tw12129900984514284771:=0
def tw10029556394573527153:=0
def tw2254081219206625977:=0
def tw17180048299645868469:=0
def tw5736642812338228335:=0
def tw1463998214576668929:=0
def tw15311850027069330548:=0
def tw18010859588704236713:=0
def tw3134261431616219300:=0
def tw9142681852168945518:=0
def tw6468409472096380323:=0
def tw10098521618018058475:=0
def tw10587776834292634783:=0
def tw12983114499846386918:=0
def tw13549831917239256253:=0
def tw8836757959352150996:=0
def tw5679797875232777999:=0
def tw4762776949559663211:=0
def tw17681922317955178896:=0
def tw10822566970715235249:=0
def tw436296847338953181:=0
def tw16822932756478887189:=0
def tw5326283538671682666:=0
def tw1664885010475930062:=0
def tw6517433388040231761:=0
def tw18442771976310012563:=0
def tw11053848708858016876:=0
def tw9487792427117563805:=0
def tw8483822454041580173:=0
def tw14378386886685289821:=0
def tw17731721289047730746:=0
def tw1593943955732129812:=0
def tw16256763775041080080:=0
def tw16842148846518503905:=0
def tw2614337786750813769:=0
def tw18064572224508132611:=0
def tw1989942299160533540:=0
def tw4780440805893493948:=0
def tw7468974018143182193:=0
def tw13179038405273139387:=0
def tw15979403572858279333:=0
def tw1289298352679469150:=0
def tw3178971096562939404:=0
def tw3168874662175080797:=0
def tw5850422658608988635:=0
def tw1328091867082243158:=0
def tw6935819284096373064:=0
def tw8516177026661667516:=0
def tw3189464168123735172:=0
def tw2779323155094085063:=0
def tw6738700563229479831:=0
def tw13965474082795060934:=0
def tw13602157771137069449:=0
def tw5797270846751458271:=0
def tw9257341179130558662:=0
def tw15439455893143494040:=0
def tw13381610296553207940:=0
def tw5440327578562969149:=0
def tw36082452378700344:=0
def tw15406565754602710451:=0
def tw3535483593881263026:=0
def tw2667317753192204828:=0
def tw7383509923820904671:=0
def tw11119054272918485859:=0
def tw6074164848120528450:=0
def tw8419055440961984000:=0
def tw11274089993707043993:=0
def tw5823115237361169653:=0
def tw5293112440691910940:=0
def tw3549448203398741111:=0
def tw5740209351152139701:=0
def tw1741263717747022451:=0
def tw2141254937592488288:=0
def tw2419854042580202926:=0
def tw18090104466560466986:=0
def tw12637097769299523537:=0
def tw1685787444891471059:=0
def tw12885429367055402625:=0
def tw545390357878606827:=0
def tw15484791849428459380:=0
def tw15903207675218203312:=0
def tw2094365167664156930:=0
def tw5564403717456929789:=0
def tw5102603444248804328:=0
def tw548911874040609109:=0
def tw17042160035557927101:=0
def tw15685935002714152366:=0
def tw6857748724876551392:=0
def tw11834992977132571401:=0
def tw3942302099721543193:=0
def tw5837869556583917437:=0
def tw477764052246994168:=0
def tw8081834446213596205:=0
def tw16454362894906849435:=0
def tw11924409949087111580:=0
def tw14194446222332635316:=0
def tw12041270260709558657:=0
def tw6302088872853057491:=0
def tw17487493384990584926:=0
def tw9449177277371246380:=0
def tw9637127171925664773:=0
def tw12646086223063122481:=0
def tw5089003693867561869:=0
def tw2429485979379074815:=0
def tw13158017187847166383:=0
def tw12062822300130500822:=0
def tw5918553663636305265:=0
def tw15930050483754772085:=0
def tw3108492238304528555:=0
def tw14285045235601429436:=0
def tw18426006105958534466:=0
def tw8366740693814512177:=0
def tw17608987576665405288:=0
def tw11559783749445506566:=0
def tw17789659208695018368:=0
def tw15142557722829119578:=0
end PySem.W.Fast
set_option maxRecDepth 100000 in
set_option maxHeartbeats 0 in
theorem PySem.Challenge.cw_fewcounters_k69_whole_walks_are_runs_holds : PySem.Challenge.rw_fewcounters_k69_whole_walks_are_runs.Holds := by
 w_on;o_law;k_head;(case hw=>w_witness2)
 k_fill
 refine K1.walk (l:=PySem.Challenge.rw_fewcounters_k69_whole_walks_are_runs) rfl rfl (λw h Y=>PySem.W.kIn_of Y) ?F
 case F=>
  intro w mg fa h KX G Y8
  have M:K1.cb (L2.nA KX) mg:=by
   dsimp only[L2.nA]
   refine' K1.DK KX G ?b1 ?b2 ?b3 ?b4 ?b5 ?b6 ?b7 ?b8 ?b9 ?b10
   (case b1=>k_is);(case b2=>k_is);(case b3=>k_is);(case b4=>k_is);(case b5=>k_is);(case b6=>k_is);(case b7=>k_is);(case b8=>k_is);(case b9=>k_is);(case b10=>k_is)
  have M2:K1.kg (L2.nA KX) mg:=by
   dsimp only[L2.nA]
   refine' K1.AL KX G ?a1 ?a2 ?c1 ?l1 ?c2 ?l2 ?c3 ?l3 ?c4 ?l4
   (case a1=>k_is);(case a2=>k_is);(case c1=>k_is);(case l1=>k_is);(case c2=>k_is);(case l2=>k_is);(case c3=>k_is);(case l3=>k_is);(case c4=>k_is);(case l4=>k_is)
  have M4:K1.hZ mg:=by
   refine' K1.Ao KX G ?b1 ?b2 ?b3 ?a1 ?a2 ?a3 ?a4 ?a5 ?a6
   (case b1=>k_is);(case b2=>k_is);(case b3=>k_is);(case a1=>k_is);(case a2=>k_is);(case a3=>k_is);(case a4=>k_is);(case a5=>k_is);(case a6=>k_is)
  have M5:K1.rY mg:=by
   refine' K1.Bj KX G ?a1 ?a2 ?b1
   (case a1=>k_is);(case a2=>k_is);(case b1=>k_is)
  have M3:K1.iL mg:=by
   refine' K1.Bk KX G ?a1 ?a2 ?a3 ?a4 ?a5
   (case a1=>k_is);(case a2=>k_is);(case a3=>k_is);(case a4=>k_is);(case a5=>k_is)
  have DRW:Fc.lj (PySem.Challenge.rw_fewcounters_k69_whole_walks_are_runs).prog w (L2.nA KX) mg "ROW_WORDS" K1.c9:=by
   dsimp only[L2.nA]
   refine' K1.D9 KX G ?a ?l ?sm ?u1 ?u2 ?u3 ?u4
   (case a=>k_is);(case l=>k_is);(case sm=>rfl);(case u1=>k_is);(case u2=>k_is);(case u3=>k_is);(case u4=>k_is)
  have DSC:K1.xr (L2.nA KX) mg:=by
   dsimp only[L2.nA]
   refine' K1.step_mk KX G ?aC ?a1 ?i1 ?l1 ?c1 ?k1 ?pg ?hd ?po ?sa ?mk ?kc ?o1 ?o2 ?o3 ?o4
   (case aC=>k_is);(case a1=>k_is);(case i1=>k_is);(case l1=>k_is);(case c1=>k_is);(case k1=>k_is);(case pg=>k_is);(case hd=>k_is);(case po=>k_is);(case sa=>k_is);(case mk=>k_is);(case kc=>k_is);(case o1=>k_is);(case o2=>k_is);(case o3=>k_is);(case o4=>k_is)
  have DPC:K1.xS (L2.nA KX) mg:=by
   dsimp only[L2.nA]
   refine' K1.E6 KX G ?aC ?a1 ?i1 ?l1 ?c1 ?k1 ?pg ?hd ?po ?sa ?mk ?kc ?o1 ?o2 ?o3 ?o4 ?o5
   (case aC=>k_is);(case a1=>k_is);(case i1=>k_is);(case l1=>k_is);(case c1=>k_is);(case k1=>k_is);(case pg=>k_is);(case hd=>k_is);(case po=>k_is);(case sa=>k_is);(case mk=>k_is);(case kc=>k_is);(case o1=>k_is);(case o2=>k_is);(case o3=>k_is);(case o4=>k_is);(case o5=>k_is)
  refine' K1.GF KX G Y8 ⟨M,M2,M3,M4,M5,DRW,DSC,DPC,by refine' K1.fT KX G ?a ?l ?c ?k;case a|l|c|k=>k_is,by refine' K1.eu KX G ?a ?l ?c ?k;case a|l|c|k=>k_is,by refine' K1.eu KX G ?a ?l ?c ?k;case a|l|c|k=>k_is,by refine' K1.eu KX G ?a ?l ?c ?k;case a|l|c|k=>k_is,by refine' K1.L7 KX G ?a ?l ?c ?k;case a|l|c|k=>k_is,by refine' K1.L7 KX G ?a ?l ?c ?k;case a|l|c|k=>k_is,by refine' K1.fT KX G ?a ?l ?c ?k;case a|l|c|k=>k_is,by refine' K1.fT KX G ?a ?l ?c ?k;case a|l|c|k=>k_is,by refine' K1.fT KX G ?a ?l ?c ?k;case a|l|c|k=>k_is,by refine' K1.eu KX G ?a ?l ?c ?k;case a|l|c|k=>k_is,by refine' K1.fT KX G ?a ?l ?c ?k;case a|l|c|k=>k_is,by refine' K1.fT KX G ?a ?l ?c ?k;case a|l|c|k=>k_is,by refine' K1.eu KX G ?a ?l ?c ?k;case a|l|c|k=>k_is,by refine' K1.eu KX G ?a ?l ?c ?k;case a|l|c|k=>k_is,by refine' K1.wc KX G ?a ?l ?c ?k;case a|l|c|k=>k_is,by refine' K1.wc KX G ?a ?l ?c ?k;case a|l|c|k=>k_is,by refine' K1.eu KX G ?a ?l ?c ?k;case a|l|c|k=>k_is,by refine' K1.eu KX G ?a ?l ?c ?k;case a|l|c|k=>k_is,by refine' K1.fT KX G ?a ?l ?c ?k;case a|l|c|k=>k_is,by refine' K1.wc KX G ?a ?l ?c ?k;case a|l|c|k=>k_is,by refine' K1.fT KX G ?a ?l ?c ?k;case a|l|c|k=>k_is,by refine' K1.eu KX G ?a ?l ?c ?k;case a|l|c|k=>k_is,by refine' K1.eu KX G ?a ?l ?c ?k;case a|l|c|k=>k_is,by refine' K1.eu KX G ?a ?l ?c ?k;case a|l|c|k=>k_is,by refine' K1.eu KX G ?a ?l ?c ?k;case a|l|c|k=>k_is,by refine' K1.eu KX G ?a ?l ?c ?k;case a|l|c|k=>k_is,by refine' K1.eu KX G ?a ?l ?c ?k;case a|l|c|k=>k_is,by refine' K1.eu KX G ?a ?l ?c ?k;case a|l|c|k=>k_is,by refine' K1.fT KX G ?a ?l ?c ?k;case a|l|c|k=>k_is,by refine' K1.eu KX G ?a ?l ?c ?k;case a|l|c|k=>k_is,by refine' K1.eu KX G ?a ?l ?c ?k;case a|l|c|k=>k_is,by refine' K1.eu KX G ?a ?l ?c ?k;case a|l|c|k=>k_is,by refine' K1.eu KX G ?a ?l ?c ?k;case a|l|c|k=>k_is,by refine' K1.fT KX G ?a ?l ?c ?k;case a|l|c|k=>k_is,by refine' K1.eu KX G ?a ?l ?c ?k;case a|l|c|k=>k_is,by refine' K1.eu KX G ?a ?l ?c ?k;case a|l|c|k=>k_is,by refine' K1.fT KX G ?a ?l ?c ?k;case a|l|c|k=>k_is,by refine' K1.eu KX G ?a ?l ?c ?k;case a|l|c|k=>k_is,by refine' K1.fT KX G ?a ?l ?c ?k;case a|l|c|k=>k_is,by refine' K1.fT KX G ?a ?l ?c ?k;case a|l|c|k=>k_is,by refine' K1.eu KX G ?a ?l ?c ?k;case a|l|c|k=>k_is,by refine' K1.wc KX G ?a ?l ?c ?k;case a|l|c|k=>k_is,by refine' K1.fT KX G ?a ?l ?c ?k;case a|l|c|k=>k_is,by refine' K1.eu KX G ?a ?l ?c ?k;case a|l|c|k=>k_is,by refine' K1.eu KX G ?a ?l ?c ?k;case a|l|c|k=>k_is,by refine' K1.eu KX G ?a ?l ?c ?k;case a|l|c|k=>k_is,by refine' K1.fT KX G ?a ?l ?c ?k;case a|l|c|k=>k_is,by refine' K1.fT KX G ?a ?l ?c ?k;case a|l|c|k=>k_is,by refine' K1.fT KX G ?a ?l ?c ?k;case a|l|c|k=>k_is,by refine' K1.wc KX G ?a ?l ?c ?k;case a|l|c|k=>k_is,by refine' K1.eu KX G ?a ?l ?c ?k;case a|l|c|k=>k_is,by refine' K1.eu KX G ?a ?l ?c ?k;case a|l|c|k=>k_is,by refine' K1.fT KX G ?a ?l ?c ?k;case a|l|c|k=>k_is,by refine' K1.wc KX G ?a ?l ?c ?k;case a|l|c|k=>k_is,by refine' K1.fT KX G ?a ?l ?c ?k;case a|l|c|k=>k_is,by refine' K1.fT KX G ?a ?l ?c ?k;case a|l|c|k=>k_is,by refine' K1.fT KX G ?a ?l ?c ?k;case a|l|c|k=>k_is,by refine' K1.fT KX G ?a ?l ?c ?k;case a|l|c|k=>k_is⟩ ?qa ?qb ?qc ?qd
  (case qa=>k_is);(case qb=>k_is);(case qc=>k_is);(case qd=>k_is)
