import PyProof.Rows.All
import Wide.All
import OpenK.AllK
import Wide.FinOn
import Lean
import PyProof.EqAt
import PyProof.EqKinds
import PyProof.TupleCall
import PyProof.NeKinds
import PyProof.WalksEnum
import PyProof.EnumMake
import KE.KTryMore
import PyProof.NsDelKeeps
import PyProof.SumWalkG
import PyProof.SeqI3
import KE.KDictSum
import PyProof.AttrMiss
import PyProof.IsiH_list
import KE.KDictOf
import PyProof.ZipIter
import PyProof.TupleIter
import PyProof.EnumIter
import PyProof.StrCalls
import PySem.Challenge.RW_fewcounters_k70_whole_named_otherwise
import PyProof.StrCalls2
import PyProof.StrCalls3
import PyProof.StrLawsTight
import PyProof.StrLawsChain
import PyProof.StrLawsJoin
import PyProof.Rows.StrItems
import PyProof.StrWalks
import PyProof.FString5
import PyProof.Rows.Range3
import KE.KRevIter
import PyProof.MeetsDict
set_option Elab.async false
set_option linter.all false
set_option maxRecDepth 100000
set_option maxHeartbeats 4000000
noncomputable section
open Lean in
def cvP:Nat→Syntax→MacroM (TSyntax `rcasesPat)
 | 0,_=>Macro.throwUnsupported
 | n+1,s=>match s with
  | `(⟨$xs,*⟩)=>do
   let l←xs.getElems.mapM λp=>do let q←cvP n p;`(Lean.Parser.Tactic.rcasesPatLo|$q:rcasesPat)
   `(rcasesPat|⟨$l,*⟩)
  | `(_)=>`(rcasesPat|_)
  | `($x:ident)=>`(rcasesPat|$x:ident)
  | _=>Macro.throwUnsupported
set_option compiler.extract_closed false
set_option hygiene false
local macro_rules|`(tactic|let ⟨$xs,*⟩:=$e)=>do {let p←cvP 9 (←`(⟨$xs,*⟩));`(tactic|obtain $p:rcasesPat:=$e)}|`(tactic|cbv)=>`(tactic|first|lia|omega)|`(tactic|let $d:letDecl)=>`(tactic|have $d:letDecl)|`($a∣$b)=>`($a=some $b)|`(~~~$e)=>`(by simpa using $e)|`(⇑$s)=>`(($s).heap.objs.size)
local macro_rules|`($n:name)=>do
 let s←`([(by cbv),(by decide +kernel),(by decide),(by simp),(aa 0 rfl),(model X.prog X.w),(aa 1 rfl),(Inv X X3 σ H s),(aw X0 Ls),(fst X0 Ls j),(ha σ H0 R0 H R E _ λv H1 R1 E1 s1 e1=>hb σ H0 R0 H1 R1 E1 _ λu H2 R2 E2 s2 e2=>?_),(a8 X scope cl C (own++fr) s H ex),(.Name x p1),(λf X6 A outer s H E qs T nd hr hS=>?_),(a8 X scope cl C (own++fr) s Hh ex),(autoParam (At X i x) cg),(aa 3 rfl),(Value->Vo->Prop),(aa 2 rfl),(λf X6 A outer st H E qs T nd hr hS=>?_),(bf x (d9 own ix Γ1)),(λC s H ex=>⟨λX3 s1 σ H v u Q I r h=>h C s _ ex X3 s1 u I r,λX3 s1 σ H Q I h=>h C s _ ex X3 s1 I,λX3 s1 σ H Q I h=>h C s _ ex X3 s1 I⟩),(bJ X0 Ls),(List α),(ar K σ H0 R0 H R Z),(model prog w),(List (List Th)),(ha σ H0 R0 H R E _ λv H1 R1 E1 s1 e1=>?_),(cG X0 Ls),(λC s H ex=>aU 0),(s1.trans s2),(bp a ps),(ha σ H0 R0 H R E _ λv H1 R1 E1 s1 e1=>kl σ H0 R0 H1 R1 E1 _ λH2 R2 E2 s2=>kh σ H0 R0 H2 R2 E2 _ λH3 R3 E3 s3=>?_),(eK 5 rfl ac rfl),(.Call (.Attribute `m "append" ap) [e] [] cp),(.ListComp elt [⟨target,iter,ifs,0⟩] scope pos),(List V),(c8 X0 Ls),(List aI),(List Th),(λx=>⟨.inr rfl,.inl rfl,trivial⟩),(((Yl items.size 0 lo:Nat):Int)==0&&(1:Int)==1&&(Yl items.size items.size hi-Yl items.size 0 lo)==items.size),(λh=>aH ?_),(λZ hΓ=>?_),(eG 0 (j:=2) (EV.inr (h8 (EV.qL (dI 0 ac rfl (y:=(Sum.inr c:RS ⊕ Int)) rfl)) ac)) ac rfl rfl rfl ?_),(a7 (ha pos X3 s σ H _ I h) λus s1 ⟨vs,H1,I1,r1,q1⟩=>?_),(λx=>⟨.inr rfl,trivial⟩),(he σ H0 R0 H R E _ λv H1 R1 E1 s1 e1=>?_),(λX6 A outer s H vs Q E hr h=>?_),(λx h=>bC h),(aa 5 rfl),(av.refl _),(Value),(∀b∈ch,(b∈X.ex∨X.s₀.heap.objs.size<=b)/\b≠X.env.locals/\(∀x c,X.env.cells.lookup x∣c->c≠b)/\∀p∈X.pn++X3,p.1≠b),(λF r=>iX F r.2.2.1 r.2.2.2.1),(A.deeper (Vi qual (ao st) ⇑s f X6)),(ap.endLine==cp.line),(aa 4 rfl),(λX6 A outer s H E qs T hr hS=>?_),(.Name x p),(aW S Ld),((gv L (Yr Ls i:Int),q0.2.1,q0.2.2)),((⇑s2,({cls:=.type "list",data:=.seq X5.toArray k}:Obj))),(fst X0 Ls j+1),((∀c o,c≠z->c≠TO->c≠i1->c≠i2->s.heap.get? c∣o->h'.get? c∣o)),(d8 ns X1 n),(ie WW WX WY iM (aX hN) (aK aO br hs) Yd Yt Yc hs rfl),(aP (jq C D) K),(autoParam (Loc X.env.scope x) Zk),(ts.take i),(cb X0 (((f+1:Nat)):Int) (w+2) (f:Int) z.2),(rfl),(aa 6 rfl),(aM (by simp;cbv)),(aD P w K mg base "_law_name" 1 (aP xF K)),(if 0<ns.length then ns.getD (k%(ns.length:Int)).toNat 0 else 0),(Z[i]?∣.mu r xs),(Z[i]?∣(.ob `F)),(List (Str×Addr)),(Yl items.size items.size hi-Yl items.size 0 lo),((J.stop i H'/\∀p,H' p=none->Q (.ref p) (upd H' p (.lst ys)))),(λh=>XS h `c),(aQ aN (UL _)),(aD P w K mg base "name_words" 1 (aP (zZ C D) K)),(λC' s H ex c hc=>eu),(aD X.prog X.w X.K X.mg X.base x k (fR r S X.K)),(ha X3 s σ H _ I h),(cv X0 Ls),(λr s'=>r= .ok (.ret (.bool true))/\OldK s₁.heap s'.heap/\s'.os=s₁.os/\Vk s'.gens),(λe=>by cases e),(bR I q `d),(aF a r xs),(aD X.prog X.w X.K X.mg X.base x k (aP S X.K)),(List PV),(Xz x x (fq st) (bF st) (ao st) .none kV doc pm an X6 ct),(.inl rfl),(ar X.K σ H0 R0 H R Z),(A.under (.builtin "type.__call__" ⟨.ref C::us,kw⟩)),(aD P w K mg base "_law_pull" 2 (fR da tP K)),(List (Str×List Th)),(aF c ah [(Yr Ls (i+1):Int)]),(.Call (.Name "len" p) [a] [] pos),(bW K mg),(Option (Int->Pn->List Th×Pn)),(fG 5 rfl ac rfl),(ag `e ax),(X.A.units+1<cLine),(Str×List Th),(aK aO br hs),(dI 1 ac rfl (y:=k) rfl),(σ.set i (some v)),(ae (ae ah)),(Su.mpr rfl),(HT.Yl xs.length xs.length hi-HT.Yl xs.length 0 lo),(autoParam (Loc X.env.scope y) Zk),(λz=>nomatch z),(EP X X3 σ Q),(List RS),(kvs.any λkv=>decide (kv.1=k)),((false,eval (.Name y p1) X.env)),(EV.pS aA),(Option Int),(.Call `ah (e::es) [] pos),(ae (bN C)),(λvs H Q E h=>?_),((c8 X0 Ls)[j]?∣z),(fG 5 rfl (cj ac) rfl),(((Yg ns m k i).2,dA m)),(rfl),(λX6 A outer st H E qs T hr hS=>?_),(s1.trans xx.r),(n8 0 HD (dR `c) rfl rfl),(cT `s (bc.im (aQ (r:=ak) (aq aA (aq (wU `q rfl) aN)) (l2 _ _))) `av),(.Call (.Name "zip" p) [a,b] [] pos),(.Name x pos),((a:Int)+2+X4 A),(.ListComp elt [⟨tg,iter,[],0⟩] scope pos),(Xw K (.ref C) "__setattr__"∣(some (.builtin "object.__setattr__"))),(Yh ns s i),(.Call `ah (.Name y p1::es) [] pos),(dw K x qual st f fd),(Array Value),(s1.trans (s2.trans s3)),(jo (C:=C) HD `e)])
 let c:=n.getName.toString.toList.map λc=>if c.val<91 then c.val.toNat-39 else c.val.toNat-97
 let i:=match c with|[x]=>x|[x,y]=>52+52*x+y|_=>9999
 let a:=s.raw[1].getSepArgs
 if i<a.size then return a[i]! else Lean.Macro.throwUnsupported
set_option hygiene true
abbrev RQ:=PySem.Str->Option PySem.Value
abbrev RR:=List (PySem.Addr×PySem.Obj)
abbrev RS:=List Int
abbrev RU:=List PySem.Str
abbrev RX:=Option PySem.Value
abbrev RY:=List PySem.Addr
abbrev RZ:=List PySem.Value
abbrev R6:=List PySem.Expr
abbrev R7:=List (Int×Int)
theorem XS{a b:Prop}(h:a)(g:¬a):b:=absurd h g
theorem XT{c:Prop}[Decidable c](n:¬c){α:Type _}{t e:α}:(ite c t e)=e:=if_neg n
theorem XU{c:Prop}[Decidable c](n:c){α:Type _}{t e:α}:(ite c t e)=t:=if_pos n
theorem XW{p:Prop}[Decidable p](h:decide p=true):p:=of_decide_eq_true h
theorem XX{p:Prop}[Decidable p](h:decide p=false):¬p:=of_decide_eq_false h
theorem XY{p:Prop}[Decidable p](h:p):decide p=true:=decide_eq_true h
theorem XZ{p:Prop}[Decidable p](h:¬p):decide p=false:=decide_eq_false h
open Array renaming length_toList→R8
open Bool renaming false_ne_true→R9,and_eq_true→Sa,eq_iff_iff→Sb,beq_eq_decide_eq→Sd,or_eq_true→Se,and_true→Sf
open False renaming elim→Sg
open ForInStep renaming yield→Sh
open Int renaming emod_lt_of_pos→Si,emod_nonneg→Sj,toNat_natCast→Sk,le_refl→Sl,le_trans→Sm
open List renaming getElem?_eq_some_iff→Sn,getElem?_eq_getElem→So,getD_eq_getElem?_getD→Sr,length_map→Ss,mem_singleton→Su,mem_cons_of_mem→Sv,getElem?_map→Sw,length_append→Sx,mem_cons_self→Sz,mem_of_getElem?→SD,length_cons→SE,mem_cons→SF,getElem?_set_self→SG,mem_append_right→SH,size_toArray→SJ,mem_append→SK,map_append→SN,mem_iff_getElem?→SO,range→SQ,append_assoc→SR,mem_append_left→SS,mem_map→SU,getElem?_append_right→SV,length_take→SW,getElem?_set_ne→SX,getElem?_eq_none→SY,getElem?_append_left→S0,append_nil→S3,length_nil→S4,nodup_cons→S5,Nodup→S6,getElem_mem→S7,length_singleton→S8,take_succ→S9,map_cons→Ta,length_set→Tb,not_mem_nil→Tc,take_length→Td,length_range→Te,nodup_append→Tf,replicate→Tg,getElem?_range→Ti,take_succ_cons→Tj,mem_filter→Tn,nil_append→To,map_map→Tp,length_replicate→Tq,ext_getElem?→Tr,filter_eq_self→Ts,foldl_cons→Tt,foldl_append→Tu,mem_range→Tv,filter_cons_of_pos→Tw,filter_cons_of_neg→Tx,cons_append→Tz,flatMap_cons→TB,drop_eq_getElem_cons→TC,dropLast_concat_getLast→TJ,map_congr_left→TK,take_append_drop→TL,lookup→TN,getElem?_replicate→TQ,set_set→TR,filter_append→TU,lookup_cons→TY,take_zero→TZ,find?_cons→T1,take_of_length_le→T2,drop_of_length_le→T3,flatMap_append→T4,length_filter_le→T5,length_zip→T6,length_drop→T7,length_dropLast→T8,nodup_nil→T9,range_succ→Ua,getElem_of_mem→Ub,find?_cons_of_neg→Uc,all_eq_true→Ud,mem_flatMap→Ue,of_mem_zip→Ug,mem_iff_getElem→Uh,mem_of_mem_take→Ui,filterMap_cons→Uj,map_nil→Uk,length_reverse→Ul,sum_cons→Um,length_pos_iff→Uo,getElem_inj→Uq,getElem?_cons_succ→Ur,mem_filterMap→Us,mem_replicate→Ut,filter_eq_nil_iff→Uu,find?_cons_of_pos→Uv,flatMap_singleton→Uw,map_set→Ux,any_cons→Uy,getElem?_reverse→Uz,any_eq_true→UA,range'→UB,forIn_cons→UC,map_drop→UD,sum_append→UE,filter_map→UG,getElem?_drop→UH,map_singleton→UI
open Nat renaming le_refl→UJ,le_trans→UK,zero_le→UL,lt_of_le_of_lt→UM,lt_of_lt_of_le→UN,ne_of_lt→UO,lt_or_ge→UP,lt_irrefl→UQ,zero_add→UR,le_succ→US,lt_succ_self→UT,le_add_right→UU,ne_of_gt→UW,min_le_left→UX,add_le_add_left→UY,lt_of_le_of_ne→UZ,not_lt→U0,min_le_right→U1,sub_self→U2,add_zero→U3,not_lt_zero→U4,add_assoc→U5,le_of_lt→U6,le_of_eq→U7
open Ne renaming symm→U8
open Option renaming map_eq_some_iff→U9,some_ne_none→Va,map_some→Vb,isSome_map→Vc
open Prod renaming ext→Vd
open PyProof.Rows renaming boot_list→Ve,callWith_type1→Vf,slot_tuple_getitem→Vg,boot_tuple→Vh,envOfC→Vi,boot_int→Vj,AllBare→Vk,boot_range→Vl,subscriptTail→Vm
open PySem renaming sizeLine→Vn,Shared→Vo,wpAny_bind→Vp,mainGlobals→Vq,Program→Vr,wpAny_pure→Vs,starEach→Vt,Around→Vu,swapsWith→Vv,FuncData→Vw,wpAny_truthy_bool→Vx,compareOp→Vy,mem_of_lookup→Vz,foldedSetIterable→VA,wpAny_field→VB,wpAny_mono→VC,sysModules→VD,wpAny_callSpecial?_slot→VE,IsPair→VF,wpAny_newObj_type→VG,valueAt→VH,behindInMarks→VI,boot_len→VJ,wpAny_seqItems→VL,bootBuiltins→VM,wpAny_setField_rec→VN,wpAny_passesOwn→VO,holding→VP,binaryOp→VQ,wpAny_call_entry→VR,assignEach→VS,assign→VT,NameKind→VU,call_meets→VW,wpAny_holding→VX,sliceBounds→VY,isTrue→VZ,wpAny_Call_Name_kw→V0,tupleKind_room_in1→V1,getItem→V2,wpAny_pyIter_list→V3,wpAny_execs_nil→V4,letOwnedTupleGo→V5,IsPart→V6,typeIs_str→V7,wpAny_rule→V8,wpAny_updateSeq_pair→V9,standAt→Wa,codeAny→Wb,sizeLine_eq→Wc,backTo→Wd,swapsWithSole→We,swappedStores→Wf,intBits_le_64→Wg,wpAny_onRaise→Wh,Keyword→Wi,callerA→Wj,codeAny_mono→Wl,tupleKind→Wm,PassesOwn→Wn,strValues→Wo,IsRangeIter→Wq,subscripted→Wr,pyNext→Ws,rawInt→Wt,BindsTo→Wu,stored→Wv,dictSetDefault→Ww,GenState→Wx,IntMulOk→Wy,ZipApart→Wz,attributeBase→WA,wpAny_standAt→WB,Str→WC,Within→WE
open PySem.Around renaming under→WG
open PySem.Builtin.List renaming listTooLong→WH
open PySem.Builtin.Range renaming rangeSize→WI
open PySem.Builtin.Slice renaming slicePlaces→WK,sliceAdjust→WL
open PySem.Builtin.SmallTypes renaming nextOf→WM,ownedTupleIsFree→WN
open PySem.Builtin.Str renaming occurrences→WQ
open PySem.Builtin.Tuple renaming tupleExact→WR
open PySem.Calls renaming callWith_builtin→WT,spliced_cons→WU
open PySem.Code renaming isFrame→WV
open PySem.F renaming plainAttrs_list→WW,slot_list_append→WX,type_list_append→WY,slot_tuple_iterator_next→WZ,slot_zip_next→W0,args_str_split_2→W3,entry_str_split→W4,slot_str_split→W5
open PySem.Heap renaming get?_push_of_some→W6,lt_size→W7,get?_push_size→W8,size_push→W9,SameBut→Xa,get?_update_self→Xb,dictOf_iff→Xc
open PySem.Heap.SameBut renaming update→Xd
open PySem.NameKind renaming cell→Xe
open PySem.Obj renaming mapSeq→Xf
open PySem.PassesOwn renaming never→Xg
open PySem.PyData renaming keyHash→Xh
open PySem.SeqAt renaming EqAt→Xi
open PySem.Str renaming join→Xj,ofString→Xk
open PySem.Txt renaming split→Xl
open PySem.Value renaming ref→Xm,none→Xn,int→Xo,str→Xp,bool→Xq,float→Xr,type→Xs
open PySem.W renaming Frag→Xt,nsIn→Xu,mg_none_of→Xv,findIn→Xw,mg_of→Xx,keepIn→Xy,fnOf→Xz,kia_one→XA,emptyDict→XB,instObj→XC,codeIn→XD,hasDictIn→XE,plainGet→XF,plainOver→XG,makesIn→XH,methodObj→XI,takerIn→XJ,OpenLaw→XM,lookIn→XN,kitOne→XO,isFn→XQ
open True renaming intro→XR
open List(all_cons forIn_nil map_take drop_length drop_zero take_nil prefix_rfl range'_one)
abbrev YV(x:WC):Prop:=(x==("__debug__":WC))=false
abbrev Cd0(x:WC):Prop:=(x==("__classdict__":WC))=false
def vA1:Lean.Syntax:=Lean.Unhygienic.run `(Lean.Parser.Tactic.tacticSeq|first | exact Or.inl rfl | exact Or.inr (Or.inl rfl) | exact Or.inr (Or.inr rfl))
def Zk:Lean.Syntax:=Lean.Unhygienic.run `(Lean.Parser.Tactic.tacticSeq|first | exact Or.inl rfl | exact Or.inr rfl)
def Zj:Lean.Syntax:=Lean.Unhygienic.run `(Lean.Parser.Tactic.tacticSeq|first | exact .inl rfl | exact .inr rfl)
namespace L2
open PySem PySem.Spec PyProof.Rows
variable {a b:Addr}
abbrev Key:=Sum Int Str
noncomputable def pM:Key->Value->Bool
 | .inl k,v=>Value.isInt k v
 | .inr x,v=>Value.isStrOf x v
noncomputable def Rh (w:World):Key->Int
 | .inl k=>hashInt k
 | .inr x=>hashStr w x
theorem dZ:∀{k:Key}{v:`aa},pM k v=true->(∃i t,k=Sum.inl i/\v=Xo i t)∨(∃x t,k=Sum.inr x/\v=Xp x t)
 | .inl i,v,h=>by
   let⟨t,e⟩:=Value.isInt_shape (k:=i) (v:=v) h;exact .inl ⟨i,t,rfl,e⟩
 | .inr x,v,h=>by
   let⟨t,e⟩:=Value.isStrOf_shape (x:=x) (v:=v) h;exact .inr ⟨x,t,rfl,e⟩
theorem DC (i:Int)(t:Tok):pM (.inl i) (.int i t)=true:=by simp[pM,Value.isInt]
theorem B6 (x:Str)(t:Tok):pM (.inr x) (.str x t)=true:=by simp[pM,Value.isStrOf]
theorem JS (a b:Int):decide ((Sum.inl a:Key)=Sum.inl b)=(a==b):=by
 by_cases e:a=b
 ·subst e;simp
 ·let h:¬(Sum.inl a:Key)=Sum.inl b:=λq=>e (Sum.inl.inj q);rw[XZ h];exact(beq_eq_false_iff_ne.mpr e).symm
theorem LQ (a b:Str):decide ((Sum.inr a:Key)=Sum.inr b)=decide (a=b):=by
 by_cases e:a=b
 ·subst e;simp
 ·let h:¬(Sum.inr a:Key)=Sum.inr b:=λq=>e (Sum.inr.inj q);rw[XZ h,XZ e]
theorem L7 (a:Int)(b:Str):decide ((Sum.inl a:Key)=Sum.inr b)=false:=XZ (λq=>nomatch q)
theorem Mx (a:Str)(b:Int):decide ((Sum.inr a:Key)=Sum.inl b)=false:=XZ (λq=>nomatch q)
def cH (prog:Vr)(w:World):PySem.KeyKind prog w Key where
 is:=pM
 hash:=Rh w
 inj:=λv a b ha hb=>by
  obtain⟨i,t,rfl,rfl⟩ | ⟨x,t,rfl,rfl⟩:=dZ ha
  ·obtain⟨j,u,rfl,e⟩ | ⟨y,u,rfl,e⟩:=dZ hb
   ·injection e with e1 _;rw[e1]
   ·exact nomatch e
  ·obtain⟨j,u,rfl,e⟩ | ⟨y,u,rfl,e⟩:=dZ hb
   ·exact nomatch e
   ·injection e with e1 _;rw[e1]
 byValue:=λk v h=>by
  rcases dZ h with⟨i,t,rfl,rfl⟩ | ⟨x,t,rfl,rfl⟩<;>rfl
 pyHash:=λhv h=>by
  obtain⟨i,t,rfl,rfl⟩ | ⟨x,t,rfl,rfl⟩:=dZ hv
  ·exact wpAny_pyHash_int h
  ·exact wpAny_pyHash_str h
 eqBool:=λhu hv h=>by
  obtain⟨i,t,rfl,rfl⟩ | ⟨x,t,rfl,rfl⟩:=dZ hu
  ·obtain⟨j,u,rfl,rfl⟩ | ⟨y,u,rfl,rfl⟩:=dZ hv
   ·rw[JS] at h;exact wpAny_eqBool_int h
   ·rw[L7] at h;exact Xi.int_str i t y u _ _ _ _ h
  ·obtain⟨j,u,rfl,rfl⟩ | ⟨y,u,rfl,rfl⟩:=dZ hv
   ·rw[Mx] at h;exact Xi.str_int x t j u _ _ _ _ h
   ·rw[LQ] at h;exact wpAny_eqBool_str h
 «strs»:=λk x t v h=>by
  obtain⟨i,u,rfl,e⟩ | ⟨y,u,rfl,e⟩:=dZ h
  ·exact nomatch e
  ·injection e with e1 _;subst e1;cases v<;>rfl
theorem yE (prog:Vr)(w:World)(i:Int)(t:Tok):(cH prog w).is (.inl i) (.int i t)=true:=DC i t
theorem d6 (prog:Vr)(w:World)(x:Str)(t:Tok):(cH prog w).is (.inr x) (.str x t)=true:=B6 x t
inductive V where
 | Ye | bl (b:Bool) | int (i:Int) | str (x:Str) | Z2 (b:Array UInt8) | flt (b:UInt64) | ref (a:Addr) | ty (n:String)
 deriving DecidableEq
noncomputable def bn:V->Value->Prop
 | .Ye,u=>u=Xn
 | .bl b,u=>u=Xq b
 | .int i,u=>∃t,u=Xo i t
 | .str x,u=>∃t,u=Xp x t
 | .Z2 b,u=>∃t,u=Value.bytes b t
 | .flt b,u=>∃t,u=Xr b t
 | .ref a,u=>u=Xm a
 | .ty n,u=>u=Xs n
abbrev Vals:List V->RZ->Prop:=Paired bn
theorem Vals.length {xs:`K}{us:RZ}(r:Vals xs us):xs.length=us.length:=Paired.length r
theorem Vals.get:∀{xs:`K}{us:RZ}{i:Nat}{x:V},Vals xs us->xs[i]?∣x->∃u,us[i]?∣u/\bn x u
 | _,_,_,_,.nil,e=>by simp at e
 | _,_,0,_,.cons r _,e=>by simp at e;subst e;exact⟨_,rfl,r⟩
 | _,_,i+1,x,.cons _ t,e=>by
   let⟨u,h1,h2⟩:=Vals.get (i:=i) (x:=x) t (~~~e);exact⟨u,by simpa using h1,h2⟩
theorem Vals.set {x:V}{u:`aa}(r:bn x u):∀{xs:`K}{us:RZ}(i:Nat),Vals xs us->Vals (xs.set i x) (us.set i u)
 | _,_,_,.nil=>.nil
 | _,_,0,.cons _ t=>.cons r t
 | _,_,i+1,.cons q t=>.cons q (Vals.set r i t)
theorem Vals.append:∀{xs ys:`K}{us ws:RZ},Vals xs us->Vals ys ws->Vals (xs++ys) (us++ws)
 | _,_,_,_,.nil,s=>s
 | _,_,_,_,.cons r t,s=>.cons r (Vals.append t s)
theorem Vals.take:∀{xs:`K}{us:RZ}(n:Nat),Vals xs us->Vals (xs.take n) (us.take n)
 | _,_,0,_=>.nil
 | _,_,_+1,.nil=>.nil
 | _,_,n+1,.cons r t=>.cons r (Vals.take n t)
theorem Vals.drop:∀{xs:`K}{us:RZ}(n:Nat),Vals xs us->Vals (xs.drop n) (us.drop n)
 | _,_,0,r=>r
 | _,_,_+1,.nil=>.nil
 | _,_,n+1,.cons _ t=>Vals.drop n t
noncomputable def jE:Option V->RX->Prop
 | some v,some u=>bn v u
 | none,none=>True
 | _,_=>False
def KV {κ:Type}:List (κ×V)->List (κ×Value)->Prop:=Paired λ(p:κ×V)(q:κ×Value)=>p.1=q.1/\bn p.2 q.2
noncomputable def kV:Key->V
 | .inl i=>.int i
 | .inr x=>.str x
inductive HO where
 | lst (xs:`K)
 | tup (xs:`K)
 | dK (kvs:List (Key×V)) | dT (kvs:List (List Key×V))
 | set (S:Int->Bool) (n:Nat)
 | ins (C dx:Addr) (fs:List (Str×V))
 | own (x:Addr)
 | xd (fs:List (Str×V))
 | met (f x:Addr)
 | rng (lo hi:Int)
 | YY (o:Obj) (u:HO)
 | tbl (ps:`bL)
 | ext (φ:Heap->Prop)
abbrev Hp:=Addr->Option HO
noncomputable def upd (H:Hp)(a:Addr)(o:HO):Hp:=λb=>if b=a then some o else H b
theorem aG {H:Hp}{o:HO}:upd H a o a∣o:=by unfold upd;rw[XU rfl]
theorem aJ {H:Hp}{o:HO}(h:b≠a):upd H a o b=H b:=by unfold upd;rw[XT h]
theorem NX {H:Hp}{o u:HO}(h:H a∣o)(h':H b∣u)(d:o≠u):a≠b:=by
 intro e;subst e;rw[h] at h';exact d (Option.some.inj h')
theorem dh {H:Hp}{o:HO}(h:H a∣o)(h':H b=none):a≠b:=by
 intro e;subst e;rw[h] at h';cases h'
section
variable (P:Vr)(w:World)
noncomputable def c7 (H:Hp)(h:Heap)(a:Addr):HO->Prop
 | .lst xs=>xs.length<=Vn/\∃(X5:RZ)(n:Nat),Vals xs X5/\h.get? a=some {cls:=.type "list",data:=.seq X5.toArray n}
 | .tup xs=>xs.length<=Vn/\∃X5:RZ,Vals xs X5/\IsTup h a X5.toArray
 | .dK kvs=>kvs.length<=Vn/\(a==VD)=false/\∃vs,KV kvs vs/\h.DictOf (cH P w) a vs
 | .dT kvs=>kvs.length<=Vn/\(a==VD)=false/\∃xs:List (List Key×Addr×Value),
  Paired (λ(p:List Key×V)(q:List Key×Addr×Value)=>p.1=q.1/\H q.2.1∣(.tup (p.1.map kV))/\bn p.2 q.2.2) kvs xs/\
  ∃o es ep,h.get? a∣o/\o.ExactDict/\o.data= .dict es ep/\es.toList=xs.map (entryOfKey (Wm (cH P w)))/\(xs.map (·.1)).Nodup
 | .set S n=>h.SetOf (intKind P w) a S n
 | .ins C dx fs=>H dx∣.own a/\fs.length<=1000/\dx≠a/\h.get? a∣XC C dx/\
  ∃mA,h.Ns1 dx mA/\(∀f,jE (fs.lookup f) (mA f))/\WE mA (fs.map (·.1))
 | .own _=>∃o,h.get? a∣o
 | .xd fs=>∃mA,h.Ns1 a mA/\∀f,jE (fs.lookup f) (mA f)
 | .rng lo hi=>∃t u v,h.get? a=some {cls:=.type "range",data:=.fields #[.int lo t,.int hi u,.int 1 v]}
 | .YY o u=>h.get? a∣o/\c7 H h a u
 | .tbl ps=>h.get? a=some {cls:=.none,data:=.fields ps}
 | .met f x=>h.get? a∣(XI (.ref f) (.ref x))
 | .ext φ=>φ h/\(∃o,h.get? a∣o)/\∀h1 h2:Heap,φ h1->(∀o,h1.get? a∣o->h2.get? a∣o)->φ h2
def eR (H:Hp)(h:Heap):Prop:=∀a o,H a∣o->c7 P w H h a o
end
variable {H:Hp}{P:Vr}{w:World}{H':Hp}{h h':Heap}
section
variable {o:HO}
theorem c7.lt (x:c7 P w H h a o):a<h.objs.size:=by
 cases o with
 | lst xs=>let⟨_,_,_,_,e⟩:=x;exact W7 e
 | tup xs=>let⟨_,_,_,p⟩:=x;exact p.lt
 | dK kvs=>let⟨_,_,_,_,o,_,_,e,_⟩:=x;exact W7 e
 | dT kvs=>let⟨_,_,_,_,o,_,_,e,_⟩:=x;exact W7 e
 | set S n=>let⟨o,_,_,_,e,_⟩:=x;exact W7 e
 | ins C dx fs=>let⟨_,_,_,e,_⟩:=x;exact W7 e
 | own y=>let⟨_,e⟩:=x;exact W7 e
 | xd fs=>let⟨_,⟨_,_,_,e,_⟩,_⟩:=x;exact W7 e
 | rng lo hi=>let⟨_,_,_,e⟩:=x;exact W7 e
 | YY ob u=>let⟨e,_⟩:=x;exact W7 e
 | tbl ps=>exact W7 (show h.get? a∣_ from x)
 | met f y=>exact W7 (show h.get? a∣_ from x)
 | ext φ=>let⟨_,⟨_,e⟩,_⟩:=x;exact W7 e
theorem Paired.Fm {α β:Type}{F G:α->β->Prop}:∀{l₁:`x}{l₂:List β},Paired F l₁ l₂->(∀a b,F a b->G a b)->Paired G l₁ l₂
 | _,_,.nil,_=>.nil
 | _,_,.cons r t,f=>.cons (f _ _ r) (Paired.Fm t f)
theorem c7.YF (x:c7 P w H h a o)(k:∀b u,(b=a∨H b∣.own a)->h.get? b∣u->h'.get? b∣u)(ho:∀b,H b∣.own a->H' b∣.own a)(ht:∀b xs,H b∣.tup xs->H' b∣.tup xs):c7 P w H' h' a o:=by
 induction o with
 | lst xs=>let⟨z,X5,n,r,e⟩:=x;exact⟨z,X5,n,r,k _ _ `aR e⟩
 | tup xs=>let⟨z,X5,r,ob,e,c⟩:=x;exact⟨z,X5,r,ob,k _ _ `aR e,c⟩
 | dK kvs=>let⟨z,y,vs,r,ob,es,ep,e,c⟩:=x;exact⟨z,y,vs,r,ob,es,ep,k _ _ `aR e,c⟩
 | dT kvs=>
   let⟨z,y,xs,r,ob,es,ep,e,c⟩:=x;exact⟨z,y,xs,Paired.Fm r λp q z=>⟨z.1,ht _ _ z.2.1,z.2.2⟩,ob,es,ep,k _ _ `aR e,c⟩
 | set S n=>let⟨ob,es,ep,t,e,c⟩:=x;exact⟨ob,es,ep,t,k _ _ `aR e,c⟩
 | ins C dx fs=>
   let⟨d,z,ne,e,mA,⟨od,es,ep,e2,c⟩,r⟩:=x;exact⟨ho _ d,z,ne,k _ _ `aR e,mA,⟨od,es,ep,k _ _ (.inr d) e2,c⟩,r⟩
 | own y=>let⟨ob,e⟩:=x;exact⟨ob,k _ _ `aR e⟩
 | xd fs=>let⟨mA,⟨od,es,ep,e,c⟩,r⟩:=x;exact⟨mA,⟨od,es,ep,k _ _ `aR e,c⟩,r⟩
 | rng lo hi=>let⟨t,u,v,e⟩:=x;exact⟨t,u,v,k _ _ `aR e⟩
 | YY ob u ih=>let⟨e,q⟩:=x;exact⟨k _ _ `aR e,ih q⟩
 | tbl ps=>
   let e:h.get? a=some {cls:=.none,data:=.fields ps}:=x;show h'.get? a=some {cls:=.none,data:=.fields ps};exact k a _ `aR e
 | met f y=>
   let e:h.get? a∣(XI (.ref f) (.ref y)):=x;show h'.get? a∣(XI (.ref f) (.ref y));exact k a _ `aR e
 | ext φ=>let⟨p,⟨o,e⟩,st⟩:=x;exact⟨st _ _ p λo q=>k _ _ `aR q,⟨o,k _ _ `aR e⟩,st⟩
theorem eR.lt (x:eR P w H h)(e:H a∣o):a<h.objs.size:=(x a o e).lt
theorem eR.fresh (x:eR P w H h)(e:h.objs.size<=a):H a=none:=by
 cases q:H a with
 | none=>rfl
 | some u=>exact XS (UN (x.lt q) e) (UQ _)
theorem eR.kept (x:eR P w H h)(k:∀b u,h.get? b∣u->h'.get? b∣u):eR P w H h':=λa o e=>
 (x a o e).YF (λb u _ q=>k b u q) (λ_ q=>q) λ_ _ q=>q
theorem eR.laid (x:eR P w H h)(k:∀b u,h.get? b∣u->h'.get? b∣u)(hp:h.objs.size<=a)(new:c7 P w (upd H a o) h' a o):eR P w (upd H a o) h':=λb u e=>by
 let hn:=x.fresh hp;by_cases hb:b=a
 ·subst hb;rw[aG] at e;cases e;exact new
 ·rw[aJ hb] at e;exact(x b u e).YF (λc v _ q=>k c v q) (λc q=>by rw[aJ (dh q hn)];exact q) λc xs q=>by rw[aJ (dh q hn)];exact q
end
def Rd (H:Hp)(a:Addr)(u:HO):Prop:=H a∣u∨∃o,H a∣.YY o u
theorem Rd.ok {u:HO}(r:Rd H a u)(x:eR P w H h):c7 P w H h a u:=by
 obtain r | ⟨o,r⟩:=r
 ·exact x a u r
 ·let⟨_,q⟩:=x a _ r;exact q
noncomputable def Ci:Option HO->Prop
 | some (.lst _)=>True
 | some (.dK _)=>True
 | some (.dT _)=>True
 | some (.set _ _)=>True
 | some (.ins _ _ _)=>True
 | some (.ext _)=>True
 | _=>False
section
variable {x e:Addr}{o':HO}
theorem eR.write (ok:eR P w H h)(mu:Ci (H x))(he:e=x∨H e∣.own x)(k:∀b u,b≠e->h.get? b∣u->h'.get? b∣u)(heo:∃u,h'.get? e∣u)(new:c7 P w (upd H x o') h' x o'):eR P w (upd H x o') h':=λb u q=>by
 let nown:∀c y,H c∣.own y->c≠x:=λc y r z=>by subst z;rw[r] at mu;exact mu
 let ntup:∀c xs,H c∣.tup xs->c≠x:=λc xs r z=>by subst z;rw[r] at mu;exact mu
 by_cases hb:b=x
 ·subst hb;rw[aG] at q;cases q;exact new
 ·rw[aJ hb] at q;by_cases hbe:b=e
  ·let q':H b∣.own x:=by
    obtain z | z:=he
    ·exact XS (hbe.trans z) hb
    ·rw[hbe];exact z
   rw[q] at q';cases q'
   let⟨v,hv⟩:=heo;exact⟨v,by rw[hbe];exact hv⟩
  ·refine(ok b u q).YF (λc v hc r=>k c v ?_ r) (λc r=>by rw[aJ (nown c b r)];exact r) λc xs r=>by rw[aJ (ntup c xs r)];exact r
   obtain rfl | hc:=hc
   ·exact hbe
   ·rintro rfl;obtain z | z:=he
    ·exact nown c b hc z
    ·rw[hc] at z;cases z;exact hb rfl
end
structure Un (fs ex:RY)(H H':Hp)(h h':Heap):Prop where
 keep:∀b o,h.get? b∣o->H b=none->b∉fs->b∉ex->h'.get? b∣o
 slot:∀b o,h.get? b∣o->H b=none->b∈fs->b∉ex->∃sl,h'.get? b=some {o with slots:=sl}
 free:∀b o,h.get? b∣o->H b=none->b∉ex->H' b=none
 there:∀b o,h.get? b∣o->b∉ex->∃o',h'.get? b∣o'
 Zl:∀b xs,H b∣.tup xs->H' b∣.tup xs
 Ze:∀b o u,H b∣.YY o u->H' b∣.YY o u
 Zm:∀b ps,H b∣.tbl ps->∃more,H' b∣(.tbl (ps++more))
section
variable {fs fs' ex ex':RY}{H1 H2:Hp}{h1 h2:Heap}{x e:Addr}{o:HO}
theorem Un.any (u:Un fs ex H H1 h h1){ob:Obj}(q:h.get? b∣ob)(n:H b=none)(hx:b∉ex):∃sl,h1.get? b=some {ob with slots:=sl}:=by
 by_cases hb:b∈fs
 ·exact u.slot b ob q n hb hx
 ·exact⟨ob.slots,u.keep b ob q n hb hx⟩
theorem Un.kept (k:∀b u,h.get? b∣u->h'.get? b∣u):Un fs ex H H h h':=
 ⟨λb ob q _ _ _=>k b ob q,λb ob q _ _ _=>⟨ob.slots,k b ob q⟩,λ_ _ _ n _=>n,λb ob q _=>⟨ob,k b ob q⟩,λ_ _ q=>q,λ_ _ _ q=>q,λ_ ps q=>⟨#[],by rw[q];simp⟩⟩
theorem Un.refl:Un fs ex H H h h:=Un.kept λ_ _ q=>q
theorem Un.laid (k:∀b u,h.get? b∣u->h'.get? b∣u)(hp:h.objs.size<=a)(hn:H a=none):Un fs ex H (upd H a o) h h' where
 keep:=λb u q _ _ _=>k b u q
 slot:=λb u q _ _ _=>⟨u.slots,k b u q⟩
 free:=λb u q n _=>by rw[aJ (UO (UN (W7 q) hp))];exact n
 there:=λb u q _=>⟨u,k b u q⟩
 Zl:=λb xs q=>by rw[aJ (dh q hn)];exact q
 Ze:=λb u xs q=>by rw[aJ (dh q hn)];exact q
 Zm:=λb ps q=>⟨#[],by rw[aJ (dh q hn),q];simp⟩
theorem Un.write (mu:Ci (H x))(he:e=x∨H e∣.own x)(k:∀b u,b≠e->h.get? b∣u->h'.get? b∣u)(heo:∃u,h'.get? e∣u):Un fs ex H (upd H x o) h h':=by
 let hx:∀b,H b=none->b≠x:=λb n z=>by subst z;rw[n] at mu;exact mu
 let hb:∀b,H b=none->b≠e:=λb n z=>by
  subst z;obtain r | r:=he
  ·exact hx b n r
  ·rw[n] at r;cases r
 let hm:∀b u,H b∣u->¬Ci (some u)->b≠x:=λb u q nm z=>by subst z;rw[q] at mu;exact nm mu
 refine⟨λb u q n _ _=>k b u (hb b n) q,λb u q n _ _=>⟨u.slots,k b u (hb b n) q⟩,λb u q n _=>by rw[aJ (hx b n)];exact n,λb u q _=>?_,
  λb xs q=>by rw[aJ (hm b _ q λz=>z)];exact q,λb u xs q=>by rw[aJ (hm b _ q λz=>z)];exact q,λb ps q=>⟨#[],by rw[aJ (hm b _ q λz=>z),q];simp⟩⟩
 by_cases hbe:b=e
 ·subst hbe;exact heo
 ·exact⟨u,k b u hbe q⟩
end
noncomputable def Gn (h:Heap)(H:Hp):RY:=(SQ h.objs.size).filter λa=>(H a).isSome
def nK (h:Heap)(H:Hp):Heap:=PySem.W.hideAll h (Gn h H)
theorem BQ (h:Heap)(H:Hp):(nK h H).objs.size=h.objs.size:=PySem.W.hideAll_size _ _
variable {o:Obj}
theorem F8 (e:h.get? b∣o)(n:H b=none):(nK h H).get? b∣o:=
 PySem.W.hideAll_get _ e λhm=>by
  let q:(H b).isSome=true:=(Tn.mp hm).2;rw[n] at q;simp at q
theorem JE (e:(nK h H).get? b∣o):h.get? b∣o/\H b=none:=by
 let e':h.get? b∣o:=PySem.W.of_hideAll (Gn h H) e;refine⟨e',?_⟩;cases q:H b with
 | none=>rfl
 | some x=>
   let hm:b∈Gn h H:=Tn.mpr ⟨Tv.mpr (W7 e'),by simp[q]⟩;let z:(nK h H).get? b=none:=PySem.W.hideAll_none (Gn h H) hm;rw[z] at e;cases e
structure Mod (K:Xt)(mg:RQ)(base:Heap):Prop where
 kin:K.In base
 glob:base.Ns Vq mg
 blt:∃mb,base.Ns builtinsNs mb/\∀x:Str,x≠"__name__"->mb x=VM x
 nolimit:base.NoLimit
structure Cx where
 prog:Vr
 w:World
 K:Xt
 mg:RQ
 base:Heap
 A:Vu
 N:RU
 s₀:Vo
 H₀:Hp
 env:Env
 outer:List Env
 stack:List Env
 ex:RY
 fn:Str->Bool
 calm:Bool
 pn:RR
 xe:Value->Vo->Prop
def nh (l:List Env):RY:=l.filterMap (·.frame)
abbrev Cx.fs (X:Cx):RY:=nh X.outer
def Cd (sc:Scope)(x:Str):Prop:=sc.names.lookup x∣.local∨sc.names.lookup x∣.cell∨sc.names.lookup x∣.free
def Loc (sc:Scope)(x:Str):Prop:=sc.names.lookup x∣.local∨sc.names.lookup x∣.cell
abbrev nk (X:Cx)(cp:Pos)(es:R6):Prop:=((Wd cp (Vt es X.env)).all (λx=> !x.1)&&(backToKw cp (keywordEach [] X.env)).all (λx=>x.1.isSome)&&decide (es.length+([]:List Wi).length+(if([]:List Wi).isEmpty then 0 else 1)<30))=true
abbrev dk (X:Cx)(e:Expr)(es:R6):Prop:=Vt (e::es) X.env=(false,eval e X.env)::Vt es X.env
abbrev fL (X:Cx)(e:Expr):Prop:=Vt [e] X.env=[(false,eval e X.env)]
abbrev wA (X:Cx)(a b:Expr):Prop:=Vt [a,b] X.env=[(false,eval a X.env),(false,eval b X.env)]
abbrev eV (X:Cx)(cp:Pos)(es:R6):Prop:=(Wd cp (Vt es X.env)).any (·.1)=false
abbrev fA (X:Cx)(e:Expr)(x:Str):Prop:=WA e x X.env (eval e X.env)=eval e X.env
abbrev fU (X:Cx)(x:Str):Prop:=X.fn x=true∨X.env.scope.names.lookup x∣.local
structure At (X:Cx)(i:Nat)(x:Str):Prop where
 n:X.N[i]?∣x
 v:Cd X.env.scope x
 d:(x==("__debug__":Str))=false
 c:(x==("__classdict__":Str))=false
def cg:Lean.Syntax:=Lean.Unhygienic.run `(Lean.Parser.Tactic.tacticSeq| exact⟨rfl,by first | exact Or.inl rfl | exact Or.inr (Or.inl rfl) | exact Or.inr (Or.inr rfl),`c,`c⟩)
def Look (env:Env)(h:Heap)(m:RQ)(x:Str)(u:`aa):Prop:=
 (env.kindOf x∣.local/\m x∣u)∨((env.kindOf x∣.cell∨env.kindOf x∣.free)/\∃c,env.cells.lookup x∣c/\h.IsCell c (some u))
structure Cx.Ok (X:Cx):Prop where
 mod:Mod X.K X.mg X.base
 kind:X.env.scope.kind= .function
 glob:X.env.globals=Vq
 blt:X.env.builtins=builtinsNs
 above:X.s₀.heap.objs.size<=X.env.locals
 inj:∀x y c,X.env.cells.lookup x∣c->X.env.cells.lookup y∣c->x=y
 has:∀x,(X.env.kindOf x∣.cell∨X.env.kindOf x∣.free)->∃c,X.env.cells.lookup x∣c
 cab:∀x c,X.fn x=true->X.env.cells.lookup x∣c->X.s₀.heap.objs.size<=c
 hd:X.calm=true->X.A.handled=none
 frames:X.A.frames∣X.stack
 stk:X.stack=X.outer∨(X.stack=X.env::X.outer/\X.env.frame∣X.env.locals)
 exf:∀b∈X.ex,b≠X.env.locals/\∀x c,X.env.cells.lookup x∣c->c≠b
 bs:∀b o,X.base.get? b∣o->X.s₀.heap.get? b∣o/\X.H₀ b=none
 bsz:X.base.objs.size<=X.s₀.heap.objs.size
 noex:∀b o,X.base.get? b∣o->b∉X.ex
 Z5:∀b∈X.ex,b∉X.fs
 Y6:X.s₀.heap.FunFrames X.base X.outer
 frf:∀b∈X.fs,X.H₀ b=none
structure Inv (X:Cx)(X3:RR)(σ:List (Option V))(H:Hp)(s:Vo):Prop where
 ok:X.Ok
 os:s.os=X.s₀.os
 bare:Vk s.gens
 base:Un X.fs X.ex X.H₀ H X.s₀.heap s.heap
 loc:∃m,s.heap.Ns X.env.locals m/\∀(i:Nat)(x:Str)(v:V),X.N[i]?∣x->σ[i]?∣some v->Cd X.env.scope x->∃u,bn v u/\Look X.env s.heap m x u
 cell:∀x c,X.env.cells.lookup x∣c->∃v,s.heap.IsCell c v
 free:H X.env.locals=none
 YQ:∀x c,X.env.cells.lookup x∣c->H c=none
 pin:∀p∈X.pn++X3,s.heap.get? p.1∣p.2/\H p.1=none/\p.1≠X.env.locals/\p.1∉X.fs/\∀v,p.2.data≠ .cell v
 X8:eR X.prog X.w H s.heap
 len:σ.length=X.N.length
variable {X:Cx}{X3:RR}{s:Vo}{x:Str}{i:Nat}{g':Array Wx}{d':Drawn}{it:Addr}{N:RU}{M:Model}{A:Vu}{E:`r}{v:V}{u:`aa}{s':Vo}
section
variable {σ:List (Option V)}
variable {t':Nat}{ch:RY}
theorem Cx.Ok.QW (ok:X.Ok)(e:X.base.get? b∣o):b∉X.fs:=λhb=>by
 have:=(ok.Y6.mem hb).1;rw[e] at this;cases this
theorem Inv.bs (I:`h):∀b o,X.base.get? b∣o->s.heap.get? b∣o/\H b=none:=λb o e=>
 ⟨I.base.keep b o (I.ok.bs b o e).1 (I.ok.bs b o e).2 (I.ok.QW e) (I.ok.noex b o e),I.base.free b o (I.ok.bs b o e).1 (I.ok.bs b o e).2 (I.ok.noex b o e)⟩
theorem Inv.bk (I:`h):∀b o,X.base.get? b∣o->s.heap.get? b∣o:=λb o e=>(I.bs b o e).1
theorem Inv.mod (I:`h):Mod X.K X.mg X.base:=I.ok.mod
theorem Inv.gp (I:`h):X.K.In s.heap:=I.ok.mod.kin.keeps I.bk
theorem Inv.lt (I:`h):X.env.locals<⇑s:=let ⟨_,hn,_⟩:=I.loc;hn.lt
theorem Inv.sz (I:`h):X.s₀.heap.objs.size<=⇑s:=UK I.ok.above (U6 I.lt)
theorem Inv.Q1 (I:`h)(h:⇑s<=a):a∉X.fs:=λhb=>by
 let⟨_,o,ho,_⟩:=I.ok.Y6.mem hb;exact XS (UN (W7 ho) (UK I.sz h)) (UQ _)
theorem Inv.cne (I:`h):∀x c,X.env.cells.lookup x∣c->c≠X.env.locals:=λx c e z=>by
 let⟨v,o,ho,hd⟩:=I.cell x c e;let⟨m,⟨o',es,ep,Zt,hd',_⟩,_⟩:=I.loc;rw[z,Zt] at ho;cases ho;rw[hd'] at hd;cases hd
theorem Inv.Y6 (I:`h):s.heap.FunFrames X.base X.outer:=by
 let all:∀(l:List Env),(∀b∈nh l,b∈X.fs)->X.s₀.heap.FunFrames X.base l->s.heap.FunFrames X.base l:=by
  intro l
  induction l with
  | nil=>intro _ _;trivial
  | cons env r ih=>
    intro hs hl;let⟨hk,⟨L,o,hf,hn,ho,hd⟩,hr⟩:=hl;let hL:L∈X.fs:=hs L (by unfold nh;rw[Uj,hf];exact Sz);let⟨sl,e⟩:=I.base.slot L o ho (I.ok.frf L hL) hL λz=>I.ok.Z5 L z hL;exact⟨hk,⟨L,_,hf,hn,e,hd⟩,ih (λb hb=>hs b (by unfold nh;rw[Uj,hf];exact Sv _ hb)) hr⟩
 exact all X.outer (λ_ hb=>hb) I.ok.Y6
theorem Inv.stack (I:`h):s.heap.FunFrames X.base X.stack:=by
 obtain e | ⟨e,hf⟩:=I.ok.stk
 ·rw[e];exact I.Y6
 ·rw[e];let⟨m,hn,_⟩:=I.loc;refine .cons (by rw[I.ok.kind];decide) hf hn ?_ I.Y6;exact Heap.get?_none_of_le (UK I.ok.bsz I.ok.above)
theorem Inv.wJ (I:`h):∀b∈nh X.stack,b∈X.env.locals::X.fs:=λb hb=>by
 obtain e | ⟨e,hf⟩:=I.ok.stk
 ·rw[e] at hb;exact Sv _ hb
 ·rw[e] at hb;unfold nh at hb;rw[Uj,hf] at hb;exact hb
theorem Inv.zu (I:`h):∀b∈nh X.stack,H b=none:=λb hb=>by
 obtain e | hb:=SF.mp (I.wJ b hb)
 ·rw[e];exact I.free
 ·let⟨_,o,ho,_⟩:=I.ok.Y6.mem hb;exact I.base.free b o ho (I.ok.frf b hb) λz=>I.ok.Z5 b z hb
theorem Inv.step (I:`h)(Z9:`ab)(keep:∀b o,b≠X.env.locals->b∉X.fs->b∉ch->s.heap.get? b∣o->H b=none->h'.get? b∣o)(slot:∀b o,b≠X.env.locals->b∈X.fs->b∉ch->s.heap.get? b∣o->H b=none->∃sl,h'.get? b=some {o with slots:=sl})(free:∀b o,b∉ch->s.heap.get? b∣o->H b=none->H' b=none)(there:∀b o,b∉ch->s.heap.get? b∣o->∃o',h'.get? b∣o')(Zl:∀b xs,H b∣.tup xs->H' b∣.tup xs)(Ze:∀b o u,H b∣.YY o u->H' b∣.YY o u)(Zm:∀b ps,H b∣.tbl ps->∃more,H' b∣(.tbl (ps++more)))(ns:∀m,s.heap.Ns X.env.locals m->h'.Ns X.env.locals m)(X8:eR X.prog X.w H' h')(hg:Vk g'):
 Inv X X3 σ H' {s with heap:=h',gens:=g',drawn:=d',toks:=t'}:=by
 let neL:∀b o,X.s₀.heap.get? b∣o->b≠X.env.locals:=λb o e=>UO (UN (W7 e) I.ok.above);let neC:∀b o,X.s₀.heap.get? b∣o->b∉X.ex->b∉ch:=λb o e hx hb=>by
  rcases(Z9 b hb).1 with z | z
  ·exact hx z
  ·exact XS (UN (W7 e) z) (UQ _)
 let cellK:∀x c,X.env.cells.lookup x∣c->∀v,s.heap.IsCell c v->h'.IsCell c v:=λx c e v ⟨o,ho,hd⟩=>by
  let nch:c∉ch:=λz=>(Z9 c z).2.2.1 x c e rfl;by_cases hc:c∈X.fs
  ·let⟨sl,q⟩:=slot c o (I.cne x c e) hc nch ho (I.YQ x c e);exact⟨_,q,hd⟩
  ·exact⟨o,keep c o (I.cne x c e) hc nch ho (I.YQ x c e),hd⟩
 refine⟨I.ok,I.os,hg,⟨λb o e n hb hx=>?_,λb o e n hb hx=>?_,λb o e n hx=>?_,λb o e hx=>?_,λb xs e=>Zl b xs (I.base.Zl b xs e),λb o xs e=>Ze b o xs (I.base.Ze b o xs e),λb ps e=>?_⟩,?_,λx c e=>?_,?_,λx c e=>?_,λp hp=>?_,X8,I.len⟩
 ·exact keep b o (neL b o e) hb (neC b o e hx) (I.base.keep b o e n hb hx) (I.base.free b o e n hx)
 ·let⟨sl,e1⟩:=I.base.slot b o e n hb hx;let⟨sl',e2⟩:=slot b _ (neL b o e) hb (neC b o e hx) e1 (I.base.free b o e n hx);exact⟨sl',e2⟩
 ·let⟨o',e1⟩:=I.base.there b o e hx;exact free b o' (neC b o e hx) e1 (I.base.free b o e n hx)
 ·let⟨o',e1⟩:=I.base.there b o e hx;exact there b o' (neC b o e hx) e1
 ·let⟨m1,e1⟩:=I.base.Zm b ps e;let⟨m2,e2⟩:=Zm b _ e1;exact⟨m1++m2,by rw[e2,Array.append_assoc]⟩
 ·let⟨m,hn,hl⟩:=I.loc;refine⟨m,ns m hn,λi x v e1 e2 e3=>?_⟩;let⟨u,r,l⟩:=hl i x v e1 e2 e3;refine⟨u,r,?_⟩;obtain l | ⟨k,c,e,z⟩:=l
  ·exact .inl l
  ·exact .inr ⟨k,c,e,cellK x c e _ z⟩
 ·let⟨v,z⟩:=I.cell x c e;exact⟨v,cellK x c e v z⟩
 ·let⟨m,⟨o,_,_,ho,_⟩,_⟩:=I.loc;exact free _ o (λz=>(Z9 _ z).2.1 rfl) ho I.free
 ·let⟨v,o,ho,hd⟩:=I.cell x c e;exact free c o (λz=>(Z9 c z).2.2.1 x c e rfl) ho (I.YQ x c e)
 ·let⟨e,n,ne,nf,d⟩:=I.pin p hp;let nch:p.1∉ch:=λz=>(Z9 p.1 z).2.2.2 p hp rfl;exact⟨keep p.1 p.2 ne nf nch e n,free p.1 p.2 nch e n,ne,nf,d⟩
theorem Inv.un (I:`h)(u:Un X.fs [] H H' s.heap h')(X8:eR X.prog X.w H' h'):Inv X X3 σ H' {s with heap:=h',toks:=t'}:=by
 let⟨m,⟨o,es,ep,ho,r⟩,_⟩:=id I.loc;let⟨sl,hL⟩:=u.any ho I.free `d;exact I.step (g':=s.gens) (d':=s.drawn) (ch:=[]) (λ_ z=>nomatch z) (λb o _ hb _ e n=>u.keep b o e n hb `d) (λb o _ hb _ e n=>u.slot b o e n hb `d) (λb o _ e n=>u.free b o e n `d) (λb o _ e=>u.there b o e `d) u.Zl u.Ze u.Zm (λm' hm=>by
  let⟨o',es',ep',Zt,r'⟩:=hm;rw[ho] at Zt;cases Zt
  exact⟨_,es',ep',hL,r'⟩) X8 I.bare
theorem Inv.call (I:`h)(u:Un (nh X.stack) ch H H' s.heap h')(X8:eR X.prog X.w H' h')(hg:Vk g')(Z9:`ab):
 Inv X X3 σ H' {s with heap:=h',gens:=g',drawn:=d',toks:=t'}:=by
 let⟨m,⟨o,es,ep,ho,r⟩,_⟩:=id I.loc;let⟨sl,hL⟩:=u.any ho I.free λz=>(Z9 _ z).2.1 rfl;exact I.step (ch:=ch) Z9 (λb o hL hb hc e n=>u.keep b o e n (λz=>(SF.mp (I.wJ b z)).elim hL hb) hc) (λb o _ _ hc e n=>u.any e n hc) (λb o hc e n=>u.free b o e n hc) (λb o hc e=>u.there b o e hc) u.Zl u.Ze u.Zm (λm' hm=>by
  let⟨o',es',ep',Zt,r'⟩:=hm;rw[ho] at Zt;cases Zt
  exact⟨_,es',ep',hL,r'⟩) X8 hg
theorem Inv.turned (I:`h)(k:∀b o,b≠it->s.heap.get? b∣o->h'.get? b∣o)(hn:H it=none)(hL:it≠X.env.locals)(h1:it∈X.ex∨X.s₀.heap.objs.size<=it)(h2:∀x c,X.env.cells.lookup x∣c->c≠it)(h3:∀p∈X.pn++X3,p.1≠it):Inv X X3 σ H {s with heap:=h',toks:=t'}:=by
 let nit:∀b u,H b∣u->b≠it:=λb u e z=>by rw[z,hn] at e;cases e
 refine I.step (g':=s.gens) (d':=s.drawn) (ch:=[it]) (λb hb=>?_) (λb o _ _ hc e _=>k b o (λz=>hc (by simp[z])) e) (λb o _ _ hc e _=>⟨o.slots,k b o (λz=>hc (by simp[z])) e⟩) (λ_ _ _ _ n=>n)
  (λb o hc e=>⟨o,k b o (λz=>hc (by simp[z])) e⟩) (λ_ _ e=>e) (λ_ _ _ e=>e) (λb ps e=>⟨#[],by rw[e];simp⟩) (λm hm=>?_) (λb u e=>?_) I.bare
 ·let e:b=it:= ~~~hb
  subst e;exact⟨h1,hL,h2,h3⟩
 ·let⟨o,es,ep,ho,r⟩:=hm;exact⟨o,es,ep,k _ o (U8 hL) ho,r⟩
 ·refine(I.X8 b u e).YF (λc v hc q=>k c v ?_ q) (λ_ q=>q) λ_ _ q=>q;obtain z | z:=hc
  ·rw[z];exact nit b u e
  ·exact nit c _ z
theorem Inv.tok (I:`h)(t:Nat):Inv X X3 σ H {s with toks:=t}:=I.un (h':=s.heap) (t':=t) Un.refl I.X8
theorem Inv.kept (I:`h)(k:∀b u,s.heap.get? b∣u->h'.get? b∣u):Inv X X3 σ H {s with heap:=h',toks:=t'}:=I.un (Un.kept k) (I.X8.kept k)
theorem Inv.laid {a:Addr}{o:HO}(I:`h)(k:∀b u,s.heap.get? b∣u->h'.get? b∣u)(hp:⇑s<=a)(new:c7 X.prog X.w (upd H a o) h' a o):
 Inv X X3 σ (upd H a o) {s with heap:=h',toks:=t'}:=I.un (Un.laid k hp (I.X8.fresh hp)) (I.X8.laid k hp new)
theorem Inv.write {x e:Addr}{o:HO}(I:`h)(mu:Ci (H x))(he:e=x∨H e∣.own x)(k:∀b u,b≠e->s.heap.get? b∣u->h'.get? b∣u)(heo:∃u,h'.get? e∣u)(new:c7 X.prog X.w (upd H x o) h' x o):Inv X X3 σ (upd H x o) {s with heap:=h',toks:=t'}:=I.un (Un.write mu he k heo) (I.X8.write mu he k heo new)
theorem Inv.kM {pins':RR}(I:`h)(h:∀p∈pins',s.heap.get? p.1∣p.2/\H p.1=none/\p.1≠X.env.locals/\p.1∉X.fs/\∀v,p.2.data≠ .cell v):Inv X pins' σ H s:=
 ⟨I.ok,I.os,I.bare,I.base,I.loc,I.cell,I.free,I.YQ,λp hp=>(SK.mp hp).elim (λz=>I.pin p (SS _ z)) (h p),I.X8,I.len⟩
theorem wK (hN:N.Nodup){j:Nat}(a:N[i]?∣x)(b:N[j]?∣x):i=j:=by
 let⟨h1,e1⟩:=Sn.mp a;let⟨h2,e2⟩:=Sn.mp b;exact(Uq hN).mp (e1.trans e2.symm)
theorem uW {Q:Unit->Vo->Prop}(I:`h)(hN:X.N.Nodup)(hi:X.N[i]?∣x)(hx:Loc X.env.scope x)(r:bn v u)(h:∀s',Inv X X3 `bg H s'->(∃a,Xa a s.heap s'.heap/\(a=X.env.locals∨X.env.cells.lookup x∣a))->Q () s')(hf:fU X x:=by first | exact .inl rfl | exact .inr rfl | assumption):wpAny M A (storeName X.env x u) Q E s:=by
 let⟨m,hn,hl⟩:=id I.loc;let hcls:(X.env.scope.kind== .class ||(X.env.scope.kind== .module&&X.env.locals != X.env.globals))=false:=by rw[I.ok.kind];rfl
 let hiσ:i<σ.length:=by rw[I.len];exact(Sn.mp hi).1
 let cne:=I.cne;let tracked:∀{a:Addr}{h':Heap},(∃o,s.heap.get? a∣o/\H a=none)->Xa a s.heap h'->eR X.prog X.w H h':=λ{a h'} ha hs b ob e=>by
  let⟨_,_,hfree⟩:=ha;refine(I.X8 b ob e).YF (λc w' hc q=>(hs.2 c ?_).trans q) (λ_ q=>q) λ_ _ q=>q;rintro rfl;obtain rfl | hc:=hc
  ·rw[hfree] at e;cases e
  ·rw[hfree] at hc;cases hc
 obtain hk | hk:=hx
 ·refine wpAny_storeName_local hk hn (λh' hn' hs=>?_) hcls;let⟨oL,_,_,hoL,_⟩:=id hn;refine h _ ⟨I.ok,I.os,I.bare,⟨λb o e n hb hx=>?_,λb o e n hb hx=>?_,I.base.free,λb o e hx=>?_,I.base.Zl,I.base.Ze,I.base.Zm⟩,⟨_,hn',λj y v' e1 e2 e3=>?_⟩,λy c e=>?_,I.free,I.YQ,λp hp=>?_,tracked ⟨oL,hoL,I.free⟩ hs,by simpa using I.len⟩ ⟨_,hs,.inl rfl⟩
  ·exact(hs.2 b (UO (UN (W7 e) I.ok.above))).trans (I.base.keep b o e n hb hx)
  ·let⟨sl,e1⟩:=I.base.slot b o e n hb hx;exact⟨sl,(hs.2 b (UO (UN (W7 e) I.ok.above))).trans e1⟩
  ·let⟨o',e1⟩:=I.base.there b o e hx;exact⟨o',(hs.2 b (UO (UN (W7 e) I.ok.above))).trans e1⟩
  ·by_cases hj:j=i
   ·subst hj;rw[hi] at e1;cases e1
    rw[SG hiσ] at e2;cases e2
    exact⟨u,r,.inl ⟨hk,`d⟩⟩
   ·rw[SX (U8 hj)] at e2;let⟨u',r',q⟩:=hl j y v' e1 e2 e3;refine⟨u',r',?_⟩;obtain⟨k,e⟩ | ⟨k,c,e,z⟩:=q
    ·refine .inl ⟨k,?_⟩;have:y≠x:=λe=>hj (wK hN e1 (e▸hi));simp[this,e]
    ·exact .inr ⟨k,c,e,z.sameBut hs (cne y c e)⟩
  ·let⟨w',z⟩:=I.cell y c e;exact⟨w',z.sameBut hs (cne y c e)⟩
  ·let⟨e,n,ne,nf,d⟩:=I.pin p hp;exact⟨(hs.2 p.1 ne).trans e,n,ne,nf,d⟩
 ·let hfn:X.fn x=true:=by
   obtain z | z:=hf
   ·exact z
   ·rw[z] at hk;cases hk
  let⟨c,hc⟩:=I.ok.has x (.inl hk);let⟨w',z⟩:=I.cell x c hc;refine wpAny_storeName_cell I.ok.kind hk hc z (λh' hc' hs=>?_);let⟨oc,hoc,hocd⟩:=id z;refine h {s with heap:=h'} ⟨I.ok,I.os,I.bare,⟨λb o e n hb hx=>?_,λb o e n hb hx=>?_,I.base.free,λb o e hx=>?_,I.base.Zl,I.base.Ze,I.base.Zm⟩,⟨m,hn.sameBut hs (U8 (cne x c hc)),λj y v' e1 e2 e3=>?_⟩,λy c' e=>?_,I.free,I.YQ,λp hp=>?_,tracked ⟨oc,hoc,I.YQ x c hc⟩ hs,by simpa using I.len⟩ ⟨c,hs,.inr hc⟩
  ·exact(hs.2 b (UO (UN (W7 e) (I.ok.cab x c hfn hc)))).trans (I.base.keep b o e n hb hx)
  ·let⟨sl,e1⟩:=I.base.slot b o e n hb hx;exact⟨sl,(hs.2 b (UO (UN (W7 e) (I.ok.cab x c hfn hc)))).trans e1⟩
  ·let⟨o',e1⟩:=I.base.there b o e hx;exact⟨o',(hs.2 b (UO (UN (W7 e) (I.ok.cab x c hfn hc)))).trans e1⟩
  ·by_cases hj:j=i
   ·subst hj;rw[hi] at e1;cases e1
    rw[SG hiσ] at e2;cases e2
    exact⟨u,r,.inr ⟨.inl hk,c,hc,hc'⟩⟩
   ·rw[SX (U8 hj)] at e2;let⟨u',r',q⟩:=hl j y v' e1 e2 e3;refine⟨u',r',?_⟩;obtain q | ⟨k,c',e,z'⟩:=q
    ·exact .inl q
    ·refine .inr ⟨k,c',e,z'.sameBut hs ?_⟩;rintro rfl;exact hj (wK hN e1 (I.ok.inj _ _ _ e hc▸hi))
  ·by_cases hcc:c'=c
   ·subst hcc;exact⟨_,hc'⟩
   ·let⟨w2,z2⟩:=I.cell y c' e;exact⟨w2,z2.sameBut hs hcc⟩
  ·let⟨e,n,ne,nf,d⟩:=I.pin p hp;refine⟨(hs.2 p.1 ?_).trans e,n,ne,nf,d⟩;intro q;rw[q,hoc] at e;let q':oc=p.2:=Option.some.inj e;exact d w' (by rw[← q'];exact hocd)
theorem qX {Q:Unit->Vo->Prop}(I:`h)(hN:X.N.Nodup)(hi:X.N[i]?∣x)(hx:Loc X.env.scope x)(r:bn v u)(h:∀s',Inv X X3 `bg H s'->Q () s')(hf:fU X x:=by first | exact .inl rfl | exact .inr rfl | assumption):wpAny M A (storeName X.env x u) Q E s:=
 uW I hN hi hx r (λs' I' _=>h s' I') hf
theorem Inv.OU (I:`h)(ho:s'.os=s.os)(u:Un (nh X.stack) ch H H' s.heap s'.heap)(X8:eR X.prog X.w H' s'.heap)(hg:Vk s'.gens)(Z9:`ab):Inv X X3 σ H' s':=by
 let⟨h',g',d',t',o'⟩:=s';let e:o'=s.os:=ho;subst e;exact I.call (g':=g') (t':=t') (d':=d') u X8 hg Z9
end
abbrev XK:=Value->Option Addr->Hp->Prop
abbrev St:=List (Option V)
abbrev VK:=V->Hp->Prop
abbrev TE:=St->Hp->VK->Prop
abbrev TT:=St->Hp->(Bool->Hp->Prop)->Prop
abbrev TA:=St->Hp->(List V->Hp->Prop)->Prop
structure Ends where
 nx:St->Hp->Prop
 rt:VK
 bk:St->Hp->Prop:=λ_ _=>False
 ct:St->Hp->Prop:=λ_ _=>False
abbrev TS:=Ends->St->Hp->Prop
def EP (X:Cx)(X3:RR)(σ:St)(Q:VK)(u:`aa)(s':Vo):Prop:=∃v H',Inv X X3 σ H' s'/\bn v u/\Q v H'
def TP (X:Cx)(X3:RR)(σ:St)(Q:Bool->Hp->Prop)(b:Bool)(s':Vo):Prop:=∃H',Inv X X3 σ H' s'/\Q b H'
def AP (X:Cx)(X3:RR)(σ:St)(Q:List V->Hp->Prop)(us:RZ)(s':Vo):Prop:=∃vs H',Inv X X3 σ H' s'/\Vals vs us/\Q vs H'
noncomputable def SP (X:Cx)(X3:RR)(D:Ends)(f:Flow)(s':Vo):Prop:=
 match f with
 | .next=>∃σ' H',Inv X X3 σ' H' s'/\D.nx σ' H'
 | .brk=>∃σ' H',Inv X X3 σ' H' s'/\D.bk σ' H'
 | .cont=>∃σ' H',Inv X X3 σ' H' s'/\D.ct σ' H'
 | .ret u=>∃v σ' H',Inv X X3 σ' H' s'/\bn v u/\D.rt v H'
def PE (X:Cx)(e:Expr)(t:TE):Prop:=
 ∀(X3:RR)(s:Vo)(σ:St)(H:Hp)(Q:VK),Inv X X3 σ H s->t σ H Q->wpAny `f X.A (eval e X.env) `bm X.xe s
def PT (X:Cx)(e:Expr)(t:TT):Prop:=
 ∀(X3:RR)(s:Vo)(σ:St)(H:Hp)(Q:Bool->Hp->Prop),Inv X X3 σ H s->t σ H Q->wpAny `f X.A (VZ e X.env (eval e X.env)) (TP X X3 σ Q) X.xe s
def PW (X:Cx)(e:Expr)(t:TT):Prop:=
 ∀(whole:Sem Value)(X3:RR)(s:Vo)(σ:St)(H:Hp)(Q:Bool->Hp->Prop),Inv X X3 σ H s->t σ H Q->wpAny `f X.A (VZ e X.env whole) (TP X X3 σ Q) X.xe s
variable {e:Expr}
theorem PW.pt {t:TT}(h:PW X e t):PT X e t:=h _
def PA (X:Cx)(es:R6)(t:TA):Prop:=
 ∀(pos:Pos)(X3:RR)(s:Vo)(σ:St)(H:Hp)(Q:List V->Hp->Prop),Inv X X3 σ H s->t σ H Q->wpAny `f X.A (spliced (Wd pos (Vt es X.env))) (AP X X3 σ Q) X.xe s
def PS (X:Cx)(st:Stmt)(t:TS):Prop:=
 ∀(X3:RR)(s:Vo)(σ:St)(H:Hp)(D:Ends),Inv X X3 σ H s->t D σ H->wpAny `f X.A (exec st X.env) (SP X X3 D) X.xe s
def lN (X:Cx)(st:List Stmt)(t:TS):Prop:=
 ∀(X3:RR)(s:Vo)(σ:St)(H:Hp)(D:Ends),Inv X X3 σ H s->t D σ H->wpAny `f X.A (execs st X.env) (SP X X3 D) X.xe s
theorem a7 {α:Type}{t:Sem α}{Q Q':α->Vo->Prop}(h:wpAny M A t Q E s)(hQ:∀a s,Q a s->Q' a s):wpAny M A t Q' E s:=VC h hQ λ_ _ x=>x
variable {Q:`r}{pos:Pos}{σ:St}{ta:TE}{c:Expr}
section
def RE (i:Nat):TE:=λσ H Q=>∃v,σ[i]?∣some v/\Q v H
def tC (v:V):TE:=λ_ H Q=>Q v H
theorem aX (hN:At X i x):PE X `bE (RE i):=by
 intro X3 s σ H Q I h;let⟨v,e,h⟩:=h;let⟨m,hn,hl⟩:=I.loc;let⟨u,r,l⟩:=hl i x v hN.n e hN.v;let fin:EP X X3 σ Q u s:=⟨v,H,I,r,h⟩;obtain⟨hk,hm⟩ | ⟨hk,c,hc,Zp⟩:=l
 ·exact wpAny_Name (wpAny_loadName_local I.ok.kind hk hn hm fin) hN.d
 ·obtain hk | hk:=hk
  ·exact wpAny_Name (wpAny_loadName_cell I.ok.kind hk hc Zp fin) hN.d
  ·exact wpAny_Name (wpAny_loadName_free I.ok.kind hk hc Zp fin hN.c) hN.d
theorem Cm {i j pos}:PE X (.Constant (.int i) j pos) (tC (.int i)):=λ_ _ _ H _ I h=>wpAny_Constant_int ⟨.int i,H,I.tok _,⟨_,rfl⟩,h⟩
theorem AL {b j pos}:PE X (.Constant (.bool b) j pos) (tC (.bl b)):=λ_ _ _ H _ I h=>Constant_bool ⟨.bl b,H,I,rfl,h⟩
theorem JO {j pos}:PE X (.Constant .none j pos) (tC .Ye):=λ_ _ _ H _ I h=>Constant_none ⟨.Ye,H,I,rfl,h⟩
theorem Ke {x j pos}:PE X (.Constant (.str x) j pos) (tC (.str x)):=λ_ _ _ H _ I h=>Calls.Constant_str ⟨.str x,H,I.tok _,⟨_,rfl⟩,h⟩
def Gl (X:Cx)(x:Str):Prop:=X.env.kindOf x∣.globalImplicit
theorem t8 (I:`h)(hg:Gl X x)(hm:X.mg x∣u)(h:Q u s)(hd:YV x:=by decide):wpAny `f X.A (eval `bE X.env) Q E s:=
 Calls.Name_function_global I.ok.kind hg (Calls.loadGlobal_global (by rw[I.ok.glob];exact I.mod.glob.keeps I.bk) hm h) hd
theorem i7 (I:`h)(hg:Gl X x)(hm:X.mg x=none)(hv:VM x∣u)(h:Q u s)(hn:x≠"__name__":=by decide)(hd:YV x:=by decide):wpAny `f X.A (eval `bE X.env) Q E s:=by
 let⟨mb,h1,h2⟩:=I.mod.blt;exact Calls.Name_function_global I.ok.kind hg (Calls.loadGlobal_builtin (by rw[I.ok.glob];exact I.mod.glob.keeps I.bk) hm (by rw[I.ok.blt];exact h1.keeps I.bk) ((h2 x hn).trans hv) h) hd
theorem jJ (hg:Gl X x)(hm:X.mg x∣u)(r:bn v u)(hd:YV x:=by decide):PE X `bE (tC v):=
 λ_ _ _ H _ I h=>t8 I hg hm ⟨v,H,I,r,h⟩ hd
theorem JF (hg:Gl X x)(hm:X.mg x=none)(hv:VM x∣u)(r:bn v u)(hn:x≠"__name__":=by decide)(hd:YV x:=by decide):PE X `bE (tC v):=
 λ_ _ _ H _ I h=>i7 I hg hm hv ⟨v,H,I,r,h⟩ hn hd
variable {a b:Expr}{tb:TE}
def PC (X:Cx)(op:CmpOp)(a b:Expr)(t:TE):Prop:=
 ∀(X3:RR)(s:Vo)(σ:St)(H:Hp)(Q:VK),Inv X X3 σ H s->t σ H Q->
  wpAny `f X.A (eval a X.env) (λv s₁=>wpAny `f X.A (eval b X.env) (λu s₂=>wpAny `f X.A (Vy op v u) `bm X.xe s₂) X.xe s₁) X.xe s
def tB (t:TE):TT:=λσ H Q=>t σ H λx H1=>∃c,x= .bl c/\Q c H1
theorem mF {op:CmpOp}{t:TE}(h:PC X op a b t)(h1:VI op b=false:=by first | exact nobehind _ `c `c | rfl):PT X (.Compare a [op] [b] pos) (tB t):=by
 intro X3 s σ H Q I hw;refine wpAny_isTrue_Compare1 (a7 (h X3 s σ H _ I hw) λv s1 h1=>a7 h1 λu s2 h2=>a7 h2 λc s3 ⟨x,H1,I1,r1,q1⟩=>?_) h1;let⟨d,rfl,q⟩:=q1;cases r1
 exact Vx ⟨H1,I1,q⟩
theorem Me {t:TE}(h:PE X e t)(he:∀whole,VZ e X.env whole=(do let v ← whole;Wa e.pos;VP [v] (truthy v)):=by intro _;rfl):PT X e (tB t):=by
 intro X3 s σ H Q I hw;refine isTrue_plain (a7 (h X3 s σ H _ I hw) λv s1 ⟨x,H1,I1,r1,q1⟩=>?_) (he _);let⟨d,rfl,q⟩:=q1;cases r1
 exact Vx ⟨H1,I1,q⟩
variable {tA tB':TT}{rest:R6}
noncomputable def Rc (t u:TT):TT:=λσ H Q=>t σ H λc H1=>if c=true then u σ H1 Q else Q false H1
noncomputable def tOr (t u:TT):TT:=λσ H Q=>t σ H λc H1=>if c=true then Q true H1 else u σ H1 Q
def QS (t:TT):TT:=λσ H Q=>t σ H λc H1=>Q (!c) H1
theorem Jq (ha:PT X a tA):PW X (.BoolOp .And [a] pos) tA:=by
 intro wh X3 s σ H Q I h;refine isTrue_and (a7 (ha X3 s σ H Q I h) λc s1 e=>?_);cases c with
 | true=>exact isTrue_and_nil e
 | false=>exact e
theorem JU (ha:PT X a tA):PW X (.BoolOp .Or [a] pos) tA:=by
 intro wh X3 s σ H Q I h;refine isTrue_or (a7 (ha X3 s σ H Q I h) λc s1 e=>?_);cases c with
 | false=>exact isTrue_or_nil e
 | true=>exact e
theorem Mb (ha:PT X a tA)(hb:PW X (.BoolOp .And (b::rest) pos) tB'):PW X (.BoolOp .And (a::b::rest) pos) (Rc tA tB'):=by
 intro wh X3 s σ H Q I h;refine isTrue_and (a7 `aI λc s1 ⟨H1,I1,q1⟩=>?_);cases c with
 | true=>exact hb wh X3 s1 σ H1 Q I1 q1
 | false=>exact⟨H1,I1,q1⟩
theorem M9 (ha:PT X a tA)(hb:PW X (.BoolOp .Or (b::rest) pos) tB'):PW X (.BoolOp .Or (a::b::rest) pos) (tOr tA tB'):=by
 intro wh X3 s σ H Q I h;refine isTrue_or (a7 `aI λc s1 ⟨H1,I1,q1⟩=>?_);cases c with
 | true=>exact⟨H1,I1,q1⟩
 | false=>exact hb wh X3 s1 σ H1 Q I1 q1
theorem L9 (ha:PT X a tA):PT X (.UnaryOp .Not a pos) (QS tA):=by
 intro X3 s σ H Q I h;exact isTrue_not (ha X3 s σ H (λc H1=>Q (!c) H1) I h)
noncomputable def N7 (ta tb:TE):TE:=λσ H Q=>ta σ H λx H1=>∃c,x= .bl c/\if c=true then tb σ H1 Q else Q (.bl false) H1
def O2 (ta:TE):TE:=λσ H Q=>ta σ H λx H1=>∃c,x= .bl c/\Q (.bl (!c)) H1
theorem JL {op}{t:TE}(h:PE X a t):PE X (.BoolOp op [a] pos) t:=λX3 s σ H Q I hw=>BoolOp_one (h X3 s σ H Q I hw)
theorem M0 (ha:PE X a ta)(hb:PE X (.BoolOp .And (b::rest) pos) tb):PE X (.BoolOp .And (a::b::rest) pos) (N7 ta tb):=by
 intro X3 s σ H Q I h;refine BoolOp_and (a7 `aI λv s1 ⟨x,H1,I1,r1,q1⟩=>?_);let⟨c,rfl,q1⟩:=q1;cases r1
 refine Vx ?_;cases c with
 | true=>exact hb X3 s1 σ H1 Q I1 q1
 | false=>exact⟨.bl false,H1,I1,rfl,q1⟩
theorem Ki (ha:PE X a ta):PE X (.UnaryOp .Not a pos) (O2 ta):=by
 intro X3 s σ H Q I h;refine UnaryOp_ (a7 `aI λv s1 ⟨x,H1,I1,r1,q1⟩=>?_);let⟨c,rfl,q1⟩:=q1;cases r1
 exact not_of (Vx ⟨.bl (!c),H1,I1,rfl,q1⟩)
noncomputable def tIf (t:TT)(ta tb:TE):TE:=λσ H Q=>t σ H λc H1=>if c=true then ta σ H1 Q else tb σ H1 Q
theorem Ed (hc:PT X c tA)(ha:PE X a ta)(hb:PE X b tb):PE X (.IfExp c a b pos) (tIf tA ta tb):=by
 intro X3 s σ H Q I h;refine wpAny_IfExp (a7 (hc X3 s σ H _ I h) λd s1 ⟨H1,I1,q1⟩=>?_);cases d with
 | true=>exact ha X3 s1 σ H1 Q I1 q1
 | false=>exact hb X3 s1 σ H1 Q I1 q1
end
def bu (K:Xt)(H:Hp)(a:Addr)(xs:`K):Prop:=
 Rd H a (.lst xs)∨
  ∃(o:Obj)(X5:`bL)(n:Nat),K.lookup a∣o/\o.cls= .type "list"/\o.dict=none/\o.data= .seq X5 n/\X5.size<=Vn/\Vals xs X5.toList
def dY (K:Xt)(H:Hp)(a:Addr)(xs:`K):Prop:=
 Rd H a (.tup xs)∨
  ∃(o:Obj)(X5:`bL)(n:Nat),K.lookup a∣o/\o.cls= .type "tuple"/\o.data= .seq X5 n/\X5.size<=Vn/\Vals xs X5.toList
noncomputable def Rk:Value->Option V
 | .none=>some .Ye
 | .bool b=>some (.bl b)
 | .int i _=>some (.int i)
 | .str x _=>some (.str x)
 | .bytes b _=>some (.Z2 b)
 | .float b _=>some (.flt b)
 | .ref a=>some (.ref a)
 | .type n=>some (.ty n)
 | _=>none
theorem bn.abs {x:V}(r:bn x u):Rk u∣x:=by
 cases x with
 | Ye=>cases r;rfl
 | bl _=>cases r;rfl
 | int _=>let⟨t,rfl⟩:=r;rfl
 | str _=>let⟨t,rfl⟩:=r;rfl
 | Z2 _=>let⟨t,rfl⟩:=r;rfl
 | flt _=>let⟨t,rfl⟩:=r;rfl
 | ref _=>cases r;rfl
 | ty _=>cases r;rfl
theorem bn.inj {x y:V}{u:`aa}(r:bn x u)(q:bn y u):x=y:=Option.some.inj (r.abs.symm.trans q.abs)
theorem Vals.inj:∀{xs ys:`K}{us:RZ},Vals xs us->Vals ys us->xs=ys
 | _,_,_,.nil,.nil=>rfl
 | _,_,_,.cons r t,.cons r' t'=>by rw[r.inj r',Vals.inj t t']
variable {xs:`K}{K:Xt}
section
variable {ys:`K}
theorem bu.of (h:H a∣.lst xs):bu K H a xs:=.inl (.inl h)
theorem dY.of (h:H a∣.tup xs):dY K H a xs:=.inl (.inl h)
theorem Inv.list (I:`h)(h:bu X.K H a xs):∃X5:RZ,Vals xs X5/\PlainL s.heap a X5.toArray/\xs.length<=Vn:=by
 obtain h | ⟨o,X5,n,hk,hc,hd,hs,hz,r⟩:=h
 ·let⟨z,X5,n,r,e⟩:=h.ok I.X8;exact⟨X5,r,⟨_,n,e,rfl,rfl,rfl⟩,z⟩
 ·refine⟨X5.toList,r,⟨o,n,I.gp a o hk,hc,hd,by simpa using hs⟩,?_⟩;let e:=r.length;simp only[R8] at e;cbv
theorem Inv.tuple (I:`h)(h:dY X.K H a xs):∃X5:RZ,Vals xs X5/\IsTup s.heap a X5.toArray/\xs.length<=Vn:=by
 obtain h | ⟨o,X5,n,hk,hc,hs,hz,r⟩:=h
 ·let⟨z,X5,r,p⟩:=h.ok I.X8;exact⟨X5,r,p,z⟩
 ·refine⟨X5.toList,r,⟨o,I.gp a o hk,hc,n,by simpa using hs⟩,?_⟩;let e:=r.length;simp only[R8] at e;cbv
theorem Inv.nH (I:`h)(h:bu X.K H a xs)(h':bu X.K H a ys):xs=ys:=by
 let⟨X5,r,⟨o,n,e,_,_,d⟩,_⟩:=I.list h;let⟨its',r',⟨o',n',e',_,_,d'⟩,_⟩:=I.list h';rw[e] at e';cases e'
 rw[d] at d';injection d' with d1 _;have:X5=its':= ~~~congrArg Array.toList d1
 subst this;exact r.inj r'
theorem Inv.vo (I:`h)(h:dY X.K H a xs)(h':dY X.K H a ys):xs=ys:=by
 let⟨X5,r,⟨o,e,_,n,d⟩,_⟩:=I.tuple h;let⟨its',r',⟨o',e',_,n',d'⟩,_⟩:=I.tuple h';rw[e] at e';cases e'
 rw[d] at d';injection d' with d1 _;have:X5=its':= ~~~congrArg Array.toList d1
 subst this;exact r.inj r'
end
abbrev Cx.mw (X:Cx)(E:`r):Cx:={X with xe:=E}
abbrev Cx.gP (X:Cx):Cx:=X.mw λ_ _=>False
theorem Cx.Ok.mw {X:Cx}(ok:X.Ok)(E:`r):(X.mw E).Ok:=
 ⟨ok.mod,ok.kind,ok.glob,ok.blt,ok.above,ok.inj,ok.has,ok.cab,ok.hd,ok.frames,ok.stk,ok.exf,ok.bs,ok.bsz,ok.noex,ok.Z5,ok.Y6,ok.frf⟩
theorem Cx.Ok.jU (ok:(X.mw E).Ok):X.Ok:=
 ⟨ok.mod,ok.kind,ok.glob,ok.blt,ok.above,ok.inj,ok.has,ok.cab,ok.hd,ok.frames,ok.stk,ok.exf,ok.bs,ok.bsz,ok.noex,ok.Z5,ok.Y6,ok.frf⟩
theorem Inv.mw (I:`h)(E:`r):Inv (X.mw E) X3 σ H s:=⟨I.ok.mw E,I.os,I.bare,I.base,I.loc,I.cell,I.free,I.YQ,I.pin,I.X8,I.len⟩
theorem Inv.jU (I:Inv (X.mw E) X3 σ H s):Inv X X3 σ H s:=⟨I.ok.jU,I.os,I.bare,I.base,I.loc,I.cell,I.free,I.YQ,I.pin,I.X8,I.len⟩
theorem SP.jU {D:Ends}{f:Flow}{s':Vo}(h:SP (X.mw E) X3 D f s'):SP X X3 D f s':=by
 cases f with
 | next=>let⟨σ',H',I,q⟩:=h;exact⟨σ',H',I.jU,q⟩
 | brk=>let⟨σ',H',I,q⟩:=h;exact⟨σ',H',I.jU,q⟩
 | cont=>let⟨σ',H',I,q⟩:=h;exact⟨σ',H',I.jU,q⟩
 | ret u=>let⟨v,σ',H',I,r,q⟩:=h;exact⟨v,σ',H',I.jU,r,q⟩
theorem lN.gP {st:List Stmt}{t:TS}(h:lN X.gP st t):lN X st t:=λX3 s σ H D I hw=>
 VC (h X3 s σ H D (I.mw _) hw) (λ_ _ q=>q.jU) λ_ _ z=>Sg z
variable {te:TE}{tc:TT}
section
variable {st:Stmt}{rest:List Stmt}{t u:TS}
def OI:TS:=λD σ H=>D.nx σ H
def RG (t u:TS):TS:=λD σ H=>t {D with nx:=u D} σ H
theorem IC:lN X [] OI:=λ_ _ σ H _ I h=>V4 ⟨σ,H,I,h⟩
theorem ED (h1:PS X st t)(h2:lN X rest u):lN X (st::rest) (RG t u):=by
 intro X3 s σ H D I h;refine wpAny_execs_cons (a7 (h1 X3 s σ H {D with nx:=u D} I h) λf s1 q=>?_);cases f with
 | next=>
   let⟨σ',H',I',q⟩:=q;exact h2 X3 s1 σ' H' D I' q
 | ret v=>exact q
 | brk=>exact q
 | cont=>exact q
theorem Js (h1:PS X st t):lN X [st] t:=by
 intro X3 s σ H D I h;refine wpAny_execs_cons (a7 (h1 X3 s σ H D I h) λf s1 q=>?_);cases f with
 | next=>exact V4 q
 | ret v=>exact q
 | brk=>exact q
 | cont=>exact q
theorem Inv.quiet (I:`h):interactive X.env=false:=by simp[interactive,I.ok.kind]
def OO (te:TE):TS:=λD σ H=>te σ H λ_ H1=>D.nx σ H1
theorem eD (he:PE X e te)(hs:Vv e none pos.line X.env=pure false:=by rfl):PS X (.Expr e pos) (OO te):=by
 intro X3 s σ H D I h;exact wpAny_Expr_any (a7 (he X3 s σ H _ I h) λv s1 ⟨x,H1,I1,r1,q1⟩=>⟨σ,H1,I1,q1⟩) I.quiet hs
def Ry (te:TE):TS:=λD σ H=>te σ H D.rt
theorem jm (he:PE X e te):PS X (.Return (some e) pos) (Ry te):=by
 intro X3 s σ H D I h;exact wpAny_Return_some (a7 (he X3 s σ H _ I h) λv s1 ⟨x,H1,I1,r1,q1⟩=>⟨x,σ,H1,I1,r1,q1⟩)
noncomputable def RL (c:TT)(t u:TS):TS:=λD σ H=>c σ H λb H1=>if b=true then t D σ H1 else u D σ H1
theorem OB {a b:List Stmt}(hc:PT X c tc)(ha:lN X a t)(hb:lN X b u):PS X (.If c a b pos) (RL tc t u):=by
 intro X3 s σ H D I h;refine wpAny_If (a7 (hc X3 s σ H _ I h) λd s1 ⟨H1,I1,q1⟩=>?_);cases d with
 | true=>exact ha X3 s1 σ H1 D I1 q1
 | false=>exact hb X3 s1 σ H1 D I1 q1
end
abbrev TG:=V->St->Hp->(St->Hp->Prop)->Prop
abbrev yj:=List V->St->Hp->(St->Hp->Prop)->Prop
def PG (X:Cx)(target:Expr)(t:TG):Prop:=
 ∀(X3:RR)(s:Vo)(σ:St)(H:Hp)(v:V)(u:`aa)(Q:St->Hp->Prop),Inv X X3 σ H s->bn v u->t v σ H Q->
  wpAny `f X.A (VT target X.env u) (λ_ s'=>∃σ' H',Inv X X3 σ' H' s'/\Q σ' H') X.xe s
noncomputable def Gq (X:Cx)(ts:R6)(t:yj):Prop:=
 ∀(X3:RR)(s:Vo)(σ:St)(H:Hp)(vs:`K)(us:RZ)(Q:St->Hp->Prop),Inv X X3 σ H s->Vals vs us->t vs σ H Q->
  wpAny `f X.A (assignInOrder ((VS ts X.env).map (·.2)) us) (λ_ s'=>∃σ' H',Inv X X3 σ' H' s'/\Q σ' H') X.xe s
abbrev F6:=V->V->V->Hp->(Hp->Prop)->Prop
def Lz (X:Cx)(t:F6):Prop:=
 ∀(X3:RR)(s:Vo)(σ:St)(H:Hp)(o i v:V)(ov iv u:`aa)(Q:Hp->Prop),Inv X X3 σ H s->bn o ov->bn i iv->bn v u->t o i v H Q->
  wpAny `f X.A (setItem ov iv u) (λ_ s'=>∃H',Inv X X3 σ H' s'/\Q H') X.xe s
abbrev GA:=V->V->Hp->VK->Prop
def Qp (X:Cx)(op:Operator)(t:GA):Prop:=
 ∀(X3:RR)(s:Vo)(σ:St)(H:Hp)(x y:V)(v u:`aa)(Q:VK),Inv X X3 σ H s->bn x v->bn y u->t x y H Q->
  wpAny `f X.A (inplaceOp op v u) `bm X.xe s
variable {op:Operator}{es:R6}{n:Nat}{tg:Expr}{pos':Pos}
def Bq (i:Nat):TG:=λv σ H Q=>Q `bg H
theorem gA (hN:X.N.Nodup)(hi:X.N[i]?∣x)(hx:Loc X.env.scope x)(hf:fU X x:=by first | exact .inl rfl | exact .inr rfl | assumption):PG X `bE (Bq i):=by
 intro X3 s σ H v u Q I r h;exact wpAny_assign_Name (qX I hN hi hx r (λs' I'=>⟨_,H,I',h⟩) hf)
def Rg:yj:=λvs σ H Q=>vs=[]/\Q σ H
def OM (t:TG)(u:yj):yj:=λvs σ H Q=>∃v r,vs=v::r/\t v σ H λσ' H'=>u r σ' H' Q
theorem uJ:Gq X [] Rg:=by
 intro X3 s σ H vs us Q I r h;let⟨e,h⟩:=h;subst e;cases r
 exact assignInOrder_nil ⟨σ,H,I,h⟩
theorem f7 {t:TG}{u:yj}(h1:PG X e t)(h2:Gq X es u)(hs:(VS (e::es) X.env).map (·.2)=VT e X.env::(VS es X.env).map (·.2):=by rfl):Gq X (e::es) (OM t u):=by
 intro X3 s σ H vs us Q I r h;let⟨v,vr,e1,h⟩:=h;subst e1;cases r with
 | cons r rr=>
   rw[hs];refine assignInOrder_cons (a7 (h1 X3 s σ H _ _ _ I r h) λ_ s1 ⟨σ1,H1,I1,q1⟩=>?_);exact h2 X3 s1 σ1 H1 _ _ Q I1 rr q1
def QR (K:Xt)(n:Nat)(t:yj):TG:=λv σ H Q=>∃a xs,v= .ref a/\dY K H a xs/\xs.length=n/\t xs σ H Q
theorem xv {k:Nat}{t:yj}(hc:X.calm=true)(h:Gq X es t)(hn:(VS es X.env).length=n:=by rfl)(hst:(VS es X.env).findIdx? (·.1)=none:=by rfl):PG X (.Tuple es k pos) (QR X.K n t):=by
 intro X3 s σ H v u Q I r hw;let⟨a,xs,e1,hq,hl,hw⟩:=hw;subst e1;cases r
 let⟨X5,rv,ht,hz⟩:=I.tuple hq;refine assign_Tuple_tuple (I.ok.hd hc) ht (by simp[hn,← hl,rv.length]) hst λh' hx=>?_;let I1:Inv X X3 σ H {s with heap:=h'}:=I.kept (t':=s.toks) λb o e=>hx b o (UO (W7 e)) e;exact h X3 _ σ H xs _ Q I1 (~~~rv) hw
def Rx (to ti:TE)(t:F6):TG:=λv σ H Q=>to σ H λo H1=>ti σ H1 λi H2=>t o i v H2 λH3=>Q σ H3
theorem D6 {o i:Expr}{to ti:TE}{t:F6}(ho:PE X o to)(hi:PE X i ti)(hs:Lz X t)(ha:∀v,VT (.Subscript o i pos) X.env v=(do
  let ov ← VP [v] (eval o X.env)
  let iv ← VP [v,ov] (eval i X.env)
  Wa pos
  VP [v,ov,iv] (setItem ov iv v)
  release [v,ov,iv] []):=by intro _;rfl):PG X (.Subscript o i pos) (Rx to ti t):=by
 intro X3 s σ H v u Q I r h;rw[ha];refine Vp (VX (a7 (ho X3 s σ H _ I h) λov s1 ⟨x,H1,I1,r1,q1⟩=>?_));refine Vp (VX (a7 (hi X3 s1 σ H1 _ I1 q1) λiv s2 ⟨y,H2,I2,r2,q2⟩=>?_));refine Vp (WB (Vp (VX (a7 (hs X3 s2 σ H2 x y v ov iv u _ I2 r1 r2 r q2) λ_ s3 ⟨H3,I3,q3⟩=>?_))));exact wpAny_release ⟨σ,H3,I3,q3⟩
def ET (te:TE)(g:TG):TS:=λD σ H=>te σ H λx H1=>g x σ H1 D.nx
theorem xR {g:TG}(he:PE X e te)(hg:PG X tg g)(hs:We [tg] e pos.line X.env=pure false:=by rfl)(hw:Wf [tg] e X.env=pure none:=by rfl)(h1:(VS [tg] X.env).map (·.2)=[VT tg X.env]:=by rfl):PS X (.Assign [tg] e pos) (ET te g):=by
 intro X3 s σ H D I h;refine wpAny_Assign_stores (a7 (he X3 s σ H _ I h) λv s1 ⟨x,H1,I1,r1,q1⟩=>?_) hs hw;rw[h1];exact a7 (hg X3 s1 σ H1 x v _ I1 r1 q1) λ_ s2 q=>q
theorem lr (hN:X.N.Nodup)(hi:X.N[i]?∣x)(hx:Loc X.env.scope x)(he:PE X e te)(hs:Vv e (some (.Name x pos')) pos.line X.env=pure false:=by rfl)(hf:fU X x:=by first | exact .inl rfl | exact .inr rfl | assumption):
 PS X (.Assign [.Name x pos'] e pos) (ET te (Bq i)):=by
 intro X3 s σ H D I h;refine wpAny_Assign_Name (a7 (he X3 s σ H _ I h) λv s1 ⟨y,H1,I1,r1,q1⟩=>?_) hs;exact qX I1 hN hi hx r1 (λs2 I2=>⟨_,H1,I2,q1⟩) hf
def QY (i:Nat)(te:TE)(ti:GA):TS:=λD σ H=>∃x,σ[i]?∣some x/\te σ H λy H1=>ti x y H1 λz H2=>D.nx (σ.set i (some z)) H2
theorem Ku {ti:GA}(hN:X.N.Nodup)(hi:X.N[i]?∣x)(hx:Loc X.env.scope x)(he:PE X e te)(ho:Qp X op ti)(hf:fU X x:=by first | exact .inl rfl | exact .inr rfl | assumption):
 PS X (.AugAssign (.Name x pos') op e pos) (QY i te ti):=by
 intro X3 s σ H D I h;let⟨v,e1,h⟩:=h;let⟨m,hn,hl⟩:=I.loc;let vis:Cd X.env.scope x:=by obtain k | k:=hx;exact .inl k;exact .inr (.inl k)
 let⟨u,r,l⟩:=hl i x v hi e1 vis;refine wpAny_AugAssign_Name ?_;let go:wpAny `f X.A (eval e X.env) (λw s₂=>wpAny `f X.A (inplaceOp op u w) (λr s₃=>wpAny `f X.A (storeName X.env x r) (λ_=>SP X X3 D .next) X.xe s₃) X.xe s₂) X.xe s:=by
  refine a7 (he X3 s σ H _ I h) λw s1 ⟨y,H1,I1,r1,q1⟩=>?_;refine a7 (ho X3 s1 σ H1 v y u w _ I1 r r1 q1) λz s2 ⟨zv,H2,I2,r2,q2⟩=>?_;exact qX I2 hN hi hx r2 (λs3 I3=>⟨_,H2,I3,q2⟩) hf
 obtain⟨hk,hm⟩ | ⟨hk,c,hc,Zp⟩:=l
 ·exact wpAny_loadName_local I.ok.kind hk hn hm go
 ·obtain hk | hk:=hk
  ·exact wpAny_loadName_cell I.ok.kind hk hc Zp go
  ·obtain k | k:=hx
   ·have:X.env.scope.names.lookup x∣.free:=hk;rw[k] at this;cases this
   ·have:X.env.scope.names.lookup x∣.free:=hk;rw[k] at this;cases this
def ipI (f:Int->Int->Int):GA:=λx y H Q=>∃i j,x= .int i/\y= .int j/\Q (.int (f i j)) H
theorem MZ:Qp X .Add (ipI λi j=>i+j):=by
 intro X3 s σ H x y v u Q I r1 r2 h;let⟨i,j,e1,e2,q⟩:=h;subst e1;subst e2;let⟨t,rfl⟩:=r1;let⟨t',rfl⟩:=r2;exact iadd_int ⟨.int _,H,I.tok _,⟨_,rfl⟩,q⟩
variable {body:List Stmt}{tb:TS}
noncomputable def Kn (c:TT)(tb:TS):TS:=λD σ H=>∃W:Nat->St->Hp->Prop,(∃m,W m σ H)/\∀m σ H,W m σ H->
 c σ H λb H1=>if b=true then∃N:St->Hp->Prop,(∀σ' H',N σ' H'->∃m',m'<m/\W m' σ' H')/\tb {D with nx:=N,ct:=N,bk:=D.nx} σ H1 else D.nx σ H1
theorem FK (hp:Wn `f X.A X.env X.xe)(hc:PT X c tc)(hb:lN X body tb):PS X (.While c body [] pos) (Kn tc tb):=by
 intro X3 s σ H D I h;let⟨W,⟨m0,w0⟩,turn⟩:=h;refine wpAny_While (codeAny_whileLoop (λn s'=>∃σ' H',Inv X X3 σ' H' s'/\W n σ' H') ?_ m0 ⟨σ,H,I,w0⟩);rintro n s1 ⟨σ1,H1,I1,w1⟩;refine VO hp (a7 (hc X3 s1 σ1 H1 _ I1 (turn n σ1 H1 w1)) λb s2 ⟨H2,I2,q2⟩=>?_);cases b with
 | true=>
   let⟨N,hN,q2⟩:=q2;rw[XU rfl];refine VO hp (a7 (hb X3 s2 σ1 H2 _ I2 q2) λf s3 q3=>?_);cases f with
   | next=>
     let⟨σ3,H3,I3,n3⟩:=q3;let⟨m',hm,w3⟩:=hN σ3 H3 n3;exact⟨m',hm,σ3,H3,I3,w3⟩
   | cont=>
     let⟨σ3,H3,I3,n3⟩:=q3;let⟨m',hm,w3⟩:=hN σ3 H3 n3;exact⟨m',hm,σ3,H3,I3,w3⟩
   | brk=>exact q3
   | ret v=>exact q3
 | false=>
   rw[XT R9];exact V4 ⟨σ1,H2,I2,q2⟩
structure It where
 go:Nat->Hp->Prop
 yld:Nat->Hp->V->Hp->Prop
 stop:Nat->Hp->Prop
def mB (X:Cx)(X3:RR)(H:Hp)(b:Addr):Prop:=
 H b=none/\b≠X.env.locals/\b∉X.fs/\(b∈X.ex∨X.s₀.heap.objs.size<=b)/\(∀x c,X.env.cells.lookup x∣c->c≠b)/\∀p∈X.pn++X3,p.1≠b
theorem Inv.ka (I:`h)(hb:⇑s<=b)(hn:H' b=none):mB X X3 H' b:=by
 refine⟨hn,UW (UN I.lt hb),I.Q1 hb,.inr (UK I.sz hb),λx c e z=>?_,λp hp z=>?_⟩
 ·let⟨v,q⟩:=I.cell x c e;exact XS (UN q.lt (by rw[z];exact hb)) (UQ _)
 ·exact XS (UN (W7 (I.pin p hp).1) (by rw[z];exact hb)) (UQ _)
structure Turn (P:Vr)(w:World)(K:Xt)(tg:Expr)(J:It)(fp:RY)(it:Addr)(tn:Nat->Heap->Prop):Prop where
 mem:it∈fp
 obj:∀i h,tn i h->∀b∈fp,∃o,h.get? b∣o/\∀v,o.data≠ .cell v
 keep:∀i h h',tn i h->(∀b∈fp,∀o,h.get? b∣o->h'.get? b∣o)->tn i h'
 item:∀(X:Cx),X.prog=P->X.w=w->X.K=K->X.calm=true->∀(i:Nat)(X3:RR)(s:Vo)(σ:St)(H:Hp)(E:`r),Inv X X3 σ H s->(∀b∈fp,mB X X3 H b)->tn i s.heap->J.go i H->
  wpAny (model P w) X.A (Ws (.ref it)) (λr s1=>∃u,r∣u/\
   wpAny (model P w) X.A (V5 tg (.ref it) u) (λ_ s2=>∃x H',Inv X X3 σ H' s2/\bn x u/\J.yld i H x H'/\tn (i+1) s2.heap/\∀b∈fp,H' b=none) E s1) E s
 done:∀(X:Cx),X.prog=P->X.w=w->X.K=K->X.calm=true->∀(i:Nat)(X3:RR)(s:Vo)(σ:St)(H:Hp)(E:`r),Inv X X3 σ H s->(∀b∈fp,mB X X3 H b)->tn i s.heap->J.stop i H->
  wpAny (model P w) X.A (Ws (.ref it)) (λr s1=>r=none/\Inv X X3 σ H s1) E s
 self:∀(A:Vu)(i:Nat)(s:Vo)(Q:`r)(E:`r),tn i s.heap->Q (.ref it) s->wpAny (model P w) A (pyIter (.ref it)) Q E s
abbrev TI:=St->Hp->(It->Hp->Prop)->Prop
def MV (X:Cx)(X3:RR)(σ:St)(tg:Expr)(R:It->Hp->Prop)(itv:`aa)(s2:Vo):Prop:=
 ∃(it:Addr)(fp:RY)(tn:Nat->Heap->Prop)(J:It)(H':Hp),itv= .ref it/\Inv X X3 σ H' s2/\Turn X.prog X.w X.K tg J fp it tn/\tn 0 s2.heap/\(∀b∈fp,mB X X3 H' b)/\R J H'
def PI (X:Cx)(tg iter:Expr)(wi:TI):Prop:=
 ∀(X3:RR)(s:Vo)(σ:St)(H:Hp)(R:It->Hp->Prop),Inv X X3 σ H s->wi σ H R->
  wpAny `f X.A (eval iter X.env) (λv s1=>wpAny `f X.A (pyIter v) (MV X X3 σ tg R) X.xe s1) X.xe s
theorem qo {n:String}{vs:`bL}{Q:Unit->Vo->Prop}(ho:s.heap.get? it∣o)(hc:o.cls= .type n)(hd:o.data= .fields vs)(hn:["enumerate","zip","dict_itemiterator","dict_reverseitemiterator","odict_iterator","itertools.zip_longest","itertools.pairwise"].contains n=false)(hQ:Q () s):wpAny M A (V5 tg (.ref it) u) Q E s:=by
 unfold V5;cases tg<;>first
  | exact Vs hQ
  | (cases u<;>first
   | exact Vs hQ
   | (refine Vp (wpAny_load ho ?_)
      rw[hc,hd];show wpAny M A (if(["enumerate","zip","dict_itemiterator","dict_reverseitemiterator","odict_iterator","itertools.zip_longest","itertools.pairwise"].contains n&&vs[0]?==some (Wt _))=true then _ else _) Q E s;rw[XT (by intro h;rw[hn,Bool.false_and] at h;cases h)]
      exact Vs hQ))
def P9 (K:Xt)(a:Addr):It:=
 ⟨λi H=>∃xs x,bu K H a xs/\xs[i]?∣x,λi H x H'=>H'=H/\∀xs,bu K H a xs->xs[i]?∣x,λi H=>∃xs,bu K H a xs/\xs.length<=i⟩
def Qm (K:Xt)(a:Addr):It:=
 ⟨λi H=>∃xs x,dY K H a xs/\xs[i]?∣x,λi H x H'=>H'=H/\∀xs,dY K H a xs->xs[i]?∣x,λi H=>∃xs,dY K H a xs/\xs.length<=i⟩
def Ce (lo:Int)(n:Nat):It:=⟨λi _=>i<n,λi H x H'=>H'=H/\x= .int (lo+i),λi _=>n<=i⟩
theorem BA (a it:Addr):Turn P w K tg (P9 K a) [it] it (λi h=>h.IsListIter it a i) where
 mem:=`d
 obj:=λi h st b hb=>by
  let e:b=it:= ~~~hb
  subst e;let⟨o,e,c,d⟩:=st;exact⟨o,e,λv z=>by rw[d] at z;cases z⟩
 keep:=λi h h' st k=>st.at λo e=>k it `d o e
 item:=by
  intro X hP hw hK hc i X3 s σ H E I hf st hg;subst hP hw hK;let⟨xs,x,hq,hx⟩:=hg;let⟨X5,rv,p,hz⟩:=I.list hq;let⟨u,hu,ru⟩:=rv.get hx;let⟨f0,f1,f2,f3,f4,f5⟩:=hf it `d;refine wpAny_pyNext_list_item st p.isList (x:=u) (~~~hu) λh' Zw sb=>?_;let I1:Inv X X3 σ H {s with heap:=h'}:=I.turned (t':=s.toks) (λb o hb e=>(sb.2 b hb).trans e) f0 f1 f3 f4 f5;let⟨o,e,c,d⟩:=id Zw;exact⟨u,rfl,qo (s:={s with heap:=h'}) e c d `c ⟨x,H,I1,ru,⟨rfl,λys hy=>by rw[I.nH hy hq];exact hx⟩,Zw,λb hb=>(hf b hb).1⟩⟩
 done:=by
  intro X hP hw hK hc i X3 s σ H E I hf st hg;subst hP hw hK;let⟨xs,hq,hx⟩:=hg;let⟨X5,rv,p,hz⟩:=I.list hq;let⟨f0,f1,f2,f3,f4,f5⟩:=hf it `d;let hl:=rv.length;exact wpAny_pyNext_list_end (I.ok.hd hc) st p.isList (by simp;cbv) λh' eb=>⟨rfl,I.turned (t':=s.toks) (λb o hb e=>eb b o hb e) f0 f1 f3 f4 f5⟩
 self:=λ_ _ _ _ _ st h=>wpAny_pyIter_listiter st h
theorem AY (a it:Addr):Turn P w K tg (Qm K a) [it] it (λi h=>h.IsTupleIter it a i) where
 mem:=`d
 obj:=λi h st b hb=>by
  let e:b=it:= ~~~hb
  subst e;let⟨o,e,c,d⟩:=st;exact⟨o,e,λv z=>by rw[d] at z;cases z⟩
 keep:=λi h h' st k=>st.at λo e=>k it `d o e
 item:=by
  intro X hP hw hK hc i X3 s σ H E I hf st hg;subst hP hw hK;let⟨xs,x,hq,hx⟩:=hg;let⟨X5,rv,p,hz⟩:=I.tuple hq;let⟨u,hu,ru⟩:=rv.get hx;let⟨f0,f1,f2,f3,f4,f5⟩:=hf it `d;refine wpAny_pyNext_tuple_item st (show s.heap.IsTuple a X5.toArray from p) (x:=u) (~~~hu) λh' Zw sb=>?_;let I1:Inv X X3 σ H {s with heap:=h'}:=I.turned (t':=s.toks) (λb o hb e=>(sb.2 b hb).trans e) f0 f1 f3 f4 f5;let⟨o,e,c,d⟩:=id Zw;exact⟨u,rfl,qo (s:={s with heap:=h'}) e c d `c ⟨x,H,I1,ru,⟨rfl,λys hy=>by rw[I.vo hy hq];exact hx⟩,Zw,λb hb=>(hf b hb).1⟩⟩
 done:=by
  intro X hP hw hK hc i X3 s σ H E I hf st hg;subst hP hw hK;let⟨xs,hq,hx⟩:=hg;let⟨X5,rv,p,hz⟩:=I.tuple hq;let⟨f0,f1,f2,f3,f4,f5⟩:=hf it `d;let hl:=rv.length;exact wpAny_pyNext_tuple_end (I.ok.hd hc) st (show s.heap.IsTuple a X5.toArray from p) (by simp;cbv) λh' eb=>⟨rfl,I.turned (t':=s.toks) (λb o hb e=>eb b o hb e) f0 f1 f3 f4 f5⟩
 self:=λ_ _ _ _ _ st h=>wpAny_pyIter_tupleiter st h
theorem AX (it:Addr)(lo:Int)(n:Nat):Turn P w K tg (Ce lo n) [it] it (λi h=>Wq h it (lo+(i:Nat)*1) ((n:Int)-(i:Nat)) 1) where
 mem:=`d
 obj:=λi h st b hb=>by
  let e:b=it:= ~~~hb
  subst e;exact⟨_,st,λv z=>by
   let z':Data.fields _=Data.cell v:=z;cases z'⟩
 keep:=λi h h' st k=>k it `d _ st
 item:=by
  intro X hP hw hK hc i X3 s σ H E I hf st hg;subst hP hw hK;let⟨f0,f1,f2,f3,f4,f5⟩:=hf it `d;let W:=Walks.range (prog:=X.prog) (w:=X.w) (I.ok.hd hc) it lo 1 n;refine W.item i s _ _ hg st λv h' tk hv Zw kk=>?_;let⟨t,rfl⟩:=hv;let I1:Inv X X3 σ H {s with heap:=h',toks:=tk}:=I.turned (λb o hb e=>kk b o (~~~hb) e) f0 f1 f3 f4 f5;refine⟨_,rfl,qo (s:={s with heap:=h',toks:=tk}) (n:="range_iterator") Zw rfl rfl `c ⟨.int (lo+i),H,I1,⟨t,?_⟩,⟨rfl,rfl⟩,Zw,λb hb=>(hf b hb).1⟩⟩;rw[Int.mul_one]
 done:=by
  intro X hP hw hK hc i X3 s σ H E I hf st hg;subst hP hw hK;let⟨f0,f1,f2,f3,f4,f5⟩:=hf it `d;exact wpAny_pyNext_range_end (I.ok.hd hc) st (by have:n<=i:=hg;cbv) λh' eb=>⟨rfl,I.turned (t':=s.toks) (λb o hb e=>eb b o hb e) f0 f1 f3 f4 f5⟩
 self:=λ_ _ _ _ _ st h=>wpAny_pyIter_rangeiter st h
variable {l:Expr}{tl:TE}
def Ny (K:Xt)(tl:TE):TI:=λσ H R=>tl σ H λx H1=>∃a,x= .ref a/\(∃xs,bu K H1 a xs)/\R (P9 K a) H1
def RK (K:Xt)(tl:TE):TI:=λσ H R=>tl σ H λx H1=>∃a,x= .ref a/\(∃xs,dY K H1 a xs)/\R (Qm K a) H1
theorem yW (hl:PE X l tl):PI X tg l (Ny X.K tl):=by
 intro X3 s σ H R I h;refine a7 (hl X3 s σ H _ I h) λv s1 ⟨x,H1,I1,r1,q1⟩=>?_;let⟨a,e,⟨xs,hq⟩,q⟩:=q1;subst e;cases r1
 let⟨X5,rv,p,hz⟩:=I1.list hq;refine V3 p.isList ?_;refine⟨⇑s1,[⇑s1],_,_,H1,rfl,I1.kept (t':=s1.toks) λb o e=>W6 _ e,BA a _,⟨_,W8 _ rfl,rfl,rfl⟩,λb hb=>?_,q⟩;let e:b=⇑s1:= ~~~hb
 subst e;exact I1.ka (UJ _) (I1.X8.fresh (UJ _))
theorem BY (hl:PE X l tl):PI X tg l (RK X.K tl):=by
 intro X3 s σ H R I h;refine a7 (hl X3 s σ H _ I h) λv s1 ⟨x,H1,I1,r1,q1⟩=>?_;let⟨a,e,⟨xs,hq⟩,q⟩:=q1;subst e;cases r1
 let⟨X5,rv,p,hz⟩:=I1.tuple hq;refine wpAny_pyIter_tuple (show s1.heap.IsTuple a X5.toArray from p) ?_;refine⟨⇑s1,[⇑s1],_,_,H1,rfl,I1.kept (t':=s1.toks) λb o e=>W6 _ e,AY a _,⟨_,W8 _ rfl,rfl,rfl⟩,λb hb=>?_,q⟩;let e:b=⇑s1:= ~~~hb
 subst e;exact I1.ka (UJ _) (I1.X8.fresh (UJ _))
theorem yi {R:It->Hp->Prop}{lo hi:Int}{t u v:Tok}{tk:Nat}(I:`h)(h1: -(2 ^ 62)<=lo)(h2:lo<2 ^ 62)(h3: -(2 ^ 62)<=hi)(h4:hi<2 ^ 62)(q:R (Ce lo (hi-lo).toNat) H):wpAny `f X.A (pyIter (.ref ⇑s)) (MV X X3 σ tg R) E {s with heap:=s.heap.push {cls:=.type "range",data:=.fields #[.int lo t,.int hi u,.int 1 v]},toks:=tk}:=by
 refine wpAny_pyIter_range (IsRange.new ..) (small_one h1 h2 h3 h4) ?_;let I1:Inv X X3 σ H {s with heap:=s.heap.push {cls:=.type "range",data:=.fields #[.int lo t,.int hi u,.int 1 v]},toks:=tk}:=I.kept λb o e=>W6 _ e;refine⟨(s.heap.push {cls:=.type "range",data:=.fields #[.int lo t,.int hi u,.int 1 v]}).objs.size,[(s.heap.push {cls:=.type "range",data:=.fields #[.int lo t,.int hi u,.int 1 v]}).objs.size],_,_,H,rfl,
  I1.kept (t':=tk) λb o e=>W6 _ e,AX _ lo (hi-lo).toNat,?_,λb hb=>?_,q⟩
 ·let e1:lo+((0:Nat):Int)*1=lo:=`d
  let e2:(((hi-lo).toNat:Nat):Int)-((0:Nat):Int)=WI lo hi 1:=by rw[rangeSize_one];split<;>cbv
  show Wq _ _ (lo+((0:Nat):Int)*1) ((((hi-lo).toNat:Nat):Int)-((0:Nat):Int)) 1;rw[e1,e2];exact W8 _ rfl
 ·let e:b=(s.heap.push {cls:=.type "range",data:=.fields #[.int lo t,.int hi u,.int 1 v]}).objs.size:= ~~~hb
  subst e;exact I1.ka (UJ _) (I1.X8.fresh (UJ _))
def Nr (ta:TA):TI:=λσ H R=>ta σ H λvs H1=>∃j:Int,vs=[.int j]/\ -(2 ^ 62)<=j/\j<2 ^ 62/\R (Ce 0 j.toNat) H1
def NK (ta:TA):TI:=λσ H R=>ta σ H λvs H1=>∃i j:Int,vs=[.int i,.int j]/\(-(2 ^ 62)<=i/\i<2 ^ 62/\ -(2 ^ 62)<=j/\j<2 ^ 62)/\R (Ce i (j-i).toNat) H1
theorem Dc {a:Expr}{ta:TA}{p:Pos}(hg:Gl X "range")(hm:X.mg "range"=none)(ha:PA X [a] ta)(hs:fL X a:=by rfl):PI X tg (.Call (.Name "range" p) [a] [] pos) (Nr ta):=by
 intro X3 s σ H R I h;refine Call_ (i7 I hg hm Vl (Vf `T hs rfl));let⟨j,e,q1,q2,q⟩:=q1;subst e;cases r1 with
 | cons r rr=>
   cases rr
   let⟨t,rfl⟩:=r;exact call_range_1 (yi I1 `a `a q1 q2 (~~~q))
theorem Dv {a b:Expr}{ta:TA}{p:Pos}(hg:Gl X "range")(hm:X.mg "range"=none)(ha:PA X [a,b] ta)(hs:wA X a b:=by rfl)(YE:fL X b:=by rfl):
 PI X tg (.Call (.Name "range" p) [a,b] [] pos) (NK ta):=by
 intro X3 s σ H R I h;refine Call_ (i7 I hg hm Vl (Vf `T (by first | rw[dk,hs,YE] | rw[hs,YE]) (by rw[YE];rfl)));let⟨i,j,e,⟨q1,q2,q3,q4⟩,q⟩:=q1;subst e;cases r1 with
 | cons r rr=>
   cases rr with
   | cons r' rr=>
     cases rr
     let⟨t,rfl⟩:=r;let⟨t',rfl⟩:=r';exact call_range_2 (yi I1 q1 q2 q3 q4 q)
def Ri (wi:TI)(g:TG)(tb:TS):TS:=λD σ H=>wi σ H λJ H1=>∃W:Nat->Nat->St->Hp->Prop,(∃m,W 0 m σ H1)/\∀i m σ H,W i m σ H->
 (J.stop i H/\D.nx σ H)∨(J.go i H/\∃N:St->Hp->Prop,(∀σ' H',N σ' H'->∃m',m'<m/\W (i+1) m' σ' H')/\∀x H',J.yld i H x H'->g x σ H' λσ2 H2=>tb {D with nx:=N,ct:=N,bk:=D.nx} σ2 H2)
noncomputable def m9 (fp:RY)(h:Heap):RR:=fp.filterMap λb=>(h.get? b).map λo=>(b,o)
theorem kI {fp:RY}(hb:b∈fp)(e:h.get? b∣o):(b,o)∈m9 fp h:=Us.mpr ⟨b,hb,by rw[e];rfl⟩
theorem Cg {fp:RY}{p:Addr×Obj}(hp:p∈m9 fp h):p.1∈fp/\h.get? p.1∣p.2:=by
 let⟨b,hb,e⟩:=Us.mp hp;cases q:h.get? b with
 | none=>rw[q] at e;cases e
 | some o=>
   rw[q] at e;let e':(b,o)=p:=Option.some.inj e;subst e';exact⟨hb,q⟩
theorem Inv.pinned {fp:RY}(I:`h)(hf:∀b∈fp,mB X X3 H b)(ho:∀b∈fp,∃o,s.heap.get? b∣o/\∀v,o.data≠ .cell v):Inv X (X3++m9 fp s.heap) σ H s:=
 I.kM λp hp=>(SK.mp hp).elim (λz=>I.pin p (SH _ z)) λz=>by
   let⟨hb,e⟩:=Cg z;let⟨f0,f1,f2,_⟩:=hf p.1 hb;let⟨o,e',d⟩:=ho p.1 hb;rw[e] at e';cases e'
   exact⟨e,f0,f1,f2,d⟩
theorem Inv.rJ {pl:RR}(I:Inv X (X3++pl) σ H s):Inv X X3 σ H s:=I.kM λp hp=>I.pin p (SH _ (SS _ hp))
theorem De {iter:Expr}{wi:TI}{g:TG}(hp:Wn `f X.A X.env X.xe)(hc:X.calm=true)(hi:PI X tg iter wi)(hg:PG X tg g)(hb:lN X body tb)(hs:∀x,VA iter X.env x=pure x:=by intro _;rfl):PS X (.For tg iter body [] pos) (Ri wi g tb):=by
 intro X3 s σ H D I h;refine wpAny_For (a7 (hi X3 s σ H _ I h) λv s1 h1=>a7 h1 λitv s2 h2=>?_) hs;let⟨it,fp,tn,J,H2,e,I2,T,st2,f2,W,⟨m0,w0⟩,turn⟩:=h2;subst e
 let stat:∀{H':Hp},(∀b∈fp,H' b=none)->∀b∈fp,mB X X3 H' b:=λhn b hb=>⟨hn b hb,(f2 b hb).2⟩;refine codeAny_forLoop_any (λn s'=>∃i σ' H',Inv X X3 σ' H' s'/\tn i s'.heap/\(∀b∈fp,H' b=none)/\W i n σ' H') ?_ m0 ⟨0,σ,H2,I2,st2,λb hb=>(f2 b hb).1,w0⟩;rintro n s3 ⟨i,σ3,H3,I3,st3,fr3,w3⟩;obtain⟨stop,qn⟩ | ⟨go,N,hN,step⟩:=turn i n σ3 H3 w3
 ·refine VO hp (a7 (T.done X rfl rfl rfl hc i X3 s3 σ3 H3 X.xe I3 (stat fr3) st3 stop) λr s4 ⟨hr,I4⟩=>?_);subst hr;exact V4 ⟨σ3,H3,I4,qn⟩
 ·refine VO hp (a7 (T.item X rfl rfl rfl hc i X3 s3 σ3 H3 X.xe I3 (stat fr3) st3 go) λr s4 ⟨u,hr,h4⟩=>?_);subst hr;refine VO hp (a7 h4 λ_ s5 ⟨x,H5,I5,r5,y5,st5,fr5⟩=>?_);let I5':=I5.pinned (stat fr5) (T.obj _ _ st5);refine VO hp (a7 (hg _ s5 σ3 H5 x u _ I5' r5 (step x H5 y5)) λ_ s6 ⟨σ6,H6,I6,q6⟩=>?_);refine VO hp (a7 (hb _ s6 σ6 H6 _ I6 q6) λf s7 q7=>?_);let again:∀{σ7:St}{H7:Hp},Inv X (X3++m9 fp s5.heap) σ7 H7 s7->N σ7 H7->∃m,m<n/\∃i σ' H',Inv X X3 σ' H' s7/\tn i s7.heap/\(∀b∈fp,H' b=none)/\W i m σ' H':=λ{σ7 H7} I7 n7=>by
   let⟨m',hm,w7⟩:=hN σ7 H7 n7;refine⟨m',hm,i+1,σ7,H7,I7.rJ,T.keep _ _ _ st5 λb hb o e=>(I7.pin (b,o) (SH _ (SH _ (kI hb e)))).1,λb hb=>?_,w7⟩;let⟨o,e,d⟩:=T.obj _ _ st5 b hb;exact(I7.pin (b,o) (SH _ (SH _ (kI hb e)))).2.1
  cases f with
  | next=>let⟨σ7,H7,I7,n7⟩:=q7;exact again I7 n7
  | cont=>let⟨σ7,H7,I7,n7⟩:=q7;exact again I7 n7
  | brk=>let⟨σ7,H7,I7,q7⟩:=q7;exact⟨σ7,H7,I7.rJ,q7⟩
  | ret v=>let⟨x7,σ7,H7,I7,r7,q7⟩:=q7;exact⟨x7,σ7,H7,I7.rJ,r7,q7⟩
abbrev R2:=V->V->Hp->VK->Prop
def eW (X:Cx)(f:Value->Value->Sem Value)(r:R2):Prop:=
 ∀(X3:RR)(s:Vo)(σ:St)(H:Hp)(x y:V)(v u:`aa)(Q:VK),Inv X X3 σ H s->bn x v->bn y u->r x y H Q->
  wpAny `f X.A (f v u) `bm X.xe s
def JV (X:Cx)(f:Value->Sem Value)(r:V->Hp->VK->Prop):Prop:=
 ∀(X3:RR)(s:Vo)(σ:St)(H:Hp)(x:V)(v:`aa)(Q:VK),Inv X X3 σ H s->bn x v->r x H Q->
  wpAny `f X.A (f v) `bm X.xe s
def fY (X:Cx)(f:`aa)(r:List V->Hp->VK->Prop):Prop:=
 ∀(X3:RR)(s:Vo)(σ:St)(H:Hp)(xs:`K)(us:RZ)(Q:VK),Inv X X3 σ H s->Vals xs us->r xs H Q->
  wpAny `f X.A (call f us) `bm X.xe s
def Q9 (X:Cx)(r:V->Hp->(Bool->Hp->Prop)->Prop):Prop:=
 ∀(X3:RR)(s:Vo)(σ:St)(H:Hp)(x:V)(v:`aa)(Q:Bool->Hp->Prop),Inv X X3 σ H s->bn x v->r x H Q->
  wpAny `f X.A (truthy v) (TP X X3 σ Q) X.xe s
def GZ (r:R2)(ta tb:TE):TE:=λσ H Q=>ta σ H λx H1=>tb σ H1 λy H2=>r x y H2 Q
def tUn (r:V->Hp->VK->Prop)(ta:TE):TE:=λσ H Q=>ta σ H λx H1=>r x H1 Q
def rI (C:Int->Int->Prop)(g:Int->Int->V):R2:=λx y H Q=>∃i j,x= .int i/\y= .int j/\C i j/\Q (g i j) H
def vp (g:Int->Int->V):R2:=λx y H Q=>∃i j,x= .int i/\y= .int j/\Q (g i j) H
def rU (g:Int->V):V->Hp->VK->Prop:=λx H Q=>∃i,x= .int i/\Q (g i) H
variable {g:Int->Int->Int}{r:R2}
section
variable {a b:Expr}{tb tc:TE}
variable {f:Value->Value->Sem Value}
theorem Ef (ha:PE X a ta)(hb:PE X b tb){R:V->V->Hp->Prop}(I:`h)(h:ta σ H λx H1=>tb σ H1 λy H2=>R x y H2)(hf:∀v u s2 x y H2,Inv X X3 σ H2 s2->bn x v->bn y u->R x y H2->wpAny `f X.A (f v u) Q X.xe s2):
 wpAny `f X.A (eval a X.env) (λv s₁=>wpAny `f X.A (eval b X.env) (λu s₂=>wpAny `f X.A (f v u) Q X.xe s₂) X.xe s₁) X.xe s:=by
 refine a7 `aI λv s1 ⟨x,H1,I1,r1,q1⟩=>?_;refine a7 (hb X3 s1 σ H1 _ I1 q1) λu s2 ⟨y,H2,I2,r2,q2⟩=>?_;exact hf v u s2 x y H2 I2 r1 r2 q2
theorem Gv (ho:eW X (VQ op) r)(ha:PE X a ta)(hb:PE X b tb):PE X (.BinOp a op b pos) (GZ r ta tb):=by
 intro X3 s σ H Q I h;exact wpAny_BinOp (Ef ha hb I h λv u s2 x y H2 I2 rx ry q=>ho X3 s2 σ H2 x y v u Q I2 rx ry q)
theorem OH {op:UnaryOp}{r:V->Hp->VK->Prop}(ho:JV X (unaryOp op) r)(ha:PE X a ta):PE X (.UnaryOp op a pos) (tUn r ta):=by
 intro X3 s σ H Q I h;exact UnaryOp_ (a7 `aI λv s1 ⟨x,H1,I1,r1,q1⟩=>ho X3 s1 σ H1 x v Q I1 r1 q1)
theorem zw {C:Int->Int->Prop}(rule:∀(i j:Int)(t u:Tok)(s:Vo)(Q:`r)(E:`r),C i j->Q (.int (g i j) s.toks) {s with toks:=s.toks+1}->wpAny `f X.A (f (.int i t) (.int j u)) Q E s):
 eW X f (rI C λi j=>.int (g i j)):=by
 intro X3 s σ H x y v u Q I rx ry h;let⟨i,j,rfl,rfl,hc,q⟩:=h;let⟨t,rfl⟩:=rx;let⟨t',rfl⟩:=ry;exact rule i j t t' s _ _ hc ⟨.int (g i j),H,I.tok _,⟨_,rfl⟩,q⟩
theorem K3 
 (rule:∀(i j:Int)(t u:Tok)(s:Vo)(Q:`r)(E:`r),Q (.int (g i j) s.toks) {s with toks:=s.toks+1}->wpAny `f X.A (f (.int i t) (.int j u)) Q E s):
 eW X f (vp λi j=>.int (g i j)):=by
 intro X3 s σ H x y v u Q I rx ry h;let⟨i,j,rfl,rfl,q⟩:=h;let⟨t,rfl⟩:=rx;let⟨t',rfl⟩:=ry;exact rule i j t t' s _ _ ⟨.int (g i j),H,I.tok _,⟨_,rfl⟩,q⟩
theorem Bj {g:Int->Int->Bool}(rule:∀(i j:Int)(t u:Tok)(s:Vo)(Q:`r)(E:`r),Q (.bool (g i j)) s->wpAny `f X.A (f (.int i t) (.int j u)) Q E s):
 eW X f (vp λi j=>.bl (g i j)):=by
 intro X3 s σ H x y v u Q I rx ry h;let⟨i,j,rfl,rfl,q⟩:=h;let⟨t,rfl⟩:=rx;let⟨t',rfl⟩:=ry;exact rule i j t t' s _ _ ⟨.bl (g i j),H,I,rfl,q⟩
def MU (i j:Int):Prop:=0<j/\j<1073741824
def K7 (i j:Int):Prop:=0<=j/\j<=1000000/\i.natAbs<2 ^ 64
def Bp (i j:Int):Prop:=(-(2 ^ 64)<i/\i<2 ^ 64)∨(-(2 ^ 64)<j/\j<2 ^ 64)
theorem Bp.ok {i j:Int}(h:Bp i j):Wy i j:=by
 obtain⟨h1,h2⟩ | ⟨h1,h2⟩:=h
 ·exact .of_left (Wg h1 h2)
 ·exact .of_right (Wg h1 h2)
theorem L1:eW X (VQ .Add) (vp λi j=>.int (i+j)):=K3 λ_ _ _ _ _ _ _ q=>add_int q
theorem LM:eW X (VQ .Sub) (vp λi j=>.int (i-j)):=K3 λ_ _ _ _ _ _ _ q=>sub_int q
theorem Kl:eW X (VQ .Mult) (rI Bp λi j=>.int (i*j)):=zw λ_ _ _ _ _ _ _ hc q=>mul_int q hc.ok
theorem HY:eW X (VQ .FloorDiv) (rI MU λi j=>.int (i/j)):=zw λi j _ _ _ _ _ hc q=>by
 let h1:(0:Int)<j:=hc.1;let h2:j<1073741824:=hc.2;exact floordiv_int `a (by rw[Int.fdiv_eq_ediv_of_nonneg i `a];exact q) (.inl (PyProof.noPylong_small `a))
theorem LJ:eW X (VQ .Mod) (rI (λ_ j=>0<j) λi j=>.int (i%j)):=zw λi j _ _ _ _ _ hc q=>by
 let h1:(0:Int)<j:=hc;exact mod_int' `a (by rw[Int.fmod_eq_emod_of_nonneg i `a];exact q)
theorem Lu:eW X (VQ .Pow) (rI K7 λi j=>.int (i ^ j.toNat)):=zw λ_ _ _ _ _ _ _ hc q=>pow_int_small hc.1 hc.2.1 hc.2.2 q
theorem unI {f:Value->Sem Value}{g:Int->Int}(rule:∀(i:Int)(t:Tok)(s:Vo)(Q:`r)(E:`r),Q (.int (g i) s.toks) {s with toks:=s.toks+1}->wpAny `f X.A (f (.int i t)) Q E s):
 JV X f (rU λi=>.int (g i)):=by
 intro X3 s σ H x v Q I rx h;let⟨i,rfl,q⟩:=h;let⟨t,rfl⟩:=rx;exact rule i t s _ _ ⟨.int (g i),H,I.tok _,⟨_,rfl⟩,q⟩
theorem Kv:JV X (unaryOp .USub) (rU λi=>.int (-i)):=unI λ_ _ _ _ _ q=>neg_int q
end
noncomputable def LD:V->V->Bool
 | .Ye,.Ye=>true | .Ye,.int _=>true | .int _,.Ye=>true | .Ye,.bl _=>true | .bl _,.Ye=>true | .Ye,.str _=>true | .str _,.Ye=>true
 | .int _,.int _=>true | .bl _,.bl _=>true | .str _,.str _=>true | .Z2 _,.Z2 _=>true
 | .int _,.str _=>true | .str _,.int _=>true | .bl _,.str _=>true | .str _,.bl _=>true
 | _,_=>false
def rEq:R2:=λx y H Q=>LD x y=true/\Q (.bl (decide (x=y))) H
def rNe:R2:=λx y H Q=>LD x y=true/\Q (.bl (!decide (x=y))) H
theorem pP {i j:Int}:decide (V.int i=V.int j)=(i==j):=by
 rw[Sb];simp
theorem wQ {i j:Bool}:decide (V.bl i=V.bl j)=(i==j):=by
 rw[Sb];simp
theorem mW {i j:Str}:decide (V.str i=V.str j)=(i==j):=by
 rw[Sb];simp
theorem zB {i j:Array UInt8}:decide (V.Z2 i=V.Z2 j)=(i.toList==j.toList):=by
 rw[Sb];cases i
 cases j
 simp
variable {ZO:CmpOp}{r':R2}{us:RZ}
section
variable {a b:Expr}{tb tc:TE}
variable {op:CmpOp}
theorem bR {Q:VK}{k k':Bool}(I:`h)(q:Q (.bl k) H)(e:k=k'):EP X X3 σ Q (.bool k') s:=by
 subst e;exact⟨.bl k,H,I,rfl,q⟩
theorem Hc:eW X (Vy .Eq) rEq:=by
 intro X3 s σ H x y v u Q I rx ry h;let⟨hs,q⟩:=h;cases x with
 | Ye=>
   cases rx
   cases y with
   | Ye=>cases ry;exact PySem.EqNone.eq_none_none `aM
   | bl j=>cases ry;exact PySem.EqNone.eq_none_bool `aM
   | int j=>let⟨t',rfl⟩:=ry;exact PySem.EqNone.eq_none_int `aM
   | str j=>let⟨t',rfl⟩:=ry;exact PySem.EqNone.eq_none_str `aM
   | _=>exact XS (show false=true from hs) R9
 | bl i=>
   cases rx
   cases y with
   | Ye=>cases ry;exact PySem.EqNone.eq_bool_none `aM
   | bl j=>cases ry;exact eq_bool (bR I q wQ)
   | str j=>let⟨t',rfl⟩:=ry;exact PySem.EqMixed.eq_bool_str `aM
   | _=>exact XS (show false=true from hs) R9
 | int i=>
   let⟨t,rfl⟩:=rx;cases y with
   | Ye=>cases ry;exact PySem.EqNone.eq_int_none `aM
   | int j=>let⟨t',rfl⟩:=ry;exact eq_int (bR I q pP)
   | str j=>let⟨t',rfl⟩:=ry;exact PySem.EqMixed.eq_int_str `aM
   | _=>exact XS (show false=true from hs) R9
 | str i=>
   let⟨t,rfl⟩:=rx;cases y with
   | Ye=>cases ry;exact PySem.EqNone.eq_str_none `aM
   | bl j=>cases ry;exact PySem.EqMixed.eq_str_bool `aM
   | int j=>let⟨t',rfl⟩:=ry;exact PySem.EqMixed.eq_str_int `aM
   | str j=>let⟨t',rfl⟩:=ry;exact eq_str (bR I q mW)
   | _=>exact XS (show false=true from hs) R9
 | Z2 i=>
   let⟨t,rfl⟩:=rx;cases y with
   | Z2 j=>let⟨t',rfl⟩:=ry;exact PySem.W.eq_bytes (bR I q zB)
   | _=>exact XS (show false=true from hs) R9
 | _=>cases y<;>exact XS (show false=true from hs) R9
theorem AI:eW X (Vy .NotEq) rNe:=by
 intro X3 s σ H x y v u Q I rx ry h;let⟨hs,q⟩:=h;cases x with
 | Ye=>
   cases rx
   cases y with
   | Ye=>cases ry;exact PySem.EqNone.ne_none_none `aM
   | bl j=>cases ry;exact PySem.EqNone.ne_none_bool `aM
   | int j=>let⟨t',rfl⟩:=ry;exact PySem.EqNone.ne_none_int `aM
   | str j=>let⟨t',rfl⟩:=ry;exact PySem.EqNone.ne_none_str `aM
   | _=>exact XS (show false=true from hs) R9
 | bl i=>
   cases rx
   cases y with
   | Ye=>cases ry;exact PySem.EqNone.ne_bool_none `aM
   | bl j=>cases ry;exact ne_bool (bR I q (congrArg not wQ))
   | str j=>let⟨t',rfl⟩:=ry;exact PySem.EqMixed.ne_bool_str `aM
   | _=>exact XS (show false=true from hs) R9
 | int i=>
   let⟨t,rfl⟩:=rx;cases y with
   | Ye=>cases ry;exact PySem.EqNone.ne_int_none `aM
   | int j=>let⟨t',rfl⟩:=ry;exact ne_int (bR I q (congrArg not pP))
   | str j=>let⟨t',rfl⟩:=ry;exact PySem.EqMixed.ne_int_str `aM
   | _=>exact XS (show false=true from hs) R9
 | str i=>
   let⟨t,rfl⟩:=rx;cases y with
   | Ye=>cases ry;exact PySem.EqNone.ne_str_none `aM
   | bl j=>cases ry;exact PySem.EqMixed.ne_str_bool `aM
   | int j=>let⟨t',rfl⟩:=ry;exact PySem.EqMixed.ne_str_int `aM
   | str j=>let⟨t',rfl⟩:=ry;exact ne_str (bR I q (congrArg not mW))
   | _=>exact XS (show false=true from hs) R9
 | Z2 i=>
   let⟨t,rfl⟩:=rx;cases y with
   | Z2 j=>let⟨t',rfl⟩:=ry;exact PySem.W.ne_bytes (bR I q (congrArg not zB))
   | _=>exact XS (show false=true from hs) R9
 | _=>cases y<;>exact XS (show false=true from hs) R9
theorem Nw:eW X (Vy .Lt) (vp λi j=>.bl (decide (i<j))):=Bj λ_ _ _ _ _ _ _ q=>lt_int q
theorem Nu:eW X (Vy .LtE) (vp λi j=>.bl (decide (i<=j))):=Bj λ_ _ _ _ _ _ _ q=>le_int q
theorem OW:eW X (Vy .Gt) (vp λi j=>.bl (decide (j<i))):=Bj λ_ _ _ _ _ _ _ q=>gt_int q
theorem Nf:eW X (Vy .GtE) (vp λi j=>.bl (decide (j<=i))):=Bj λ_ _ _ _ _ _ _ q=>ge_int q
theorem tJ (b:Expr)(h:op≠ .In:=by decide)(h2:op≠ .NotIn:=by decide):VI op b=false:=by
 let e1:(op==CmpOp.In)=false:=by cases op<;>first | rfl | exact XS rfl h
 let e2:(op==CmpOp.NotIn)=false:=by cases op<;>first | rfl | exact XS rfl h2
 cases b<;>simp[VI,e1,e2]
theorem Ir (ho:eW X (Vy op) r)(ha:PE X a ta)(hb:PE X b tb)(hm:VI op b=false):PE X (.Compare a [op] [b] pos) (GZ r ta tb):=by
 intro X3 s σ H Q I h;exact wpAny_Compare1 (Ef ha hb I h λv u s2 x y H2 I2 rx ry q=>ho X3 s2 σ H2 x y v u Q I2 rx ry q) hm
def Gf (t:TE):TT:=λσ H Q=>t σ H λx H'=>∃k,x= .bl k/\Q k H'
theorem Jh (ho:eW X (Vy op) r)(ha:PE X a ta)(hb:PE X b tb)(hm:VI op b=false):PT X (.Compare a [op] [b] pos) (Gf (GZ r ta tb)):=by
 intro X3 s σ H Q I h;refine wpAny_isTrue_Compare1 (a7 `aI λv s1 ⟨x,H1,I1,r1,q1⟩=>a7 (hb X3 s1 σ H1 _ I1 q1) λu s2 ⟨y,H2,I2,r2,q2⟩=>
  a7 (ho X3 s2 σ H2 x y v u _ I2 r1 r2 q2) λc s3 ⟨z,H3,I3,r3,k,e,q3⟩=>?_) hm
 subst e;cases r3
 exact Vx ⟨H3,I3,q3⟩
noncomputable def DS (r r':R2)(ta tb tc:TE):TE:=λσ H Q=>ta σ H λx H1=>tb σ H1 λy H2=>r x y H2 λz H3=>∃k,z= .bl k/\
 (if k=true then tc σ H3 λw' H4=>r' y w' H4 Q else Q (.bl false) H3)
theorem Fq (ho:eW X (Vy op) r)(Zt:eW X (Vy ZO) r')(ha:PE X a ta)(hb:PE X b tb)(hc:PE X c tc)(hm:lastMarks [op,ZO] [b,c]=false:=by with_unfolding_all rfl):PE X (.Compare a [op,ZO] [b,c] pos) (DS r r' ta tb tc):=by
 intro X3 s σ H Q I h;refine Compare_chain (a7 `aI λv s1 ⟨x,H1,I1,r1,q1⟩=>chain_link (a7 (hb X3 s1 σ H1 _ I1 q1) λu s2 ⟨y,H2,I2,r2,q2⟩=>
  a7 (ho X3 s2 σ H2 x y v u _ I2 r1 r2 q2) λd s3 ⟨z,H3,I3,r3,k,e,q3⟩=>?_)) hm
 subst e;cases r3
 refine Vx ?_;cases k with
 | false=>exact ite_ff ⟨.bl false,H3,I3,rfl,q3⟩
 | true=>exact ite_tt (chain_last (a7 (hc X3 s3 σ H3 _ I3 q3) λw' s4 ⟨z',H4,I4,r4,q4⟩=>Zt X3 s4 σ H4 y z' u w' Q I4 r2 r4 q4))
theorem Fw (ho:eW X (Vy op) r)(Zt:eW X (Vy ZO) r')(ha:PE X a ta)(hb:PE X b tb)(hc:PE X c tc)(hm:lastMarks [op,ZO] [b,c]=false:=by with_unfolding_all rfl):PT X (.Compare a [op,ZO] [b,c] pos) (Gf (DS r r' ta tb tc)):=by
 intro X3 s σ H Q I h;refine isTrue_chain (a7 `aI λv s1 ⟨x,H1,I1,r1,q1⟩=>test_link (a7 (hb X3 s1 σ H1 _ I1 q1) λu s2 ⟨y,H2,I2,r2,q2⟩=>
  a7 (ho X3 s2 σ H2 x y v u _ I2 r1 r2 q2) λd s3 ⟨z,H3,I3,r3,k,e,q3⟩=>?_)) hm
 subst e;cases r3
 refine Vx ?_;cases k with
 | false=>
   let⟨k',e',q'⟩:=q3;cases e'
   exact ite_ff ⟨H3,I3,q'⟩
 | true=>
   refine ite_tt (test_last (a7 (hc X3 s3 σ H3 _ I3 q3) λw' s4 ⟨z',H4,I4,r4,q4⟩=>a7 (Zt X3 s4 σ H4 y z' u w' _ I4 r2 r4 q4) λd' s5 ⟨z2,H5,I5,r5,k2,e2,q5⟩=>?_));subst e2;cases r5
   exact Vx ⟨H5,I5,q5⟩
noncomputable def KC (K:Xt)(x:V)(H:Hp)(k:Bool):Prop:=
 match x with
 | .Ye=>k=false
 | .bl b=>k=b
 | .int i=>k=(i != 0)
 | .str y=>y.length<=Vn/\k=((y.length:Int) != 0)
 | .Z2 y=>y.size<=Vn/\k=((y.size:Int) != 0)
 | .ref p=>(∃xs,bu K H p xs/\k= !xs.isEmpty)∨(∃xs,dY K H p xs/\k= !xs.isEmpty)∨∃kvs,H p∣.dK kvs/\k= !kvs.isEmpty
 | _=>False
theorem Bl {κ:Type}{kvs:List (κ×V)}{vs:List (κ×Value)}(r:KV kvs vs):(!vs.isEmpty)= !kvs.isEmpty:=by
 cases r<;>rfl
theorem tM {X5:RZ}(r:Vals xs X5):(!X5.toArray.isEmpty)= !xs.isEmpty:=by
 cases r<;>simp
theorem kW:(Vn:Nat)<2 ^ 63:=by rw[Wc];decide
theorem Mo:Q9 X (λx H Q=>∃k,KC X.K x H k/\Q k H):=by
 intro X3 s σ H x v Q I rx h;let⟨k,e,q⟩:=h;let hl:=kW;let hs:Vn=16777216:=Wc;cases x with
 | Ye=>
   cases rx
   let e':k=false:=e;subst e';exact truthy_none ⟨H,I,q⟩
 | bl b=>
   cases rx
   let e':k=b:=e;subst e';exact Vx ⟨H,I,q⟩
 | int i=>
   let⟨t,rfl⟩:=rx;let e':k=(i != 0):=e;subst e';exact PySem.P.truthy_int ⟨H,I,q⟩
 | str y=>
   let⟨t,rfl⟩:=rx;obtain⟨hy,e'⟩:y.length<=Vn/\k=((y.length:Int) != 0):=e;subst e';exact PySem.P.truthy_str `a ⟨H,I.tok _,q⟩
 | Z2 y=>
   let⟨t,rfl⟩:=rx;obtain⟨hy,e'⟩:y.size<=Vn/\k=((y.size:Int) != 0):=e;subst e';exact PySem.W.truthy_bytes `a ⟨H,I.tok _,q⟩
 | ref p=>
   cases rx
   let e':(∃xs,bu X.K H p xs/\k= !xs.isEmpty)∨(∃xs,dY X.K H p xs/\k= !xs.isEmpty)∨∃kvs,H p∣.dK kvs/\k= !kvs.isEmpty:=e;obtain⟨xs,hx,e'⟩ | ⟨xs,hx,e'⟩ | ⟨kvs,hx,e'⟩:=e'
   ·subst e';let⟨X5,r,pl,hz⟩:=I.list hx;let hlen:=r.length;exact wpAny_truthy_list pl.isList (by simp only[SJ];cbv) ⟨H,I.tok _,by rw[tM r];exact q⟩
   ·subst e';let⟨X5,r,pl,hz⟩:=I.tuple hx;let hlen:=r.length;exact truthy_tuple pl (by simp only[SJ];cbv) ⟨H,I.tok _,by rw[tM r];exact q⟩
   ·subst e';obtain⟨hz,hS,vs,r,m⟩:kvs.length<=Vn/\(p==VD)=false/\∃vs,KV kvs vs/\s.heap.DictOf (cH X.prog X.w) p vs:=I.X8 p _ hx;let hlen:kvs.length=vs.length:=Paired.length r;exact wpAny_truthy_dict hS m `a ⟨H,I.tok _,by rw[Bl r];exact q⟩
 | _=>exact(show False from e).elim
theorem w6 (ha:PE X a ta)(he:∀whole,VZ a X.env whole=(do let v ← whole;Wa a.pos;VP [v] (truthy v))):
 PT X a (λσ H Q=>ta σ H λx H'=>∃k,KC X.K x H' k/\Q k H'):=by
 intro X3 s σ H Q I h;exact isTrue_plain (a7 `aI λv s1 ⟨x,H1,I1,r1,q1⟩=>Mo X3 s1 σ H1 x v Q I1 r1 q1) (he _)
theorem A7:eW X (VQ .Add) (λx y H Q=>∃i j,x= .str i/\y= .str j/\i.length+j.length<=Vn/\Q (.str (i++j)) H):=by
 intro X3 s σ H x y v u Q I rx ry h;let⟨i,j,rfl,rfl,hz,q⟩:=h;let⟨t,rfl⟩:=rx;let⟨t',rfl⟩:=ry;exact add_str (λt' tk=>⟨.str (i++j),H,I.tok _,⟨_,rfl⟩,q⟩) hz
theorem vals1 {x:V}(r:Vals [x] us):∃u,us=[u]/\bn x u:=by
 cases r with
 | cons r1 r2=>cases r2;exact⟨_,rfl,r1⟩
theorem vals2 {x y:V}(r:Vals [x,y] us):∃u w',us=[u,w']/\bn x u/\bn y w':=by
 cases r with
 | cons r1 r2=>
   cases r2 with
   | cons r3 r4=>cases r4;exact⟨_,_,rfl,r1,r3⟩
theorem Dz (hc:X.calm=true):fY X (.builtin "min") (λxs H Q=>∃i j,xs=[.int i,.int j]/\Q (.int (if j<i then j else i)) H):=by
 intro X3 s σ H xs us Q I r h;let⟨i,j,rfl,q⟩:=h;let⟨u,w',rfl,⟨t,rfl⟩,⟨t',rfl⟩⟩:=vals2 r;refine min_two_ints (I.ok.hd hc) λh' tk k=>⟨_,H,I.kept k,?_,q⟩;by_cases hj:j<i
 ·rw[XU hj,XU hj];exact⟨_,rfl⟩
 ·rw[XT hj,XT hj];exact⟨_,rfl⟩
theorem CV:fY X (.type "int") (λxs H Q=>(∃i,xs=[.int i]/\Q (.int i) H)∨∃k,xs=[.bl k]/\Q (.int (if k then 1 else 0)) H):=by
 intro X3 s σ H xs us Q I r h;obtain⟨i,rfl,q⟩ | ⟨k,rfl,q⟩:=h
 ·let⟨u,rfl,t,rfl⟩:=vals1 r;exact call_int_int ⟨.int i,H,I,⟨_,rfl⟩,q⟩
 ·let⟨u,rfl,r1⟩:=vals1 r;cases r1
  exact call_int_bool ⟨.int (if k then 1 else 0),H,I.tok _,⟨_,rfl⟩,q⟩
end
structure uN (h:Heap)(x dx C:Addr)(mA:RQ):Prop where
 obj:h.get? x∣XC C dx
 ns:h.Ns1 dx mA
 ne:dx≠x
variable {dx:Addr}{mA:RQ}
theorem BP (n:h.Ns1 dx mA):∃od,h.get? dx∣od/\∀name,XN name od∣mA name:=by
 let⟨o,es,ep,ho,hd,hk,_,hm⟩:=n;refine⟨o,ho,λname=>?_⟩;let e:=hm name;unfold nsFind findBy at e;rw[← Array.find?_toList] at e;unfold XN;rw[hd];dsimp only;split
 ·rename_i y q;rw[q] at e;exact congrArg some e
 ·rename_i q;rw[q] at e;let a:es.toList.any (·.refKey)=false:=by
   rw[List.any_eq_false];intro y hy;let⟨z,t,ZC⟩:=hk y (Array.mem_toList_iff.mp hy);simp[DictEntry.refKey,ZC]
  let a':¬es.toList.any (·.refKey)=true:=by rw[a];exact R9
  rw[XT a'];exact congrArg some e
variable {C:Addr}
theorem uN.look {x:Addr}(I:uN h x dx C mA):∃od,PySem.W.InstAt h x (XC C dx) C (some od)/\∀name,XN name od∣mA name:=
 let ⟨od,ho,hl⟩:=BP I.ns
 ⟨od,⟨I.obj,rfl,rfl,ho⟩,hl⟩
variable {prog:Vr}{name:Str}{kw:List (Str×Value)}
section
variable {x f:Addr}{v:`aa}
theorem get_map {expr:Bool}(X:K.In s.heap)(I:uN s.heap x dx C mA)(hg:XF K C name=true)(hh:XE K C=true)(ha:Xw K (.ref C) name∣none)(hv:mA name∣v)(hv':PySem.W.handedIn v=true)(h:Q v {s with toks:=s.toks+1}):
 wpAny `z A (getAttr (.ref x) name expr) Q E s:=by
 let⟨od,J,hl⟩:=I.look;exact PySem.W.get_value X J (PySem.W.plainGet_of hg).1 (PySem.W.findObj_own hh ha rfl (by rw[hl,hv])) hv' h
theorem ID {ns:RU}{Q:Unit->Vo->Prop}(X:K.In s.heap)(I:uN s.heap x dx C mA)(hs:`bH)(hp:XG K C=true)(ht:XJ K C name∣none)(hh:XE K C=true)(hw:WE mA ns)(hsz:ns.length<=Vn)(h:∀h',uN h' x dx C (λy=>if y=name then some v else mA y)->Xa dx s.heap h'->Q () {s with heap:=h',toks:=s.toks+2}):
 wpAny `z A (setAttr (.ref x) name v) Q E s:=by
 let⟨od,J,hl⟩:=I.look;refine PySem.W.set_plain X J hs (PySem.W.osa_open (s:={s with toks:=s.toks+1}) (r:=none) X J hp ht λb=>?_);let⟨cd,hc,hd'⟩:=PySem.W.any_some hh;let hx:s.heap.get? x∣⟨.ref C,some dx,.plain, #[]⟩:=I.obj;refine Vp (Vs (Vp (Vp (wpAny_loadPart hx (Vp (PySem.W.Looks.here (s:={s with toks:=s.toks+1}) (PySem.W.looks_clsIn X hc) ?_))))));rw[hd'];refine Vs (a:=some dx) (Vp (Vs (Vp ?_)));refine wpAny_nsSet1 (s:={s with toks:=s.toks+1}) I.ns λh' hn2 YE=>?_;let⟨oD,esD,epD,hoD,hdD,hcD⟩:=hn2.count (WE.cons name v hw);refine Vp (wpAny_lookBehind hoD (by rw[hdD];exact pastItsLine_dict (UK hcD (by rw[SE];cbv))) ?_);exact Vs (h _ ⟨(YE.2 _ (U8 I.ne)).trans I.obj,hn2,I.ne⟩ YE)
theorem Es {R:Result->Vo->Prop}{vs:RZ}(X:K.In s.heap)(hm:XH K C=true)(hi:Xw K (.ref C) "__init__"∣(some (.ref f)))(hf:PySem.W.typeIn K (.ref f)∣(.type "function"))(h:Wb `z (A.under (.builtin "type.__call__" ⟨.ref C::vs,kw⟩)) (.call (.ref f) ⟨.ref (⇑s+1)::vs,kw⟩) (PySem.W.InitBack (⇑s+1) R)
  {s with heap:=(s.heap.push XB).push (XC C ⇑s)}):
 Wb `z A (.call (.ref C) ⟨vs,kw⟩) R s:=by
 let⟨hh,g,d,t,os⟩:=s;exact PySem.W.make_core (PySem.W.makes_of X hm) (PySem.W.looks_findIn X hi) (λself=>PySem.W.bind_fn X self hf) `aR h
end
noncomputable def gC (f:Str)(v:V):List (Str×V)->List (Str×V)
 | []=>[(f,v)]
 | (g,x)::r=>if g=f then(g,v)::r else(g,x)::gC f v r
theorem qH (f g:Str)(v:V):∀fs:List (Str×V),(gC f v fs).lookup g=if g=f then some v else fs.lookup g
 | []=>by
   show TN g [(f,v)]=_;by_cases h:g=f
   ·let hb:(g==f)=true:=beq_iff_eq.mpr h;simp only[TN,hb,XU h]
   ·let hb:(g==f)=false:=beq_eq_false_iff_ne.mpr h;simp only[TN,hb,XT h]
 | (k,x)::r=>by
   let ih:=qH f g v r;rw[show gC f v ((k,x)::r)=(if k=f then(k,v)::r else(k,x)::gC f v r) from rfl];by_cases hk:k=f
   ·rw[XU hk];by_cases h:g=k
    ·let hb:(g==k)=true:=beq_iff_eq.mpr h;simp only[TN,hb,XU (h.trans hk)]
    ·let hb:(g==k)=false:=beq_eq_false_iff_ne.mpr h;simp only[TN,hb,XT (λe:g=f=>h (e.trans hk.symm))]
   ·rw[XT hk];by_cases h:g=k
    ·let hb:(g==k)=true:=beq_iff_eq.mpr h;simp only[TN,hb,XT (λe:g=f=>hk (h.symm.trans e))]
    ·let hb:(g==k)=false:=beq_eq_false_iff_ne.mpr h;simp only[TN,hb];exact ih
theorem oY (f:Str)(v:V):∀fs:List (Str×V),f∈(gC f v fs).map (·.1)/\∀g,g∈fs.map (·.1)->g∈(gC f v fs).map (·.1)
 | []=>⟨by simp[gC],λg h=>by simp at h⟩
 | (k,x)::r=>by
   let⟨i1,i2⟩:=oY f v r;rw[show gC f v ((k,x)::r)=(if k=f then(k,v)::r else(k,x)::gC f v r) from rfl];by_cases hk:k=f
   ·rw[XU hk];subst hk;exact⟨`d,λg h=>by simpa using h⟩
   ·rw[XT hk];refine⟨?_,λg h=>?_⟩
    ·rw[Ta];exact Sv _ i1
    ·rw[Ta] at h ⊢;obtain e | e:=SF.mp h
     ·exact SF.mpr (.inl e)
     ·exact Sv _ (i2 g e)
theorem qG (f:Str)(v:V):∀fs:List (Str×V),(gC f v fs).length<=fs.length+1
 | []=>by simp[gC]
 | (k,x)::r=>by
   let ih:=qG f v r;rw[show gC f v ((k,x)::r)=(if k=f then(k,v)::r else(k,x)::gC f v r) from rfl];by_cases hk:k=f
   ·rw[XU hk,SE,SE];cbv
   ·rw[XT hk,SE,SE];cbv
theorem jE.some_of {o:RX}(r:jE (some v) o):∃u,o∣u/\bn v u:=by
 cases o with
 | none=>exact(show False from r).elim
 | some u=>exact⟨u,rfl,r⟩
theorem BV (r:bn v u):PySem.W.handedIn u=true:=by
 cases v with
 | Ye=>cases (show u=Xn from r);rfl
 | bl b=>cases (show u=Xq b from r);rfl
 | int i=>let⟨t,e⟩:=(show∃t,u=Xo i t from r);cases e;rfl
 | str x=>let⟨t,e⟩:=(show∃t,u=Xp x t from r);cases e;rfl
 | Z2 b=>let⟨t,e⟩:=(show∃t,u=Value.bytes b t from r);cases e;rfl
 | flt b=>let⟨t,e⟩:=(show∃t,u=Xr b t from r);cases e;rfl
 | ref a=>cases (show u=Xm a from r);rfl
 | ty n=>cases (show u=Xs n from r);rfl
section
variable {fs fs':List (Str×V)}
theorem ug (X8:eR P w H h)(e:H a∣.ins C dx fs):∃mA,uN h a dx C mA/\(∀f,jE (fs.lookup f) (mA f))/\WE mA (fs.map (·.1))/\fs.length<=1000/\H dx∣.own a:=by
 let⟨d,z,ne,ob,mA,n,r,q⟩:=(show c7 P w H h a (.ins C dx fs) from X8 a _ e);exact⟨mA,⟨ob,n,ne⟩,r,q,z,d⟩
end
structure mV (K:Xt)(C:Addr):Prop where
 pg:XF K C Str.empty=true
 hd:XE K C=true
 po:XG K C=true
 sa:Xw K (.ref C) "__setattr__"∣(some (.builtin "object.__setattr__"))
theorem mV.get (c:mV K C)(f:Str):XF K C f=true:=c.pg
def lB (K:Xt)(C:Addr)(f:Str):Prop:=Xw K (.ref C) f∣none
variable {f:Str}
theorem lB.Nz (n:lB K C f):XJ K C f∣none:=by
 unfold XJ;rw[show Xw K (.ref C) f∣none from n];rfl
section
variable {fs:List (Str×V)}
theorem Bd {b:Bool}(I:`h)(e:H a∣.ins C dx fs)(c:mV X.K C)(n:lB X.K C f)(l:fs.lookup f∣v)(h:∀u s',Inv X X3 σ H s'->bn v u->Q u s'):wpAny `f A (getAttr (.ref a) f b) Q E s:=by
 let⟨mA,O,r,_,_,_⟩:=ug I.X8 e;let⟨u,hu,ru⟩:=jE.some_of (v:=v) (o:=mA f) (by rw[← l];exact r f);exact get_map I.gp O (c.get f) c.hd n hu (BV ru) (h u _ (I.tok _) ru)
theorem AH {y:V}{Q:Unit->Vo->Prop}(I:`h)(e:H a∣.ins C dx fs)(c:mV X.K C)(n:lB X.K C f)(hl:fs.length<1000)(ry:bn y u)(h:∀s',Inv X X3 σ (upd H a (.ins C dx (gC f y fs))) s'->Q () s'):wpAny `f A (setAttr (.ref a) f u) Q E s:=by
 let⟨mA,O,r,wi,_,ho⟩:=ug I.X8 e;let hz:(fs.map (·.1)).length<=Vn:=by rw[Ss,Wc];cbv
 refine ID I.gp O c.sa c.po n.Nz c.hd wi hz λh' O' sb=>h _ ?_;let hd:∃o,h'.get? dx∣o:=let ⟨o,_,_,e',_⟩:=O'.ns;⟨o,e'⟩;refine I.write (x:=a) (e:=dx) (by rw[e];exact XR) (.inr ho) (λb q hb z=>(sb.2 b hb).trans z) hd ?_;refine⟨by rw[aJ O.ne];exact ho,?_,O.ne,O'.obj,_,O'.ns,λg=>?_,λg hg=>?_⟩
 ·have:=qG f y fs;cbv
 ·show jE ((gC f y fs).lookup g) (if g=f then some u else mA g);rw[qH];by_cases q:g=f
  ·rw[XU q,XU q];exact ry
  ·rw[XT q,XT q];exact r g
 ·by_cases q:g=f
  ·rw[q];exact(oY f y fs).1
  ·refine(oY f y fs).2 g (wi g λz=>hg ?_);show(if g=f then some u else mA g)=none;rw[XT q];exact z
theorem Inv.made (I:`h):Inv X X3 σ (upd (upd H ⇑s (.own (⇑s+1))) (⇑s+1) (.ins C ⇑s []))
 {s with heap:=(s.heap.push XB).push (XC C ⇑s)}:=by
 let e1:(s.heap.push XB).get? ⇑s∣XB:=W8 s.heap rfl;let e2:((s.heap.push XB).push (XC C ⇑s)).get? (⇑s+1)∣XC C ⇑s:=by
  have:=W8 (s.heap.push XB) (o:=XC C ⇑s) rfl;rwa [W9] at this
 let e3:(s.heap.push XB).Ns ⇑s (λ_=>none):=⟨XB, #[],_,e1,rfl,(λe he=>XS he `d),λ_=>rfl⟩;let I1:=I.laid (a:=⇑s) (o:=.own (⇑s+1)) (h':=s.heap.push XB) (t':=s.toks) (λb u q=>W6 _ q) (UJ _) ⟨_,e1⟩;refine I1.laid (a:=⇑s+1) (o:=.ins C ⇑s []) (t':=s.toks) (λb u q=>W6 _ q) (U7 (W9 _ _)) ?_;let ne:⇑s≠⇑s+1:=UO (UT _);refine⟨by rw[aJ ne,aG],UL _,ne,e2,λ_=>none,(Heap.Ns1.of_empty e3).at λo q=>W6 _ q,λ_=>XR,λy hy=>XS rfl hy⟩
theorem HR {env:Env}(hb:WA e f env (eval e env)=eval e env)(h:wpAny `z A (eval e env) (λo s₁=>wpAny `z A (getAttr o f true) Q E s₁) E s):wpAny `z A (eval (.Attribute e f pos) env) Q E s:=
 Attribute_any_ h (by rw[arm_eval_Attribute,hb])
end
def Ro (K:Xt)(ta:TE)(f:Str):TE:=λσ H Q=>ta σ H λx H1=>∃a C dx fs v,x= .ref a/\H1 a∣.ins C dx fs/\mV K C/\lB K C f/\fs.lookup f∣v/\Q v H1
def Rr (K:Xt)(ta tv:TE)(f:Str):TS:=λD σ H=>tv σ H λy H1=>ta σ H1 λx H2=>∃a C dx fs,x= .ref a/\H2 a∣.ins C dx fs/\mV K C/\lB K C f/\fs.length<1000/\
 D.nx σ (upd H2 a (.ins C dx (gC f y fs)))
section
variable {o value:Expr}{tpos:Pos}{tv:TE}
theorem v9 (he:PE X e ta)(hb:fA X e f):PE X (.Attribute e f pos) (Ro X.K ta f):=by
 intro X3 s σ H Q I h;refine HR hb (a7 (he X3 s σ H _ I h) λu s1 ⟨x,H1,I1,rx,a,C,dx,fs,v,ex,ea,c,n,l,q⟩=>?_);subst ex;obtain rfl:u=Xm a:=rx;exact Bd I1 ea c n l λu' s2 I2 ru=>⟨v,H1,I2,ru,q⟩
theorem Kg (ha:PE X o ta)(hv:PE X value tv)(hs:Vv value (some (.Attribute o f pos')) pos.line X.env=pure false):PS X (.Assign [.Attribute o f pos'] value pos) (Rr X.K ta tv f):=by
 intro X3 s σ H D I h;refine plainObj_wpAny_Assign_Attribute (a7 (hv X3 s σ H _ I h) λu s1 ⟨y,H1,I1,ry,q⟩=>a7 (ha X3 s1 σ H1 _ I1 q) λov s2 ⟨x,H2,I2,rx,a,C,dx,fs,ex,ea,c,n,l,q2⟩=>?_) hs;subst ex;obtain rfl:ov=Xm a:=rx;exact AH I2 ea c n l ry λs3 I3=>⟨σ,_,I3,q2⟩
end
section
variable {c:`aa}{b:Bool}
inductive fN (K:Xt) (H:Hp):V->Value->Prop where
 | Ye:fN K H .Ye (.type "NoneType")
 | bl (x:Bool):fN K H (.bl x) (.type "bool")
 | int (i:Int):fN K H (.int i) (.type "int")
 | str (x:Str):fN K H (.str x) (.type "str")
 | flt (x:UInt64):fN K H (.flt x) (.type "float")
 | lst {a:Addr} {xs:`K} (e:H a∣.lst xs):fN K H (.ref a) (.type "list")
 | YY {a:Addr} {o:Obj} {xs:`K} (e:H a∣(.YY o (.lst xs))):fN K H (.ref a) (.type "list")
 | tup {a:Addr} {xs:`K} (e:H a∣.tup xs):fN K H (.ref a) (.type "tuple")
 | dK {a:Addr} {kvs:List (Key×V)} (e:H a∣.dK kvs):fN K H (.ref a) (.type "dict")
 | dT {a:Addr} {kvs:List (List Key×V)} (e:H a∣.dT kvs):fN K H (.ref a) (.type "dict")
 | ins {a C dx:Addr} {fs:List (Str×V)} (e:H a∣.ins C dx fs) (cl:mV K C) (ha:Xw K (.ref C) "__class__"∣(some (.builtin "object.__class__")))
  (hn:PySem.W.specialIn K (.builtin "object.__class__") "__get__"∣(some (.builtin "getset_descriptor.__get__"))) (htk:PySem.W.takesIn K (.builtin "object.__class__")∣true)
  (hm:PySem.W.mroIn K C (.type "object")∣true):fN K H (.ref a) (.ref C)
theorem BN {x:V}{t:`aa}(I:`h)(rx:bn x u)(ty:fN X.K H x t)(e:XO X.K t c∣b)(h:∀tk,Q (.bool b) {s with toks:=tk}):
 wpAny `f A (call (.builtin "isinstance") [u,c]) Q E s:=by
 cases ty with
 | Ye=>cases (show u=Xn from rx);exact XA PySem.W.kitx_none I.gp XR e `bl h
 | bl y=>cases (show u=Xq y from rx);exact XA PySem.W.kitx_bool I.gp XR e `bl h
 | int i=>let⟨t,q⟩:=(show∃t,u=Xo i t from rx);cases q;exact XA PySem.W.kitx_int I.gp XR e `bl h
 | str y=>let⟨t,q⟩:=(show∃t,u=Xp y t from rx);cases q;exact XA PySem.W.kitx_str I.gp XR e `bl h
 | flt y=>let⟨t,q⟩:=(show∃t,u=Xr y t from rx);cases q;exact XA PySem.W.kitx_float I.gp XR e `bl h
 | @lst a xs ea=>
   cases (show u=Xm a from rx)
   let⟨_,_,n,_,h1⟩:=(show c7 X.prog X.w H s.heap a (.lst xs) from I.X8 a _ ea);exact XA PySem.W.kitx_list I.gp ⟨_,h1,rfl⟩ e `bl h
 | @YY a ob xs ea=>
   cases (show u=Xm a from rx)
   let⟨_,_,_,n,_,h1⟩:=(show c7 X.prog X.w H s.heap a (.YY ob (.lst xs)) from I.X8 a _ ea);exact XA PySem.W.kitx_list I.gp ⟨_,h1,rfl⟩ e `bl h
 | @tup a xs ea=>
   cases (show u=Xm a from rx)
   let⟨_,_,_,p⟩:=(show c7 X.prog X.w H s.heap a (.tup xs) from I.X8 a _ ea);let⟨o,h1,h2,_⟩:=p;exact XA PySem.W.kitx_tuple I.gp ⟨o,h1,h2⟩ e `bl h
 | @dK a kvs ea=>
   cases (show u=Xm a from rx)
   let⟨_,_,vs,_,p⟩:=(show c7 X.prog X.w H s.heap a (.dK kvs) from I.X8 a _ ea);let⟨o,es,ep,h1,h2,_⟩:=p;exact XA PySem.W.kitx_dict I.gp ⟨o,h1,h2.1⟩ e `bl h
 | @dT a kvs ea=>
   cases (show u=Xm a from rx)
   let⟨_,_,xs,_,o,es,ep,h1,h2,_⟩:=(show c7 X.prog X.w H s.heap a (.dT kvs) from I.X8 a _ ea);exact XA PySem.W.kitx_dict I.gp ⟨o,h1,h2.1⟩ e `bl h
 | @ins a C dx fs ea cl ha hn htk hm=>
   cases (show u=Xm a from rx)
   let⟨mA,O,_⟩:=ug I.X8 ea;let⟨od,J,_⟩:=O.look;exact XA (PySem.W.kitx_own (cl.get _) cl.hd ha hn htk hm) I.gp J e `bl h
end
structure bH (k:Nat)(A:Vu):Prop where
 hd:A.handled=none
 dp:A.depth+3*k+5<recursionLimit
 un:A.units+16*k+200<cLine
theorem bH.mono {j k:Nat}(r:bH k A)(h:j<=k):bH j A:=⟨r.hd,by have:=r.dp;cbv,by have:=r.un;cbv⟩
theorem bH.deeper {k:Nat}(r:bH (k+1) A)(env:Env):bH k (A.deeper env):=
 ⟨r.hd,by have:=r.dp;show A.depth+1+3*k+5<_;cbv,by have:=r.un;show A.units+3+16*k+200<_;cbv⟩
theorem AV :(A.under (.builtin "type.__call__" ⟨.ref C::us,kw⟩)).depth=A.depth+1:=by
 first | rfl | simp[Vu.under,Code.weight,Code.isCreation,Code.isGuard,Code.isCaller,Code.frames,WV,guardIds]
theorem Bh :(A.under (.builtin "type.__call__" ⟨.ref C::us,kw⟩)).units=A.units+1:=by
 first | rfl | simp[Vu.under,Code.cUnits,Code.frames,WV]
theorem bH.make {k:Nat}(r:bH (k+1) A)(C:Addr)(us:RZ)(kw:List (Str×Value)):bH k `aT:=
 ⟨r.hd,by have:=r.dp;rw[AV];cbv,by have:=r.un;rw[Bh];cbv⟩
theorem bH.depth {k:Nat}(r:bH k A):A.depth<recursionLimit:=by have:=r.dp;cbv
theorem bH.units {k:Nat}(r:bH k A):A.units+64<cLine:=by have:=r.un;cbv
def Rl:TA:=λ_ H Q=>Q [] H
def NR (ta:TE)(tr:TA):TA:=λσ H Q=>ta σ H λx H1=>tr σ H1 λxs H2=>Q (x::xs) H2
variable {t:TA}
theorem br:PA X [] Rl:=λ_ _ _ _ H Q I h=>Calls.spliced_nil ⟨[],H,I,.nil,h⟩
theorem aK (ha:PE X e te)(hr:PA X es t)(hs:dk X e es:=by rfl):PA X (e::es) (NR te t):=by
 intro pos X3 s σ H Q I h;rw[hs];show wpAny _ _ (spliced ((false,eval e X.env)::Wd pos (Vt es X.env))) _ _ s;refine WU (a7 `aI λu s1 ⟨x,H1,I1,r1,q1⟩=>?_);exact a7 (hr pos X3 s1 σ H1 _ I1 q1) λus s2 ⟨xs,H2,I2,r2,q2⟩=>⟨x::xs,H2,I2,.cons r1 r2,q2⟩
def QU (t:TA):TE:=λσ H Q=>t σ H λxs H1=>xs.length<=Vn/\∀p,H1 p=none->Q (.ref p) (upd H1 p (.tup xs))
def Q0 (t:TA):TE:=λσ H Q=>t σ H λxs H1=>xs.length<=Vn/\∀p,H1 p=none->Q (.ref p) (upd H1 p (.lst xs))
theorem xK {x1}(h:PA X es t):PE X (.Tuple es x1 pos) (QU t):=by
 intro X3 s σ H Q I hq;refine wpAny_Tuple_spliced (a7 (h pos X3 s σ H _ I hq) λus s1 ⟨xs,H1,I1,r,z,q⟩=>⟨by rw[← r.length];exact z,?_⟩);let hf:H1 ⇑s1=none:=I1.X8.fresh (UJ _);refine⟨.ref ⇑s1,upd H1 ⇑s1 (.tup xs),I1.laid (t':=s1.toks) (λb u e=>W6 _ e) (UJ _) ?_,rfl,q _ hf⟩;exact⟨z,us,r,⟨_,W8 _ rfl,rfl,_,rfl⟩⟩
theorem yp (h:PA X es t):PE X (.List es pos) (Q0 t):=by
 intro X3 s σ H Q I hq;refine wpAny_List_spliced (a7 (h pos X3 s σ H _ I hq) λus s1 ⟨xs,H1,I1,r,z,q⟩=>⟨by rw[← r.length];exact z,?_⟩);let hf:H1 ⇑s1=none:=I1.X8.fresh (UJ _);refine⟨.ref ⇑s1,upd H1 ⇑s1 (.lst xs),I1.laid (t':=s1.toks) (λb u e=>W6 _ e) (UJ _) ?_,rfl,q _ hf⟩;exact⟨z,us,0,r,W8 _ rfl⟩
abbrev Sp:=List V->Hp->VK->XK->Prop
abbrev ox:=List Env->Hp->Vo->XK->Value->Vo->Prop
structure qS (P:Vr)(w:World)(K:Xt)(mg:RQ)(base:Heap)(A:Vu)(outer:List Env)(s:Vo)(H:Hp):Prop where
 frames:A.frames∣outer
 mod:Mod K mg base
 bs:∀b o,base.get? b∣o->s.heap.get? b∣o/\H b=none
 bsz:base.objs.size<=⇑s
 Y6:s.heap.FunFrames base outer
 frf:∀b∈nh outer,H b=none
 X8:eR P w H s.heap
 bare:Vk s.gens
def CE (outer:List Env)(P:Vr)(w:World)(H:Hp)(s:Vo)(Q:VK)(u:`aa)(s':Vo):Prop:=
 ∃v H',s'.os=s.os/\Vk s'.gens/\Un (nh outer) [] H H' s.heap s'.heap/\eR P w H' s'.heap/\bn v u/\Q v H'
noncomputable def CR (CX:ox)(outer:List Env)(P:Vr)(w:World)(H:Hp)(s:Vo)(Q:VK)(E:XK)(r:Result)(s':Vo):Prop:=
 match r with
 | .ok (.ret u)=>CE outer P w H s Q u s'
 | .ok _=>False
 | .error e=>CX outer H s E e s'
structure eZ (P:Vr)(w:World)(K:Xt)(mg:RQ)(base:Heap)(CX:ox)(k:Nat)(f:Addr)(fd:Vw)(ps:RU)(sp:Sp):Prop where
 len:∀vs H Q E,sp vs H Q E->vs.length=ps.length
 run:∀(A:Vu)(outer:List Env)(s:Vo)(H:Hp)(args:Args)(us:RZ)(vs:`K)(Q:VK)(E:XK),bH k A->qS P w K mg base A outer s H->Wu s fd args (ps.zip us)->Vals vs us->sp vs H Q E->
  Wb (model P w) A (.call (.ref f) args) (CR CX outer P w H s Q E) s
theorem eZ.mono {P:Vr}{w:World}{K:Xt}{mg:RQ}{base:Heap}{CX:ox}{j k:Nat}{f:Addr}{fd:Vw}{ps:RU}{sp:Sp}(F:eZ P w K mg base CX j f fd ps sp)(h:j<=k):
 eZ P w K mg base CX k f fd ps sp:=⟨F.len,λA outer s H args us vs Q E hr=>F.run A outer s H args us vs Q E (hr.mono h)⟩
variable {mg:RQ}{base:Heap}{outer:List Env}
theorem qS.make (e:qS P w K mg base A outer s H)(C:Addr)(us:RZ)(kw:List (Str×Value)):
 qS P w K mg base `aT outer s H:=⟨by first | exact e.frames | (simpa[Vu.under,Code.envs,WV,pushEnvs] using e.frames),e.mod,e.bs,e.bsz,e.Y6,e.frf,e.X8,e.bare⟩
theorem Inv.JY (I:`h):qS X.prog X.w X.K X.mg X.base X.A X.stack s H:=
 ⟨I.ok.frames,I.ok.mod,I.bs,UK I.ok.bsz I.sz,I.stack,I.zu,I.X8,I.bare⟩
theorem Inv.after {Q:VK}(I:`h)(h:CE X.stack X.prog X.w H s Q u s'):EP X X3 σ Q u s':=by
 let⟨v,H',os,bare,un,X8,r,q⟩:=h;let⟨hh,g,d,t,os'⟩:=s';obtain rfl:os'=s.os:=os;exact⟨v,H',I.call (h':=hh) (g':=g) (d':=d) (t':=t) (ch:=[]) un X8 bare (λb z=>XS z `d),r,q⟩
def Pc (sp:Sp)(ZW:`K)(E:XK)(t:TA):TE:=λσ H Q=>t σ H λvs H1=>sp (vs++ZW) H1 Q E
def Nk (C:Addr)(sp:Sp)(ZW:`K)(E:XK)(t:TA):TE:=λσ H Q=>t σ H λvs H1=>∀x dx,H1 x=none->H1 dx=none->dx≠x->
 sp (.ref x::(vs++ZW)) (upd (upd H1 dx (.own x)) x (.ins C dx [])) (λv H2=>v= .Ye/\Q (.ref x) H2) E
def be (K:Xt)(fd:Vw)(ps:RU)(ds:RZ):Prop:=
 ∀(s:Vo)(us:RZ),K.In s.heap->(us++ds).length=ps.length->Wu s fd ⟨us,[]⟩ (ps.zip (us++ds))
variable {fd:Vw}{ps:RU}
theorem be.all (h:∀us:RZ,us.length=ps.length->bindArgs fd ⟨us,[]⟩=pure (ps.zip us)):be K fd ps []:=λs us _ hl=>by
 rw[S3] at hl ⊢;exact .of_eq (h us hl)
def Passes (CX:ox)(X:Cx)(E:XK):Prop:=∀(X3:RR)(σ:St)(H:Hp)(s:Vo)(e:`aa)(s':Vo),Inv X X3 σ H s->CX X.stack H s E e s'->X.xe e s'
variable {CX:ox}{sp:Sp}{vs:`K}
section
variable {k:Nat}{f:Addr}{ZW:`K}{ds:RZ}{E:XK}{m:Str}{p apos:Pos}{o:Expr}
theorem Mg {Q:VK}(F:eZ X.prog X.w X.K X.mg X.base CX k f fd ps sp)(hr:bH k X.A)(hb:be X.K fd ps ds)(hd:Vals ZW ds)(hx:Passes CX X E)(I:`h)(r:Vals vs us)(h:sp (vs++ZW) H Q E):wpAny `f X.A (call (.ref f) us) `bm X.xe s:=by
 let r2:Vals (vs++ZW) (us++ds):=r.append hd;let hl:(us++ds).length=ps.length:=by rw[← r2.length];exact F.len _ _ _ _ h
 refine wpAny_call (Wl (F.run X.A X.stack s H ⟨us,[]⟩ (us++ds) (vs++ZW) Q E hr I.JY (hb s us I.gp hl) r2 h) λr s' hq=>?_);cases r with
 | error e=>exact hx X3 σ H s e s' I hq
 | ok fl=>
   cases fl with
   | ret u=>exact I.after hq
   | next=>exact Sg hq
   | brk=>exact Sg hq
   | cont=>exact Sg hq
theorem gR (F:eZ X.prog X.w X.K X.mg X.base CX k f fd ps sp)(hr:bH k X.A)(hg:Gl X x)(hm:X.mg x∣.ref f)(hk:Xy X.K (.ref f)=true)(hb:be X.K fd ps ds)(hd:Vals ZW ds)(hx:Passes CX X E)(ha:PA X (e::es) t)(Yz:YV x:=by decide)(he:dk X e es:=by rfl)(Yo:eV X pos es:=by rfl):
 PE X `bs (Pc sp ZW E t):=by
 intro X3 s σ H Q I h;refine V0 (t8 I hg hm ?_ Yz);refine PySem.W.callWith_K (h₀:=X.base) I.ok.mod.kin hk (a7 (ha pos X3 s σ H _ I h) λus s1 ⟨vs,H1,I1,r,q⟩=>⟨I1.gp,?_⟩) he Yo;exact Mg F hr hb hd hx I1 r q
structure Mk (K:Xt)(C f:Addr):Prop where
 makes:XH K C=true
 init:Xw K (.ref C) "__init__"∣(some (.ref f))
 fn:XQ K (.ref f)=true
 kp:Xy K (.ref C)=true
theorem FN {Q:VK}(M:Mk X.K C f)(F:eZ X.prog X.w X.K X.mg X.base CX k f fd ps sp)(hr:bH (k+1) X.A)(hb:be X.K fd ps ds)(hd:Vals ZW ds)(hx:Passes CX X E)(I:`h)(r:Vals vs us)(h:∀x dx,H x=none->H dx=none->dx≠x->sp (.ref x::(vs++ZW)) (upd (upd H dx (.own x)) x (.ins C dx [])) (λv H2=>v= .Ye/\Q (.ref x) H2) E):
 wpAny `f X.A (call (.ref C) us) `bm X.xe s:=by
 let hq:=h (⇑s+1) ⇑s (I.X8.fresh (US _)) (I.X8.fresh (UJ _)) (UO (UT _));let I2:=Inv.made (C:=C) I;let r2:Vals (V.ref (⇑s+1)::(vs++ZW)) (Xm (⇑s+1)::(us++ds)):=.cons rfl (r.append hd);let hl:(Xm (⇑s+1)::us++ds).length=ps.length:=by
  let e:=r2.length;rw[F.len _ _ _ _ hq] at e;exact e.symm
 refine wpAny_call (Es (f:=f) I.gp M.makes M.init (beq_iff_eq.mp M.fn) (Wl (F.run _ X.stack _ _ ⟨Xm (⇑s+1)::us,[]⟩ (Xm (⇑s+1)::(us++ds)) _ _ E (hr.make C us [])
  (I2.JY.make C us []) (hb _ (Xm (⇑s+1)::us) I2.gp hl) r2 hq) λr s' Zb=>?_))
 cases r with
 | error e=>exact hx X3 σ _ _ e s' I2 Zb
 | ok fl=>
   cases fl with
   | ret u=>
     let⟨v,H',I3,rv,ev,q3⟩:=I2.after Zb;subst ev;exact⟨rv,⟨V.ref (⇑s+1),H',I3,rfl,q3⟩⟩
   | next=>exact Sg Zb
   | brk=>exact Sg Zb
   | cont=>exact Sg Zb
theorem Jz (M:Mk X.K C f)(F:eZ X.prog X.w X.K X.mg X.base CX k f fd ps sp)(hr:bH (k+1) X.A)(hg:Gl X x)(hm:X.mg x∣.ref C)(hb:be X.K fd ps ds)(hd:Vals ZW ds)(hx:Passes CX X E)(ha:PA X (e::es) t)(Yz:YV x:=by decide)(he:dk X e es:=by rfl)(Yo:eV X pos es:=by rfl):
 PE X `bs (Nk C sp ZW E t):=by
 intro X3 s σ H Q I h;refine V0 (t8 I hg hm ?_ Yz);refine PySem.W.callWith_K (h₀:=X.base) I.ok.mod.kin M.kp (a7 (ha pos X3 s σ H _ I h) λus s1 ⟨vs,H1,I1,r,q⟩=>⟨I1.gp,?_⟩) he Yo;exact FN M F hr hb hd hx I1 r q
end
section
variable {k:Nat}{f:Addr}{ks:RU}{E:XK}{m:Str}{p apos kpos:Pos}{o:Expr}{kws:List Wi}{tk:TA}{nm:Option Str}
variable {g:RZ->RZ->RZ}{gV:List V->List V->List V}
end
structure bD (N P:RU)(sc:Scope):Prop where
 kind:sc.kind= .function
 co:sc.isCoroutine=false
 gen:sc.isGenerator=false
 nd:N.Nodup
 pre:N.take P.length=P
 par:∀x∈P,sc.names.lookup x∣.local∨sc.names.lookup x∣.cell
 nofree:∀y∈sc.names,y.2≠ .free
variable {sc:Scope}
theorem Zf{P:RU}(a:sc.kind=.function:=by rfl)(b:sc.isCoroutine=false:=by rfl)(c:sc.isGenerator=false:=by rfl)(d:N.Nodup:=by decide +kernel)(e:N.take P.length=P:=by rfl)(f:∀x∈P,sc.names.lookup x∣.local∨sc.names.lookup x∣.cell:=by decide +kernel)(g:∀y∈sc.names,y.2≠.free:=by decide +kernel):bD N P sc:=⟨a,b,c,d,e,f,g⟩
theorem vw {kindOf:Str->Option VU}{x:Str}:∀{binds:List (Str×Value)}{m:RQ},(∀v,(x,v)∉binds)->bindL kindOf binds m x=m x
 | [],_,_=>rfl
 | (n,v)::r,m,h=>by
   unfold bindL;rw[vw λw hw=>h w (Sv _ hw)];split
   ·have:x≠n:=by rintro rfl;exact h v Sz
    simp[this]
   ·rfl
theorem vq {kindOf:Str->Option VU}{x:Str}:∀{binds:List (Str×Value)}{m:RQ},(∀v,(x,v)∉binds)->bindC kindOf binds m x=m x
 | [],_,_=>rfl
 | (n,v)::r,m,h=>by
   unfold bindC;rw[vq λw hw=>h w (Sv _ hw)];split
   ·rfl
   ·have:x≠n:=by rintro rfl;exact h v Sz
    simp[this]
theorem u9 {kindOf:Str->Option VU}{x:Str}{v:`aa}:∀{P:RU}{vs:RZ}{i:Nat}{m:RQ},P.Nodup->P[i]?∣x->vs[i]?∣v->kindOf x∣.local->
 bindL kindOf (P.zip vs) m x∣v
 | [],_,_,_,_,h,_,_=>by simp at h
 | _::_,[],_,_,_,_,h,_=>by simp at h
 | p::P,w::vs,0,m,nd,h1,h2,hk=>by
   simp at h1 h2;subst h1;subst h2;show bindL kindOf ((p,w)::P.zip vs) m p=_;unfold bindL;rw[vw λv hv=>(S5.mp nd).1 (Ug hv).1,XU hk];simp
 | p::P,w::vs,i+1,m,nd,h1,h2,hk=>by
   show bindL kindOf ((p,w)::P.zip vs) m x=_;unfold bindL;exact u9 (i:=i) (S5.mp nd).2 (~~~h1) (~~~h2) hk
theorem uZ {kindOf:Str->Option VU}{x:Str}{v:`aa}:∀{P:RU}{vs:RZ}{i:Nat}{m:RQ},P.Nodup->P[i]?∣x->vs[i]?∣v->kindOf x≠some .local->
 bindC kindOf (P.zip vs) m x∣v
 | [],_,_,_,_,h,_,_=>by simp at h
 | _::_,[],_,_,_,_,h,_=>by simp at h
 | p::P,w::vs,0,m,nd,h1,h2,hk=>by
   simp at h1 h2;subst h1;subst h2;show bindC kindOf ((p,w)::P.zip vs) m p=_;unfold bindC;rw[vq λv hv=>(S5.mp nd).1 (Ug hv).1,XT hk];simp
 | p::P,w::vs,i+1,m,nd,h1,h2,hk=>by
   show bindC kindOf ((p,w)::P.zip vs) m x=_;unfold bindC;exact uZ (i:=i) (S5.mp nd).2 (~~~h1) (~~~h2) hk
noncomputable def start (N:RU)(vs:`K):St:=vs.map some++Tg (N.length-vs.length) none
def eE (CX:ox)(P:Vr)(w:World)(K:Xt)(mg:RQ)(base:Heap)(N:RU)(qual:Str)(scope:Scope)(f:Addr)(cd:`aa)(A:Vu)(outer:List Env)(s:Vo)(H:Hp)(E:XK):Cx where
 prog:=P
 w:=w
 K:=K
 mg:=mg
 base:=base
 A:=A.deeper (Vi qual scope ⇑s f cd)
 N:=N
 s₀:=s
 H₀:=H
 env:=Vi qual scope ⇑s f cd
 outer:=outer
 stack:=Vi qual scope ⇑s f cd::outer
 ex:=[]
 calm:=true
 fn:=λ_=>true
 pn:=[]
 xe:=λe s'=>wpAny (model P w) (A.deeper (Vi qual scope ⇑s f cd)) (leaving (Vi qual scope ⇑s f cd) e) (λ_ s''=>CX outer H s E e s'') (λe' s''=>CX outer H s E e' s'') s'
theorem bC (h:sc.names.lookup x∣.cell):∃c,(cellsFrom n sc.names []).lookup x∣c:=by
 let q:=PySem.W.cellsFrom_some sc.names n [] (.inl h);exact Option.isSome_iff_exists.mp q
variable {qual:Str}{scope:Scope}
theorem Dh {f:Addr}{cd:`aa}{s1:Vo}{E:XK}(S:bD N ps scope)(hd:A.handled=none)(e0:qS P w K mg base A outer s H)(hl:vs.length=ps.length)(r:Vals vs us)(x:InCallC s ⇑s (bindL (Vi qual scope ⇑s f cd).kindOf (ps.zip us) λ_=>none) (cellsFrom (⇑s+1) scope.names []) (bindC (Vi qual scope ⇑s f cd).kindOf (ps.zip us) λ_=>none) s1):
 Inv (eE CX P w K mg base N qual scope f cd A outer s H E) [] (start N vs) H s1:=by
 let Yo:ps.length<=N.length:=by have:=congrArg List.length S.pre;rw[SW] at this;cbv
 let⟨h1,tk,rfl,hk⟩:=x.done;let noA:∀b:Addr,b∉(eE CX P w K mg base N qual scope f cd A outer s H E).ex:=λb z=>XS (show b∈([]:RY) from z) `d;refine⟨⟨e0.mod,S.kind,rfl,rfl,UJ _,λy z c h1 h2=>?_,λy hy=>?_,λy c _ h=>?_,λ_=>hd,Vu.frames_deeper e0.frames,.inr ⟨rfl,rfl⟩,λb z=>XS z (noA b),e0.bs,e0.bsz,λb _ _=>noA b,λb z=>XS z (noA b),e0.Y6,e0.frf⟩,
  rfl,e0.bare,Un.kept hk,⟨_,x.toInCall.ns,λi y v h1 h2 h3=>?_⟩,λy c h=>⟨_,x.cell y c h⟩,e0.X8.fresh (UJ _),λy c h=>?_,λp hp=>XS (show p∈([]:RR) from hp) `d,e0.X8.kept hk,?_⟩
 ·exact name_of_addr x.apart (Vz h1) (Vz h2)
 ·let hy:scope.names.lookup y∣.cell∨scope.names.lookup y∣.free:=hy;obtain hy | hy:=hy
  ·exact bC hy
  ·exact XS rfl (S.nofree _ (Vz hy))
 ·exact U6 (x.above y c (Vz h))
 ·let hi:i<vs.length:=by
   unfold start at h2;by_cases hi:i<vs.length
   ·exact hi
   ·rw[SV (~~~hi)] at h2;rw[TQ] at h2;split at h2<;>cases h2
  let ha:vs[i]?∣v:=by
   unfold start at h2;rw[S0 (~~~hi),Sw] at h2;cases e:vs[i]? with
   | none=>rw[e] at h2;cases h2
   | some a=>rw[e] at h2;cases h2;rfl
  let⟨u,hu,rv⟩:=r.get ha;let hp:ps[i]?∣y:=by
   rw[← S.pre,List.getElem?_take_of_lt `a];exact h1
  let ndP:ps.Nodup:=by rw[← S.pre];exact S.nd.sublist (List.take_sublist _ _)
  refine⟨u,rv,?_⟩;obtain k | k:=S.par y (SD hp)
  ·exact .inl ⟨k,u9 ndP hp hu k⟩
  ·let⟨c,e⟩:=bC (n:=⇑s+1) k;refine .inr ⟨.inl k,c,e,?_⟩;let q:=x.cell y c e;rw[uZ ndP hp hu (by show scope.names.lookup y≠_;rw[k];decide)] at q;exact q
 ·exact e0.X8.fresh (U6 (x.above y c (Vz h)))
 ·unfold start;show _=N.length;rw[Sx,Ss,Tq];cbv
theorem OR {k:Nat}{f:Addr}{params:Arguments}{dV kV doc pm X6 ct oc:`aa}{an od:Option Addr}{ZN:Array RX}(lk:K.lookup f∣⟨oc,od,.func (Xz name qual params body scope dV kV doc pm an X6 ct),ZN⟩)(Z4:XD K X6 qual=true)(S:bD N ps scope)(len:∀vs H Q E,sp vs H Q E->vs.length=ps.length)(Yn:∀(A:Vu)(outer:List Env)(s:Vo)(H:Hp)(vs:`K)(Q:VK)(E:XK),bH k (A.deeper (Vi qual scope ⇑s f X6))->sp vs H Q E->
  ∃t,lN (eE CX P w K mg base N qual scope f X6 A outer s H E) body t/\t {nx:=λ_ H'=>Q .Ye H',rt:=Q} (start N vs) H):
 eZ P w K mg base CX (k+1) f (Xz name qual params body scope dV kV doc pm an X6 ct) ps sp:=by
 refine⟨len,λA outer s H args us vs Q E hr e0 hb r ZJ=>?_⟩;let hl:=len _ _ _ _ ZJ;let KX:K.In s.heap:=e0.mod.kin.keeps λb o e=>(e0.bs b o e).1;let lim:s.heap.NoLimit:=e0.mod.nolimit.keeps λb o e=>(e0.bs b o e).1;let hkind:∀y∈ps.zip us,scope.names.lookup y.1∣.local∨(scope.names.lookup y.1∣.cell/\((cellsFrom (⇑s+1) scope.names []).lookup y.1).isSome=true):=λ⟨n,v⟩ hy=>by
  obtain q | q:=S.par n (Ug hy).1
  ·exact .inl q
  ·exact .inr ⟨q,PySem.W.cellsFrom_some _ _ _ (.inl q)⟩
 refine codeAny_call_function hr.depth (KX _ _ lk) rfl S.co S.gen rfl (PySem.W.codeRec_of KX Z4) (hb _ _ _ _ ?_);refine wpAny_newFunctionEnv_cells S.kind hkind λenv he s1 x=>?_;subst he;refine⟨lim.keeps x.toInCall.keep,codeAny_func ?_⟩;let⟨t,ht,hq⟩:=Yn A outer s H vs Q E (hr.deeper _) ZJ;let I:Inv (eE CX P w K mg base N qual scope f X6 A outer s H E) [] (start N vs) H s1:=Dh S hr.hd e0 hl r x;refine VC (ht [] s1 (start N vs) H _ I hq) (λfl s' hs=>?_) λe s' hs=>hs;let fin:∀{σ':St}{H':Hp}{v:V}{u:`aa},Inv (eE CX P w K mg base N qual scope f X6 A outer s H E) [] σ' H' s'->bn v u->Q v H'->CE outer P w H s Q u s':=
  λ{σ' H' v u} J rv q=>⟨v,H',J.os,J.bare,J.base,J.X8,rv,q⟩
 cases fl with
 | ret u=>
   let⟨v,σ',H',J,rv,q⟩:=hs;exact fin J rv q
 | next=>
   let⟨σ',H',J,q⟩:=hs;exact fin (v:=V.Ye) (u:=Xn) J rfl q
 | brk=>
   let⟨_,_,_,q⟩:=hs;exact Sg q
 | cont=>
   let⟨_,_,_,q⟩:=hs;exact Sg q
section
variable {p:Pos}{id T:String}{r:List V->Hp->VK->Prop}
def Qu (r:List V->Hp->VK->Prop)(t:TA):TE:=λσ H Q=>t σ H λvs H1=>r vs H1 Q
theorem eX (hc:fY X (.builtin id) r)(hg:Gl X x)(hm:X.mg x=none)(hv:VM x∣.builtin id)(ha:PA X (e::es) t)(hn:x≠"__name__":=by decide)(Yz:YV x:=by decide)(he:dk X e es:=by rfl)(Yo:eV X pos es:=by rfl):PE X `bs (Qu r t):=by
 intro X3 s σ H Q I h;refine V0 (i7 I hg hm hv ?_ hn Yz);exact PyProof.Rows.callWith_builtin1 (a7 (ha pos X3 s σ H _ I h) λus s1 ⟨vs,H1,I1,r1,q1⟩=>hc X3 s1 σ H1 vs us Q I1 r1 q1) he Yo
theorem iQ (hc:fY X (.type T) r)(hg:Gl X x)(hm:X.mg x=none)(hv:VM x∣.type T)(ha:PA X (e::es) t)(hn:x≠"__name__":=by decide)(Yz:YV x:=by decide)(he:dk X e es:=by rfl)(Yo:eV X pos es:=by rfl):PE X `bs (Qu r t):=by
 intro X3 s σ H Q I h;refine V0 (i7 I hg hm hv ?_ hn Yz);exact Vf (a7 (ha pos X3 s σ H _ I h) λus s1 ⟨vs,H1,I1,r1,q1⟩=>hc X3 s1 σ H1 vs us Q I1 r1 q1) he Yo
end
end L2
namespace HT
open PySem PyProof.Rows
section
open PySem.SeqAt
open PySem.AutoSeq1 (wpAny_loadPart')
open PySem.MeetsSeq PySem.MeetsSeq2 PySem.MeetsSeq3
end
variable {sl:Addr}
section
variable {prog:Vr}{w:World}{A:Vu}{E:`r}{s:Vo}
noncomputable def Yl (n d:Nat):Option Int->Nat
 | none=>d
 | some v=>if v<0 then(v+(n:Int)).toNat else min v.toNat n
theorem J9 (n d:Nat)(hd:d<=n)(o:`br):Yl n d o<=n:=by
 cases o with
 | none=>exact hd
 | some v=>
   show(if v<0 then(v+(n:Int)).toNat else min v.toNat n)<=n;by_cases hv:v<0
   ·rw[XU hv];cbv
   ·rw[XT hv];exact U1 _ _
theorem zE (v:Int)(n d:Nat):(if v<0 then max (v+(n:Int)) 0 else min v (n:Int))=((Yl n d (some v):Nat):Int):=by
 show(if v<0 then max (v+(n:Int)) 0 else min v (n:Int))=(((if v<0 then(v+(n:Int)).toNat else min v.toNat n):Nat):Int);by_cases hv:v<0
 ·simp only[XU hv];cbv
 ·simp only[XT hv];cbv
theorem Ay (lo hi:`br)(n:Nat):WL lo hi 1 (n:Int)=(((Yl n 0 lo:Nat):Int),((Yl n n hi:Nat):Int)):=by
 let h1:¬((1:Int)<0):=`a
 unfold WL;simp only[h1,if_false];refine Vd ?_ ?_
 ·cases lo with
  | none=>rfl
  | some v=>exact zE v n 0
 ·cases hi with
  | none=>rfl
  | some v=>exact zE v n n
theorem Az (i j:Nat):WK (i:Int) (j:Int) 1=j-i:=by
 unfold WK;let h1:(1:Int)>0:=`a
 simp only[h1,if_true,Int.ediv_one];split<;>cbv
theorem sU {v:`aa}{o:`br}{Q:Option Int->Vo->Prop}(p:V6 v o)(h:Q o s):wpAny `z A (Builtin.Slice.slicePartIndex v) Q E s:=by
 cases p with
 | none=>exact slicePart_none h
 | int i t=>exact slicePart_int h
theorem lu {vl vu:`aa}{lo hi:`br}{n:Nat}{Q:Int×Int×Nat->Vo->Prop}(hs:s.heap.IsSliceOf sl vl vu .none)(pl:V6 vl lo)(pu:V6 vu hi)(h:Q (((Yl n 0 lo:Nat):Int),1,Yl n n hi-Yl n 0 lo) s):wpAny `z A (Builtin.Slice.sliceApplied (.ref sl) (pure (n:Int))) Q E s:=by
 let⟨os,hos,hcs,hds⟩:=id hs;unfold Builtin.Slice.sliceApplied Builtin.Slice.sliceFields;refine Vp (Vp (VB hos hds (x:=vl) rfl (Vp (VB hos hds (x:=vu) rfl (Vp (VB hos hds (x:=.none) rfl (Vs ?_)))))));refine Vp (slicePart_none ?_);show wpAny _ _ (if((1:Int)==0)=true then _ else _) _ _ s;rw[XT `c];refine Vp (sU pl (Vp (sU pu (Vp (Vs ?_)))));show wpAny _ _ (match WL lo hi 1 (n:Int) with | (lo,hi)=>pure (lo,(1:Int),WK lo hi 1)) _ _ s;rw[Ay lo hi n];show wpAny _ _ (pure (((Yl n 0 lo:Nat):Int),(1:Int),WK ((Yl n 0 lo:Nat):Int) ((Yl n n hi:Nat):Int) 1)) _ _ s;rw[Az];exact Vs h
theorem FD (xs:`bL)(i k:Nat):((SQ k).filterMap λ(m:Nat)=>xs[((i:Int)+(m:Int)*1).toNat]?).toArray=((xs.toList.drop i).take k).toArray:=by
 let e:(λ(m:Nat)=>xs[((i:Int)+(m:Int)*1).toNat]?)=λm=>xs[i+m]?:=by
  funext m;have:((i:Int)+(m:Int)*1).toNat=i+m:=`a
  rw[this]
 rw[e];have:=pick_run xs i k;rw[List.filterMap_map] at this;let e2:((λx=>xs[x]?) ∘ λx=>i+x)=λm=>xs[i+m]?:=rfl;rw[e2] at this;rw[this]
theorem qz {t:Addr}{items:`bL}{vl vu:`aa}{lo hi:`br}{Q:`r}(ht:IsTup s.heap t items)(hs:s.heap.IsSliceOf sl vl vu .none)(pl:V6 vl lo)(pu:V6 vu hi)(hw:¬(Yl items.size 0 lo=0/\Yl items.size items.size hi=items.size))(h:Q (.ref ⇑s) {s with heap:=s.heap.push {cls:=.type "tuple",data:=.seq ((items.toList.drop (Yl items.size 0 lo)).take `aB).toArray}})(hsz:items.size<=Vn):wpAny `z A (V2 (.ref t) (.ref sl)) Q E s:=by
 let Z0:sizeOk (.seq ((items.toList.drop (Yl items.size 0 lo)).take `aB).toArray):=by
  show((items.toList.drop (Yl items.size 0 lo)).take `aB).toArray.size<=Vn;rw[SJ,SW,T7,R8];cbv
 let hj:Yl items.size items.size hi<=items.size:=J9 _ _ (UJ _) hi;let⟨os,hos,hcs,hds⟩:=id hs;let hTs:s.TypeIs (.ref sl) "slice":=⟨os,hos,hcs⟩;unfold V2
 try with_reducible refine VX ?_
 first | refine Vp (Vs ?_) | skip
 refine Vp (wpAny_sequenceKey ht.typeIs `c ?_);refine Vp (VE (name:=Xk "__getitem__") ht.typeIs Vg
  (VR Vg ht.typeIs entry_tuple_getitem ?_ (args_tuple_getitem _ _)))
 show wpAny _ _ (Builtin.Tuple.tupleItemsOf (.ref t) >>=_) _ _ s;refine Vp (tupleItemsOf_ ht ?_);refine Vp (wpAny_typeOf hTs ?_);rw[XU `c];refine Vp (lu hs pl pu ?_);let hno:¬(`P=true):=by
  intro q;rw[Sa,Sa] at q;let q1:((Yl items.size 0 lo:Nat):Int)=0:=eq_of_beq q.1.1;let q2:Yl items.size items.size hi-Yl items.size 0 lo=items.size:=eq_of_beq q.2;exact hw ⟨`a,`a⟩
 show wpAny _ _ (if(((Yl items.size 0 lo:Nat):Int)==0&&(1:Int)==1&&`aB==items.size)=true then _ else _) _ _ s;rw[XT hno,FD]
 first
  | exact Vp (m:=WR _) (VG (Vs ⟨_,rfl,Vs h⟩) Z0)
  | exact Vp (m:=WR _) (VG (Vp (Vs (Vs ⟨_,rfl,Vs h⟩))) Z0)
  | exact Vp (Vp (m:=WR _) (VG (Vs (Vs ⟨_,rfl,Vs h⟩)) Z0))
  | exact Vp (Vp (m:=WR _) (VG (Vs ⟨_,rfl,Vs h⟩) Z0))
end
end HT
namespace L2
open PySem PySem.Spec PyProof.Rows
abbrev TO:=St->Hp->(Option Int->Hp->Prop)->Prop
def PO (X:Cx)(e:Option Expr)(t:TO):Prop:=
 ∀(X3:RR)(s:Vo)(σ:St)(H:Hp)(Q:Option Int->Hp->Prop),Inv X X3 σ H s->t σ H Q->
  wpAny `f X.A (evalPart e X.env) (λu s'=>∃o H',Inv X X3 σ H' s'/\V6 u o/\Q o H') X.xe s
def JI:TO:=λ_ H Q=>Q none H
def Oh (t:TE):TO:=λσ H Q=>t σ H λx H1=>∃i,x= .int i/\Q (some i) H1
variable {X:Cx}{e:Expr}{pos:Pos}
section
variable {te:TE}{lo hi:Option Expr}{tl th:TO}{p2:Pos}
theorem IY:PO X none JI:=by
 intro X3 s σ H Q I h;rw[evalPart_none];exact Vs ⟨none,H,I,.none,h⟩
theorem HQ (h:PE X e te):PO X (some e) (Oh te):=by
 intro X3 s σ H Q I hw;rw[evalPart_some];refine a7 (h X3 s σ H _ I hw) λu s1 ⟨x,H1,I1,r1,q1⟩=>?_;let⟨i,rfl,q⟩:=q1;let⟨t,rfl⟩:=r1;exact⟨some i,H1,I1,.int i t,q⟩
def Cy (X:Cx)(r:V->Option Int->Option Int->Hp->VK->Prop):Prop:=
 ∀(X3:RR)(s:Vo)(σ:St)(H:Hp)(x:V)(v vl vu:`aa)(lo hi:`br)(sl:Addr)(Q:VK),Inv X X3 σ H s->bn x v->s.heap.IsSliceOf sl vl vu .none->V6 vl lo->V6 vu hi->r x lo hi H Q->
  ∃T id,typeLookup (.type T) "__getitem__"=pure (some (.builtin id))/\s.TypeIs v T/\wpAny `f X.A (V2 v (.ref sl)) `bm X.xe s
def tSl (r:V->Option Int->Option Int->Hp->VK->Prop)(te:TE)(tl th:TO):TE:=λσ H Q=>te σ H λx H1=>tl σ H1 λl H2=>th σ H2 λu H3=>r x l u H3 Q
theorem nI {r:V->Option Int->Option Int->Hp->VK->Prop}(hr:Cy X r)(he:PE X e te)(hl:PO X lo tl)(hu:PO X hi th):PE X (.Subscript e (.Slice lo hi none p2) pos) (tSl r te tl th):=by
 intro X3 s σ H Q I h;refine Subscript_ (a7 (he X3 s σ H _ I h) λv s1 ⟨x,H1,I1,r1,q1⟩=>?_);refine wpAny_Slice (a7 (hl X3 s1 σ H1 _ I1 q1) λvl s2 ⟨l,H2,I2,pl,q2⟩=>a7 (hu X3 s2 σ H2 _ I2 q2) λvu s3 ⟨u,H3,I3,pu,q3⟩=>?_);rw[evalPart_none];refine Vs ?_;let I4:Inv X X3 σ H3 {s3 with heap:=s3.heap.push {cls:=.type "slice",data:=.fields #[vl,vu,.none]}}:=I3.kept (t':=s3.toks) λb ob q=>W6 _ q;let⟨T,id,hT,ht,hg⟩:=hr X3 {s3 with heap:=s3.heap.push {cls:=.type "slice",data:=.fields #[vl,vu,.none]}} σ H3 x v vl vu l u ⇑s3 Q I4 r1 (Heap.IsSliceOf.new ..) pl pu q3;show wpAny `f X.A (Vm e (.Slice lo hi none p2) v (.ref ⇑s3)) `bm X.xe {s3 with heap:=s3.heap.push {cls:=.type "slice",data:=.fields #[vl,vu,.none]}};exact tail_any (ops:=[.ref ⇑s3,v]) ht hT hg (by with_unfolding_all rfl)
def mz (xs:`K)(lo hi:`br):List V:=(xs.drop (HT.Yl xs.length 0 lo)).take `bj
theorem qI (xs:`K)(lo hi:`br):(mz xs lo hi).length<=xs.length:=by
 unfold mz;rw[SW,T7];cbv
def Rp (K:Xt):V->Option Int->Option Int->Hp->VK->Prop:=λx lo hi H Q=>∃a xs,x= .ref a/\dY K H a xs/\
 ¬(HT.Yl xs.length 0 lo=0/\HT.Yl xs.length xs.length hi=xs.length)/\∀p,H p=none->Q (.ref p) (upd H p (.tup (mz xs lo hi)))
theorem JZ:Cy X (Rp X.K):=by
 intro X3 s σ H x v vl vu lo hi sl Q I rx hs pl pu h;let⟨a,xs,rfl,hx,hw,q⟩:=h;cases rx
 let⟨X5,r,ht,hz⟩:=I.tuple hx;let hlen:X5.toArray.size=xs.length:=by rw[SJ];exact r.length.symm
 refine⟨"tuple",_,Vg.lookup,ht.typeIs,?_⟩;refine HT.qz ht hs pl pu (by rw[hlen];exact hw) ?_ (by rw[hlen];exact hz);rw[hlen];refine⟨.ref ⇑s,_,I.laid (t':=s.toks) (o:=.tup (mz xs lo hi)) (λb ob q=>W6 _ q) (UJ _) ?_,rfl,q _ (I.X8.fresh (UJ _))⟩;exact⟨UK (qI xs lo hi) hz,_,(r.drop (HT.Yl xs.length 0 lo)).take `bj,IsTup.new _ _⟩
end
variable {α:Type}{n:Nat}{i:Int}{j:Nat}{xs:`x}
noncomputable def gm (n:Nat)(i:Int):Option Nat:=if 0<=i then(if i<n then some i.toNat else none) else if -(n:Int)<=i then some (i+n).toNat else none
def cE (xs:`x)(i:Int):Option α:=(gm xs.length i).bind λj=>xs[j]?
theorem ud (h:gm n i∣j):seqIndex? i n∣j/\j<n/\ -(n:Int)<=i/\i<n:=by
 unfold gm at h;by_cases h0:0<=i
 ·rw[XU h0] at h;by_cases h1:i<n
  ·rw[XU h1] at h;let e:i.toNat=j:=Option.some.inj h;exact⟨by rw[seqIndex_of h0 h1,e],`a,`a,h1⟩
  ·rw[XT h1] at h;cases h
 ·rw[XT h0] at h;by_cases h1: -(n:Int)<=i
  ·rw[XU h1] at h;let e:(i+n).toNat=j:=Option.some.inj h;exact⟨by rw[seqIndex_neg `a h1,e],`a,h1,`a⟩
  ·rw[XT h1] at h;cases h
theorem uB {v:α}(h:cE xs i∣v):∃j,seqIndex? i xs.length∣j/\xs[j]?∣v/\j<xs.length/\ -(xs.length:Int)<=i/\i<xs.length:=by
 unfold cE at h;cases e:gm xs.length i with
 | none=>rw[e] at h;cases h
 | some j=>
   rw[e] at h;let⟨h1,h2,h3,h4⟩:=ud e;exact⟨j,h1,h,h2,h3,h4⟩
theorem IA {v:α}(h:xs[j]?∣v):cE xs (j:Int)∣v:=by
 let hj:j<xs.length:=(Sn.mp h).1;let e:gm xs.length (j:Int)∣j:=by
  unfold gm;rw[XU `a,XU `a];simp
 unfold cE;rw[e];exact h
def dU (b:Expr):Prop:=∀o i,Wr b false o i=operate [o,i] (V2 o i)
def Gd (X:Cx)(r:R2):Prop:=
 ∀(value slice:Expr)(X3:RR)(s:Vo)(σ:St)(H:Hp)(x y:V)(v u:`aa)(Q:VK),Inv X X3 σ H s->bn x v->bn y u->r x y H Q->
  Wr slice false v u=operate [v,u] (V2 v u)->wpAny `f X.A (Vm value slice v u) `bm X.xe s
def zm (X:Cx)(id:String)(r:V->List V->Hp->VK->Prop):Prop:=
 ∀(X3:RR)(s:Vo)(σ:St)(H:Hp)(x:V)(xs:`K)(v:`aa)(us:RZ)(Q:VK),Inv X X3 σ H s->bn x v->Vals xs us->r x xs H Q->
  wpAny `f X.A (call (.builtin id) (v::us)) `bm X.xe s
variable {X3:RR}{σ:St}{H:Hp}{s:Vo}{X5:RZ}{A:Vu}{y x:V}{u:`aa}{T:String}{v:`aa}
section
variable {a b:Expr}{ta tb:TE}
theorem ip {r:R2}(hr:Gd X r)(ha:PE X a ta)(hb:PE X b tb)(hs:dU b):PE X (.Subscript a b pos) (GZ r ta tb):=by
 intro X3 s σ H Q I h;exact Subscript_ (Ef ha hb I h λv u s2 x y H2 I2 rx ry q=>hr a b X3 s2 σ H2 x y v u Q I2 rx ry q (hs _ _))
def Ra (K:Xt):R2:=λx y H Q=>∃p xs i v,x= .ref p/\y= .int i/\bu K H p xs/\cE xs i∣v/\Q v H
def QV (K:Xt):R2:=λx y H Q=>∃p xs i v,x= .ref p/\y= .int i/\dY K H p xs/\cE xs i∣v/\Q v H
def RC:R2:=λx y H Q=>∃z i c,x= .str z/\y= .int i/\z.length<=Vn/\cE z.cps.toList i∣c/\Q (.str ⟨#[c]⟩) H
theorem gT:Gd X (Ra X.K):=by
 intro value slice X3 s σ H x y v u Q I rx ry h hs;let⟨p,xs,i,z,rfl,rfl,hq,he,q⟩:=h;cases rx
 let⟨t,rfl⟩:=ry;let⟨X5,r,pl,hz⟩:=I.list hq;let⟨j,h1,h2,h3,h4,h5⟩:=uB he;let⟨w,ew,rw'⟩:=r.get h2;let hl:=r.length;let hn:=kW;let fin:EP X X3 σ Q w s:=⟨z,H,I,rw',q⟩;by_cases h0:0<=i
 ·let hj:i.toNat=j:=by
   rw[seqIndex_of h0 h5] at h1;exact Option.some.inj h1
  exact item_listR pl.isList h0 `a (by rw[hj];simpa using ew) fin hs
 ·let hj:(i+(X5.toArray.size:Int)).toNat=j:=by
   rw[seqIndex_neg `a h4] at h1;rw[SJ,← hl];exact Option.some.inj h1
  exact subscriptTail_builtinR (x:=w) pl.isList.typeIs slot_list_getitem.lookup
   (wpAny_getItem_list_neg (Q:=λr s'=>r=w/\EP X X3 σ Q r s') pl.isList `a (by rw[SJ]<;>cbv) `a (by rw[hj];simpa using ew) ⟨rfl,fin⟩) hs
theorem Dq:Gd X (QV X.K):=by
 intro value slice X3 s σ H x y v u Q I rx ry h hs;let⟨p,xs,i,z,rfl,rfl,hq,he,q⟩:=h;cases rx
 let⟨t,rfl⟩:=ry;let⟨X5,r,pl,hz⟩:=I.tuple hq;let⟨j,h1,h2,h3,h4,h5⟩:=uB he;let⟨w,ew,rw'⟩:=r.get h2;let hl:=r.length;let hn:=kW;let fin:EP X X3 σ Q w s:=⟨z,H,I,rw',q⟩;exact subscriptTail_builtinR (x:=w) pl.typeIs slot_tuple_getitem.lookup
  (getItem_tuple (j:=j) (Q:=λr s'=>r=w/\EP X X3 σ Q r s') pl `a `a (by rw[SJ,← hl];exact h1) (~~~ew) ⟨rfl,fin⟩) hs
theorem LN:Gd X RC:=by
 intro value slice X3 s σ H x y v u Q I rx ry h hs;let⟨z,i,c,rfl,rfl,hz,he,q⟩:=h;let⟨t,rfl⟩:=rx;let⟨t',rfl⟩:=ry;let⟨j,h1,h2,h3,h4,h5⟩:=uB he;let hl:z.cps.toList.length=z.length:=by simp[Str.length]
 rw[hl] at h1 h4 h5;let hn:=kW;exact tail_any (V7 s z t) slot_str_getitem.lookup (getItem_str (c:=c) (by
  let e1:decide (i < -(2 ^ 63:Int))=false:=XZ `a;let e2:decide (i≥2 ^ 63)=false:=XZ `a;rw[e1,e2,Bool.or_false]) (by rw[h1];simpa using h2) ⟨.str ⟨#[c]⟩,H,I.tok _,⟨_,rfl⟩,q⟩) hs
theorem AQ (X5:RZ)(n j:Nat)(u:`aa):Xf (·.setIfInBounds j u) {cls:=.type "list",data:=.seq X5.toArray n}={cls:=.type "list",data:=.seq (X5.set j u).toArray n}:=by
 simp[Xf]
theorem Inv.lst {X3:RR}{σ:St}{H:Hp}{s:Vo}{p:Addr}{xs:`K}(I:`h)(h:H p∣.lst xs):
 ∃(X5:RZ)(n:Nat),Vals xs X5/\s.heap.get? p=some {cls:=.type "list",data:=.seq X5.toArray n}/\xs.length<=Vn:=by
 let⟨z,X5,n,r,e⟩:=I.X8 p _ h;exact⟨X5,n,r,e,z⟩
theorem Inv.Lo {p:Addr}{xs ys:`K}{its':RZ}{n':Nat}{f:Obj->Obj}(I:`h)(h:H p∣.lst xs)(ho:s.heap.get? p=some {cls:=.type "list",data:=.seq X5.toArray n})(hf:f {cls:=.type "list",data:=.seq X5.toArray n}={cls:=.type "list",data:=.seq its'.toArray n'})(r:Vals ys its')(hz:ys.length<=Vn)(t:Nat):
 Inv X X3 σ (upd H p (.lst ys)) {s with heap:=s.heap.update p f,toks:=t}:=by
 let e:(s.heap.update p f).get? p=some {cls:=.type "list",data:=.seq its'.toArray n'}:=by
  rw[Xb f ho (by rw[hf]<;>rfl),hf]
 refine I.write (x:=p) (e:=p) (by rw[h];trivial) `aR (λb u hb q=>(Heap.get?_update_other _ _ (U8 hb)).trans q) ⟨_,e⟩ ?_;exact⟨hz,its',n',r,e⟩
def N6:V->V->V->Hp->(Hp->Prop)->Prop:=λo i v H Q=>∃p xs k j,o= .ref p/\i= .int k/\H p∣.lst xs/\gm xs.length k∣j/\Q (upd H p (.lst (xs.set j v)))
theorem set_list:Lz X N6:=by
 intro X3 s σ H o i v ov iv u Q I ro ri rv h;let⟨p,xs,k,j,rfl,rfl,hp,hj,q⟩:=h;cases ro
 let⟨t,rfl⟩:=ri;let⟨X5,n,r,ho,hz⟩:=I.lst hp;let⟨h1,h2,h3,h4⟩:=ud hj;let hl:=r.length;let hn:=kW;let I':Inv X X3 σ (upd H p (.lst (xs.set j v))) {s with heap:=s.heap.update p (Xf (·.setIfInBounds j u))}:=
  I.Lo hp ho (AQ X5 n j u) (r.set rv j) (by rw[Tb];exact hz) s.toks
 by_cases h0:0<=k
 ·let hk:k.toNat=j:=by
   rw[seqIndex_of h0 h4] at h1;exact Option.some.inj h1
  exact PySem.W.ki_setAt ho h0 `a (by rw[SJ,← hl];exact h4) (by rw[hk];exact⟨_,I',q⟩)
 ·let hk:(k+(X5.toArray.size:Int)).toNat=j:=by
   rw[seqIndex_neg `a h3] at h1;rw[SJ,← hl];exact Option.some.inj h1
  exact PySem.W.ki_setBack ho `a (by rw[SJ,← hl];exact h3) `a (by rw[hk];exact⟨_,I',q⟩)
theorem vZ (lo hi:`br)(n:Nat):(VY lo hi none n).1=((HT.Yl n 0 lo:Nat):Int)/\(VY lo hi none n).2.1=((HT.Yl n n hi:Nat):Int)/\(VY lo hi none n).2.2=1:=by
 refine⟨?_,?_,rfl⟩
 ·cases lo with
  | none=>simp[VY,HT.Yl]
  | some i=>
    simp only[VY,HT.Yl,Option.getD_none,show(1:Int)>0 by decide,if_true];by_cases h:i<0
    ·simp only[h,if_true]<;>cbv
    ·simp only[h,if_false]<;>cbv
 ·cases hi with
  | none=>simp[VY,HT.Yl]
  | some i=>
    simp only[VY,HT.Yl,Option.getD_none,show(1:Int)>0 by decide,if_true];by_cases h:i<0
    ·simp only[h,if_true]<;>cbv
    ·simp only[h,if_false]<;>cbv
theorem vD (X5:RZ)(lo hi:`br):slicePick X5.toArray lo hi none=((X5.drop (HT.Yl X5.length 0 lo)).take (HT.Yl X5.length X5.length hi-HT.Yl X5.length 0 lo)).toArray:=by
 let⟨h1,h2,h3⟩:=vZ lo hi X5.toArray.size;unfold slicePick;rw[h1,h2,h3];simp only[sliceRange_one,pick_run,SJ]<;>rfl
def RH (K:Xt):V->Option Int->Option Int->Hp->VK->Prop:=λx lo hi H Q=>∃a xs,x= .ref a/\bu K H a xs/\∀p,H p=none->Q (.ref p) (upd H p (.lst (mz xs lo hi)))
theorem Jx:Cy X (RH X.K):=by
 intro X3 s σ H x v vl vu lo hi sl Q I rx hs pl pu h;let⟨a,xs,rfl,hx,q⟩:=h;cases rx
 let⟨X5,r,ht,hz⟩:=I.list hx;let hlen:=r.length;refine⟨"list",_,slot_list_getitem.lookup,ht.isList.typeIs,?_⟩;refine wpAny_getItem_list_slice ht.isList hs pl pu .none `d ?_ (by rw[SJ]<;>cbv)
 rw[vD,← hlen];refine⟨.ref ⇑s,_,I.laid (t':=s.toks) (o:=.lst (mz xs lo hi)) (λb ob q=>W6 _ q) (UJ _) ?_,rfl,q _ (I.X8.fresh (UJ _))⟩;exact⟨UK (qI xs lo hi) hz,_,0,(r.drop (HT.Yl xs.length 0 lo)).take `bj,W8 _ rfl⟩
noncomputable def kx:V->Bool
 | .Ye=>true
 | .bl _=>true
 | .int _=>true
 | .str _=>true
 | _=>false
noncomputable def sY:V->V->Bool
 | .Ye,.Ye=>true
 | .bl a,.bl b=>a==b
 | .bl a,.int b=>(if a then 1 else 0)==b
 | .int a,.bl b=>a==(if b then 1 else 0)
 | .int a,.int b=>a==b
 | .str a,.str b=>a==b
 | _,_=>false
theorem ML (ry:bn y u)(rx:bn x v)(fy:kx y=true)(fx:kx x=true):Xi A s u v (sY y x):=by
 cases y with
 | Ye=>
   cases ry
   cases x with
   | Ye=>cases rx;exact Xi.same _
   | bl b=>cases rx;exact Xi.none_bool b
   | int b=>let⟨t,rfl⟩:=rx;exact Xi.none_int b t
   | str b=>let⟨t,rfl⟩:=rx;exact Xi.none_str b t
   | _=>exact XS (show false=true from fx) R9
 | bl a=>
   cases ry
   cases x with
   | Ye=>cases rx;exact Xi.bool_none a
   | bl b=>cases rx;exact Xi.bool_bool a b
   | int b=>let⟨t,rfl⟩:=rx;exact Xi.bool_int a b t
   | str b=>let⟨t,rfl⟩:=rx;exact Xi.bool_str a b t
   | _=>exact XS (show false=true from fx) R9
 | int a=>
   let⟨t',rfl⟩:=ry;cases x with
   | Ye=>cases rx;exact Xi.int_none a t'
   | bl b=>cases rx;exact Xi.int_bool a t' b
   | int b=>let⟨t,rfl⟩:=rx;exact Xi.int_int a t' b t
   | str b=>let⟨t,rfl⟩:=rx;exact Xi.int_str a t' b t
   | _=>exact XS (show false=true from fx) R9
 | str a=>
   let⟨t',rfl⟩:=ry;cases x with
   | Ye=>cases rx;exact Xi.str_none a t'
   | bl b=>cases rx;exact Xi.str_bool a t' b
   | int b=>let⟨t,rfl⟩:=rx;exact Xi.str_int a t' b t
   | str b=>let⟨t,rfl⟩:=rx;exact Xi.str_str a t' b t
   | _=>exact XS (show false=true from fx) R9
 | _=>exact XS (show false=true from fy) R9
noncomputable def lM (x:V)(u:`aa):Bool:=match u with
 | .none=>sY .Ye x
 | .bool b=>sY (.bl b) x
 | .int i _=>sY (.int i) x
 | .str z _=>sY (.str z) x
 | _=>false
theorem B4 (r:bn y u)(f:kx y=true):lM x u=sY y x:=by
 cases y with
 | Ye=>cases r;rfl
 | bl b=>cases r;rfl
 | int i=>let⟨t,rfl⟩:=r;rfl
 | str z=>let⟨t,rfl⟩:=r;rfl
 | _=>exact XS (show false=true from f) R9
theorem mY {x:V}:∀{xs:`K}{us:RZ},Vals xs us->xs.all kx=true->us.any (lM x)=xs.any λy=>sY y x
 | _,_,.nil,_=>rfl
 | y::xs,u::us,.cons r t,f=>by
   rw[all_cons,Sa] at f;rw[Uy,Uy,B4 r f.1,mY t f.2]
theorem lL {A:Vu}{s:Vo}{x:V}{v:`aa}(rx:bn x v)(fx:kx x=true):∀{xs:`K}{us:RZ},Vals xs us->xs.all kx=true->∀u∈us,Xi A s u v (lM x u)
 | _,_,.nil,_=>λu hu=>by cases hu
 | y::xs,u::us,.cons r t,f=>λu' hu=>by
   rw[all_cons,Sa] at f;obtain rfl | hu:=SF.mp hu
   ·rw[B4 r f.1];exact ML r rx f.1 fx
   ·exact lL rx fx t f.2 u' hu
def Hf (x:V)(xs:`K):Bool:=xs.any λy=>sY y x
noncomputable def Pj (K:Xt)(neg:Bool):R2:=λx y H Q=>∃p xs,y= .ref p/\(bu K H p xs∨dY K H p xs)/\kx x=true/\xs.all kx=true/\Q (.bl (if neg then !Hf x xs else Hf x xs)) H
theorem vt:eW X (Vy .In) (Pj X.K false):=by
 intro X3 s σ H x y v u Q I rx ry h;let⟨p,xs,rfl,hq,fx,fs,q⟩:=h;cases ry
 obtain hq | hq:=hq
 ·let⟨X5,r,pl,hz⟩:=I.list hq;refine SeqAt.in_listAt (lM x) pl.isList (λw hw=>lL rx fx r fs w (~~~hw)) ⟨.bl _,H,I,rfl,?_⟩;rw[show X5.toArray.any (lM x)=X5.any (lM x) by simp,mY r fs];exact q
 ·let⟨X5,r,pl,hz⟩:=I.tuple hq;refine SeqAt.in_tupleAt (lM x) pl (λw hw=>lL rx fx r fs w (~~~hw)) ⟨.bl _,H,I,rfl,?_⟩;rw[show X5.toArray.any (lM x)=X5.any (lM x) by simp,mY r fs];exact q
theorem yB:eW X (Vy .NotIn) (Pj X.K true):=by
 intro X3 s σ H x y v u Q I rx ry h;let⟨p,xs,rfl,hq,fx,fs,q⟩:=h;cases ry
 obtain hq | hq:=hq
 ·let⟨X5,r,pl,hz⟩:=I.list hq;refine SeqAt.notIn_listAt (lM x) pl.isList (λw hw=>lL rx fx r fs w (~~~hw)) ⟨.bl _,H,I,rfl,?_⟩;rw[show X5.toArray.any (lM x)=X5.any (lM x) by simp,mY r fs];exact q
 ·let⟨X5,r,pl,hz⟩:=I.tuple hq;refine SeqAt.notIn_tupleAt (lM x) pl (λw hw=>lL rx fx r fs w (~~~hw)) ⟨.bl _,H,I,rfl,?_⟩;rw[show X5.toArray.any (lM x)=X5.any (lM x) by simp,mY r fs];exact q
theorem gN:fY X (.builtin "len") (λxs H Q=>∃p ys,xs=[.ref p]/\(bu X.K H p ys∨dY X.K H p ys)/\Q (.int ys.length) H):=by
 intro X3 s σ H xs us Q I r h;let⟨p,ys,rfl,hq,q⟩:=h;let⟨u,rfl,rx⟩:=vals1 r;cases rx
 let hn:=kW;obtain hq | hq:=hq
 ·let⟨X5,r',pl,hz⟩:=I.list hq;let hlen:=r'.length;exact Calls.call_len_list pl.isList (by simp only[SJ]<;>cbv) ⟨.int ys.length,H,I.tok _,⟨s.toks+1,by rw[SJ,hlen]⟩,q⟩
 ·let⟨X5,r',pl,hz⟩:=I.tuple hq;let hlen:=r'.length;exact len_tuple pl (by simp only[SJ]<;>cbv) ⟨.int ys.length,H,I.tok _,⟨s.toks+1,by rw[SJ,hlen]⟩,q⟩
theorem xh:fY X (.builtin "len") (λxs H Q=>∃z,xs=[.str z]/\z.length<=Vn/\Q (.int z.length) H):=by
 intro X3 s σ H xs us Q I r h;let⟨z,rfl,hz,q⟩:=h;let⟨u,rfl,t,rfl⟩:=vals1 r;let hn:=kW;exact len_str `a ⟨.int z.length,H,I.tok _,⟨_,rfl⟩,q⟩
theorem xH:fY X (.type "list") (λxs H Q=>∃p ys,xs=[.ref p]/\(bu X.K H p ys∨dY X.K H p ys)/\∀l,H l=none->Q (.ref l) (upd H l (.lst ys))):=by
 intro X3 s σ H xs us Q I r h;let⟨p,ys,rfl,hq,q⟩:=h;let⟨u,rfl,rx⟩:=vals1 r;cases rx
 let fin:∀(X5:RZ),Vals ys X5->ys.length<=Vn->∀(h':Heap)(c':Nat),(∀b o',s.heap.get? b∣o'->h'.get? b∣o')->
  h'.get? ⇑s=some {cls:=.type "list",dict:=none,data:=.seq X5.toArray c',slots:= #[]}->EP X X3 σ Q (.ref ⇑s) {s with heap:=h'}:=λX5 r' hz h' c' kp e=>
  ⟨.ref ⇑s,_,I.laid (t':=s.toks) kp (UJ _) (show c7 X.prog X.w _ h' _ (.lst ys) from⟨hz,X5,c',r',e⟩),rfl,q _ (I.X8.fresh (UJ _))⟩
 obtain hq | hq:=hq
 ·let⟨X5,r',pl,hz⟩:=I.list hq;let hlen:=r'.length;let⟨o,ho,hc,n,hd⟩:=pl.isList;exact call_list_seq p `aR ho hc hd (λh' c' kp e=>fin X5 r' hz h' c' kp e) (by simp only[SJ]<;>cbv)
 ·let⟨X5,r',pl,hz⟩:=I.tuple hq;let hlen:=r'.length;let⟨o,ho,hc,n,hd⟩:=pl;exact call_list_seq p (.inr rfl) ho hc hd (λh' c' kp e=>fin X5 r' hz h' c' kp e) (by simp only[SJ]<;>cbv)
noncomputable def M1 (K:Xt)(T:String)(x:V)(H:Hp):Prop:=match x with
 | .str _=>T="str"
 | .int _=>T="int"
 | .ref p=>(T="list"/\∃xs,bu K H p xs)∨(T="tuple"/\∃o,K.lookup p∣o/\o.cls= .type "tuple"/\o.dict=none)∨
  (T="dict"/\((∃kvs,H p∣.dK kvs)∨∃kvs,H p∣.dT kvs))∨(T="set"/\∃S n,H p∣.set S n)
 | _=>False
theorem BW (I:`h)(r:bn x v)(ty:M1 X.K T x H):
 s.TypeIs v T/\∀a,v= .ref a->∃ob,s.heap.get? a∣ob/\ob.dict=none:=by
 cases x with
 | str z=>
   let⟨t,rfl⟩:=r;cases (show T="str" from ty)
   exact⟨V7 s z t,λ_ e=>nomatch e⟩
 | int i=>
   let⟨t,rfl⟩:=r;cases (show T="int" from ty)
   exact⟨typeIs_int s i t,λ_ e=>nomatch e⟩
 | ref p=>
   cases r
   obtain⟨rfl,xs,hq⟩ | ⟨rfl,o,hk,hc,hd⟩ | ⟨rfl,hk⟩ | ⟨rfl,S,n,hk⟩:=ty
   ·let⟨X5,_,pl,_⟩:=I.list hq;refine⟨pl.isList.typeIs,λa e=>?_⟩;cases e
    let⟨o,n,e,c,hd,_⟩:=pl;exact⟨o,e,hd⟩
   ·refine⟨⟨o,I.gp p o hk,hc⟩,λa e=>?_⟩;cases e
    exact⟨o,I.gp _ o hk,hd⟩
   ·let z:∃o,s.heap.get? p∣o/\o.ExactDict:=by
     obtain⟨kvs,hk⟩ | ⟨kvs,hk⟩:=hk
     ·let⟨_,_,_,_,o,_,_,e,ex,_⟩:=I.X8 p _ hk;exact⟨o,e,ex⟩
     ·let⟨_,_,_,_,o,_,_,e,ex,_⟩:=I.X8 p _ hk;exact⟨o,e,ex⟩
    let⟨o,e,ex⟩:=z;refine⟨⟨o,e,ex.1⟩,λa e2=>?_⟩;cases e2
    exact⟨o,e,ex.2.1⟩
   ·let⟨o,_,_,_,e,ex,_⟩:=I.X8 p _ hk;refine⟨⟨o,e,ex.1⟩,λa e2=>?_⟩;cases e2
    exact⟨o,e,ex.2.1⟩
 | _=>exact Sg ty
def QO (K:Xt)(T:String)(r:V->List V->Hp->VK->Prop)(to:TE):TE:=λσ H Q=>to σ H λx H1=>M1 K T x H1/\r x [] H1 Q
def tBM (K:Xt)(T:String)(r:V->List V->Hp->VK->Prop)(to:TE)(t:TA):TE:=λσ H Q=>to σ H λx H1=>M1 K T x H1/\t σ H1 λxs H2=>r x xs H2 Q
variable {o:Expr}{es:R6}{to:TE}{t:TA}{name:Str}{apos Y0:Pos}{id:String}{r:V->List V->Hp->VK->Prop}
theorem Kh (pa:PlainAttrs T)(slot:Slot T name id)(hty:typeOf (.builtin id)=pure (.type "method_descriptor"))(hm:zm X id r)(ho:PE X o to)(Yd:fA X o name:=by rfl)(Yc:(apos.endLine==Y0.line)=true:=by rfl):PE X (.Call (.Attribute o name apos) [] [] Y0) (QO X.K T r to):=by
 intro X3 s σ H Q I h;refine wpAny_Call_method0_late Yd Yc (a7 (ho X3 s σ H _ I h) λv s1 ⟨x,H1,I1,r1,ty,q1⟩=>?_);let⟨h1,h2⟩:=BW I1 r1 ty;exact⟨T,id,pa,slot,hty,h1,h2,WT rfl (PySem.evalArgs_none (hm X3 s1 σ H1 x [] v [] Q I1 r1 .nil q1))⟩
theorem ie (pa:PlainAttrs T)(slot:Slot T name id)(hty:typeOf (.builtin id)=pure (.type "method_descriptor"))(hm:zm X id r)(ho:PE X o to)(ha:PA X (e::es) t)(Yd:fA X o name:=by rfl)(Yt:nk X Y0 (e::es):=by rfl)(Yc:(apos.endLine==Y0.line)=true:=by rfl)(hs:dk X e es:=by rfl)(hplain:eV X Y0 es:=by rfl):
 PE X (.Call (.Attribute o name apos) (e::es) [] Y0) (tBM X.K T r to t):=by
 intro X3 s σ H Q I h;refine wpAny_Call_method_late Yd Yt Yc rfl (a7 (ho X3 s σ H _ I h) λv s1 ⟨x,H1,I1,r1,ty,q1⟩=>?_);let⟨h1,h2⟩:=BW I1 r1 ty;refine⟨T,id,pa,slot,hty,h1,h2,?_⟩;let hA:=ha Y0 X3 s1 σ H1 _ I1 q1;rw[hs] at hA ⊢;refine WT (by show(false ||(Wd Y0 (Vt es X.env)).any (·.1))=false;rw[hplain]<;>rfl) (Calls.evalArgs_plain ?_)
 exact a7 hA λus s2 ⟨vs,H2,I2,r2,q2⟩=>hm X3 s2 σ H2 x vs v us Q I2 r1 r2 q2
end
def Gi (X:Cx)(id:String)(r:V->List V->Hp->VK->Prop):Prop:=
 ∀(X3:RR)(s:Vo)(σ:St)(H:Hp)(x:V)(xs:`K)(v:`aa)(us:RZ)(Q:VK),Inv X X3 σ H s->bn x v->Vals xs us->r x xs H Q->
  wpAny `f X.A (call (.builtin id) (v::us)) `bm X.xe s
theorem Vals.one:∀{x:V}{us:RZ},Vals [x] us->∃u,us=[u]/\bn x u
 | _,_,.cons r .nil=>⟨_,rfl,r⟩
theorem Vals.zero:∀{us:RZ},Vals [] us->us=[]
 | _,.nil=>rfl
theorem Vals.dropLast {xs:`K}{us:RZ}(h:Vals xs us):Vals xs.dropLast us.dropLast:=by
 induction h with
 | nil=>exact .nil
 | cons r t ih=>
   cases t with
   | nil=>exact .nil
   | cons q t'=>exact .cons r ih
theorem AS (l:`x):l.eraseIdx (l.length-1)=l.dropLast:=by
 induction l with
 | nil=>rfl
 | cons a r ih=>
   cases r with
   | nil=>rfl
   | cons b r=>
     let e:(a::b::r).length-1=((b::r).length-1)+1:=by
      let h1:(a::b::r).length=r.length+2:=rfl;let h2:(b::r).length=r.length+1:=rfl;cbv
     rw[e,List.eraseIdx_cons_succ,ih]
     all_goals rfl
variable {t':Nat}
section
variable {l b:Addr}{xs ys zs:`K}
theorem Inv.A8 {its':RZ}{f:Array Value->Array Value}(I:`h)(hH:H l∣.lst xs)(e:s.heap.get? l=some {cls:=.type "list",data:=.seq X5.toArray n})(hf:f X5.toArray=its'.toArray)(hv:Vals ys its')(hz:ys.length<=Vn):
 Inv X X3 σ (upd H l (.lst ys)) {s with heap:=s.heap.update l (Xf f),toks:=t'}:=by
 let q:=PySem.IsL.update e f;rw[hf] at q;refine I.write (x:=l) (e:=l) (by rw[hH];exact trivial) `aR (λb' u hb hu=>(Heap.get?_update_other s.heap (Xf f) (U8 hb)).trans hu) ⟨_,q⟩ ?_;exact⟨hz,its',_,hv,q⟩
theorem Inv.RP (I:`h)(hv:Vals ys X5)(hz:ys.length<=Vn):
 Inv X X3 σ (upd H ⇑s (.lst ys)) {s with heap:=s.heap.push {cls:=.type "list",data:=.seq X5.toArray},toks:=t'}:=
 I.laid (λ_ _ q=>W6 _ q) (UJ _) ⟨hz,X5,0,hv,W8 _ rfl⟩
theorem Inv.fresh (I:`h):H ⇑s=none:=I.X8.fresh (UJ _)
theorem Inv.oh (I:`h)(hH:H l∣.lst xs):xs.length<=Vn/\∃(X5:RZ)(n:Nat),Vals xs X5/\xs.length=X5.length/\s.heap.get? l=some {cls:=.type "list",data:=.seq X5.toArray n}:=by
 let⟨z,X5,n,r,e⟩:=I.X8 l _ hH;exact⟨z,X5,n,r,r.length,e⟩
theorem Ej (h:n<=Vn):WH n=false:=by
 unfold WH;exact XZ `a
end
def Hv:V->List V->Hp->VK->Prop:=λx vs H Q=>∃l xs y,x= .ref l/\vs=[y]/\H l∣.lst xs/\xs.length<Vn/\Q .Ye (upd H l (.lst (xs++[y])))
theorem iM:Gi X "list.append" Hv:=by
 intro X3 s σ H x vs v us Q I rx rv h;let⟨l,xs,y,rfl,rfl,hH,hz,q⟩:=h;cases rx
 let⟨u,rfl,ru⟩:=rv.one;let⟨z,X5,n,r,hl,e⟩:=I.oh hH;refine VW F.slot_list_append ⟨_,e,rfl⟩ F.entry_list_append (F.args_list_append_2 _ _) (PySem.list_append l X5.toArray n u (by rw[SJ];cbv)) ⟨e,?_⟩;refine⟨.Ye,_,I.A8 (its':=X5++[u]) hH e `d (r.append (.cons ru .nil)) ?_,rfl,q⟩;rw[Sx,S8];cbv
def Io:V->List V->Hp->VK->Prop:=λx vs H Q=>∃l b xs zs,x= .ref l/\vs=[.ref b]/\H l∣.lst xs/\H b∣.lst zs/\xs.length+zs.length<=Vn/\Q .Ye (upd H l (.lst (xs++zs)))
theorem D2:Gi X "list.extend" Io:=by
 intro X3 s σ H x vs v us Q I rx rv h;let⟨l,b,xs,zs,rfl,rfl,hH,hB,hz,q⟩:=h;cases rx
 let⟨u,rfl,ru⟩:=rv.one;cases ru
 let⟨z,X5,n,r,hl,e⟩:=I.oh hH;let⟨z2,ZQ,n2,r2,hl2,e2⟩:=I.oh hB;let hsz:X5.toArray.size+ZQ.toArray.size<=Vn:=by rw[SJ,SJ];cbv
 let hlong:¬(!X5.toArray.isEmpty&&WH (X5.toArray.size+ZQ.toArray.size))=true:=by
  rw[Ej hsz,Bool.and_false];exact R9
 refine VW F.slot_list_extend ⟨_,e,rfl⟩ F.entry_list_extend (F.args_list_extend_2 _ _)
  (AutoSeq1.list_extend_list_list_0 l X5.toArray n b ZQ.toArray n2 hlong (by rw[SJ];cbv) `a) ⟨e,e2,?_⟩
 refine⟨.Ye,_,I.A8 (its':=X5++ZQ) hH e `d (r.append r2) ?_,rfl,q⟩;rw[Sx];cbv
def Q7:V->List V->Hp->VK->Prop:=λx vs H Q=>∃l xs y,x= .ref l/\vs=[]/\H l∣.lst xs/\xs[xs.length-1]?∣y/\Q y (upd H l (.lst xs.dropLast))
theorem KW:Gi X "list.pop" Q7:=by
 intro X3 s σ H x vs v us Q I rx rv h;let⟨l,xs,y,rfl,rfl,hH,hy,q⟩:=h;cases rx
 let hus:=rv.zero;subst hus;let⟨z,X5,n,r,hl,e⟩:=I.oh hH;let⟨u,hu,ru⟩:=r.get hy;let hy':X5.toArray[X5.toArray.size-1]?∣u:=by
  show X5.toArray[X5.length-1]?∣u;rw[← Array.getElem?_toList,← hl];exact hu
 refine VW F.slot_list_pop ⟨_,e,rfl⟩ F.entry_list_pop (F.args_list_pop_1 _) (MeetsSeq.list_pop_last l X5.toArray n u hy' (by rw[SJ];cbv)) ⟨e,?_⟩;refine⟨y,_,I.A8 (its':=X5.dropLast) hH e ?_ r.dropLast ?_,ru,q⟩
 ·show X5.toArray.eraseIdxIfInBounds (X5.toArray.size-1)=X5.dropLast.toArray;rw[SJ,List.eraseIdxIfInBounds_toArray,AS]
 ·rw[T8];cbv
def Rt:R2:=λx y H Q=>∃l b xs zs,x= .ref l/\y= .ref b/\H l∣.lst xs/\H b∣.lst zs/\xs.length+zs.length<=Vn/\∀p,H p=none->Q (.ref p) (upd H p (.lst (xs++zs)))
theorem JT:eW X (VQ .Add) Rt:=by
 intro X3 s σ H x y v u Q I rx ry h;let⟨l,b,xs,zs,rfl,rfl,hH,hB,hz,q⟩:=h;cases rx
 cases ry
 let⟨z,X5,n,r,hl,e⟩:=I.oh hH;let⟨z2,ZQ,n2,r2,hl2,e2⟩:=I.oh hB;refine PySem.P.add_list e e2 ?_ (by rw[SJ,SJ];cbv);let ea:X5.toArray++ZQ.toArray=(X5++ZQ).toArray:=`d
 rw[ea];exact⟨.ref _,_,I.RP (t':=s.toks) (r.append r2) (by rw[Sx];cbv),rfl,q _ I.fresh⟩
variable {prog:Vr}{w:World}{E:`r}
variable {o:Option V}
section
variable {κ:Type} [DecidableEq κ]
variable {kvs:List (κ×V)}{vs:List (κ×Value)}
noncomputable def du (kvs:List (κ×V))(k:κ):Option V:=(kvs.find? λkv=>decide (kv.1=k)).map (·.2)
noncomputable def putK (kvs:List (κ×V))(k:κ)(v:V):List (κ×V):=
 if(kvs.any λkv=>decide (kv.1=k))=true then kvs.map (λkv=>if kv.1=k then(kv.1,v) else kv) else kvs++[(k,v)]
theorem dS {p:κ×V}{r:List (κ×V)}{k:κ}(e:p.1=k):du (p::r) k∣p.2:=by simp[du,T1,e]
theorem dD {p:κ×V}{r:List (κ×V)}{k:κ}(e:¬p.1=k):du (p::r) k=du r k:=by simp[du,T1,e]
theorem iE (k:κ):∀kvs:List (κ×V),`bo=(du kvs k).isSome
 | []=>rfl
 | p::r=>by
   rw[Uy];by_cases e:p.1=k
   ·simp only[dS e,XY e,Bool.true_or,Option.isSome_some]
   ·rw[dD e,XZ e,Bool.false_or];exact iE k r
theorem xo (k j:κ)(y:V):∀kvs:List (κ×V),du (kvs.map λkv=>if kv.1=k then(kv.1,y) else kv) j=(du kvs j).map λx=>if j=k then y else x
 | []=>rfl
 | p::r=>by
   let ih:=xo k j y r;rw[Ta];by_cases h:p.1=k
   ·rw[XU h];by_cases e:p.1=j
    ·rw[dS (p:=(p.1,y)) e,dS e,Vb,XU (e.symm.trans h)]
    ·rw[dD (p:=(p.1,y)) e,dD e,ih]
   ·rw[XT h];by_cases e:p.1=j
    ·rw[dS (p:=p) e,dS e,Vb,XT (λz=>h (e.trans z))]
    ·rw[dD (p:=p) e,dD e,ih]
theorem u7 (k j:κ)(y:V):∀kvs:List (κ×V),du kvs k=none->du (kvs++[(k,y)]) j=if j=k then some y else du kvs j
 | [],_=>by
   by_cases e:k=j
   ·rw[XU e.symm];exact dS (p:=(k,y)) e
   ·rw[XT (λz=>e z.symm)];exact dD (p:=(k,y)) e
 | p::r,hn=>by
   rw[Tz];let hk:¬p.1=k:=λz=>by rw[dS z] at hn;cases hn
   rw[dD hk] at hn;let ih:=u7 k j y r hn;by_cases e:p.1=j
   ·rw[dS e,dS e,XT (λz=>hk (e.trans z))]
   ·rw[dD e,dD e,ih]
theorem Fn (kvs:List (κ×V))(k j:κ)(y:V):du (putK kvs k y) j=if j=k then some y else du kvs j:=by
 unfold putK;by_cases a:`bo=true
 ·rw[XU a,xo];rw[iE] at a;by_cases e:j=k
  ·let⟨x,hx⟩:=Option.isSome_iff_exists.mp a;rw[XU e,e,hx,Vb,XU rfl]
  ·rw[XT e];cases du kvs j with
   | none=>rfl
   | some x=>rw[Vb,XT e]
 ·rw[XT a];refine u7 k j y kvs ?_;rw[iE] at a;cases q:du kvs k with
  | none=>rfl
  | some x=>rw[q] at a;exact(a rfl).elim
theorem mj (kvs:List (κ×V))(k:κ)(v:V):(putK kvs k v).length<=kvs.length+1:=by
 unfold putK;split
 ·rw[Ss];cbv
 ·rw[Sx,SE,S4];cbv
theorem rh {k:κ}(v:V)(h:du kvs k=none):putK kvs k v=kvs++[(k,v)]:=by
 unfold putK;rw[iE,h];exact XT `c
theorem jE.jZ {u:RX}(r:jE o u):o.isSome=u.isSome:=by
 cases o with
 | none=>cases u with
   | none=>rfl
   | some _=>exact(show False from r).elim
 | some _=>cases u with
   | none=>exact(show False from r).elim
   | some _=>rfl
theorem KV.val (r:KV kvs vs)(k:κ):jE (du kvs k) (VH vs k):=by
 unfold KV at r
 induction r with
 | nil=>exact XR
 | @cons p q ps qs h t ih=>
   let⟨h1,h2⟩:=h;by_cases e:p.1=k
   ·let e':q.1=k:=h1.symm.trans e;let b:VH (q::qs) k∣q.2:=by simp[VH,T1,e']
    rw[dS e,b];exact h2
   ·let e':¬q.1=k:=λz=>e (h1.trans z);let b:VH (q::qs) k=VH qs k:=by simp[VH,T1,e']
    rw[dD e,b];exact ih
theorem KV.any (r:KV kvs vs)(k:κ):`bo=vs.any λkv=>decide (kv.1=k):=by
 unfold KV at r
 induction r with
 | nil=>rfl
 | cons h t ih=>rw[Uy,Uy,ih,h.1]
theorem KV.repl (r:KV kvs vs)(k:κ)(ry:bn y u):
 KV (kvs.map λkv=>if kv.1=k then(kv.1,y) else kv) (vs.map λkv=>if kv.1=k then(kv.1,u) else kv):=by
 unfold KV at r ⊢
 induction r with
 | nil=>exact .nil
 | @cons p q ps qs h t ih=>
   rw[Ta,Ta];refine .cons ?_ ih;let⟨h1,h2⟩:=h;by_cases e:p.1=k
   ·rw[XU e,XU (h1.symm.trans e)];exact⟨h1,ry⟩
   ·rw[XT e,XT (λz=>e (h1.trans z))];exact⟨h1,h2⟩
theorem KV.put (r:KV kvs vs)(k:κ)(ry:bn y u):KV (putK kvs k y) (Wv vs k u):=by
 unfold putK Wv;rw[r.any k];by_cases e:(vs.any λkv=>decide (kv.1=k))=true
 ·rw[XU e,XU e];exact r.repl k ry
 ·rw[XT e,XT e];exact Paired.snoc r ⟨rfl,ry⟩
theorem KV.length (r:KV kvs vs):kvs.length=vs.length:=Paired.length r
end
variable {P:Vr}{H':Hp}
section
variable {kvs:List (List Key×V)}{xs:List (List Key×Addr×Value)}
theorem ku {k:Key}(r:bn (kV k) u):(cH P w).is k u=true:=by
 cases k with
 | inl i=>let⟨t,e⟩:=(show∃t,u=Xo i t from r);subst e;exact yE P w i t
 | inr x=>let⟨t,e⟩:=(show∃t,u=Xp x t from r);subst e;exact d6 P w x t
theorem va {P:Vr}{w:World}:∀{ks:List Key}{us:RZ},Vals (ks.map kV) us->ItemsAre (cH P w) ks us
 | [],_,r=>by rw[Uk] at r;cases r;exact .nil
 | k::ks,_,r=>by
   rw[Ta] at r;cases r with
   | cons h t=>exact .cons (ku h) (va t)
abbrev KT (H:Hp):List (List Key×V)->List (List Key×Addr×Value)->Prop:=Paired λp q=>p.1=q.1/\H q.2.1∣(.tup (p.1.map kV))/\bn p.2 q.2.2
theorem KT.val (r:KT H kvs xs)(k:List Key):jE (du kvs k) ((atKey xs k).map (·.2)):=by
 induction r with
 | nil=>exact XR
 | @cons p q ps qs h t ih=>
   let⟨h1,_,h2⟩:=h;by_cases e:p.1=k
   ·let e':q.1=k:=h1.symm.trans e;let b:atKey (q::qs) k∣q.2:=by simp[atKey,T1,e']
    rw[dS e,b];exact h2
   ·let e':¬q.1=k:=λz=>e (h1.trans z);let b:atKey (q::qs) k=atKey qs k:=by simp[atKey,T1,e']
    rw[dD e,b];exact ih
theorem KT.repl (r:KT H kvs xs)(k:List Key)(ry:bn y u):
 KT H (kvs.map λkv=>if kv.1=k then(kv.1,y) else kv) (xs.map (putAt k u)):=by
 induction r with
 | nil=>exact .nil
 | @cons p q ps qs h t ih=>
   rw[Ta,Ta];refine .cons ?_ ih;let⟨h1,h2,h3⟩:=h;unfold putAt;by_cases e:p.1=k
   ·rw[XU e,XU (h1.symm.trans e)];exact⟨h1,h2,ry⟩
   ·rw[XT e,XT (λz=>e (h1.trans z))];exact⟨h1,h2,h3⟩
theorem KT.put (r:KT H kvs xs)(k:List Key){b:Addr}(hb:H b∣(.tup (k.map kV)))(ry:bn y u):
 KT H (putK kvs k y) (storedH xs k b u):=by
 let e:`bo=(atKey xs k).isSome:=by
  rw[iE,(r.val k).jZ,Vc]
 unfold putK storedH;rw[e];by_cases q:(atKey xs k).isSome=true
 ·rw[XU q,XU q];exact r.repl k ry
 ·rw[XT q,XT q];exact Paired.snoc r ⟨rfl,hb,ry⟩
theorem KT.keeps (r:KT H kvs xs)(ht:∀b ys,H b∣.tup ys->H' b∣.tup ys):KT H' kvs xs:=
 Paired.Fm r λ_ _ z=>⟨z.1,ht _ _ z.2.1,z.2.2⟩
end
variable {kvs:List (Key×V)}{a:Addr}
section
variable {h:Heap}
theorem Gs {u:HO}(ok:eR P w H h)(e:Rd H a u):c7 P w H h a u:=e.ok ok
theorem qp (ok:eR P w H h)(e:Rd H a (.dK kvs)):kvs.length<=Vn/\(a==VD)=false/\∃vs,KV kvs vs/\h.DictOf (cH P w) a vs:=
 show c7 P w H h a (.dK kvs) from Gs ok e
theorem Av (ok:eR P w H h)(e:H a∣.dK kvs):kvs.length<=Vn/\(a==VD)=false/\∃vs,KV kvs vs/\h.DictOf (cH P w) a vs:=qp ok (.inl e)
theorem px {ks:List Key}(ok:eR P w H h)(e:H a∣(.tup (ks.map kV))):(Wm (cH P w)).is h ks a:=by
 let⟨_,X5,r,o,h1,h2,n,h3⟩:=(show c7 P w H h a (.tup (ks.map kV)) from ok a _ e);exact⟨o,X5.toArray,n,h1,h2,h3,by simpa using va r⟩
theorem sh {kvs:List (List Key×V)}(ok:eR P w H h)(e:Rd H a (.dT kvs)):kvs.length<=Vn/\(a==VD)=false/\
 ∃xs,KT H kvs xs/\h.DictOfH (Wm (cH P w)) a xs:=by
 let⟨z,y,xs,r,o,es,ep,h1,h2,h3,h4,h5⟩:=(show c7 P w H h a (.dT kvs) from Gs ok e);refine⟨z,y,xs,r,o,es,ep,h1,h2,h3,h4,λx hx=>?_,h5⟩;let all:∀{l:List (List Key×V)}{m:List (List Key×Addr×Value)},KT H l m->∀x∈m,(Wm (cH P w)).is h x.1 x.2.1:=by
  intro l m q
  induction q with
  | nil=>intro x hx;exact nomatch hx
  | @cons p q ps qs hq t ih=>
    intro x hx;obtain e | hx:=SF.mp hx
    ·subst e;exact px ok (by rw[← hq.1];exact hq.2.1)
    ·exact ih x hx
 exact all r x hx
theorem NG {kvs:List (List Key×V)}(ok:eR P w H h)(e:H a∣.dT kvs):kvs.length<=Vn/\(a==VD)=false/\
 ∃xs,KT H kvs xs/\h.DictOfH (Wm (cH P w)) a xs:=sh ok (.inl e)
end
noncomputable def iC (H:Hp)(a:Addr)(y:V)(r:Option V):Prop:=
 (∃kvs k,Rd H a (.dK kvs)/\y=kV k/\r=du kvs k)∨∃kvs k b,Rd H a (.dT kvs)/\y= .ref b/\H b∣(.tup (k.map kV))/\r=du kvs k
noncomputable def rC (H:Hp)(a:Addr)(y v:V)(H':Hp):Prop:=
 (∃kvs k,H a∣.dK kvs/\y=kV k/\kvs.length<Vn/\H'=upd H a (.dK (putK kvs k v)))∨
 ∃kvs k b,H a∣.dT kvs/\y= .ref b/\H b∣(.tup (k.map kV))/\kvs.length<Vn/\H'=upd H a (.dT (putK kvs k v))
theorem iC.k {H:Hp}{a:Addr}{kvs:List (Key×V)}{k:Key}(e:H a∣.dK kvs):iC H a (kV k) (du kvs k):=.inl ⟨kvs,k,.inl e,rfl,rfl⟩
theorem rC.k {H:Hp}{a:Addr}{kvs:List (Key×V)}{k:Key}{v:V}(e:H a∣.dK kvs)(hl:kvs.length<Vn):rC H a (kV k) v (upd H a (.dK (putK kvs k v))):=.inl ⟨kvs,k,e,rfl,hl,rfl⟩
variable {Q:`r}{h':Heap}
section
variable {v:V}{r:`aa}
theorem Inv.big (I:`h):VD<⇑s:=by
 let h:Vq<⇑s:=(I.mod.glob.keeps I.bk).lt;exact Nat.lt_trans `c h
theorem B1 (hu:A.units+1<cLine)(I:`h)(g:iC H a y (some v))(ry:bn y u)(h:∀w' s',Inv X X3 σ H s'->bn v w'->Q w' s'):
 wpAny `f A (V2 (.ref a) u) Q E s:=by
 obtain⟨kvs,k,e,ey,l⟩ | ⟨kvs,k,b,e,ey,eb,l⟩:=g
 ·subst ey;let⟨z,hd,vs,rel,dd⟩:=qp I.X8 e;let⟨w',hw,rw'⟩:=jE.some_of (v:=v) (o:=VH vs k) (by rw[l];exact rel.val k);exact wpAny_getItem_of (ku ry) dd.mapOf hw (h w' _ (I.tok _) rw')
 ·subst ey;cases (show u=Xm b from ry)
  let⟨z,hd,xs,rel,dd⟩:=sh I.X8 e;let⟨w',hw,rw'⟩:=jE.some_of (v:=v) (o:=(atKey xs k).map (·.2)) (by rw[l];exact rel.val k);let⟨p,hp,hp2⟩:=U9.mp hw;refine wpAny_getItem_heap (V1 hu) (px I.X8 eb) dd hp ?_;rw[hp2];exact h w' _ (I.tok _) rw'
theorem QN (hu:A.units+1<cLine)(I:`h)(g:iC H a y o)(ry:bn y u)(h:∀s',Inv X X3 σ H s'->Q (.bool o.isSome) s'):
 wpAny `f A (Vy .In u (.ref a)) Q E s:=by
 obtain⟨kvs,k,e,ey,l⟩ | ⟨kvs,k,b,e,ey,eb,l⟩:=g
 ·subst ey;let⟨z,hd,vs,rel,dd⟩:=qp I.X8 e;refine wpAny_in_of (ku ry) hd dd.mapOf ?_;rw[← (rel.val k).jZ,← l];exact h _ (I.tok _)
 ·subst ey;cases (show u=Xm b from ry)
  let⟨z,hd,xs,rel,dd⟩:=sh I.X8 e;refine wpAny_in_heap (V1 hu) (px I.X8 eb) hd dd ?_;let q:=(rel.val k).jZ;rw[Vc] at q;rw[← q,← l];exact h _ (I.tok _)
theorem Iy (hu:A.units+1<cLine)(I:`h)(g:iC H a y o)(ry:bn y u)(h:∀s',Inv X X3 σ H s'->Q (.bool (!o.isSome)) s'):
 wpAny `f A (Vy .NotIn u (.ref a)) Q E s:=by
 obtain⟨kvs,k,e,ey,l⟩ | ⟨kvs,k,b,e,ey,eb,l⟩:=g
 ·subst ey;let⟨z,hd,vs,rel,dd⟩:=qp I.X8 e;refine wpAny_notIn_of (ku ry) hd dd.mapOf ?_;rw[← (rel.val k).jZ,← l];exact h _ (I.tok _)
 ·subst ey;cases (show u=Xm b from ry)
  let⟨z,hd,xs,rel,dd⟩:=sh I.X8 e;refine wpAny_notIn_heap (V1 hu) (px I.X8 eb) hd dd ?_;let q:=(rel.val k).jZ;rw[Vc] at q;rw[← q,← l];exact h _ (I.tok _)
theorem pU {ob:HO}(I:`h)(mu:Ci (H a))(hs:Xa a s.heap h')(he:∃q,h'.get? a∣q)(new:c7 X.prog X.w (upd H a ob) h' a ob):
 Inv X X3 σ (upd H a ob) {s with heap:=h',toks:=t'}:=
 I.write (x:=a) (e:=a) mu `aR (λb q hb z=>(hs.2 b hb).trans z) he new
theorem xy {vs:List (Key×Value)}(z:kvs.length<=Vn)(hd:(a==VD)=false)(rel:KV kvs vs)(dd:h'.DictOf (cH P w) a vs):
 c7 P w H' h' a (.dK kvs):=⟨z,hd,vs,rel,dd⟩
theorem CQ {Q:Unit->Vo->Prop}(hu:A.units+1<cLine)(I:`h)(g:rC H a y v H')(ry:bn y u)(rv:bn v r)(h:∀s',Inv X X3 σ H' s'->Q () s'):
 wpAny `f A (setItem (.ref a) u r) Q E s:=by
 obtain⟨kvs,k,e,ey,l,eH⟩ | ⟨kvs,k,b,e,ey,eb,l,eH⟩:=g
 ·subst ey eH;let⟨z,hd,vs,rel,dd⟩:=Av I.X8 e;let hz:vs.length<=Vn:=by rw[← rel.length];exact z
  let hl:(putK kvs k v).length<=Vn:=by have:=mj kvs k v;cbv
  refine wpAny_setItem_pairs (hsz:=hz) (ku ry) dd λh' dd' hs=>h _ ?_;let he:∃q,h'.get? a∣q:=let ⟨q,_,_,hq,_⟩:=dd';⟨q,hq⟩;exact pU I (by rw[e];exact XR) hs he (xy hl hd (rel.put k rv) dd')
 ·subst ey eH;cases (show u=Xm b from ry)
  let⟨z,hd,xs,rel,dd⟩:=NG I.X8 e;let hz:xs.length<=Vn:=by rw[← Paired.length rel];exact z
  let hl:(putK kvs k v).length<=Vn:=by have:=mj kvs k v;cbv
  refine wpAny_setItem_heap (hsz:=hz) (V1 hu) (px I.X8 eb) dd λh' dd' hs=>h _ ?_;let⟨q,es,ep,hq,h2,h3,h4,_,h5⟩:=dd';refine pU I (by rw[e];exact XR) hs ⟨q,hq⟩ ⟨hl,hd,_,(rel.put k eb rv).keeps λc ys ec=>?_,q,es,ep,hq,h2,h3,h4,h5⟩;rw[aJ (NX ec e `bl)];exact ec
end
section
variable {k:Key}
theorem Pe (I:`h)(e:Rd H a (.dK kvs))(h:∀t s',Inv X X3 σ H s'->Q (.int kvs.length t) s'):wpAny `f A (call (.builtin "len") [.ref a]) Q E s:=by
 let⟨z,hd,vs,rel,dd⟩:=qp I.X8 e;refine call_len_dict hd dd (by rw[← rel.length];rw[Wc] at z;cbv) ?_;rw[← rel.length];exact h _ _ (I.tok _)
end
def Ee (i:Expr):Prop:=∀ov iv,Wr i false ov iv=operate [ov,iv] (V2 ov iv)
theorem HW {env:Env}{value slice:Expr}{id:String}(hl:typeLookup (.type T) "__getitem__"=pure (some (.builtin id)))(hs:Ee slice)(h:wpAny `z A (eval value env) (λo s₁=>wpAny `z A (eval slice env) (λi s₂=>s₂.TypeIs o T/\wpAny `z A (V2 o i) Q E s₂) E s₁) E s):
 wpAny `z A (eval (.Subscript value slice pos) env) Q E s:=by
 refine Subscript_ (VC h (λo s₁ h₁=>VC h₁ (λi s₂ h₂=>?_) λ_ _ x=>x) λ_ _ x=>x);let⟨hT,h₂⟩:=h₂;unfold Vm;refine Vp ?_;rw[getitemInPython_of_ne hT.not_modules];refine Vp (wpAny_specialOf hT hl ?_);let fin:wpAny `z A (Wr slice false o i) (λr s₃=>wpAny `z A (letTemporaryGo value o r >>=λ_=>pure r) Q E s₃) E s₂:=by
  rw[hs o i];exact wpAny_operating (VC h₂ (λr s₃ h₃=>Vp (wpAny_letTemporaryGo (Vs h₃))) λ_ _ x=>x)
 first
  | exact Vs (Vp fin)
  | exact Vp (Vs (Vp fin))
  | exact Vp fin
theorem yK (I:`h)(g:iC H a y o):s.TypeIs (.ref a) "dict":=by
 obtain⟨kvs,k,e,_,_⟩ | ⟨kvs,k,b,e,_,_,_⟩:=g
 ·let⟨_,_,vs,_,dd⟩:=qp I.X8 e;exact dd.typeIs
 ·let⟨_,_,xs,_,dd⟩:=sh I.X8 e;exact dd.typeIs
def O7 (td ty:TE):TE:=λσ H Q=>td σ H λx H1=>ty σ H1 λy H2=>∃a v,x= .ref a/\iC H2 a y (some v)/\Q v H2
def QX (ty td:TE):TE:=λσ H Q=>ty σ H λy H1=>td σ H1 λx H2=>∃a o,x= .ref a/\iC H2 a y o/\Q (.bl o.isSome) H2
def Ip (ty td:TE):TE:=λσ H Q=>ty σ H λy H1=>td σ H1 λx H2=>∃a o,x= .ref a/\iC H2 a y o/\Q (.bl (!o.isSome)) H2
def N8 (td ty tv:TE):TS:=λD σ H=>tv σ H λv H1=>td σ H1 λx H2=>ty σ H2 λy H3=>∃a H4,x= .ref a/\rC H3 a y v H4/\D.nx σ H4
section
variable {o i value:Expr}{pos' tpos:Pos}{td ty tv:TE}
theorem HN (hu:`bc)(ho:PE X o td)(hi:PE X i ty)(hs:Ee i):PE X (.Subscript o i pos) (O7 td ty):=by
 intro X3 s σ H Q I h;refine HW PySem.F.slot_dict_getitem.lookup hs (a7 (ho X3 s σ H _ I h) λu s1 ⟨x,H1,I1,rx,q1⟩=>a7 (hi X3 s1 σ H1 _ I1 q1) λiv s2 ⟨y,H2,I2,ry,a,v,ex,g,q2⟩=>?_);subst ex;obtain rfl:u=Xm a:=rx;exact⟨yK I2 g,B1 hu I2 g ry λw' s3 I3 rw'=>⟨v,H2,I3,rw',q2⟩⟩
theorem KY (hu:`bc)(hi:PE X i ty)(ho:PE X o td):PC X .In i o (QX ty td):=by
 intro X3 s σ H Q I h;refine a7 (hi X3 s σ H _ I h) λiv s1 ⟨y,H1,I1,ry,q1⟩=>a7 (ho X3 s1 σ H1 _ I1 q1) λu s2 ⟨x,H2,I2,rx,a,ov,ex,g,q2⟩=>?_;subst ex;obtain rfl:u=Xm a:=rx;exact QN hu I2 g ry λs3 I3=>⟨.bl ov.isSome,H2,I3,rfl,q2⟩
theorem lR (hu:`bc)(hi:PE X i ty)(ho:PE X o td):PC X .NotIn i o (Ip ty td):=by
 intro X3 s σ H Q I h;refine a7 (hi X3 s σ H _ I h) λiv s1 ⟨y,H1,I1,ry,q1⟩=>a7 (ho X3 s1 σ H1 _ I1 q1) λu s2 ⟨x,H2,I2,rx,a,ov,ex,g,q2⟩=>?_;subst ex;obtain rfl:u=Xm a:=rx;exact Iy hu I2 g ry λs3 I3=>⟨.bl (!ov.isSome),H2,I3,rfl,q2⟩
theorem uT (hu:`bc)(ho:PE X o td)(hi:PE X i ty)(hv:PE X value tv)(hs:Vv value (some (.Subscript o i pos')) pos.line X.env=pure false):
 PS X (.Assign [.Subscript o i pos'] value pos) (N8 td ty tv):=by
 intro X3 s σ H D I h;refine wpAny_Assign_Subscript (a7 (hv X3 s σ H _ I h) λr s1 ⟨v,H1,I1,rv,q1⟩=>a7 (ho X3 s1 σ H1 _ I1 q1) λu s2 ⟨x,H2,I2,rx,q2⟩=>a7 (hi X3 s2 σ H2 _ I2 q2) λiv s3 ⟨y,H3,I3,ry,a,H4,ex,g,q3⟩=>?_) hs;subst ex;obtain rfl:u=Xm a:=rx;exact CQ hu I3 g ry rv λs4 I4=>⟨σ,H4,I4,q3⟩
end
theorem wx (h:Heap)(hb:VD<h.objs.size):c7 P w H (h.push {cls:=.type "dict",data:=.dict #[]}) h.objs.size (.dK []):=
 ⟨UL _,beq_eq_false_iff_ne.mpr (U8 (UO hb)),[],.nil,Heap.DictOf.new h⟩
def Mh:TE:=λ_ H Q=>∀p,H p=none->Q (.ref p) (upd H p (.dK []))
theorem FE:PE X (.Dict [] [] pos) Mh:=λX3 s σ H Q I h=>
 wpAny_Dict_empty ⟨.ref ⇑s,_,I.laid (a:=⇑s) (o:=.dK []) (t':=s.toks) (λ_ _ q=>W6 _ q) (UJ _) (wx s.heap I.big),rfl,h _ (I.X8.fresh (UJ _))⟩
variable {trs:List (TE×TE)}
noncomputable def yc:List (TE×TE)->St->Hp->(List (V×V)->Hp->Prop)->Prop
 | [],_,H,Q=>Q [] H
 | (tk,tv)::r,σ,H,Q=>tk σ H λx H1=>tv σ H1 λy H2=>yc r σ H2 λps H3=>Q ((x,y)::ps) H3
abbrev VV:List (V×V)->List (Value×Value)->Prop:=Paired λp q=>bn p.1 q.1/\bn p.2 q.2
def GQ (X:Cx)(pos:Pos)(keys:List (Option Expr))(values:R6)(trs:List (TE×TE)):Prop:=
 ∀(X3:RR)(s:Vo)(σ:St)(H:Hp)(Q:List (V×V)->Hp->Prop),Inv X X3 σ H s->yc trs σ H Q->
  wpAny `f X.A (evalPairs (pairTrees keys values X.env pos)) (λvs s'=>∃ps H',Inv X X3 σ H' s'/\VV ps vs/\Q ps H') X.xe s
theorem HU:GQ X pos [] [] []:=λX3 s σ H Q I h=>pairTrees_nil_walk ⟨[],H,I,.nil,h⟩
theorem xG {k v:Expr}{ks:List (Option Expr)}{vs:R6}{tk tv:TE}(hk:PE X k tk)(hv:PE X v tv)(hr:GQ X pos ks vs trs):
 GQ X pos (some k::ks) (v::vs) ((tk,tv)::trs):=λX3 s σ H Q I h=>
 pairTrees_cons_walk (a7 (hk X3 s σ H _ I h) λu s1 ⟨x,H1,I1,rx,q1⟩=>a7 (hv X3 s1 σ H1 _ I1 q1) λw2 s2 ⟨y,H2,I2,ry,q2⟩=>
  a7 (hr X3 s2 σ H2 _ I2 q2) λws s3 ⟨ps,H3,I3,rel,q3⟩=>⟨(x,y)::ps,H3,I3,.cons ⟨rx,ry⟩ rel,q3⟩)
noncomputable def nu (kvs more:List (Key×V)):List (Key×V):=more.foldl (λacc kv=>putK acc kv.1 kv.2) kvs
theorem KV.merge:∀{more:List (Key×V)}{rs:List (Key×Value)}{kvs:List (Key×V)}{vs:List (Key×Value)},KV more rs->KV kvs vs->KV (nu kvs more) (merged vs rs):=by
 intro more rs kvs vs r;unfold KV at r
 induction r generalizing kvs vs with
 | nil=>intro q;exact q
 | @cons p q ps qs h t ih=>
   intro r0;let e:KV (putK kvs p.1 p.2) (Wv vs q.1 q.2):=by
    have:=r0.put p.1 h.2;rw[← h.1];exact this
   exact ih e
theorem oy:∀(more kvs:List (Key×V)),(nu kvs more).length<=kvs.length+more.length
 | [],kvs=>by show kvs.length<=kvs.length+0;cbv
 | p::r,kvs=>by
   let h1:=oy r (putK kvs p.1 p.2);let h2:=mj kvs p.1 p.2;show(nu (putK kvs p.1 p.2) r).length<=_;rw[SE];cbv
theorem sr {P:Vr}{w:World}:∀{kvs:List (Key×V)}{ws:List (Value×Value)},VV (kvs.map λkv=>(kV kv.1,kv.2)) ws->∃rs,Carries (cH P w) ws rs/\KV kvs rs
 | [],_,r=>by rw[Uk] at r;cases r;exact⟨[],XR,.nil⟩
 | p::kvs,_,r=>by
   rw[Ta] at r;cases r with
   | @cons a b as bs h t=>
     let⟨rs,c,q⟩:=sr (P:=P) (w:=w) t;let⟨b1,b2⟩:=b;exact⟨(p.1,b2)::rs,⟨ku h.1,rfl,c⟩,.cons ⟨rfl,h.2⟩ q⟩
noncomputable def OP (trs:List (TE×TE)):TE:=λσ H Q=>∀p,H p=none->yc trs σ (upd H p (.dK [])) λps H2=>H2 p∣(.dK [])/\∃kvs:List (Key×V),ps=kvs.map (λkv=>(kV kv.1,kv.2))/\kvs.length<=15/\Q (.ref p) (upd H2 p (.dK (nu [] kvs)))
theorem HB {keys:List (Option Expr)}{values:R6}(h:GQ X pos keys values trs)(hall:keys.all (·.isSome)=true)(hl:keys.length=values.length)(h0:keys≠[])(h15:keys.length<=15):PE X (.Dict keys values pos) (OP trs):=by
 intro X3 s σ H Q I q;let hn:=I.X8.fresh (UJ ⇑s);let I1:=I.laid (a:=⇑s) (o:=.dK []) (h':=s.heap.push {cls:=.type "dict",data:=.dict #[]}) (t':=s.toks) (λ_ _ q=>W6 _ q) (UJ _) (wx s.heap I.big);refine wpAny_Dict_walk (knd:=cH X.prog X.w) hall hl h0 h15 (a7 (h X3 _ σ _ _ I1 (q _ hn)) λws s2 ⟨ps,H2,I2,rel,e,kvs,ep,lk,q2⟩=>?_);subst ep;let⟨rs,c,rk⟩:=sr (P:=X.prog) (w:=X.w) rel;let⟨z,hd,vs0,r0,dd⟩:=Av I2.X8 e;cases r0
 refine⟨rs,c,dd,λh' dd' hs=>⟨.ref ⇑s,_,?_,rfl,q2⟩⟩;let hz:(nu [] kvs).length<=Vn:=by
  let h1:=oy kvs [];rw[S4] at h1;rw[Wc];cbv
 let he:∃q,h'.get? ⇑s∣q:=let ⟨q,_,_,hq,_⟩:=dd';⟨q,hq⟩;exact pU I2 (by rw[e];exact XR) hs he (xy hz hd (rk.merge .nil) dd')
structure M2 (X:Cx)(o:Expr)(m:Str)(apos:Pos)(e f:Expr)(Y0:Pos):Prop where
 base:WA o m X.env (eval o X.env)=eval o X.env
 few:((Wd Y0 (Vt [e,f] X.env)).all (λx=> !x.1)&&(backToKw Y0 (keywordEach [] X.env)).all (λx=>x.1.isSome)
  &&decide (([e,f]:R6).length+([]:List Wi).length+(if([]:List Wi).isEmpty then 0 else 1)<30))=true
 line:(apos.endLine==Y0.line)=true
 trees:Wd Y0 (Vt [e,f] X.env)=[(false,eval e X.env),(false,eval f X.env)]
section
variable {d:V}{r:`aa}
end
section
variable {o f:Expr}{apos Y0:Pos}{td ty tx:TE}
end
end L2
namespace Att
open PySem PySem.W PySem.Calls PyProof.Rows
variable {P:Params}{h:Heap}
theorem sF :∀(ns:RS)(vs:RZ),WellAll P h vs (ns.map WData.int)->IntsAre vs ns:=by
 intro ns
 induction ns with
 | nil=>
   intro vs w;rw[Uk] at w;cases w
   exact .nil
 | cons n ns ih=>
   intro vs w;rw[Ta] at w;cases w with
   | cons a b=>
     cases a
     exact .cons _ _ (ih _ b)
theorem Dp {l:OpenLaw}{n:Nat}(hn:l.most∣n){args:List WData}{vals:RZ}(hpre:l.row.toRowW.claim.pre args=true)(hwl:WellAll P h vals args):
 ∃a vs ns,vals=[Xm a]/\args=[WData.list (ns.map WData.int)]/\h.get? a=some {cls:=.type "list",data:=.seq vs.toArray}/\IntsAre vs ns/\ns.length<=n:=by
 let hsh:WShape.hasAll [] args [.list .int]=true:=(pre_splitW hpre).1;let hc:l.pre.holds [] {args:=args}=true:=(pre_splitW hpre).2;let⟨d,r,rfl,h1,h2⟩:=hasAllW_cons hsh;obtain rfl:=hasAllW_nil h2;let⟨xs,rfl,h3⟩:=hasW_list h1;let⟨ns,rfl⟩:=items_int h3;let hlen:ns.length<=n:=by
  unfold OpenLaw.pre at hc;let h4:(WTm.not (.lt (.lit (.int (n:Int))) (.len (.arg 0)))).holds [] {args:=[.list (ns.map .int)]}=true:=by
   let h4:=(holds_andW hc).1;rw[hn] at h4;exact h4
  let h5:=condW_of h4 (w_not (w_lt w_lit (w_len_list (w_arg rfl))));rw[Ss] at h5;refine Nat.le_of_not_lt λq=>?_;let q':(n:Int)<((ns.length:Nat):Int):=`a
  first
   | (rw[XY q'] at h5;exact XS h5 `c)
   | (simp at h5;cbv)
 cases hwl with
 | cons w1 w2=>
   cases w2
   cases w1 with
   | list ho hall=>exact⟨_,_,ns,rfl,rfl,ho,sF ns _ hall,hlen⟩
theorem BM (l:OpenLaw)(args:List WData):l.row.toRowW.claim.post args (.bool true) args=true:=
 postW_of (r:=l.row.toRowW) (X:=(true==true))
  (show WShape.has [] (.bool true) .bool=true by first | rfl | decide | simp[WShape.has,WShape.arms,WShape.armsAll])
  (show(WTm.eq .res (.lit (.bool true))).value [] {args:=args,res:=some (.bool true),after:=args}∣(.bool (true==true)) from w_eq_bool (w_res rfl) w_lit) rfl
section
variable {prog:Vr}{w:World}{A:Vu}{E:`r}{s:Vo}{K:Frag}
end
end Att
namespace L2
open PySem PySem.Spec PyProof.Rows
theorem vc:∀{vs:RZ}{ns:RS},IntsAre vs ns->Vals (ns.map V.int) vs
 | _,_,.nil=>.nil
 | _,_,.cons n t h=>.cons ⟨t,rfl⟩ (vc h)
def Fp (H:Hp):Prop:=∀b,H b=none∨∃o xs,H b∣(.YY o (.lst xs))
variable {P:Vr}{w:World}{K:Xt}{mg:RQ}{fd:Vw}{sp:Sp}
theorem FP {mb:RQ}{CX:ox}{k:Nat}{fa a:Addr}{x:Str}{s₁:Vo}{vs:RZ}{ns:RS}(KX:K.In s₁.heap)(hns:s₁.heap.Ns Vq mg)(hb:s₁.heap.Ns builtinsNs mb)(hbb:∀x:Str,x≠"__name__"->mb x=VM x)(hlim:s₁.heap.NoLimit)(hg:s₁.gens= #[])(ha:s₁.heap.get? a=some {cls:=.type "list",data:=.seq vs.toArray})(hi:IntsAre vs ns)(hl:ns.length<=Vn)(hr:bH k Wj)(F:∀base:Heap,K.In base->base.Ns Vq mg->eZ P w K mg base CX k fa fd [x] sp)(hbind:∀(s:Vo)(u:`aa),Wu s fd ⟨[u],[]⟩ [(x,u)])(ZJ:∀H:Hp,Fp H->bu K H a (ns.map V.int)->sp [.ref a] H (λv _=>v= .bl true) λ_ _ _=>False)(hCX:∀H e s',CX [] H s₁ (λ_ _ _=>False) e s'->False):
 Wb (model P w) Wj (.call (.ref fa) ⟨[.ref a],[]⟩) `aK s₁:=by
 let rv:=vc hi;let lenV:=hi.length
 let core:∀H:Hp,Fp H->bu K H a (ns.map V.int)->eR P w H s₁.heap->(∀b,H b≠none->b=a)->(H a≠none->K.lookup a=none)->
  Wb (model P w) Wj (.call (.ref fa) ⟨[.ref a],[]⟩) `aK s₁:=by
  intro H hO hS X8 hA hK;let base_of:∀{b:Addr}{o:Obj},s₁.heap.get? b∣o->H b=none->(nK s₁.heap H).get? b∣o:=λe n=>F8 e n;let noA:∀{b:Addr}{o:Obj}{es:Array DictEntry}{ep:Nat},s₁.heap.get? b∣o->o.data= .dict es ep->H b=none:=λ{b o es ep} e d=>by
   cases q:H b with
   | none=>rfl
   | some u=>
     let e':b=a:=hA b (by rw[q];simp);subst e';rw[ha] at e;cases e
     let d':Data.seq vs.toArray _=Data.dict es ep:=d;cases d'
  let nsK:∀{b:Addr}{m:RQ},s₁.heap.Ns b m->(nK s₁.heap H).Ns b m:=λ{b m} ⟨o,es,ep,e,d,r⟩=>⟨o,es,ep,base_of e (noA e d),d,r⟩;let hKb:K.In (nK s₁.heap H):=λb o e=>base_of (KX b o e) (by
   cases q:H b with
   | none=>rfl
   | some u=>
     let e':b=a:=hA b (by rw[q];simp);subst e';rw[hK (by rw[q];simp)] at e;cases e)
  let hM:Mod K mg (nK s₁.heap H):=⟨hKb,nsK hns,⟨mb,nsK hb,hbb⟩,let ⟨mc,h1,h2⟩:=hlim;⟨mc,nsK h1,h2⟩⟩;let e0:qS P w K mg (nK s₁.heap H) Wj [] s₁ H:=⟨rfl,hM,λb o e=>JE e,U7 (BQ _ _),trivial,λb hb=>XS (show b∈([]:RY) from hb) `d,X8,.of_eq hg⟩;refine Wl ((F _ hKb (nsK hns)).run Wj [] s₁ H ⟨[.ref a],[]⟩ [.ref a] [.ref a] _ _ hr e0 (hbind s₁ (.ref a)) (.cons rfl .nil) (ZJ H hO hS)) λr s' h=>?_;cases r with
  | error e=>exact(hCX H e s' h).elim
  | ok fl=>
    cases fl with
    | next=>exact Sg h
    | brk=>exact Sg h
    | cont=>exact Sg h
    | ret u=>
      let⟨v,H',os,bare,un,hok',r',q⟩:=h;let q':v= .bl true:=q;subst q';obtain rfl:u=Xq true:=r';refine⟨rfl,OldK.of_keep λb o e=>?_,os,bare⟩;cases q:H b with
      | none=>exact un.keep b o e q (by intro z;exact XS (show b∈([]:RY) from z) `d) `d
      | some u=>
        obtain z | ⟨ob,xs,z⟩:=hO b
        ·rw[q] at z;cases z
        ·let z2:=un.Ze b ob _ z;let⟨e1,_⟩:=X8 b _ z;let⟨e2,_⟩:=hok' b _ z2;rw[e] at e1;cases e1
         exact e2
 cases hk:K.lookup a with
 | some o=>
   let e:=KX a o hk;rw[ha] at e;cases e
   refine core (λ_=>none) (λ_=>.inl rfl) (.inr ⟨_,vs.toArray,_,hk,rfl,rfl,rfl,by rw[SJ,lenV];exact hl,by simpa using rv⟩) (λb u z=>by let z':(none:Option HO)∣u:=z;cases z') (λb z=>XS rfl z) λz=>XS rfl z
 | none=>
   refine core (λb=>if b=a then some (.YY {cls:=.type "list",data:=.seq vs.toArray} (.lst (ns.map V.int))) else none) (λb=>?_) (.inl (.inr ⟨{cls:=.type "list",data:=.seq vs.toArray},XU rfl⟩)) (λb u z=>?_) (λb z=>?_) λ_=>hk
   ·by_cases hb:b=a
    ·exact .inr ⟨_,_,XU hb⟩
    ·exact .inl (XT hb)
   ·by_cases hb:b=a
    ·let z':=(XU hb).symm.trans z;cases z'
     subst hb;exact⟨ha,by rw[Ss];exact hl,vs,_,rv,ha⟩
    ·let z':=(XT hb).symm.trans z;cases z'
   ·by_cases hb:b=a
    ·exact hb
    ·exact XS (XT hb) z
abbrev qK {K:Xt}{h:Heap}(_:K.In h):Xt:=K
noncomputable def fq (s:Stmt):Arguments:=match s with
 | .FunctionDef _ a _ _ _ _ _ _ _ _=>a
 | _=>{posonlyargs:=[],args:=[],vararg:=none,kwonlyargs:=[],kw_defaults:=[],kwarg:=none,defaults:=[]}
noncomputable def bF (s:Stmt):List Stmt:=match s with
 | .FunctionDef _ _ b _ _ _ _ _ _ _=>b
 | _=>[]
noncomputable def ao (s:Stmt):Scope:=match s with
 | .FunctionDef _ _ _ _ _ _ sc _ _ _=>sc
 | _=>{kind:=.function,names:=[],isGenerator:=false,isCoroutine:=false}
abbrev d7:ox:=λ_ _ _ _ _ _=>False
abbrev E0:XK:=λ_ _ _=>False
variable {X:Cx}
theorem jO :Passes d7 X E0:=λ_ _ _ _ _ _ _ h=>h.elim
structure dw (K:Xt)(x qual:Str)(st:Stmt)(f:Addr)(fd:Vw):Prop where
 ex:∃(oc:`aa)(od:Option Addr)(kV doc pm:`aa)(an:Option Addr)(X6 ct:`aa)(ZN:Array RX),
  fd=Xz x qual (fq st) (bF st) (ao st) .none kV doc pm an X6 ct/\K.lookup f∣⟨oc,od,.func fd,ZN⟩/\XD K X6 qual=true
 kp:Xy K (.ref f)=true
variable {ps:RU}
section
variable {base:Heap}
variable {x qual:Str}{st:Stmt}{f:Addr}
theorem dw.ok {N:RU}{k:Nat}(F:`bK)(S:bD N ps (ao st))(len:∀vs H Q E,sp vs H Q E->vs.length=ps.length)(Yn:∀(X6:`aa)(A:Vu)(outer:List Env)(s:Vo)(H:Hp)(vs:`K)(Q:VK)(E:XK),bH k `ad->sp vs H Q E->
  ∃t,lN (eE d7 P w K mg base N qual (ao st) f X6 A outer s H E).gP (bF st) t/\t {nx:=λ_ H'=>Q .Ye H',rt:=Q} (start N vs) H):eZ P w K mg base d7 (k+1) f fd ps sp:=by
 let⟨oc,od,kV,doc,pm,an,X6,ct,ZN,rfl,lk,Z4⟩:=F.ex;refine OR lk Z4 S len λA outer s H vs Q E hr ZJ=>?_;let⟨t,h,q⟩:=Yn X6 A outer s H vs Q E hr ZJ;exact⟨t,h.gP,q⟩
theorem dw.binds (F:`bK)(h:∀(kV doc pm:`aa)(an:Option Addr)(X6 ct:`aa)(us:RZ),us.length=ps.length->bindArgs (Xz x qual (fq st) (bF st) (ao st) .none kV doc pm an X6 ct) ⟨us,[]⟩=pure (ps.zip us)):be K fd ps []:=by
 let⟨oc,od,kV,doc,pm,an,X6,ct,ZN,rfl,lk,Z4⟩:=F.ex;exact .all (h kV doc pm an X6 ct)
theorem lC {oc:`aa}{od an:Option Addr}{ZN:Array RX}{kV doc pm X6 ct:`aa}(l:K.lookup f∣⟨oc,od,.func (Xz x qual (fq st) (bF st) (ao st) .none kV doc pm an X6 ct),ZN⟩)(c:XD K X6 qual=true)(k:Xy K (.ref f)=true):dw K x qual st f (Xz x qual (fq st) (bF st) (ao st) .none kV doc pm an X6 ct):=⟨⟨oc,od,kV,doc,pm,an,X6,ct,ZN,rfl,l,c⟩,k⟩
end
variable {H H':Hp}
theorem pH {A B:Prop}(h:B):if false=true then A else B:=by
 rw[XT R9];exact h
theorem oJ {A B:Prop}(h:A):if true=true then A else B:=by
 rw[XU rfl];exact h
def av (H H':Hp):Prop:=∀b o,H b∣o->H' b∣o
theorem av.refl (H:Hp):av H H:=λ_ _ h=>h
theorem av.trans {H1 H2:Hp}(a:av H H1)(b:av H1 H2):av H H2:=λc o h=>b c o (a c o h)
theorem av.free (e:av H H'){l:Addr}(h:H' l=Option.none):H l=Option.none:=by
 cases q:H l with
 | none=>rfl
 | some o=>
   rw[e l o q] at h;cases h
theorem av.seq {a:Addr}{xs:`K}(e:av H H')(h:bu K H a xs):bu K H' a xs:=by
 obtain (h | ⟨o,h⟩) | h:=h
 ·exact .inl (.inl (e _ _ h))
 ·exact .inl (.inr ⟨o,e _ _ h⟩)
 ·exact .inr h
theorem vh:fY X (.builtin "len") (λxs H Q=>∃a kvs,xs=[V.ref a]/\H a∣.dK kvs/\Q (.int kvs.length) H):=by
 intro X3 s σ H xs us Q I r h;let⟨a,kvs,rfl,ha,q⟩:=h;let⟨u,rfl,ru⟩:=vals1 r;cases ru
 exact Pe I (.inl ha) λt s' I'=>⟨.int kvs.length,H,I',⟨t,rfl⟩,q⟩
section
variable {κ:Type} [DecidableEq κ]
theorem jF:∀{l:List κ}{k:κ},l.Nodup->¬k∈l->(l++[k]).Nodup
 | [],k,_,_=>`d
 | a::r,k,h,hk=>by
   let⟨h1,h2⟩:=S5.mp h;show(a::(r++[k])).Nodup;refine S5.mpr ⟨λm=>?_,jF h2 λm=>hk (SF.mpr (Or.inr m))⟩;obtain q | q:=SK.mp m
   ·exact h1 q
   ·exact hk (SF.mpr (Or.inl (Su.mp q).symm))
end
variable {X3:RR}{σ:St}
section
variable {elt target iter:Expr}{scope:Scope}{pos:Pos}{s:Vo}{fr:RU}{ix:List Nat}{wi:TI}{g:TG}{tc:TT}{te:TE}
def a8 (X:Cx)(scope:Scope)(cl:`aA)(C:Addr)(N':RU)(s:Vo)(H:Hp)(ex:RY):Cx:=
 {X with N:=N',s₀:=s,H₀:=H,env:=compEnvC scope cl C X.env,outer:=X.stack,stack:=X.stack,ex:=ex,fn:=λ_=>false,pn:=[],xe:=λ_ _=>False}
noncomputable def PF (X:Cx)(ifs:R6)(t:TT):Prop:=
 ∀(X3:RR)(s:Vo)(σ:St)(H:Hp)(Q:Bool->Hp->Prop),Inv X X3 σ H s->t σ H Q->
  wpAny `f X.A (forIn ifs true λc r=>if r=true then do let ok ← VZ c X.env (eval c X.env);pure (Sh ok) else pure (Sh r)) (TP X X3 σ Q) X.xe s
def RJ:TT:=λ_ H Q=>Q true H
theorem DT:PF X [] RJ:=by
 intro X3 s σ H Q I h;exact Vs ⟨H,I,h⟩
theorem Lv {c:Expr}{t:TT}(hc:PT X c t):PF X [c] t:=by
 intro X3 s σ H Q I h;show wpAny _ _ (forIn [c] true λc r=>_) _ _ s;rw[UC];simp only[if_true,forIn_nil];refine Vp (Vp (VC (hc X3 s σ H Q I h) (λb s1 h1=>?_) λ_ _ e=>e));exact Vs (Vs h1)
theorem wY {prog:Vr}{A:Vu}{R:Result->Vo->Prop}{ifs:R6}{it acc:`aa}{env:Env}(I:Nat->Vo->Prop)(turn:∀n s,I n s->wpAny `z A (Ws it) (λr s₁=>match r with
  | none=>R (.ok .next) s₁
  | some v=>wpAny `z A (V5 target it v) (λ_ s₁'=>wpAny `z A (VT target env v) (λ_ s₂=>
   wpAny `z A (forIn ifs true λc r=>if r=true then do let ok ← VZ c env (eval c env);pure (Sh ok) else pure (Sh r)) (λok s₃=>
    if ok=true then wpAny `z A (eval elt env) (λx s₄=>
     wpAny `z A (call (.builtin "list.append") [acc,x]) (λ_ s₅=>∃m,m<n/\I m s₅) (λ_ _=>False) s₄) (λ_ _=>False) s₃
    else∃m,m<n/\I m s₃) (λ_ _=>False) s₂) (λ_ _=>False) s₁') (λ_ _=>False) s₁) (λ_ _=>False) s)(n:Nat)(h:I n s):
 Wb `z A (.compLoop `J 0 it acc env) R s:=by
 let no:∀{α:Type}{t:Sem α}{Q:α->Vo->Prop}{E:`r}{s:Vo},wpAny `z A t Q (λ_ _=>False) s->wpAny `z A t Q E s:=λh=>VC h (λ_ _ q=>q) λ_ _ f=>f.elim;refine codeAny_loop rfl I (λn s hI=>?_) n h;show wpAny _ A ((compTurn `J 0 it acc env).onRaise (λx=>do noteFrame x env;theTreesLotGoes x)) _ _ s;refine wpAny_noted ?_;rw[compTurn_list];refine Vp (WB (Vp (VC (no (turn n s hI)) (λr s₁ h₁=>?_) λ_ _ h'=>h')));cases r with
 | none=>exact Vs h₁
 | some v=>
   refine Vp (VC (no h₁) (λ_ s₁' h₁'=>?_) λ_ _ h'=>h');refine Vp (VC (no h₁') (λ_ s₂ h₂=>Vp (VC (no h₂) (λok s₃ h₃=>?_) λ_ _ h'=>h')) λ_ _ h'=>h');cases ok with
   | false=>exact Vs ⟨rfl,h₃⟩
   | true=>
     exact Vp (Vp (VC (no h₃) (λx s₄ h₄=>Vp (VC (no h₄) (λ_ s₅ h₅=>Vs (Vs ⟨rfl,h₅⟩)) λ_ _ h'=>h')) λ_ _ h'=>h'))
noncomputable def Bf (wi:TI)(g:TG)(tc:TT)(te:TE)(z:St->St):TE:=λσ H Q=>wi σ H λJ H1=>
 ∃W:Nat->Nat->List V->St->Hp->Prop,(∃m,W 0 m [] (z σ) H1)/\∀i m ys σ' H',W i m ys σ' H'->
  ys.length<=Vn/\(`aC∨
  (J.go i H'/\∀x H2,J.yld i H' x H2->g x σ' H2 λσ2 H3=>tc σ2 H3 λb H4=>
    if b=true then te σ2 H4 λv H5=>∃m',m'<m/\W (i+1) m' (ys++[v]) σ2 H5 else∃m',m'<m/\W (i+1) m' ys σ2 H4))
structure fu (X:Cx)(scope:Scope)(cl:`aA)(own fr:RU)(ix:List Nat):Prop where
 clos:closureFor scope X.env=pure cl
 cells:∀x c,cl.lookup x∣c->X.env.cells.lookup x∣c
 kind:scope.kind= .function
 ncell:∀y∈scope.names,y.2≠ .cell
 names:∀y∈scope.names,y.2= .local->scope.names.lookup y.1∣.local
 has:∀x,scope.names.lookup x∣.free->∃c,cl.lookup x∣c
 frees:∀x∈fr,scope.names.lookup x∣.free
 len:fr.length=ix.length
 at_:∀(k:Nat)(i:Nat)(x:Str),ix[k]?∣i->fr[k]?∣x->X.N[i]?∣x/\X.env.kindOf x∣.cell
theorem jI {env:Env}:∀{names:List (Str×VU)}{x:Str}{k:VU},
 (names.map λ(n,k)=>if(k==VU.free&&env.scope.kind== .function&&env.kindOf n==some .cell) then(n,VU.cell) else(n,k)).lookup x∣k->
 ∃k',names.lookup x∣k'/\(k=k'∨(k'= .free/\k= .cell))
 | [],_,_,h=>by simp at h
 | (n,k)::r,x,kk,h=>by
   let ih:=@jI env r x kk;replace h:TN x ((if(k==VU.free&&env.scope.kind== .function&&env.kindOf n==some .cell)=true then(n,VU.cell) else(n,k))::_)∣kk:=h;by_cases hc:(k==VU.free&&env.scope.kind== .function&&env.kindOf n==some .cell)=true
   ·rw[XU hc] at h;cases hx:x==n with
    | true=>
      simp only[TY,hx,Option.some.injEq] at h ⊢;let hk:k= .free:=by
       simp only[Sa] at hc;exact eq_of_beq hc.1.1
      exact⟨k,rfl,.inr ⟨hk,h.symm⟩⟩
    | false=>
      simp only[TY,hx] at h ⊢;exact ih h
   ·rw[XT hc] at h;cases hx:x==n with
    | true=>
      simp only[TY,hx,Option.some.injEq] at h ⊢;exact⟨k,rfl,.inl h.symm⟩
    | false=>
      simp only[TY,hx] at h ⊢;exact ih h
theorem pE {env:Env}(hf:env.scope.kind= .function):∀{names:List (Str×VU)}{x:Str},names.lookup x∣.free->env.kindOf x∣.cell->
 (names.map λ(n,k)=>if(k==VU.free&&env.scope.kind== .function&&env.kindOf n==some .cell) then(n,VU.cell) else(n,k)).lookup x∣.cell
 | [],_,h,_=>by simp at h
 | (n,k)::r,x,h,hk=>by
   let ih:=@pE env hf r x;show TN x ((if(k==VU.free&&env.scope.kind== .function&&env.kindOf n==some .cell)=true then(n,VU.cell) else(n,k))::_)=_;cases hx:x==n with
   | true=>
     simp only[TY,hx,Option.some.injEq] at h;let e:x=n:=eq_of_beq hx;subst e;subst h;rw[XU (by rw[hf,hk];rfl)];simp[TY]
   | false=>
     simp only[TY,hx] at h;split
     ·simp only[TY,hx];exact ih h hk
     ·simp only[TY,hx];exact ih h hk
noncomputable def fw (own:RU)(ix:List Nat)(σ:St):St:=Tg own.length none++ix.map λi=>(σ[i]?).join
structure Off (X:Cx)(X3:RR)(H:Hp)(s:Vo)(C:Addr):Prop where
 ns:∃m,s.heap.Ns C m
 free:H C=none
 ne:C≠X.env.locals
 young:X.s₀.heap.objs.size<=C
 cell:∀x c,X.env.cells.lookup x∣c->c≠C
 pin:∀p∈X.pn++X3,p.1≠C
theorem u6 {ifs:R6}{cl:`aA}{own:RU}{use:Option (Value->Sem Unit)}{Qf:`r}{Q:VK}(hc:X.calm=true)(S:fu X scope cl own fr ix)(hi:PI X target iter wi)(hb:∀(C:Addr)(s:Vo)(H:Hp)(ex:RY),PG `l target g/\PF `l ifs tc/\PE `l elt te)(hs:∀x,VA iter X.env x=pure x)(I:`h)(h:Bf wi g tc te (fw own ix) σ H Q)(ZU:∀(D C:Addr)(H6:Hp)(s6:Vo),Inv X X3 σ H6 s6->Off X X3 H6 s6 C->Q (.ref D) H6->compPost `f X.A X.xe use Qf (.ref D) C (.ok .next) s6):
 wpAny `f X.A (comprehension `J scope X.env (firstIterPos [⟨target,iter,ifs,0⟩] pos) (newList []) false (eval iter X.env) use) Qf X.xe s:=by
 refine wpAny_comprehension_free (use:=use) rfl hs S.clos S.kind S.names ?_;refine a7 (hi X3 s σ H _ I h) λv s1 h1=>a7 h1 λitv s2 h2=>?_;let⟨it,fp,tn,J,H2,rfl,I2,T,st2,f2,W,⟨m0,w0⟩,turn⟩:=h2;refine VG (wpAny_newFunctionEnv S.ncell (by intro y hy;simp at hy) (λh₁ hns₁ hsb₁=>?_) S.kind);dsimp only at hns₁ hsb₁ ⊢;generalize hH3:s2.heap.push {cls:=.type "list",dict:=none,data:=.seq ([]:RZ).toArray}=h3 at hns₁ hsb₁ ⊢;let hC:h3.objs.size=⇑s2+1:=by rw[← hH3,W9]
 let to3:∀b o,s2.heap.get? b∣o->h3.get? b∣o:=λb o e=>by rw[← hH3];exact W6 _ e
 let getD3:h3.get? ⇑s2=some {cls:=.type "list",data:=.seq ([]:RZ).toArray}:=by rw[← hH3];exact W8 _ rfl
 let to1:∀b o,h3.get? b∣o->h₁.get? b∣o:=λb o e=>hsb₁.extBut b o (UO (W7 e)) (W6 _ e);let frD:∀{b:Addr},b∈fp->b≠⇑s2:=λ{b} hb z=>by
  let⟨o,e,_⟩:=T.obj 0 _ st2 b hb;exact XS (W7 e) (by rw[z];exact UQ _)
 let frC:∀{b:Addr},b∈fp->b≠h3.objs.size:=λ{b} hb z=>by
  let⟨o,e,_⟩:=T.obj 0 _ st2 b hb;exact XS (W7 e) (by rw[z,hC];exact U0.mpr (US _))
 let HD2:H2 ⇑s2=none:=I2.X8.fresh (UJ _)
 let' X':Cx:=a8 X scope cl h3.objs.size (own++fr) {s2 with heap:=h3} H2 (⇑s2::fp)
 let ok':X'.Ok:=by
  refine⟨I2.ok.mod,S.kind,I2.ok.glob,I2.ok.blt,UJ _,λx y c e1 e2=>I2.ok.inj x y c (S.cells x c e1) (S.cells y c e2),λx hx=>?_,λx c z=>?_,I2.ok.hd,I2.ok.frames,.inl rfl,λb hb=>?_,λb o e=>?_,?_,λb o e hb=>?_,λb hb z=>?_,?_,I2.zu⟩
  ·let key:scope.names.lookup x∣.free:=by
    let hx:(relabel scope X.env).names.lookup x∣.cell∨(relabel scope X.env).names.lookup x∣.free:=hx;obtain hx | hx:=hx
    ·let⟨k',e,z⟩:=jI hx;obtain z | z:=z
     ·subst z;exact XS rfl (S.ncell _ (Vz e))
     ·rw[e,z.1]
    ·let⟨k',e,z⟩:=jI hx;obtain z | z:=z
     ·subst z;exact e
     ·cases z.2
   exact S.has x key
  ·cases z
  ·obtain rfl | hb:=SF.mp hb
   ·refine⟨by rw[show X'.env.locals=h3.objs.size from rfl,hC];exact UO (UT _),λx c e z=>?_⟩;let⟨v',q⟩:=I2.cell x c (S.cells x c e);exact XS q.lt (by rw[z];exact UQ _)
   ·exact⟨frC hb,λx c e=>(f2 b hb).2.2.2.2.1 x c (S.cells x c e)⟩
  ·let⟨e1,e2⟩:=I2.bs b o e;exact⟨to3 b o e1,e2⟩
  ·show X.base.objs.size<=h3.objs.size;have:=I2.ok.bsz;have:=I2.sz;cbv
  ·obtain rfl | hb:=SF.mp hb
   ·exact XS (W7 (I2.bs _ o e).1) (UQ _)
   ·rcases(f2 b hb).2.2.2.1 with z | z
    ·exact I2.ok.noex b o e z
    ·exact XS (UN (UN (W7 e) I2.ok.bsz) z) (UQ _)
  ·replace z:b∈nh X.stack:=z;obtain rfl | hb:=SF.mp hb
   ·let⟨_,o,ho,_⟩:=I2.stack.mem z;exact XS (W7 ho) (UQ _)
   ·obtain q | q:=SF.mp (I2.wJ b z)
    ·exact(f2 b hb).2.1 q
    ·exact(f2 b hb).2.2.1 q
  ·exact I2.stack.of_keeps λb o e _=>⟨o,to3 b o e,rfl⟩
 let I4:Inv X' [] (fw own ix σ) H2 {s2 with heap:=h₁,toks:=s2.toks+([]:List (Str×Value)).length}:=by
  refine⟨ok',rfl,I2.bare,Un.kept to1,⟨_,hns₁,λi x v e1 e2 e3=>?_⟩,λx c e=>?_,I2.X8.fresh (by show ⇑s2<=h3.objs.size;rw[hC];exact US _),λx c e=>I2.YQ x c (S.cells x c e),λp hp=>XS (show p∈([]:RR) from hp) `d,I2.X8.kept λb o e=>to1 b o (to3 b o e),?_⟩
  ·replace e1:(own++fr)[i]?∣x:=e1;unfold fw at e2;by_cases YS:i<own.length
   ·rw[S0 (~~~YS),TQ] at e2;split at e2<;>cases e2
   ·rw[SV (~~~YS)] at e1 e2;rw[Tq,Sw] at e2;cases ek:ix[i-own.length]? with
    | none=>rw[ek] at e2;cases e2
    | some j=>
      rw[ek] at e2;let⟨n1,n2⟩:=S.at_ _ j x ek e1;let e2':σ[j]?∣some v:=by
       let q:(σ[j]?).join∣v:=Option.some.inj e2;cases es:σ[j]? with
       | none=>rw[es] at q;cases q
       | some o=>rw[es] at q;exact congrArg some q
      let⟨m,hn,hl⟩:=I2.loc;let⟨u,r,l⟩:=hl j x v n1 e2' (.inr (.inl n2));refine⟨u,r,?_⟩;let hfr:scope.names.lookup x∣.free:=S.frees x (SD e1);obtain⟨k,_⟩ | ⟨_,c,hcl,z⟩:=l
      ·rw[n2] at k;cases k
      ·let⟨c',hc'⟩:=S.has x hfr;let q:=S.cells x c' hc';rw[hcl] at q;cases q
       let⟨oc,ho,hd⟩:=z;exact .inr ⟨.inl (pE I2.ok.kind hfr n2),c,hc',oc,to1 _ _ (to3 _ _ ho),hd⟩
  ·let⟨v',oc,ho,hd⟩:=I2.cell x c (S.cells x c e);exact⟨v',oc,to1 _ _ (to3 _ _ ho),hd⟩
  ·show(fw own ix σ).length=(own++fr).length;unfold fw;rw[Sx,Sx,Tq,Ss,S.len]
 let⟨hg,hf,he⟩:=hb h3.objs.size {s2 with heap:=h3} H2 (⇑s2::fp);let hg:PG X' target g:=hg;let hf:PF X' ifs tc:=hf;let he:PE X' elt te:=he;let locX:X'.env.locals=h3.objs.size:=rfl
 let Dne:⇑s2≠X'.env.locals:=by rw[locX,hC];exact UO (UT _)
 let Dfs:⇑s2∉X'.fs:=ok'.Z5 _ (Sz ..);let Dcl:∀x c,X'.env.cells.lookup x∣c->c≠⇑s2:=λx c e=>(ok'.exf _ (Sz ..)).2 x c e;let fpX:∀{pl:RR}{H':Hp},(∀p∈pl,p.1=⇑s2)->(∀b∈fp,H' b=none)->∀b∈fp,mB X' pl H' b:=λhp hn b hb=>
  ⟨hn b hb,frC hb,ok'.Z5 b (Sv _ hb),.inl (Sv _ hb),(ok'.exf b (Sv _ hb)).2,λp q=>by
   rw[hp p (by simpa[show X'.pn=[] from rfl] using q)];exact U8 (frD hb)⟩
 let pinD:∀{σ':St}{H':Hp}{s':Vo}{o:Obj},Inv X' [] σ' H' s'->s'.heap.get? ⇑s2∣o->H' ⇑s2=none->(∀v,o.data≠ .cell v)->Inv X' [(⇑s2,o)] σ' H' s':=λI e n d=>
  I.kM λp hp=>by
    obtain rfl:=Su.mp hp;exact⟨e,n,Dne,Dfs,d⟩
 let loop:Wb `f X.A (.compLoop `J 0 (.ref it) (.ref ⇑s2) X'.env)
  (compPost `f X.A X.xe use Qf (.ref ⇑s2) h3.objs.size) {s2 with heap:=h₁,toks:=s2.toks+([]:List (Str×Value)).length}:=by
  refine wY (λn s'=>∃i ys X5 k σ' H',Inv X' [] σ' H' s'/\tn i s'.heap/\(∀b∈fp,H' b=none)/\H' ⇑s2=none/\Vals ys X5/\s'.heap.get? ⇑s2=some {cls:=.type "list",data:=.seq X5.toArray k}/\W i n ys σ' H')
   ?_ m0 ⟨0,[],[],0,_,H2,I4,T.keep 0 _ _ st2 λb _ o e=>to1 b o (to3 b o e),λb Zd=>(f2 b Zd).1,HD2,.nil,to1 _ _ getD3,w0⟩
  rintro n s5 ⟨i,ys,X5,k,σ5,H5,I5,st5,fr5,hD5,vs5,get5,w5⟩;let⟨hlen,alt⟩:=turn i n ys σ5 H5 w5;let P5:=pinD I5 get5 hD5 (λv z=>by cases z);let okp:∀p∈[`ak],p.1=⇑s2:=λp hp=>by
   rw[Su.mp hp]
  obtain⟨stop,q⟩ | ⟨go,step⟩:=alt
  ·refine a7 (T.done X' rfl rfl rfl hc i _ s5 σ5 H5 _ P5 (fpX okp fr5) st5 stop) λr s6 ⟨hr,I6⟩=>?_;subst hr;let⟨m6,hn6,_⟩:=I6.loc;let⟨get6,_,_,_,_⟩:=I6.pin `ak (SH _ `bi);let toh:∀b o,b≠h3.objs.size->s6.heap.get? b∣o->s6.heap.get? b∣o:=λb o hb e=>e;let exn:∀{b:Addr}{o:Obj},s2.heap.get? b∣o->b∉fp->b∉X'.ex:=λ{b o} e hb z=>by
    obtain z | z:=SF.mp z
    ·exact XS (W7 e) (by rw[z];exact UQ _)
    ·exact hb z
   let neC:∀{b:Addr}{o:Obj},s2.heap.get? b∣o->b≠h3.objs.size:=λ{b o} e z=>by
    let q1:=W7 e;rw[z,hC] at q1;exact XS q1 (U0.mpr (US _))
   let neD:∀{b:Addr}{o:Obj},s2.heap.get? b∣o->b≠⇑s2:=λ{b o} e=>UO (W7 e);let neD':∀{b:Addr}{o:HO},H2 b∣o->b≠⇑s2:=λ{b o} e=>dh e HD2;let U:Un (nh X.stack) fp H2 (upd H5 ⇑s2 (.lst ys)) s2.heap s6.heap:=by
    refine⟨λb o e n hb hx=>?_,λb o e n hb hx=>?_,λb o e n hx=>?_,λb o e hx=>?_,λb xs e=>?_,λb o u e=>?_,λb ps e=>?_⟩
    ·exact toh b o (neC e) (I6.base.keep b o (to3 b o e) n hb (exn e hx))
    ·let⟨sl,q1⟩:=I6.base.slot b o (to3 b o e) n hb (exn e hx);exact⟨sl,toh b _ (neC e) q1⟩
    ·rw[aJ (neD e)];exact I6.base.free b o (to3 b o e) n (exn e hx)
    ·let⟨o',q1⟩:=I6.base.there b o (to3 b o e) (exn e hx);exact⟨o',toh b _ (neC e) q1⟩
    ·rw[aJ (neD' e)];exact I6.base.Zl b xs e
    ·rw[aJ (neD' e)];exact I6.base.Ze b o u e
    ·rw[aJ (neD' e)];exact I6.base.Zm b ps e
   let HC:H5 h3.objs.size=none:=I6.free;let X8:eR X.prog X.w (upd H5 ⇑s2 (.lst ys)) s6.heap:=λb u e=>by
    by_cases hbD:b=⇑s2
    ·subst hbD;rw[aG] at e;cases e
     exact⟨hlen,X5,k,vs5,toh _ _ (by rw[hC];exact UO (UT _)) get6⟩
    ·rw[aJ hbD] at e;refine(I6.X8 b u e).YF (λc o hco q1=>toh c o (λz=>?_) q1) (λc q1=>by rw[aJ (dh q1 hD5)];exact q1) λc xs q1=>by rw[aJ (dh q1 hD5)];exact q1
     obtain hco | hco:=hco
     ·rw[← hco,z,HC] at e;cases e
     ·rw[z,HC] at hco;cases hco
   let fin:=I2.OU (s':=s6) (ch:=fp) I6.os U X8 I6.bare λb Zd=>⟨(f2 b Zd).2.2.2.1,(f2 b Zd).2.1,(f2 b Zd).2.2.2.2.1,(f2 b Zd).2.2.2.2.2⟩;refine ZU _ h3.objs.size _ s6 fin ⟨⟨m6,hn6⟩,?_,?_,?_,λx c e z=>?_,λp hp z=>?_⟩ (q _ hD5)
   ·rw[aJ (by rw[hC];exact UW (UT _))];exact HC
   ·intro z;have:=I2.lt;rw[← z,hC] at this;exact XS this (U0.mpr (US _))
   ·rw[hC];exact UK I2.sz (US _)
   ·let⟨v',q1⟩:=I2.cell x c e;have:=q1.lt;rw[z,hC] at this;exact XS this (U0.mpr (US _))
   ·have:=W7 (I2.pin p hp).1;rw[z,hC] at this;exact XS this (U0.mpr (US _))
  ·refine a7 (T.item X' rfl rfl rfl hc i _ s5 σ5 H5 _ P5 (fpX okp fr5) st5 go) λr s6 ⟨u,hr,h6⟩=>?_;subst hr;refine a7 h6 λ_ s7 ⟨x,H7,I7,r7,y7,st7,fr7⟩=>?_;let I7':=I7.pinned (fpX okp fr7) (T.obj _ _ st7);refine a7 (hg _ s7 σ5 H7 x u _ I7' r7 (step x H7 y7)) λ_ s8 ⟨σ8,H8,I8,q8⟩=>?_;refine a7 (hf _ s8 σ8 H8 _ I8 q8) λb s9 ⟨H9,I9,q9⟩=>?_;let out:∀{σ':St}{H':Hp}{s':Vo},Inv X' ([`ak]++m9 fp s7.heap) σ' H' s'->
    tn (i+1) s'.heap/\(∀b∈fp,H' b=none)/\H' ⇑s2=none/\s'.heap.get? ⇑s2=some {cls:=.type "list",data:=.seq X5.toArray k}:=λI'=>by
    refine⟨T.keep _ _ _ st7 λb Zd o e=>(I'.pin (b,o) (SH _ (SH _ (kI Zd e)))).1,λb Zd=>?_,(I'.pin `ak (SH _ (SS _ `bi))).2.1,(I'.pin `ak (SH _ (SS _ `bi))).1⟩;let⟨o,e,d⟩:=T.obj _ _ st7 b Zd;exact(I'.pin (b,o) (SH _ (SH _ (kI Zd e)))).2.1
   cases b with
   | false=>
     rw[XT R9] at q9 ⊢;let⟨m',hm,w'⟩:=q9;let⟨o1,o2,o3,o4⟩:=out I9;exact⟨m',hm,i+1,ys,X5,k,σ8,H9,I9.kM (λ_ z=>nomatch z),o1,o2,o3,vs5,o4,w'⟩
   | true=>
     rw[XU rfl] at q9 ⊢;refine a7 (he _ s9 σ8 H9 _ I9 q9) λuv s10 ⟨v10,H10,I10,r10,q10⟩=>?_;let⟨m',hm,w'⟩:=q10;let⟨o1,o2,o3,o4⟩:=out I10;refine wpAny_list_append_plain ⟨k,o4⟩ (λh' Yo Zh=>?_) (by
      have:=vs5.length;rw[SJ,← this];exact hlen)
     let⟨k',ZD⟩:=Yo;let I11:Inv X' (m9 fp s7.heap) σ8 H10 s10:=I10.kM λp hp=>I10.pin p (SH _ (SH _ hp));let I12:Inv X' [] σ8 H10 {s10 with heap:=h'}:=(I10.kM (λ_ z=>nomatch z):Inv X' [] σ8 H10 s10).turned (t':=s10.toks) (λb o Zd e=>Zh.extBut b o Zd e) o3 Dne (.inl (Sz ..)) Dcl (λp hp=>XS (show p∈([]:RR) from hp) `d);refine⟨m',hm,i+1,ys++[v10],X5++[uv],k',σ8,H10,I12,T.keep _ _ _ o1 λb Zd o e=>Zh.extBut b o (frD Zd) e,o2,o3,vs5.append (.cons r10 .nil),?_,w'⟩;show h'.get? _=_;rw[ZD];simp
 exact codeAny_compStart_list loop (T.self X.A 0 _ _ _ (T.keep 0 _ _ st2 λb _ o e=>to1 b o (to3 b o e)) loop)
theorem Off.gone {C:Addr}{h':Heap}(o:Off X X3 H s C)(I:`h)(Zh:Xa C s.heap h'):Inv X X3 σ H {s with heap:=h'}:=
 I.turned (t':=s.toks) (λb u hb e=>Zh.extBut b u hb e) o.free o.ne (.inr o.young) o.cell o.pin
theorem JH {ifs:R6}{cl:`aA}{own:RU}(hc:X.calm=true)(S:fu X scope cl own fr ix)(hi:PI X target iter wi)(hb:∀(C:Addr)(s:Vo)(H:Hp)(ex:RY),PG `l target g/\PF `l ifs tc/\PE `l elt te)(hs:∀x,VA iter X.env x=pure x:=by intro _;rfl):
 PE X `J (Bf wi g tc te (fw own ix)):=by
 intro X3 s σ H Q I h;rw[eval_ListComp];refine u6 (use:=none) hc S hi hb hs I h λD C H6 s6 I6 o6 q=>?_;let⟨m,hn⟩:=o6.ns;exact⟨m,hn,λh' Zh=>⟨.ref D,H6,o6.gone I6 Zh,rfl,q⟩⟩
theorem nW {i:Nat}{y:Str}{py Za:Pos}{ifs:R6}{cl:`aA}{own:RU}(YH:Vv `J (some (.Name y py)) Za.line X.env=pure true)(hN:X.N.Nodup)(hi':X.N[i]?∣y)(hx:Loc X.env.scope y)(hc:X.calm=true)(S:fu X scope cl own fr ix)(hi:PI X target iter wi)(hb:∀(C:Addr)(s:Vo)(H:Hp)(ex:RY),PG `l target g/\PF `l ifs tc/\PE `l elt te)(hs:∀x,VA iter X.env x=pure x:=by intro _;rfl)(hf:fU X y:=by first | exact .inl rfl | exact .inr rfl | assumption):
 PS X (.Assign [.Name y py] `J Za) (ET (Bf wi g tc te (fw own ix)) (Bq i)):=by
 intro X3 s σ H D I h;rw[exec_Assign_Name_used _ _ _ _ YH];refine Vp (WB (Vp ?_));show wpAny _ _ (do let _ ← comprehension `J scope X.env _ (newList []) false (eval iter X.env) (some (VT (.Name y py) X.env))) _ _ s;refine Vp (VC (u6 (use:=some (VT (.Name y py) X.env)) (Qf:=λ_ s'=>SP X X3 D .next s') hc S hi hb hs I h λA C H6 s6 I6 o6 q=>?_) (λ_ s' hq=>Vs (Vs hq)) λ_ _ e=>e);show wpAny _ _ (VT (.Name y py) X.env (.ref A)) _ _ _;refine wpAny_assign_Name (uW I6 hN hi' hx (v:=.ref A) rfl (λs7 I7 hw=>?_) hf);let⟨c,hsb7,hcc⟩:=hw;let neC:C≠c:=by
  obtain rfl | hcc:=hcc
  ·exact o6.ne
  ·exact U8 (o6.cell y c hcc)
 let⟨m,hn⟩:=o6.ns;let o7:Off X X3 H6 s7 C:=⟨⟨m,hn.sameBut hsb7 neC⟩,o6.free,o6.ne,o6.young,o6.cell,o6.pin⟩;exact⟨m,hn.sameBut hsb7 neC,λh' Zh=>⟨_,H6,o7.gone I7 Zh,q⟩⟩
end
end L2
namespace Fc
open PySem PySem.Spec PySem.W PySem.Calls L2
open PyProof.Rows hiding St
variable {X:Cx}{e:Expr}{σ:St}{H:Hp}{v:V}{D:Ends}{Q:VK}
section
variable {t:TT}{Q:Bool->Hp->Prop}
def fE (X:Cx)(e:Expr):TE:=λσ H Q=>∀(X3:RR)(s:Vo),Inv X X3 σ H s->wpAny `f X.A (eval e X.env) `bm X.xe s
def Fe (X:Cx)(e:Expr):TT:=λσ H Q=>∀(X3:RR)(s:Vo),Inv X X3 σ H s->wpAny `f X.A (VZ e X.env (eval e X.env)) (TP X X3 σ Q) X.xe s
def Fb (X:Cx)(e:Expr):TT:=λσ H Q=>∀(whole:Sem Value)(X3:RR)(s:Vo),Inv X X3 σ H s->wpAny `f X.A (VZ e X.env whole) (TP X X3 σ Q) X.xe s
def mn (X:Cx)(e:Expr):TG:=λv σ H Q=>∀(X3:RR)(s:Vo)(u:`aa),Inv X X3 σ H s->bn v u->wpAny `f X.A (VT e X.env u) (λ_ s'=>∃σ' H',Inv X X3 σ' H' s'/\Q σ' H') X.xe s
def En (X:Cx)(st:Stmt):TS:=λD σ H=>∀(X3:RR)(s:Vo),Inv X X3 σ H s->wpAny `f X.A (exec st X.env) (SP X X3 D) X.xe s
def vP (X:Cx)(st:List Stmt):TS:=λD σ H=>∀(X3:RR)(s:Vo),Inv X X3 σ H s->wpAny `f X.A (execs st X.env) (SP X X3 D) X.xe s
def AF (X:Cx)(es:R6):TA:=λσ H Q=>∀(pos:Pos)(X3:RR)(s:Vo),Inv X X3 σ H s->wpAny `f X.A (spliced (Wd pos (Vt es X.env))) (AP X X3 σ Q) X.xe s
noncomputable def mm (X:Cx)(ifs:R6):TT:=λσ H Q=>∀(X3:RR)(s:Vo),Inv X X3 σ H s->
 wpAny `f X.A (forIn ifs true λc r=>if r=true then do let ok ← VZ c X.env (eval c X.env);pure (Sh ok) else pure (Sh r)) (TP X X3 σ Q) X.xe s
theorem aO:PE X e (fE X e):=λX3 s _ _ _ I h=>h X3 s I
theorem sV:PT X e (Fe X e):=λX3 s _ _ _ I h=>h X3 s I
theorem Ll:PW X e (Fb X e):=λwh X3 s _ _ _ I h=>h wh X3 s I
theorem Qe:PG X e (mn X e):=λX3 s _ _ _ u _ I r h=>h X3 s u I r
theorem QA {e:Stmt}:PS X e (En X e):=λX3 s _ _ _ I h=>h X3 s I
theorem g8 {e:List Stmt}:lN X e (vP X e):=λX3 s _ _ _ I h=>h X3 s I
theorem oz {e:R6}:PA X e (AF X e):=λpos X3 s _ _ _ I h=>h pos X3 s I
theorem eS {t:TE}(h:PE X e t){Q:VK}(q:t σ H Q):fE X e σ H Q:=λX3 s I=>h X3 s σ H Q I q
theorem tS (h:PT X e t)(q:t σ H Q):Fe X e σ H Q:=λX3 s I=>h X3 s σ H Q I q
theorem wS (h:PW X e t)(q:t σ H Q):Fb X e σ H Q:=λwh X3 s I=>h wh X3 s σ H Q I q
theorem gS {t:TG}(h:PG X e t){Q:St->Hp->Prop}(q:t v σ H Q):mn X e v σ H Q:=λX3 s u I r=>h X3 s σ H v u Q I r q
theorem sS {e:Stmt}{t:TS}(h:PS X e t)(q:t D σ H):En X e D σ H:=λX3 s I=>h X3 s σ H D I q
theorem MG {e:List Stmt}{t:TS}(h:lN X e t)(q:t D σ H):vP X e D σ H:=λX3 s I=>h X3 s σ H D I q
theorem aS {e:R6}{t:TA}(h:PA X e t){Q:List V->Hp->Prop}(q:t σ H Q):AF X e σ H Q:=λpos X3 s I=>h pos X3 s σ H Q I q
theorem fS {e:R6}(h:PF X e t)(q:t σ H Q):mm X e σ H Q:=λX3 s I=>h X3 s σ H Q I q
end
variable {R:Hp}{α:Type}
theorem av.fresh {p:Addr}(h:H p=none)(o:HO):av H (upd H p o):=λb u q=>by rw[aJ (dh q h)];exact q
structure Rep (α:Type) where
 R:Xt->Hp->V->α->Prop
 mono:∀{K:Xt}{H H':Hp}{v:V}{x:α},av H H'->R K H v x->R K H' v x
def ah:Rep Int:=⟨λ_ _ v x=>v= .int x,λ_ h=>h⟩
def cU:Rep Bool:=⟨λ_ _ v x=>v= .bl x,λ_ h=>h⟩
theorem Paired.map {β:Type}{F G:α->β->Prop}(f:∀a b,F a b->G a b):∀{l:`x}{m:List β},PySem.Paired F l m->PySem.Paired G l m
 | _,_,.nil=>.nil
 | _,_,.cons h t=>.cons (f _ _ h) (Paired.map f t)
noncomputable def ae (r:Rep α):Rep (List α):=⟨λK H v xs=>∃a vs,v= .ref a/\H a∣.lst vs/\PySem.Paired (r.R K H) vs xs/\xs.length<=Vn,
 λs ⟨a,vs,e,q,p,z⟩=>⟨a,vs,e,s _ _ q,Paired.map (λ_ _=>r.mono s) p,z⟩⟩
noncomputable def ck:Rep RS:=⟨λK H v xs=>∃a,v= .ref a/\bu K H a (xs.map V.int)/\xs.length<=63,λs ⟨a,e,q,z⟩=>⟨a,e,s.seq q,z⟩⟩
def dO {β:Type}(r:Rep α)(r':Rep β):Rep (α×β):=⟨λK H v x=>∃a v1 v2,v= .ref a/\H a∣(.tup [v1,v2])/\r.R K H v1 x.1/\r'.R K H v2 x.2,
 λs ⟨a,v1,v2,e,q,h1,h2⟩=>⟨a,v1,v2,e,s _ _ q,r.mono s h1,r'.mono s h2⟩⟩
abbrev Row:=Int×Int×Int×Int
def fh:Rep Row:=⟨λK H v x=>∃a,v= .ref a/\H a∣(.tup [.int x.1,.int x.2.1,.int x.2.2.1,.int x.2.2.2]),λs ⟨a,e,q⟩=>⟨a,e,s _ _ q⟩⟩
abbrev gq:=RS×List Row
def lA:Rep gq:=dO (ae ah) (ae fh)
structure Ext (H R H' R':Hp):Prop where
 h:av H H'
 r:av R R'
 s:av R' H'
 old:∀b,H b≠none->R' b=R b
theorem Ext.refl (s:av R H):Ext H R H R:=⟨av.refl _,av.refl _,s,λ_ _=>rfl⟩
theorem av.some {H':Hp}(s:av H H'){b:Addr}(h:H b≠none):H' b≠none:=by
 cases q:H b with
 | none=>exact XS q h
 | some o=>rw[s b o q];exact Va o
theorem Ext.trans {H1 R1 H2 R2:Hp}(a:Ext H R H1 R1)(b:Ext H1 R1 H2 R2):Ext H R H2 R2:=
 ⟨a.h.trans b.h,a.r.trans b.r,b.s,λc hc=>(b.old c (av.some a.h hc)).trans (a.old c hc)⟩
theorem Ext.fresh (s:av R H){p:Addr}(h:H p=none)(o:HO):Ext H R (upd H p o) (upd R p o):=
 ⟨av.fresh h o,av.fresh (s.free h) o,λb u q=>by
  by_cases e:b=p
  ·subst e;rw[aG] at q ⊢;exact q
  ·rw[aJ e] at q ⊢;exact s b u q,λb hb=>aJ λe=>hb (e▸h)⟩
theorem Ext.ee (s:av R H){p:Addr}(h:H p=none)(o:HO):Ext H R (upd H p o) R:=
 ⟨av.fresh h o,av.refl _,s.trans (av.fresh h o),λ_ _=>rfl⟩
structure ou:Type 1 where
 fp:RY
 R:Xt->Hp->Hp->V->Prop
 loc:∀{K:Xt}{H R0 H' R':Hp}{v:V},(∀a∈fp,H' a=H a)->av R0 R'->R K H R0 v->R K H' R' v
 has:∀{K:Xt}{H R0:Hp}{v:V},R K H R0 v->∀a∈fp,H a≠none
inductive Ent:Type 1
 | no
 | im {α:Type} (r:Rep α) (x:α)
 | mu {α:Type} (r:Rep α) (xs:`x)
 | di (kvs:List (Int×V))
 | ob (B:ou)
noncomputable def cR (kvs:List (Int×V)):List (Key×V):=kvs.map λp=>(Sum.inl p.1,p.2)
noncomputable def Ent.ok (K:Xt)(H R:Hp):Ent->Option V->Prop
 | .no,_=>True
 | .im r x,o=>∃v,o∣v/\r.R K R v x
 | .mu r xs,o=>∃a vs,o∣.ref a/\H a∣.lst vs/\R a=none/\PySem.Paired (r.R K R) vs xs
 | .di kvs,o=>∃a,o∣.ref a/\H a∣(.dK (cR kvs))/\R a=none
 | .ob B,o=>(∃v,o∣v/\B.R K H R v)/\∀a∈B.fp,R a=none
noncomputable def Ent.own:Ent->Bool
 | .mu .. =>true
 | .di .. =>true
 | _=>false
noncomputable def refOf:Option V->RY
 | some (.ref a)=>[a]
 | _=>[]
noncomputable def Ent.fp:Ent->Option V->RY
 | .mu ..,o=>refOf o
 | .di ..,o=>refOf o
 | .ob B,_=>B.fp
 | _,_=>[]
abbrev Ga:=List Ent
structure ar (K:Xt)(σ:St)(H0 R0 H R:Hp)(Z:Ga):Prop where
 ext:Ext H0 R0 H R
 ent:∀(i:Nat)(e:Ent),Z[i]?∣e->e.ok K H R (σ[i]?).join
 nw:∀(i:Nat)(e:Ent)(a:Addr),Z[i]?∣e->a∈e.fp (σ[i]?).join->H0 a=none
 ds:∀(i j:Nat)(e e':Ent)(a:Addr),Z[i]?∣e->Z[j]?∣e'->a∈e.fp (σ[i]?).join->a∈e'.fp (σ[j]?).join->i=j
 len:Z.length=σ.length
variable {K:Xt}{H0 R0:Hp}{Z:Ga}{a:Addr}{o:Option V}{i:Nat}{en:Ent}{Γ':Ga}{r:Rep α}
section
variable {H' R':Hp}
variable {u:HO}
theorem cf:a∈refOf o↔o∣.ref a:=by
 unfold refOf;split
 ·rw[Su];constructor
  ·rintro rfl;rfl
  ·intro e;cases e;rfl
 ·rename_i h;constructor
  ·intro z;cases z
  ·intro e;exact XS e (h a)
theorem Ent.sT {e:Ent}(w:e.own=true):a∈e.fp o↔o∣.ref a:=by
 cases e with
 | no=>cases w
 | im r x=>cases w
 | mu r xs=>exact cf
 | di kvs=>exact cf
 | ob B=>cases w
theorem ar.new (E:`y)(i:Nat)(e:Ent)(a:Addr)(h:Z[i]?∣e)(w:e.own=true)(ha:(σ[i]?).join∣.ref a):H0 a=none:=E.nw i e a h ((Ent.sT w).mpr ha)
theorem Ent.fz {e:Ent}(h:e.ok K H R o)(ha:a∈e.fp o):H a≠none/\R a=none:=by
 cases e with
 | no=>cases ha
 | im r x=>cases ha
 | mu r xs=>
   let⟨b,vs,e,q,n,_⟩:=h;rw[Ent.fp,cf,e] at ha;cases ha
   exact⟨by rw[q];exact Va _,n⟩
 | di kvs=>
   let⟨b,e,q,n⟩:=h;rw[Ent.fp,cf,e] at ha;cases ha
   exact⟨by rw[q];exact Va _,n⟩
 | ob B=>let⟨⟨v,e,q⟩,n⟩:=h;exact⟨B.has q a ha,n a ha⟩
theorem Ent.ok.loc {e:Ent}(h:e.ok K H R o)(hH:∀a∈e.fp o,H' a=H a)(hR:av R R')(hn:∀a∈e.fp o,R' a=none):e.ok K H' R' o:=by
 cases e with
 | no=>trivial
 | im r y=>let⟨v,e,q⟩:=h;exact⟨v,e,r.mono hR q⟩
 | mu r xs=>
   let⟨a,vs,e,q,n,p⟩:=h;let ha:a∈Ent.fp (.mu r xs) o:=cf.mpr e;exact⟨a,vs,e,(hH a ha).trans q,hn a ha,Paired.map (λ_ _=>r.mono hR) p⟩
 | di kvs=>
   let⟨a,e,q,n⟩:=h;let ha:a∈Ent.fp (.di kvs) o:=cf.mpr e;exact⟨a,e,(hH a ha).trans q,hn a ha⟩
 | ob B=>let⟨⟨v,e,q⟩,n⟩:=h;exact⟨⟨v,e,B.loc hH hR q⟩,hn⟩
theorem Ent.ok.grow {e:Ent}(h:e.ok K H R o)(x:Ext H R H' R'):e.ok K H' R' o:=by
 refine h.loc (λa ha=>?_) x.r (λa ha=>?_)
 ·cases q:H a with
  | none=>exact XS q (Ent.fz h ha).1
  | some u=>exact x.h _ _ q
 ·let⟨h1,h2⟩:=Ent.fz h ha;exact(x.old a h1).trans h2
theorem ar.grow (E:`y)(x:Ext H R H' R'):ar K σ H0 R0 H' R' Z:=
 ⟨E.ext.trans x,λi e h=>(E.ent i e h).grow x,E.nw,E.ds,E.len⟩
theorem ar.sub (E:`y):av R H:=E.ext.s
def Off (a:Addr)(σ:St)(Z:Ga):Prop:=∀(i:Nat)(e:Ent),Z[i]?∣e->a∉e.fp (σ[i]?).join
theorem ar.off (E:`y)(h:H a=none):Off a σ Z:=λi e q w=>(Ent.fz (E.ent i e q) w).1 h
theorem set_at.{v}{β:Type v}{l:List β}{i:Nat}{y:β}{j:Nat}{e:β}(q:(l.set i y)[j]?∣e):(j=i/\e=y/\i<l.length)∨(j≠i/\l[j]?∣e):=by
 by_cases hj:j=i
 ·subst hj;let hl:j<l.length:=by
   have:=Sn.mp q;simpa using this.1
  rw[SG hl] at q;exact .inl ⟨rfl,(Option.some.inj q).symm,hl⟩
 ·rw[SX (U8 hj)] at q;exact .inr ⟨hj,q⟩
theorem ar.setG (E:`y)(i:Nat)(ho:en.ok K H R (some v))(h0:∀a∈en.fp (some v),H0 a=none)(hf:∀a∈en.fp (some v),∀(j:Nat)(e:Ent),j≠i->Z[j]?∣e->a∉e.fp (σ[j]?).join):
 ar K `bg H0 R0 H R (Z.set i en):=by
 let key:∀(j:Nat)(e:Ent),(Z.set i en)[j]?∣e->(j=i/\e=en/\((σ.set i (some v))[j]?).join∣v)∨(j≠i/\Z[j]?∣e/\(σ.set i (some v))[j]?=σ[j]?):=λj e q=>by
  obtain⟨rfl,rfl,hl⟩ | ⟨hj,q⟩:=set_at q
  ·exact .inl ⟨rfl,rfl,by rw[SG (by rw[← E.len];exact hl)];rfl⟩
  ·exact .inr ⟨hj,q,SX (U8 hj)⟩
 refine⟨E.ext,λj e q=>?_,λj e a q w=>?_,λj k e e' a q q' w w'=>?_,by rw[Tb,Tb];exact E.len⟩
 ·obtain⟨_,rfl,q2⟩ | ⟨_,q1,q2⟩:=key j e q
  ·rw[q2];exact ho
  ·rw[q2];exact E.ent j e q1
 ·obtain⟨_,rfl,q2⟩ | ⟨_,q1,q2⟩:=key j e q
  ·rw[q2] at w;exact h0 a w
  ·rw[q2] at w;exact E.nw j e a q1 w
 ·obtain⟨hj,rfl,q2⟩ | ⟨hj,q1,q2⟩:=key j e q
  ·obtain⟨hk,rfl,q2'⟩ | ⟨hk,Zg,q2'⟩:=key k e' q'
   ·rw[hj,hk]
   ·rw[q2] at w;rw[q2'] at w';exact XS w' (hf a w k e' hk Zg)
  ·obtain⟨hk,rfl,q2'⟩ | ⟨hk,Zg,q2'⟩:=key k e' q'
   ·rw[q2] at w;rw[q2'] at w';exact XS w (hf a w' j e hj q1)
   ·rw[q2] at w;rw[q2'] at w';exact E.ds j k e e' a q1 Zg w w'
theorem ar.set (E:`y)(i:Nat){v:V}{x:α}(h:r.R K R v x):ar K `bg H0 R0 H R (Z.set i (.im r x)):=
 E.setG i ⟨v,rfl,h⟩ (λa w=>by cases w) λa w=>by cases w
theorem ar.Bo (E:`y)(i:Nat){u:HO}(ho:en.ok K H R (some (.ref a)))(h0:H0 a=none)(hf:∀(j:Nat)(e:Ent),j≠i->Z[j]?∣e->a∉e.fp (σ[j]?).join)(hfp:en.fp (some (.ref a))=[a]:=by rfl):
 ar K (σ.set i (some (.ref a))) H0 R0 H R (Z.set i en):=
 E.setG i ho (λb w=>by rw[hfp,Su] at w;rw[w];exact h0) λb w=>by rw[hfp,Su] at w;rw[w];exact hf
theorem ar.oR (E:`y){e0:Ent}(hi:Z[i]?∣e0)(ha:a∈e0.fp (σ[i]?).join)(ho:en.ok K (L2.upd H a u) R (σ[i]?).join)(Yx:∀b∈en.fp (σ[i]?).join,b∈e0.fp (σ[i]?).join∨(H0 b=none/\Off b σ Z)):ar K σ H0 R0 (L2.upd H a u) R (Z.set i en):=by
 let h0:H0 a=none:=E.nw i e0 a hi ha;let hR:R a=none:=(Ent.fz (E.ent i e0 hi) ha).2;refine⟨⟨λb o q=>?_,E.ext.r,λb o q=>?_,E.ext.old⟩,λj e q=>?_,λj e b q w=>?_,λj k e e' b q q' w w'=>?_,by rw[Tb];exact E.len⟩
 ·rw[aJ (dh q h0)];exact E.ext.h b o q
 ·rw[aJ (dh q hR)];exact E.ext.s b o q
 ·obtain⟨rfl,rfl,_⟩ | ⟨hj,q1⟩:=set_at q
  ·exact ho
  ·refine(E.ent j e q1).loc (λb hb=>aJ λz=>hj ?_) `Z λb hb=>(Ent.fz (E.ent j e q1) hb).2;rw[z] at hb;exact E.ds j i e e0 a q1 hi hb ha
 ·obtain⟨rfl,rfl,_⟩ | ⟨hj,q1⟩:=set_at q
  ·obtain z | z:=Yx b w
   ·exact E.nw _ _ b hi z
   ·exact z.1
  ·exact E.nw j e b q1 w
 ·obtain⟨rfl,rfl,_⟩ | ⟨hj,q1⟩:=set_at q
  ·obtain⟨rfl,rfl,_⟩ | ⟨hk,Zg⟩:=set_at q'
   ·rfl
   ·obtain z | z:=Yx b w
    ·exact E.ds _ _ _ _ b hi Zg z w'
    ·exact XS w' (z.2 k e' Zg)
  ·obtain⟨rfl,rfl,_⟩ | ⟨hk,Zg⟩:=set_at q'
   ·obtain z | z:=Yx b w'
    ·exact E.ds _ _ _ _ b q1 hi w z
    ·exact XS w (z.2 j e q1)
   ·exact E.ds _ _ _ _ b q1 Zg w w'
theorem ar.upd (E:`y){e0 en:Ent}(hi:Z[i]?∣e0)(w0:e0.own=true)(ha:(σ[i]?).join∣.ref a)(hR:R a=none)(ho:en.ok K (L2.upd H a u) R (some (.ref a)))(hfp:en.fp (some (.ref a))=[a]:=by rfl):
 ar K σ H0 R0 (L2.upd H a u) R (Z.set i en):=
 E.oR hi ((Ent.sT w0).mpr ha) (by rw[ha];exact ho) λb w=>.inl (by rw[ha,hfp,Su] at w;rw[w];exact(Ent.sT w0).mpr ha)
theorem ar.su (E:`y)(ha:H a∣u)(hR:R a=none)(h0:H0 a=none)(off:Off a σ Z):ar K σ H0 R0 H (L2.upd R a u) Z:=by
 let s2:av R (L2.upd R a u):=av.fresh hR _;refine⟨⟨E.ext.h,E.ext.r.trans s2,λb o qb=>?_,λb hb=>?_⟩,λi e qe=>?_,E.nw,E.ds,E.len⟩
 ·by_cases hb:b=a
  ·subst hb;rw[aG] at qb;cases qb;exact ha
  ·rw[aJ hb] at qb;exact E.ext.s b o qb
 ·rw[aJ (show b≠a from λe=>hb (by rw[e];exact h0))];exact E.ext.old b hb
 ·refine(E.ent i e qe).loc (λ_ _=>rfl) s2 λb hb=>?_;rw[aJ (show b≠a from λz=>off i e qe (z▸hb))];exact(Ent.fz (E.ent i e qe) hb).2
theorem ar.tell (E:`y){e0:Ent}(hi:Z[i]?∣e0)(ho:en.ok K H R (σ[i]?).join)(Yx:∀b∈en.fp (σ[i]?).join,b∈e0.fp (σ[i]?).join):ar K σ H0 R0 H R (Z.set i en):=by
 refine⟨E.ext,λj e q=>?_,λj e b q w=>?_,λj k e e' b q q' w w'=>?_,by rw[Tb];exact E.len⟩
 ·obtain⟨rfl,rfl,_⟩ | ⟨hj,q1⟩:=set_at q
  ·exact ho
  ·exact E.ent j e q1
 ·obtain⟨rfl,rfl,_⟩ | ⟨hj,q1⟩:=set_at q
  ·exact E.nw _ _ b hi (Yx b w)
  ·exact E.nw j e b q1 w
 ·obtain⟨rfl,rfl,_⟩ | ⟨hj,q1⟩:=set_at q
  ·obtain⟨rfl,rfl,_⟩ | ⟨hk,Zg⟩:=set_at q'
   ·rfl
   ·exact E.ds _ _ _ _ b hi Zg (Yx b w) w'
  ·obtain⟨rfl,rfl,_⟩ | ⟨hk,Zg⟩:=set_at q'
   ·exact E.ds _ _ _ _ b q1 hi w (Yx b w')
   ·exact E.ds _ _ _ _ b q1 Zg w w'
noncomputable def Wk:Ga->Ga->Prop
 | [],[]=>True
 | e::r,e'::r'=>(e'=e∨e'= .no)/\Wk r r'
 | _,_=>False
theorem Wk.len:∀{Z Γ':Ga},Wk Z Γ'->Γ'.length=Z.length
 | [],[],_=>rfl
 | _::_,_::_,h=>by rw[SE,SE,Wk.len h.2]
theorem Wk.at:∀{Z Γ':Ga},Wk Z Γ'->∀(i:Nat)(e:Ent),Γ'[i]?∣e->e= .no∨Z[i]?∣e
 | [],[],_,i,e,q=>by simp at q
 | a::_,b::_,h,0,e,q=>by
   simp at q;obtain z | z:=h.1
   ·right;simp[← q,z]
   ·left;rw[← q,z]
 | a::r,b::r',h,i+1,e,q=>by
   simp at q;have:=Wk.at h.2 i e q;simpa using this
theorem Wk.refl:∀Z:Ga,Wk Z Z
 | []=>trivial
 | _::r=>⟨.inl rfl,Wk.refl r⟩
theorem ar.weak (E:`y)(w:Wk Z Γ'):ar K σ H0 R0 H R Γ':=by
 refine⟨E.ext,λi e q=>?_,λi e a q z=>?_,λi j e e' a q q' z z'=>?_,w.len.trans E.len⟩
 ·obtain rfl | q:=w.at i e q
  ·trivial
  ·exact E.ent i e q
 ·obtain rfl | q:=w.at i e q
  ·cases z
  ·exact E.nw i e a q z
 ·obtain rfl | q:=w.at i e q
  ·cases z
  ·obtain rfl | q':=w.at j e' q'
   ·cases z'
   ·exact E.ds i j e e' a q q' z z'
end
variable {Γ1 Γ2 Γ3:Ga}{β γ:Type}{pos:Pos}{j:Nat}{n:Int}{b c:Expr}{op:CmpOp}{x:Str}{ys:`x}{ra:Rep α}{rb:Rep β}{rc:Rep γ}{z:γ}
section
def EV (X:Cx)(e:Expr)(Z:Ga){α:Type}(r:Rep α)(y:α)(Γ':Ga):Prop:=
 ∀(σ:St)(H0 R0 H R:Hp),ar X.K σ H0 R0 H R Z->∀Q:VK,(∀v H' R',ar X.K σ H0 R0 H' R' Γ'->av R R'->r.R X.K R' v y->Q v H')->fE X e σ H Q
def bc (X:Cx)(e:Expr)(Z:Ga){α:Type}(r:Rep α)(ys:`x)(Γ':Ga):Prop:=
 ∀(σ:St)(H0 R0 H R:Hp),ar X.K σ H0 R0 H R Z->∀Q:VK,(∀a vs H' R',ar X.K σ H0 R0 H' R' Γ'->av R R'->H' a∣.lst vs->R' a=none->H0 a=none->Off a σ Γ'->PySem.Paired (r.R X.K R') vs ys->ys.length<=Vn->Q (.ref a) H')->fE X e σ H Q
def TV (X:Cx)(e:Expr)(Z:Ga)(b:Bool)(Γ':Ga):Prop:=
 ∀(σ:St)(H0 R0 H R:Hp),ar X.K σ H0 R0 H R Z->∀Q:Bool->Hp->Prop,(∀H' R',ar X.K σ H0 R0 H' R' Γ'->av R R'->Q b H')->Fe X e σ H Q
def TW (X:Cx)(e:Expr)(Z:Ga)(b:Bool)(Γ':Ga):Prop:=
 ∀(σ:St)(H0 R0 H R:Hp),ar X.K σ H0 R0 H R Z->∀Q:Bool->Hp->Prop,(∀H' R',ar X.K σ H0 R0 H' R' Γ'->av R R'->Q b H')->Fb X e σ H Q
def TF (X:Cx)(es:R6)(Z:Ga)(b:Bool)(Γ':Ga):Prop:=
 ∀(σ:St)(H0 R0 H R:Hp),ar X.K σ H0 R0 H R Z->∀Q:Bool->Hp->Prop,(∀H' R',ar X.K σ H0 R0 H' R' Γ'->av R R'->Q b H')->mm X es σ H Q
def BG (X:Cx)(tg:Expr){α:Type}(r:Rep α)(bf:α->Ga->Ga):Prop:=
 ∀(σ:St)(H0 R0 H R:Hp)(Z:Ga)(v:V)(x:α),ar X.K σ H0 R0 H R Z->r.R X.K R v x->∀Q:St->Hp->Prop,(∀σ',ar X.K σ' H0 R0 H R (bf x Z)->Q σ' H)->mn X tg v σ H Q
abbrev RT:=Hp->V->Hp->Hp->Prop
def WS (X:Cx)(Y1:List Stmt)(Z:Ga)(N:Ga->Prop)(T:RT):Prop:=
 ∀(σ:St)(H0 R0 H R:Hp),ar X.K σ H0 R0 H R Z->∀D:Ends,(∀σ' H' R' Γ',ar X.K σ' H0 R0 H' R' Γ'->av R R'->N Γ'->D.nx σ' H')->(∀v H' R',Ext H0 R0 H' R'->T H0 v H' R'->D.rt v H')->vP X Y1 D σ H
def W1 (X:Cx)(st:Stmt)(Z:Ga)(N:Ga->Prop)(T:RT):Prop:=
 ∀(σ:St)(H0 R0 H R:Hp),ar X.K σ H0 R0 H R Z->∀D:Ends,(∀σ' H' R' Γ',ar X.K σ' H0 R0 H' R' Γ'->av R R'->N Γ'->D.nx σ' H')->(∀v H' R',Ext H0 R0 H' R'->T H0 v H' R'->D.rt v H')->En X st D σ H
def cq (K:Xt){β:Type}(r:Rep β)(P:β->Prop):RT:=λ_ v _ R'=>∃y,r.R K R' v y/\P y
def DZ (K:Xt){β:Type}(r:Rep β)(P:List β->Prop):RT:=λH0 v H' R'=>∃a vs ys,v= .ref a/\H0 a=none/\H' a∣.lst vs/\R' a=none/\PySem.Paired (r.R K R') vs ys/\ys.length<=Vn/\P ys
theorem bc.im (h:bc X e Z r ys Γ1):EV X e Z (ae r) ys Γ1:=by
 intro σ H0 R0 H R E Q q;refine h σ H0 R0 H R E Q λa vs H' R' E' s1 ha hR h0 off p z=>?_;let s2:av R' (upd R' a (.lst vs)):=av.fresh hR _;exact q (.ref a) H' (upd R' a (.lst vs)) (E'.su ha hR h0 off) `E ⟨a,vs,rfl,aG,Paired.map (λ_ _=>r.mono s2) p,z⟩
theorem EV.cast {y y':α}(h:EV X e Z r y Γ1)(e1:y=y'):EV X e Z r y' Γ1:=e1▸h
theorem TV.cast {b b':Bool}(h:TV X e Z b Γ1)(e1:b=b'):TV X e Z b' Γ1:=e1▸h
theorem aa (i:Nat){x:Str}{y:α}(hΓ:Z[i]?∣.im r y)(hN:`p):EV X `bE Z r y Z:=by
 intro σ H0 R0 H R E Q q;let⟨v,e,h⟩:=E.ent i _ hΓ;refine eS (aX hN) ⟨v,?_,q v H R E `Z h⟩;cases es:σ[i]? with
 | none=>rw[es] at e;cases e
 | some o=>rw[es] at e;exact congrArg some e
theorem ac {i:Int}:EV X (.Constant (.int i) j pos) Z ah i Z:=λ_ _ _ _ _ E _ q=>eS Cm (q _ _ _ E `Z rfl)
theorem m7 {b:Bool}:EV X (.Constant (.bool b) j pos) Z cU b Z:=λ_ _ _ _ _ E _ q=>eS AL (q _ _ _ E `Z rfl)
theorem fO {x:Str}{t:Tok}(hm:X.mg x∣.int n t)(hg:Gl X x:=by rfl)(hd:YV x:=by decide):EV X `bE Z ah n Z:=
 λ_ _ _ _ _ E _ q=>eS (jJ (v:=.int n) hg hm ⟨t,rfl⟩ hd) (q (.int n) _ _ E `Z rfl)
theorem kH {op:Operator}{r2:R2}{a:Expr}{x:α}{y:β}(ho:eW X (VQ op) r2)(ha:EV X a Z ra x Γ1)(hb:EV X b Γ1 rb y Γ2)(hz:∀(R:Hp) v u H Q,ra.R X.K R v x->rb.R X.K R u y->(∀w,rc.R X.K R w z->Q w H)->r2 v u H Q):EV X (.BinOp a op b pos) Z rc z Γ2:=by
 intro σ H0 R0 H R E Q q;refine eS (Gv ho aO aO) `k;exact hz R2 v u H2 _ (ra.mono s2 e1) e2 λw hw=>q w H2 R2 E2 `E hw
section
variable {a:Expr}{x y z:Int}
theorem bZ (ha:EV X a Z ah x Γ1)(hb:EV X b Γ1 ah y Γ2):EV X (.BinOp a .Add b pos) Z ah (x+y) Γ2:=kH L1 ha hb λR v u H Q e1 e2 q=>⟨x,y,e1,e2,q _ rfl⟩
theorem h8 (ha:EV X a Z ah x Γ1)(hb:EV X b Γ1 ah y Γ2):EV X (.BinOp a .Sub b pos) Z ah (x-y) Γ2:=kH LM ha hb λR v u H Q e1 e2 q=>⟨x,y,e1,e2,q _ rfl⟩
theorem LZ (ha:EV X a Z ah x Γ1)(hb:EV X b Γ1 ah y Γ2)(h:Bp x y):EV X (.BinOp a .Mult b pos) Z ah (x*y) Γ2:=kH Kl ha hb λR v u H Q e1 e2 q=>⟨x,y,e1,e2,h,q _ rfl⟩
theorem cY (ha:EV X a Z ah x Γ1)(hb:EV X b Γ1 ah y Γ2)(h:0<y):EV X (.BinOp a .Mod b pos) Z ah (x%y) Γ2:=kH LJ ha hb λR v u H Q e1 e2 q=>⟨x,y,e1,e2,h,q _ rfl⟩
theorem mM (ha:EV X a Z ah x Γ1)(hb:EV X b Γ1 ah y Γ2)(h:MU x y):EV X (.BinOp a .FloorDiv b pos) Z ah (x/y) Γ2:=kH HY ha hb λR v u H Q e1 e2 q=>⟨x,y,e1,e2,h,q _ rfl⟩
theorem vU (ha:EV X a Z ah x Γ1)(hb:EV X b Γ1 ah y Γ2)(h:K7 x y):EV X (.BinOp a .Pow b pos) Z ah (x ^ y.toNat) Γ2:=kH Lu ha hb λR v u H Q e1 e2 q=>⟨x,y,e1,e2,h,q _ rfl⟩
theorem cj (ha:EV X a Z ah x Γ1):EV X (.UnaryOp .USub a pos) Z ah (-x) Γ1:=by
 intro σ H0 R0 H R E Q q;exact eS (OH Kv aO) (ha σ H0 R0 H R E _ λv H1 R1 E1 s1 e1=>⟨x,e1,q _ H1 R1 E1 s1 rfl⟩)
end
structure iN (X:Cx)(op:CmpOp){α β:Type}(ra:Rep α)(rb:Rep β)(x:α)(y:β)(k:Bool):Prop where
 r2:∃r,eW X (Vy op) r/\∀(R H:Hp) v u Q,av R H->ra.R X.K R v x->rb.R X.K R u y->Q (.bl k) H->r v u H Q
theorem ja {a:Expr}{x:α}{y:β}{k:Bool}(c:iN X op ra rb x y k)(ha:EV X a Z ra x Γ1)(hb:EV X b Γ1 rb y Γ2)(hm:VI op b=false:=by first | exact tJ _ | with_unfolding_all rfl):
 EV X (.Compare a [op] [b] pos) Z cU k Γ2:=by
 let⟨r,ho,hr⟩:=c.r2;intro σ H0 R0 H R E Q q;refine eS (Ir ho aO aO hm) `k;exact hr R2 H2 v u _ E2.sub (ra.mono s2 e1) e2 (q _ H2 R2 E2 `E rfl)
theorem ay {a:Expr}{x:α}{y:β}{k:Bool}(c:iN X op ra rb x y k)(ha:EV X a Z ra x Γ1)(hb:EV X b Γ1 rb y Γ2)(hm:VI op b=false:=by first | exact tJ _ | with_unfolding_all rfl):
 TV X (.Compare a [op] [b] pos) Z k Γ2:=by
 let⟨r,ho,hr⟩:=c.r2;intro σ H0 R0 H R E Q q;refine tS (Jh ho aO aO hm) `k;exact hr R2 H2 v u _ E2.sub (ra.mono s2 e1) e2 ⟨k,rfl,q H2 R2 E2 `E⟩
section
variable {x y:Int}
theorem nD:iN X .Lt ah ah x y (decide (x<y)):=⟨_,Nw,λR H v u Q _ e1 e2 q=>⟨x,y,e1,e2,q⟩⟩
theorem xY:iN X .LtE ah ah x y (decide (x<=y)):=⟨_,Nu,λR H v u Q _ e1 e2 q=>⟨x,y,e1,e2,q⟩⟩
theorem jz:iN X .Gt ah ah x y (decide (y<x)):=⟨_,OW,λR H v u Q _ e1 e2 q=>⟨x,y,e1,e2,q⟩⟩
theorem Q4:iN X .GtE ah ah x y (decide (y<=x)):=⟨_,Nf,λR H v u Q _ e1 e2 q=>⟨x,y,e1,e2,q⟩⟩
theorem iD:iN X .Eq ah ah x y (decide (x=y)):=⟨_,Hc,λR H v u Q _ e1 e2 q=>by
 cases e1;cases e2
 exact⟨rfl,by rw[show decide (V.int x=V.int y)=decide (x=y) by rw[pP];exact Sd x y];exact q⟩⟩
theorem Fz:iN X .NotEq ah ah x y (!decide (x=y)):=⟨_,AI,λR H v u Q _ e1 e2 q=>by
 cases e1;cases e2
 exact⟨rfl,by rw[show decide (V.int x=V.int y)=decide (x=y) by rw[pP];exact Sd x y];exact q⟩⟩
theorem vM {x y:Bool}:iN X .NotEq cU cU x y (!decide (x=y)):=⟨_,AI,λR H v u Q _ e1 e2 q=>by
 cases e1;cases e2
 exact⟨rfl,by rw[show decide (V.bl x=V.bl y)=decide (x=y) by rw[wQ];exact Sd x y];exact q⟩⟩
end
variable {a:Expr}{x:Bool}{y:Bool}{rest:R6}
theorem rT {ZO:CmpOp}{x:α}{y:β}{k k':Bool}(c1:iN X op ra rb x y k)(c2:iN X ZO rb rc y z k')(ha:EV X a Z ra x Z)(hb:EV X b Z rb y Z)(hc:EV X c Z rc z Z)(hm:lastMarks [op,ZO] [b,c]=false:=by with_unfolding_all rfl):EV X (.Compare a [op,ZO] [b,c] pos) Z cU (k&&k') Z:=by
 let⟨r,ho,hr⟩:=c1.r2;let⟨r',Zt,Y7⟩:=c2.r2;intro σ H0 R0 H R E Q q;refine eS (Fq ho Zt aO aO aO hm) `k;refine hr R2 H2 v u _ E2.sub (ra.mono s2 e1) e2 ⟨k,rfl,?_⟩;cases k with
 | false=>exact pH (q _ H2 R2 E2 `E rfl)
 | true=>exact oJ (hc σ H0 R0 H2 R2 E2 _ λw H3 R3 E3 s3 e3=>Y7 R3 H3 u w _ E3.sub (rb.mono s3 e2) e3 (q _ H3 R3 E3 `bM rfl))
theorem E9 {ZO:CmpOp}{x:α}{y:β}{k k':Bool}(c1:iN X op ra rb x y k)(c2:iN X ZO rb rc y z k')(ha:EV X a Z ra x Z)(hb:EV X b Z rb y Z)(hc:EV X c Z rc z Z)(hm:lastMarks [op,ZO] [b,c]=false:=by with_unfolding_all rfl):TV X (.Compare a [op,ZO] [b,c] pos) Z (k&&k') Z:=by
 let⟨r,ho,hr⟩:=c1.r2;let⟨r',Zt,Y7⟩:=c2.r2;intro σ H0 R0 H R E Q q;refine tS (Fw ho Zt aO aO aO hm) `k;refine hr R2 H2 v u _ E2.sub (ra.mono s2 e1) e2 ⟨k,rfl,?_⟩;cases k with
 | false=>exact pH ⟨false,rfl,q H2 R2 E2 `E⟩
 | true=>exact oJ (hc σ H0 R0 H2 R2 E2 _ λw H3 R3 E3 s3 e3=>Y7 R3 H3 u w _ E3.sub (rb.mono s3 e2) e3 ⟨k',rfl,q H3 R3 E3 `bM⟩)
theorem sW {op:BoolOp}{x:α}(h:EV X a Z r x Γ1):EV X (.BoolOp op [a] pos) Z r x Γ1:=λσ H0 R0 H R E Q q=>eS (JL aO) (h σ H0 R0 H R E Q q)
theorem oS (ha:EV X a Z cU x Z)(hb:x=true->EV X (.BoolOp .And (b::rest) pos) Z cU y Z):EV X (.BoolOp .And (a::b::rest) pos) Z cU (x&&y) Z:=by
 intro σ H0 R0 H R E Q q;refine eS (M0 aO aO) (ha σ H0 R0 H R E _ λv H1 R1 E1 s1 e1=>⟨x,e1,?_⟩);cases x with
 | false=>exact pH (q _ H1 R1 E1 s1 rfl)
 | true=>exact oJ (hb rfl σ H0 R0 H1 R1 E1 _ λw H3 R3 E3 s3 e3=>q w H3 R3 E3 (s1.trans s3) e3)
theorem xE (ha:EV X a Z cU x Γ1):EV X (.UnaryOp .Not a pos) Z cU (!x) Γ1:=by
 intro σ H0 R0 H R E Q q;exact eS (Ki aO) (ha σ H0 R0 H R E _ λv H1 R1 E1 s1 e1=>⟨x,e1,q _ H1 R1 E1 s1 rfl⟩)
theorem gj (ha:TV X a Z x Γ1):TV X (.UnaryOp .Not a pos) Z (!x) Γ1:=by
 intro σ H0 R0 H R E Q q;exact tS (L9 sV) (ha σ H0 R0 H R E _ λH1 R1 E1 s1=>q H1 R1 E1 s1)
theorem TW.tv {b:Bool}(h:TW X e Z b Γ1):TV X e Z b Γ1:=λσ H0 R0 H R E Q q=>tS (Ll.pt) (h σ H0 R0 H R E Q q)
theorem eO (ha:TV X a Z x Γ1):TW X (.BoolOp .And [a] pos) Z x Γ1:=λσ H0 R0 H R E Q q=>wS (Jq sV) (ha σ H0 R0 H R E Q q)
theorem jk (ha:TV X a Z x Γ1):TW X (.BoolOp .Or [a] pos) Z x Γ1:=λσ H0 R0 H R E Q q=>wS (JU sV) (ha σ H0 R0 H R E Q q)
theorem de (ha:TV X a Z x Z)(hb:x=true->TW X (.BoolOp .And (b::rest) pos) Z y Z):TW X (.BoolOp .And (a::b::rest) pos) Z (x&&y) Z:=by
 intro σ H0 R0 H R E Q q;refine wS (Mb sV Ll) (ha σ H0 R0 H R E _ λH1 R1 E1 s1=>?_);cases x with
 | false=>exact pH (q H1 R1 E1 s1)
 | true=>exact oJ (hb rfl σ H0 R0 H1 R1 E1 _ λH3 R3 E3 s3=>q H3 R3 E3 (s1.trans s3))
theorem jd (ha:TV X a Z x Z)(hb:x=false->TW X (.BoolOp .Or (b::rest) pos) Z y Z):TW X (.BoolOp .Or (a::b::rest) pos) Z (x ||y) Z:=by
 intro σ H0 R0 H R E Q q;refine wS (M9 sV Ll) (ha σ H0 R0 H R E _ λH1 R1 E1 s1=>?_);cases x with
 | true=>exact oJ (q H1 R1 E1 s1)
 | false=>exact pH (hb rfl σ H0 R0 H1 R1 E1 _ λH3 R3 E3 s3=>q H3 R3 E3 (s1.trans s3))
theorem bV {k:Bool}(ha:EV X a Z cU k Γ1)(he:∀whole,VZ a X.env whole=(do let v ← whole;Wa a.pos;VP [v] (truthy v)):=by intro _;rfl):TV X a Z k Γ1:=by
 intro σ H0 R0 H R E Q q;exact tS (Me aO he) (ha σ H0 R0 H R E _ λv H1 R1 E1 s1 e1=>⟨k,e1,q H1 R1 E1 s1⟩)
theorem eu:TF X [] Z true Z:=λσ H0 R0 H R E Q q=>fS DT (q H R E `Z)
theorem ji {b:Bool}(h:TV X c Z b Γ1):TF X [c] Z b Γ1:=λσ H0 R0 H R E Q q=>fS (Lv sV) (h σ H0 R0 H R E Q q)
theorem lU {k:Bool}{x y:α}(hc:TV X c Z k Γ1)(ha:k=true->EV X a Γ1 r x Γ2)(hb:k=false->EV X b Γ1 r y Γ2):EV X (.IfExp c a b pos) Z r (if k then x else y) Γ2:=by
 intro σ H0 R0 H R E Q q;refine eS (Ed sV aO aO) (hc σ H0 R0 H R E _ λH1 R1 E1 s1=>?_);cases k with
 | true=>exact oJ (ha rfl σ H0 R0 H1 R1 E1 _ λv H3 R3 E3 s3 e3=>q v H3 R3 E3 (s1.trans s3) e3)
 | false=>exact pH (hb rfl σ H0 R0 H1 R1 E1 _ λv H3 R3 E3 s3 e3=>q v H3 R3 E3 (s1.trans s3) e3)
end
variable {δ:Type}{es:R6}{xs:`x}{p1 p2:Pos}{r':Rep β}{F:α->β->Prop}
section
variable {i:Int}{x:α}{a:Expr}
structure Pk:Type 1 where
 {α:Type}
 r:Rep α
 x:α
inductive kq (K:Xt) (R:Hp):List V->List Pk->Prop
 | nil:kq K R [] []
 | cons {v:V} {vs:`K} {p:Pk} {ps:List Pk}:p.r.R K R v p.x->kq K R vs ps->kq K R (v::vs) (p::ps)
def HA (X:Cx)(es:R6)(Z:Ga)(ps:List Pk)(Γ':Ga):Prop:=
 ∀(σ:St)(H0 R0 H R:Hp),ar X.K σ H0 R0 H R Z->∀Q:List V->Hp->Prop,(∀vs H' R',ar X.K σ H0 R0 H' R' Γ'->av R R'->kq X.K R' vs ps->Q vs H')->AF X es σ H Q
theorem ax:HA X [] Z [] Z:=λσ H0 R0 H R E Q q=>aS br (q [] H R E `Z .nil)
theorem ag {ps:List Pk}(he:EV X e Z r x Γ1)(hr:HA X es Γ1 ps Γ2)(hs:dk X e es:=by rfl):HA X (e::es) Z (⟨r,x⟩::ps) Γ2:=by
 intro σ H0 R0 H R E Q q;refine aS (aK aO oz hs) (he σ H0 R0 H R E _ λv H1 R1 E1 s1 e1=>hr σ H0 R0 H1 R1 E1 _ λvs H2 R2 E2 s2 e2=>?_);exact q (v::vs) H2 R2 E2 `E (.cons (r.mono s2 e1) e2)
def EA (X:Cx)(es:R6)(Z:Ga){α:Type}(r:Rep α)(ys:`x)(Γ':Ga):Prop:=
 ∀(σ:St)(H0 R0 H R:Hp),ar X.K σ H0 R0 H R Z->∀Q:List V->Hp->Prop,(∀vs H' R',ar X.K σ H0 R0 H' R' Γ'->av R R'->PySem.Paired (r.R X.K R') vs ys->Q vs H')->AF X es σ H Q
theorem aN:EA X [] Z r [] Z:=λσ H0 R0 H R E Q q=>aS br (q [] H R E `Z .nil)
theorem aq (he:EV X e Z r x Γ1)(hr:EA X es Γ1 r ys Γ2)(hs:dk X e es:=by rfl):EA X (e::es) Z r (x::ys) Γ2:=by
 intro σ H0 R0 H R E Q q;refine aS (aK aO oz hs) (he σ H0 R0 H R E _ λv H1 R1 E1 s1 e1=>hr σ H0 R0 H1 R1 E1 _ λvs H2 R2 E2 s2 e2=>?_);exact q (v::vs) H2 R2 E2 `E (.cons (r.mono s2 e1) e2)
theorem aQ (h:EA X es Z r ys Γ1)(hz:ys.length<=Vn):bc X (.List es pos) Z r ys Γ1:=by
 intro σ H0 R0 H R E Q q;refine eS (yp oz) (h σ H0 R0 H R E _ λvs H1 R1 E1 s1 p1=>⟨by rw[p1.length];exact hz,λp hp=>?_⟩);exact q p vs _ R1 (E1.grow (Ext.ee E1.sub hp _)) s1 aG (E1.sub.free hp) (E1.ext.h.free hp) (E1.off hp) p1 hz
theorem pO {k:Nat}{y:β}(h:HA X [a,b] Z [⟨r,x⟩,⟨r',y⟩] Γ1):EV X (.Tuple [a,b] k pos) Z (dO r r') (x,y) Γ1:=by
 intro σ H0 R0 H R E Q q;refine eS (xK oz) (h σ H0 R0 H R E _ λvs H1 R1 E1 s1 p1=>?_);obtain⟨h1,h2⟩:∃v1 v2,vs=[v1,v2]/\r.R X.K R1 v1 x/\r'.R X.K R1 v2 y:=by
  cases p1 with
  | cons a1 t=>cases t with
    | cons a2 t2=>cases t2;exact⟨_,_,rfl,a1,a2⟩
 let⟨v2,rfl,e1,e2⟩:=h2;refine⟨by show 2<=Vn;decide,λp hp=>?_⟩;let s2:av R1 (upd R1 p (.tup [h1,v2])):=av.fresh (E1.sub.free hp) _;exact q _ _ (upd R1 p (.tup [h1,v2])) (E1.grow (Ext.fresh E1.sub hp _)) `E ⟨p,_,_,rfl,aG,r.mono s2 e1,r'.mono s2 e2⟩
theorem eC {F:α->β->Prop}:∀{vs:`x}{xs:List β},PySem.Paired F vs xs->∀{i:Nat}{y:β},xs[i]?∣y->∃v,vs[i]?∣v/\F v y
 | _,_,.nil,i,y,h=>by simp at h
 | _,_,.cons h t,0,y,e=>by simp at e;subst e;exact⟨_,rfl,h⟩
 | _,_,.cons h t,i+1,y,e=>by
   let⟨v,e1,e2⟩:=eC t (i:=i) (y:=y) (~~~e);exact⟨v,by simpa using e1,e2⟩
theorem iW {vs:`x}{xs:List β}(p:PySem.Paired F vs xs){y:β}(h:cE xs i∣y):∃v,cE vs i∣v/\F v y:=by
 unfold cE at h ⊢;rw[p.length];cases e:gm xs.length i with
 | none=>rw[e] at h;cases h
 | some j=>rw[e] at h;exact eC p h
theorem jT (h0:0<=i)(h1:i<xs.length):cE xs i=xs[i.toNat]?:=by
 let e:i=((i.toNat:Nat):Int):=`a
 let hl:i.toNat<xs.length:=`a
 let q:cE xs ((i.toNat:Nat):Int)=some xs[i.toNat]:=IA (So hl);rw[← e] at q;rw[q,So hl]
theorem a9 {y:α}(ha:EV X a Z (ae r) xs Γ1)(hb:EV X b Γ1 ah i Γ2)(h:cE xs i∣y)(hs:dU b:=by exact λ_ _=>rfl):EV X (.Subscript a b pos) Z r y Γ2:=by
 intro σ H0 R0 H R E Q q;refine eS (ip gT aO aO hs) `k;let⟨p,vs,rfl,ha,pp,z⟩:=(ae r).mono s2 e1;let⟨w,e3,e4⟩:=iW pp h;exact⟨p,vs,i,w,rfl,e2,bu.of (E2.sub _ _ ha),e3,q w H2 R2 E2 `E e4⟩
theorem v8 {xs:RS}{y:Int}(ha:EV X a Z ck xs Γ1)(hb:EV X b Γ1 ah i Γ2)(h:cE xs i∣y)(hs:dU b:=by exact λ_ _=>rfl):EV X (.Subscript a b pos) Z ah y Γ2:=by
 intro σ H0 R0 H R E Q q;refine eS (ip gT aO aO hs) `k;let⟨p,rfl,ha,z⟩:=ck.mono s2 e1;let e3:cE (xs.map V.int) i∣.int y:=by
  unfold cE at h ⊢;rw[Ss];cases e:gm xs.length i with
  | none=>rw[e] at h;cases h
  | some j=>
    rw[e] at h;show(xs.map V.int)[j]?=_;rw[Sw,show xs[j]?∣y from h];rfl
 exact⟨p,_,i,_,rfl,e2,E2.sub.seq ha,e3,q _ H2 R2 E2 `E rfl⟩
theorem oZ (j:Nat){x:Str}{y:α}(hb:EV X b Z ah i Γ1)(hΓ:Z[j]?∣.mu r xs)(hΓ1:Γ1[j]?∣.mu r xs)(h:cE xs i∣y)(hN:X.N[j]?∣x:=by rfl)(hv:autoParam (Cd X.env.scope x) vA1)(hs:dU b:=by exact λ_ _=>rfl)(hd:YV x:=by decide)(Z4:Cd0 x:=by decide):EV X (.Subscript `m b pos) Z r y Γ1:=by
 intro σ H0 R0 H R E Q q;let⟨a,vs,e,_,_,_⟩:=E.ent j _ hΓ;refine eS (ip gT (aX ⟨hN,hv,hd,Z4⟩) aO hs) ⟨.ref a,?_,hb σ H0 R0 H R E _ λu H2 R2 E2 s2 e2=>?_⟩
 ·cases es:σ[j]? with
  | none=>rw[es] at e;cases e
  | some o=>rw[es] at e;exact congrArg some e
 ·let⟨a',Yy,e',ha,hR,pp⟩:=E2.ent j _ hΓ1;rw[e] at e';cases e'
  let⟨w,e3,e4⟩:=iW pp h;exact⟨a,Yy,i,w,rfl,e2,bu.of ha,e3,q w H2 R2 E2 s2 e4⟩
section
variable {a:Expr}{w:Row}
theorem mP {x:α}{y:β}(ha:EV X a Z r x Γ1)(k:∀(R:Hp) v,r.R X.K R v x->∃p vs w,v= .ref p/\R p∣.tup vs/\cE vs n∣w/\r'.R X.K R w y):EV X (.Subscript a (.Constant (.int n) j p1) pos) Z r' y Γ1:=by
 intro σ H0 R0 H R E Q q;refine eS (ip Dq aO Cm (λ_ _=>rfl)) `B;let⟨p,vs,w,rfl,hp,e3,e4⟩:=k R1 v e1;exact⟨p,vs,n,w,rfl,rfl,dY.of (E1.sub _ _ hp),e3,q w H1 R1 E1 s1 e4⟩
theorem yR (ha:EV X a Z fh w Γ1):EV X (.Subscript a (.Constant (.int 0) j p1) pos) Z ah w.1 Γ1:=mP ha λR v ⟨p,e,h⟩=>⟨p,_,_,e,h,rfl,rfl⟩
theorem IZ (ha:EV X a Z fh w Γ1):EV X (.Subscript a (.Constant (.int 1) j p1) pos) Z ah w.2.1 Γ1:=mP ha λR v ⟨p,e,h⟩=>⟨p,_,_,e,h,rfl,rfl⟩
theorem JB (ha:EV X a Z fh w Γ1):EV X (.Subscript a (.Constant (.int 2) j p1) pos) Z ah w.2.2.1 Γ1:=mP ha λR v ⟨p,e,h⟩=>⟨p,_,_,e,h,rfl,rfl⟩
theorem yN (ha:EV X a Z fh w Γ1):EV X (.Subscript a (.Constant (.int 3) j p1) pos) Z ah w.2.2.2 Γ1:=mP ha λR v ⟨p,e,h⟩=>⟨p,_,_,e,h,rfl,rfl⟩
theorem yx {x:α×β}(ha:EV X a Z (dO r r') x Γ1):EV X (.Subscript a (.Constant (.int 0) j p1) pos) Z r x.1 Γ1:=mP ha λR v ⟨p,v1,v2,e,h,h1,h2⟩=>⟨p,_,v1,e,h,rfl,h1⟩
theorem tI {x:α×β}(ha:EV X a Z (dO r r') x Γ1):EV X (.Subscript a (.Constant (.int 1) j p1) pos) Z r' x.2 Γ1:=mP ha λR v ⟨p,v1,v2,e,h,h1,h2⟩=>⟨p,_,v2,e,h,rfl,h2⟩
end
variable {a:Expr}
def OV (X:Cx)(e:Option Expr)(Z:Ga)(o:`br):Prop:=∃t,PO X e t/\∀(σ:St)(H0 R0 H R:Hp),ar X.K σ H0 R0 H R Z->∀Q:Option Int->Hp->Prop,(∀H' R',ar X.K σ H0 R0 H' R' Z->av R R'->Q o H')->t σ H Q
theorem ov_none:OV X none Z none:=⟨_,IY,λσ H0 R0 H R E Q q=>q H R E `Z⟩
theorem ov_some {i:Int}(h:EV X e Z ah i Z):OV X (some e) Z (some i):=⟨_,HQ aO,λσ H0 R0 H R E Q q=>h σ H0 R0 H R E _ λv H1 R1 E1 s1 e1=>⟨i,e1,q H1 R1 E1 s1⟩⟩
def cut (xs:`x)(lo hi:`br):List α:=(xs.drop (HT.Yl xs.length 0 lo)).take `bj
theorem mv {F:α->β->Prop}:∀(n:Nat){vs:`x}{xs:List β},PySem.Paired F vs xs->PySem.Paired F (vs.drop n) (xs.drop n)
 | 0,_,_,h=>h
 | _+1,_,_,.nil=>.nil
 | n+1,_,_,.cons _ t=>mv n t
theorem jN {F:α->β->Prop}:∀(n:Nat){vs:`x}{xs:List β},PySem.Paired F vs xs->PySem.Paired F (vs.take n) (xs.take n)
 | 0,_,_,_=>.nil
 | _+1,_,_,.nil=>.nil
 | n+1,_,_,.cons h t=>.cons h (jN n t)
theorem dM {F:α->β->Prop}:∀{vs:`x}{xs:List β}{Yy:`x}{xs':List β},PySem.Paired F vs xs->PySem.Paired F Yy xs'->PySem.Paired F (vs++Yy) (xs++xs')
 | _,_,_,_,.nil,h=>h
 | _,_,_,_,.cons h t,h'=>.cons h (dM t h')
theorem Bk (xs:`x)(lo hi:`br):(cut xs lo hi).length<=xs.length:=by
 unfold cut;rw[SW,T7];cbv
theorem lQ {lo hi:Option Expr}{l h:`br}(ha:EV X a Z (ae r) xs Z)(hl:OV X lo Z l)(hh:OV X hi Z h):bc X (.Subscript a (.Slice lo hi none p2) pos) Z r (cut xs l h) Z:=by
 intro σ H0 R0 H R E Q q;let⟨tl,pl,kl⟩:=hl;let⟨th,ph,kh⟩:=hh;refine eS (nI Jx aO pl ph) `G;let⟨p,vs,rfl,hp,pp,z⟩:=(ae r).mono (s2.trans s3) e1;refine⟨p,vs,rfl,bu.of (E3.sub _ _ hp),λd hd=>?_⟩;refine q d _ _ R3 (E3.grow (Ext.ee E3.sub hd _)) `bM aG (E3.sub.free hd) (E3.ext.h.free hd) (E3.off hd) ?_ (UK (Bk _ _ _) z);unfold cut mz;rw[pp.length];exact jN _ (mv _ pp)
theorem cT (ha:EV X a Z (ae r) xs Γ1)(hb:EV X b Γ1 (ae r) ys Γ2)(hz:xs.length+ys.length<=Vn):bc X (.BinOp a .Add b pos) Z r (xs++ys) Γ2:=by
 intro σ H0 R0 H R E Q q;refine eS (Gv JT aO aO) `k;let⟨p,vs,rfl,hp,pp,z⟩:=(ae r).mono s2 e1;let⟨p',ws,rfl,hp',Y2,z'⟩:=e2;refine⟨p,p',vs,ws,rfl,rfl,E2.sub _ _ hp,E2.sub _ _ hp',by rw[pp.length,Y2.length];exact hz,λd hd=>?_⟩;exact q d _ _ R2 (E2.grow (Ext.ee E2.sub hd _)) `E aG (E2.sub.free hd) (E2.ext.h.free hd) (E2.off hd) (dM pp Y2) (by rw[Sx];exact hz)
theorem eo {p:Pos}(hm:X.mg "len"=none)(ha:EV X a Z (ae r) xs Γ1)(hs:fL X a:=by rfl)(hg:Gl X "len":=by rfl):EV X `aX Z ah (xs.length:Int) Γ1:=by
 intro σ H0 R0 H R E Q q;refine eS (eX gN hg hm VJ `be `c `c hs) `B;let⟨p,vs,rfl,hp,pp,z⟩:=e1;refine⟨p,vs,rfl,.inl (bu.of (E1.sub _ _ hp)),?_⟩;rw[pp.length];exact q _ H1 R1 E1 s1 rfl
theorem uf {p:Pos}{xs:RS}(hm:X.mg "len"=none)(ha:EV X a Z ck xs Γ1)(hs:fL X a:=by rfl)(hg:Gl X "len":=by rfl):EV X `aX Z ah (xs.length:Int) Γ1:=by
 intro σ H0 R0 H R E Q q;refine eS (eX gN hg hm VJ `be `c `c hs) `B;let⟨p,rfl,hp,z⟩:=e1;refine⟨p,_,rfl,.inl (E1.sub.seq hp),?_⟩;rw[Ss];exact q _ H1 R1 E1 s1 rfl
end
variable {y:Str}{N:Ga->Prop}{T:RT}{st:Stmt}
theorem LW (w:Wk Z Γ')(h:N Γ'):WS X [] Z N T:=λσ H0 R0 H R E D dn dr=>MG IC (dn σ H R Γ' (E.weak w) `Z h)
theorem aH (h:N Z):WS X [] Z N T:=LW (Wk.refl Z) h
theorem ai {rest:List Stmt}(h:W1 X st Z (λΓ'=>WS X rest Γ' N T) T):WS X (st::rest) Z N T:=λσ H0 R0 H R E D dn dr=>
 MG (ED QA g8) (h σ H0 R0 H R E {D with nx:=vP X rest D} (λσ' H' R' Γ' E' s' h'=>h' σ' H0 R0 H' R' E' D (λσ2 H2 R2 Γ2 E2 s2=>dn σ2 H2 R2 Γ2 E2 (s'.trans s2)) dr) dr)
theorem aj (h:W1 X st Z N T):WS X [st] Z N T:=λσ H0 R0 H R E D dn dr=>MG (Js QA) (h σ H0 R0 H R E D dn dr)
theorem bo (i:Nat){y:α}(he:EV X e Z r y Γ1)(h:N (Γ1.set i (.im r y)))(hN:X.N.Nodup:=by first | assumption | decide)(hi:X.N[i]?∣x:=by rfl)(hx:`aq)(hs:Vv e (some `m) pos.line X.env=pure false:=by rfl)(hf:autoParam (fU X x) Zj):W1 X (.Assign [.Name x p1] e pos) Z N T:=λσ H0 R0 H R E D dn dr=>
 sS (lr hN hi hx aO hs hf) (he σ H0 R0 H R E _ λv H1 R1 E1 s1 e1=>dn _ H1 R1 _ (E1.set i e1) s1 h)
theorem cF (i:Nat)(he:bc X e Z r ys Γ1)(h:N (Γ1.set i (.mu r ys)))(hN:X.N.Nodup:=by first | assumption | decide)(hi:X.N[i]?∣x:=by rfl)(hx:`aq)(hs:Vv e (some `m) pos.line X.env=pure false:=by rfl)(hf:autoParam (fU X x) Zj):W1 X (.Assign [.Name x p1] e pos) Z N T:=λσ H0 R0 H R E D dn dr=>
 sS (lr hN hi hx aO hs hf) (he σ H0 R0 H R E _ λa vs H1 R1 E1 s1 ha hR h0 off p z=>dn _ H1 R1 _ (E1.Bo (u:=.lst vs) (en:=.mu r ys) i ⟨a,vs,rfl,ha,hR,p⟩ h0 λj e _ q w=>off j e q w) s1 h)
theorem aY {P:α->Prop}{y:α}(he:EV X e Z r y Γ1)(h:P y):W1 X (.Return (some e) pos) Z N (cq X.K r P):=λσ H0 R0 H R E D dn dr=>
 sS (jm aO) (he σ H0 R0 H R E _ λv H1 R1 E1 s1 e1=>dr v H1 R1 E1.ext ⟨y,e1,h⟩)
theorem aZ {a b:List Stmt}{k:Bool}(hc:TV X c Z k Γ1)(h1:k=true->WS X a Γ1 N T)(h2:k=false->WS X b Γ1 N T):W1 X (.If c a b pos) Z N T:=λσ H0 R0 H R E D dn dr=>by
 refine sS (OB sV g8 g8) (hc σ H0 R0 H R E _ λH1 R1 E1 s1=>?_);cases k with
 | true=>exact oJ (h1 rfl σ H0 R0 H1 R1 E1 D (λσ2 H2 R2 Γ2 E2 s2=>dn σ2 H2 R2 Γ2 E2 `E) dr)
 | false=>exact pH (h2 rfl σ H0 R0 H1 R1 E1 D (λσ2 H2 R2 Γ2 E2 s2=>dn σ2 H2 R2 Γ2 E2 `E) dr)
theorem aU (i:Nat)(hN:X.N.Nodup:=by first | assumption | decide)(hi:X.N[i]?∣x:=by rfl)(hx:`aq)(hf:autoParam (fU X x) Zj):
 BG X `bE r (λy Z=>Z.set i (.im r y)):=λσ H0 R0 H R Z v x E h Q q=>gS (gA hN hi hx hf) (q _ (E.set i h))
theorem eQ (i j:Nat){k:Nat}(hc:X.calm=true:=by rfl)(hN:X.N.Nodup:=by first | assumption | decide)(hi:X.N[i]?∣x:=by rfl)(hx:`aq)(hf:autoParam (fU X x) Zj)(hj:X.N[j]?∣y:=by rfl)(hy:`bk)(hf':autoParam (X.fn y=true∨X.env.scope.names.lookup y∣.local) Zj):
 BG X (.Tuple [.Name x p1,.Name y p2] k pos) (dO r r') (λw Z=>(Z.set i (.im r w.1)).set j (.im r' w.2)):=λσ H0 R0 H R Z v w E h Q q=>by
 let⟨a,v1,v2,rfl,ha,e1,e2⟩:=h;exact gS (xv hc (f7 (gA hN hi hx hf) (f7 (gA hN hj hy hf') uJ))) ⟨a,_,rfl,dY.of (E.sub _ _ ha),rfl,v1,[v2],rfl,v2,[],rfl,rfl,q _ ((E.set i e1).set j e2)⟩
variable {body:List Stmt}
section
variable {kvs:List (Int×V)}{y:α}
theorem am (e:(σ[i]?).join∣v):σ[i]?∣some v:=by
 cases es:σ[i]? with
 | none=>rw[es] at e;cases e
 | some o=>rw[es] at e;exact congrArg some e
theorem mR (I:Nat->Ga->Prop){m0:Nat}(h0:I m0 Z)(YJ:∀(m:Nat)(Z:Ga),I m Z->∃(k:Bool)(Γ':Ga),TV X c Z k Γ'/\(k=true->WS X body Γ' (λΓ''=>∃m',m'<m/\I m' Γ'') T)/\(k=false->N Γ'))(hp:Wn `f X.A X.env X.xe:=by exact Wn.never):W1 X (.While c body [] pos) Z N T:=λσ H0 R0 H R E D dn dr=>by
 refine sS (FK hp sV g8) ?_;refine⟨λm σ' H'=>∃R' Γ',ar X.K σ' H0 R0 H' R' Γ'/\av R R'/\I m Γ',⟨m0,R,Z,E,av.refl _,h0⟩,?_⟩;rintro m σ' H' ⟨R',Γ',E',s',hI⟩;let⟨k,Γ2,ht,h1,h2⟩:=YJ m Γ' hI;refine ht σ' H0 R0 H' R' E' _ λH1 R1 E1 s1=>?_;cases k with
 | true=>
   refine oJ ⟨_,λσ2 H2 h=>h,h1 rfl σ' H0 R0 H1 R1 E1 _ (λσ3 H3 R3 Γ3 E3 s3 h3=>?_) dr⟩;let⟨m',hm,hI'⟩:=h3;exact⟨m',hm,R3,Γ3,E3,s'.trans (s1.trans s3),hI'⟩
 | false=>exact pH (dn σ' H1 R1 Γ2 E1 (s'.trans s1) (h2 rfl))
theorem eU (i:Nat){ap cp:Pos}(he:EV X e Z r y Γ1)(hΓ:`ay)(hΓ1:Γ1[i]?∣.mu r xs)(hz:xs.length<Vn)(h:N (Γ1.set i (.mu r (xs++[y]))))(hN:`p)(YH:Vv `I none pos.line X.env=pure false:=by rfl)(Yd:fA X `m "append":=by rfl)(Yt:nk X cp [e]:=by rfl)(Yc:`ae=true:=by rfl)(hs:dk X e []:=by rfl):W1 X (.Expr `I pos) Z N T:=λσ H0 R0 H R E D dn dr=>by
 let⟨a,vs,ea,ha,hR,pp⟩:=E.ent i _ hΓ;refine sS (eD `ao YH) ?_;refine⟨.ref a,am ea,.inl ⟨rfl,vs,bu.of ha⟩,he σ H0 R0 H R E _ λv H1 R1 E1 s1 e1=>?_⟩;let⟨a',Yy,YC,YT,YI,Y2⟩:=E1.ent i _ hΓ1;rw[ea] at YC;cases YC
 refine⟨a,Yy,v,rfl,rfl,YT,by rw[Y2.length];exact hz,?_⟩;exact dn σ _ R1 _ (E1.upd (en:=.mu r (xs++[y])) hΓ1 rfl ea YI ⟨a,_,rfl,aG,YI,dM Y2 (.cons e1 .nil)⟩) s1 h
theorem nZ {F:α->β->Prop}{v:α}{y:β}(h:F v y):∀{vs:`x}{xs:List β}(i:Nat),PySem.Paired F vs xs->PySem.Paired F (vs.set i v) (xs.set i y)
 | _,_,_,.nil=>.nil
 | _,_,0,.cons _ t=>.cons h t
 | _,_,i+1,.cons q t=>.cons q (nZ h i t)
theorem IL (i:Nat){k:Int}(he:EV X e Z r y Γ1)(hb:EV X b Γ1 ah k Γ2)(hΓ1:Γ1[i]?∣.mu r xs)(hΓ2:Γ2[i]?∣.mu r xs)(hj:gm xs.length k∣j)(h:N (Γ2.set i (.mu r (xs.set j y))))(hN:`p)(ha:∀v,VT (.Subscript `m b p2) X.env v=(do
  let ov ← VP [v] (eval `m X.env)
  let iv ← VP [v,ov] (eval b X.env)
  Wa p2
  VP [v,ov,iv] (setItem ov iv v)
  release [v,ov,iv] []):=by intro _;rfl)(hs:We [.Subscript `m b p2] e pos.line X.env=pure false:=by rfl)(hw:Wf [.Subscript `m b p2] e X.env=pure none:=by rfl)(h1:(VS [.Subscript `m b p2] X.env).map (·.2)=[VT (.Subscript `m b p2) X.env]:=by rfl):
 W1 X (.Assign [.Subscript `m b p2] e pos) Z N T:=λσ H0 R0 H R E D dn dr=>by
 refine sS (xR aO (D6 (aX hN) aO set_list ha) hs hw h1) `V;let⟨a,vs,ea,hp,hR,pp⟩:=E1.ent i _ hΓ1;refine⟨.ref a,am ea,hb σ H0 R0 H1 R1 E1 _ λu H2 R2 E2 s2 e2=>?_⟩;let⟨a',Yy,YC,YT,YI,Y2⟩:=E2.ent i _ hΓ2;rw[ea] at YC;cases YC
 refine⟨a,Yy,k,j,rfl,e2,YT,by rw[Y2.length];exact hj,?_⟩;exact dn σ _ R2 _ (E2.upd (en:=.mu r (xs.set j y)) hΓ2 rfl ea YI ⟨a,_,rfl,aG,YI,nZ (r.mono s2 e1) j Y2⟩) `E h
theorem sq {vs:`x}{xs:List β}(p:PySem.Paired F vs xs):PySem.Paired F vs.dropLast xs.dropLast:=by
 rw[List.dropLast_eq_take,List.dropLast_eq_take,p.length];exact jN _ p
theorem xI (i:Nat){ap cp:Pos}(hΓ:`ay)(hy:xs[xs.length-1]?∣y)(hN:`p)(Yd:fA X `m "pop":=by rfl)(Yc:`ae=true:=by rfl):
 EV X (.Call (.Attribute `m "pop" ap) [] [] cp) Z r y (Z.set i (.mu r xs.dropLast)):=by
 intro σ H0 R0 H R E Q q;let⟨a,vs,ea,ha,hR,pp⟩:=E.ent i _ hΓ;let⟨v,hv',hr⟩:=eC pp hy;refine eS (Kh WW PySem.F.slot_list_pop PySem.F.type_list_pop KW (aX hN) Yd Yc) ⟨.ref a,am ea,.inl ⟨rfl,vs,bu.of ha⟩,?_⟩;refine⟨a,vs,v,rfl,rfl,ha,by rw[pp.length];exact hv',?_⟩;exact q v _ R (E.upd hΓ rfl ea hR ⟨a,_,rfl,aG,hR,sq pp⟩) `Z hr
theorem mJ (i:Nat)(hΓ:`ay)(hN:`p)(he:∀whole,VZ `bE X.env whole=(do let v ← whole;Wa (Expr.Name x pos).pos;VP [v] (truthy v)):=by intro _;rfl):TV X `bE Z (!xs.isEmpty) Z:=by
 intro σ H0 R0 H R E Q q;let⟨a,vs,ea,ha,hR,pp⟩:=E.ent i _ hΓ;refine tS (w6 (aX hN) he) ⟨.ref a,am ea, !xs.isEmpty,.inl ⟨vs,bu.of ha,?_⟩,q H R E `Z⟩;cases pp<;>rfl
theorem zT (i:Nat){p:Pos}(hm:X.mg "len"=none)(hΓ:`ay)(hN:`p)(hg:Gl X "len":=by rfl):EV X (.Call (.Name "len" p) [.Name x p1] [] pos) Z ah (xs.length:Int) Z:=by
 intro σ H0 R0 H R E Q q;let⟨a,vs,ea,ha,hR,pp⟩:=E.ent i _ hΓ;refine eS (eX gN hg hm VJ (aK (aX hN) br rfl) `c `c rfl) ⟨.ref a,am ea,a,vs,rfl,.inl (bu.of ha),?_⟩;rw[pp.length];exact q _ H R E `Z rfl
theorem freeze (E:`y)(hΓ:`ay)(hz:xs.length<=Vn):∃R' v,ar K σ H0 R0 H R' (Z.set i (.im (ae r) xs))/\av R R'/\(σ[i]?).join∣v/\(ae r).R K R' v xs:=by
 let⟨a,vs,ea,ha,hR,pp⟩:=E.ent i _ hΓ;let h0:H0 a=none:=E.new i _ a hΓ rfl ea;let s2:av R (upd R a (.lst vs)):=av.fresh hR _;let rr:(ae r).R K (upd R a (.lst vs)) (.ref a) xs:=⟨a,vs,rfl,aG,Paired.map (λ_ _=>r.mono s2) pp,hz⟩;let E1:ar K σ H0 R0 H R (Z.set i .no):=E.tell hΓ trivial λb w=>by cases w
 let E2:=E1.su ha hR h0 λj e q w=>by
  obtain⟨rfl,rfl,_⟩ | ⟨hj,q1⟩:=set_at q
  ·cases w
  ·exact hj (E.ds j i e _ a q1 hΓ w ((Ent.sT (e:=.mu r xs) rfl).mpr ea))
 let hl:i<Z.length:=(Sn.mp hΓ).1;let E3:=E2.tell (i:=i) (e0:=.no) (en:=.im (ae r) xs) (SG hl) ⟨_,ea,rr⟩ λb w=>by cases w
 rw[TR] at E3;exact⟨_,.ref a,E3,s2,ea,rr⟩
theorem WS.freeze (i:Nat){Y1:List Stmt}(hΓ:`ay)(hz:xs.length<=Vn)(h:WS X Y1 (Z.set i (.im (ae r) xs)) N T):WS X Y1 Z N T:=λσ H0 R0 H R E D dn dr=>by
 let⟨R',v,E',s',_,_⟩:=Fc.freeze E hΓ hz;exact h σ H0 R0 H R' E' D (λσ2 H2 R2 Γ2 E2 s2=>dn σ2 H2 R2 Γ2 E2 (s'.trans s2)) dr
def n5:Rep (List (Int×V)):=⟨λK H v kvs=>∃a,v= .ref a/\H a∣(.dK (cR kvs)),λs ⟨a,e,q⟩=>⟨a,e,s _ _ q⟩⟩
def jf (kvs:List (Int×V))(k:Int):Bool:=kvs.any λp=>decide (p.1=k)
theorem mZ (kvs:List (Int×V))(k:Int):(du (cR kvs) (Sum.inl k:Key)).isSome=jf kvs k:=by
 rw[← iE];unfold cR jf;rw[List.any_map];congr 1;funext p;show decide ((Sum.inl p.1:Key)=Sum.inl k)=decide (p.1=k);by_cases h:p.1=k
 ·rw[h];simp
 ·rw[XZ h,XZ λz=>h (Sum.inl.inj z)]
theorem Iw (i:Nat)(neg:Bool){k:Int}(hu:`bc)(he:EV X e Z ah k Z)(hΓ:Z[i]?∣.di kvs)(hN:`p):
 TV X (.Compare e [if neg then .NotIn else .In] [.Name x p1] pos) Z (if neg then !jf kvs k else jf kvs k) Z:=by
 intro σ H0 R0 H R E Q q;cases neg with
 | false=>
   refine tS (mF (KY hu aO (aX hN)) (by with_unfolding_all rfl)) `V;let⟨a,ea,ha,hR⟩:=E1.ent i _ hΓ;cases e1
   refine⟨.ref a,am ea,a,_,rfl,iC.k (k:=Sum.inl k) ha,_,rfl,?_⟩;rw[mZ];exact q H1 R1 E1 s1
 | true=>
   refine tS (mF (lR hu aO (aX hN)) (by with_unfolding_all rfl)) `V;let⟨a,ea,ha,hR⟩:=E1.ent i _ hΓ;cases e1
   refine⟨.ref a,am ea,a,_,rfl,iC.k (k:=Sum.inl k) ha,_,rfl,?_⟩;rw[mZ];exact q H1 R1 E1 s1
theorem Cr (i:Nat){ke ve:Expr}{k:Int}(hu:`bc)(hk:EV X ke Z ah k Z)(hv:PE X ve (tC v))(hΓ:Z[i]?∣.di kvs)(hn:jf kvs k=false)(hz:kvs.length<Vn)(h:N (Z.set i (.di (kvs++[(k,v)]))))(hN:`p)(hs:Vv ve (some (.Subscript `m ke p2)) pos.line X.env=pure false:=by rfl):W1 X (.Assign [.Subscript `m ke p2] ve pos) Z N T:=λσ H0 R0 H R E D dn dr=>by
 refine sS (uT hu (aX hN) aO hv hs) ?_;let⟨a,ea,ha,hR⟩:=E.ent i _ hΓ;refine⟨.ref a,am ea,hk σ H0 R0 H R E _ λu H1 R1 E1 s1 e1=>?_⟩;let⟨a',YC,YT,YI⟩:=E1.ent i _ hΓ;rw[ea] at YC;cases YC
 cases e1
 refine⟨a,_,rfl,rC.k (k:=Sum.inl k) YT (by unfold cR;rw[Ss];exact hz),?_⟩;let vn:du (cR kvs) (Sum.inl k:Key)=none:=by
  have:=mZ kvs k;rw[hn] at this;cases q:du (cR kvs) (Sum.inl k:Key) with
  | none=>rfl
  | some z=>rw[q] at this;cases this
 rw[rh v vn];let e:cR kvs++[((Sum.inl k:Key),v)]=cR (kvs++[(k,v)]):=by unfold cR;rw[SN];rfl
 rw[e];exact dn σ _ R1 _ (E1.upd (en:=.di (kvs++[(k,v)])) hΓ rfl ea YI ⟨a,rfl,aG,YI⟩) s1 h
theorem MH (i:Nat){P:List (Int×V)->Prop}(hΓ:Z[i]?∣.di kvs)(h:P kvs)(hN:`p):W1 X (.Return (some `m) pos) Z N (cq X.K n5 P):=λσ H0 R0 H R E D dn dr=>by
 let⟨a,ea,ha,hR⟩:=E.ent i _ hΓ;let h0:H0 a=none:=E.new i _ a hΓ rfl ea;refine sS (jm (aX hN)) ⟨.ref a,am ea,dr _ H (upd R a (.dK (cR kvs))) ⟨E.ext.h,E.ext.r.trans (av.fresh hR _),λb o qb=>?_,λb hb=>?_⟩ ⟨kvs,⟨a,rfl,aG⟩,h⟩⟩
 ·by_cases hb:b=a
  ·subst hb;rw[aG] at qb;cases qb;exact ha
  ·rw[aJ hb] at qb;exact E.ext.s b o qb
 ·rw[aJ (show b≠a from λe=>hb (by rw[e];exact h0))];exact E.ext.old b hb
theorem HX {a:Expr}{p:Pos}(hm:X.mg "len"=none)(ha:EV X a Z n5 kvs Γ1)(hs:fL X a:=by rfl)(hg:Gl X "len":=by rfl):EV X `aX Z ah (kvs.length:Int) Γ1:=by
 intro σ H0 R0 H R E Q q;refine eS (eX vh hg hm VJ `be `c `c hs) `B;let⟨p,rfl,hp⟩:=e1;refine⟨p,_,rfl,E1.sub _ _ hp,?_⟩;unfold cR;rw[Ss];exact q _ H1 R1 E1 s1 rfl
end
abbrev c9:=Xt->List Pk->RT->Prop
def aP (S:c9)(K:Xt):Sp:=λvs H Q _=>∃R ps T,av R H/\kq K R vs ps/\S K ps T/\∀v H' R',Ext H R H' R'->T H v H' R'->Q v H'
theorem kq.length {K:Xt}{R:Hp}:∀{vs:`K}{ps:List Pk},kq K R vs ps->vs.length=ps.length
 | _,_,.nil=>rfl
 | _,_,.cons _ t=>by rw[SE,SE,kq.length t]
structure aD (P:Vr)(w:World)(K:Xt)(mg:RQ)(base:Heap)(x:Str)(k:Nat)(sp:Sp):Prop where
 ex:∃f fd ps,eZ P w K mg base d7 k f fd ps sp/\mg x∣.ref f/\Xy K (.ref f)=true/\be K fd ps []
theorem aD.mono {P:Vr}{w:World}{K:Xt}{mg:RQ}{base:Heap}{x:Str}{j k:Nat}{sp:Sp}(c:aD P w K mg base x j sp)(h:j<=k):aD P w K mg base x k sp:=by
 let⟨f,fd,ps,F,a,b,c⟩:=c.ex;exact⟨f,fd,ps,F.mono h,a,b,c⟩
variable {ps:List Pk}{S:c9}
theorem kU {k:Nat}{p:Pos}(C:`aO)(hr:bH k X.A)(ha:HA X (e::es) Z ps Γ1)(hS:S X.K ps T)(E:`aS)(q:∀H1 R1 v H' R',ar X.K σ H0 R0 H1 R1 Γ1->av R R1->Ext H1 R1 H' R'->T H1 v H' R'->Q v H')(hg:Gl X x)(Yz:(x==("__debug__":Str))=false)(he:dk X e es)(Yo:eV X pos es):fE X `bs σ H Q:=by
 let⟨f,fd,pn,F,hm,hk,hb⟩:=C.ex;refine eS (gR F hr hg hm hk hb .nil jO oz Yz he Yo) (ha σ H0 R0 H R E _ λvs H1 R1 E1 s1 p1=>?_);refine⟨R1,ps,T,E1.sub,by rw[S3];exact p1,hS,λv H' R' x t=>q H1 R1 v H' R' E1 s1 x t⟩
theorem aB {k:Nat}{p:Pos}{y:α}(C:`aO)(hr:bH k X.A)(ha:HA X (e::es) Z ps Γ1)(hS:S X.K ps (cq X.K r (· =y)))(hg:Gl X x:=by rfl)(Yz:YV x:=by decide)(he:dk X e es:=by rfl)(Yo:eV X pos es:=by rfl):EV X `bs Z r y Γ1:=λσ H0 R0 H R E Q q=>
 kU C hr ha hS E (λH1 R1 v H' R' E1 s1 xx t=>by
  let⟨z,e1,rfl⟩:=t;exact q v H' R' (E1.grow xx) `bA e1) hg Yz he Yo
theorem yn {k:Nat}{p:Pos}(C:`aO)(hr:bH k X.A)(ha:HA X (e::es) Z ps Γ1)(hS:S X.K ps (DZ X.K r (· =ys)))(hg:Gl X x:=by rfl)(Yz:YV x:=by decide)(he:dk X e es:=by rfl)(Yo:eV X pos es:=by rfl):bc X `bs Z r ys Γ1:=λσ H0 R0 H R E Q q=>
 kU C hr ha hS E (λH1 R1 v H' R' E1 s1 xx t=>by
  let⟨a,vs,zs,rfl,h0,h1,h2,p,z,rfl⟩:=t;exact q a vs H' R' (E1.grow xx) `bA h1 h2 (E1.ext.h.free h0) (E1.off h0) p z) hg Yz he Yo
noncomputable def fm (ps:List Pk)(n:Nat):Ga:=ps.map (λp=>Ent.im p.r p.x)++Tg (n-ps.length) .no
variable {vs:`K}
theorem j7 {N:RU}(s:av R H)(p:kq K R vs ps)(hl:ps.length<=N.length):ar K (L2.start N vs) H R H R (fm ps N.length):=by
 let Yu:∀(i:Nat)(e:Ent)(o:Option V),(fm ps N.length)[i]?∣e->e.fp o=[]:=λi e o q=>by
  unfold fm at q;obtain z | z:=SK.mp (SD q)
  ·let⟨p,_,rfl⟩:=SU.mp z;rfl
  ·let⟨_,rfl⟩:=Ut.mp z;rfl
 refine⟨Ext.refl s,λi e q=>?_,λi e a q w=>XS w (by rw[Yu i e _ q];exact Tc),λi j e e' a q _ w=>XS w (by rw[Yu i e _ q];exact Tc),?_⟩
 ·let hp:=p.length;unfold fm at q;unfold L2.start;by_cases hi:i<ps.length
  ·rw[S0 (~~~hi),Sw] at q;rw[S0 (by simpa[hp] using hi),Sw];let key:∀{vs:`K}{ps:List Pk},kq K R vs ps->∀(i:Nat)(p:Pk),ps[i]?∣p->∃v,vs[i]?∣v/\p.r.R K R v p.x:=by
    intro vs ps h
    induction h with
    | nil=>intro i p e;simp at e
    | cons a b ih=>
      intro i p e;cases i with
      | zero=>simp at e;subst e;exact⟨_,rfl,a⟩
      | succ i=>simpa using ih i p (~~~e)
   cases e1:ps[i]? with
   | none=>rw[e1] at q;cases q
   | some p1=>
     rw[e1] at q;cases q
     let⟨v,h1,h2⟩:=key p i p1 e1;rw[h1];exact⟨v,rfl,h2⟩
  ·rw[SV (~~~hi),TQ] at q;split at q
   ·cases q;trivial
   ·cases q
 ·unfold fm L2.start;rw[Sx,Sx,Ss,Ss,Tq,Tq,p.length]
variable {P:Vr}{w:World}{mg:RQ}{base:Heap}{qual:Str}{f:Addr}{fd:Vw}
def Def (K:Xt)(mg:RQ)(x:Str)(st:Stmt)(ps:RU):Prop:=∃f fd,dw K x x st f fd/\mg x∣.ref f/\be K fd ps []
theorem ij {N ps:RU}{k:Nat}(F:`bK)(Sc:bD N ps (ao st))(hm:mg x∣.ref f)(hb:be K fd ps [])(len:∀qs T,S K qs T->qs.length=ps.length)(Yn:∀(X6:`aa)(A:Vu)(outer:List Env)(s:Vo)(H:Hp)(E:XK)(qs:List Pk)(T:RT),bH k `ad->S K qs T->
  WS (eE d7 P w K mg base N qual (ao st) f X6 A outer s H E).gP (bF st) (fm qs N.length) (λ_=>False) T):aD P w K mg base x (k+1) (aP S K):=by
 refine⟨f,fd,ps,?_,hm,F.kp,hb⟩;refine F.ok Sc `bu `W
 ·let⟨R,qs,T,_,p,hS,_⟩:=h;rw[p.length];exact len qs T hS
 ·let⟨R,qs,T,sR,p,hS,q⟩:=h;let hl:qs.length<=N.length:=by
   rw[len qs T hS];have:=congrArg List.length Sc.pre;rw[SW] at this;cbv
  exact⟨_,g8,Yn X6 A outer s H E qs T hr hS (L2.start N vs) H R H R (j7 sR p hl) {nx:=λ_ H'=>Q .Ye H',rt:=Q} (λ_ _ _ _ _ _ f=>f.elim) λv H' R' xx t=>q v H' R' xx t⟩
theorem bP {N ps:RU}{k:Nat}(D:Def K mg x st ps)(Yn:∀(f:Addr)(X6:`aa)(A:Vu)(outer:List Env)(s:Vo)(H:Hp)(E:XK)(qs:List Pk)(T:RT),N.Nodup->bH k (A.deeper (Vi x (ao st) ⇑s f X6))->S K qs T->
  WS (eE d7 P w K mg base N x (ao st) f X6 A outer s H E).gP (bF st) (fm qs N.length) (λ_=>False) T)(len:∀qs T,S K qs T->qs.length=ps.length:=by(intros;rename_i h;repeat (first | (rw[h.1];rfl) | let⟨_,h⟩:=h)))(Sc:bD N ps (ao st):=by exact Zf):aD P w K mg base x (k+1) (aP S K):=by
 let⟨f,fd,F,hm,hb⟩:=D;exact ij F Sc hm hb len λX6 A outer s H E qs T=>Yn f X6 A outer s H E qs T Sc.nd
section
variable {a:Expr}
theorem wq {bs:List Bool}{us:RZ}(r:Vals (bs.map V.bl) us){v:`aa}(h:us.toArray[j]?∣v):v= .bool (bs.getD j true):=by
 induction bs generalizing us j with
 | nil=>cases r;simp at h
 | cons b r' ih=>
   cases r with
   | cons h1 t=>
     cases j with
     | zero=>simp at h;rw[← h];exact h1
     | succ j=>exact ih t (~~~h)
theorem all_range (bs:List Bool):((SQ bs.length).all λj=>bs.getD j true)=bs.all id:=by
 rw[Sb,Ud,Ud];constructor
 ·intro h b hb;let⟨j,hj,rfl⟩:=Uh.mp hb;have:=h j (Tv.mpr hj);simpa[Sr,So hj] using this
 ·intro h j hj;let hj:=Tv.mp hj;simpa[Sr,So hj] using h _ (S7 hj)
theorem any_range (bs:List Bool):((SQ bs.length).any λj=>bs.getD j true)=bs.any id:=by
 rw[Sb,UA,UA];constructor
 ·rintro⟨j,hj,h⟩;let hj:=Tv.mp hj;exact⟨_,S7 hj,by simpa[Sr,So hj] using h⟩
 ·rintro⟨b,hb,h⟩;let⟨j,hj,rfl⟩:=Uh.mp hb;exact⟨j,Tv.mpr hj,by simpa[Sr,So hj] using h⟩
theorem Ey (hc:X.calm=true):fY X (.builtin "all") (λxs H Q=>∃(p:Addr)(bs:List Bool),xs=[.ref p]/\bu X.K H p (bs.map V.bl)/\Q (.bl (bs.all id)) H):=by
 intro X3 s σ H xs us Q I r h;let⟨p,bs,rfl,hq,q⟩:=h;let⟨u,rfl,rx⟩:=vals1 r;cases rx
 let⟨X5,r',pl,hz⟩:=I.list hq;let Yi:p≠⇑s:=λe=>by let⟨o,ho,_⟩:=pl.isList;exact XS (W7 ho) (by rw[e];exact UQ _)
 refine call_all_walk (V3 pl.isList ?_);refine⟨⇑s,_,[⇑s],X5.toArray.size,_,_,λj=>bs.getD j true,rfl,Walks.list (A:=X.A.in1) (show X.A.in1.handled=none from I.ok.hd hc) ⇑s p Yi X5.toArray,?_,λj v s Q E hv hQ=>?_,λh' tk hk=>?_⟩
 ·refine⟨⟨_,W8 _ rfl,rfl,rfl⟩,?_⟩;let⟨o,ho,c,n,d⟩:=pl.isList;exact⟨o,W6 _ ho,c,n,d⟩
 ·rw[wq r' hv];exact Vx hQ
 ·let e:X5.toArray.size=bs.length:=by rw[SJ,← r'.length,Ss]
  rw[e,all_range];exact⟨.bl _,H,I.kept λb o e=>hk b o (λz=>XS (W7 e) (by rw[Su.mp z];exact UQ _)) (W6 _ e),rfl,q⟩
theorem EO (hc:X.calm=true):fY X (.builtin "any") (λxs H Q=>∃(p:Addr)(bs:List Bool),xs=[.ref p]/\bu X.K H p (bs.map V.bl)/\Q (.bl (bs.any id)) H):=by
 intro X3 s σ H xs us Q I r h;let⟨p,bs,rfl,hq,q⟩:=h;let⟨u,rfl,rx⟩:=vals1 r;cases rx
 let⟨X5,r',pl,hz⟩:=I.list hq;let Yi:p≠⇑s:=λe=>by let⟨o,ho,_⟩:=pl.isList;exact XS (W7 ho) (by rw[e];exact UQ _)
 refine call_any_walk (V3 pl.isList ?_);refine⟨⇑s,_,[⇑s],X5.toArray.size,_,_,λj=>bs.getD j true,rfl,Walks.list (A:=X.A.in1) (show X.A.in1.handled=none from I.ok.hd hc) ⇑s p Yi X5.toArray,?_,λj v s Q E hv hQ=>?_,λh' tk hk=>?_⟩
 ·refine⟨⟨_,W8 _ rfl,rfl,rfl⟩,?_⟩;let⟨o,ho,c,n,d⟩:=pl.isList;exact⟨o,W6 _ ho,c,n,d⟩
 ·rw[wq r' hv];exact Vx hQ
 ·let e:X5.toArray.size=bs.length:=by rw[SJ,← r'.length,Ss]
  rw[e,any_range];exact⟨.bl _,H,I.kept λb o e=>hk b o (λz=>XS (W7 e) (by rw[Su.mp z];exact UQ _)) (W6 _ e),rfl,q⟩
theorem rO {K:Xt}{R:Hp}:∀{vs:`K}{xs:List Bool},PySem.Paired (cU.R K R) vs xs->vs=xs.map V.bl
 | _,_,.nil=>rfl
 | _,_,.cons h t=>by rw[Ta,← rO t];exact congrArg (· ::_) h
theorem Gz {id:String}{r:List V->Hp->VK->Prop}{p:Pos}{y:α}{z:β}(hc:fY X (.builtin id) r)(hm:X.mg x=none)(hv:VM x∣.builtin id)(ha:EV X a Z ra y Γ1)(h:∀(R H:Hp) v Q,av R H->ra.R X.K R v y->(∀w,rb.R X.K R w z->Q w H)->r [v] H Q)(hs:fL X a:=by rfl)(hg:Gl X x:=by rfl)(hn:x≠"__name__":=by decide)(Yz:YV x:=by decide):
 EV X (.Call `ah [a] [] pos) Z rb z Γ1:=by
 intro σ H0 R0 H R E Q q;exact eS (eX hc hg hm hv `be hn Yz hs) (ha σ H0 R0 H R E _ λv H1 R1 E1 s1 e1=>h R1 H1 v _ E1.sub e1 λw hw=>q w H1 R1 E1 s1 hw)
theorem tK {p:Pos}{bs:List Bool}(hm:X.mg "all"=none)(ha:EV X a Z (ae cU) bs Γ1)(hs:fL X a:=by rfl)(hc:X.calm=true:=by rfl)(hg:Gl X "all":=by rfl):EV X (.Call (.Name "all" p) [a] [] pos) Z cU (bs.all id) Γ1:=
 Gz (Ey hc) hm boot_all ha (λR H v Q s ⟨p,vs,e,hp,pp,_⟩ q=>⟨p,bs,by rw[e],by rw[← rO pp];exact bu.of (s _ _ hp),q _ rfl⟩) hs hg
theorem Lg {p:Pos}{bs:List Bool}(hm:X.mg "any"=none)(ha:EV X a Z (ae cU) bs Γ1)(hs:fL X a:=by rfl)(hc:X.calm=true:=by rfl)(hg:Gl X "any":=by rfl):EV X (.Call (.Name "any" p) [a] [] pos) Z cU (bs.any id) Γ1:=
 Gz (EO hc) hm boot_any ha (λR H v Q s ⟨p,vs,e,hp,pp,_⟩ q=>⟨p,bs,by rw[e],by rw[← rO pp];exact bu.of (s _ _ hp),q _ rfl⟩) hs hg
theorem Ab {p:Pos}{b:Bool}(hm:X.mg "int"=none)(ha:EV X a Z cU b Γ1)(hs:fL X a:=by rfl)(hg:Gl X "int":=by rfl):EV X (.Call (.Name "int" p) [a] [] pos) Z ah (if b then 1 else 0) Γ1:=by
 intro σ H0 R0 H R E Q q;exact eS (iQ CV hg hm Vj `be `c `c hs) (ha σ H0 R0 H R E _ λv H1 R1 E1 s1 e1=>.inr ⟨b,by rw[show v=V.bl b from e1],q _ H1 R1 E1 s1 rfl⟩)
theorem qO {p:Pos}(hm:X.mg "list"=none)(ha:EV X a Z (ae r) xs Γ1)(hs:fL X a:=by rfl)(hg:Gl X "list":=by rfl):bc X (.Call (.Name "list" p) [a] [] pos) Z r xs Γ1:=by
 intro σ H0 R0 H R E Q q;refine eS (iQ xH hg hm Ve `be `c `c hs) `B;let⟨p,vs,rfl,hp,pp,z⟩:=e1;exact⟨p,vs,rfl,.inl (bu.of (E1.sub _ _ hp)),λl hl=>q l vs _ R1 (E1.grow (Ext.ee E1.sub hl _)) s1 aG (E1.sub.free hl) (E1.ext.h.free hl) (E1.off hl) pp z⟩
theorem HZ {p:Pos}{x y:Int}(hm:X.mg "min"=none)(ha:HA X [a,b] Z [⟨ah,x⟩,⟨ah,y⟩] Γ1)(hs:Vt [a,b] X.env=(false,eval a X.env)::Vt [b] X.env:=by rfl)(hc:X.calm=true:=by rfl)(hg:Gl X "min":=by rfl)(Yo:eV X pos [b]:=by rfl):EV X (.Call (.Name "min" p) [a,b] [] pos) Z ah (if y<x then y else x) Γ1:=by
 intro σ H0 R0 H R E Q q;refine eS (eX (Dz hc) hg hm PyProof.Rows.boot_min oz `c `c hs Yo) (ha σ H0 R0 H R E _ λvs H1 R1 E1 s1 p1=>?_);cases p1 with
 | cons a1 t=>cases t with
   | cons a2 t2=>cases t2;cases a1;cases a2;exact⟨x,y,rfl,q _ H1 R1 E1 s1 rfl⟩
end
def Src (K:Xt)(J:It)(R1:Hp){α:Type}(r:Rep α)(xs:`x):Prop:=
 ∀(H' R':Hp),av R1 R'->av R' H'->∀i:Nat,(∀x,xs[i]?∣x->J.go i H'/\∀v H2,J.yld i H' v H2->∃R2,Ext H' R' H2 R2/\r.R K R2 v x)/\(xs.length<=i->J.stop i H')
variable {tg iter:Expr}{scope:Scope}{fr:RU}{ix:List Nat}{R1:Hp}
section
variable {bf:α->Ga->Ga}{elt:Expr}{f:α->β}
def IV (X:Cx)(tg iter:Expr)(Z:Ga){α:Type}(r:Rep α)(xs:`x)(Γ1:Ga):Prop:=
 ∃wi,PI X tg iter wi/\∀(σ:St)(H0 R0 H R:Hp),ar X.K σ H0 R0 H R Z->∀Rq:It->Hp->Prop,(∀J H1 R1,ar X.K σ H0 R0 H1 R1 Γ1->av R R1->xs.length<=Vn->Src X.K J R1 r xs->Rq J H1)->wi σ H Rq
theorem bM (h:EV X iter Z (ae r) xs Γ1):IV X tg iter Z r xs Γ1:=by
 refine⟨_,yW aO,λσ H0 R0 H R E Rq q=>h σ H0 R0 H R E _ λv H1 R1 E1 s1 e1=>?_⟩;let⟨a,vs,rfl,ha,pp,z⟩:=e1;refine⟨a,rfl,⟨vs,bu.of (E1.sub _ _ ha)⟩,q _ H1 R1 E1 s1 z λH' R' sR sH i=>⟨λx hx=>?_,λhi=>?_⟩⟩
 ·let hq:bu X.K H' a vs:=bu.of (sH _ _ (sR _ _ ha));let⟨v,hv,hr⟩:=eC pp hx;refine⟨⟨vs,v,hq,hv⟩,λv' H2 hy=>?_⟩;let⟨rfl,hy⟩:=hy;have:=hy vs hq;rw[hv] at this;cases this
  exact⟨R',Ext.refl sH,r.mono sR hr⟩
 ·exact⟨vs,bu.of (sH _ _ (sR _ _ ha)),by rw[pp.length];exact hi⟩
noncomputable def ups (lo:Int)(n:Nat):RS:=(SQ n).map λ(k:Nat)=>lo+(k:Int)
theorem bt (lo:Int)(n:Nat):(ups lo n).length=n:=by unfold ups;rw[Ss,Te]
theorem gu {lo:Int}{n:Nat}{x:Int}(h:(ups lo n)[i]?∣x):i<n/\x=lo+(i:Int):=by
 let hi:i<n:=by have:=(Sn.mp h).1;rwa [bt] at this
 refine⟨hi,?_⟩;unfold ups at h;rw[Sw,Ti hi] at h;exact(Option.some.inj h).symm
theorem zh (lo:Int)(n:Nat):Src K (Ce lo n) R1 ah (ups lo n):=λH' R' sR sH i=>⟨λx hx=>by
 let⟨h1,rfl⟩:=gu hx;refine⟨h1,λv H2 hy=>?_⟩;let⟨rfl,rfl⟩:=hy;exact⟨R',Ext.refl sH,rfl⟩,λhi=>by rw[bt] at hi;exact hi⟩
theorem eh {a:Expr}(hm:X.mg "range"=none)(ha:EV X a Z ah n Γ1)(hn: -(2 ^ 62)<=n/\n<=1000000)(hs1:fL X a:=by rfl)(hg:Gl X "range":=by rfl):IV X tg (.Call (.Name "range" p1) [a] [] p2) Z ah (ups 0 n.toNat) Γ1:=by
 refine⟨_,Dc hg hm (aK aO br hs1) hs1,λσ H0 R0 H R E Rq q=>ha σ H0 R0 H R E _ λv H1 R1 E1 s1 e1=>?_⟩;exact⟨n,by rw[show v=V.int n from e1],hn.1,`a,q _ H1 R1 E1 s1 (by rw[bt];exact UK (show n.toNat<=1000000 by cbv) `c) (zh 0 n.toNat)⟩
theorem DX {a:Expr}{m:Int}(hm:X.mg "range"=none)(ha:EV X a Z ah m Γ1)(hb:EV X b Γ1 ah n Γ2)(hn: -1000000<=m/\m<=1000000/\ -1000000<=n/\n<=1000000)(hs1:wA X a b:=by rfl)(YE:fL X b:=by rfl)(hg:Gl X "range":=by rfl):IV X tg (.Call (.Name "range" p1) [a,b] [] p2) Z ah (ups m (n-m).toNat) Γ2:=by
 refine⟨_,Dv hg hm (aK aO (aK aO br YE) (by first | rw[dk,hs1,YE] | rw[hs1,YE])) hs1 YE,λσ H0 R0 H R E Rq q=>ha σ H0 R0 H R E _ λv H1 R1 E1 s1 e1=>hb σ H0 R0 H1 R1 E1 _ λu H2 R2 E2 s2 e2=>?_⟩;exact⟨m,n,by rw[show v=V.int m from e1,show u=V.int n from e2],⟨`a,`a,`a,`a⟩,q _ H2 R2 E2 `E (by rw[bt];exact UK (show(n-m).toNat<=2000000 by cbv) `c) (zh m (n-m).toNat)⟩
theorem bO (I:Nat->Ga->Prop)(hit:IV X tg iter Z r xs Γ1)(hb:BG X tg r bf)(h0:I 0 Γ1)(YJ:∀(i:Nat)(x:α)(Z:Ga),xs[i]?∣x->I i Z->WS X body (bf x Z) (I (i+1)) T)(Y5:∀Z:Ga,I xs.length Z->N Z)(hc:X.calm=true:=by rfl)(hp:Wn `f X.A X.env X.xe:=by exact Wn.never)(hs:∀x,VA iter X.env x=pure x:=by intro _;rfl):W1 X (.For tg iter body [] pos) Z N T:=λσ H0 R0 H R E D dn dr=>by
 let⟨wi,hi,hit⟩:=hit;refine sS (De hp hc hi Qe g8 hs) (hit σ H0 R0 H R E _ λJ H1 R1 E1 s1 hz src=>?_);refine⟨λi m σ' H'=>m=xs.length-i/\i<=xs.length/\∃R' Γ',ar X.K σ' H0 R0 H' R' Γ'/\av R1 R'/\I i Γ',⟨_,rfl,UL _,R1,Γ1,E1,av.refl _,h0⟩,?_⟩;rintro i m σ' H' ⟨rfl,hle,R',Γ',E',s',hI⟩;let⟨sgo,Y9⟩:=src H' R' s' E'.sub i;by_cases YS:i<xs.length
 ·let⟨go,yl⟩:=sgo _ (So YS);refine .inr ⟨go,λσ' H'=>i+1<=xs.length/\∃R' Γ',ar X.K σ' H0 R0 H' R' Γ'/\av R1 R'/\I (i+1) Γ',λσ2 H2 h=>⟨xs.length-(i+1),`a,rfl,h.1,h.2⟩,λv H2 hy=>?_⟩;let⟨R2,x2,hr⟩:=yl v H2 hy;refine hb σ' H0 R0 H2 R2 Γ' v _ (E'.grow x2) hr _ λσ2 E2=>?_;exact YJ i _ Γ' (So YS) hI σ2 H0 R0 H2 R2 E2 _ (λσ3 H3 R3 Γ3 E3 s3 h3=>⟨YS,R3,Γ3,E3,s'.trans (x2.r.trans s3),h3⟩) dr
 ·let e:i=xs.length:=`a
  subst e;exact .inl ⟨Y9 (UJ _),dn σ' H' R' Γ' E' (s1.trans s') (Y5 Γ' hI)⟩
noncomputable def oH:Option Ent->Ent
 | some (.im r x)=>.im r x
 | _=>.no
noncomputable def d9 (own:RU)(ix:List Nat)(Z:Ga):Ga:=Tg own.length .no++ix.map λi=>oH Z[i]?
theorem yd (E:`y)(own:RU)(ix:List Nat):ar K (fw own ix σ) H R H R (d9 own ix Z):=by
 let Yu:∀(i:Nat)(e:Ent)(o:Option V),(d9 own ix Z)[i]?∣e->e.fp o=[]:=λi e o q=>by
  unfold d9 at q;obtain z | z:=SK.mp (SD q)
  ·let⟨_,rfl⟩:=Ut.mp z;rfl
  ·let⟨k,_,rfl⟩:=SU.mp z;unfold oH;split<;>rfl
 refine⟨Ext.refl E.sub,λi e q=>?_,λi e a q w=>XS w (by rw[Yu i e _ q];exact Tc),λi j e e' a q _ w=>XS w (by rw[Yu i e _ q];exact Tc),by unfold d9 fw;simp⟩;unfold d9 at q;unfold fw;by_cases hi:i<own.length
 ·rw[S0 (~~~hi),TQ] at q;rw[XU hi] at q;cases q;trivial
 ·rw[SV (~~~hi),Tq,Sw] at q;rw[SV (~~~hi),Tq,Sw];cases ek:ix[i-own.length]? with
  | none=>rw[ek] at q;cases q
  | some k=>
    rw[ek] at q;let q':oH Z[k]?=e:=Option.some.inj q;subst q';show(oH Z[k]?).ok K H R (σ[k]?).join;cases eg:Z[k]? with
    | none=>trivial
    | some e=>
      cases e with
      | im r x=>exact E.ent k _ eg
      | no=>trivial
      | mu r x=>trivial
      | di x=>trivial
      | ob x=>trivial
theorem vj {ifs:R6}{cl:`aA}{own:RU}{p:α->Bool}{J:It}{H1:Hp}(E1:ar X.K σ H0 R0 H1 R1 Γ1)(src:Src X.K J R1 ra xs)(hz:xs.length<=Vn)(hb:∀(C:Addr)(s:Vo)(H:Hp)(ex:RY),BG `l tg ra bf)(hw:∀x,Wk `u (d9 own ix Γ1))(ht:∀(C:Addr)(s:Vo)(H:Hp)(ex:RY) x,x∈xs->TF `l ifs `u (p x) `u)(he:∀(C:Addr)(s:Vo)(H:Hp)(ex:RY) x,x∈xs->p x=true->EV `l elt `u rb (f x) `u)(q:∀a vs H' R',Ext H1 R1 H' R'->H' a=none->PySem.Paired (rb.R X.K R') vs ((xs.filter p).map f)->Q (.ref a) (upd H' a (.lst vs))):
 ∃W:Nat->Nat->List V->St->Hp->Prop,(∃m,W 0 m [] (fw own ix σ) H1)/\∀i m ys σ' H',W i m ys σ' H'->
  ys.length<=Vn/\(`aC∨
  (J.go i H'/\∀x H2,J.yld i H' x H2->(λv σ H Q=>∀C s Hh ex,mn `o tg v σ H Q:TG) x σ' H2 λσ2 H3=>(λσ H Q=>∀C s Hh ex,mm `o ifs σ H Q:TT) σ2 H3 λb H4=>
    if b=true then(λσ H Q=>∀C s Hh ex,fE `o elt σ H Q:TE) σ2 H4 λv H5=>∃m',m'<m/\W (i+1) m' (ys++[v]) σ2 H5 else∃m',m'<m/\W (i+1) m' ys σ2 H4)):=by
 refine⟨λi m ys σ' H'=>m=xs.length-i/\i<=xs.length/\∃R',ar X.K σ' H1 R1 H' R' (d9 own ix Γ1)/\PySem.Paired (rb.R X.K R') ys (((xs.take i).filter p).map f),⟨_,rfl,UL _,R1,yd E1 own ix,.nil⟩,?_⟩;rintro i m ys σ' H' ⟨rfl,hle,R',E',pp⟩;let hys:ys.length<=Vn:=by
  rw[pp.length,Ss];refine UK (T5 _ _) (UK ?_ hz);rw[SW];cbv
 let⟨sgo,Y9⟩:=src H' R' E'.ext.r E'.sub i;refine⟨hys,?_⟩;by_cases YS:i<xs.length
 ·let⟨go,yl⟩:=sgo _ (So YS);let ZS:xs[i]∈xs:=S7 YS;let tk:(xs.take (i+1))=xs.take i++[xs[i]]:=by rw[S9,So YS];rfl
  refine .inr ⟨go,λv H2 hy C s Hh ex=>?_⟩;let⟨R2,x2,hr⟩:=yl v H2 hy;refine hb C s Hh ex σ' H1 R1 H2 R2 _ v _ (E'.grow x2) hr _ λσ2 E2=>?_;intro C s Hh ex;refine ht C s Hh ex _ ZS σ2 H1 R1 H2 R2 E2 _ λH4 R4 E4 s4=>?_;cases hpx:p xs[i] with
  | false=>
    rw[XT R9];refine⟨xs.length-(i+1),`a,rfl,YS,R4,E4.weak (hw _),?_⟩;rw[tk,TU,List.filter_cons,hpx,XT R9,List.filter_nil,S3];exact Paired.map (λ_ _=>rb.mono (x2.r.trans s4)) pp
  | true=>
    rw[XU rfl];intro C s Hh ex;refine he C s Hh ex _ ZS hpx σ2 H1 R1 H4 R4 E4 _ λw H5 R5 E5 s5 e5=>?_;refine⟨xs.length-(i+1),`a,rfl,YS,R5,E5.weak (hw _),?_⟩;rw[tk,TU,List.filter_cons,hpx,XU rfl,List.filter_nil,SN];exact dM (Paired.map (λ_ _=>rb.mono (x2.r.trans (s4.trans s5))) pp) (.cons e5 .nil)
 ·let e:i=xs.length:=`a
  subst e;rw[Td] at pp;exact .inl ⟨Y9 (UJ _),λa ha=>q a ys H' R' E'.ext ha pp⟩
theorem cI {ifs:R6}{cl:`aA}{own:RU}{p:α->Bool}(S:fu X scope cl own fr ix)(hit:IV X tg iter Z ra xs Γ1)(hb:∀(C:Addr)(s:Vo)(H:Hp)(ex:RY),BG `l tg ra bf)(hw:∀x,Wk `u (d9 own ix Γ1))(ht:∀(C:Addr)(s:Vo)(H:Hp)(ex:RY) x,x∈xs->TF `l ifs `u (p x) `u)(he:∀(C:Addr)(s:Vo)(H:Hp)(ex:RY) x,x∈xs->p x=true->EV `l elt `u rb (f x) `u)(hc:X.calm=true:=by rfl)(hs:∀x,VA iter X.env x=pure x:=by intro _;rfl):bc X (.ListComp elt [⟨tg,iter,ifs,0⟩] scope pos) Z rb ((xs.filter p).map f) Γ1:=by
 intro σ H0 R0 H R E Q q;let⟨wi,hi,hit⟩:=hit;refine eS (JH (g:=λv σ H Q=>∀C s Hh ex,mn `o tg v σ H Q) (tc:=λσ H Q=>∀C s Hh ex,mm `o ifs σ H Q) (te:=λσ H Q=>∀C s Hh ex,fE `o elt σ H Q) hc S hi
  `v hs) ?_
 refine hit σ H0 R0 H R E _ λJ H1 R1 E1 s1 hz src=>vj E1 src hz hb hw ht he λa vs H' R' xx ha pp=>?_;let E2:=E1.grow xx;exact q a vs _ R' (E2.grow (Ext.ee E2.sub ha _)) `bA aG (E2.sub.free ha) (E2.ext.h.free ha) (E2.off ha) pp (by
  rw[Ss];exact UK (T5 _ _) hz)
theorem mC (i:Nat){py Za:Pos}{ifs:R6}{cl:`aA}{own:RU}{p:α->Bool}(S:fu X scope cl own fr ix)(hit:IV X tg iter Z ra xs Γ1)(hb:∀(C:Addr)(s:Vo)(H:Hp)(ex:RY),BG `l tg ra bf)(hw:∀x,Wk `u (d9 own ix Γ1))(ht:∀(C:Addr)(s:Vo)(H:Hp)(ex:RY) x,x∈xs->TF `l ifs `u (p x) `u)(he:∀(C:Addr)(s:Vo)(H:Hp)(ex:RY) x,x∈xs->p x=true->EV `l elt `u rb (f x) `u)(h:N (Γ1.set i (.mu rb ((xs.filter p).map f))))(YH:Vv (.ListComp elt [⟨tg,iter,ifs,0⟩] scope pos) (some (.Name y py)) Za.line X.env=pure true:=by rfl)(hN:X.N.Nodup:=by first | assumption | decide)(hi':X.N[i]?∣y:=by rfl)(hx:`bk)(hc:X.calm=true:=by rfl)(hs:∀x,VA iter X.env x=pure x:=by intro _;rfl)(hf:autoParam (fU X y) Zj):
 W1 X (.Assign [.Name y py] (.ListComp elt [⟨tg,iter,ifs,0⟩] scope pos) Za) Z N T:=λσ H0 R0 H R E D dn dr=>by
 let⟨wi,hi,hit⟩:=hit;refine sS (nW (i:=i) (g:=λv σ H Q=>∀C s Hh ex,mn `o tg v σ H Q) (tc:=λσ H Q=>∀C s Hh ex,mm `o ifs σ H Q) (te:=λσ H Q=>∀C s Hh ex,fE `o elt σ H Q) YH hN hi' hx hc S hi
  `v hs hf) ?_
 refine hit σ H0 R0 H R E _ λJ H1 R1 E1 s1 hz src=>vj (Q:=λv H'=>D.nx `bg H') E1 src hz hb hw ht he λa vs H' R' xx ha pp=>?_;let E2:=E1.grow xx;exact dn _ _ R' _ ((E2.grow (Ext.ee E2.sub ha _)).Bo (u:=.lst vs) (en:=.mu rb ((xs.filter p).map f)) i ⟨a,vs,rfl,aG,E2.sub.free ha,pp⟩ (E2.ext.h.free ha) λj e _ q w=>E2.off ha j e q w) `bA h
end
variable {ws:`K}
section
variable {X3:RR}{s:Vo}{tp:Pos}
theorem pR {h':Heap}{t':Nat}{fp:RY}(I:`h)(k:∀b o,b∉fp->s.heap.get? b∣o->h'.get? b∣o)(hf:∀b∈fp,mB X X3 H b):Inv X X3 σ H {s with heap:=h',toks:=t'}:=by
 let nit:∀b u,H b∣u->b∉fp:=λb u e z=>by rw[(hf b z).1] at e;cases e
 refine I.step (g':=s.gens) (d':=s.drawn) (ch:=fp) (λb hb=>⟨(hf b hb).2.2.2.1,(hf b hb).2.1,(hf b hb).2.2.2.2.1,(hf b hb).2.2.2.2.2⟩) (λb o _ _ hc e _=>k b o hc e) (λb o _ _ hc e _=>⟨o.slots,k b o hc e⟩) (λ_ _ _ _ n=>n)
  (λb o hc e=>⟨o,k b o hc e⟩) (λ_ _ e=>e) (λ_ _ _ e=>e) (λb ps e=>⟨#[],by rw[e];simp⟩) (λm hm=>?_) (λb u e=>?_) I.bare
 ·let⟨o,es,ep,ho,r⟩:=hm;exact⟨o,es,ep,k _ o (λz=>(hf _ z).2.1 rfl) ho,r⟩
 ·refine(I.X8 b u e).YF (λc v hc q=>k c v ?_ q) (λ_ q=>q) λ_ _ q=>q;obtain z | z:=hc
  ·rw[z];exact nit b u e
  ·exact nit c _ z
theorem adopt {o:HO}(I:`h)(hf:mB X X3 H a)(hy:X.s₀.heap.objs.size<=a)(new:c7 X.prog X.w (upd H a o) s.heap a o):Inv X X3 σ (upd H a o) s:=by
 let ne:∀{b:Addr}{u:HO},H b∣u->b≠a:=λe=>dh e hf.1;let ne0:∀{b:Addr}{u:Obj},X.s₀.heap.get? b∣u->b≠a:=λe z=>XS (UN (W7 e) hy) (by rw[z];exact UQ _);refine⟨I.ok,I.os,I.bare,⟨I.base.keep,I.base.slot,λb u e n hx=>by rw[aJ (ne0 e)];exact I.base.free b u e n hx,I.base.there,λb xs e=>?_,λb u v e=>?_,λb ps e=>?_⟩,I.loc,I.cell,?_,λx c e=>?_,λp hp=>?_,λb u e=>?_,I.len⟩
 ·let q:=I.base.Zl b xs e;rw[aJ (ne q)];exact q
 ·let q:=I.base.Ze b u v e;rw[aJ (ne q)];exact q
 ·let⟨m,q⟩:=I.base.Zm b ps e;exact⟨m,by rw[aJ (ne q)];exact q⟩
 ·rw[aJ (U8 hf.2.1)];exact I.free
 ·rw[aJ (hf.2.2.2.2.1 x c e)];exact I.YQ x c e
 ·let⟨e,n,r⟩:=I.pin p hp;exact⟨e,by rw[aJ (hf.2.2.2.2.2 p hp)];exact n,r⟩
 ·by_cases hb:b=a
  ·subst hb;rw[aG] at e;cases e;exact new
  ·rw[aJ hb] at e;exact(I.X8 b u e).YF (λc v _ q=>q) (λc q=>by rw[aJ (ne q)];exact q) λc xs q=>by rw[aJ (ne q)];exact q
def P8 (K:Xt)(a:Addr):It:=
 ⟨λi H=>∃xs x,bu K H a xs/\xs[i]?∣x,λi H v H'=>∃p x,H p=none/\v= .ref p/\H'=upd H p (.tup [.int i,x])/\∀xs,bu K H a xs->xs[i]?∣x,λi H=>∃xs,bu K H a xs/\xs.length<=i⟩
theorem DN {k:Nat}(a e it:Addr)(hei:e≠it):Turn P w K (.Tuple es k tp) (P8 K a) [e,it] e (λi h=>(∃old,IsEnum h e it i old)/\h.IsListIter it a i) where
 mem:=`d
 obj:=λi h st b hb=>by
  let⟨⟨old,he⟩,o,ho,hc,hd⟩:=st;obtain rfl | hb:=SF.mp hb
  ·exact⟨_,he,λv z=>by cases z⟩
  ·let e2:b=it:= ~~~hb
   subst e2;exact⟨o,ho,λv z=>by rw[hd] at z;cases z⟩
 keep:=λi h h' st kk=>⟨st.1.elim λold he=>⟨old,kk e `d _ he⟩,st.2.at λo x=>kk it `d o x⟩
 item:=by
  intro X hP hw hK hc i X3 s σ H E I hf st hg;subst hP hw hK;let⟨⟨old,he⟩,hit⟩:=st;let⟨xs,x,hq,hx⟩:=hg;let⟨X5,r,pl,hz⟩:=I.list hq;let⟨u,hu,rx⟩:=r.get hx;let hn:H ⇑s=none:=I.X8.fresh (UJ _);refine wpAny_pyNext_enum_item he hit pl.isList (x:=u) (~~~hu) hei λh' ho hit' hT hsz hk=>?_;refine⟨_,rfl,?_⟩;refine wpAny_letOwnedTupleGo_enum (s:={s with heap:=h',toks:=s.toks+1}) ho λh2 he2 YE=>?_;let Z8:∀b o,b∉[e,it]->s.heap.get? b∣o->h2.get? b∣o:=λb o hb q=>by
   let hbe:b≠e:=λz=>hb (by simp[z]);exact YE.extBut b o hbe (hk b o hbe (λz=>hb (by simp[z])) q)
  let I1:Inv X X3 σ H {s with heap:=h2,toks:=s.toks+1}:=pR I Z8 hf;let hel:e≠⇑s:=UO (W7 he);let hT2:h2.get? ⇑s=some {cls:=.type "tuple",data:=.seq #[.int i s.toks,u]}:=(YE.2 _ (U8 hel)).trans hT;let I2:Inv X X3 σ (upd H ⇑s (.tup [.int i,x])) {s with heap:=h2,toks:=s.toks+1}:=
   adopt I1 (I.ka (UJ _) hn) (I.sz) ⟨by show 2<=Vn;decide,[.int i s.toks,u],.cons ⟨_,rfl⟩ (.cons rx .nil),⟨_,hT2,rfl,_,rfl⟩⟩
  refine⟨.ref ⇑s,_,I2,rfl,⟨⇑s,x,hn,rfl,rfl,λys hy=>?_⟩,⟨⟨u,by simpa using he2⟩,hit'.at λo y=>(YE.2 it (U8 hei)).trans y⟩,λb hb=>?_⟩
  ·rw[I.nH hy hq];exact hx
  ·let YS:b<⇑s:=by
    obtain rfl | hb:=SF.mp hb
    ·exact W7 he
    ·let e2:b=it:= ~~~hb
     subst e2;let⟨o,ho,_⟩:=hit;exact W7 ho
   rw[aJ (UO YS)];exact(hf b hb).1
 done:=by
  intro X hP hw hK hc i X3 s σ H E I hf st hg;subst hP hw hK;let⟨⟨old,he⟩,hit⟩:=st;let⟨xs,hq,hx⟩:=hg;let⟨X5,r,pl,hz⟩:=I.list hq;refine wpAny_pyNext_enum_end (I.ok.hd hc) he hit pl.isList (by have:=r.length;simp;cbv) λh' hk=>⟨rfl,?_⟩;exact pR (t':=s.toks) I (λb o hb q=>hk b o (λz=>hb (by simp[z])) q) hf
 self:=λ_ _ _ _ _ st h=>st.1.elim λold he=>wpAny_pyIter_enum he h
def Nm (K:Xt)(ta:TA):TI:=λσ H R=>ta σ H λvs H1=>∃a xs,vs=[.ref a]/\bu K H1 a xs/\R (P8 K a) H1
theorem HG {a:Expr}{ta:TA}{p:Pos}{k:Nat}(hg:Gl X "enumerate")(hm:X.mg "enumerate"=none)(ha:PA X [a] ta)(hs:fL X a:=by rfl):PI X (.Tuple es k tp) (.Call (.Name "enumerate" p) [a] [] pos) (Nm X.K ta):=by
 intro X3 s σ H R I h;refine Call_ (i7 I hg hm boot_enumerate (Vf `T hs rfl));let⟨l,xs,e,hq,q⟩:=q1;subst e;cases r1 with
 | cons r rr=>
   cases rr
   cases r
   let⟨X5,r',pl,hz⟩:=I1.list hq;refine call_enumerate_list pl.isList λh' he hit hsz hk=>?_;refine wpAny_pyIter_enum he ?_;let I2:Inv X X3 σ H1 {s1 with heap:=h'}:=I1.kept (t':=s1.toks) hk;let f0:H1 ⇑s1=none:=I1.X8.fresh (UJ _);let f1:H1 (⇑s1+1)=none:=I1.X8.fresh (US _);refine⟨⇑s1+1,[⇑s1+1,⇑s1],_,_,H1,rfl,I2,DN l (⇑s1+1) ⇑s1 (UW (UT _)),⟨⟨.none,he⟩,hit⟩,λb hb=>?_,q⟩;obtain rfl | hb:=SF.mp hb
   ·exact I1.ka (US _) f1
   ·let e2:b=⇑s1:= ~~~hb
    subst e2;exact I1.ka (UJ _) f0
noncomputable def nums (xs:`x):List (Int×α):=(xs.zipIdx).map λp=>((p.2:Int),p.1)
theorem cN (xs:`x):(nums xs).length=xs.length:=by unfold nums;rw[Ss,List.length_zipIdx]
theorem ft {y:Int×α}(h:(nums xs)[i]?∣y):y.1=(i:Int)/\xs[i]?∣y.2:=by
 unfold nums at h;rw[Sw,List.getElem?_zipIdx] at h;cases e:xs[i]? with
 | none=>rw[e] at h;cases h
 | some x=>rw[e] at h;cases h;exact⟨`d,rfl⟩
theorem iU {a:Expr}{p:Pos}{k:Nat}(hm:X.mg "enumerate"=none)(ha:EV X a Z (ae r) xs Γ1)(hs:fL X a:=by rfl)(hg:Gl X "enumerate":=by rfl):
 IV X (.Tuple es k tp) (.Call (.Name "enumerate" p) [a] [] pos) Z (dO ah r) (nums xs) Γ1:=by
 refine⟨_,HG hg hm `be hs,λσ H0 R0 H R E Rq q=>ha σ H0 R0 H R E _ λv H1 R1 E1 s1 e1=>?_⟩;let⟨a,vs,rfl,hp,pp,z⟩:=e1;refine⟨a,vs,rfl,bu.of (E1.sub _ _ hp),q _ H1 R1 E1 s1 (by rw[cN];exact z) λH' R' sR sH i=>⟨λy hy=>?_,λhi=>?_⟩⟩
 ·let hq:bu X.K H' a vs:=bu.of (sH _ _ (sR _ _ hp));let⟨e1,e2⟩:=ft hy;let⟨v,hv,hr⟩:=eC pp e2;refine⟨⟨vs,v,hq,hv⟩,λv' H2 hyl=>?_⟩;let⟨p,x,hpn,rfl,rfl,hy⟩:=hyl;have:=hy vs hq;rw[hv] at this;cases this
  let s2:av R' (upd R' p (.tup [.int i,v])):=av.fresh (sH.free hpn) _;exact⟨upd R' p (.tup [.int i,v]),Ext.fresh sH hpn _,p,_,_,rfl,aG,by rw[e1];rfl,r.mono s2 (r.mono sR hr)⟩
 ·exact⟨vs,bu.of (sH _ _ (sR _ _ hp)),by rw[pp.length,← cN xs];exact hi⟩
theorem yD:fY X (.builtin "isinstance") (λxs H Q=>∃x c t b,xs=[x,.ty c]/\fN X.K H x t/\XO X.K t (.type c)∣b/\Q (.bl b) H):=by
 intro X3 s σ H xs us Q I r h;let⟨x,c,t,b,rfl,ty,e,q⟩:=h;let⟨u,u2,rfl,r1,r2⟩:=vals2 r;cases (show u2=Xs c from r2)
 exact BN I r1 ty e λtk=>⟨.bl b,H,I.tok tk,rfl,q⟩
theorem bA {p:Pos}{x:α}{c:String}{t:`aa}{b:Bool}(hm:X.mg "isinstance"=none)(hmy:X.mg y=none)(hvy:VM y∣.type c)(he:EV X e Z r x Γ1)(ty:∀(R H:Hp) v,av R H->r.R X.K R v x->fN X.K H v t)(ht:∀K:Xt,XO K t (.type c)∣b:=by intro;rfl)(hs:Vt [e,.Name y p2] X.env=(false,eval e X.env)::Vt [.Name y p2] X.env:=by rfl)(hg:Gl X "isinstance":=by rfl)(hgy:Gl X y:=by rfl)(hny:y≠"__name__":=by decide)(hdy:YV y:=by decide):EV X (.Call (.Name "isinstance" p) [e,.Name y p2] [] pos) Z cU b Γ1:=by
 intro σ H0 R0 H R E Q q;refine eS (eX yD hg hm PyProof.Rows.boot_isinstance (aK aO (aK (JF (v:=.ty c) hgy hmy hvy rfl hny hdy) br rfl) hs) `c `c hs rfl) `V;exact⟨v,c,t,b,rfl,ty R1 H1 v E1.sub e1,ht _,q _ H1 R1 E1 s1 rfl⟩
theorem ty_int {x:Int}(R H:Hp)(v:V)(_:av R H)(h:ah.R K R v x):fN K H v (.type "int"):=by cases h;exact .int _
theorem ty_list (R H:Hp)(v:V)(s:av R H)(h:(ae r).R K R v xs):fN K H v (.type "list"):=by let⟨a,vs,rfl,e,_⟩:=h;exact .lst (s _ _ e)
theorem in1_units (A:Vu):A.in1.units=A.units+1:=rfl
theorem Bw {A:Vu}(I:`h)(sub:av R H){b:Addr}{k:Nat->Bool}(ha:R a∣.tup vs)(hb:R b∣.tup ws)(hl:vs.length=ws.length)(hu:A.units<cLine)(he:∀(us Zv:RZ),Vals vs us->Vals ws Zv->∀(j:Nat)(h1:j<us.toArray.size)(h2:j<Zv.toArray.size),Xi A.in1 s us.toArray[j] Zv.toArray[j] (k j)):
 SeqAt.RcAt A s (.ref a) (.ref b) ((SQ vs.length).all k)/\SeqAt.RcNeAt A s (.ref a) (.ref b) (!(SQ vs.length).all k):=by
 let⟨us,hv,pl,_⟩:=I.tuple (dY.of (sub _ _ ha));let⟨Zv,hw,ZH,_⟩:=I.tuple (dY.of (sub _ _ hb));let lx:us.toArray.size=vs.length:=by rw[SJ,← hv.length]
 let ly:Zv.toArray.size=vs.length:=by rw[SJ,← hw.length,hl]
 let r1:=SeqAt.RcAt.tuples (A:=A) pl ZH hu (he us Zv hv hw);let r2:=SeqAt.RcNeAt.tuples (A:=A) pl ZH hu (he us Zv hv hw);rw[lx,ly,Nat.min_self] at r1 r2;simp only[beq_self_eq_true,Sf] at r1 r2;exact⟨r1,r2⟩
theorem uQ:fY X (.type "range") (λxs H Q=>∃n:Int,xs=[.int n]/\∀p,H p=none->Q (.ref p) (upd H p (.rng 0 n))):=by
 intro X3 s σ H xs us Q I r h;let⟨n,rfl,q⟩:=h;let⟨u,rfl,t,rfl⟩:=vals1 r;refine call_range_1 ?_;exact⟨.ref ⇑s,_,I.laid (o:=.rng 0 n) (λb o e=>W6 _ e) (UJ _) ⟨_,_,_,W8 _ rfl⟩,rfl,q _ (I.X8.fresh (UJ _))⟩
theorem ui:fY X (.type "range") (λxs H Q=>∃m n:Int,xs=[.int m,.int n]/\∀p,H p=none->Q (.ref p) (upd H p (.rng m n))):=by
 intro X3 s σ H xs us Q I r h;let⟨m,n,rfl,q⟩:=h;let⟨u,u2,rfl,⟨t,rfl⟩,⟨t2,rfl⟩⟩:=vals2 r;refine call_range_2 ?_;exact⟨.ref ⇑s,_,I.laid (o:=.rng m n) (λb o e=>W6 _ e) (UJ _) ⟨_,_,_,W8 _ rfl⟩,rfl,q _ (I.X8.fresh (UJ _))⟩
theorem oK (hc:X.calm=true):fY X (.type "list") (λxs H Q=>∃(p:Addr)(m n:Int),xs=[.ref p]/\H p∣.rng m n/\ -1000000<=m/\m<=1000000/\ -1000000<=n/\n<=1000000/\∀d,H d=none->Q (.ref d) (upd H d (.lst ((ups m (n-m).toNat).map V.int)))):=by
 intro X3 s σ H xs us Q I r h;let⟨p,m,n,rfl,hp,m1,m2,n1,n2,q⟩:=h;let⟨u,rfl,rx⟩:=vals1 r;cases rx
 let⟨t,t2,t3,ho⟩:=I.X8 p _ hp;let hsz:WI m n 1=(((n-m).toNat:Nat):Int):=by rw[rangeSize_one];split<;>cbv
 refine call_list_range (I.ok.hd hc) ho (small_one `a `a `a `a) hsz `a λh' tk acc c' hk hS hacc=>?_;let vals:Vals ((ups m (n-m).toNat).map V.int) acc.toList:=by
  let key:∀(k:Nat)(X5:RZ)(lo:Int),X5.length=k->(∀(j:Nat) v,X5[j]?∣v->∃t,v= .int (lo+(j:Int)*1) t)->Vals ((ups lo k).map V.int) X5:=by
   intro k
   induction k with
   | zero=>intro X5 lo hl _;cases X5 with
     | nil=>exact .nil
     | cons _ _=>cases hl
   | succ k ih=>
     intro X5 lo hl hv;cases X5 with
     | nil=>cases hl
     | cons v r=>
       let e:ups lo (k+1)=lo::ups (lo+1) k:=by
        unfold ups;rw[List.range_succ_eq_map,Ta,Tp];congr 1
        ·simp
        ·apply TK;intro a _;simp;cbv
       rw[e,Ta];let⟨t,e0⟩:=hv 0 v rfl;refine .cons ⟨t,by rw[e0];simp⟩ (ih r (lo+1) (~~~hl) λj v hj=>?_);let⟨t,ej⟩:=hv (j+1) v (~~~hj);exact⟨t,by rw[ej];congr 1;push_cast;cbv⟩
  refine key _ _ m (by rw[R8];exact hacc.1) λj v hj=>hacc.2 j v (~~~hj)
 exact⟨.ref _,_,I.laid (a:=⇑s) (o:=.lst ((ups m (n-m).toNat).map V.int)) hk (UJ _) ⟨by rw[Ss,bt];exact UK (show(n-m).toNat<=2000000 by cbv) `c,acc.toList,c',vals,by rw[hS]⟩,rfl,q _ (I.X8.fresh (UJ _))⟩
end
noncomputable def uc (scope:Scope)(env:Env):List (Str×Addr):=(scope.names.filterMap λp=>if p.2== .free then(env.cells.lookup p.1).map (λc=>(p.1,c)) else none).reverse
theorem tF {env:Env}:∀(names:List (Str×VU))(acc:`aA),(∀y∈names,y.2= .free->∃c,env.cells.lookup y.1∣c)->
 (forIn names acc λ(x:Str×VU)(r:`aA)=>if(x.2==VU.free)=true then do let a ← cellOf env x.1;pure (Sh ((x.1,a)::r)) else pure (Sh r):Sem (List (Str×Addr)))
  =pure ((names.filterMap λp=>if p.2== .free then(env.cells.lookup p.1).map (λc=>(p.1,c)) else none).reverse++acc)
 | [],acc,_=>rfl
 | (n,k)::r,acc,h=>by
   let ih:=tF (env:=env) r;rw[UC,Uj];cases hk:(k==VU.free) with
   | false=>
     simp only[hk,Bool.false_eq_true,if_false];rw[pure_bind];exact ih acc λy hy=>h y (Sv _ hy)
   | true=>
     let⟨c,hc⟩:=h (n,k) Sz (eq_of_beq hk);let Zp:cellOf env n=pure c:=by unfold cellOf;rw[hc]
     simp only[hk,if_true,hc,Vb,Zp];rw[pure_bind,pure_bind];show forIn r ((n,c)::acc) _=_;rw[ih ((n,c)::acc) λy hy=>h y (Sv _ hy)];simp
theorem A6 {own:RU}(hk:scope.kind= .function)(hn:∀y∈scope.names,y.2≠ .cell)(hl:∀y∈scope.names,y.2= .local->scope.names.lookup y.1∣.local)(hc:∀x,X.env.scope.names.lookup x∣.cell->∃c,X.env.cells.lookup x∣c)(hf:∀y∈scope.names,y.2= .free->X.env.scope.names.lookup y.1∣.cell)(hfr:∀x∈fr,scope.names.lookup x∣.free)(hlen:fr.length=ix.length)(YZ:∀(k i:Nat)(x:Str),ix[k]?∣i->fr[k]?∣x->X.N[i]?∣x):fu X scope (uc scope X.env) own fr ix:=by
 let free:∀y∈scope.names,y.2= .free->∃c,X.env.cells.lookup y.1∣c:=λy hy e=>hc _ (hf y hy e);refine⟨?_,λx c e=>?_,hk,hn,hl,λx e=>?_,hfr,hlen,λk i x e1 e2=>⟨YZ k i x e1 e2,hf (x,.free) (Vz (hfr x (SD e2))) rfl⟩⟩
 ·have:=tF (env:=X.env) scope.names [] free;rw[S3] at this;let e:closureFor scope X.env=((forIn scope.names [] λ(x:Str×VU)(r:`aA)=>if(x.2==VU.free)=true then do let a ← cellOf X.env x.1;pure (Sh ((x.1,a)::r)) else pure (Sh r):Sem (List (Str×Addr))) >>=λcs=>pure cs):=rfl;rw[e,this,pure_bind];rfl
 ·let m:=Vz e;unfold uc at m;let⟨p,_,hp⟩:=Us.mp (List.mem_reverse.mp m);split at hp
  ·cases q:X.env.cells.lookup p.1 with
   | none=>rw[q] at hp;cases hp
   | some c'=>rw[q] at hp;cases hp;exact q
  ·cases hp
 ·let m:=Vz e;let⟨c,hcc⟩:=free _ m rfl;let m2:(x,c)∈uc scope X.env:=by
   unfold uc;refine List.mem_reverse.mpr (Us.mpr ⟨(x,.free),m,?_⟩);simp[hcc]
  cases q:(uc scope X.env).lookup x with
  | some c'=>exact⟨c',rfl⟩
  | none=>
    rw[List.lookup_eq_none_iff] at q;exact XS (q _ m2) `d
noncomputable def BZ (scope so:Scope)(N0 fr:RU)(ix:List Nat):Bool:=
 decide (scope.kind= .function)&&scope.names.all (λy=>decide (y.2≠ .cell)&&(decide (y.2≠ .local) ||decide (scope.names.lookup y.1∣.local))&&(decide (y.2≠ .free) ||decide (so.names.lookup y.1∣.cell)))
  &&fr.all (λx=>decide (scope.names.lookup x∣.free))&&decide (fr.length=ix.length)&&(SQ ix.length).all λk=>match ix[k]?,fr[k]? with | some i,some x=>decide (N0[i]?∣x) | _,_=>true
theorem bQ {so:Scope}{N0 own:RU}(hso:X.env.scope=so)(hN0:X.N=N0)(hc:∀x,X.env.scope.names.lookup x∣.cell->∃c,X.env.cells.lookup x∣c)(h:BZ scope so N0 fr ix=true):fu X scope (uc scope X.env) own fr ix:=by
 unfold BZ at h;simp only[Sa,Se,decide_eq_true_eq,Ud] at h;let⟨⟨⟨⟨h1,h2⟩,h3⟩,h4⟩,h5⟩:=h;refine A6 h1 (λy hy=>(h2 y hy).1.1) (λy hy e=>(h2 y hy).1.2.resolve_left λz=>z e) hc (λy hy e=>by rw[hso];exact(h2 y hy).2.resolve_left λz=>z e) h3 h4 λk i x e1 e2=>?_;let hk:k<ix.length:=(Sn.mp e1).1;have:=h5 k (Tv.mpr hk);rw[e1,e2] at this;rw[hN0];simpa using this
theorem An (i:Nat){k:Nat}{p:Pos}{Pd:α->Prop}(C:`aO)(hr:bH k X.A)(ha:HA X (e::es) Z ps Γ1)(hS:S X.K ps (cq X.K r Pd))(h:∀z,Pd z->N (Γ1.set i (.im r z)))(hg:Gl X x:=by rfl)(Yz:YV x:=by decide)(he:dk X e es:=by rfl)(Yo:eV X p2 es:=by rfl)(hN:X.N.Nodup:=by first | assumption | decide)(hi:X.N[i]?∣y:=by rfl)(hx:`bk)(hs:Vv (.Call `ah (e::es) [] p2) (some (.Name y p1)) pos.line X.env=pure false:=by rfl)(hf:autoParam (fU X y) Zj):
 W1 X (.Assign [.Name y p1] (.Call `ah (e::es) [] p2) pos) Z N T:=λσ H0 R0 H R E D dn dr=>
 sS (lr hN hi hx aO hs hf) (kU C hr ha hS E (λH1 R1 v H' R' E1 s1 xx t=>by
  let⟨z,e1,hz⟩:=t;exact dn _ H' R' _ ((E1.grow xx).set i e1) `bA (h z hz)) hg Yz he Yo)
theorem Mi {w:Row}(h:EV X iter Z fh w Γ1):IV X tg iter Z ah [w.1,w.2.1,w.2.2.1,w.2.2.2] Γ1:=by
 refine⟨_,BY aO,λσ H0 R0 H R E Rq q=>h σ H0 R0 H R E _ λv H1 R1 E1 s1 e1=>?_⟩;let⟨a,rfl,ha⟩:=e1;let Z7:∀H' R':Hp,av R1 R'->av R' H'->dY X.K H' a [.int w.1,.int w.2.1,.int w.2.2.1,.int w.2.2.2]:=λH' R' sR sH=>dY.of (sH _ _ (sR _ _ ha));refine⟨a,rfl,⟨_,Z7 H1 R1 `Z E1.sub⟩,q _ H1 R1 E1 s1 (by show 4<=Vn;decide) λH' R' sR sH i=>⟨λx hx=>?_,λhi=>⟨_,Z7 H' R' sR sH,hi⟩⟩⟩;let e2:([.int w.1,.int w.2.1,.int w.2.2.1,.int w.2.2.2]:List V)[i]?∣.int x:=by
  have:=congrArg (Option.map V.int) hx;rw[← Sw] at this;exact this
 refine⟨⟨_,_,Z7 H' R' sR sH,e2⟩,λv H2 hy=>?_⟩;let⟨rfl,hy⟩:=hy;have:=hy _ (Z7 _ R' sR sH);rw[e2] at this;cases this
 exact⟨R',Ext.refl sH,rfl⟩
variable {rr:Rep β}
theorem II:eW X (VQ .Mult) (rI Wy λi j=>.int (i*j)):=zw λ_ _ _ _ _ _ _ hc q=>mul_int q hc
theorem mD {a:Expr}{x y:Int}(ha:EV X a Z ah x Γ1)(hb:EV X b Γ1 ah y Γ2)(h:Wy x y):EV X (.BinOp a .Mult b pos) Z ah (x*y) Γ2:=kH II ha hb λR v u H Q e1 e2 q=>⟨x,y,e1,e2,h,q _ rfl⟩
noncomputable def aF (a:Addr)(r:Rep α)(xs:`x):ou where
 fp:=[a]
 R:=λK H R v=>v= .ref a/\∃vs,H a∣.lst vs/\PySem.Paired (r.R K R) vs xs
 loc:=λhH hR ⟨e,vs,h,p⟩=>⟨e,vs,(hH a `bi).trans h,Paired.map (λ_ _=>r.mono hR) p⟩
 has:=λ⟨e,vs,h,p⟩ b hb=>by rw[Su.mp hb,h];exact Va _
theorem iH (h:H a∣.lst vs)(hR:R a=none)(p:PySem.Paired (r.R K R) vs xs):(Ent.ob `aN).ok K H R (some (.ref a)):=
 ⟨⟨_,rfl,rfl,vs,h,p⟩,λb hb=>by rw[Su.mp hb];exact hR⟩
theorem cn (h:(Ent.ob `aN).ok K H R o):o∣.ref a/\(∃vs,H a∣.lst vs/\PySem.Paired (r.R K R) vs xs)/\R a=none:=by
 let⟨⟨v,rfl,rfl,q⟩,n⟩:=h;exact⟨rfl,q,n a `bi⟩
theorem WS.box (i:Nat){Y1:List Stmt}(hΓ:`ay)(h:∀a,WS X Y1 (Z.set i (.ob `aN)) N T):WS X Y1 Z N T:=λσ H0 R0 H R E D dn dr=>by
 let⟨a,vs,ea,ha,hR,pp⟩:=E.ent i _ hΓ;exact h a σ H0 R0 H R (E.tell hΓ (by rw[ea];exact iH ha hR pp) λb w=>by
  rw[show b=a from Su.mp w];exact cf.mpr ea) D dn dr
theorem EV.box (i:Nat){xs':`x}{y:β}(h:EV X e (Z.set i (.mu r xs)) rr y Γ1)(hΓ:Z[i]?∣(.ob `aN))(hΓ1:Γ1[i]?∣.mu r xs'):EV X e Z rr y (Γ1.set i (.ob (aF a r xs'))):=by
 intro σ H0 R0 H R E Q q;let⟨ea,⟨vs,ha,pp⟩,hR⟩:=cn (E.ent i _ hΓ);refine h σ H0 R0 H R (E.tell hΓ (by rw[ea];exact⟨a,vs,rfl,ha,hR,pp⟩) λb w=>by rw[cf.mp w] at ea;cases ea;exact Su.mpr rfl) Q λv H' R' E' s' hr=>q v H' R' ?_ s' hr
 let⟨a',Yy,YC,YT,YI,Y2⟩:=E'.ent i _ hΓ1;rw[ea] at YC;cases YC
 exact E'.tell hΓ1 (by rw[ea];exact iH YT YI Y2) λb w=>by rw[show b=a from Su.mp w];exact cf.mpr ea
theorem TV.box (i:Nat){xs':`x}{y:Bool}(h:TV X e (Z.set i (.mu r xs)) y Γ1)(hΓ:Z[i]?∣(.ob `aN))(hΓ1:Γ1[i]?∣.mu r xs'):TV X e Z y (Γ1.set i (.ob (aF a r xs'))):=by
 intro σ H0 R0 H R E Q q;let⟨ea,⟨vs,ha,pp⟩,hR⟩:=cn (E.ent i _ hΓ);refine h σ H0 R0 H R (E.tell hΓ (by rw[ea];exact⟨a,vs,rfl,ha,hR,pp⟩) λb w=>by rw[cf.mp w] at ea;cases ea;exact Su.mpr rfl) Q λH' R' E' s'=>q H' R' ?_ s'
 let⟨a',Yy,YC,YT,YI,Y2⟩:=E'.ent i _ hΓ1;rw[ea] at YC;cases YC
 exact E'.tell hΓ1 (by rw[ea];exact iH YT YI Y2) λb w=>by rw[show b=a from Su.mp w];exact cf.mpr ea
theorem dI (j:Nat){i:Int}{y:α}(hb:EV X b Z ah i Z)(hΓ:Z[j]?∣(.ob `aN))(h:cE xs i∣y)(hN:X.N[j]?∣x:=by rfl)(hv:autoParam (Cd X.env.scope x) vA1)(hs:dU b:=by exact λ_ _=>rfl)(hd:YV x:=by decide)(Z4:Cd0 x:=by decide):EV X (.Subscript `m b pos) Z r y Z:=by
 intro σ H0 R0 H R E Q q;let⟨ea,⟨vs,ha,pp⟩,hR⟩:=cn (E.ent j _ hΓ);refine eS (ip gT (aX ⟨hN,hv,hd,Z4⟩) aO hs) ⟨.ref a,am ea,hb σ H0 R0 H R E _ λu H2 R2 E2 s2 e2=>?_⟩;let⟨YC,⟨Yy,YT,Y2⟩,YI⟩:=cn (E2.ent j _ hΓ);let⟨w,e3,e4⟩:=iW Y2 h;exact⟨a,Yy,i,w,rfl,e2,bu.of YT,e3,q w H2 R2 E2 s2 e4⟩
theorem eG (i:Nat){y:α}{k:Int}(he:EV X e Z r y Γ1)(hb:EV X b Γ1 ah k Γ2)(hΓ1:Γ1[i]?∣(.ob `aN))(hΓ2:Γ2[i]?∣(.ob `aN))(hj:gm xs.length k∣j)(h:N (Γ2.set i (.ob (aF a r (xs.set j y)))))(hN:`p)(ha:∀v,VT (.Subscript `m b p2) X.env v=(do
  let ov ← VP [v] (eval `m X.env)
  let iv ← VP [v,ov] (eval b X.env)
  Wa p2
  VP [v,ov,iv] (setItem ov iv v)
  release [v,ov,iv] []):=by intro _;rfl)(hs:We [.Subscript `m b p2] e pos.line X.env=pure false:=by rfl)(hw:Wf [.Subscript `m b p2] e X.env=pure none:=by rfl)(h1:(VS [.Subscript `m b p2] X.env).map (·.2)=[VT (.Subscript `m b p2) X.env]:=by rfl):
 W1 X (.Assign [.Subscript `m b p2] e pos) Z N T:=λσ H0 R0 H R E D dn dr=>by
 refine sS (xR aO (D6 (aX hN) aO set_list ha) hs hw h1) `V;let⟨ea,⟨vs,hp,pp⟩,hR⟩:=cn (E1.ent i _ hΓ1);refine⟨.ref a,am ea,hb σ H0 R0 H1 R1 E1 _ λu H2 R2 E2 s2 e2=>?_⟩;let⟨YC,⟨Yy,YT,Y2⟩,YI⟩:=cn (E2.ent i _ hΓ2);refine⟨a,Yy,k,j,rfl,e2,YT,by rw[Y2.length];exact hj,?_⟩;exact dn σ _ R2 _ (E2.oR (en:=.ob (aF a r (xs.set j y))) hΓ2 `bi (by rw[YC];exact iH aG YI (nZ (r.mono s2 e1) j Y2)) λb w=>.inl w) `E h
noncomputable def del (H:Hp)(a:Addr):Hp:=λb=>if b=a then none else H b
theorem xX :del H a a=none:=XU rfl
theorem o9 {b:Addr}(h:b≠a):del H a b=H b:=XT h
theorem Jp :av (del H a) H:=λb o q=>by
 by_cases h:b=a
 ·subst h;rw[xX] at q;cases q
 ·rwa [o9 h] at q
theorem ar.GY {H' R':Hp}(E:`y)(off:Off a σ Z)(h0:H0 a=none)(x:Ext (del H a) R H' R'):ar K σ H0 R0 H' R' Z:=by
 let ne:∀{b:Addr},H0 b≠none->b≠a:=λh e=>h (e▸h0);refine⟨⟨λb o q=>?_,E.ext.r.trans x.r,x.s,λb hb=>?_⟩,λi e q=>?_,E.nw,E.ds,E.len⟩
 ·exact x.h b o (by rw[o9 (ne (by rw[q];exact Va _))];exact E.ext.h b o q)
 ·refine(x.old b ?_).trans (E.ext.old b hb);rw[o9 (ne hb)];exact av.some E.ext.h hb
 ·let h1:=E.ent i e q;let na:∀b∈e.fp (σ[i]?).join,b≠a:=λb hb z=>off i e q (z▸hb);refine h1.loc (λb hb=>?_) x.r λb hb=>?_
  ·cases e2:H b with
   | none=>exact XS e2 (Ent.fz h1 hb).1
   | some u=>exact x.h b u (by rw[o9 (na b hb)];exact e2)
  ·exact(x.old b (by rw[o9 (na b hb)];exact(Ent.fz h1 hb).1)).trans (Ent.fz h1 hb).2
theorem ar.lW (E:`y){e0:Ent}(hi:Z[i]?∣e0)(ho:en.ok K H R (σ[i]?).join)(Yx:∀b∈en.fp (σ[i]?).join,H0 b=none/\∀(j:Nat)(e:Ent),j≠i->Z[j]?∣e->b∉e.fp (σ[j]?).join):ar K σ H0 R0 H R (Z.set i en):=by
 refine⟨E.ext,λj e q=>?_,λj e b q w=>?_,λj k e e' b q q' w w'=>?_,by rw[Tb];exact E.len⟩
 ·obtain⟨rfl,rfl,_⟩ | ⟨hj,q1⟩:=set_at q
  ·exact ho
  ·exact E.ent j e q1
 ·obtain⟨rfl,rfl,_⟩ | ⟨hj,q1⟩:=set_at q
  ·exact(Yx b w).1
  ·exact E.nw j e b q1 w
 ·obtain⟨rfl,rfl,_⟩ | ⟨hj,q1⟩:=set_at q
  ·obtain⟨rfl,rfl,_⟩ | ⟨hk,Zg⟩:=set_at q'
   ·rfl
   ·exact XS w' ((Yx b w).2 k e' hk Zg)
  ·obtain⟨rfl,rfl,_⟩ | ⟨hk,Zg⟩:=set_at q'
   ·exact XS w ((Yx b w').2 j e hj q1)
   ·exact E.ds _ _ _ _ b q1 Zg w w'
abbrev jt (α:Type):=Xt->List α->List Pk->(List α->RT)->Prop
def fR (r:Rep α)(S:jt α)(K:Xt):Sp:=λvs H Q _=>∃R a ws xs Yy ps T,vs= .ref a::Yy/\av R H/\R a=none/\H a∣.lst ws/\PySem.Paired (r.R K R) ws xs/\kq K R Yy ps/\S K xs ps T/\
 ∀v H' R' YK xs',Ext (del H a) R H' R'->H' a∣.lst YK->R' a=none->PySem.Paired (r.R K R') YK xs'->T xs' (del H a) v H' R'->Q v H'
theorem Dg {S:jt α}{k:Nat}{p:Pos}{TM:List α->RT}(i:Nat)(C:`aH)(hr:bH k X.A)(ha:HA X es Z ps Γ1)(hΓ:`ay)(hΓ1:Γ1[i]?∣.mu r xs)(hS:S X.K xs ps TM)(E:`aS)(q:∀H1 v H' R' xs',ar X.K σ H0 R0 H' R' (Γ1.set i (.mu r xs'))->av R R'->TM xs' H1 v H' R'->Q v H')(hg:Gl X x)(Yz:(x==("__debug__":Str))=false)(he:Vt (.Name y p1::es) X.env=`bp::Vt es X.env)(Yo:eV X pos es)(hN:At X i y):fE X `bJ σ H Q:=by
 let⟨f,fd,pn,F,hm,hk,hb⟩:=C.ex;let⟨a,vs,ea,_,_,_⟩:=E.ent i _ hΓ;refine eS (gR F hr hg hm hk hb .nil jO (aK (aX hN) oz he) Yz he Yo) ⟨.ref a,am ea,ha σ H0 R0 H R E _ λus H1 R1 E1 s1 p1=>?_⟩;let⟨a',ws,YC,hp,hR,pp⟩:=E1.ent i _ hΓ1;rw[ea] at YC;cases YC
 let h0:H0 a=none:=E1.new i _ a hΓ1 rfl ea;refine⟨R1,a,ws,xs,us,ps,TM,by rw[S3],E1.sub,hR,hp,pp,p1,hS,λv H' R' YK xs' xx h1 h2 pq t=>q _ v H' R' xs' ?_ `bA t⟩;let apart:∀(j:Nat)(e:Ent),j≠i->Γ1[j]?∣e->a∉e.fp (σ[j]?).join:=λj e hj qj w=>hj (E1.ds j i e _ a qj hΓ1 w (cf.mpr ea));let E2:ar X.K σ H0 R0 H1 R1 (Γ1.set i .no):=E1.tell hΓ1 trivial λb w=>by cases w
 let E3:=E2.GY (a:=a) (λj e qj w=>by
  obtain⟨rfl,rfl,_⟩ | ⟨hj,q1⟩:=set_at qj
  ·cases w
  ·exact apart j e hj q1 w) h0 xx
 let hl:i<Γ1.length:=(Sn.mp hΓ1).1;let E4:=E3.lW (i:=i) (e0:=.no) (en:=.mu r xs') (SG hl) (by rw[ea];exact⟨a,YK,rfl,h1,h2,pq⟩) λb w=>by
  let eb:b=a:=by rw[cf.mp w] at ea;cases ea;rfl
  subst eb;exact⟨h0,λj e hj qj=>apart j e hj (by rwa [SX (U8 hj)] at qj)⟩
 rw[TR] at E4;exact E4
theorem xB (i:Nat){S:jt α}{k:Nat}{p:Pos}{st:`x}{z:β}(C:`aH)(hr:bH k X.A)(ha:HA X es Z ps Γ1)(hΓ:`ay)(hΓ1:Γ1[i]?∣.mu r xs)(hS:S X.K xs ps (λxs'=>cq X.K rr λw=>xs'=st/\w=z))(hg:Gl X x:=by rfl)(Yz:YV x:=by decide)(he:Vt (.Name y p1::es) X.env=`bp::Vt es X.env:=by rfl)(Yo:eV X pos es:=by rfl)(hN:autoParam (At X i y) cg):
 EV X `bJ Z rr z (Γ1.set i (.mu r st)):=λσ H0 R0 H R E Q q=>
 Dg i C hr ha hΓ hΓ1 hS E (λH1 v H' R' xs' E' s' t=>by
  let⟨w,e1,rfl,rfl⟩:=t;exact q v H' R' E' s' e1) hg Yz he Yo hN
theorem dN (i:Nat){S:jt α}{k:Nat}{p:Pos}{st:`x}{z:β}(C:`aH)(hr:bH k X.A)(ha:HA X es (Z.set i (.mu r xs)) ps (Z.set i (.mu r xs)))(hΓ:Z[i]?∣(.ob `aN))(hS:S X.K xs ps (λxs'=>cq X.K rr λw=>xs'=st/\w=z))(hg:Gl X x:=by rfl)(Yz:YV x:=by decide)(he:Vt (.Name y p1::es) X.env=`bp::Vt es X.env:=by rfl)(Yo:eV X pos es:=by rfl)(hN:autoParam (At X i y) cg):
 EV X `bJ Z rr z (Z.set i (.ob (aF a r st))):=by
 let hl:i<Z.length:=(Sn.mp hΓ).1;let h:=EV.box i (xs':=st) (xB (p:=p) i C hr ha (SG hl) (SG hl) hS hg Yz he Yo hN) hΓ (by rw[TR];exact SG hl);rwa [TR,TR] at h
def vx (K:Xt)(a:Addr)(r:Rep α)(T:List α->RT):RT:=λH0 v H' R'=>∃YK xs',H' a∣.lst YK/\R' a=none/\PySem.Paired (r.R K R') YK xs'/\T xs' H0 v H' R'
theorem Kj (i:Nat){y:β}{P:List α->β->Prop}(he:EV X e Z rr y Γ1)(hΓ1:Γ1[i]?∣(.ob `aN))(h:P xs y):W1 X (.Return (some e) pos) Z N (vx X.K a r λxs'=>cq X.K rr (P xs')):=λσ H0 R0 H R E D dn dr=>
 sS (jm aO) (he σ H0 R0 H R E _ λv H1 R1 E1 s1 e1=>by
  let⟨ea,⟨vs,ha,pp⟩,hR⟩:=cn (E1.ent i _ hΓ1);exact dr v H1 R1 E1.ext ⟨vs,xs,ha,hR,pp,y,e1,h⟩)
theorem nU {N:RU}(s:av R H)(hR:R a=none)(ha:H a∣.lst ws)(pp:PySem.Paired (r.R K R) ws xs)(p:kq K R vs ps)(hl:ps.length+1<=N.length):
 ar K (L2.start N (.ref a::vs)) (del H a) R H R (.ob `aN::fm ps (N.length-1)):=by
 obtain⟨n0,N',rfl⟩:∃n0 N',N=n0::N':=by cases N with
  | nil=>exact XS hl `d
  | cons n N'=>exact⟨n,N',rfl⟩
 let Zu:ps.length<=N'.length:= ~~~hl
 let E0:=j7 (N:=N') s p Zu;let es:L2.start (n0::N') (.ref a::vs)=some (.ref a)::L2.start N' vs:=by unfold L2.start;simp
 rw[es];let Yu:∀(i:Nat)(e:Ent)(o:Option V),(fm ps N'.length)[i]?∣e->e.fp o=[]:=λi e o q=>by
  unfold fm at q;obtain z | z:=SK.mp (SD q)
  ·let⟨p,_,rfl⟩:=SU.mp z;rfl
  ·let⟨_,rfl⟩:=Ut.mp z;rfl
 refine⟨⟨Jp,av.refl _,s,λ_ _=>rfl⟩,λi e q=>?_,λi e b q w=>?_,λi j e e' b q q' w w'=>?_,?_⟩
 ·cases i with
  | zero=>simp at q;subst q;exact iH ha hR pp
  | succ i=>simp at q;simpa using E0.ent i e q
 ·cases i with
  | zero=>simp at q;subst q;rw[show b=a from Su.mp w];exact xX
  | succ i=>simp at q;rw[Yu i e _ q] at w;cases w
 ·cases i with
  | succ i=>simp at q;rw[Yu i e _ q] at w;cases w
  | zero=>
    cases j with
    | zero=>rfl
    | succ j=>simp at q';rw[Yu j e' _ q'] at w';cases w'
 ·have:=E0.len;simp[this]
theorem wj {S:jt α}{N ps:RU}{k:Nat}(F:`bK)(Sc:bD N ps (ao st))(hm:mg x∣.ref f)(hb:be K fd ps [])(len:∀xs qs T,S K xs qs T->qs.length+1=ps.length)(Yn:∀(X6:`aa)(A:Vu)(outer:List Env)(s:Vo)(H:Hp)(E:XK)(a:Addr)(xs:`x)(qs:List Pk)(T:List α->RT),bH k `ad->S K xs qs T->
  WS (eE d7 P w K mg base N qual (ao st) f X6 A outer s H E).gP (bF st) (.ob `aN::fm qs (N.length-1)) (λ_=>False) (vx K a r T)):aD P w K mg base x (k+1) (fR r S K):=by
 refine⟨f,fd,ps,?_,hm,F.kp,hb⟩;refine F.ok Sc `bu `W
 ·let⟨R,a,ws,xs,Yy,qs,T,rfl,_,_,_,_,p,hS,_⟩:=h;rw[SE,p.length];exact len xs qs T hS
 ·let⟨R,a,ws,xs,Yy,qs,T,rfl,sR,hR,ha,pp,p,hS,q⟩:=h;let hl:qs.length+1<=N.length:=by
   rw[len xs qs T hS];have:=congrArg List.length Sc.pre;rw[SW] at this;cbv
  refine⟨_,g8,Yn X6 A outer s H E a xs qs T hr hS (L2.start N (.ref a::Yy)) (del H a) R H R (nU sR hR ha pp p hl) {nx:=λ_ H'=>Q .Ye H',rt:=Q} (λ_ _ _ _ _ _ f=>f.elim) λv H' R' xx t=>?_⟩;let⟨YK,xs',h1,h2,h3,h4⟩:=t;exact q v H' R' YK xs' xx h1 h2 h3 h4
theorem Ie {S:jt α}{N ps:RU}{k:Nat}(D:Def K mg x st ps)(Yn:∀(f:Addr)(X6:`aa)(A:Vu)(outer:List Env)(s:Vo)(H:Hp)(E:XK)(a:Addr)(xs:`x)(qs:List Pk)(T:List α->RT),N.Nodup->bH k (A.deeper (Vi x (ao st) ⇑s f X6))->S K xs qs T->
  WS (eE d7 P w K mg base N x (ao st) f X6 A outer s H E).gP (bF st) (.ob `aN::fm qs (N.length-1)) (λ_=>False) (vx K a r T))(len:∀xs qs T,S K xs qs T->qs.length+1=ps.length:=by(intros;rename_i h;repeat (first | (rw[h.1];rfl) | let⟨_,h⟩:=h)))(Sc:bD N ps (ao st):=by exact Zf):aD P w K mg base x (k+1) (fR r S K):=by
 let⟨f,fd,F,hm,hb⟩:=D;exact wj F Sc hm hb len λX6 A outer s H E a xs qs T=>Yn f X6 A outer s H E a xs qs T Sc.nd
def cz (k:Nat)(y:α)(xs:`x):List α:=xs.take k++y::xs.drop k
theorem wM {k:Nat}{y:α}:(cz k y xs).length=xs.length+1:=by
 unfold cz;rw[Sx,SE,SW,T7];cbv
theorem BB (f:α->β){k:Nat}{y:α}:(cz k y xs).map f=cz k (f y) (xs.map f):=by
 unfold cz;rw[SN,Ta,map_take,UD]
def HF:V->List V->Hp->VK->Prop:=λx vs H Q=>∃l xs i y,x= .ref l/\vs=[.int i,y]/\H l∣.lst xs/\0<=i/\i<=(xs.length:Int)/\xs.length<Vn/\Q .Ye (upd H l (.lst (cz i.toNat y xs)))
theorem DF:Gi X "list.insert" HF:=by
 intro X3 s σ H x vs v us Q I rx rv h;let⟨l,xs,i,y,rfl,rfl,hH,h0,h1,hz,q⟩:=h;cases rx
 let⟨u1,u2,rfl,⟨t,rfl⟩,r2⟩:=vals2 rv;let⟨z,X5,n,r,hl,e⟩:=I.oh hH;let hfit:Builtin.List.listFitsIndex i=true:=fitsIndex_both `a (by
  have:Vn<2 ^ 63:=`c
  cbv)
 refine VW PySem.F.slot_list_insert ⟨_,e,rfl⟩ PySem.F.entry_list_insert (PySem.F.args_list_insert_3 _ _ _) (PySem.AutoSeq1.list_insert_list_int_val_1 l _ n i t u2 (by simp[hfit]) (by rw[SJ];cbv)) ⟨e,?_⟩;refine⟨.Ye,_,I.A8 (its':=cz i.toNat u2 X5) hH e ?_ ?_ ?_,rfl,q⟩
 ·let hk:(if i<0 then(i+((X5.toArray.size:Nat):Int)).toNat else min i.toNat X5.toArray.size)=i.toNat:=by
   rw[XT `a,SJ];cbv
  dsimp only;rw[hk];unfold cz;apply Array.ext';simp;exact T2 (by rw[T7];exact UJ _)
 ·unfold cz;exact(r.take _).append (.cons r2 (r.drop _))
 ·rw[wM];cbv
def dG:Rep Addr:=⟨λ_ _ v a=>v= .ref a,λ_ h=>h⟩
noncomputable def og:Ent->Ent
 | .im r x=>.im r x
 | _=>.no
theorem ar.YY {K:Xt}{σ:St}{H0 R0 H R:Hp}(E:`y):ar K σ H H H H (Z.map og):=by
 let Yu:∀(i:Nat)(e:Ent)(o:Option V),(Z.map og)[i]?∣e->e.fp o=[]:=λi e o q=>by
  rw[Sw] at q;cases h:Z[i]? with
  | none=>rw[h] at q;cases q
  | some e'=>rw[h] at q;cases q;cases e'<;>rfl
 refine⟨Ext.refl `Z,λi e q=>?_,λi e a q w=>XS w (by rw[Yu i e _ q];exact Tc),λi j e e' a q _ w=>XS w (by rw[Yu i e _ q];exact Tc),by rw[Ss];exact E.len⟩;rw[Sw] at q;cases h:Z[i]? with
 | none=>rw[h] at q;cases q
 | some e'=>
   rw[h] at q;cases q
   have:=E.ent i e' h;cases e' with
   | im r x=>let⟨v,e,hr⟩:=this;exact⟨v,e,r.mono E.sub hr⟩
   | no=>trivial
   | mu r x=>trivial
   | di x=>trivial
   | ob x=>trivial
theorem LO {N ps:RU}{k:Nat}(F:`bK)(Sc:bD N ps (ao st))(len:∀qs T,S K qs T->qs.length=ps.length)(Yn:∀(X6:`aa)(A:Vu)(outer:List Env)(s:Vo)(H:Hp)(E:XK)(qs:List Pk)(T:RT),bH k `ad->S K qs T->
  WS (eE d7 P w K mg base N qual (ao st) f X6 A outer s H E).gP (bF st) (fm qs N.length) (λ_=>False) T):eZ P w K mg base d7 (k+1) f fd ps (aP S K):=by
 refine F.ok Sc `bu `W
 ·let⟨R,qs,T,_,p,hS,_⟩:=h;rw[p.length];exact len qs T hS
 ·let⟨R,qs,T,sR,p,hS,q⟩:=h;let hl:qs.length<=N.length:=by
   rw[len qs T hS];have:=congrArg List.length Sc.pre;rw[SW] at this;cbv
  exact⟨_,g8,Yn X6 A outer s H E qs T hr hS (L2.start N vs) H R H R (j7 sR p hl) {nx:=λ_ H'=>Q .Ye H',rt:=Q} (λ_ _ _ _ _ _ f=>f.elim) λv H' R' xx t=>q v H' R' xx t⟩
theorem JK {h:Heap}{ps:RU}{oc:`aa}{od an:Option Addr}{ZN:Array RX}{kV doc pm X6 ct:`aa}(KX:K.In h)(G:h.Ns Vq mg)(a:Xu K Vq x∣(some (.ref f)))(l:K.lookup f∣⟨oc,od,.func `aQ,ZN⟩)(c:XD K X6 x=true)(k:Xy K (.ref f)=true)(b:∀(kV doc pm:`aa)(an:Option Addr)(X6 ct:`aa)(us:RZ),us.length=ps.length->bindArgs `aQ ⟨us,[]⟩=pure (ps.zip us)):Def K mg x st ps:=
 ⟨f,_,lC l c k,Xx KX G a,(lC l c k).binds b⟩
open PySem.Builtin.Int (intBits)
theorem yI {ns:RS}(h:PySem.W.WData.layableAll [.list (ns.map .int)]=true):∀n∈ns,intBits n<=2 ^ 20:=λn hn=>by
 let h1:=PySem.W.layableW_arg h _ `bi;let h2:=PySem.W.layableW_item h1 (.int n) (SU.mpr ⟨n,hn,rfl⟩);exact PySem.PyData.bits_of_layable h2
end Fc
namespace Att
open PySem PySem.W PySem.Calls PyProof.Rows
open PySem.Builtin.Int (intBits)
theorem xg {l:OpenLaw}{n:Nat}{q:Vr}{loose:RU}{XP:(RQ)->Heap->Prop}{YP:World->Heap->Prop}{d:DefRec}(hn:l.most∣n)(hdf:d.params.defaults=[])(call:∀(w:World)(s₀ s₁:Vo)(mg mb:RQ)(fa:Addr)(o:Obj)(pm cd doc:`aa)(a:Addr)(vs:RZ)(ns:RS),
  Ground q loose [] XP w s₀ mg mb s₁.heap->YP w s₁.heap->
  s₁.heap.get? fa∣o->o.data= .func (docDef d.name d.params d.body d.scope pm cd doc)->s₁.heap.CodeRec cd d.name->mg d.name∣.ref fa->
  s₁.heap.get? a=some {cls:=.type "list",data:=.seq vs.toArray}->IntsAre vs ns->ns.length<=n->(∀m∈ns,intBits m<=2 ^ 20)->s₁.gens= #[]->
  Wb (model l.prog w) Wj (.call (.ref fa) ⟨[.ref a],[]⟩) `aK s₁):
 WalkO q loose XP YP l.row.toRowW d [] (λf vs=>PySem.call f vs):=by
 intro w s₀ s₁ mg mb G Y fa o pm cd doc dV kV ho hd Z4 hD hmg hg args vals as hpre hlay hrd hwl hlo;obtain rfl:dV= .none:=Dflts.none hD hdf;obtain rfl:kV= .none:=Dflts.noKw hD;let⟨a,vs,ns,rfl,rfl,hobj,hints,hlen⟩:=Dp hn hpre hwl;refine enter_call (Wl (call w s₀ s₁ mg mb fa o pm cd doc a vs ns G Y ho (fd_plain hd) Z4 hmg hobj hints hlen (Fc.yI hlay) hg) λr s' hq=>?_);let⟨rfl,h2,h3,h4⟩:=hq;exact⟨.inl ⟨.bool true,.bool true,[],rfl,λ_=>rfl,.bool true,BM l _,λ_=>⟨List.Pairwise.nil,λ_ hm=>(nomatch hm)⟩⟩,h2,h3,h4⟩
end Att
namespace L2
open PySem PySem.Spec PyProof.Rows
open PySem.Builtin.Int (intBits)
theorem FL {l:XM}{n k:Nat}{q:Vr}{loose:RU}{XP:(RQ)->Heap->Prop}{YP:World->Heap->Prop}{d:DefRec}{K:Params->Xt}{CX:World->ox}{sp:World->Sp}{x:Str}(hn:l.most∣n)(hn2:n<=Vn)(hdf:d.params.defaults=[])(hr:bH k Wj)(hY:∀(w:World)(h:Heap),YP w h->(K w.params).In h)(F:∀(w:World)(mg:RQ)(fa:Addr)(h:Heap),(K w.params).In h->h.Ns Vq mg->mg d.name∣.ref fa->
  ∃fd:Vw,(∀(s:Vo)(u:`aa),Wu s fd ⟨[u],[]⟩ [(x,u)])/\
   ∀base:Heap,(K w.params).In base->base.Ns Vq mg->eZ l.prog w (K w.params) mg base (CX w) k fa fd [x] (sp w))(ZJ:∀(w:World)(H:Hp)(a:Addr)(ns:RS),ns.length<=n->(∀m∈ns,intBits m<=2 ^ 20)->Fp H->bu (K w.params) H a (ns.map V.int)->sp w [.ref a] H (λv _=>v= .bl true) λ_ _ _=>False)(hCX:∀(w:World)(H:Hp)(s:Vo)(e:`aa)(s':Vo),CX w [] H s (λ_ _ _=>False) e s'->False):
 PySem.W.WalkO q loose XP YP l.row.toRowW d [] (λf vs=>PySem.call f vs):=by
 refine Att.xg hn hdf λw s₀ s₁ mg mb fa o pm cd doc a vs ns G Y ho hd Z4 hmg hobj hints hlen ZE hg=>?_;let KX:=hY w _ Y;let⟨fd,hb,hF⟩:=F w mg fa _ KX G.T.g hmg;exact FP KX G.T.g G.T.b G.T.builtins G.T.nolimit hg hobj hints (UK hlen hn2) hr hF hb (λH hO hS=>ZJ w H a ns hlen ZE hO hS) λH e s'=>hCX w H s₁ e s'
end L2
namespace Fc
open PySem PySem.Spec PySem.W PySem.Calls L2
open PyProof.Rows hiding St
variable {X:Cx}
section
variable {Z Γ1:Ga}
end
section
variable {P:Vr}{w:World}{K:Xt}{mg:RQ}{base:Heap}
end
section
variable {X3:RR}{σ:St}{H:Hp}{s:Vo}{e:Addr}{o:Obj}
end
end Fc
namespace Fc
open PySem PySem.Spec PySem.W PySem.Calls L2
open PyProof.Rows hiding St
open PySem PySem.Spec PySem.W PySem.Calls PySem.Builtin.ObjectAttr PySem.Builtin.Getset_descriptor L2
section
variable {K:Frag}{D x:Addr}{prog:Vr}{w:World}{A:Vu}{E:`r}{s:Vo}
end
section
variable {X:Cx}{Z Γ1:Ga}{ea D:Addr}{oe:Obj}
end
end Fc
namespace Fc
open PySem PySem.Spec PySem.W PySem.Calls L2
open PyProof.Rows hiding St
variable {X:Cx}{Z Γ1:Ga}
section
variable {H0 R0:Hp}
end
variable {P:Vr}{w:World}{K:Xt}{mg:RQ}{base:Heap}{qual:Str}{f:Addr}{A:Vu}{s:Vo}{H R:Hp}
section
variable {N:RU}{scope:Scope}{cd:`aa}{outer:List Env}{E:XK}
end
variable {X3:RR}{σ:St}
section
variable {ea D:Addr}{oe:Obj}
end
def ak:Rep Str:=⟨λ_ _ v x=>v= .str x,λ_ h=>h⟩
variable {x:Str}{pos:Pos}
theorem aA {j:Nat}:EV X (.Constant (.str x) j pos) Z ak x Z:=λ_ _ _ _ _ E _ q=>eS Ke (q _ _ _ E `Z rfl)
inductive PV
 | Ye
 | bl (b:Bool)
 | int (i:Int)
 | str (x:Str)
 | tup (xs:`aP)
 | lst (xs:`aP)
mutual
inductive fc (H:Hp):V->PV->Prop
 | Ye:fc H .Ye .Ye
 | bl (b:Bool):fc H (.bl b) (.bl b)
 | int (i:Int):fc H (.int i) (.int i)
 | str (x:Str):fc H (.str x) (.str x)
 | tup {a:Addr} {vs:`K} {xs:`aP}:H a∣.tup vs->eL H vs xs->fc H (.ref a) (.tup xs)
 | lst {a:Addr} {vs:`K} {xs:`aP}:H a∣.lst vs->eL H vs xs->xs.length<=Vn->fc H (.ref a) (.lst xs)
inductive eL (H:Hp):List V->List PV->Prop
 | nil:eL H [] []
 | cons {v:V} {x:PV} {vs:`K} {xs:`aP}:fc H v x->eL H vs xs->eL H (v::vs) (x::xs)
end
mutual
theorem fc.mono {H H':Hp}(s:av H H'):∀{v:V}{x:PV},fc H v x->fc H' v x
 | _,_,.Ye=>.Ye
 | _,_,.bl b=>.bl b
 | _,_,.int i=>.int i
 | _,_,.str x=>.str x
 | _,_,.tup h t=>.tup (s _ _ h) (eL.mono s t)
 | _,_,.lst h t z=>.lst (s _ _ h) (eL.mono s t) z
theorem eL.mono {H H':Hp}(s:av H H'):∀{vs:`K}{xs:`aP},eL H vs xs->eL H' vs xs
 | _,_,.nil=>.nil
 | _,_,.cons h t=>.cons (fc.mono s h) (eL.mono s t)
end
theorem eL.pair {H:Hp}:∀{vs:`K}{xs:`aP},eL H vs xs->PySem.Paired (fc H) vs xs
 | _,_,.nil=>.nil
 | _,_,.cons h t=>.cons h (eL.pair t)
theorem eL.of {H:Hp}:∀{vs:`K}{xs:`aP},PySem.Paired (fc H) vs xs->eL H vs xs
 | _,_,.nil=>.nil
 | _,_,.cons h t=>.cons h (eL.of t)
def au:Rep PV:=⟨λ_ H v x=>fc H v x,λs h=>h.mono s⟩
variable {N:Ga->Prop}{Γ2 Γ3:Ga}{α β γ δ:Type}{T:RT}{e:Expr}{n:Int}{xs:`aP}{es:R6}{vs:`K}{p2:Pos}{ws:`K}{r:Rep α}{r':Rep β}{y:β}
section
variable {a:Expr}
theorem EV.re {x:α}(h:EV X e Z r x Γ1)(f:∀(K:Xt)(R:Hp)(v:V),r.R K R v x->r'.R K R v y):EV X e Z r' y Γ1:=λσ H0 R0 H R E Q q=>h σ H0 R0 H R E Q λv H' R' E' s' e'=>q v H' R' E' s' (f _ _ v e')
theorem EV.pI (h:EV X e Z ah n Γ1):EV X e Z au (.int n) Γ1:=h.re λK R v e=>by cases e;exact .int n
theorem EV.pS (h:EV X e Z ak x Γ1):EV X e Z au (.str x) Γ1:=h.re λK R v e=>by cases e;exact .str x
theorem EV.pL (h:EV X e Z (ae au) xs Γ1):EV X e Z au (.lst xs) Γ1:=h.re λK R v ⟨a,vs,e,q,p,z⟩=>by subst e;exact .lst q (.of p) z
theorem uC {K:Xt}{R:Hp}:∀{vs:`K}{xs:RS},PySem.Paired (ah.R K R) vs xs->eL R vs (xs.map PV.int)
 | _,_,.nil=>.nil
 | _,_,.cons h t=>.cons (by cases h;exact .int _) (uC t)
theorem EV.My {xs:RS}(h:EV X e Z (ae ah) xs Γ1):EV X e Z au (.lst (xs.map PV.int)) Γ1:=h.re λK R v ⟨a,vs,e,q,p,z⟩=>by subst e;exact .lst q (uC p) (by rw[Ss];exact z)
theorem EV.iP (h:EV X e Z au (.int n) Γ1):EV X e Z ah n Γ1:=h.re λK R v e=>by cases e;rfl
theorem EV.sP (h:EV X e Z au (.str x) Γ1):EV X e Z ak x Γ1:=h.re λK R v e=>by cases e;rfl
theorem EV.lP (h:EV X e Z au (.lst xs) Γ1):EV X e Z (ae au) xs Γ1:=h.re λK R v e=>by cases e with | lst q p z=>exact⟨_,_,rfl,q,p.pair,z⟩
theorem gB {k:Nat}(h:EA X es Z au xs Γ1)(hz:xs.length<=Vn:=by show _<=Vn;decide):EV X (.Tuple es k pos) Z au (.tup xs) Γ1:=by
 intro σ H0 R0 H R E Q q;refine eS (xK oz) (h σ H0 R0 H R E _ λvs H1 R1 E1 s1 p1=>⟨by rw[p1.length];exact hz,λp hp=>?_⟩);let x:=Ext.fresh E1.sub hp (.tup vs);exact q _ _ _ (E1.grow x) (s1.trans x.r) (.tup aG (.of (Paired.map (λ_ _=>au.mono x.r) p1)))
theorem dv {b:Expr}{i:Int}{y:PV}(ha:EV X a Z au (.tup xs) Γ1)(hb:EV X b Γ1 ah i Γ2)(h:cE xs i∣y)(hs:dU b:=by exact λ_ _=>rfl):EV X (.Subscript a b pos) Z au y Γ2:=by
 intro σ H0 R0 H R E Q q;refine eS (ip Dq aO aO hs) `k;cases au.mono (K:=X.K) s2 e1 with
 | tup ha pp=>
   let⟨w,e3,e4⟩:=iW pp.pair h;exact⟨_,_,i,w,rfl,e2,dY.of (E2.sub _ _ ha),e3,q w H2 R2 E2 `E e4⟩
theorem Am {p:Pos}(hm:X.mg "len"=none)(ha:EV X a Z au (.tup xs) Γ1)(hs:fL X a:=by rfl)(hg:Gl X "len":=by rfl):EV X `aX Z ah (xs.length:Int) Γ1:=by
 intro σ H0 R0 H R E Q q;refine eS (eX gN hg hm VJ `be `c `c hs) `B;cases e1 with
 | tup hp pp=>
   refine⟨_,_,rfl,.inr (dY.of (E1.sub _ _ hp)),?_⟩;rw[pp.pair.length];exact q _ H1 R1 E1 s1 rfl
theorem o8 (R H:Hp)(v:V)(s:av R H)(h:au.R K R v (.tup xs)):fN K H v (.type "tuple"):=by cases h with | tup e _=>exact .tup (s _ _ e)
theorem kN (R H:Hp)(v:V)(s:av R H)(h:au.R K R v (.lst xs)):fN K H v (.type "list"):=by cases h with | lst e _ _=>exact .lst (s _ _ e)
theorem CO (p:PySem.Paired (fc H) vs xs)(l h:`br):PySem.Paired (fc H) (mz vs l h) (cut xs l h):=by
 unfold mz cut;rw[p.length];exact jN _ (mv _ p)
theorem Mu {lo hi:Option Expr}{l h:`br}(ha:EV X a Z au (.tup xs) Z)(hl:OV X lo Z l)(hh:OV X hi Z h)(hw:¬(HT.Yl xs.length 0 l=0/\HT.Yl xs.length xs.length h=xs.length)):EV X (.Subscript a (.Slice lo hi none p2) pos) Z au (.tup (cut xs l h)) Z:=by
 intro σ H0 R0 H R E Q q;let⟨tl,pl,kl⟩:=hl;let⟨th,ph,kh⟩:=hh;refine eS (nI JZ aO pl ph) `G;cases au.mono (K:=X.K) (s2.trans s3) e1 with
 | @tup a' Yy _ hp pp=>
   refine⟨_,_,rfl,dY.of (E3.sub _ _ hp),by rw[pp.pair.length];exact hw,λd hd=>?_⟩;let x:=Ext.fresh E3.sub hd (.tup (mz Yy l h));exact q _ _ _ (E3.grow x) (s1.trans (s2.trans (s3.trans x.r))) (.tup aG (.of (Paired.map (λ_ _=>au.mono (K:=X.K) x.r) (CO pp.pair l h))))
mutual
noncomputable def PV.deep:PV->Nat
 | .tup xs=>PV.jL xs+1
 | .lst xs=>PV.jL xs+1
 | _=>0
noncomputable def PV.jL:List PV->Nat
 | []=>0
 | x::xs=>max (PV.deep x) (PV.jL xs)
end
theorem iu:∀{xs:`aP}{x:PV},x∈xs->x.deep<=PV.jL xs
 | y::ys,x,h=>by
   rw[PV.jL];obtain rfl | h:=SF.mp h
   ·cbv
   ·have:=iu h;cbv
theorem all_true {n:Nat}:((SQ n).all λ_=>true)=true:=`d
theorem sv (I:`h)(sub:av R H)(ih:∀x∈xs,∀{v u:V}{vv uu:`aa},bn v vv->bn u uu->fc R v x->fc R u x->Xi A s vv uu true){us Zv:RZ}(hv:Vals vs us)(hw:Vals ws Zv)(p1:PySem.Paired (fc R) vs xs)(p2:PySem.Paired (fc R) ws xs):
 ∀(j:Nat)(h1:j<us.toArray.size)(h2:j<Zv.toArray.size),Xi A s us.toArray[j] Zv.toArray[j] true:=by
 intro j h1 h2;let h1':j<us.length:= ~~~h1
 let h2':j<Zv.length:= ~~~h2
 let hx:j<xs.length:=by rw[← p1.length,hv.length];exact h1'
 let⟨v,e1,r1⟩:=eC p1 (So hx);let⟨u,e2,r2⟩:=eC p2 (So hx);let⟨vv,e3,r3⟩:=hv.get e1;let⟨uu,e4,r4⟩:=hw.get e2;rw[So h1'] at e3;rw[So h2'] at e4;simp only[List.getElem_toArray];rw[Option.some.inj e3,Option.some.inj e4];exact ih _ (S7 hx) r3 r4 r1 r2
theorem GB (I:`h)(sub:av R H):∀(n:Nat){x:PV},x.deep<=n->∀{A:Vu},A.units+n<cLine->∀{v u:V}{vv uu:`aa},bn v vv->bn u uu->fc R v x->fc R u x->Xi A s vv uu true:=by
 intro n
 induction n using Nat.strongRecOn with
 | _ n ih=>
   intro x hd A hu v u vv uu rv ru h1 h2;cases h1 with
   | Ye=>cases h2;cases rv;cases ru;exact Xi.same _
   | bl b=>cases h2;cases rv;cases ru;have:=Xi.bool_bool (A:=A) (s:=s) b b;rwa [beq_self_eq_true] at this
   | int i=>cases h2;let⟨t,rfl⟩:=rv;let⟨t',rfl⟩:=ru;exact λprog w E Q q=>wpAny_eqBool_int (~~~q)
   | str z=>cases h2;let⟨t,rfl⟩:=rv;let⟨t',rfl⟩:=ru;have:=Xi.str_str (A:=A) (s:=s) z t z t';rwa [beq_self_eq_true] at this
   | @tup a1 v1 xs e1 p1=>
     cases h2 with
     | @tup a2 v2 _ e2 p2=>
       cases rv;cases ru
       rw[PV.deep] at hd;by_cases hab:a1=a2
       ·subst hab;exact Xi.same _
       ·let l12:v1.length=v2.length:=p1.pair.length.trans p2.pair.length.symm;let key:=(Bw (A:=A) (k:=λ_=>true) I sub e1 e2 l12 `a λus Zv hv hw=>sv I sub (λx hx v u vv uu rv ru q1 q2=>ih (n-1) `a (x:=x) (by have:=iu hx;cbv) (A:=A.in1) (by rw[in1_units];cbv) rv ru q1 q2) hv hw p1.pair p2.pair).1;rw[all_true] at key;exact Xi.of_refs hab key
   | @lst a1 v1 xs e1 p1 z1=>
     cases h2 with
     | @lst a2 v2 _ e2 p2 z2=>
       cases rv;cases ru
       rw[PV.deep] at hd;by_cases hab:a1=a2
       ·subst hab;exact Xi.same _
       ·let⟨us,hv,pl,_⟩:=I.list (bu.of (sub _ _ e1));let⟨Zv,hw,ZH,_⟩:=I.list (bu.of (sub _ _ e2));let lx:us.toArray.size=Zv.toArray.size:=by rw[SJ,SJ,← hv.length,← hw.length,p1.pair.length,p2.pair.length]
        let key:=SeqAt.RcAt.lists (A:=A) (e:=λ_=>true) pl.isList ZH.isList lx `a (sv I sub (λx hx v u vv uu rv ru q1 q2=>ih (n-1) `a (x:=x) (by have:=iu hx;cbv) (A:=A.in1) (by rw[in1_units];cbv) rv ru q1 q2) hv hw p1.pair p2.pair);rw[all_true] at key;exact Xi.of_refs hab key
theorem Om (I:`h)(sub:av R H){x:PV}(hr:(∃xs,x= .tup xs)∨∃xs,x= .lst xs)(hu:A.units+x.deep<cLine){v u:V}{vv uu:`aa}(rv:bn v vv)(ru:bn u uu)(h1:fc R v x)(h2:fc R u x):SeqAt.RcAt A s vv uu true/\SeqAt.RcNeAt A s vv uu false:=by
 obtain⟨xs,rfl⟩ | ⟨xs,rfl⟩:=hr
 ·cases h1 with
  | @tup a1 v1 _ e1 p1=>
    cases h2 with
    | @tup a2 v2 _ e2 p2=>
      cases rv;cases ru
      rw[PV.deep] at hu;let l12:v1.length=v2.length:=p1.pair.length.trans p2.pair.length.symm;let key:=Bw (A:=A) (k:=λ_=>true) I sub e1 e2 l12 `a λus Zv hv hw=>sv I sub (λx hx v u vv uu rv ru q1 q2=>GB I sub (PV.jL xs) (x:=x) (iu hx) (A:=A.in1) (by rw[in1_units];cbv) rv ru q1 q2) hv hw p1.pair p2.pair;rw[all_true] at key;exact key
 ·cases h1 with
  | @lst a1 v1 _ e1 p1 z1=>
    cases h2 with
    | @lst a2 v2 _ e2 p2 z2=>
      cases rv;cases ru
      rw[PV.deep] at hu;let⟨us,hv,pl,_⟩:=I.list (bu.of (sub _ _ e1));let⟨Zv,hw,ZH,_⟩:=I.list (bu.of (sub _ _ e2));let lx:us.toArray.size=Zv.toArray.size:=by rw[SJ,SJ,← hv.length,← hw.length,p1.pair.length,p2.pair.length]
      let he:=sv (A:=A.in1) I sub (λx hx v u vv uu rv ru q1 q2=>GB I sub (PV.jL xs) (x:=x) (iu hx) (A:=A.in1) (by rw[in1_units];cbv) rv ru q1 q2) hv hw p1.pair p2.pair;let k1:=SeqAt.RcAt.lists (A:=A) (e:=λ_=>true) pl.isList ZH.isList lx `a he;let k2:=SeqAt.RcNeAt.lists (A:=A) (e:=λ_=>true) pl.isList ZH.isList lx `a he;rw[all_true] at k1 k2;exact⟨k1,k2⟩
theorem B9 {x:PV}(hr:(∃xs,x= .tup xs)∨∃xs,x= .lst xs)(hu:X.A.units+x.deep<cLine):iN X .NotEq au au x x false:=
 ⟨λv u H Q=>∃R,av R H/\fc R v x/\fc R u x/\Q (.bl false) H,λX3 s σ H a b v u Q I rx ry ⟨R,sub,h1,h2,q⟩=>(Om I sub hr hu rx ry h1 h2).2 _ _ _ _ ⟨.bl _,H,I,rfl,q⟩,λR H v u Q s h1 h2 q=>⟨R,s,h1,h2,q⟩⟩
end
theorem EV.rep {x:α}(h:EV X e Z r x Γ1)(c:∀(R:Hp) v,r.R X.K R v x->r'.R X.K R v y):EV X e Z r' y Γ1:=λσ H0 R0 H R E Q q=>h σ H0 R0 H R E Q λv H' R' E' s' e'=>q v H' R' E' s' (c R' v e')
variable {p1:Pos}
theorem paired_ints {K:Xt}{R:Hp}:∀ys:RS,PySem.Paired (ah.R K R) (ys.map V.int) ys
 | []=>.nil
 | _::r=>.cons rfl (paired_ints r)
theorem vG {a:Expr}{Zx:Pos}(hml:X.mg "list"=none)(hmr:X.mg "range"=none)(ha:EV X a Z ah n Γ1)(hn: -1000000<=n/\n<=1000000)(hs:fL X a:=by rfl)(YE:Vt [.Call (.Name "range" p2) [a] [] Zx] X.env=[(false,eval (.Call (.Name "range" p2) [a] [] Zx) X.env)]:=by rfl)(hc:X.calm=true:=by rfl)(hg:Gl X "list":=by rfl)(hgr:Gl X "range":=by rfl):bc X (.Call (.Name "list" p1) [.Call (.Name "range" p2) [a] [] Zx] [] pos) Z ah (ups 0 n.toNat) Γ1:=by
 intro σ H0 R0 H R E Q q;refine eS (iQ (oK hc) hg hml Ve (aK (iQ uQ hgr hmr Vl `be `c `c hs) br YE) `c `c YE) (ha σ H0 R0 H R E _ λv H1 R1 E1 s1 e1=>⟨n,by rw[show v=V.int n from e1],λp hp=>?_⟩);refine⟨p,0,n,rfl,aG,`c,`c,hn.1,hn.2,λd hd=>?_⟩;let E2:=E1.grow (Ext.ee E1.sub hp (.rng 0 n));rw[Int.sub_zero];exact q d _ _ R1 (E2.grow (Ext.ee E2.sub hd _)) s1 aG (E2.sub.free hd) (E2.ext.h.free hd) (E2.off hd) (paired_ints _) (by rw[bt];exact UK (show n.toNat<=1000000 by cbv) `c)
variable {S:c9}{ps:List Pk}
section
variable {F:R7}{Γf:Ga}
noncomputable def cK (F:R7):List (Int×V):=F.map λp=>(p.1,.int p.2)
noncomputable def bq (F:R7)(k:Int):Option Int:=(F.find? λp=>decide (p.1=k)).map (·.2)
noncomputable def jK (F:R7)(k v:Int):R7:=if(bq F k).isSome then F.map (λp=>if p.1=k then(p.1,v) else p) else F++[(k,v)]
theorem lO:∀(F:R7)(k:Int),du (cR (cK F)) (Sum.inl k:Key)=(bq F k).map V.int
 | [],_=>rfl
 | p::r,k=>by
   let ih:=lO r k;by_cases e:p.1=k
   ·let e':(Sum.inl p.1:Key)=Sum.inl k:=by rw[e]
    let h1:du (cR (cK (p::r))) (Sum.inl k:Key)∣.int p.2:=dS (p:=((Sum.inl p.1:Key),V.int p.2)) e';rw[h1];unfold bq;rw[T1,XY e];rfl
   ·let e':¬(Sum.inl p.1:Key)=Sum.inl k:=λz=>e (Sum.inl.inj z);let h1:du (cR (cK (p::r))) (Sum.inl k:Key)=du (cR (cK r)) (Sum.inl k:Key):=dD (p:=((Sum.inl p.1:Key),V.int p.2)) e';rw[h1,ih];unfold bq;rw[T1,XZ e]
theorem w8 (F:R7)(k v:Int):putK (cR (cK F)) (Sum.inl k:Key) (.int v)=cR (cK (jK F k v)):=by
 unfold putK jK;rw[iE,lO];let e:((bq F k).map V.int).isSome=(bq F k).isSome:=by cases bq F k<;>rfl
 rw[e];split
 ·unfold cR cK;simp only[Tp];apply TK;intro p _;simp only[Function.comp];by_cases h:p.1=k
  ·rw[XU (by rw[h]),XU h]
  ·rw[XT (λz=>h (Sum.inl.inj z)),XT h]
 ·unfold cR cK;rw[SN,SN];rfl
theorem Hz (F:R7)(k:Int):jf (cK F) k=(bq F k).isSome:=by
 rw[← mZ,lO];cases bq F k<;>rfl
def h9:Rep R7:=⟨λ_ H v F=>∃a,v= .ref a/\H a∣(.dK (cR (cK F))),λs ⟨a,e,q⟩=>⟨a,e,s _ _ q⟩⟩
theorem kZ {a b:Expr}{k y:Int}(hu:`bc)(ha:EV X a Z h9 F Γ1)(hb:EV X b Γ1 ah k Γ2)(h:bq F k∣y)(hs:Ee b:=by exact λ_ _=>rfl):EV X (.Subscript a b pos) Z ah y Γ2:=by
 intro σ H0 R0 H R E Q q;refine eS (HN hu aO aO hs) `k;let⟨p,rfl,hp⟩:=h9.mono s2 e1;cases e2
 let g:=iC.k (k:=Sum.inl k) (E2.sub _ _ hp);rw[lO,h] at g;exact⟨p,_,rfl,g,q _ H2 R2 E2 `E rfl⟩
theorem Fh (F:R7)(k v:Int):(jK F k v).length<=F.length+1:=by
 unfold jK;split
 ·rw[Ss];cbv
 ·rw[Sx];simp
theorem sJ (i:Nat){ke ve:Expr}{k v:Int}(hu:`bc)(hk:EV X ke Z ah k Z)(hv':EV X ve Z ah v Z)(hΓ:Z[i]?∣(.di (cK F)))(hz:F.length<Vn)(h:N (Z.set i (.di (cK (jK F k v)))))(hN:`p)(hs:Vv ve (some (.Subscript `m ke p2)) pos.line X.env=pure false:=by rfl):W1 X (.Assign [.Subscript `m ke p2] ve pos) Z N T:=λσ H0 R0 H R E D dn dr=>by
 refine sS (uT hu (aX hN) aO aO hs) (hv' σ H0 R0 H R E _ λu0 H0' R0' E0 s0 e0=>?_);let⟨a,ea,ha,hR⟩:=E0.ent i _ hΓ;refine⟨.ref a,am ea,hk σ H0 R0 H0' R0' E0 _ λu H1 R1 E1 s1 e1=>?_⟩;let⟨a',YC,YT,YI⟩:=E1.ent i _ hΓ;rw[ea] at YC;cases YC
 cases e1
 cases e0
 refine⟨a,_,rfl,rC.k (k:=Sum.inl k) YT (by unfold cR cK;rw[Ss,Ss];exact hz),?_⟩;rw[w8];exact dn σ _ R1 _ (E1.upd (en:=.di (cK (jK F k v))) hΓ rfl ea YI ⟨a,rfl,aG,YI⟩) (s0.trans s1) h
theorem zS (i:Nat){P:R7->Prop}(hΓ:Z[i]?∣(.di (cK F)))(h:P F)(hN:`p):W1 X (.Return (some `m) pos) Z N (cq X.K h9 P):=λσ H0 R0 H R E D dn dr=>by
 let⟨a,ea,ha,hR⟩:=E.ent i _ hΓ;let h0:H0 a=none:=E.new i _ a hΓ rfl ea;refine sS (jm (aX hN)) ⟨.ref a,am ea,dr _ H (upd R a (.dK (cR (cK F)))) ⟨E.ext.h,E.ext.r.trans (av.fresh hR _),λb o qb=>?_,λb hb=>?_⟩ ⟨F,⟨a,rfl,aG⟩,h⟩⟩
 ·by_cases hb:b=a
  ·subst hb;rw[aG] at qb;cases qb;exact ha
  ·rw[aJ hb] at qb;exact E.ext.s b o qb
 ·rw[aJ (show b≠a from λe=>hb (by rw[e];exact h0))];exact E.ext.old b hb
theorem ar.Lp {H0 R0 H' R':Hp}(E:`y)(E':ar K σ H H H' R' Γf):ar K σ H0 R0 H' R Z:=
 E.grow ⟨E'.ext.h,av.refl _,E.sub.trans E'.ext.h,λ_ _=>rfl⟩
theorem TV.YY (hF:∀(σ:St)(H0 R0 H R:Hp),ar X.K σ H0 R0 H R Z->ar X.K σ H H H H Γf){b:Bool}(h:TV X e Γf b Γf):TV X e Z b Z:=λσ H0 R0 H R E Q q=>
 h σ H H H H (hF σ H0 R0 H R E) Q λH' R' E' s'=>q H' R (E.Lp E') `Z
theorem EV.YY (hF:∀(σ:St)(H0 R0 H R:Hp),ar X.K σ H0 R0 H R Z->ar X.K σ H H H H Γf){r:Rep α}{y:α}(flat:∀(K:Xt)(H H':Hp) v y,r.R K H v y->r.R K H' v y)(h:EV X e Γf r y Γf):EV X e Z r y Z:=λσ H0 R0 H R E Q q=>
 h σ H H H H (hF σ H0 R0 H R E) Q λv H' R' E' s' e'=>q v H' R (E.Lp E') `Z (flat X.K R' R v y e')
def nY:Rep Unit:=⟨λ_ _ v _=>v= .Ye,λ_ h=>h⟩
theorem Jt {k:Nat}{p:Pos}{Pd:Unit->Prop}(C:`aO)(hr:bH k X.A)(ha:HA X (e::es) Z ps Γ1)(hS:S X.K ps (cq X.K nY Pd))(h:N Γ1)(hg:Gl X x:=by rfl)(Yz:YV x:=by decide)(he:dk X e es:=by rfl)(Yo:eV X p2 es:=by rfl)(YH:Vv (.Call `ah (e::es) [] p2) none pos.line X.env=pure false:=by rfl):W1 X (.Expr (.Call `ah (e::es) [] p2) pos) Z N T:=λσ H0 R0 H R E D dn dr=>
 sS (eD aO YH) (kU C hr ha hS E (λH1 R1 v H' R' E1 s1 xx t=>dn σ H' R' _ (E1.grow xx) `bA h) hg Yz he Yo)
def vX (r:Rep α)(S:jt α)(K:Xt):Sp:=λvs H Q _=>∃R a ws xs v0 Yy ps T,vs=v0:: .ref a::Yy/\av R H/\R a=none/\H a∣.lst ws/\PySem.Paired (r.R K R) ws xs/\kq K R (v0::Yy) ps/\S K xs ps T/\
 ∀v H' R' YK xs',Ext (del H a) R H' R'->H' a∣.lst YK->R' a=none->PySem.Paired (r.R K R') YK xs'->T xs' (del H a) v H' R'->Q v H'
end
variable {a:Addr}{st:Stmt}{fd:Vw}
section
variable {N:RU}
theorem MN {ps:RU}{k:Nat}(F:`bK)(Sc:bD N ps (ao st))(hm:mg x∣.ref f)(hb:be K fd ps [])(len:∀qs T,S K qs T->qs.length=ps.length)(Yn:∀(X6:`aa)(A:Vu)(outer:List Env)(s:Vo)(H:Hp)(E:XK)(qs:List Pk)(T:RT),bH k `ad->S K qs T->(∀H0 H' R',T H0 .Ye H' R')/\
  WS (eE d7 P w K mg base N qual (ao st) f X6 A outer s H E).gP (bF st) (fm qs N.length) (λ_=>True) T):aD P w K mg base x (k+1) (aP S K):=by
 refine⟨f,fd,ps,?_,hm,F.kp,hb⟩;refine F.ok Sc `bu `W
 ·let⟨R,qs,T,_,p,hS,_⟩:=h;rw[p.length];exact len qs T hS
 ·let⟨R,qs,T,sR,p,hS,q⟩:=h;let hl:qs.length<=N.length:=by
   rw[len qs T hS];have:=congrArg List.length Sc.pre;rw[SW] at this;cbv
  let⟨h1,h2⟩:=Yn X6 A outer s H E qs T hr hS;exact⟨_,g8,h2 (L2.start N vs) H R H R (j7 sR p hl) {nx:=λ_ H'=>Q .Ye H',rt:=Q} (λσ' H' R' Γ' E' _ _=>q .Ye H' R' E'.ext (h1 _ _ _)) λv H' R' xx t=>q v H' R' xx t⟩
theorem yF {xs:`x}{v0:V}{p0:Pk}(s:av R H)(hR:R a=none)(ha:H a∣.lst ws)(pp:PySem.Paired (r.R K R) ws xs)(h0:p0.r.R K R v0 p0.x)(p:kq K R vs ps)(hl:ps.length+2<=N.length):
 ar K (L2.start N (v0:: .ref a::vs)) (del H a) R H R (.im p0.r p0.x:: .ob `aN::fm ps (N.length-2)):=by
 obtain⟨n0,N',rfl⟩:∃n0 N',N=n0::N':=by cases N with
  | nil=>exact XS hl `d
  | cons n N'=>exact⟨n,N',rfl⟩
 let Zu:ps.length+1<=N'.length:= ~~~hl
 let E0:=nU (N:=N') s hR ha pp p Zu;let es:L2.start (n0::N') (v0:: .ref a::vs)=some v0::L2.start N' (.ref a::vs):=by unfold L2.start;simp
 rw[es];let el:(n0::N').length-2=N'.length-1:=`d
 rw[el];refine⟨E0.ext,λi e q=>?_,λi e b q w=>?_,λi j e e' b q q' w w'=>?_,?_⟩
 ·cases i with
  | zero=>simp at q;subst q;exact⟨v0,rfl,h0⟩
  | succ i=>rw[Ur] at q ⊢;exact E0.ent i e q
 ·cases i with
  | zero=>simp at q;subst q;cases w
  | succ i=>rw[Ur] at q w;exact E0.nw i e b q w
 ·cases i with
  | zero=>simp at q;subst q;cases w
  | succ i=>
    cases j with
    | zero=>simp at q';subst q';cases w'
    | succ j=>rw[Ur] at q q' w w';rw[E0.ds i j e e' b q q' w w']
 ·have:=E0.len;simp only[SE] at this ⊢;cbv
theorem zM {S:jt α}{ps:RU}{k:Nat}(F:`bK)(Sc:bD N ps (ao st))(hm:mg x∣.ref f)(hb:be K fd ps [])(len:∀xs qs T,S K xs qs T->qs.length+1=ps.length)(Yn:∀(X6:`aa)(A:Vu)(outer:List Env)(s:Vo)(H:Hp)(E:XK)(a:Addr)(xs:`x)(q0:Pk)(qs:List Pk)(T:List α->RT),bH k `ad->S K xs (q0::qs) T->
  WS (eE d7 P w K mg base N qual (ao st) f X6 A outer s H E).gP (bF st) (.im q0.r q0.x:: .ob `aN::fm qs (N.length-2)) (λ_=>False) (vx K a r T)):aD P w K mg base x (k+1) (vX r S K):=by
 refine⟨f,fd,ps,?_,hm,F.kp,hb⟩;refine F.ok Sc `bu `W
 ·let⟨R,a,ws,xs,v0,Yy,qs,T,rfl,_,_,_,_,p,hS,_⟩:=h;have:=len xs qs T hS;let e2:=p.length;simp only[SE] at e2 ⊢;cbv
 ·let⟨R,a,ws,xs,v0,Yy,qs,T,rfl,sR,hR,ha,pp,p,hS,q⟩:=h;let hlen:=len xs qs T hS;let hN:ps.length<=N.length:=by
   have:=congrArg List.length Sc.pre;rw[SW] at this;cbv
  cases p with
  | @cons _ _ q0 qs h0 p=>
    let hl:qs.length+2<=N.length:=by simp only[SE] at hlen;cbv
    refine⟨_,g8,Yn X6 A outer s H E a xs q0 qs T hr hS (L2.start N (v0:: .ref a::Yy)) (del H a) R H R (yF sR hR ha pp h0 p hl) {nx:=λ_ H'=>Q .Ye H',rt:=Q} (λ_ _ _ _ _ _ f=>f.elim) λv H' R' xx t=>?_⟩;let⟨YK,xs',h1,h2,h3,h4⟩:=t;exact q v H' R' YK xs' xx h1 h2 h3 h4
end
variable {i:Nat}
section
variable {xs:`x}
theorem vd (i:Nat){ap cp:Pos}{y:α}(he:EV X e Z r y Γ1)(hΓ:`ay)(hΓ1:Γ1[i]?∣.mu r xs)(hz:xs.length<Vn)(hN:`p)(Yd:fA X `m "append":=by rfl)(Yt:nk X cp [e]:=by rfl)(Yc:`ae=true:=by rfl)(hs:dk X e []:=by rfl):EV X `I Z nY () (Γ1.set i (.mu r (xs++[y]))):=λσ H0 R0 H R E Q q=>by
 let⟨a,vs,ea,ha,hR,pp⟩:=E.ent i _ hΓ;refine eS `ao ?_;refine⟨.ref a,am ea,.inl ⟨rfl,vs,bu.of ha⟩,he σ H0 R0 H R E _ λv H1 R1 E1 s1 e1=>?_⟩;let⟨a',Yy,YC,YT,YI,Y2⟩:=E1.ent i _ hΓ1;rw[ea] at YC;cases YC
 refine⟨a,Yy,v,rfl,rfl,YT,by rw[Y2.length];exact hz,?_⟩;exact q _ _ R1 (E1.upd (en:=.mu r (xs++[y])) hΓ1 rfl ea YI ⟨a,_,rfl,aG,YI,dM Y2 (.cons e1 .nil)⟩) s1 rfl
theorem B5 (hΓ:`ay)(hz:xs.length<=Vn)(σ:St)(H0 R0 H R:Hp)(E:`aS):ar X.K σ H H H H ((Z.map og).set i (.im (ae r) xs)):=by
 let⟨a,vs,ea,ha,hR,pp⟩:=E.ent i _ hΓ;exact E.YY.lW (i:=i) (e0:=.no) (by rw[Sw,hΓ];rfl) ⟨.ref a,ea,a,vs,rfl,ha,Paired.map (λ_ _=>r.mono E.sub) pp,hz⟩ λb w=>by cases w
theorem IG (i:Nat){P:List α->Prop}(hΓ:`ay)(hz:xs.length<=Vn)(h:P xs)(hN:`p):W1 X (.Return (some `m) pos) Z N (DZ X.K r P):=λσ H0 R0 H R E D dn dr=>by
 let⟨a,vs,ea,ha,hR,pp⟩:=E.ent i _ hΓ;exact sS (jm (aX hN)) ⟨.ref a,am ea,dr _ H R E.ext ⟨a,vs,xs,rfl,E.new i _ a hΓ rfl ea,ha,hR,pp,hz,h⟩⟩
end
noncomputable def oa (r:Rep α)(r':Rep β):Rep (α ⊕ β):=⟨λK H v o=>match o with | .inl x=>r.R K H v x | .inr y=>r'.R K H v y,λ{K H H' v o} s h=>by cases o with | inl x=>exact r.mono s h | inr y=>exact r'.mono s h⟩
theorem EV.inl {x:α}(h:EV X e Z r x Γ1):EV X e Z (oa r r') (.inl x) Γ1:=EV.rep h λ_ _ q=>q
theorem EV.inr {y:β}(h:EV X e Z r' y Γ1):EV X e Z (oa r r') (.inr y) Γ1:=EV.rep h λ_ _ q=>q
theorem EV.ofl {x:α}(h:EV X e Z (oa r r') (.inl x) Γ1):EV X e Z r x Γ1:=EV.rep h λ_ _ q=>q
theorem EV.qL (h:EV X e Z (oa r r') (.inr y) Γ1):EV X e Z r' y Γ1:=EV.rep h λ_ _ q=>q
variable {l:RY}{b:Addr}
noncomputable def cS (H:Hp)(l:RY):Hp:=λb=>if b∈l then none else H b
theorem gy (h:b∈l):cS H l b=none:=XU h
theorem bY (h:b∉l):cS H l b=H b:=XT h
theorem jw :av (cS H l) H:=λb o q=>by
 by_cases h:b∈l
 ·rw[gy h] at q;cases q
 ·rwa [bY h] at q
theorem ar.pW {H0 R0 H' R':Hp}{B B':ou}(E:`y)(hΓ:Z[i]?∣.ob B)(x:Ext (cS H B.fp) R H' R')(ho:(Ent.ob B').ok K H' R' (σ[i]?).join)(hfp:∀b∈B'.fp,b∈B.fp):ar K σ H0 R0 H' R' (Z.set i (.ob B')):=by
 let h0:∀b∈B.fp,H0 b=none:=λb hb=>E.nw i _ b hΓ hb;let out:∀{b:Addr},H0 b≠none->b∉B.fp:=λh e=>h (h0 _ e);let apart:∀(j:Nat)(e:Ent),j≠i->Z[j]?∣e->∀b∈e.fp (σ[j]?).join,b∉B.fp:=λj e hj qj b hb w=>hj (E.ds j i e _ b qj hΓ hb w);refine⟨⟨λb o q=>?_,E.ext.r.trans x.r,x.s,λb hb=>?_⟩,λj e q=>?_,λj e b q w=>?_,λj k e e' b q q' w w'=>?_,by rw[Tb];exact E.len⟩
 ·exact x.h b o (by rw[bY (out (by rw[q];exact Va _))];exact E.ext.h b o q)
 ·refine(x.old b ?_).trans (E.ext.old b hb);rw[bY (out hb)];exact av.some E.ext.h hb
 ·obtain⟨rfl,rfl,_⟩ | ⟨hj,q1⟩:=set_at q
  ·exact ho
  ·let h1:=E.ent j e q1;refine h1.loc (λb hb=>?_) x.r λb hb=>?_
   ·cases e2:H b with
    | none=>exact XS e2 (Ent.fz h1 hb).1
    | some u=>exact x.h b u (by rw[bY (apart j e hj q1 b hb)];exact e2)
   ·exact(x.old b (by rw[bY (apart j e hj q1 b hb)];exact(Ent.fz h1 hb).1)).trans (Ent.fz h1 hb).2
 ·obtain⟨rfl,rfl,_⟩ | ⟨hj,q1⟩:=set_at q
  ·exact h0 b (hfp b w)
  ·exact E.nw j e b q1 w
 ·obtain⟨rfl,rfl,_⟩ | ⟨hj,q1⟩:=set_at q
  ·obtain⟨rfl,rfl,_⟩ | ⟨hk,Zg⟩:=set_at q'
   ·rfl
   ·exact XS (hfp b w) (apart k e' hk Zg b w')
  ·obtain⟨rfl,rfl,_⟩ | ⟨hk,Zg⟩:=set_at q'
   ·exact XS (hfp b w') (apart j e hj q1 b w)
   ·exact E.ds _ _ _ _ b q1 Zg w w'
structure LK (P:Type):Type 1 where
 bx:RY->P->ou
 fp:∀l s,(bx l s).fp=l
 at_:∀{K H R v l s},(bx l s).R K H R v->∃a t,l=a::t/\v= .ref a
abbrev wN (R:Hp)(l:RY):Prop:=∀b∈l,R b=none
theorem DV {P:Type}{B:LK P}{s:P}{o:Option V}(h:(Ent.ob (B.bx (a::l) s)).ok K H R o):o∣.ref a/\(B.bx (a::l) s).R K H R (.ref a)/\wN R (a::l):=by
 let⟨⟨v,e,hv⟩,hR⟩:=h;let⟨a',t,el,ev⟩:=B.at_ hv;cases el
 subst ev;exact⟨e,hv,λb hb=>hR b (by rw[B.fp];exact hb)⟩
theorem C9 {P:Type}{B:LK P}{s:P}(h:(B.bx (a::l) s).R K H R (.ref a))(hR:wN R (a::l)):(Ent.ob (B.bx (a::l) s)).ok K H R (some (.ref a)):=
 ⟨⟨_,rfl,h⟩,λc hc=>hR c (by rw[B.fp] at hc;exact hc)⟩
theorem Be {P:Type}{B:LK P}{st:P}{N:RU}(s:av R H)(hR:wN R (a::l))(hB:(B.bx (a::l) st).R K H R (.ref a))(p:kq K R vs ps)(hl:ps.length+1<=N.length):
 ar K (L2.start N (.ref a::vs)) (cS H (a::l)) R H R (.ob (B.bx (a::l) st)::fm ps (N.length-1)):=by
 obtain⟨n0,N',rfl⟩:∃n0 N',N=n0::N':=by cases N with
  | nil=>exact XS hl `d
  | cons n N'=>exact⟨n,N',rfl⟩
 let Zu:ps.length<=N'.length:= ~~~hl
 let E0:=j7 (N:=N') s p Zu;let es:L2.start (n0::N') (.ref a::vs)=some (.ref a)::L2.start N' vs:=by unfold L2.start;simp
 rw[es];let Yu:∀(i:Nat)(e:Ent)(o:Option V),(fm ps N'.length)[i]?∣e->e.fp o=[]:=λi e o q=>by
  unfold fm at q;obtain z | z:=SK.mp (SD q)
  ·let⟨p,_,rfl⟩:=SU.mp z;rfl
  ·let⟨_,rfl⟩:=Ut.mp z;rfl
 refine⟨⟨jw,av.refl _,s,λ_ _=>rfl⟩,λi e q=>?_,λi e c q w=>?_,λi j e e' c q q' w w'=>?_,?_⟩
 ·cases i with
  | zero=>simp at q;subst q;exact C9 hB hR
  | succ i=>simp at q;simpa using E0.ent i e q
 ·cases i with
  | zero=>
    simp at q;subst q;let w:c∈(B.bx (a::l) st).fp:=w;rw[B.fp] at w;exact gy w
  | succ i=>simp at q;rw[Yu i e _ q] at w;cases w
 ·cases i with
  | succ i=>simp at q;rw[Yu i e _ q] at w;cases w
  | zero=>
    cases j with
    | zero=>rfl
    | succ j=>simp at q';rw[Yu j e' _ q'] at w';cases w'
 ·have:=E0.len;simp[this]
structure bL (K:Xt)(C:Addr)(ns:RU):Prop where
 cl:mV K C
 no:∀f∈ns,lB K C f
end Fc
namespace Fc.DP
open PySem PySem.Spec
variable {prog:Vr}{w:World}{A:Vu}{E:`r}
section
variable {h:Heap}{g:Array Wx}{d:Drawn}{t:Nat}{os:OsState}{a:Addr}{o:Obj}
end
variable {K:Type}
section
variable  [DecidableEq K]{knd:KeyKind prog w K}{R:Result->Vo->Prop}{I:Addr}{fp wr:RY}{G:Array Wx->Array Wx->Prop}{n:Nat}{P:Nat->Value->Prop}{St:Nat->Vo->Prop}
end
section
variable  [DecidableEq K]{knd:KeyKind prog w K}{s:Vo}
end
end Fc.DP
namespace Fc
open PySem PySem.Spec PySem.W PySem.Calls L2
open PyProof.Rows hiding St
variable {X:Cx}{N:Ga->Prop}{T:RT}
section
variable {Z Γ1 Γ2 Γ3:Ga}{α β γ δ:Type}
end
variable {pos:Pos}{xs:RU}
section
variable {Z Γ1 Γ2 Γ3:Ga}{α β γ δ:Type}
variable {x y:Str}
theorem mW:decide (V.str x=V.str y)=decide (x=y):=by
 by_cases h:x=y
 ·subst h;simp
 ·rw[XZ h,XZ λz=>h (by injection z)]
theorem bS:iN X .Eq ak ak x y (decide (x=y)):=⟨_,Hc,λR H v u Q _ e1 e2 q=>by
 cases e1;cases e2
 exact⟨rfl,by rw[mW];exact q⟩⟩
theorem vS:iN X .NotEq ak ak x y (!decide (x=y)):=⟨_,AI,λR H v u Q _ e1 e2 q=>by
 cases e1;cases e2
 exact⟨rfl,by rw[mW];exact q⟩⟩
theorem qV {n:Str}{t:Tok}(hm:X.mg x∣.str n t)(hg:Gl X x:=by rfl)(hd:YV x:=by decide):EV X `bE Z ak n Z:=
 λ_ _ _ _ _ E _ q=>eS (jJ (v:=.str n) hg hm ⟨t,rfl⟩ hd) (q (.str n) _ _ E `Z rfl)
noncomputable def wG:Rep RU:=⟨λK R v xs=>∃a,v= .ref a/\dY K R a (xs.map V.str),λs ⟨a,e,h⟩=>⟨a,e,by
 obtain h | h:=h
 ·exact .inl (h.imp (λq=>s _ _ q) λ⟨o,q⟩=>⟨o,s _ _ q⟩)
 ·exact .inr h⟩⟩
theorem nG (x:Str):∀xs:RU,Hf (.str x) (xs.map V.str)=decide (x∈xs)
 | []=>rfl
 | y::r=>by
   let h:=nG x r;unfold Hf at h ⊢;rw[Ta,Uy,h];let e:sY (V.str y) (V.str x)=decide (x=y):=by
    show(y==x)=_;by_cases h:x=y
    ·subst h;simp
    ·rw[XZ h];exact beq_eq_false_iff_ne.mpr (U8 h)
   rw[e];by_cases h1:x=y<;>simp[h1]
theorem mf:∀xs:RU,(xs.map V.str).all kx=true
 | []=>rfl
 | _::r=>by rw[Ta,all_cons,mf r];rfl
theorem ma :iN X .In ak wG x xs (decide (x∈xs)):=⟨_,vt,λR H v u Q s e1 e2 q=>by
 cases e1
 let⟨a,rfl,h⟩:=e2;exact⟨a,_,rfl,.inr (h.imp (λh=>h.imp (λq=>s _ _ q) λ⟨o,q⟩=>⟨o,s _ _ q⟩) id),rfl,mf xs,by rw[XT R9,nG];exact q⟩⟩
noncomputable def uy (K:Xt)(mg:RQ)(x:Str)(xs:RU):Prop:=∃a o X5 n,mg x∣.ref a/\K.lookup a∣o/\o.cls= .type "tuple"/\o.data= .seq X5 n/\X5.size<=Vn/\Vals (xs.map V.str) X5.toList
theorem iF (hm:uy X.K X.mg x xs)(hg:Gl X x:=by rfl)(hd:YV x:=by decide):EV X `bE Z wG xs Z:=by
 let⟨a,o,X5,n,h1,h2⟩:=hm;exact λ_ _ _ _ _ E _ q=>eS (jJ (v:=.ref a) hg h1 rfl hd) (q (.ref a) _ _ E `Z ⟨a,rfl,.inr ⟨o,X5,n,h2⟩⟩)
end
noncomputable def n6 (P:Vr)(w:World)(K:Xt)(mg:RQ)(x:Str)(D:List (Str×RU)):Prop:=
 ∃a o vs,mg x∣.ref a/\K.lookup a∣o/\o.IsDictOf (cH P w) vs/\(a==VD)=false/\
  PySem.Paired (λ(d:Str×RU)(p:Key×Value)=>p.1=Sum.inr d.1/\∃b o X5 n,p.2= .ref b/\K.lookup b∣o/\o.cls= .type "tuple"/\o.data= .seq X5 n/\X5.size<=Vn/\Vals (d.2.map V.str) X5.toList) D vs
noncomputable def cO:List (Str×RU)->Str->Option RU
 | [],_=>none
 | (k,v)::r,x=>if k=x then some v else cO r x
theorem vK {K:Xt}{x:Str}:∀{D:List (Str×RU)}{vs:List (Key×Value)},PySem.Paired (λ(d:Str×RU)(p:Key×Value)=>p.1=Sum.inr d.1/\∃b o X5 n,p.2= .ref b/\K.lookup b∣o/\o.cls= .type "tuple"/\o.data= .seq X5 n/\X5.size<=Vn/\Vals (d.2.map V.str) X5.toList) D vs->
 (cO D x=none/\VH vs (Sum.inr x:Key)=none)∨∃ys b,cO D x∣ys/\VH vs (Sum.inr x:Key)∣.ref b/\∃o X5 n,K.lookup b∣o/\o.cls= .type "tuple"/\o.data= .seq X5 n/\X5.size<=Vn/\Vals (ys.map V.str) X5.toList
 | _,_,.nil=>.inl ⟨rfl,rfl⟩
 | _,_,.cons (a:=d) (b:=p) h t=>by
   let⟨k,v⟩:=d;let⟨q,u⟩:=p;let⟨e1,b,o,X5,n,e2,h3⟩:=h;let e1:q=Sum.inr k:=e1;let e2:u=Xm b:=e2;subst e1;subst e2;rw[cO];unfold VH;rw[T1];by_cases e:k=x
   ·subst e;rw[XU rfl];exact .inr ⟨v,b,rfl,`d,o,X5,n,h3⟩
   ·rw[XT e];have:decide ((Sum.inr k:Key)=Sum.inr x)=false:=XZ λz=>e (Sum.inr.inj z);simp only[this];exact vK t
section
variable {Z Γ1 Γ2 Γ3:Ga}{α β γ δ:Type}
theorem BE {e:Expr}{x:Str}{p1:Pos}{D:List (Str×RU)}{k:Str}(hD:n6 X.prog X.w X.K X.mg x D)(he:EV X e Z ak k Γ1)(hg:Gl X x:=by rfl)(hd:YV x:=by decide):TV X (.Compare e [.NotIn] [.Name x p1] pos) Z (!(cO D k).isSome) Γ1:=by
 intro σ H0 R0 H R E Q q;let⟨a,o,vs,hm,hk,hdo,hs,hp⟩:=hD;let pc:PC X .NotIn e `m (λσ H Q=>fE X e σ H λy H1=>y= .str k/\Q (.bl (!(cO D k).isSome)) H1):=by
  intro X3 s σ H Q I h;refine a7 (h X3 s I) λiv s1 ⟨y,H1,I1,ry,ey,q1⟩=>a7 (jJ (v:=.ref a) hg hm rfl hd X3 s1 σ H1 (λv H2=>v= .ref a/\H2=H1) I1 ⟨rfl,rfl⟩) λu s2 ⟨y2,H2,I2,ry2,e3,e4⟩=>?_;subst ey;subst e3;subst e4;obtain rfl:u=Xm a:=ry2;let dd:s2.heap.DictOf (cH X.prog X.w) a vs:=Xc.mpr ⟨o,I2.gp a o hk,hdo⟩;refine wpAny_notIn_of (ku (k:=Sum.inr k) ry) hs dd.mapOf ?_;obtain⟨h1,h2⟩ | ⟨ys,b,h1,h2,_⟩:=vK (x:=k) hp
  ·rw[h2];rw[h1] at q1;exact⟨.bl _,_,I2.tok _,rfl,q1⟩
  ·rw[h2];rw[h1] at q1;exact⟨.bl _,_,I2.tok _,rfl,q1⟩
 refine tS (mF pc (by with_unfolding_all rfl)) (he σ H0 R0 H R E _ λv H1 R1 E1 s1 e1=>⟨e1,_,rfl,q H1 R1 E1 s1⟩)
end
end Fc
namespace Fc.ZT
open PySem PySem.Spec PyProof.Rows
variable {prog:Vr}{w:World}{A:Vu}{E:`r}{s:Vo}{X5:`bL}{Q:`r}
structure Dr (prog:Vr)(w:World)(A:Vu)(i l:Addr)(X5:`bL)(St:Nat->Heap->Prop):Prop where
 up:∀{k:Nat}{h h':Heap},St k h->(∀b,b=i∨b=l->∀o,h.get? b∣o->h'.get? b∣o)->St k h'
 there:∀{k:Nat}{h:Heap},St k h->i<h.objs.size
 item:∀{k:Nat}{x:`aa}{s:Vo}{Q:`r}{E:`r},St k s.heap->X5[k]?∣x->(∀h',St (k+1) h'->Xa i s.heap h'->Q x {s with heap:=h'})->wpAny `z A (WM (.ref i)) Q E s
 done:∀{k:Nat}{s:Vo}{Q:`r}{E:`r},St k s.heap->X5[k]?=none->(∀h' e,Heap.ExtBut i s.heap h'->(∃o,h'.get? e∣o/\o.cls= .type "StopIteration")->E (.ref e) {s with heap:=h'})->wpAny `z A (WM (.ref i)) Q E s
theorem FT {i l:Addr}(hh:A.handled=none)(Yi:i≠l):Dr prog w A i l X5 (λk h=>h.IsTupleIter i l k/\h.IsTuple l X5) where
 up:=λ⟨⟨o,ho,r⟩,⟨o',Zt,r'⟩⟩ hk=>⟨⟨o,hk _ `aR o ho,r⟩,⟨o',hk _ (.inr rfl) o' Zt,r'⟩⟩
 there:=λ⟨⟨o,ho,_⟩,_⟩=>W7 ho
 item:=λ{k x s Q E} ⟨hit,ht⟩ hx hQ=>by
  let⟨o,ho,hc,hd⟩:=id hit;let⟨ol,hol,_,nl,hdl⟩:=id ht;unfold WM;refine Vp (VE (name:=Xk "__next__") hit.typeIs WZ
   (VR WZ hit.typeIs F.entry_tuple_iterator_next ?_ (F.args_tuple_iterator_next_1 _)))
  show wpAny _ _ (field (.ref i) 0 >>=_) _ _ s;refine Vp (VB ho hd (x:=.ref l) rfl ?_);refine wpAny_ite ?_;rw[XT (show¬((Xm l==Xn)=true) from R9)];show wpAny _ _ (field (.ref i) 1 >>=_) _ _ s;refine Vp (VB ho hd (x:=.int k 0) rfl ?_);show wpAny _ _ (seqItems? (.ref l) >>=_) _ _ s;refine Vp (VL hol hdl ?_);simp only[Sk,hx];let hs:=Xa.update s.heap i (λo=>o.mapFields λa=>a.setIfInBounds 1 (Wt (k+1)));refine Vp (wpAny_setField ho hd `d (Vs ⟨x,rfl,Vs (hQ _ ⟨?_,ht.extBut (Xa.update ..).extBut (U8 Yi)⟩ (Xa.update ..))⟩));exact⟨_,Xb _ ho (Obj.isFreed_of_fields (Obj.data_mapFields hd _)),(Obj.cls_mapFields ..).trans hc,by rw[Obj.data_mapFields hd];simp[Wt]⟩
 done:=λ{k s Q E} ⟨hit,ht⟩ hx hE=>by
  let⟨o,ho,hc,hd⟩:=id hit;let⟨ol,hol,_,nl,hdl⟩:=id ht;unfold WM;refine Vp (VE (name:=Xk "__next__") hit.typeIs WZ
   (VR WZ hit.typeIs F.entry_tuple_iterator_next ?_ (F.args_tuple_iterator_next_1 _)))
  show wpAny _ _ (field (.ref i) 0 >>=_) _ _ s;refine Vp (VB ho hd (x:=.ref l) rfl ?_);refine wpAny_ite ?_;rw[XT (show¬((Xm l==Xn)=true) from R9)];show wpAny _ _ (field (.ref i) 1 >>=_) _ _ s;refine Vp (VB ho hd (x:=.int k 0) rfl ?_);show wpAny _ _ (seqItems? (.ref l) >>=_) _ _ s;refine Vp (VL hol hdl ?_);simp only[Sk,hx];refine Vp (V8 (Vp (wpAny_setField ho hd `d ?_)));show wpAny _ _ (newExc (.type "StopIteration") [] >>=_) _ _ _;refine Vp ?_;simp only[newExc,newTuple];refine Vp (VG ?_ (by size_fits));refine Vp (m:=firstArgMember _ _) (wpAny_of_eq (a:=Xn) (by first | rfl | (simp only[firstArgMember];rfl)) ?_);refine VG ?_ (by size_fits);simp only[raiseNew];refine Vp (wpAny_handled ?_)
  first | rw[show A.in1.handled=none from hh] | rw[hh]
  refine Vp (Vs (wpAny_throw ?_));exact hE _ _ (((Xa.update ..).extBut.push _).push _) ⟨_,W8 _ rfl,rfl⟩
section
variable {z TI TO i1 i2 l1 l2:Addr}{k1 k2:Nat}{xs ys:`bL}{x y a b:`aa}{S1 S2:Nat->Heap->Prop}
theorem up1 {i l c:Addr}{St:Nat->Heap->Prop}(d:Dr prog w A i l X5 St){k:Nat}{h h':Heap}(hs:St k h)(e:Heap.ExtBut c h h')(h1:i≠c)(h2:l≠c):St k h':=d.up hs λb hb o q=>e b o (by rcases hb with rfl | rfl<;>assumption) q
theorem Jw (D:Wz z TI TO i1 i2 l1 l2)(d1:Dr prog w A i1 l1 xs S1)(d2:Dr prog w A i2 l2 ys S2)(hz:IsZip s.heap z TI TO .none)(ZF:VF s.heap TI (.ref i1) (.ref i2))(ZK:VF s.heap TO a b)(h1:S1 k1 s.heap)(h2:S2 k2 s.heap)(hx:xs[k1]?∣x)(hy:ys[k2]?∣y)(hQ:∀h',IsZip h' z TI TO (Wt ⇑s)->VF h' TO x y->S1 (k1+1) h'->S2 (k2+1) h'->VF h' ⇑s x y->`am->Q (.ref ⇑s) {s with heap:=h'}):
 wpAny `z A (Builtin.«zip.__next__» ⟨[.ref z],[]⟩) (λfin s'=>∃v,fin= .done (.ret v)/\Q v s') E s:=by
 show wpAny _ _ (field (.ref z) 2 >>=_) _ _ _;refine Vp (VB hz rfl (x:=.bool false) rfl ?_);show wpAny _ _ (field (.ref z) 3 >>=_) _ _ _;refine Vp (VB hz rfl (x:=.ref TI) rfl (Vp (VL ZF rfl ?_)));show wpAny _ _ (WN (.ref z) >>=_) _ _ _;refine Vp ?_;unfold WN;refine Vp (VB hz rfl (x:=.none) rfl (Vs ?_));simp only[if_true];refine Vp (V8 (Vp (VB hz rfl (x:=.ref TO) rfl (Vp (VN hz `d λha hza hsa=>?_)))));replace hza:IsZip ha z TI TO .ellipsis:=hza;refine Vp ?_;simp only[List.zipIdx_cons,List.zipIdx_nil,UC,forIn_nil];refine Vp (Vp (Wh ?_));show wpAny _ _ (WM (.ref i1) >>=_) _ _ _;let g1:S1 k1 ha:=up1 d1 h1 hsa.extBut D.i1z D.l1z;let g2:S2 k2 ha:=up1 d2 h2 hsa.extBut D.i2z D.l2z;refine Vp (d1.item g1 hx λhb n1 Zh=>Vs ?_);let tb:VF hb TO a b:=Zh.extBut _ _ D.TOi1 (hsa.extBut _ _ D.TOz ZK);refine Vp (VL tb rfl (Vp (V9 tb λhc tc Z6=>?_)));replace tc:VF hc TO x b:=tc;refine Vp (wpAny_letGo (Vs ?_));refine Vp (Vp (Wh ?_));show wpAny _ _ (WM (.ref i2) >>=_) _ _ _;let g2c:S2 k2 hc:=up1 d2 (up1 d2 g2 Zh.extBut D.i12.symm D.l2i1) Z6.extBut D.TOi2.symm D.l2TO;refine Vp (d2.item g2c hy λhd n2 hsd=>Vs ?_);let td:VF hd TO x b:=hsd.extBut _ _ D.TOi2 tc;refine Vp (VL td rfl (Vp (V9 td λhe te hse=>?_)));replace te:VF he TO x y:=te;refine Vp (wpAny_letGo (Vs (Vs ?_)));refine Vp (VL te rfl (Vp (wpAny_newTuple ?_)));let hsz:he.objs.size=⇑s:=by rw[hse.1,hsd.1,Z6.1,Zh.1,hsa.1]
 let ze:IsZip he z TI TO .ellipsis:=hse.extBut _ _ D.TOz.symm (hsd.extBut _ _ D.i2z.symm (Z6.extBut _ _ D.TOz.symm (Zh.extBut _ _ D.i1z.symm hza)));let ke:∀c o,c≠z->c≠TO->c≠i1->c≠i2->s.heap.get? c∣o->he.get? c∣o:=λc o c1 c2 c3 c4 e=>
  hse.extBut _ _ c2 (hsd.extBut _ _ c4 (Z6.extBut _ _ c2 (Zh.extBut _ _ c3 (hsa.extBut _ _ c1 e))))
 let m1:S1 (k1+1) he:=up1 d1 (up1 d1 (up1 d1 n1 Z6.extBut D.TOi1.symm D.l1TO) hsd.extBut D.i12 D.l1i2) hse.extBut D.TOi1.symm D.l1TO;let m2:S2 (k2+1) he:=up1 d2 n2 hse.extBut D.TOi2.symm D.l2TO;let hzlt:z<he.objs.size:=W7 ze;show wpAny _ _ (Builtin.SmallTypes.ownedTupleHandOut (.ref z) (.ref he.objs.size) >>=_) _ _ _;refine Vp ?_;unfold Builtin.SmallTypes.ownedTupleHandOut;let zf:IsZip (he.push {cls:=.type "tuple",data:=.seq #[x,y]}) z TI TO .ellipsis:=W6 _ ze;refine Vp (VN zf `d λhg zg hsg=>?_);replace zg:IsZip hg z TI TO (Wt he.objs.size):=zg;refine VN zg `d λhj zj hsj=>?_;replace zj:IsZip hj z TI TO (Wt he.objs.size):=zj;let up:∀c o,c≠z->he.get? c∣o->hj.get? c∣o:=λc o c1 e=>hsj.extBut _ _ c1 (hsg.extBut _ _ c1 (W6 _ e));let tj:VF hj he.objs.size x y:=hsj.extBut _ _ (UW hzlt) (hsg.extBut _ _ (UW hzlt) (W8 _ rfl));rw[hsz] at zj tj;refine Vs ⟨_,rfl,?_⟩;show Q (.ref he.objs.size) _;rw[hsz];exact hQ hj zj (up _ _ D.TOz te) (d1.up m1 λc hc o e=>up c o (hc.elim (λq=>by rw[q];exact D.i1z) λq=>by rw[q];exact D.l1z) e) (d2.up m2 λc hc o e=>up c o (hc.elim (λq=>by rw[q];exact D.i2z) λq=>by rw[q];exact D.l2z) e) tj λc o c1 c2 c3 c4 e=>up c o c1 (ke c o c1 c2 c3 c4 e)
theorem pf {Q:PySem.Fin->Vo->Prop}(D:Wz z TI TO i1 i2 l1 l2)(d1:Dr prog w A i1 l1 xs S1)(d2:Dr prog w A i2 l2 ys S2)(hz:IsZip s.heap z TI TO .none)(ZF:VF s.heap TI (.ref i1) (.ref i2))(ZK:VF s.heap TO a b)(h1:S1 k1 s.heap)(h2:S2 k2 s.heap)(Y5:xs[k1]?=none∨ys[k2]?=none)(hE:∀h' e,`am->(∃o,h'.get? e∣o/\o.cls= .type "StopIteration")->E (.ref e) {s with heap:=h'}):
 wpAny `z A (Builtin.«zip.__next__» ⟨[.ref z],[]⟩) Q E s:=by
 show wpAny _ _ (field (.ref z) 2 >>=_) _ _ _;refine Vp (VB hz rfl (x:=.bool false) rfl ?_);show wpAny _ _ (field (.ref z) 3 >>=_) _ _ _;refine Vp (VB hz rfl (x:=.ref TI) rfl (Vp (VL ZF rfl ?_)));show wpAny _ _ (WN (.ref z) >>=_) _ _ _;refine Vp ?_;unfold WN;refine Vp (VB hz rfl (x:=.none) rfl (Vs ?_));simp only[if_true];refine Vp (V8 (Vp (VB hz rfl (x:=.ref TO) rfl (Vp (VN hz `d λha hza hsa=>?_)))));replace hza:IsZip ha z TI TO .ellipsis:=hza;refine Vp ?_;simp only[List.zipIdx_cons,List.zipIdx_nil,UC,forIn_nil];refine Vp (Vp (Wh ?_));show wpAny _ _ (WM (.ref i1) >>=_) _ _ _;let g1:S1 k1 ha:=up1 d1 h1 hsa.extBut D.i1z D.l1z;let g2:S2 k2 ha:=up1 d2 h2 hsa.extBut D.i2z D.l2z;cases hx:xs[k1]? with
 | none=>
   refine Vp (d1.done g1 hx λhb e Zh he=>?_);let⟨oe,hoe,hce⟩:=he;let zb:IsZip hb z TI TO .ellipsis:=Zh _ _ D.i1z.symm hza;let hez:e≠z:=λq=>by subst q;rw[zb] at hoe;cases hoe;simp at hce
   exact VN zb `d λhc _ Z6=>hE hc e (λc o c1 _ c3 _ q=>Z6.extBut _ _ c1 (Zh _ _ c3 (hsa.extBut _ _ c1 q))) ⟨oe,Z6.extBut _ _ hez hoe,hce⟩
 | some x=>
   let hy:ys[k2]?=none:=by obtain q | q:=Y5;rw[hx] at q;cases q;exact q
   refine Vp (d1.item g1 hx λhb n1 Zh=>Vs ?_);let tb:VF hb TO a b:=Zh.extBut _ _ D.TOi1 (hsa.extBut _ _ D.TOz ZK);refine Vp (VL tb rfl (Vp (V9 tb λhc tc Z6=>?_)));refine Vp (wpAny_letGo (Vs ?_));refine Vp (Vp (Wh ?_));show wpAny _ _ (WM (.ref i2) >>=_) _ _ _;let g2c:S2 k2 hc:=up1 d2 (up1 d2 g2 Zh.extBut D.i12.symm D.l2i1) Z6.extBut D.TOi2.symm D.l2TO;refine Vp (d2.done g2c hy λhd e hsd he=>?_);let⟨oe,hoe,hce⟩:=he;let zd:IsZip hd z TI TO .ellipsis:=hsd _ _ D.i2z.symm (Z6.extBut _ _ D.TOz.symm (Zh.extBut _ _ D.i1z.symm hza));let hez:e≠z:=λq=>by subst q;rw[zd] at hoe;cases hoe;simp at hce
   exact VN zd `d λhe _ hse=>hE he e (λc o c1 c2 c3 c4 q=>hse.extBut _ _ c1 (hsd _ _ c4 (Z6.extBut _ _ c2 (Zh.extBut _ _ c3 (hsa.extBut _ _ c1 q))))) ⟨oe,hse.extBut _ _ hez hoe,hce⟩
theorem Jk {Q:RX->Vo->Prop}(D:Wz z TI TO i1 i2 l1 l2)(d1:Dr prog w A.in1 i1 l1 xs S1)(d2:Dr prog w A.in1 i2 l2 ys S2)(hz:IsZip s.heap z TI TO .none)(ZF:VF s.heap TI (.ref i1) (.ref i2))(ZK:VF s.heap TO a b)(h1:S1 k1 s.heap)(h2:S2 k2 s.heap)(hx:xs[k1]?∣x)(hy:ys[k2]?∣y)(hQ:∀h',IsZip h' z TI TO (Wt ⇑s)->VF h' TO x y->S1 (k1+1) h'->S2 (k2+1) h'->VF h' ⇑s x y->`am->Q (some (.ref ⇑s)) {s with heap:=h'}):
 wpAny `z A (Ws (.ref z)) Q E s:=by
 let hT:s.TypeIs (.ref z) "zip":=⟨_,hz,rfl⟩;unfold Ws;exact Vp (wpAny_attempt (VE (name:=Xk "__next__") hT W0 (VR W0 hT F.entry_zip_next (Jw D d1 d2 hz ZF ZK h1 h2 hx hy λh' a1 a2 a3 a4 a5 a6=>Vs (hQ h' a1 a2 a3 a4 a5 a6)) (F.args_zip_next_1 _))))
theorem LL {Q:RX->Vo->Prop}(D:Wz z TI TO i1 i2 l1 l2)(d1:Dr prog w A.in1 i1 l1 xs S1)(d2:Dr prog w A.in1 i2 l2 ys S2)(hz:IsZip s.heap z TI TO .none)(ZF:VF s.heap TI (.ref i1) (.ref i2))(ZK:VF s.heap TO a b)(h1:S1 k1 s.heap)(h2:S2 k2 s.heap)(Y5:xs[k1]?=none∨ys[k2]?=none)(hQ:∀h',`am->Q none {s with heap:=h'}):wpAny `z A (Ws (.ref z)) Q E s:=by
 let hT:s.TypeIs (.ref z) "zip":=⟨_,hz,rfl⟩;unfold Ws;refine Vp (wpAny_attempt (VE (name:=Xk "__next__") hT W0 (VR W0 hT F.entry_zip_next (pf D d1 d2 hz ZF ZK h1 h2 Y5 λh' e hk he=>?_) (F.args_zip_next_1 _))));let⟨o,ho,hc⟩:=he;exact Vp (wpAny_isInstance (T:="StopIteration") (b:=true) ⟨o,ho,hc⟩ isSubtype_stop (Vs (hQ _ hk)))
end
theorem Jo {i l:Addr}(hh:A.handled=none)(Yi:i≠l):Dr prog w A i l X5 (λk h=>h.IsListIter i l k/\h.IsList l X5) where
 up:=λ⟨⟨o,ho,r⟩,⟨o',Zt,r'⟩⟩ hk=>⟨⟨o,hk _ `aR o ho,r⟩,⟨o',hk _ (.inr rfl) o' Zt,r'⟩⟩
 there:=λ⟨⟨o,ho,_⟩,_⟩=>W7 ho
 item:=λ{k x s Q E} ⟨hit,ht⟩ hx hQ=>wpAny_nextOf_list_item hit ht hx λh' h1 h2=>hQ h' ⟨h1,ht.extBut h2.extBut (U8 Yi)⟩ h2
 done:=λ{k s Q E} ⟨hit,ht⟩ hx hE=>wpAny_nextOf_list_end hh hit ht hx λh' e h1 h2=>hE h' e h1 h2
abbrev mX (c:String)(l:Addr):Obj:={cls:=.type c,data:=.fields #[.ref l,.int 0 0]}
def yt (c:String)(h:Heap)(a l:Addr)(i:Nat):Prop:=∃o,h.get? a∣o/\o.cls= .type c/\o.data= .fields #[.ref l,.int i 0]
structure Kd (prog:Vr)(w:World)(it:String)(Is:Heap->Addr->Array Value->Prop):Prop where
 nm:it="list_iterator"∨it="tuple_iterator"
 cl:∀{h:Heap}{a:Addr}{X5:`bL},Is h a X5->∃o,h.get? a∣o/\(o.cls= .type "list"∨o.cls= .type "tuple")
 up:∀{h:Heap}{a:Addr}{X5:`bL}(o:Obj),Is h a X5->Is (h.push o) a X5
 dr:∀{A:Vu}{i l:Addr}{X5:`bL},A.handled=none->i≠l->Dr prog w A i l X5 (λk h=>yt it h i l k/\Is h l X5)
 iter:∀{A:Vu}{E:`r}{s:Vo}{l:Addr}{X5:`bL}{Q:`r},Is s.heap l X5->Q (.ref ⇑s) {s with heap:=s.heap.push (mX it l)}->wpAny `z A (pyIter (.ref l)) Q E s
theorem QT :Kd prog w "list_iterator" Heap.IsList:=⟨.inl rfl,λ⟨o,ho,hc,_⟩=>⟨o,ho,.inl hc⟩,λo h=>h.push o,λhh hn=>Jo hh hn,λh q=>V3 h q⟩
theorem Q6 :Kd prog w "tuple_iterator" Heap.IsTuple:=⟨.inr rfl,λ⟨o,ho,hc,_⟩=>⟨o,ho,.inr hc⟩,λo ⟨o',ho,r⟩=>⟨o',W6 _ ho,r⟩,λhh hn=>FT hh hn,λh q=>wpAny_pyIter_tuple h q⟩
section
variable {i1 i2:String}{S1 S2:Heap->Addr->Array Value->Prop}
theorem Kd.apart {h:Heap}{l c:Addr}{o:Obj}(k:Kd prog w i1 S1)(p:S1 h l X5)(e:h.get? c∣o)(hc:o.cls= .type "zip"∨o.cls= .type "list_iterator"∨o.cls= .type "tuple_iterator"):l≠c:=λz=>by
 let⟨u,e',c'⟩:=k.cl p;rw[z,e] at e';cases e'
 rcases hc with q | q | q<;>rw[q] at c'<;>simp at c'
theorem Cs {l1 l2:Addr}{xs ys:`bL}(k1:∀prog w,Kd prog w i1 S1)(k2:∀prog w,Kd prog w i2 S2)(hl1:S1 s.heap l1 xs)(hl2:S2 s.heap l2 ys)(h:∀h',IsZip h' (⇑s+4) (⇑s+2) (⇑s+3) .none->VF h' (⇑s+2) (.ref ⇑s) (.ref (⇑s+1))->VF h' (⇑s+3) .none .none->yt i1 h' ⇑s l1 0->yt i2 h' (⇑s+1) l2 0->
  (∀c o,s.heap.get? c∣o->h'.get? c∣o)->Q (.ref (⇑s+4)) {s with heap:=h'}):wpAny `z A (call (.type "zip") [.ref l1,.ref l2]) Q E s:=by
 let nz:Meets (Builtin.«zip.__new__» ⟨[.type "zip",.ref l1,.ref l2],[]⟩) (λ_ R s=>S1 s.heap l1 xs/\S2 s.heap l2 ys/\R (.ok (.ret (.ref (⇑s+4)))) {s with heap:=((((s.heap.push (mX i1 l1)).push (mX i2 l2)).push {cls:=.type "tuple",data:=.seq #[.ref ⇑s,.ref (⇑s+1)]}).push {cls:=.type "tuple",data:=.seq #[.none,.none]}).push {cls:=.type "zip",data:=.fields #[.none,.bool false,.bool false,.ref (⇑s+2),.ref (⇑s+3)]}}):=
  .of_wp λprog w A R s h=>by
   let⟨hp,g,d,tk,os⟩:=s;let⟨hl1,hl2,h⟩:=h;let Yx:isSubtype (.type "zip") (.type "zip")=pure true:=by rw[isSubtype_type];kernel_rfl
   let hL1:S1 (Vo.heap ⟨hp,g,d,tk,os⟩) l1 xs:=hl1;let hL2:S2 (Vo.heap ⟨hp.push (mX i1 l1),g,d,tk,os⟩) l2 ys:=(k2 prog w).up _ hl2
   wp_walk using(k1 prog w).iter hL1,(k2 prog w).iter hL2
   refine⟨_,rfl,?_⟩;simp only[W9];exact h
 refine callType_new F.called_zip `c (F.typeCall_zip_2 _ _) (F.newCall_zip_2 _ _) (λobj=>F.args_object_init_3 obj _ _) F.entry_zip_new nz ⟨hl1,hl2,?_⟩;let at_:∀(h:Heap)(o:Obj)(n:Nat),h.objs.size=n->o.isFreed=false->(h.push o).get? n∣o:=λh o n e f=>by subst e;exact W8 _ f
 let g5:=at_ ((((s.heap.push (mX i1 l1)).push (mX i2 l2)).push {cls:=.type "tuple",data:=.seq #[.ref ⇑s,.ref (⇑s+1)]}).push {cls:=.type "tuple",data:=.seq #[.none,.none]}) {cls:=.type "zip",data:=.fields #[.none,.bool false,.bool false,.ref (⇑s+2),.ref (⇑s+3)]} (⇑s+4) (by simp[W9]) rfl;let g4:=at_ (((s.heap.push (mX i1 l1)).push (mX i2 l2)).push {cls:=.type "tuple",data:=.seq #[.ref ⇑s,.ref (⇑s+1)]}) {cls:=.type "tuple",data:=.seq #[.none,.none]} (⇑s+3) (by simp[W9]) rfl;let g3:=at_ ((s.heap.push (mX i1 l1)).push (mX i2 l2)) {cls:=.type "tuple",data:=.seq #[.ref ⇑s,.ref (⇑s+1)]} (⇑s+2) (by simp[W9]) rfl;let g2:=at_ (s.heap.push (mX i1 l1)) (mX i2 l2) (⇑s+1) (by simp[W9]) rfl;let g1:=at_ s.heap (mX i1 l1) ⇑s rfl rfl;let p:=@W6;exact⟨⟨_,g5,rfl⟩,h _ g5 (p _ (p _ g3)) (p _ g4) ⟨_,p _ (p _ (p _ (p _ g1))),rfl,rfl⟩ ⟨_,p _ (p _ (p _ g2)),rfl,rfl⟩ λc o x=>p _ (p _ (p _ (p _ (p _ x))))⟩
end
end Fc.ZT
namespace Fc
open PySem PySem.Spec PySem.W PySem.Calls L2
open PyProof.Rows hiding St
variable {i:Nat}{K:Xt}{es:R6}{tp:Pos}{R:Hp}{v:V}{xs:`aP}{pos:Pos}
section
variable {X:Cx}{Z Γ1 Γ2 Γ3:Ga}{α β γ δ:Type}{N:Ga->Prop}{T:RT}
structure FW (z TI TO i1 i2:Addr):Prop where
 TIz:TI≠z
 TOz:TO≠z
 i1z:i1≠z
 i2z:i2≠z
 TITO:TI≠TO
 TIi1:TI≠i1
 TIi2:TI≠i2
 TOi1:TO≠i1
 TOi2:TO≠i2
 i12:i1≠i2
theorem ZI {a b:Nat}(h:a<b∨b<a): @Ne Addr a b:=h.elim UO UW
theorem RF (n:Nat):FW (n+4) (n+2) (n+3) n (n+1):=⟨ZI `a,ZI `a,ZI `a,ZI `a,ZI `a,ZI `a,ZI `a,ZI `a,ZI `a,ZI `a⟩
structure Ky where
 it:String
 Is:Heap->Addr->Array Value->Prop
 Sq:Xt->Hp->Addr->List V->Prop
 kd:∀prog w,ZT.Kd prog w it Is
 get:∀{X:Cx}{X3:RR}{σ:St}{H:Hp}{s:Vo}{a:Addr}{xs:`K},Inv X X3 σ H s->Sq X.K H a xs->∃X5,Vals xs X5/\Is s.heap a X5.toArray
 inj:∀{X:Cx}{X3:RR}{σ:St}{H:Hp}{s:Vo}{a:Addr}{xs ys:`K},Inv X X3 σ H s->Sq X.K H a xs->Sq X.K H a ys->xs=ys
def GW:Ky:=⟨_,_,bu,λ_ _=>ZT.QT,λI h=>by let⟨X5,r,p,_⟩:=I.list h;exact⟨X5,r,p.isList⟩,λI h h'=>I.nH h h'⟩
def DL:Ky:=⟨_,_,dY,λ_ _=>ZT.Q6,λI h=>by let⟨X5,r,p,_⟩:=I.tuple h;exact⟨X5,r,p⟩,λI h h'=>I.vo h h'⟩
variable {k1 k2:Ky}
def PJ (k1 k2:Ky)(K:Xt)(a b:Addr):It:=
 ⟨λi H=>∃xs ys x y,k1.Sq K H a xs/\k2.Sq K H b ys/\xs[i]?∣x/\ys[i]?∣y,
  λi H v H'=>∃p x y,H p=none/\v= .ref p/\H'=upd H p (.tup [x,y])/\(∀xs,k1.Sq K H a xs->xs[i]?∣x)/\∀ys,k2.Sq K H b ys->ys[i]?∣y,
  λi H=>∃xs ys,k1.Sq K H a xs/\k2.Sq K H b ys/\(xs.length<=i∨ys.length<=i)⟩
def QB (k1 k2:Ky)(z TI TO i1 i2 a b:Addr)(i:Nat)(h:Heap):Prop:=
 IsZip h z TI TO .none/\VF h TI (.ref i1) (.ref i2)/\(∃u v,VF h TO u v)/\ZT.yt k1.it h i1 a i/\ZT.yt k2.it h i2 b i/\a≠TO/\b≠TO
theorem QI {P:Vr}{w:World}{h:Heap}{z TI TO i1 i2 a b:Addr}{xs ys:`bL}(F:FW z TI TO i1 i2)(st:QB k1 k2 z TI TO i1 i2 a b i h)(pa:k1.Is h a xs)(pb:k2.Is h b ys):Wz z TI TO i1 i2 a b:=by
 let⟨hz,_,_,⟨o1,e1,c1,_⟩,⟨o2,e2,c2,_⟩,n1,n2⟩:=st;let q1:o1.cls= .type "list_iterator"∨o1.cls= .type "tuple_iterator":=(k1.kd P w).nm.imp (λe=>by rw[c1,e]) (λe=>by rw[c1,e]);let q2:o2.cls= .type "list_iterator"∨o2.cls= .type "tuple_iterator":=(k2.kd P w).nm.imp (λe=>by rw[c2,e]) (λe=>by rw[c2,e]);exact⟨F.TIz,F.TOz,F.i1z,F.i2z,F.TITO,F.TIi1,F.TIi2,F.TOi1,F.TOi2,F.i12,
  (k1.kd P w).apart pa hz `aR,n1,(k1.kd P w).apart pa e1 (.inr q1),(k1.kd P w).apart pa e2 (.inr q2),
  (k2.kd P w).apart pb hz `aR,n2,(k2.kd P w).apart pb e1 (.inr q1),(k2.kd P w).apart pb e2 (.inr q2)⟩
theorem Fu {P:Vr}{w:World}{k:Nat}(a b z TI TO i1 i2:Addr)(F:FW z TI TO i1 i2):Turn P w K (.Tuple es k tp) (PJ k1 k2 K a b) [z,TI,TO,i1,i2] z (QB k1 k2 z TI TO i1 i2 a b) where
 mem:=`d
 obj:=λi h st c hc=>by
  let⟨hz,ZF,⟨u,v,ZK⟩,⟨o1,e1,c1,d1⟩,⟨o2,e2,c2,d2⟩,_⟩:=st;simp only[SF,Tc,or_false] at hc;obtain rfl | rfl | rfl | rfl | rfl:=hc
  ·exact⟨_,hz,λv q=>by cases q⟩
  ·exact⟨_,ZF,λv q=>by cases q⟩
  ·exact⟨_,ZK,λv q=>by cases q⟩
  ·exact⟨o1,e1,λv q=>by rw[d1] at q;cases q⟩
  ·exact⟨o2,e2,λv q=>by rw[d2] at q;cases q⟩
 keep:=λi h h' st kk=>by
  let⟨hz,ZF,⟨u,v,ZK⟩,h1,h2,n⟩:=st;exact⟨kk z `d _ hz,kk TI `d _ ZF,⟨u,v,kk TO `d _ ZK⟩,h1.imp λo q=>⟨kk i1 `d o q.1,q.2⟩,h2.imp λo q=>⟨kk i2 `d o q.1,q.2⟩,n⟩
 item:=by
  intro X hP hw hK hc i X3 s σ H E I hf st hg;subst hP hw hK;let⟨xs,ys,x,y,hq,Zb,hx,hy⟩:=hg;let⟨X5,r,pl⟩:=k1.get I hq;let⟨its',r',ZH⟩:=k2.get I Zb;let⟨u,hu,rx⟩:=r.get hx;let⟨u',hu',ry⟩:=r'.get hy;let D:=QI (P:=X.prog) (w:=X.w) F st pl ZH;let hh:=I.ok.hd hc;let⟨hz0,ZF,⟨c,d,ZK⟩,h1,h2,n⟩:=st;let hn:H ⇑s=none:=I.X8.fresh (UJ _);refine ZT.Jk D ((k1.kd _ _).dr (A:=X.A.in1) hh (U8 D.l1i1)) ((k2.kd _ _).dr (A:=X.A.in1) hh (U8 D.l2i2)) hz0 ZF ZK ⟨h1,pl⟩ ⟨h2,ZH⟩ (x:=u) (y:=u') (~~~hu) (~~~hu') λh' a1 a2 a3 a4 a5 hk=>?_;refine⟨_,rfl,?_⟩;refine wpAny_letOwnedTupleGo_zip (s:={s with heap:=h'}) a1 λh3 hz3 hs3=>?_;let lt:∀{c o},s.heap.get? c∣o->c≠⇑s:=λe=>UO (W7 e);let Z8:∀b o,b∉[z,TI,TO,i1,i2]->s.heap.get? b∣o->h3.get? b∣o:=λb o hb q=>by
   simp only[SF,Tc,or_false,not_or] at hb;exact hs3.extBut b o hb.1 (hk b o hb.1 hb.2.2.1 hb.2.2.2.1 hb.2.2.2.2 q)
  let I1:Inv X X3 σ H {s with heap:=h3,toks:=s.toks}:=pR I Z8 hf;let hT2:h3.get? ⇑s=some {cls:=.type "tuple",data:=.seq #[u,u']}:=hs3.extBut _ _ (U8 (lt hz0)) a5;let I2:Inv X X3 σ (upd H ⇑s (.tup [x,y])) {s with heap:=h3,toks:=s.toks}:=
   adopt I1 (I.ka (UJ _) hn) (I.sz) ⟨by show 2<=Vn;decide,[u,u'],.cons rx (.cons ry .nil),⟨_,hT2,rfl,_,rfl⟩⟩
  refine⟨.ref ⇑s,_,I2,rfl,⟨⇑s,x,y,hn,rfl,rfl,λzs hzs=>?_,λzs hzs=>?_⟩,⟨hz3,?_,⟨_,_,hs3.extBut _ _ F.TOz a2⟩,a3.1.imp λo q=>⟨hs3.extBut _ _ F.i1z q.1,q.2⟩,a4.1.imp λo q=>⟨hs3.extBut _ _ F.i2z q.1,q.2⟩,n⟩,λb hb=>?_⟩
  ·rw[k1.inj I hzs hq];exact hx
  ·rw[k2.inj I hzs Zb];exact hy
  ·exact hs3.extBut _ _ F.TIz (hk _ _ F.TIz F.TITO F.TIi1 F.TIi2 ZF)
  ·let YS:b≠⇑s:=by
    simp only[SF,Tc,or_false] at hb;obtain rfl | rfl | rfl | rfl | rfl:=hb
    ·exact lt hz0
    ·exact lt ZF
    ·exact lt ZK
    ·let⟨_,e,_⟩:=h1;exact lt e
    ·let⟨_,e,_⟩:=h2;exact lt e
   rw[aJ YS];exact(hf b hb).1
 done:=by
  intro X hP hw hK hc i X3 s σ H E I hf st hg;subst hP hw hK;let⟨xs,ys,hq,Zb,hx⟩:=hg;let⟨X5,r,pl⟩:=k1.get I hq;let⟨its',r',ZH⟩:=k2.get I Zb;let D:=QI (P:=X.prog) (w:=X.w) F st pl ZH;let hh:=I.ok.hd hc;let⟨hz0,ZF,⟨c,d,ZK⟩,h1,h2,n⟩:=st;let l1:=r.length;let l2:=r'.length;refine ZT.LL D ((k1.kd _ _).dr (A:=X.A.in1) hh (U8 D.l1i1)) ((k2.kd _ _).dr (A:=X.A.in1) hh (U8 D.l2i2)) hz0 ZF ZK ⟨h1,pl⟩ ⟨h2,ZH⟩ (hx.imp (λq=>by simp;cbv) λq=>by simp;cbv) λh' hk=>⟨rfl,?_⟩;refine pR (t':=s.toks) I (λb o hb q=>?_) hf;simp only[SF,Tc,or_false,not_or] at hb;exact hk b o hb.1 hb.2.2.1 hb.2.2.2.1 hb.2.2.2.2 q
 self:=λ_ _ _ _ _ st h=>wpAny_pyIter_zip st.1 h
theorem kY {xs:`x}{ys:List β}{q:α×β}(h:(xs.zip ys)[i]?∣q):xs[i]?∣q.1/\ys[i]?∣q.2:=by
 rw[List.getElem?_zip_eq_some] at h;exact h
structure xr (k:Ky)(K:Xt)(R:Hp)(v:V)(r:Rep α)(xs:`x):Prop where
 ex:∃a vs,v= .ref a/\(∀R' H,av R R'->av R' H->k.Sq K H a vs)/\vs.length=xs.length/\∀(i:Nat)(x:α),xs[i]?∣x->∃u,vs[i]?∣u/\r.R K R u x
theorem AJ {r:Rep α}{xs:`x}(h:(ae r).R K R v xs):xr GW K R v r xs:=by
 let⟨a,vs,rfl,hp,pp,_⟩:=h;exact⟨a,vs,rfl,λR' H s s'=>bu.of (s' _ _ (s _ _ hp)),pp.length,λi x hx=>eC pp hx⟩
theorem Ob {xs:RU}(h:wG.R K R v xs):xr DL K R v ak xs:=by
 let⟨a,rfl,hq⟩:=h;exact⟨a,_,rfl,λR' H s s'=>hq.imp (λh=>h.imp (λq=>s' _ _ (s _ _ q)) λ⟨o,q⟩=>⟨o,s' _ _ (s _ _ q)⟩) id,by rw[Ss],λi x hx=>⟨_,by rw[Sw,hx];rfl,rfl⟩⟩
theorem Gy (h:au.R K R v (.tup xs)):xr DL K R v au xs:=by
 let h:fc R v (.tup xs):=h;cases h with
 | @tup a vs _ hp pp=>exact⟨a,vs,rfl,λR' H s s'=>dY.of (s' _ _ (s _ _ hp)),pp.pair.length,λi x hx=>eC pp.pair hx⟩
def Q3 (k1 k2:Ky)(K:Xt)(ta:TA):TI:=λσ H R=>ta σ H λvs H1=>∃a b xs ys,vs=[.ref a,.ref b]/\k1.Sq K H1 a xs/\k2.Sq K H1 b ys/\R (PJ k1 k2 K a b) H1
theorem Kx {a b:Expr}{ta:TA}{p:Pos}{k:Nat}(hg:Gl X "zip")(hm:X.mg "zip"=none)(ha:PA X [a,b] ta)(hs:wA X a b)(YE:fL X b):PI X (.Tuple es k tp) `bD (Q3 k1 k2 X.K ta):=by
 intro X3 s σ H R I h;refine Call_ (i7 I hg hm boot_zip (Vf `T (by first | rw[dk,hs,YE] | rw[hs,YE]) (by rw[YE];rfl)));let⟨l,l',xs,ys,e,hq,Zb,q⟩:=q1;subst e;cases r1 with
 | cons r rr=>
   cases rr with
   | cons r' rr=>
     cases rr
     cases r
     cases r'
     let⟨X5,_,pl⟩:=k1.get I1 hq;let⟨its',_,ZH⟩:=k2.get I1 Zb;let ll:l<⇑s1:=by let⟨o,e,_⟩:=(k1.kd X.prog X.w).cl pl;exact W7 e
     let ll':l'<⇑s1:=by let⟨o,e,_⟩:=(k2.kd X.prog X.w).cl ZH;exact W7 e
     refine ZT.Cs k1.kd k2.kd pl ZH λh' a1 a2 a3 a4 a5 hk=>?_;refine wpAny_pyIter_zip a1 ?_;let I2:Inv X X3 σ H1 {s1 with heap:=h'}:=I1.kept (t':=s1.toks) hk;let ff:∀b,⇑s1<=b->mB X X3 H1 b:=λb hb=>I1.ka hb (I1.X8.fresh hb);refine⟨⇑s1+4,[⇑s1+4,⇑s1+2,⇑s1+3,⇑s1,⇑s1+1],_,_,H1,rfl,I2,Fu (k1:=k1) (k2:=k2) l l' _ _ _ _ _ (RF _),⟨a1,a2,⟨_,_,a3⟩,a4,a5,UO (UN ll (UU _ 3)),UO (UN ll' (UU _ 3))⟩,λb hb=>?_,q⟩;simp only[SF,Tc,or_false] at hb;obtain rfl | rfl | rfl | rfl | rfl:=hb
     ·exact ff _ (UU _ 4)
     ·exact ff _ (UU _ 2)
     ·exact ff _ (UU _ 3)
     ·exact ff _ (UJ _)
     ·exact ff _ (UU _ 1)
theorem uS {a b:Expr}{p:Pos}{k:Nat}{q1:Rep γ}{q2:Rep δ}{x1:γ}{x2:δ}{r:Rep α}{r':Rep β}{xs:`x}{ys:List β}(hm:X.mg "zip"=none)(ha:EV X a Z q1 x1 Γ1)(hb:EV X b Γ1 q2 x2 Γ2)(f1:∀{R:Hp}{v:V},q1.R X.K R v x1->xr k1 X.K R v r xs)(f2:∀{R:Hp}{v:V},q2.R X.K R v x2->xr k2 X.K R v r' ys)(hz:∀{R:Hp}{v v':V},q1.R X.K R v x1->q2.R X.K R v' x2->xs.length<=Vn∨ys.length<=Vn)(hs:wA X a b:=by rfl)(YE:fL X b:=by rfl)(hg:Gl X "zip":=by rfl):
 IV X (.Tuple es k tp) `bD Z (dO r r') (xs.zip ys) Γ2:=by
 refine⟨_,Kx (k1:=k1) (k2:=k2) hg hm (aK aO (aK aO br YE) (by first | rw[dk,hs,YE] | rw[hs,YE])) hs YE,λσ H0 R0 H R E Rq q=>ha σ H0 R0 H R E _ λv H1 R1 E1 s1 e1=>hb σ H0 R0 H1 R1 E1 _ λv' H2 R2 E2 s2 e2=>?_⟩;let e1:=q1.mono (K:=X.K) s2 e1;let z:(xs.zip ys).length<=Vn:=by
  rw[T6];exact(hz e1 e2).elim (UK (UX _ _)) (UK (U1 _ _))
 let⟨a,vs,rfl,sa,la,pa⟩:=f1 e1;let⟨b,Yy,rfl,sb,lb,pb⟩:=f2 e2;refine⟨a,b,vs,Yy,rfl,sa _ _ `Z E2.sub,sb _ _ `Z E2.sub,q _ H2 R2 E2 `E z λH' R' sR sH i=>⟨λy hy=>?_,λhi=>?_⟩⟩
 ·let hq:=sa _ _ sR sH;let Zb:=sb _ _ sR sH;let⟨e1,e2⟩:=kY hy;let⟨v,hv,hr⟩:=pa _ _ e1;let⟨v',hv',Y7⟩:=pb _ _ e2;refine⟨⟨vs,Yy,v,v',hq,Zb,hv,hv'⟩,λv2 H3 hyl=>?_⟩;let⟨p,x,x',hpn,rfl,rfl,hy,hy'⟩:=hyl;let t1:=hy _ hq;let t2:=hy' _ Zb;rw[hv] at t1;rw[hv'] at t2;cases t1
  cases t2
  let s3:av R' (upd R' p (.tup [v,v'])):=av.fresh (sH.free hpn) _;exact⟨upd R' p (.tup [v,v']),Ext.fresh sH hpn _,p,_,_,rfl,aG,r.mono s3 (r.mono sR hr),r'.mono s3 (r'.mono sR Y7)⟩
 ·refine⟨vs,Yy,sa _ _ sR sH,sb _ _ sR sH,?_⟩;rw[T6] at hi;cbv
theorem Br {a b:Expr}{p:Pos}{k:Nat}{r:Rep α}{r':Rep β}{xs:`x}{ys:List β}(hm:X.mg "zip"=none)(ha:EV X a Z (ae r) xs Γ1)(hb:EV X b Γ1 (ae r') ys Γ2)(hs:wA X a b:=by rfl)(YE:fL X b:=by rfl)(hg:Gl X "zip":=by rfl):
 IV X (.Tuple es k tp) `bD Z (dO r r') (xs.zip ys) Γ2:=uS (k1:=GW) (k2:=GW) hm ha hb AJ AJ (λ⟨_,_,_,_,_,z⟩ _=>.inl z) hs YE hg
theorem FQ {a b:Expr}{p:Pos}{k:Nat}{ys:`aP}(hm:X.mg "zip"=none)(ha:EV X a Z au (.tup xs) Γ1)(hb:EV X b Γ1 au (.tup ys) Γ2)(hz:xs.length<=Vn)(hs:wA X a b:=by rfl)(YE:fL X b:=by rfl)(hg:Gl X "zip":=by rfl):
 IV X (.Tuple es k tp) `bD Z (dO au au) (xs.zip ys) Γ2:=uS (k1:=DL) (k2:=DL) hm ha hb Gy Gy (λ_ _=>.inl hz) hs YE hg
theorem Ia {a b:Expr}{p:Pos}{k:Nat}{ys:RU}{r:Rep α}{xs:`x}(hm:X.mg "zip"=none)(ha:EV X a Z wG ys Γ1)(hb:EV X b Γ1 (ae r) xs Γ2)(hs:wA X a b:=by rfl)(YE:fL X b:=by rfl)(hg:Gl X "zip":=by rfl):
 IV X (.Tuple es k tp) `bD Z (dO ak r) (ys.zip xs) Γ2:=uS (k1:=DL) (k2:=GW) hm ha hb Ob AJ (λ_ ⟨_,_,_,_,_,z⟩=>.inr z) hs YE hg
end
end Fc
namespace HT
open PySem PySem.Spec PyProof.Rows
section
variable {prog:Vr}{w:World}{A:Vu}{E:`r}{s:Vo}
theorem qv {t sl:Addr}{items:`bL}{vl vu:`aa}{lo hi:`br}{Q:`r}(ht:IsTup s.heap t items)(hs:s.heap.IsSliceOf sl vl vu .none)(pl:V6 vl lo)(pu:V6 vu hi)(hw:Yl items.size 0 lo=0/\Yl items.size items.size hi=items.size)(h:Q (.ref t) s):wpAny `z A (V2 (.ref t) (.ref sl)) Q E s:=by
 let⟨os,hos,hcs,hds⟩:=id hs;let hTs:s.TypeIs (.ref sl) "slice":=⟨os,hos,hcs⟩;unfold V2
 try with_reducible refine VX ?_
 first | refine Vp (Vs ?_) | skip
 refine Vp (wpAny_sequenceKey ht.typeIs `c ?_);refine Vp (VE (name:=Xk "__getitem__") ht.typeIs Vg
  (VR Vg ht.typeIs entry_tuple_getitem ?_ (args_tuple_getitem _ _)))
 show wpAny _ _ (Builtin.Tuple.tupleItemsOf (.ref t) >>=_) _ _ s;refine Vp (tupleItemsOf_ ht ?_);refine Vp (wpAny_typeOf hTs ?_);rw[XU `c];refine Vp (lu hs pl pu ?_);let hyes:`P=true:=by
  rw[hw.1,hw.2];simp
 show wpAny _ _ (if(((Yl items.size 0 lo:Nat):Int)==0&&(1:Int)==1&&`aB==items.size)=true then _ else _) _ _ s;rw[XU hyes];refine Vp ?_;unfold Builtin.Tuple.tupleIsExact;refine Vp (wpAny_typeOf ht.typeIs (Vs ?_));rw[XU `c];exact Vp (V8 (Vs ⟨_,rfl,Vs h⟩))
end
end HT
namespace Fc
open PySem PySem.Spec PySem.W PySem.Calls L2
open PyProof.Rows hiding St
variable {X:Cx}{Z Γ1 Γ2 Γ3:Ga}{α β γ δ:Type}{N:Ga->Prop}{T:RT}{pos p2:Pos}{xs:`aP}{x y:Str}{H:Hp}
section
variable {a:Expr}
def Rm (K:Xt):V->Option Int->Option Int->Hp->VK->Prop:=λx lo hi H Q=>∃a xs,x= .ref a/\dY K H a xs/\
 (HT.Yl xs.length 0 lo=0/\HT.Yl xs.length xs.length hi=xs.length)/\Q x H
theorem J8:Cy X (Rm X.K):=by
 intro X3 s σ H x v vl vu lo hi sl Q I rx hs pl pu h;let⟨a,xs,rfl,hx,hw,q⟩:=h;cases rx
 let⟨X5,r,ht,hz⟩:=I.tuple hx;let hlen:X5.toArray.size=xs.length:=by rw[SJ];exact r.length.symm
 refine⟨"tuple",_,Vg.lookup,ht.typeIs,?_⟩;exact HT.qv ht hs pl pu (by rw[hlen];exact hw) ⟨.ref a,H,I,rfl,q⟩
theorem Kt {lo hi:Option Expr}{l h:`br}(ha:EV X a Z au (.tup xs) Z)(hl:OV X lo Z l)(hh:OV X hi Z h)(hw:HT.Yl xs.length 0 l=0/\HT.Yl xs.length xs.length h=xs.length):EV X (.Subscript a (.Slice lo hi none p2) pos) Z au (.tup xs) Z:=by
 intro σ H0 R0 H R E Q q;let⟨tl,pl,kl⟩:=hl;let⟨th,ph,kh⟩:=hh;refine eS (nI J8 aO pl ph) `G;cases au.mono (K:=X.K) (s2.trans s3) e1 with
 | @tup a' Yy _ hp pp=>
   exact⟨_,_,rfl,dY.of (E3.sub _ _ hp),by rw[pp.pair.length];exact hw,q _ _ _ E3 `bM (.tup hp pp)⟩
theorem Ko {lo hi:Option Expr}{l h:`br}(ha:EV X a Z au (.tup xs) Z)(hl:OV X lo Z l)(hh:OV X hi Z h):EV X (.Subscript a (.Slice lo hi none p2) pos) Z au (.tup (cut xs l h)) Z:=by
 by_cases hw:HT.Yl xs.length 0 l=0/\HT.Yl xs.length xs.length h=xs.length
 ·let e:cut xs l h=xs:=by
   unfold cut;rw[hw.1,hw.2];simp
  rw[e];exact Kt ha hl hh hw
 ·exact Mu ha hl hh hw
theorem pY {b:Expr}(ha:EV X a Z ak x Γ1)(hb:EV X b Γ1 ak y Γ2)(hz:x.length+y.length<=Vn):EV X (.BinOp a .Add b pos) Z ak (x++y) Γ2:=kH A7 ha hb λR v u H Q e1 e2 q=>⟨x,y,e1,e2,hz,q _ rfl⟩
theorem Jr {p:Pos}(hm:X.mg "len"=none)(ha:EV X a Z ak x Γ1)(hz:x.length<=Vn)(hs:fL X a:=by rfl)(hg:Gl X "len":=by rfl):EV X `aX Z ah (x.length:Int) Γ1:=by
 intro σ H0 R0 H R E Q q;refine eS (eX xh hg hm VJ `be `c `c hs) `B;cases e1
 exact⟨x,rfl,hz,q _ H1 R1 E1 s1 rfl⟩
theorem Im {p:Addr}{a b:HO}:upd (upd H p a) p b=upd H p b:=by
 funext c;by_cases h:c=p
 ·subst h;rw[aG,aG]
 ·rw[aJ h,aJ h,aJ h]
end
variable {st:Stmt}
def Gj (i j:Int):Prop:=0<j/\j<=1000000000000000000
theorem EZ:eW X (VQ .FloorDiv) (rI Gj λi j=>.int (i/j)):=zw λi j _ _ _ _ _ hc q=>by
 let h1:(0:Int)<j:=hc.1;let h2:j<=1000000000000000000:=hc.2;exact floordiv_int `a (by rw[Int.fdiv_eq_ediv_of_nonneg i `a];exact q) (.inl (PyProof.noPylong_of_log2 (UN ((Nat.log2_lt `a).mpr (show j.natAbs<2 ^ 60 by cbv)) `c)))
theorem bG {N1:Ga->Prop}{rest:List Stmt}(h1:W1 X st Z N1 T)(h2:∀Γ',N1 Γ'->WS X rest Γ' N T):WS X (st::rest) Z N T:=ai λσ H0 R0 H R E D dn dr=>h1 σ H0 R0 H R E D (λσ' H' R' Γ' E' s' n=>dn σ' H' R' Γ' E' s' (h2 Γ' n)) dr
theorem qT {a b:Expr}{x y:Int}(ha:EV X a Z ah x Γ1)(hb:EV X b Γ1 ah y Γ2)(h:Gj x y):EV X (.BinOp a .FloorDiv b pos) Z ah (x/y) Γ2:=kH EZ ha hb λR v u H Q e1 e2 q=>⟨x,y,e1,e2,h,q _ rfl⟩
theorem GK {x y:Int}(h0:0<=x)(h1:x<2 ^ 63):Wy x y:=.of_left (Wg `a `a)
def mi (x:Str)(i:Nat):Str:=⟨#[x.cps.getD i 0]⟩
theorem Cf {a b:Expr}{i:Int}(ha:EV X a Z ak x Γ1)(hb:EV X b Γ1 ah i Γ2)(h0:0<=i)(h1:i<(x.length:Int))(hz:x.length<=Vn)(hs:dU b:=by exact λ_ _=>rfl):EV X (.Subscript a b pos) Z ak (mi x i.toNat) Γ2:=by
 intro σ H0 R0 H R E Q q;refine eS (ip LN aO aO hs) `k;cases e1
 cases e2
 refine⟨x,i,x.cps.getD i.toNat 0,rfl,rfl,hz,?_,q _ H2 R2 E2 `E rfl⟩;let hl:x.cps.toList.length=x.length:=by simp[Str.length]
 rw[jT h0 `a,So `a];have:i.toNat<x.cps.size:=by have:x.length=x.cps.size:=rfl;cbv
 simp[Array.getD,this]
variable {es:R6}{p1:Pos}{σ:St}{H0 R0 R:Hp}{r:Rep α}
theorem mE {K:Xt}{R:Hp}:∀{vs:`K}{xs:RU},PySem.Paired (ak.R K R) vs xs->vs=xs.map V.str
 | _,_,.nil=>rfl
 | _,_,.cons h t=>by rw[Ta,← mE t];exact congrArg (· ::_) h
theorem sL {xs:RU}:iN X .In ak (ae ak) x xs (decide (x∈xs)):=⟨_,vt,λR H v u Q s e1 e2 q=>by
 cases e1
 let⟨a,vs,rfl,hq,p,_⟩:=e2;let e:=mE p;subst e;exact⟨a,_,rfl,.inl (bu.of (s _ _ hq)),rfl,mf xs,by rw[XT R9,nG];exact q⟩⟩
theorem AZ {S:jt α}{k:Nat}{p:Pos}{ps:List Pk}{xs:`x}{TM:List α->RT}{Q:VK}(i:Nat)(C:`aH)(hr:bH k X.A)(ha:HA X es Z ps Γ1)(hΓ:`ay)(hΓ1:Γ1[i]?∣.mu r xs)(hS:S X.K xs ps TM)(E:`aS)(q:∀a H1 R1 v H' R' xs',(σ[i]?).join∣.ref a->ar X.K σ H0 R0 H1 R1 Γ1->ar X.K σ H0 R0 H' R' (Γ1.set i (.mu r xs'))->av R R'->TM xs' (del H1 a) v H' R'->Q v H')(hg:Gl X x)(Yz:(x==("__debug__":Str))=false)(he:Vt (.Name y p1::es) X.env=`bp::Vt es X.env)(Yo:eV X pos es)(hN:At X i y):fE X `bJ σ H Q:=by
 let⟨f,fd,pn,F,hm,hk,hb⟩:=C.ex;let⟨a,vs,ea,_,_,_⟩:=E.ent i _ hΓ;refine eS (gR F hr hg hm hk hb .nil jO (aK (aX hN) oz he) Yz he Yo) ⟨.ref a,am ea,ha σ H0 R0 H R E _ λus H1 R1 E1 s1 p1=>?_⟩;let⟨a',ws,YC,hp,hR,pp⟩:=E1.ent i _ hΓ1;rw[ea] at YC;cases YC
 let h0:H0 a=none:=E1.new i _ a hΓ1 rfl ea;refine⟨R1,a,ws,xs,us,ps,TM,by rw[S3],E1.sub,hR,hp,pp,p1,hS,λv H' R' YK xs' xx h1 h2 pq t=>q a H1 R1 v H' R' xs' ea E1 ?_ `bA t⟩;let apart:∀(j:Nat)(e:Ent),j≠i->Γ1[j]?∣e->a∉e.fp (σ[j]?).join:=λj e hj qj w=>hj (E1.ds j i e _ a qj hΓ1 w (cf.mpr ea));let E2:ar X.K σ H0 R0 H1 R1 (Γ1.set i .no):=E1.tell hΓ1 trivial λb w=>by cases w
 let E3:=E2.GY (a:=a) (λj e qj w=>by
  obtain⟨rfl,rfl,_⟩ | ⟨hj,q1⟩:=set_at qj
  ·cases w
  ·exact apart j e hj q1 w) h0 xx
 let hl:i<Γ1.length:=(Sn.mp hΓ1).1;let E4:=E3.lW (i:=i) (e0:=.no) (en:=.mu r xs') (SG hl) (by rw[ea];exact⟨a,YK,rfl,h1,h2,pq⟩) λb w=>by
  let eb:b=a:=by rw[cf.mp w] at ea;cases ea;rfl
  subst eb;exact⟨h0,λj e hj qj=>apart j e hj (by rwa [SX (U8 hj)] at qj)⟩
 rw[TR] at E4;exact E4
variable {a b:Addr}{K:Xt}{j:Nat}{H' R':Hp}{ws:`K}{e:Expr}{ap cp:Pos}
section
variable {as:RY}{YD:List (List α)}{xs:`x}
def jr (K:Xt)(r:Rep α)(H R:Hp)(as:RY)(YD:List (List α)):Prop:=as.length=YD.length/\∀(i:Nat)(b:Addr)(xs:`x),as[i]?∣b->YD[i]?∣xs->∃ws,H b∣.lst ws/\PySem.Paired (r.R K R) ws xs
theorem jr.one (h:jr K r H R as YD)(hb:b∈as):∃ws,H b∣.lst ws:=by
 let⟨i,hi,rfl⟩:=Uh.mp hb;let⟨ws,h1,_⟩:=h.2 i _ _ (So hi) (So (by rw[← h.1];exact hi));exact⟨ws,h1⟩
theorem jr.loc (h:jr K r H R as YD)(e:∀a∈as,H' a=H a)(s:av R R'):jr K r H' R' as YD:=
 ⟨h.1,λi b xs h1 h2=>by
   let⟨ws,q1,q2⟩:=h.2 i b xs h1 h2;exact⟨ws,(e b (SD h1)).trans q1,Paired.map (λ_ _=>r.mono s) q2⟩⟩
theorem jr.put (h:jr K r H R as YD)(nd:as.Nodup)(hb:as[j]?∣b)(hp:PySem.Paired (r.R K R) ws xs):jr K r (upd H b (.lst ws)) R as (YD.set j xs):=by
 refine⟨by rw[Tb];exact h.1,λi c q h1 h2=>?_⟩;by_cases hij:i=j
 ·subst hij;rw[hb] at h1;cases h1
  let hl:i<YD.length:=by rw[← h.1];exact(Sn.mp hb).1
  rw[SG hl] at h2;cases h2
  exact⟨ws,aG,hp⟩
 ·rw[SX (U8 hij)] at h2;have:c≠b:=λz=>by
   subst z;let l1:=(Sn.mp h1);let l2:=(Sn.mp hb);exact hij ((Uq (h₀:=l1.1) (h₁:=l2.1) nd).mp (l1.2.trans l2.2.symm))
  rw[aJ this];exact h.2 i c q h1 h2
theorem jr.snoc (h:jr K r H R as YD)(hb:H b∣.lst ws)(hp:PySem.Paired (r.R K R) ws xs):jr K r H R (as++[b]) (YD++[xs]):=by
 refine⟨by rw[Sx,Sx,h.1];rfl,λi c q h1 h2=>?_⟩;obtain hl | hl:=UP i as.length
 ·rw[S0 hl] at h1;rw[S0 (by rw[← h.1];exact hl)] at h2;exact h.2 i c q h1 h2
 ·rw[SV hl] at h1;rw[SV (by rw[← h.1];exact hl)] at h2;let e:i-as.length=0:=by
   have:=(Sn.mp h1).1;simp at this;cbv
  rw[e] at h1;rw[← h.1,e] at h2;simp at h1 h2;rw[← h1,← h2];exact⟨ws,hb,hp⟩
noncomputable def sN (r:Rep α)(a:Addr)(as:RY)(YD:List (List α)):ou where
 fp:=a::as
 R:=λK H R v=>v= .ref a/\H a∣(.lst (as.map .ref))/\jr K r H R as YD/\(a::as).Nodup
 loc:=λhH hR ⟨e,h1,h2,h3⟩=>⟨e,(hH a Sz).trans h1,h2.loc (λb hb=>hH b (Sv _ hb)) hR,h3⟩
 has:=λ⟨e,h1,h2,h3⟩ b hb=>by
  obtain rfl | hb:=SF.mp hb
  ·rw[h1];exact Va _
  ·let⟨r,hr⟩:=h2.one hb;rw[hr];exact Va _
theorem C6 {k:Int}(hk:gm as.length k∣j)(hb:as[j]?∣b):cE (as.map V.ref) k∣.ref b:=by
 unfold cE;rw[Ss,hk];show(as.map V.ref)[j]?=_;rw[Sw,hb];rfl
theorem Mw (i:Nat){b:Expr}{k:Int}{Q:VK}(hb:EV X b Z ah k Z)(hΓ:Z[i]?∣(.ob (sN r a as YD)))(hk:gm YD.length k∣j)(E:`aS)(q:∀c H' R',ar X.K σ H0 R0 H' R' Z->av R R'->as[j]?∣c->Q (.ref c) H')(hN:At X i x)(hsx:dU b):fE X (.Subscript `m b p2) σ H Q:=by
 let⟨⟨v,ea,rfl,ha,hr,_⟩,hR⟩:=E.ent i _ hΓ;refine eS (ip gT (aX hN) aO hsx) ⟨.ref a,am ea,hb σ H0 R0 H R E _ λu H2 R2 E2 s2 e2=>?_⟩;let⟨⟨v,ea2,e3,ha2,hr2,nd⟩,hR2⟩:=E2.ent i _ hΓ;let hl:j<as.length:=by rw[hr2.1];exact(ud hk).2.1
 exact⟨a,_,k,.ref as[j],rfl,e2,bu.of ha2,C6 (by rw[hr2.1];exact hk) (So hl),q _ H2 R2 E2 s2 (So hl)⟩
theorem Bi (i:Nat){b:Expr}{k:Int}{y:α}(hb:EV X b Z ah k Z)(he:EV X e Z r y Z)(hΓ:Z[i]?∣(.ob (sN r a as YD)))(hk:gm YD.length k∣j)(hx:YD[j]?∣xs)(hz:xs.length<Vn)(h:N (Z.set i (.ob (sN r a as (YD.set j (xs++[y]))))))(hN:`p)(hsx:dU b:=by exact λ_ _=>rfl)(YH:Vv (.Call (.Attribute (.Subscript `m b p2) "append" ap) [e] [] cp) none pos.line X.env=pure false:=by rfl)(Yd:fA X (.Subscript `m b p2) "append":=by rfl)(Yt:nk X cp [e]:=by rfl)(Yc:`ae=true:=by rfl)(hs:dk X e []:=by rfl):W1 X (.Expr (.Call (.Attribute (.Subscript `m b p2) "append" ap) [e] [] cp) pos) Z N T:=λσ H0 R0 H R E D dn dr=>by
 refine sS (eD (ie WW WX WY iM aO `be Yd Yt Yc hs rfl) YH) ?_;refine Mw i hb hΓ hk E (λc H1 R1 E1 s1 hc=>?_) hN hsx;let⟨⟨v,ea1,rfl,ha1,hr1,nd1⟩,hR1⟩:=E1.ent i _ hΓ;let⟨ws1,q1,q2⟩:=hr1.2 j c xs hc hx;refine⟨.inl ⟨rfl,_,bu.of q1⟩,he σ H0 R0 H1 R1 E1 _ λu H2 R2 E2 s2 e2=>?_⟩;let⟨⟨v,ea2,rfl,ha2,hr2,nd2⟩,hR2⟩:=E2.ent i _ hΓ;let⟨ws2,q1,q2⟩:=hr2.2 j c xs hc hx;let⟨n1,n2⟩:=S5.mp nd2;let cm:c∈as:=SD hc;refine⟨c,ws2,u,rfl,rfl,q1,by rw[q2.length];exact hz,?_⟩;refine dn σ _ R2 _ (E2.oR (en:=.ob (sN r a as (YD.set j (xs++[y])))) hΓ (Sv _ cm) ⟨⟨.ref a,ea2,rfl,?_,hr2.put n2 hc (dM q2 (.cons e2 .nil)),nd2⟩,hR2⟩ λc w=>.inl w) `E h;rw[aJ (show a≠c from λz=>n1 (z▸cm))];exact ha2
noncomputable def PD (K:Xt)(r:Rep α)(P:List (List α)->Prop):RT:=λH0 v H' R'=>∃a as YD,v= .ref a/\(∀b∈a::as,H0 b=none/\R' b=none)/\H' a∣(.lst (as.map .ref))/\jr K r H' R' as YD/\(a::as).Nodup/\P YD
theorem JW (i:Nat){P:List (List α)->Prop}(hΓ:Z[i]?∣(.ob (sN r a as YD)))(h:P YD)(hN:`p):W1 X (.Return (some `m) pos) Z N (PD X.K r P):=λσ H0 R0 H R E D dn dr=>by
 let⟨⟨v,ea,rfl,ha,hr,nd⟩,hR⟩:=E.ent i _ hΓ;exact sS (jm (aX hN)) ⟨.ref a,am ea,dr _ H R E.ext ⟨a,as,YD,rfl,λb hb=>⟨E.nw i _ b hΓ hb,hR b hb⟩,ha,hr,nd,h⟩⟩
noncomputable def mx (R H:Hp)(l:RY):Hp:=λb=>if b∈l then H b else R b
theorem HL (i:Nat){P:List (List α)->Prop}(hΓ:Z[i]?∣(.ob (sN r a as YD)))(hz:YD.length<=Vn)(hzi:∀xs∈YD,xs.length<=Vn)(h:P YD)(hN:`p):W1 X (.Return (some `m) pos) Z N (DZ X.K (ae r) P):=λσ H0 R0 H R E D dn dr=>by
 let⟨⟨v,ea,rfl,ha,hr,nd⟩,hR⟩:=E.ent i _ hΓ;let⟨n1,n2⟩:=S5.mp nd;let sR:av R (mx R H as):=λb o q=>by
  unfold mx;split
  ·rename_i hb;rw[hR b (Sv _ hb)] at q;cases q
  ·exact q
 let sH:av (mx R H as) H:=λb o q=>by
  unfold mx at q;split at q
  ·exact q
  ·exact E.sub b o q
 let pr:PySem.Paired ((ae r).R X.K (mx R H as)) (as.map .ref) YD:=by
  let key:∀(bs:RY)(YW:List (List α)),(∀b∈bs,b∈as)->jr X.K r H R bs YW->(∀xs∈YW,xs.length<=Vn)->PySem.Paired ((ae r).R X.K (mx R H as)) (bs.map .ref) YW:=by
   intro bs
   induction bs with
   | nil=>intro YW _ h _;cases YW with
     | nil=>exact .nil
     | cons _ _=>exact XS h.1 `d
   | cons b bs ih=>intro YW hm h hz;cases YW with
     | nil=>exact XS h.1 `d
     | cons ys YW=>
       let⟨ws,q1,q2⟩:=h.2 0 b ys rfl rfl;refine .cons ⟨b,ws,rfl,?_,Paired.map (λ_ _=>r.mono sR) q2,hz ys Sz⟩ (ih YW (λc hc=>hm c (Sv _ hc)) ⟨by simpa using h.1,λi c xs h1 h2=>h.2 (i+1) c xs (~~~h1) (~~~h2)⟩ λxs hx=>hz xs (Sv _ hx));unfold mx;rw[XU (hm b Sz)];exact q1
  exact key as YD (λ_ h=>h) hr hzi
 refine sS (jm (aX hN)) ⟨.ref a,am ea,dr _ H (mx R H as) ⟨E.ext.h,E.ext.r.trans sR,sH,λb hb=>?_⟩ ⟨a,_,YD,rfl,E.nw i _ a hΓ Sz,ha,?_,pr,hz,h⟩⟩
 ·unfold mx;rw[XT λz=>hb (E.nw i _ b hΓ (Sv _ z))];exact E.ext.old b hb
 ·unfold mx;rw[XT n1];exact hR a Sz
end
variable {i:Nat}{B:ou}
theorem t7 {a b:Expr}{Zx:Pos}{m n:Int}(hml:X.mg "list"=none)(hmr:X.mg "range"=none)(ha:HA X [a,b] Z [⟨ah,m⟩,⟨ah,n⟩] Γ1)(hm: -1000000<=m/\m<=1000000)(hn: -1000000<=n/\n<=1000000)(hs:Vt [a,b] X.env=(false,eval a X.env)::Vt [b] X.env:=by rfl)(Yo:eV X Zx [b]:=by rfl)(YE:Vt [.Call (.Name "range" p2) [a,b] [] Zx] X.env=[(false,eval (.Call (.Name "range" p2) [a,b] [] Zx) X.env)]:=by rfl)(hc:X.calm=true:=by rfl)(hg:Gl X "list":=by rfl)(hgr:Gl X "range":=by rfl):bc X (.Call (.Name "list" p1) [.Call (.Name "range" p2) [a,b] [] Zx] [] pos) Z ah (ups m (n-m).toNat) Γ1:=by
 intro σ H0 R0 H R E Q q;refine eS (iQ (oK hc) hg hml Ve (aK (iQ ui hgr hmr Vl oz `c `c hs Yo) br YE) `c `c YE) (ha σ H0 R0 H R E _ λvs H1 R1 E1 s1 e1=>?_);let e:vs=[.int m,.int n]:=by
  cases e1 with
  | cons a1 t=>cases t with
    | cons a2 t=>cases t;cases a1;cases a2;rfl
 subst e;refine⟨m,n,rfl,λp hp=>⟨p,m,n,rfl,aG,hm.1,hm.2,hn.1,hn.2,λd hd=>?_⟩⟩;let E2:=E1.grow (Ext.ee E1.sub hp (.rng m n));exact q d _ _ R1 (E2.grow (Ext.ee E2.sub hd _)) s1 aG (E2.sub.free hd) (E2.ext.h.free hd) (E2.off hd) (paired_ints _) (by rw[bt];exact UK (show(n-m).toNat<=2000000 by cbv) `c)
theorem ar.QZ (E:`y)(hΓ:Z[i]?∣.ob B):ar K σ H0 R0 H (λb=>if b∈B.fp then H b else R b) (Z.set i .no)/\av R (λb=>if b∈B.fp then H b else R b):=by
 let h0:∀b∈B.fp,H0 b=none:=λb hb=>E.nw i _ b hΓ hb;let hR:∀b∈B.fp,R b=none:=(E.ent i _ hΓ).2;let sR:av R (λb=>if b∈B.fp then H b else R b):=λb o q=>by
  show(if b∈B.fp then H b else R b)∣o;rw[XT λw=>by rw[hR b w] at q;cases q];exact q
 refine⟨⟨⟨E.ext.h,E.ext.r.trans sR,λb o q=>?_,λb hb=>?_⟩,λj e q=>?_,λj e b q w=>?_,λj k e e' b q q' w w'=>?_,by rw[Tb];exact E.len⟩,sR⟩
 ·let q:(if b∈B.fp then H b else R b)∣o:=q;by_cases hb:b∈B.fp
  ·rw[XU hb] at q;exact q
  ·rw[XT hb] at q;exact E.sub b o q
 ·show(if b∈B.fp then H b else R b)=_;rw[XT λw=>hb (h0 b w)];exact E.ext.old b hb
 ·obtain⟨rfl,rfl,_⟩ | ⟨hj,q1⟩:=set_at q
  ·trivial
  ·let h1:=E.ent j e q1;refine h1.loc (λb hb=>rfl) sR λb hb=>?_;show(if b∈B.fp then H b else R b)=none;rw[XT (show¬b∈B.fp from λw=>hj (E.ds j i e _ b q1 hΓ hb w))];exact(Ent.fz h1 hb).2
 ·obtain⟨rfl,rfl,_⟩ | ⟨hj,q1⟩:=set_at q
  ·cases w
  ·exact E.nw j e b q1 w
 ·obtain⟨rfl,rfl,_⟩ | ⟨hj,q1⟩:=set_at q
  ·cases w
  ·obtain⟨rfl,rfl,_⟩ | ⟨hk,Zg⟩:=set_at q'
   ·cases w'
   ·exact E.ds _ _ _ _ b q1 Zg w w'
mutual
inductive cP (H:Hp):V->PV->RY->Prop
 | str (x:Str):cP H (.str x) (.str x) []
 | int (n:Int):cP H (.int n) (.int n) []
 | lst {a:Addr} {vs:`K} {xs:`aP} {fp:RY}:H a∣.lst vs->bE H vs xs fp->xs.length<=Vn->cP H (.ref a) (.lst xs) (a::fp)
inductive bE (H:Hp):List V->List PV->RY->Prop
 | nil:bE H [] [] []
 | cons {v:V} {x:PV} {f:RY} {vs:`K} {xs:`aP} {g:RY}:cP H v x f->bE H vs xs g->bE H (v::vs) (x::xs) (f++g)
end
mutual
theorem cP.rX {H:Hp}:∀{v:V}{x:PV}{fp:RY},cP H v x fp->fc H v x
 | _,_,_,.str x=>.str x
 | _,_,_,.int n=>.int n
 | _,_,_,.lst h t z=>.lst h t.rX z
theorem bE.rX {H:Hp}:∀{vs:`K}{xs:`aP}{fp:RY},bE H vs xs fp->eL H vs xs
 | _,_,_,.nil=>.nil
 | _,_,_,.cons h t=>.cons h.rX t.rX
end
mutual
theorem cP.loc {H H':Hp}:∀{v:V}{x:PV}{fp:RY},cP H v x fp->(∀a∈fp,H' a=H a)->cP H' v x fp
 | _,_,_,.str x,_=>.str x
 | _,_,_,.int n,_=>.int n
 | _,_,_,.lst h t z,k=>.lst ((k _ Sz).trans h) (t.loc λa ha=>k a (Sv _ ha)) z
theorem bE.loc {H H':Hp}:∀{vs:`K}{xs:`aP}{fp:RY},bE H vs xs fp->(∀a∈fp,H' a=H a)->bE H' vs xs fp
 | _,_,_,.nil,_=>.nil
 | _,_,_,.cons h t,k=>.cons (h.loc λa ha=>k a (SS _ ha)) (t.loc λa ha=>k a (SH _ ha))
end
mutual
theorem cP.has {H:Hp}:∀{v:V}{x:PV}{fp:RY},cP H v x fp->∀a∈fp,H a≠none
 | _,_,_,.str x,_,h=>by cases h
 | _,_,_,.int n,_,h=>by cases h
 | _,_,_,.lst q t z,a,h=>by
   obtain rfl | h:=SF.mp h
   ·rw[q];simp
   ·exact t.has a h
theorem bE.has {H:Hp}:∀{vs:`K}{xs:`aP}{fp:RY},bE H vs xs fp->∀a∈fp,H a≠none
 | _,_,_,.nil,_,h=>by cases h
 | _,_,_,.cons q t,a,h=>(SK.mp h).elim (q.has a) (t.has a)
end
noncomputable def Er:List PV->Bool
 | .lst _:: .int _::_=>true
 | _=>false
mutual
noncomputable def noMix:PV->Bool
 | .lst xs=> !Er xs&&ic xs
 | _=>true
noncomputable def ic:List PV->Bool
 | []=>true
 | x::xs=>noMix x&&ic xs
end
theorem DA (h:noMix (.lst xs)=true):(∀a k r,xs≠ .lst a:: .int k::r)/\ic xs=true:=by
 rw[noMix,Sa] at h;refine⟨λa k r e=>?_,h.2⟩;subst e;exact XS h.1 (by simp[Er])
mutual
theorem cP.node {H:Hp}{a s:Addr}{k:Int}{rest:`K}(ha:H a∣(.lst (.ref s:: .int k::rest))):∀{v:V}{x:PV}{fp:RY},cP H v x fp->noMix x=true->a∉fp
 | _,_,_,.str x,_=>`d
 | _,_,_,.int n,_=>`d
 | _,_,_,.lst q t z,hx=>by
   let⟨h1,h2⟩:=DA hx;intro h;obtain rfl | h:=SF.mp h
   ·rw[ha] at q;cases q
    cases t with
    | cons p1 t=>cases t with
      | cons p2 t=>
        cases p1
        cases p2
        exact h1 _ _ _ rfl
   ·exact bE.node ha t h2 h
theorem bE.node {H:Hp}{a s:Addr}{k:Int}{rest:`K}(ha:H a∣(.lst (.ref s:: .int k::rest))):∀{vs:`K}{xs:`aP}{fp:RY},bE H vs xs fp->ic xs=true->a∉fp
 | _,_,_,.nil,_=>`d
 | _,_,_,.cons q t,hx=>by
   rw[ic,Sa] at hx;intro h;obtain h | h:=SK.mp h
   ·exact cP.node ha q hx.1 h
   ·exact bE.node ha t hx.2 h
end
variable {vs:`K}{v:V}
theorem bE.len {fp:RY}(h:bE H vs xs fp):vs.length=xs.length:=h.rX.pair.length
theorem bE.app:∀{vs us:`K}{xs ys:`aP}{f g:RY},bE H vs xs f->bE H us ys g->bE H (vs++us) (xs++ys) (f++g)
 | _,_,_,_,_,_,.nil,t=>t
 | _,_,_,_,_,_,.cons h t,t'=>by
   rw[Tz,Tz,SR];exact .cons h (t.app t')
noncomputable def jQ:PV->Bool
 | .str _=>true
 | .int _=>true
 | _=>false
theorem mT {x:PV}(h:fc H v x)(hl:jQ x=true):cP H' v x []:=by
 cases h with
 | str x=>exact .str x
 | int n=>exact .int n
 | _=>cases hl
theorem zY {H H':Hp}:∀{vs:`K}{xs:`aP},eL H vs xs->xs.all jQ=true->bE H' vs xs []
 | _,_,.nil,_=>.nil
 | _,_,.cons h t,hl=>by
   rw[all_cons,Sa] at hl;exact .cons (f:=[]) (g:=[]) (mT h hl.1) (zY t hl.2)
def fV (x:PV)(fp:RY):ou where
 fp:=fp
 R:=λ_ H _ v=>cP H v x fp/\fp.Nodup
 loc:=λh _ ⟨t,n⟩=>⟨t.loc h,n⟩
 has:=λ⟨t,_⟩=>t.has
def uh (P:PV->Prop):RT:=λH0 v H' R'=>∃x fp,cP H' v x fp/\fp.Nodup/\(∀a∈fp,H0 a=none/\R' a=none)/\P x
variable {z:PV}
section
variable {x:PV}{y:PV}
def gK (X:Cx)(e:Expr)(Z:Ga)(x:PV)(Γ':Ga):Prop:=
 ∀(σ:St)(H0 R0 H R:Hp),ar X.K σ H0 R0 H R Z->∀Q:VK,(∀v fp H' R',ar X.K σ H0 R0 H' R' Γ'->av R R'->cP H' v x fp->fp.Nodup->(∀a∈fp,R' a=none/\H0 a=none/\Off a σ Γ')->Q v H')->fE X e σ H Q
theorem gK.cast (h:gK X e Z x Γ1)(e1:x=y):gK X e Z y Γ1:=e1▸h
theorem bc.qA (h:bc X e Z au xs Γ1)(hl:xs.all jQ=true):gK X e Z (.lst xs) Γ1:=λσ H0 R0 H R E Q q=>
 h σ H0 R0 H R E Q λa vs H' R' E' s' ha hR h0 off p z=>q _ [a] H' R' E' s' (.lst ha (zY (.of p) hl) z) (S5.mpr ⟨`d,T9⟩) λb hb=>by rw[Su.mp hb];exact⟨hR,h0,off⟩
theorem ng (i:Nat){x:Str}(he:gK X e Z y Γ1)(h:∀fp,N (Γ1.set i (.ob (fV y fp))))(hN:X.N.Nodup:=by first | assumption | decide)(hi:X.N[i]?∣x:=by rfl)(hx:`aq)(hs:Vv e (some `m) pos.line X.env=pure false:=by rfl)(hf:autoParam (fU X x) Zj):W1 X (.Assign [.Name x p1] e pos) Z N T:=λσ H0 R0 H R E D dn dr=>
 sS (lr hN hi hx aO hs hf) (he σ H0 R0 H R E _ λv fp H1 R1 E1 s1 t nd k=>dn _ H1 R1 _ (E1.setG (en:=.ob (fV y fp)) i ⟨⟨v,rfl,t,nd⟩,λa ha=>(k a ha).1⟩ (λa ha=>(k a ha).2.1) λa ha j e _ q w=>(k a ha).2.2 j e q w) s1 (h fp))
theorem iY (i:Nat){S:jt α}{x y:Str}{k:Nat}{p:Pos}{ps:List Pk}{xs st:`x}(C:`aH)(hr:bH k X.A)(ha:HA X es (Z.set i (.mu r xs)) ps (Z.set i (.mu r xs)))(hΓ:Z[i]?∣(.ob `aN))(hS:S X.K xs ps (λxs'=>uh λw=>xs'=st/\w=z))(hfr:∀(R:Hp)(ws:`K),PySem.Paired (r.R X.K R) ws st->∃s k rest,ws= .ref s:: .int k::rest)(hmx:noMix z=true)(hg:Gl X x:=by rfl)(Yz:YV x:=by decide)(he:Vt (.Name y p1::es) X.env=`bp::Vt es X.env:=by rfl)(Yo:eV X pos es:=by rfl)(hN:autoParam (At X i y) cg):
 gK X `bJ Z z (Z.set i (.ob (aF a r st))):=λσ H0 R0 H R E Q q=>by
 let⟨ea,⟨vs,hva,pp⟩,hR⟩:=cn (E.ent i _ hΓ);let hl:i<Z.length:=(Sn.mp hΓ).1;let E':ar X.K σ H0 R0 H R (Z.set i (.mu r xs)):=E.tell hΓ (by rw[ea];exact⟨a,vs,rfl,hva,hR,pp⟩) λb w=>by
  rw[ea] at w;exact w
 refine AZ i C hr ha (SG hl) (SG hl) hS E' (λa' H1 R1 v H' R' xs' YC E1 E2 s' t=>?_) hg Yz he Yo hN;rw[ea] at YC;cases YC
 let⟨w,fp,t1,nd,k,rfl,rfl⟩:=t;rw[TR] at E2;let⟨a2,ws,ea2,hp2,hR2,pp2⟩:=E2.ent i _ (SG hl);rw[ea] at ea2;cases ea2
 let E3:ar X.K σ H0 R0 H' R' (Z.set i (.ob (aF a r xs'))):=by
  have:=E2.tell (i:=i) (en:=.ob (aF a r xs')) (SG hl) (by rw[ea];exact⟨⟨_,rfl,rfl,ws,hp2,pp2⟩,λb hb=>by rw[Su.mp hb];exact hR2⟩) (λb w=>by rw[ea];exact w);rwa [TR] at this
 let ZI:∀b∈fp,b≠a:=λb hb e=>by
  subst e;let⟨s,k,rest,e1⟩:=hfr R' ws pp2;rw[e1] at hp2;exact cP.node hp2 t1 hmx hb
 refine q v fp H' R' E3 s' t1 nd λb hb=>?_;let hb1:H1 b=none:=by
  have:=(k b hb).1;unfold del at this;rwa [XT (ZI b hb)] at this
 refine⟨(k b hb).2,E1.ext.h.free hb1,λj e qj w=>?_⟩;obtain⟨rfl,rfl,_⟩ | ⟨hj,q1⟩:=set_at qj
 ·exact ZI b hb (Su.mp w)
 ·exact E1.off hb1 j e (by rw[SX (U8 hj)];exact q1) w
theorem ar.AE {fp:RY}(E:`y)(hj:Z[j]?∣(.ob (fV x fp))):(∃v,(σ[j]?).join∣v/\cP H v x fp)/\fp.Nodup/\ar K σ H0 R0 H R (Z.set j .no)/\∀a∈fp,R a=none/\H0 a=none/\Off a σ (Z.set j .no):=by
 let⟨⟨v,ev,t,nd⟩,hR⟩:=E.ent j _ hj;refine⟨⟨v,ev,t⟩,nd,E.tell (en:=.no) hj trivial (λb w=>by cases w),λa ha=>⟨hR a ha,E.nw j _ a hj ha,λk e q w=>?_⟩⟩;obtain⟨rfl,rfl,_⟩ | ⟨hk,q1⟩:=set_at q
 ·cases w
 ·exact hk (E.ds k j e _ a q1 hj w ha)
theorem tY (j:Nat){y:Str}{fp:RY}(hΓ:Z[j]?∣(.ob (fV x fp)))(hN:autoParam (At X j y) cg):gK X (.Name y pos) Z x (Z.set j .no):=λσ H0 R0 H R E Q q=>by
 let⟨⟨v,ev,t⟩,nd,E1,k⟩:=E.AE hΓ;exact eS (aX hN) ⟨v,am ev,q v fp H R E1 `Z t nd k⟩
theorem cP.fresh {fp:RY}{p:Addr}{o:HO}(h:cP H v x fp)(hp:H p=none):cP (upd H p o) v x fp/\p∉fp:=by
 let hn:p∉fp:=λw=>h.has p w hp;exact⟨h.loc λa ha=>aJ λe=>hn (e▸ha),hn⟩
theorem Dn {a b t:Expr}(ha:EV X a Z au x Γ1)(hb:EV X b Γ1 au y Γ2)(ht:gK X t Γ2 z Γ3)(hx:jQ x=true)(hy:jQ y=true)(h1:Vt [a,b,t] X.env=(false,eval a X.env)::Vt [b,t] X.env:=by rfl)(h2:Vt [b,t] X.env=(false,eval b X.env)::Vt [t] X.env:=by rfl)(h3:dk X t []:=by rfl):gK X (.List [a,b,t] pos) Z (.lst [x,y,z]) Γ3:=λσ H0 R0 H R E Q q=>by
 refine eS (yp (aK aO (aK aO (aK aO br h3) h2) h1)) (ha σ H0 R0 H R E _ λv1 H1 R1 E1 s1 e1=>hb σ H0 R0 H1 R1 E1 _ λv2 H2 R2 E2 s2 e2=>ht σ H0 R0 H2 R2 E2 _ λv3 fp H3 R3 E3 s3 t3 nd k=>⟨by show 3<=Vn;decide,λp hp=>?_⟩);let⟨t4,hn⟩:=t3.fresh (o:=.lst [v1,v2,v3]) hp;refine q (.ref p) (p::fp) _ R3 (E3.grow (Ext.ee E3.sub hp _)) `bM ?_ (S5.mpr ⟨hn,nd⟩) λc hc=>?_
 ·have:=bE.cons (mT (H':=upd H3 p (.lst [v1,v2,v3])) e1 hx) (bE.cons (mT (H':=upd H3 p (.lst [v1,v2,v3])) e2 hy) (bE.cons t4 .nil));rw[S3,To,To] at this;exact .lst aG this (by show 3<=Vn;decide)
 ·obtain rfl | hc:=SF.mp hc
  ·exact⟨E3.sub.free hp,E3.ext.h.free hp,E3.off hp⟩
  ·exact k c hc
theorem Bz (j:Nat){a b t:Expr}{n:Str}{u:PV}{f0:RY}(ha:EV X a Z au x Γ1)(hb:EV X b Γ1 au y Γ2)(ht:gK X t Γ2 z Γ3)(hj:Γ2[j]?∣(.ob (fV u f0)))(hj3:Γ3[j]?∣(.ob (fV u f0)))(hx:jQ x=true)(hy:jQ y=true)(hN:autoParam (At X j n) cg)(h1:Vt [a,b,.Name n p1,t] X.env=(false,eval a X.env)::Vt [b,.Name n p1,t] X.env:=by rfl)(h2:Vt [b,.Name n p1,t] X.env=(false,eval b X.env)::Vt [.Name n p1,t] X.env:=by rfl)(h3:Vt [.Name n p1,t] X.env=(false,eval (.Name n p1) X.env)::Vt [t] X.env:=by rfl)(h4:dk X t []:=by rfl):gK X (.List [a,b,.Name n p1,t] pos) Z (.lst [x,y,u,z]) (Γ3.set j .no):=λσ H0 R0 H R E Q q=>by
 refine eS (yp (aK aO (aK aO (aK (aX hN) (aK aO br h4) h3) h2) h1)) (ha σ H0 R0 H R E _ λv1 H1 R1 E1 s1 e1=>hb σ H0 R0 H1 R1 E1 _ λv2 H2 R2 E2 s2 e2=>?_);let⟨⟨v0,ev0,_⟩,_⟩:=E2.AE hj;refine⟨v0,am ev0,ht σ H0 R0 H2 R2 E2 _ λv3 fp H3 R3 E3 s3 t3 nd k=>⟨by show 4<=Vn;decide,λp hp=>?_⟩⟩;let⟨⟨v0',ev0',t0⟩,nd0,E4,k0⟩:=E3.AE hj3;rw[ev0] at ev0';cases ev0'
 let⟨t4,hn⟩:=t3.fresh (o:=.lst [v1,v2,v0,v3]) hp;let⟨t5,hn5⟩:=t0.fresh (o:=.lst [v1,v2,v0,v3]) hp;let dj:∀c∈f0,c∉fp:=λc hc w=>(k c w).2.2 j _ hj3 hc;refine q (.ref p) (p::(f0++fp)) _ R3 (E4.grow (Ext.ee E4.sub hp _)) `bM ?_ (S5.mpr ⟨λw=>(SK.mp w).elim hn5 hn,Tf.mpr ⟨nd0,nd,λc hc d w e=>dj c hc (e▸w)⟩⟩) λc hc=>?_
 ·have:=bE.cons (mT (H':=upd H3 p (.lst [v1,v2,v0,v3])) e1 hx) (bE.cons (mT (H':=upd H3 p (.lst [v1,v2,v0,v3])) e2 hy) (bE.cons t5 (bE.cons t4 .nil)));rw[S3,To,To] at this;exact .lst aG this (by show 4<=Vn;decide)
 ·obtain rfl | hc:=SF.mp hc
  ·exact⟨E4.sub.free hp,E4.ext.h.free hp,E4.off hp⟩
  ·obtain hc | hc:=SK.mp hc
   ·exact k0 c hc
   ·refine⟨(k c hc).1,(k c hc).2.1,λi e qi w=>?_⟩;obtain⟨rfl,rfl,_⟩ | ⟨hi,q1⟩:=set_at qi
    ·cases w
    ·exact(k c hc).2.2 i e q1 w
theorem iT (i:Nat){xs:`x}{P:List α->PV->Prop}(he:gK X e Z y Γ1)(hΓ1:Γ1[i]?∣(.ob `aN))(h:P xs y):W1 X (.Return (some e) pos) Z N (vx X.K a r λxs'=>uh (P xs')):=λσ H0 R0 H R E D dn dr=>
 sS (jm aO) (he σ H0 R0 H R E _ λv fp H1 R1 E1 s1 t nd k=>by
  let⟨ea,⟨vs,ha,pp⟩,hR⟩:=cn (E1.ent i _ hΓ1);exact dr v H1 R1 E1.ext ⟨vs,xs,ha,hR,pp,y,fp,t,nd,λb hb=>⟨(k b hb).2.1,(k b hb).1⟩,h⟩)
theorem oG (i:Nat){x:Str}{fp:RY}(he:gK X e Z z Γ1)(hΓ:Z[i]?∣(.ob (fV (.lst xs) fp)))(hΓ1:Γ1[i]?∣(.ob (fV (.lst xs) fp)))(hz:xs.length<Vn)(h:∀fp',N (Γ1.set i (.ob (fV (.lst (xs++[z])) fp'))))(hN:`p)(YH:Vv `I none pos.line X.env=pure false:=by rfl)(Yd:fA X `m "append":=by rfl)(Yt:nk X cp [e]:=by rfl)(Yc:`ae=true:=by rfl)(hs:dk X e []:=by rfl):W1 X (.Expr `I pos) Z N T:=λσ H0 R0 H R E D dn dr=>by
 let⟨⟨v0,ea,t0,_⟩,_⟩:=E.ent i _ hΓ;cases t0 with
 | @lst a vs0 _ f0 ha0 tt0 z0=>
 refine sS (eD `ao YH) ?_;refine⟨.ref a,am ea,.inl ⟨rfl,vs0,bu.of ha0⟩,he σ H0 R0 H R E _ λv fpz H1 R1 E1 s1 t nd k=>?_⟩;let⟨⟨v1,ea1,t1,nd1⟩,hR1⟩:=E1.ent i _ hΓ1;rw[ea] at ea1;cases ea1
 cases t1 with
 | @lst _ vs _ _ ha tt zz=>
 refine⟨a,vs,v,rfl,rfl,ha,by rw[tt.len];exact hz,?_⟩;let⟨na,nd2⟩:=S5.mp nd1;let nz:a∉fpz:=λw=>(k a w).2.2 i _ hΓ1 Sz;let dj:∀c∈f0,c∉fpz:=λc hc w=>(k c w).2.2 i _ hΓ1 (Sv _ hc);let tn:cP (upd H1 a (.lst (vs++[v]))) (.ref a) (.lst (xs++[z])) (a::(f0++fpz)):=by
  have:=bE.app (tt.loc (H':=upd H1 a (.lst (vs++[v]))) λc hc=>aJ λe=>na (e▸hc)) (bE.cons (t.loc (H':=upd H1 a (.lst (vs++[v]))) λc hc=>aJ λe=>nz (e▸hc)) .nil);rw[S3] at this;exact .lst aG this (by rw[Sx,S8];exact hz)
 refine dn σ _ R1 _ (E1.oR (en:=.ob (fV (.lst (xs++[z])) (a::(f0++fpz)))) hΓ1 (a:=a) Sz ?_ λb hb=>?_) s1 (h _)
 ·rw[ea];refine⟨⟨_,rfl,tn,S5.mpr ⟨λw=>(SK.mp w).elim na nz,Tf.mpr ⟨nd2,nd,λc hc d w e=>dj c hc (e▸w)⟩⟩⟩,λb hb=>?_⟩;obtain rfl | hb:=SF.mp hb
  ·exact hR1 _ Sz
  ·obtain hb | hb:=SK.mp hb
   ·exact hR1 _ (Sv _ hb)
   ·exact(k b hb).1
 ·obtain rfl | hb:=SF.mp hb
  ·exact .inl Sz
  ·obtain hb | hb:=SK.mp hb
   ·exact .inl (Sv _ hb)
   ·exact .inr ⟨(k b hb).2.1,(k b hb).2.2⟩
theorem EU {fp:RY}(hΓ:Z[i]?∣(.ob (fV x fp)))(σ:St)(H0 R0 H R:Hp)(E:`aS):ar X.K σ H H H H ((Z.map og).set i (.im au x)):=by
 let⟨⟨v,ea,t,_⟩,_⟩:=E.ent i _ hΓ;exact E.YY.lW (i:=i) (e0:=.no) (by rw[Sw,hΓ];rfl) ⟨v,ea,t.rX⟩ λb w=>by cases w
end
abbrev PT:=List PV×Addr×RY
abbrev cC (p:PT):RY:=p.2.1::p.2.2
abbrev dE (ps:List PT):RY:=ps.flatMap cC
structure kf (H:Hp)(a:Addr)(ps:List PT):Prop where
 hd:H a∣(.lst (ps.map λp=>.ref p.2.1))
 pt:∀(n:Nat)(p:PT),ps[n]?∣p->cP H (.ref p.2.1) (.lst p.1) (cC p)/\(cC p).Nodup/\a∉cC p
 dj:∀(n m:Nat)(p q:PT),ps[n]?∣p->ps[m]?∣q->∀c∈cC p,c∈cC q->n=m
variable {ps:List PT}
theorem bz {c:Addr}:c∈dE ps↔∃(n:Nat)(p:PT),ps[n]?∣p/\c∈cC p:=by
 rw[Ue];constructor
 ·rintro⟨p,hp,hc⟩;let⟨n,hn⟩:=SO.mp hp;exact⟨n,p,hn,hc⟩
 ·rintro⟨n,p,hn,hc⟩;exact⟨p,SD hn,hc⟩
def bp (a:Addr)(ps:List PT):ou where
 fp:=a::dE ps
 R:=λ_ H _ v=>v= .ref a/\kf H a ps
 loc:=λh _ ⟨e,k⟩=>⟨e,(h _ Sz).trans k.hd,λn p hn=>⟨(k.pt n p hn).1.loc λc hc=>h c (Sv _ (bz.mpr ⟨n,p,hn,hc⟩)),(k.pt n p hn).2⟩,k.dj⟩
 has:=λ⟨e,k⟩ c hc=>by
  obtain rfl | hc:=SF.mp hc
  ·rw[k.hd];simp
  ·let⟨n,p,hn,hc⟩:=bz.mp hc;exact(k.pt n p hn).1.has c hc
variable {n:Nat}{ys:`aP}{g:RY}{Y1:List Stmt}{q0:PT}{tp:Pos}
theorem ar.Ha {ys':`aP}{g':RY}(E:`y)(hΓ:`az)(hn:ps[n]?∣(ys,b,g))(t:cP (L2.upd H b (.lst ws)) (.ref b) (.lst ys') (b::g'))(nd:(b::g').Nodup)(hg:∀c∈g',c∈g∨(R c=none/\H0 c=none/\Off c σ Z)):ar K σ H0 R0 (L2.upd H b (.lst ws)) R (Z.set i (.ob (bp a (ps.set n (ys',b,g'))))):=by
 let⟨⟨v,ea,rfl,k⟩,hR⟩:=E.ent i _ hΓ;let nl:n<ps.length:=(Sn.mp hn).1;let bm:b∈dE ps:=bz.mpr ⟨n,_,hn,Sz⟩;let ab:a≠b:=λe=>(k.pt n _ hn).2.2 (by rw[e];exact Sz);let sp:∀(m:Nat)(q:PT),(ps.set n (ys',b,g'))[m]?∣q->(m=n/\q=(ys',b,g'))∨(m≠n/\ps[m]?∣q):=λm q h=>by
  by_cases e:n=m
  ·subst e;rw[SG nl] at h;exact .inl ⟨rfl,(Option.some.inj h).symm⟩
  ·rw[SX e] at h;exact .inr ⟨λz=>e z.symm,h⟩
 let old:∀c∈b::g',c∈dE ps∨(R c=none/\H0 c=none/\Off c σ Z):=λc hc=>by
  obtain rfl | hc:=SF.mp hc
  ·exact .inl bm
  ·exact(hg c hc).imp (λw=>bz.mpr ⟨n,_,hn,Sv _ w⟩) id
 let offa:∀{c:Addr},Off c σ Z->c∉(a::dE ps):=λh w=>h i _ hΓ w;let apart:∀(m:Nat)(q:PT),m≠n->ps[m]?∣q->∀c∈b::g',c∉cC q:=λm q hm hq c hc w=>by
  obtain rfl | hc:=SF.mp hc
  ·exact hm (k.dj m n q _ hq hn _ w Sz)
  ·obtain z | z:=hg c hc
   ·exact hm (k.dj m n q _ hq hn c w (Sv _ z))
   ·exact offa z.2.2 (Sv _ (bz.mpr ⟨m,q,hq,w⟩))
 refine E.oR (en:=.ob (bp a (ps.set n (ys',b,g')))) hΓ (a:=b) (Sv _ bm) ⟨⟨.ref a,ea,rfl,?_,λm q hq=>?_,λm1 m2 q1 q2 h1 h2 c c1 c2=>?_⟩,λc hc=>?_⟩ λc hc=>?_
 ·rw[aJ ab,k.hd];congr 2;refine Tr λm=>?_;rw[Sw,Sw];by_cases e:n=m
  ·subst e;rw[SG nl,hn];rfl
  ·rw[SX e]
 ·obtain⟨_,rfl⟩ | ⟨hm,hq⟩:=sp m q hq
  ·refine⟨t,nd,λw=>?_⟩;obtain e | w:=SF.mp w
   ·exact ab e
   ·obtain z | z:=hg a w
    ·exact(k.pt n _ hn).2.2 (Sv _ z)
    ·exact offa z.2.2 Sz
  ·let⟨t1,t2,t3⟩:=k.pt m q hq;exact⟨t1.loc λc hc=>aJ λe=>apart m q hm hq b Sz (e▸hc),t2,t3⟩
 ·obtain⟨e1,rfl⟩ | ⟨hm1,h1⟩:=sp m1 q1 h1
  ·obtain⟨e2,rfl⟩ | ⟨Z3,h2⟩:=sp m2 q2 h2
   ·rw[e1,e2]
   ·exact XS c2 (apart m2 q2 Z3 h2 c c1)
  ·obtain⟨e2,rfl⟩ | ⟨Z3,h2⟩:=sp m2 q2 h2
   ·exact XS c1 (apart m1 q1 hm1 h1 c c2)
   ·exact k.dj m1 m2 q1 q2 h1 h2 c c1 c2
 ·obtain rfl | hc:=SF.mp hc
  ·exact hR _ Sz
  ·let⟨m,q,hq,hc⟩:=bz.mp hc;obtain⟨_,rfl⟩ | ⟨_,hq⟩:=sp m q hq
   ·obtain z | z:=old c hc
    ·exact hR _ (Sv _ z)
    ·exact z.1
   ·exact hR _ (Sv _ (bz.mpr ⟨m,q,hq,hc⟩))
 ·obtain rfl | hc:=SF.mp hc
  ·exact .inl Sz
  ·let⟨m,q,hq,hc⟩:=bz.mp hc;obtain⟨_,rfl⟩ | ⟨_,hq⟩:=sp m q hq
   ·exact(old c hc).imp (λw=>Sv _ w) λz=>z.2
   ·exact .inl (Sv _ (bz.mpr ⟨m,q,hq,hc⟩))
theorem WS.Nx (i:Nat)(hΓ:Z[i]?∣(.mu r []))(h:∀a,WS X Y1 (Z.set i (.ob (bp a []))) N T):WS X Y1 Z N T:=λσ H0 R0 H R E D dn dr=>by
 let⟨a,vs,ea,ha,hR,pp⟩:=E.ent i _ hΓ;cases pp
 refine h a σ H0 R0 H R (E.tell hΓ (by rw[ea];exact⟨⟨_,rfl,rfl,ha,(λn p q=>by simp at q),(λn m p q h1=>by simp at h1)⟩,λb hb=>by rw[Su.mp hb];exact hR⟩) λb w=>?_) D dn dr;have:b=a:=Su.mp w;rw[this];exact cf.mpr ea
theorem Jj (i:Nat)(he:gK X e Z (.lst ys) Γ1)(hΓ:`az)(hΓ1:Γ1[i]?∣(.ob `F))(hz:ps.length<Vn)(h:∀b g,N (Γ1.set i (.ob (bp a (ps++[(ys,b,g)])))))(hN:`p)(YH:Vv `I none pos.line X.env=pure false:=by rfl)(Yd:fA X `m "append":=by rfl)(Yt:nk X cp [e]:=by rfl)(Yc:`ae=true:=by rfl)(hs:dk X e []:=by rfl):W1 X (.Expr `I pos) Z N T:=λσ H0 R0 H R E D dn dr=>by
 let⟨⟨v0,ea,rfl,k0⟩,_⟩:=E.ent i _ hΓ;refine sS (eD `ao YH) ?_;refine⟨.ref a,am ea,.inl ⟨rfl,_,bu.of k0.hd⟩,he σ H0 R0 H R E _ λv fpz H1 R1 E1 s1 t nd kz=>?_⟩;let⟨⟨v1,ea1,rfl,k⟩,hR1⟩:=E1.ent i _ hΓ1;cases t with
 | @lst b vs _ g hb tt zz=>
 refine⟨a,_,.ref b,rfl,rfl,k.hd,by rw[Ss];exact hz,?_⟩;let off:∀c∈b::g,c∉(a::dE ps):=λc hc w=>(kz c hc).2.2 i _ hΓ1 w;let sp:∀(m:Nat)(q:PT),(ps++[(ys,b,g)])[m]?∣q->(m=ps.length/\q=(ys,b,g))∨(m<ps.length/\ps[m]?∣q):=λm q hq=>by
  obtain z | z:=UP m ps.length
  ·rw[S0 z] at hq;exact .inr ⟨z,hq⟩
  ·rw[SV z] at hq;have:m-ps.length=0:=by
    have:=(Sn.mp hq).1;rw[S8] at this;cbv
   rw[this] at hq;exact .inl ⟨`a,by simpa using hq.symm⟩
 let tb:cP (upd H1 a (.lst ((ps.map λp=>V.ref p.2.1)++[.ref b]))) (.ref b) (.lst ys) (b::g):=(cP.lst hb tt zz).loc λc hc=>aJ λe=>off c hc (by rw[e];exact Sz);refine dn σ _ R1 _ (E1.oR (en:=.ob (bp a (ps++[(ys,b,g)]))) hΓ1 (a:=a) Sz ⟨⟨.ref a,ea1,rfl,?_,λm q hq=>?_,λm1 m2 q1 q2 h1 h2 c c1 c2=>?_⟩,λc hc=>?_⟩ λc hc=>?_) s1 (h b g)
 ·rw[aG,SN];rfl
 ·obtain⟨_,rfl⟩ | ⟨_,hq⟩:=sp m q hq
  ·exact⟨tb,nd,λw=>off a w Sz⟩
  ·let⟨t1,t2,t3⟩:=k.pt m q hq;exact⟨t1.loc λc hc=>aJ λe=>t3 (e▸hc),t2,t3⟩
 ·obtain⟨e1,rfl⟩ | ⟨_,h1⟩:=sp m1 q1 h1
  ·obtain⟨e2,rfl⟩ | ⟨_,h2⟩:=sp m2 q2 h2
   ·rw[e1,e2]
   ·exact XS (Sv _ (bz.mpr ⟨m2,q2,h2,c2⟩)) (off c c1)
  ·obtain⟨e2,rfl⟩ | ⟨_,h2⟩:=sp m2 q2 h2
   ·exact XS (Sv _ (bz.mpr ⟨m1,q1,h1,c1⟩)) (off c c2)
   ·exact k.dj m1 m2 q1 q2 h1 h2 c c1 c2
 ·obtain rfl | hc:=SF.mp hc
  ·exact hR1 _ Sz
  ·let⟨m,q,hq,hc⟩:=bz.mp hc;obtain⟨_,rfl⟩ | ⟨_,hq⟩:=sp m q hq
   ·exact(kz c hc).1
   ·exact hR1 _ (Sv _ (bz.mpr ⟨m,q,hq,hc⟩))
 ·obtain rfl | hc:=SF.mp hc
  ·exact .inl Sz
  ·let⟨m,q,hq,hc⟩:=bz.mp hc;obtain⟨_,rfl⟩ | ⟨_,hq⟩:=sp m q hq
   ·exact .inr (kz c hc).2
   ·exact .inl (Sv _ (bz.mpr ⟨m,q,hq,hc⟩))
theorem Bs (i j:Nat){b:Expr}{p:Pos}{k:Int}{q:PT}(hb:EV X b Z ah k Γ1)(hΓ:`az)(hΓ1:Γ1[i]?∣(.ob `F))(hk:gm ps.length k∣n)(hq:ps[n]?∣q)(h:N (Γ1.set j (.im dG q.2.1)))(hNx:`p)(hsx:dU b:=by exact λ_ _=>rfl)(hN:X.N.Nodup:=by first | assumption | decide)(hi:X.N[j]?∣y:=by rfl)(hx:`bk)(hs:Vv (.Subscript `ah b p2) (some (.Name y p1)) pos.line X.env=pure false:=by rfl)(hf:autoParam (fU X y) Zj):
 W1 X (.Assign [.Name y p1] (.Subscript `ah b p2) pos) Z N T:=λσ H0 R0 H R E D dn dr=>by
 let⟨⟨v,ea,rfl,k0⟩,hR⟩:=E.ent i _ hΓ;refine sS (lr hN hi hx aO hs hf) (eS (ip gT (aX hNx) aO hsx) ⟨.ref a,am ea,hb σ H0 R0 H R E _ λu H2 R2 E2 s2 e2=>?_⟩);let⟨⟨v,ea2,rfl,k2⟩,hR2⟩:=E2.ent i _ hΓ1;refine⟨a,_,k,.ref q.2.1,rfl,e2,bu.of k2.hd,?_,?_⟩
 ·let e:(ps.map λp=>V.ref p.2.1)=(ps.map λp=>p.2.1).map V.ref:=by rw[Tp];rfl
  rw[e];exact C6 (by rw[Ss];exact hk) (by rw[Sw,hq];rfl)
 exact dn _ H2 R2 _ (E2.set j (r:=dG) (x:=q.2.1) rfl) s2 h
theorem FG (i j:Nat){p:Pos}(hm:X.mg "len"=none)(hΓ:`az)(hj:Z[j]?∣.im dG q0.2.1)(hq:ps[n]?∣q0)(hN:autoParam (At X j y) cg)(hs:fL X (.Name y p1):=by rfl)(hg:Gl X "len":=by rfl):EV X (.Call (.Name "len" p) [.Name y p1] [] pos) Z ah (q0.1.length:Int) Z:=λσ H0 R0 H R E Q q=>by
 let⟨⟨v,ea,rfl,k⟩,hR⟩:=E.ent i _ hΓ;let⟨v0,e0,Zz⟩:=E.ent j _ hj;cases Zz
 cases (k.pt n q0 hq).1 with
 | @lst _ vs _ _ hb tt zz=>
 refine eS (eX gN hg hm VJ (aK (aX hN) br hs) `c `c hs) ⟨.ref q0.2.1,am e0,_,_,rfl,.inl (bu.of hb),?_⟩;rw[tt.len];exact q _ H R E `Z rfl
theorem bE.ins {H:Hp}{v:V}{y:PV}{fy:RY}(h:cP H v y fy):∀(k:Nat){vs:`K}{xs:`aP}{f:RY},bE H vs xs f->∃f1 f2,f=f1++f2/\bE H (cz k v vs) (cz k y xs) (f1++(fy++f2))
 | 0,vs,xs,f,t=>⟨[],f,rfl,(bE.cons h t:bE H (v::vs) (y::xs) (fy++f))⟩
 | k+1,_,_,_,.nil=>⟨[],[],rfl,(bE.cons h .nil:bE H [v] [y] (fy++[]))⟩
 | k+1,_,_,_,.cons (f:=f0) q t=>by
   let⟨f1,f2,e,t'⟩:=bE.ins h k t;refine⟨f0++f1,f2,by rw[e,SR],?_⟩;rw[SR];exact .cons q t'
theorem lX {α:Type}(y:α):∀(k:Nat)(xs:`x),(cz k y xs).length=xs.length+1
 | 0,xs=>rfl
 | k+1,[]=>rfl
 | k+1,x::xs=>by show(cz k y xs).length+1=_;rw[lX y k xs];rfl
theorem Ht (i j:Nat){e1 e2:Expr}{y:PV}{k:Int}(h1:EV X e1 Z ah k Γ1)(h2:gK X e2 Γ1 y Γ2)(hΓ:`az)(hj:Z[j]?∣.im dG q0.2.1)(hq:ps[n]?∣q0)(hΓ2:Γ2[i]?∣(.ob `F))(k0:0<=k)(k1:k<=(q0.1.length:Int))(hz:q0.1.length<Vn)(h:∀g,N (Γ2.set i (.ob (bp a (ps.set n (cz k.toNat y q0.1,q0.2.1,g))))))(hN:autoParam (At X j x) cg)(YH:Vv (.Call (.Attribute `m "insert" ap) [e1,e2] [] cp) none pos.line X.env=pure false:=by rfl)(Yd:fA X `m "insert":=by rfl)(Yt:nk X cp [e1,e2]:=by rfl)(Yc:`ae=true:=by rfl)(hs:Vt [e1,e2] X.env=(false,eval e1 X.env)::Vt [e2] X.env:=by rfl)(YE:dk X e2 []:=by rfl)(Yo:eV X cp [e2]:=by rfl):
 W1 X (.Expr (.Call (.Attribute `m "insert" ap) [e1,e2] [] cp) pos) Z N T:=λσ H0 R0 H R E D dn dr=>by
 let⟨⟨v,ea,rfl,kk⟩,hR⟩:=E.ent i _ hΓ;let⟨v0,e0,Zz⟩:=E.ent j _ hj;cases Zz
 let⟨ys,b,g⟩:=q0;cases (kk.pt n _ hq).1 with
 | @lst _ vs0 _ _ hb0 tt0 zz0=>
 refine sS (eD (ie WW PySem.F.slot_list_insert PySem.F.type_list_insert DF (aX hN) (aK aO (aK aO br YE) hs) Yd Yt Yc hs Yo) YH) ?_;refine⟨.ref b,am e0,.inl ⟨rfl,_,bu.of hb0⟩,h1 σ H0 R0 H R E _ λv1 H1 R1 E1 s1 r1=>h2 σ H0 R0 H1 R1 E1 _ λv2 fy H2 R2 E2 s2 t2 ndy ky=>?_⟩;cases r1
 let⟨⟨v,ea2,rfl,k2⟩,hR2⟩:=E2.ent i _ hΓ2;let⟨tq,ndq,naq⟩:=k2.pt n _ hq;cases tq with
 | @lst _ vs _ _ hb tt zz=>
 let⟨nb,ndg⟩:=S5.mp ndq;refine⟨b,vs,k,v2,rfl,rfl,hb,k0,by rw[tt.len];exact k1,by rw[tt.len];exact hz,?_⟩;let offy:∀c∈fy,c∉b::g:=λc hc w=>(ky c hc).2.2 i _ hΓ2 (Sv _ (bz.mpr ⟨n,_,hq,w⟩));let⟨f1,f2,ef,ti⟩:=bE.ins (t2.loc (H':=upd H2 b (.lst (cz k.toNat v2 vs))) λc hc=>aJ λe=>offy c hc (by rw[e];exact Sz)) k.toNat (tt.loc (H':=upd H2 b (.lst (cz k.toNat v2 vs))) λc hc=>aJ λe=>nb (e▸hc));let ef:g=f1++f2:=ef;let nd':(f1++(fy++f2)).Nodup:=by
  rw[ef] at ndg;let⟨n1,n2,n3⟩:=Tf.mp ndg;refine Tf.mpr ⟨n1,Tf.mpr ⟨ndy,n2,λc hc d Zb e=>offy c hc (by rw[e];exact Sv _ (by rw[ef];exact SH _ Zb))⟩,λc hc d Zb e=>?_⟩;obtain Zb | Zb:=SK.mp Zb
  ·exact offy d Zb (by rw[← e];exact Sv _ (by rw[ef];exact SS _ hc))
  ·exact n3 c hc d Zb e
 refine dn σ _ R2 _ (E2.Ha hΓ2 hq (.lst aG ti (by rw[lX];exact hz)) (S5.mpr ⟨λw=>?_,nd'⟩) λc hc=>?_) `E (h _)
 ·obtain w | w:=SK.mp w
  ·exact nb (by show b∈g;rw[ef];exact SS _ w)
  ·obtain w | w:=SK.mp w
   ·exact offy b w Sz
   ·exact nb (by show b∈g;rw[ef];exact SH _ w)
 ·obtain w | w:=SK.mp hc
  ·exact .inl (by rw[ef];exact SS _ w)
  ·obtain w | w:=SK.mp w
   ·exact .inr (ky c w)
   ·exact .inl (by rw[ef];exact SH _ w)
theorem qZ {H:Hp}{K:Xt}:∀{ps:List PT},(∀p∈ps,cP H (.ref p.2.1) (.lst p.1) (cC p))->PySem.Paired ((ae au).R K H) (ps.map λp=>V.ref p.2.1) (ps.map (·.1))
 | [],_=>.nil
 | p::ps,h=>.cons (by
    cases h p Sz with
    | @lst _ vs _ _ hb tt zz=>exact⟨_,vs,rfl,hb,tt.rX.pair,zz⟩) (qZ λq hq=>h q (Sv _ hq))
theorem G8 (hΓ:`az)(hz:ps.length<=Vn)(σ:St)(H0 R0 H R:Hp)(E:`aS):ar X.K σ H H H H ((Z.map og).set i (.im (ae (ae au)) (ps.map (·.1)))):=by
 let⟨⟨v,ea,rfl,k⟩,_⟩:=E.ent i _ hΓ;refine E.YY.lW (i:=i) (e0:=.no) (by rw[Sw,hΓ];rfl) ⟨_,ea,a,_,rfl,k.hd,qZ λp hp=>?_,by rw[Ss];exact hz⟩ λb w=>by cases w
 let⟨n,hn⟩:=SO.mp hp;exact(k.pt n p hn).1
noncomputable def Eu (K:Xt)(r:Rep α)(P:α->List (List PV)->Prop):RT:=λH0 v H' R'=>∃p v1 a y ps,v= .ref p/\R' p∣(.tup [v1,.ref a])/\r.R K R' v1 y/\kf H' a ps/\(∀b∈a::dE ps,H0 b=none/\R' b=none)/\P y (ps.map (·.1))
theorem Jd (i:Nat){z:Str}{k:Nat}{y:α}{P:α->List (List PV)->Prop}(he:EV X e Z r y Γ1)(hΓ1:Γ1[i]?∣(.ob `F))(h:P y (ps.map (·.1)))(hN:autoParam (At X i z) cg)(h1:Vt [e,.Name z p1] X.env=(false,eval e X.env)::Vt [.Name z p1] X.env:=by rfl)(h2:dk X (.Name z p1) []:=by rfl):W1 X (.Return (some (.Tuple [e,.Name z p1] k tp)) pos) Z N (Eu X.K r P):=λσ H0 R0 H R E D dn dr=>by
 refine sS (jm (xK (aK aO (aK (aX hN) br h2) h1))) `V;let⟨⟨v0,ea,rfl,kk⟩,hR⟩:=E1.ent i _ hΓ1;refine⟨.ref a,am ea,by show 2<=Vn;decide,λp hp=>?_⟩;let x:=Ext.fresh E1.sub hp (.tup [v,.ref a]);let E2:=E1.grow x;let nep:∀b∈a::dE ps,b≠p:=λb hb e=>by
  have:=(bp a ps).has (K:=X.K) (R0:=R1) ⟨rfl,kk⟩ b hb;rw[e,hp] at this;exact this rfl
 refine dr _ _ _ E2.ext ⟨p,v,a,y,ps,rfl,aG,r.mono x.r e1,?_,λb hb=>⟨E1.nw i _ b hΓ1 hb,?_⟩,h⟩
 ·exact((bp a ps).loc (K:=X.K) (R0:=R1) (R':=R1) (λb hb=>aJ (nep b hb)) `Z ⟨rfl,kk⟩).2
 ·rw[aJ (nep b hb)];exact hR b hb
theorem Hy (i1 i2:Nat){S:c9}{f x1 x2:Str}{k:Nat}{p:Pos}{ps:List Pk}{P:α->List (List PV)->Prop}(C:aD X.prog X.w X.K X.mg X.base f n (aP S X.K))(hr:bH n X.A)(ha:HA X (e::es) Z ps Γ1)(hS:S X.K ps (Eu X.K r P))(Yi:i1≠i2)(h:∀a y qs,P y (qs.map (·.1))->N ((Γ1.set i1 (.im r y)).set i2 (.ob (bp a qs))))(hg:Gl X f:=by rfl)(Yz:YV f:=by decide)(he:dk X e es:=by rfl)(Yo:eV X cp es:=by rfl)(hc:X.calm=true:=by rfl)(hN:X.N.Nodup:=by first | assumption | decide)(h1:X.N[i1]?∣x1:=by rfl)(l1:autoParam (Loc X.env.scope x1) Zk)(f1:autoParam (fU X x1) Zj)(h2:X.N[i2]?∣x2:=by rfl)(l2:autoParam (Loc X.env.scope x2) Zk)(f2:autoParam (fU X x2) Zj)(hs:We [.Tuple [.Name x1 p1,.Name x2 p2] k tp] (.Call (.Name f p) (e::es) [] cp) pos.line X.env=pure false:=by rfl)(hw:Wf [.Tuple [.Name x1 p1,.Name x2 p2] k tp] (.Call (.Name f p) (e::es) [] cp) X.env=pure none:=by rfl)(ho:(VS [.Tuple [.Name x1 p1,.Name x2 p2] k tp] X.env).map (·.2)=[VT (.Tuple [.Name x1 p1,.Name x2 p2] k tp) X.env]:=by rfl):W1 X (.Assign [.Tuple [.Name x1 p1,.Name x2 p2] k tp] (.Call (.Name f p) (e::es) [] cp) pos) Z N T:=λσ H0 R0 H R E D dn dr=>by
 refine sS (xR aO (xv hc (f7 (gA hN h1 l1 f1) (f7 (gA hN h2 l2 f2) uJ))) hs hw ho) ?_;refine kU C hr ha hS E (λH1 R1 v H' R' E1 s1 xx t=>?_) hg Yz he Yo;let⟨q,v1,a,y,qs,rfl,hq,r1,kk,fr,hP⟩:=t;let E2:=E1.grow xx;refine⟨q,_,rfl,dY.of (E2.sub _ _ hq),rfl,_,_,rfl,_,_,rfl,rfl,?_⟩;refine dn _ H' R' _ (ar.setG (E2.set i1 (r:=r) r1) i2 (en:=.ob (bp a qs)) ⟨⟨_,rfl,rfl,kk⟩,λb hb=>(fr b hb).2⟩ (λb hb=>E1.ext.h.free (fr b hb).1) λb hb j e hj qj w=>?_) `bA (h a y qs hP);obtain⟨rfl,rfl,_⟩ | ⟨hj1,q1⟩:=set_at qj
 ·cases w
 ·rw[SX (U8 hj1)] at w;exact E1.off (fr b hb).1 j e q1 w
theorem zX:∀{ps:List PT},(dE ps).Nodup->(∀(n:Nat)(p:PT),ps[n]?∣p->(cC p).Nodup)/\∀(n m:Nat)(p q:PT),ps[n]?∣p->ps[m]?∣q->∀c∈cC p,c∈cC q->n=m
 | [],_=>⟨λn p h=>by simp at h,λn m p q h=>by simp at h⟩
 | r::ps,h=>by
   rw[show dE (r::ps)=cC r++dE ps from TB] at h;let⟨h1,h2,h3⟩:=Tf.mp h;let⟨i1,i2⟩:=zX h2;refine⟨λn p hn=>?_,λn m p q hn hm c hc hd=>?_⟩
   ·cases n with
    | zero=>have:r=p:= ~~~hn
            rw[← this];exact h1
    | succ n=>exact i1 n p (~~~hn)
   ·cases n with
    | zero=>
      let e1:r=p:= ~~~hn
      cases m with
      | zero=>rfl
      | succ m=>exact XS rfl (h3 c (e1▸hc) c (bz.mpr ⟨m,q,by simpa using hm,hd⟩))
    | succ n=>cases m with
      | zero=>
        let e1:r=q:= ~~~hm
        exact XS rfl (h3 c (e1▸hd) c (bz.mpr ⟨n,p,by simpa using hn,hc⟩))
      | succ m=>rw[i2 n m p q (~~~hn) (~~~hm) c hc hd]
theorem zA:∀{ps:List PT},(∀(n:Nat)(p:PT),ps[n]?∣p->(cC p).Nodup)->(∀(n m:Nat)(p q:PT),ps[n]?∣p->ps[m]?∣q->∀c∈cC p,c∈cC q->n=m)->(dE ps).Nodup
 | [],_,_=>T9
 | r::ps,h,k=>by
   rw[show dE (r::ps)=cC r++dE ps from TB];refine Tf.mpr ⟨h 0 r rfl,zA (λn p hn=>h (n+1) p (~~~hn)) λn m p q hn hm c hc hd=>?_,λc hc d hd e=>?_⟩
   ·have:=k (n+1) (m+1) p q (~~~hn) (~~~hm) c hc hd;cbv
   ·subst e;let⟨n,p,hn,hp⟩:=bz.mp hd;exact XS (k 0 (n+1) r p rfl (~~~hn) c hc hp) `a
theorem bE.parts:∀{vs:`K}{YD:List (List PV)}{g:RY},bE H vs (YD.map PV.lst) g->∃ps:List PT,vs=(ps.map λp=>.ref p.2.1)/\ps.map (·.1)=YD/\g=dE ps/\∀p∈ps,cP H (.ref p.2.1) (.lst p.1) (cC p)
 | _,[],_,.nil=>⟨[],rfl,rfl,rfl,λp h=>by cases h⟩
 | _,xs::YD,_,.cons q t=>by
   let⟨ps,h1,h2,h3,h4⟩:=bE.parts t;cases q with
   | @lst b vs _ f hb tt zz=>
   refine⟨(xs,b,f)::ps,by rw[h1];rfl,by rw[Ta,h2],by rw[h3];rfl,λp hp=>?_⟩;obtain rfl | hp:=SF.mp hp
   ·exact .lst hb tt zz
   ·exact h4 p hp
theorem zP {H:Hp}:∀{ps:List PT},(∀p∈ps,cP H (.ref p.2.1) (.lst p.1) (cC p))->bE H (ps.map λp=>.ref p.2.1) ((ps.map (·.1)).map PV.lst) (dE ps)
 | [],_=>.nil
 | p::ps,h=>bE.cons (h p Sz) (zP λq hq=>h q (Sv _ hq))
theorem cP.pl {YD:List (List PV)}(h:cP H (.ref b) (.lst (YD.map PV.lst)) (b::g))(nd:(b::g).Nodup):∃ps:List PT,kf H b ps/\ps.map (·.1)=YD/\g=dE ps:=by
 cases h with
 | @lst _ vs _ _ hb tt zz=>
 let⟨ps,h1,h2,h3,h4⟩:=tt.parts;let⟨n1,n2⟩:=S5.mp nd;rw[h3] at n1 n2;let⟨k1,k2⟩:=zX n2;exact⟨ps,⟨by rw[hb,h1],λn p hn=>⟨h4 p (SD hn),k1 n p hn,λw=>n1 (bz.mpr ⟨n,p,hn,w⟩)⟩,k2⟩,h2,h3⟩
theorem kf.tpv (h:kf H b ps)(hz:ps.length<=Vn):cP H (.ref b) (.lst ((ps.map (·.1)).map PV.lst)) (b::dE ps)/\(b::dE ps).Nodup:=by
 refine⟨.lst h.hd (zP λp hp=>?_) (by rw[Ss,Ss];exact hz),S5.mpr ⟨λw=>?_,zA (λn p hn=>(h.pt n p hn).2.1) h.dj⟩⟩
 ·let⟨n,hn⟩:=SO.mp hp;exact(h.pt n p hn).1
 ·let⟨n,p,hn,hp⟩:=bz.mp w;exact(h.pt n p hn).2.2 hp
theorem bE.sub:∀{vs:`K}{xs:`aP}{f:RY}{m:Nat}{zs:`aP},bE H vs xs f->xs[m]?∣.lst zs->∃b g f1 f2,vs[m]?∣.ref b/\f=f1++((b::g)++f2)/\cP H (.ref b) (.lst zs) (b::g)/\∀(H':Hp)(zs':`aP),(∀d∈f1++f2,H' d=H d)->cP H' (.ref b) (.lst zs') (b::g)->bE H' vs (xs.set m (.lst zs')) f
 | _,_,_,m,zs,.nil,h=>by simp at h
 | _,_,_,0,zs,.cons (x:=x0) (f:=f) (g:=g) (vs:=vs) (xs:=xs) q t,h=>by
   let e:x0=PV.lst zs:= ~~~h
   subst e;cases q with
   | @lst b ws _ f hb tt zz=>
   refine⟨b,f,[],g,rfl,rfl,.lst hb tt zz,λH' zs' hk tn=>?_⟩;exact bE.cons tn (t.loc λd hd=>hk d hd)
 | _,_,_,m+1,zs,.cons (f:=f) (g:=g) (vs:=vs) (xs:=xs) q t,h=>by
   let⟨b,g',f1,f2,h1,h2,h3,h4⟩:=bE.sub (m:=m) t (~~~h);refine⟨b,g',f++f1,f2,by simpa using h1,by rw[h2,SR],h3,λH' zs' hk tn=>?_⟩;rw[List.set_cons_succ];exact bE.cons (q.loc λd hd=>hk d (SS _ (SS _ hd))) (h4 H' zs' (λd hd=>hk d (by
    obtain w | w:=SK.mp hd
    ·exact SS _ (SH _ w)
    ·exact SH _ w)) tn)
variable {D:RY}{tg:Expr}
theorem ar.N4 {l:Nat}{B' C C':ou}(E:`y)(hil:i≠l)(hi:Z[i]?∣.ob B)(hl:Z[l]?∣.ob C)(hD:∀d∈D,d∈B.fp∨d∈C.fp)(x:Ext (cS H D) R H' R')(hB:(Ent.ob B').ok K H' R' (σ[i]?).join)(hC:(Ent.ob C').ok K H' R' (σ[l]?).join)(fB:∀b∈B'.fp,b∈B.fp)(fC:∀b∈C'.fp,b∈C.fp):ar K σ H0 R0 H' R' ((Z.set i (.ob B')).set l (.ob C')):=by
 let out:∀{b:Addr},H0 b≠none->b∉D:=λ{b} h e=>(hD b e).elim (λw=>h (E.nw i _ b hi w)) λw=>h (E.nw l _ b hl w);let apart:∀(j:Nat)(e:Ent),j≠i->j≠l->Z[j]?∣e->∀b∈e.fp (σ[j]?).join,b∉D:=λj e hj hj' qj b hb w=>(hD b w).elim (λz=>hj (E.ds j i e _ b qj hi hb z)) λz=>hj' (E.ds j l e _ b qj hl hb z);let key:∀(j:Nat)(e:Ent),((Z.set i (.ob B')).set l (.ob C'))[j]?∣e->(j=l/\e= .ob C')∨(j=i/\e= .ob B')∨(j≠i/\j≠l/\Z[j]?∣e):=λj e q=>by
  obtain⟨rfl,rfl,_⟩ | ⟨hj,q1⟩:=set_at q
  ·exact .inl ⟨rfl,rfl⟩
  ·obtain⟨rfl,rfl,_⟩ | ⟨hj',q2⟩:=set_at q1
   ·exact .inr (.inl ⟨rfl,rfl⟩)
   ·exact .inr (.inr ⟨hj',hj,q2⟩)
 let own:∀(j:Nat)(e:Ent),((Z.set i (.ob B')).set l (.ob C'))[j]?∣e->∃e0,Z[j]?∣e0/\∀b∈e.fp (σ[j]?).join,b∈e0.fp (σ[j]?).join:=λj e q=>by
  obtain⟨rfl,rfl⟩ | ⟨rfl,rfl⟩ | ⟨_,_,q1⟩:=key j e q
  ·exact⟨_,hl,fC⟩
  ·exact⟨_,hi,fB⟩
  ·exact⟨e,q1,λb hb=>hb⟩
 refine⟨⟨λb o q=>?_,E.ext.r.trans x.r,x.s,λb hb=>?_⟩,λj e q=>?_,λj e b q w=>?_,λj k e e' b q q' w w'=>?_,by rw[Tb,Tb];exact E.len⟩
 ·exact x.h b o (by rw[bY (out (by rw[q];exact Va _))];exact E.ext.h b o q)
 ·refine(x.old b ?_).trans (E.ext.old b hb);rw[bY (out hb)];exact av.some E.ext.h hb
 ·obtain⟨rfl,rfl⟩ | ⟨rfl,rfl⟩ | ⟨hj,hj',q1⟩:=key j e q
  ·exact hC
  ·exact hB
  ·let h1:=E.ent j e q1;refine h1.loc (λb hb=>?_) x.r λb hb=>?_
   ·cases e2:H b with
    | none=>exact XS e2 (Ent.fz h1 hb).1
    | some u=>exact x.h b u (by rw[bY (apart j e hj hj' q1 b hb)];exact e2)
   ·exact(x.old b (by rw[bY (apart j e hj hj' q1 b hb)];exact(Ent.fz h1 hb).1)).trans (Ent.fz h1 hb).2
 ·let⟨e0,q0,s0⟩:=own j e q;exact E.nw j e0 b q0 (s0 b w)
 ·let⟨e0,q0,s0⟩:=own j e q;let⟨e1,q1,s1⟩:=own k e' q';exact E.ds j k e0 e1 b q0 q1 (s0 b w) (s1 b w')
theorem zt (i:Nat){body:List Stmt}{bf:Addr->Ga->Ga}(I:Nat->Ga->Prop)(hΓ:`az)(hb:BG X tg dG bf)(h0:I 0 Z)(hI:∀k Z,I k Z->∃qs:List PT,Z[i]?∣(.ob (bp a qs))/\qs.map (·.2)=ps.map (·.2))(YJ:∀(k:Nat)(p:PT)(Z:Ga),ps[k]?∣p->I k Z->WS X body (bf p.2.1 Z) (I (k+1)) T)(Y5:∀Z:Ga,I ps.length Z->N Z)(hN:`p)(hc:X.calm=true:=by rfl)(hp:Wn `f X.A X.env X.xe:=by exact Wn.never)(hs:∀y,VA `m X.env y=pure y:=by intro _;rfl):W1 X (.For tg `m body [] pos) Z N T:=λσ H0 R0 H R E D dn dr=>by
 let⟨⟨v,ea,rfl,k0⟩,hR⟩:=E.ent i _ hΓ;let roots:∀qs:List PT,qs.map (·.2)=ps.map (·.2)->(qs.map λp=>V.ref p.2.1)=ps.map λp=>V.ref p.2.1:=λqs h=>by
  have:=congrArg (List.map λz:Addr×RY=>V.ref z.1) h;rwa [Tp,Tp] at this
 refine sS (De hp hc (yW (aX hN)) Qe g8 hs) ⟨.ref a,am ea,a,rfl,⟨_,bu.of k0.hd⟩,?_⟩;refine⟨λk m σ' H'=>m=ps.length-k/\k<=ps.length/\∃R' Γ',ar X.K σ' H0 R0 H' R' Γ'/\av R R'/\I k Γ',⟨_,rfl,UL _,R,Z,E,av.refl _,h0⟩,?_⟩;rintro k m σ' H' ⟨rfl,hle,R',Γ',E',s',hIk⟩;let⟨qs,hy,hqs⟩:=hI k Γ' hIk;let⟨⟨v,YC,rfl,k1⟩,_⟩:=E'.ent i _ hy;let YT:H' a∣(.lst (ps.map λp=>.ref p.2.1)):=by rw[k1.hd,roots qs hqs]
 by_cases YS:k<ps.length
 ·let hk:(ps.map λp=>V.ref p.2.1)[k]?∣(.ref ps[k].2.1):=by rw[Sw,So YS];rfl
  refine .inr ⟨⟨_,_,bu.of YT,hk⟩,λσ' H'=>k+1<=ps.length/\∃R' Γ',ar X.K σ' H0 R0 H' R' Γ'/\av R R'/\I (k+1) Γ',λσ2 H2 h=>⟨ps.length-(k+1),`a,rfl,h.1,h.2⟩,λv H2 hyl=>?_⟩;let⟨rfl,hyl⟩:=hyl;have:=hyl _ (bu.of YT);rw[hk] at this;cases this
  refine hb σ' H0 R0 H2 R' Γ' _ ps[k].2.1 E' rfl _ λσ2 E2=>?_;exact YJ k ps[k] Γ' (So YS) hIk σ2 H0 R0 H2 R' E2 _ (λσ3 H3 R3 Γ3 E3 s3 h3=>⟨YS,R3,Γ3,E3,s'.trans s3,h3⟩) dr
 ·let e:k=ps.length:=`a
  subst e;exact .inl ⟨⟨_,bu.of YT,by rw[Ss];exact UJ _⟩,dn σ' H' R' Γ' E' s' (Y5 Γ' hIk)⟩
theorem bE.at_ {H:Hp}:∀{vs:`K}{xs:`aP}{f:RY}{m:Nat}{y:PV},bE H vs xs f->xs[m]?∣y->∃v g,vs[m]?∣v/\cP H v y g
 | _,_,_,m,y,.nil,h=>by simp at h
 | _,_,_,0,y,.cons (x:=x0) q t,h=>by
   let e:x0=y:= ~~~h
   exact⟨_,_,rfl,e▸q⟩
 | _,_,_,m+1,y,.cons q t,h=>by
   let⟨v,g,h1,h2⟩:=bE.at_ (m:=m) t (~~~h);exact⟨v,g,by simpa using h1,h2⟩
theorem oU (i j:Nat){jc:Nat}{m:Nat}{y:PV}(hΓ:`az)(hj:Z[j]?∣.im dG q0.2.1)(hq:ps[n]?∣q0)(hy:q0.1[m]?∣y)(hl:jQ y=true)(hN:autoParam (At X j x) cg)(hs:dU (.Constant (.int (m:Int)) jc p2):=by exact λ_ _=>rfl):EV X (.Subscript `m (.Constant (.int (m:Int)) jc p2) pos) Z au y Z:=λσ H0 R0 H R E Q q=>by
 let⟨⟨v,ea,rfl,k⟩,hR⟩:=E.ent i _ hΓ;let⟨v0,e0,Zz⟩:=E.ent j _ hj;cases Zz
 cases (k.pt n q0 hq).1 with
 | @lst _ vs _ _ hb tt zz=>
 let⟨w,g,hw,tw⟩:=tt.at_ hy;refine eS (ip gT (aX hN) (aO (e:=.Constant (.int (m:Int)) jc p2)) hs) ⟨.ref q0.2.1,am e0,(ac (i:=(m:Int)) (X:=X) (Z:=Z)) σ H0 R0 H R E _ λu H2 R2 E2 s2 e2=>?_⟩;let⟨⟨v,ea2,rfl,k2⟩,hR2⟩:=E2.ent i _ hΓ;cases (k2.pt n q0 hq).1 with
 | @lst _ vs2 _ _ hb2 tt2 zz2=>
 let⟨w2,g2,hw2,tw2⟩:=tt2.at_ hy;refine⟨q0.2.1,vs2,(m:Int),w2,rfl,e2,bu.of hb2,?_,?_⟩
 ·let ml:=(Sn.mp hw2).1;rw[jT `a `a,show((m:Nat):Int).toNat=m by cbv];exact hw2
 ·refine q w2 H2 R2 E2 s2 ?_;cases tw2 with
  | str x=>exact .str x
  | int z=>exact .int z
  | lst _ _ _=>cases hl
theorem pK (i j:Nat){y:PV}(he:EV X e Z au y Γ1)(hl:jQ y=true)(hΓ:`az)(hj:Z[j]?∣.im dG q0.2.1)(hq:ps[n]?∣q0)(hΓ1:Γ1[i]?∣(.ob `F))(hz:q0.1.length<Vn)(h:N (Γ1.set i (.ob (bp a (ps.set n (q0.1++[y],q0.2.1,q0.2.2))))))(hN:autoParam (At X j x) cg)(YH:Vv `I none pos.line X.env=pure false:=by rfl)(Yd:fA X `m "append":=by rfl)(Yt:nk X cp [e]:=by rfl)(Yc:`ae=true:=by rfl)(hs:dk X e []:=by rfl):W1 X (.Expr `I pos) Z N T:=λσ H0 R0 H R E D dn dr=>by
 let⟨⟨v,ea,rfl,k⟩,hR⟩:=E.ent i _ hΓ;let⟨v0,e0,Zz⟩:=E.ent j _ hj;cases Zz
 let⟨ys,b,g⟩:=q0;cases (k.pt n _ hq).1 with
 | @lst _ vs0 _ _ hb0 tt0 zz0=>
 refine sS (eD `ao YH) ?_;refine⟨.ref b,am e0,.inl ⟨rfl,vs0,bu.of hb0⟩,he σ H0 R0 H R E _ λu H1 R1 E1 s1 r1=>?_⟩;let⟨⟨v,ea1,rfl,k1⟩,hR1⟩:=E1.ent i _ hΓ1;let⟨tq,ndq,naq⟩:=k1.pt n _ hq;cases tq with
 | @lst _ vs _ _ hb tt zz=>
 let⟨nb,ndg⟩:=S5.mp ndq;refine⟨b,vs,u,rfl,rfl,hb,by rw[tt.len];exact hz,?_⟩;refine dn σ _ R1 _ (E1.Ha hΓ1 hq (ws:=vs++[u]) ?_ ndq λc hc=>.inl hc) s1 h;have:=bE.app (tt.loc (H':=L2.upd H1 b (.lst (vs++[u]))) λc hc=>aJ λe=>nb (e▸hc)) (bE.cons (mT (H':=L2.upd H1 b (.lst (vs++[u]))) r1 hl) .nil);rw[S3,S3] at this;exact .lst aG this (by rw[Sx,S8];exact hz)
theorem kf.put (k:kf H a ps)(hn:ps[n]?∣q0)(hH:∀d∈a::dE ps,d∉cC q0->H' d=H d)(t:cP H' (.ref q0.2.1) (.lst ys) (cC q0)):kf H' a (ps.set n (ys,q0.2.1,q0.2.2)):=by
 let nl:n<ps.length:=(Sn.mp hn).1;let sp:∀(m:Nat)(q:PT),(ps.set n (ys,q0.2.1,q0.2.2))[m]?∣q->(m=n/\q=(ys,q0.2.1,q0.2.2))∨(m≠n/\ps[m]?∣q):=λm q h=>by
  by_cases e:n=m
  ·subst e;rw[SG nl] at h;exact .inl ⟨rfl,(Option.some.inj h).symm⟩
  ·rw[SX e] at h;exact .inr ⟨λz=>e z.symm,h⟩
 let fpe:∀(m:Nat)(q:PT),(ps.set n (ys,q0.2.1,q0.2.2))[m]?∣q->∃q',ps[m]?∣q'/\cC q=cC q':=λm q h=>by
  obtain⟨rfl,rfl⟩ | ⟨_,h⟩:=sp m q h
  ·exact⟨q0,hn,rfl⟩
  ·exact⟨q,h,rfl⟩
 refine⟨?_,λm q hq=>?_,λm1 m2 q1 q2 h1 h2 c c1 c2=>?_⟩
 ·rw[hH a Sz (k.pt n q0 hn).2.2,k.hd];congr 2;refine Tr λm=>?_;rw[Sw,Sw];by_cases e:n=m
  ·subst e;rw[SG nl,hn];rfl
  ·rw[SX e]
 ·obtain⟨rfl,rfl⟩ | ⟨hm,hq⟩:=sp m q hq
  ·exact⟨t,(k.pt _ q0 hn).2⟩
  ·let⟨t1,t2,t3⟩:=k.pt m q hq;exact⟨t1.loc λc hc=>hH c (Sv _ (bz.mpr ⟨m,q,hq,hc⟩)) λw=>hm (k.dj m n q q0 hq hn c hc w),t2,t3⟩
 ·let⟨p1,e1,f1⟩:=fpe m1 q1 h1;let⟨p2,e2,f2⟩:=fpe m2 q2 h2;exact k.dj m1 m2 p1 p2 e1 e2 c (f1▸c1) (f2▸c2)
theorem zQ (hn:ps[n]?∣q0):∀b∈a::dE (ps.set n (ys,q0.2.1,q0.2.2)),b∈a::dE ps:=λb hb=>by
 obtain rfl | hb:=SF.mp hb
 ·exact Sz
 ·let⟨m,q,hq,hc⟩:=bz.mp hb;refine Sv _ (bz.mpr ?_);by_cases e:n=m
  ·subst e;rw[SG (Sn.mp hn).1] at hq;cases Option.some.inj hq
   exact⟨n,q0,hn,hc⟩
  ·rw[SX e] at hq;exact⟨m,q,hq,hc⟩
theorem Ext.keep (x:Ext (cS H D) R H' R'){d:Addr}(hd:d∉D)(hn:H d≠none):H' d=H d:=by
 cases e:H d with
 | none=>exact XS e hn
 | some o=>exact x.h d o (by rw[bY hd];exact e)
def Rep.at_ {α:Type}(r:Rep α)(y:α):Rep Unit:=⟨λK R v _=>r.R K R v y,λs h=>r.mono s h⟩
abbrev lj:=List (Str×Rep Unit)
abbrev g7 (fs:lj)(K:Xt)(R:Hp)(vs:List (Str×V)):Prop:=PySem.Paired (λ(z:Str×V)(f:Str×Rep Unit)=>z.1=f.1/\f.2.R K R z.2 ()) vs fs
theorem g7.mono {fs:lj}{R':Hp}{vs:List (Str×V)}(s:av R R')(h:g7 fs K R vs):g7 fs K R' vs:=Paired.map (λ_ f ⟨a,b⟩=>⟨a,f.2.mono s b⟩) h
noncomputable def rS:lj->Str->Option (Rep Unit)
 | [],_=>none
 | (g,x)::r,f=>if g=f then some x else rS r f
theorem g7.get {f:Str}{r:Rep Unit}:∀{fs:lj}{vs:List (Str×V)},g7 fs K R vs->rS fs f∣r->∃v,vs.lookup f∣v/\r.R K R v ()
 | _,_,.nil,h=>by cases h
 | _,_,.cons (a:=z) (b:=p) h t,hg=>by
   let⟨g,x⟩:=p;let⟨g',v⟩:=z;let⟨e,hv⟩:=h;let e:g'=g:=e;subst e;rw[rS] at hg;rw[TN];by_cases q:g'=f
   ·rw[XU q] at hg;cases hg;subst q
    exact⟨v,`d,hv⟩
   ·rw[XT q] at hg;rw[show(f==g')=false from beq_eq_false_iff_ne.mpr λz=>q z.symm];exact g7.get t hg
theorem g7.put {f:Str}{r:Rep Unit}{v:V}(hv:r.R K R v ()):∀{fs:lj}{vs:List (Str×V)},g7 fs K R vs->rS fs f=none->g7 (fs++[(f,r)]) K R (gC f v vs)
 | _,_,.nil,_=>.cons ⟨rfl,hv⟩ .nil
 | _,_,.cons (a:=z) (b:=p) h t,hg=>by
   let⟨g,x⟩:=p;let⟨g',u⟩:=z;let⟨e,hu⟩:=h;let e:g'=g:=e;subst e;rw[rS] at hg;rw[gC];by_cases q:g'=f
   ·rw[XU q] at hg;cases hg
   ·rw[XT q] at hg ⊢;exact .cons ⟨rfl,hu⟩ (g7.put hv t hg)
def jG (C:Addr):LK lj where
 bx l fs:=⟨l,λK H R v=>∃x dx vs,l=[x,dx]/\v= .ref x/\H x∣.ins C dx vs/\H dx∣.own x/\g7 fs K R vs/\x≠dx,λ{K H R0 H' R' v} e s ⟨x,dx,vs,el,ev,h1,h2,h3,nd⟩=>by
  subst el;exact⟨x,dx,vs,rfl,ev,(e x `d).trans h1,(e dx `d).trans h2,h3.mono s,nd⟩,λ{K H R0 v} ⟨x,dx,vs,el,ev,h1,h2,h3,nd⟩ a ha=>by
  subst el;obtain rfl | ha:=SF.mp ha
  ·rw[h1];exact Va _
  ·rw[Su.mp ha,h2];exact Va _⟩
 fp:=λ_ _=>rfl
 at_:=λ⟨x,dx,vs,el,ev,_⟩=>⟨x,[dx],el,ev⟩
variable {f C:Addr}{ns:RU}{P:Vr}{w:World}{mg:RQ}{base:Heap}{fd:Vw}{rr:Rep α}
theorem D8 {x dx:Addr}{fs:lj}{o:Option V}(h:(Ent.ob ((jG C).bx [x,dx] fs)).ok K H R o):o∣.ref x/\wN R [x,dx]/\∃vs,H x∣.ins C dx vs/\H dx∣.own x/\g7 fs K R vs/\x≠dx:=by
 let⟨e,hB,hR⟩:=DV (B:=jG C) h;let⟨x',dx',vs,el,ev,h1,h2,h3,nd⟩:=hB;cases el
 exact⟨e,hR,vs,h1,h2,h3,nd⟩
theorem n8 (i:Nat){m f:Str}{x dx:Addr}{fs:lj}{y:α}(hC:bL X.K C ns)(hf:f∈ns)(hΓ:Z[i]?∣(.ob ((jG C).bx [x,dx] fs)))(h:rS fs f∣r.at_ y)(hN:autoParam (At X i m) cg)(hb:fA X (.Name m p1) f:=by rfl):EV X (.Attribute (.Name m p1) f pos) Z r y Z:=λσ H0 R0 H R E Q q=>by
 let⟨ea,hR,vs,h1,h2,h3,nd⟩:=D8 (E.ent i _ hΓ);let⟨v,hl,hv'⟩:=h3.get h;exact eS (v9 (aX hN) hb) ⟨.ref x,am ea,x,C,dx,vs,v,rfl,h1,hC.cl,hC.no f hf,hl,q v H R E `Z hv'⟩
theorem iZ (i:Nat){m f:Str}{x dx:Addr}{fs:lj}{y:α}(hC:bL X.K C ns)(hf:f∈ns)(he:EV X e Z r y Γ1)(hΓ1:Γ1[i]?∣(.ob ((jG C).bx [x,dx] fs)))(h:rS fs f=none)(hz:fs.length<1000)(hn:N (Γ1.set i (.ob ((jG C).bx [x,dx] (fs++[(f,r.at_ y)])))))(hN:autoParam (At X i m) cg)(YH:Vv e (some (.Attribute (.Name m p1) f ap)) pos.line X.env=pure false:=by rfl):W1 X (.Assign [.Attribute (.Name m p1) f ap] e pos) Z N T:=λσ H0 R0 H R E D dn dr=>
 sS (Kg (aX hN) aO YH) (he σ H0 R0 H R E _ λv H1 R1 E1 s1 e1=>by
  let⟨ea,hR,vs,h1,h2,h3,nd⟩:=D8 (E1.ent i _ hΓ1);refine⟨.ref x,am ea,x,C,dx,vs,rfl,h1,hC.cl,hC.no f hf,by rw[h3.length];exact hz,?_⟩;refine dn σ _ R1 _ (E1.oR (en:=.ob ((jG C).bx [x,dx] (fs++[(f,r.at_ y)]))) hΓ1 (a:=x) (by show x∈[x,dx];simp) ?_ λb hb=>.inl hb) s1 hn;rw[ea];exact C9 (B:=jG C) ⟨x,dx,_,rfl,rfl,aG,by rw[aJ (U8 nd)];exact h2,g7.put (r:=r.at_ y) e1 h3 h,nd⟩ hR)
abbrev Cj:=Xt->Addr->List Pk->(lj->Prop)->Prop
def Aj (S:Cj)(K:Xt):Sp:=λvs H Q _=>∃R x dx C Yy ps Pd,vs= .ref x::Yy/\av R H/\wN R [x,dx]/\((jG C).bx [x,dx] []).R K H R (.ref x)/\kq K R Yy ps/\S K C ps Pd/\
 ∀H' R' fs,Ext (cS H [x,dx]) R H' R'->((jG C).bx [x,dx] fs).R K H' R' (.ref x)->wN R' [x,dx]->Pd fs->Q .Ye H'
theorem DH {S:Cj}{qual:Str}{N ps:RU}{k:Nat}(F:`bK)(Sc:bD N ps (ao st))(len:∀C qs Pd,S K C qs Pd->qs.length+1=ps.length)(Yn:∀(X6:`aa)(A:Vu)(outer:List Env)(s:Vo)(H:Hp)(E:XK)(C a dx:Addr)(qs:List Pk)(Pd:lj->Prop),bH k `ad->S K C qs Pd->
  WS (eE d7 P w K mg base N qual (ao st) f X6 A outer s H E).gP (bF st) (.ob ((jG C).bx [a,dx] [])::fm qs (N.length-1)) (λZ=>∃fs,Z[0]?∣(.ob ((jG C).bx [a,dx] fs))/\Pd fs) (λ_ _ _ _=>False)):eZ P w K mg base d7 (k+1) f fd ps (Aj S K):=by
 refine F.ok Sc `bu `W
 ·let⟨R,a,dx,C,Yy,qs,Pd,rfl,_,_,_,p,hS,_⟩:=h;rw[SE,p.length];exact len C qs Pd hS
 ·let⟨R,a,dx,C,Yy,qs,Pd,rfl,sR,hR,hB,p,hS,q⟩:=h;let hl:qs.length+1<=N.length:=by
   rw[len C qs Pd hS];have:=congrArg List.length Sc.pre;rw[SW] at this;cbv
  refine⟨_,g8,Yn X6 A outer s H E C a dx qs Pd hr hS (L2.start N (.ref a::Yy)) (cS H [a,dx]) R H R (Be (B:=jG C) sR hR hB p hl) {nx:=λ_ H'=>Q .Ye H',rt:=Q} (λσ' H' R' Γ' E' _ ⟨fs,hΓ,t⟩=>?_) λv H' R' xx t=>t.elim⟩;let⟨ea,hB',YI⟩:=DV (B:=jG C) (E'.ent 0 _ hΓ);exact q H' R' fs E'.ext hB' YI t
theorem yX {S:Cj}{c:Str}{k:Nat}{p:Pos}{ps:List Pk}{Pd:lj->Prop}{pn:RU}{z:α}(M:Mk X.K C f)(F:eZ X.prog X.w X.K X.mg X.base d7 k f fd pn (Aj S X.K))(hr:bH (k+1) X.A)(hm:X.mg c∣.ref C)(hb:be X.K fd pn [])(ha:HA X (e::es) Z ps Γ1)(hS:S X.K C ps Pd)(hz:∀(fs:lj)(R:Hp)(x dx:Addr)(vs:List (Str×V)),Pd fs->g7 fs X.K R vs->R x∣.ins C dx vs->rr.R X.K R (.ref x) z)(hg:Gl X c:=by rfl)(Yz:YV c:=by decide)(he:dk X e es:=by rfl)(Yo:eV X pos es:=by rfl):
 EV X (.Call (.Name c p) (e::es) [] pos) Z rr z Γ1:=λσ H0 R0 H R E Q q=>
 eS (Jz M F hr hg hm hb .nil jO oz Yz he Yo) (ha σ H0 R0 H R E _ λvs H1 R1 E1 s1 p1 x dx hx hdx Yi=>by
  let hd1:∀b,cS (upd (upd H1 dx (.own x)) x (.ins C dx [])) [x,dx] b=H1 b:=λb=>by
   by_cases hb:b∈[x,dx]
   ·rw[gy hb];obtain rfl | hb:=SF.mp hb
    ·exact hx.symm
    ·rw[Su.mp hb];exact hdx.symm
   ·rw[bY hb];simp at hb;rw[aJ hb.1,aJ hb.2]
  let hR:wN R1 [x,dx]:=λb hb=>by
   obtain rfl | hb:=SF.mp hb
   ·exact E1.sub.free hx
   ·rw[Su.mp hb];exact E1.sub.free hdx
  refine⟨R1,x,dx,C,vs,ps,Pd,by rw[S3],λb o q=>?_,hR,⟨x,dx,[],rfl,rfl,aG,by rw[aJ Yi,aG],.nil,U8 Yi⟩,p1,hS,λH' R' fs xx hB YI hP=>⟨rfl,?_⟩⟩
  ·let b1:b≠x:=λe=>by rw[e,hR x `d] at q;cases q
   let b2:b≠dx:=λe=>by rw[e,hR dx `d] at q;cases q
   rw[aJ b1,aJ b2];exact E1.sub b o q
  ·rw[show cS (upd (upd H1 dx (.own x)) x (.ins C dx [])) [x,dx]=H1 from funext hd1] at xx;let⟨x',dx',ws,el,ev,h1,h2,h3,nd⟩:=hB;cases el
   let E2:=E1.grow xx;let E3:=E2.su h2 (YI dx `d) (E1.ext.h.free hdx) (E1.off hdx);let sd:av R' (upd R' dx (.own x)):=av.fresh (YI dx `d) _;let hRx:upd R' dx (.own x) x=none:=by rw[aJ nd];exact YI x `d
   let E4:=E3.su h1 hRx (E1.ext.h.free hx) (E1.off hx);let sx:=sd.trans (av.fresh hRx (.ins C dx ws));exact q (.ref x) H' _ E4 ((s1.trans xx.r).trans sx) (hz fs _ x dx ws hP (h3.mono sx) aG))
theorem kF {f:Str}{z:α}{r:Rep β}{y:β}(hC:bL X.K C ns)(hf:f∈ns)(he:EV X e Z rr z Γ1)(hz:∀(K:Xt)(R:Hp)(v:V),rr.R K R v z->∃x dx vs u,v= .ref x/\R x∣.ins C dx vs/\vs.lookup f∣u/\r.R K R u y)(hb:fA X e f:=by rfl):EV X (.Attribute e f pos) Z r y Γ1:=λσ H0 R0 H R E Q q=>
 eS (v9 aO hb) (he σ H0 R0 H R E _ λv H1 R1 E1 s1 e1=>by
  let⟨x,dx,vs,u,rfl,h1,h2,h3⟩:=hz _ _ _ e1;exact⟨x,C,dx,vs,u,rfl,E1.sub _ _ h1,hC.cl,hC.no f hf,h2,q u H1 R1 E1 s1 h3⟩)
variable {Q:`r}{prog:Vr}{A:Vu}{E:`r}{s:Vo}
theorem xJ:∀{ws:RU}{X5:RZ},Vals (ws.map V.str) X5->∃l:List (Str×Tok),X5=Wo l/\l.map (·.1)=ws
 | [],_,.nil=>⟨[],rfl,rfl⟩
 | w::ws,_,.cons h t=>by
   let⟨k,rfl⟩:=h;let⟨l,rfl,e⟩:=xJ t;exact⟨(w,k)::l,rfl,by rw[Ta,e]⟩
theorem yz:∀(l:List (Str×Tok)),Vals ((l.map (·.1)).map V.str) (Wo l)
 | []=>.nil
 | (w,k)::l=>.cons ⟨k,rfl⟩ (yz l)
theorem Il:zm X "str.join" (λx xs H Q=>∃(z:Str)(a:Addr)(ws:RU),x= .str z/\xs=[.ref a]/\H a∣(.lst (ws.map V.str))/\JoinOk z ws=true/\Q (.str (Txt.join z ws)) H):=by
 intro X3 s σ H x xs v us Q I rx r h;let⟨z,a,ws,rfl,rfl,hH,X8,q⟩:=h;let⟨t,rfl⟩:=rx;let⟨u,rfl,ru⟩:=r.one;cases ru
 let⟨hz,X5,n,r1,hl,e⟩:=I.oh hH;let⟨l,rfl,el⟩:=xJ r1;exact PySem.SC.join ⟨_,e,rfl,_,rfl⟩ el X8 λt' k=>⟨.str _,H,I.tok _,⟨_,rfl⟩,q⟩
theorem BC {t u:Tok}(hy:(y.length==0)=false)(hsz:x.length<=Vn)(hsz2:(Xl x y).length<=Vn)(hq:∀(l:List (Str×Tok))(k:Nat)(n:Nat),l.map (·.1)=Xl x y->Q (.ref ⇑s) {s with toks:=k,heap:=s.heap.push {cls:=.type "list",data:=.seq (Wo l).toArray n}}):
 wpAny `z A (call (.builtin "str.split") [.str x t,.str y u]) Q E s:=by
 cases h1:(decide (x.length<y.length) ||decide (Builtin.Str.strKind x<Builtin.Str.strKind y))
 ·cases hf:(WQ x y 0 x.length (x.length+1)).isEmpty
  ·let es:Xl x y=Builtin.Str.partsBetween x (WQ x y 0 x.length (x.length+1)) y.length:=(XT (ne_true_of_eq_false h1)).trans (XT (ne_true_of_eq_false hf));refine VW W5 (V7 _ _ _) W4 (W3 _ _) (meets_str_split_sep x y t u h1 hy hf hsz (by rw[← es];exact hsz2)) ?_;show wants Q E _ {s with toks:=_,heap:=s.heap.push {cls:=.type "list",data:=.seq (strsFrom s.toks (Builtin.Str.partsBetween x (WQ x y 0 x.length (x.length+1)) y.length)).toArray}};rw[strsFrom_eq];exact hq (numbered s.toks _) _ _ ((numbered_texts _ _).trans es.symm)
  ·exact VW W5 (V7 _ _ _) W4 (W3 _ _) (meets_str_split_not_found x y t u h1 hy hf)
    (hq [(x,t)] s.toks _ ((XT (ne_true_of_eq_false h1)).trans (XU hf)).symm)
 ·exact VW W5 (V7 _ _ _) W4 (W3 _ _) (meets_str_split_cannot_occur x y t u h1)
   (hq [(x,t)] s.toks _ (XU h1).symm)
theorem F7:zm X "str.split" (λx xs H Q=>∃z y:Str,x= .str z/\xs=[.str y]/\(y.length==0)=false/\z.length<=Vn/\(Xl z y).length<=Vn/\∀a,H a=none->Q (.ref a) (upd H a (.lst ((Xl z y).map V.str)))):=by
 intro X3 s σ H x xs v us Q I rx r h;let⟨z,y,rfl,rfl,hy,hz,hz2,q⟩:=h;let⟨t,rfl⟩:=rx;let⟨u,rfl,ru⟩:=r.one;let⟨tu,rfl⟩:=ru;refine BC hy hz hz2 λl k n el=>?_;let I1:Inv X X3 σ H {s with toks:=k,heap:=s.heap.push {cls:=.type "list",data:=.seq (Wo l).toArray n}}:=I.kept (t':=k) λb o e=>W6 _ e;let hn:H ⇑s=none:=I.fresh;refine⟨.ref ⇑s,_,adopt (o:=.lst ((Xl z y).map V.str)) I1 (I.ka (UJ _) hn) I.sz ⟨?_,Wo l,n,?_,W8 _ rfl⟩,rfl,q _ hn⟩
 ·rw[Ss];exact hz2
 ·rw[← el];exact yz l
theorem Iv {a:Expr}{ws:RU}(ha:EV X a Z ak x Γ1)(he:EV X e Γ1 (ae ak) ws Γ2)(X8:JoinOk x ws=true)(Yd:fA X a "join":=by rfl)(Yt:nk X cp [e]:=by rfl)(Yc:`ae=true:=by rfl)(hs:dk X e []:=by rfl):EV X (.Call (.Attribute a "join" ap) [e] [] cp) Z ak (Txt.join x ws) Γ2:=by
 intro σ H0 R0 H R E Q q;refine eS (ie PySem.F.plainAttrs_str PySem.F.slot_str_join PySem.F.type_str_join Il aO `be Yd Yt Yc hs rfl) `B;cases e1
 refine⟨rfl,he σ H0 R0 H1 R1 E1 _ λu H2 R2 E2 s2 e2=>?_⟩;let⟨b,vs,rfl,hb,pp,hz⟩:=e2;let ev:=mE pp;subst ev;exact⟨x,b,ws,rfl,rfl,E2.sub _ _ hb,X8,q _ H2 R2 E2 `E rfl⟩
theorem qN {K:Xt}{R:Hp}:∀ws:RU,PySem.Paired (ak.R K R) (ws.map V.str) ws
 | []=>.nil
 | _::r=>.cons rfl (qN r)
theorem Cq {a:Expr}(ha:EV X a Z ak x Γ1)(he:EV X e Γ1 ak y Γ2)(hy:(y.length==0)=false)(hz:x.length<=Vn)(hz2:(Xl x y).length<=Vn)(Yd:fA X a "split":=by rfl)(Yt:nk X cp [e]:=by rfl)(Yc:`ae=true:=by rfl)(hs:dk X e []:=by rfl):bc X (.Call (.Attribute a "split" ap) [e] [] cp) Z ak (Xl x y) Γ2:=by
 intro σ H0 R0 H R E Q q;refine eS (ie PySem.F.plainAttrs_str PySem.F.slot_str_split PySem.F.type_str_split F7 aO `be Yd Yt Yc hs rfl) `B;cases e1
 refine⟨rfl,he σ H0 R0 H1 R1 E1 _ λu H2 R2 E2 s2 e2=>?_⟩;cases e2
 exact⟨x,y,rfl,rfl,hy,hz,hz2,λd hd=>q d _ _ R2 (E2.grow (Ext.ee E2.sub hd _)) `E aG (E2.sub.free hd) (E2.ext.h.free hd) (E2.off hd) (qN _) hz2⟩
variable {c:Nat}
theorem xf {c:Nat}:∀{a b x y:List Nat},c∉a->c∉b->a++c::x=b++c::y->a=b/\x=y
 | [],[],_,_,_,_,h=>⟨rfl,(List.cons.inj h).2⟩
 | [],d::b,_,_,_,hb,h=>XS (List.cons.inj h).1 (λe=>hb (e▸Sz))
 | d::a,[],_,_,ha,_,h=>XS (List.cons.inj h).1 (λe=>ha (e▸Sz))
 | d::a,e::b,x,y,ha,hb,h=>by
   let⟨h1,h2⟩:=List.cons.inj h;let⟨q1,q2⟩:=xf (λz=>ha (Sv _ z)) (λz=>hb (Sv _ z)) h2;exact⟨by rw[h1,q1],q2⟩
theorem xQ {a b y:List Nat}(ha:c∉a)(h:a=b++c::y):False:=ha (by rw[h];exact SH _ Sz)
theorem z5 (x y:Str):(x++y).cps.toList=x.cps.toList++y.cps.toList:=by show(x.cps++y.cps).toList=_;simp
theorem nL (c:Nat)(x y:Str)(r:RU):(Xj ⟨#[c]⟩ (x::y::r)).cps.toList=x.cps.toList++c::(Xj ⟨#[c]⟩ (y::r)).cps.toList:=by
 rw[Xj,z5,z5];simp;intro h;cases h
theorem Aq (h:x.cps.toList=y.cps.toList):x=y:=by
 cases x;cases y
 congr 1;exact Array.toList_inj.mp h
theorem ye {c:Nat}:∀{ws us:RU},ws≠[]->us≠[]->(∀w∈ws,c∉w.cps.toList)->(∀u∈us,c∉u.cps.toList)->(Xj ⟨#[c]⟩ ws).cps.toList=(Xj ⟨#[c]⟩ us).cps.toList->ws=us
 | [],_,h,_,_,_,_=>XS rfl h
 | _,[],_,h,_,_,_=>XS rfl h
 | [x],[y],_,_,_,_,h=>by rw[show x=y from Aq h]
 | [x],y::z::r,_,_,hx,_,h=>by
   rw[nL] at h;exact XS h λh=>xQ (hx x Sz) h
 | x::z::r,[y],_,_,_,hy,h=>by
   rw[nL] at h;exact XS h.symm λh=>xQ (hy y Sz) h
 | x::x2::r,y::y2::q,_,_,hx,hy,h=>by
   rw[nL,nL] at h;let⟨h1,h2⟩:=xf (hx x Sz) (hy y Sz) h;rw[Aq h1,ye (List.cons_ne_nil _ _) (List.cons_ne_nil _ _) (λw hw=>hx w (Sv _ hw)) (λw hw=>hy w (Sv _ hw)) h2]
theorem Ba {ws:RU}(h:ws≠[])(hf:∀w∈ws,c∉w.cps.toList):Xl (Xj ⟨#[c]⟩ ws) ⟨#[c]⟩=ws:=by
 refine ye (c:=c) (λe=>?_) h (StrLaws.split_free _ c) hf (by rw[StrLaws.join_split]);have:=split_pos (Xj ⟨#[c]⟩ ws) ⟨#[c]⟩;rw[e] at this;exact XS this `c
theorem ER:(" ":Str)=⟨#[32]⟩:=`b
theorem y6 (x:Str)(ws:RU):Txt.join x ws=Xj x ws:=StrLaws.glued_eq_join x ws
def Pp (x:Str):It:=⟨λi _=>i<x.cps.size,λi H v H'=>H'=H/\v= .str (mi x i),λi _=>x.cps.size<=i⟩
theorem D9 (x:Str)(t:Tok)(it:Addr):Turn P w K tg (Pp x) [it] it (λi h=>h.IsStrIter it "str_ascii_iterator" x t i) where
 mem:=`d
 obj:=λi h st b hb=>by
  let e:b=it:= ~~~hb
  subst e;let⟨o,e,c,d⟩:=st;exact⟨o,e,λv z=>by rw[d] at z;cases z⟩
 keep:=λi h h' st k=>by
  let⟨o,e,r⟩:=st;exact⟨o,k it `d o e,r⟩
 item:=by
  intro X hP hw hK hc i X3 s σ H E I hf st hg;subst hP hw hK;let⟨f0,f1,f2,f3,f4,f5⟩:=hf it `d;let W:=Walks.strAscii (prog:=X.prog) (w:=X.w) (I.ok.hd hc) it x t;refine W.item i s _ _ hg st λv h' tk hv Zw kk=>?_;let⟨c,u,hx,rfl⟩:=hv;let I1:Inv X X3 σ H {s with heap:=h',toks:=tk}:=I.turned (λb o hb e=>kk b o (~~~hb) e) f0 f1 f3 f4 f5;let⟨o,e,cc,d⟩:=id Zw;let Z9:mi x i=⟨#[c]⟩:=by unfold mi;rw[show x.cps.getD i 0=c by rw[Array.getD_eq_getD_getElem?,hx];rfl]
  exact⟨_,rfl,qo (s:={s with heap:=h',toks:=tk}) e cc d `c ⟨.str (mi x i),H,I1,⟨u,by rw[Z9]⟩,⟨rfl,rfl⟩,Zw,λb hb=>(hf b hb).1⟩⟩
 done:=by
  intro X hP hw hK hc i X3 s σ H E I hf st hg;subst hP hw hK;let⟨f0,f1,f2,f3,f4,f5⟩:=hf it `d;exact wpAny_pyNext_ascii_end (I.ok.hd hc) st (by have:x.cps.size<=i:=hg;simp[this]) λh' eb=>⟨rfl,I.turned (t':=s.toks) (λb o hb e=>eb b o hb e) f0 f1 f3 f4 f5⟩
 self:=λ_ _ _ _ _ st h=>wpAny_pyIter_striter_ascii st h
def Q8 (tl:TE):TI:=λσ H R=>tl σ H λx H1=>∃z:Str,x= .str z/\z.cps.all (· < 128)=true/\R (Pp z) H1
theorem Lq {l:Expr}{tl:TE}(hl:PE X l tl):PI X tg l (Q8 tl):=by
 intro X3 s σ H R I h;refine a7 (hl X3 s σ H _ I h) λv s1 ⟨x,H1,I1,r1,q1⟩=>?_;let⟨z,e,ha,q⟩:=q1;subst e;let⟨t,rfl⟩:=r1;refine wpAny_pyIter_ascii ha ?_;refine⟨⇑s1,[⇑s1],_,_,H1,rfl,I1.kept (t':=s1.toks) λb o e=>W6 _ e,D9 z t _,⟨_,W8 _ rfl,rfl,rfl⟩,λb hb=>?_,q⟩;let e:b=⇑s1:= ~~~hb
 subst e;exact I1.ka (UJ _) (I1.X8.fresh (UJ _))
noncomputable def fT (x:Str):RU:=(SQ x.cps.size).map (mi x)
theorem xD {a:Expr}(ha:EV X a Z ak x Γ1)(hx:x.cps.all (· < 128)=true)(hz:x.cps.size<=Vn):IV X tg a Z ak (fT x) Γ1:=by
 refine⟨_,Lq aO,λσ H0 R0 H R E Rq q=>ha σ H0 R0 H R E _ λv H1 R1 E1 s1 e1=>?_⟩;cases e1
 refine⟨x,rfl,hx,q _ H1 R1 E1 s1 (by unfold fT;rw[Ss,Te];exact hz) λH' R' sR sH i=>⟨λy hy=>?_,λhi=>?_⟩⟩
 ·unfold fT at hy;rw[Sw] at hy;let⟨j,hj,rfl⟩:=U9.mp hy;let⟨hl,e⟩:=Sn.mp hj;rw[Te] at hl;rw[List.getElem_range] at e;subst e;refine⟨hl,λv' H2 hy=>?_⟩;let⟨rfl,rfl⟩:=hy;exact⟨R',Ext.refl sH,rfl⟩
 ·unfold fT at hi;rw[Ss,Te] at hi;exact hi
theorem pj {y:α}(he:EV X e Z r y Γ1)(h:N Γ1)(YH:Vv e none pos.line X.env=pure false:=by rfl):W1 X (.Expr e pos) Z N T:=λσ H0 R0 H R E D dn dr=>
 sS (eD aO YH) (he σ H0 R0 H R E _ λv H1 R1 E1 s1 e1=>dn σ H1 R1 _ E1 s1 h)
theorem DY (i:Nat){a c:Int}(he:EV X e Z ah c Z)(hΓ:Z[i]?∣.im ah a)(h:N (Z.set i (.im ah (a+c))))(hN:X.N.Nodup:=by first | assumption | decide)(hi:X.N[i]?∣x:=by rfl)(hx:`aq)(hf:autoParam (fU X x) Zj):
 W1 X (.AugAssign `m .Add e pos) Z N T:=λσ H0 R0 H R E D dn dr=>by
 let⟨v,ea,hr⟩:=E.ent i _ hΓ;cases (show v=V.int a from hr)
 refine sS (Ku hN hi hx aO MZ hf) ⟨.int a,am ea,he σ H0 R0 H R E _ λu H2 R2 E2 s2 e2=>?_⟩;cases (show u=V.int c from e2)
 exact⟨a,c,rfl,rfl,dn _ H2 R2 _ (E2.set i (r:=ah) (x:=a+c) rfl) s2 h⟩
theorem HV {r':Rep β}{xs:`x}{ys:List β}(hij:i≠j)(hΓ:`ay)(hj:Z[j]?∣.mu r' ys)(hz:xs.length<=Vn)(hz':ys.length<=Vn)(σ:St)(H0 R0 H R:Hp)(E:`aS):ar X.K σ H H H H (((Z.map og).set i (.im (ae r) xs)).set j (.im (ae r') ys)):=by
 let⟨a,vs,ea,ha,hR,pp⟩:=E.ent i _ hΓ;let⟨b,ws,eb,hb,hRb,pq⟩:=E.ent j _ hj;let E1:=E.YY.lW (i:=i) (e0:=.no) (en:=.im (ae r) xs) (by rw[Sw,hΓ];rfl) ⟨.ref a,ea,a,vs,rfl,ha,Paired.map (λ_ _=>r.mono E.sub) pp,hz⟩ λb w=>by cases w
 exact E1.lW (i:=j) (e0:=.no) (by rw[SX hij,Sw,hj];rfl) ⟨.ref b,eb,b,ws,rfl,hb,Paired.map (λ_ _=>r'.mono E.sub) pq,hz'⟩ λb w=>by cases w
theorem BX:eW X (Vy .LtE) (λx y H Q=>∃i j,x= .str i/\y= .str j/\Q (.bl (!decide (j.cps.toList<i.cps.toList))) H):=by
 intro X3 s σ H x y v u Q I rx ry h;let⟨i,j,rfl,rfl,q⟩:=h;let⟨t,rfl⟩:=rx;let⟨t',rfl⟩:=ry;exact PySem.P.le_str (bR I q rfl)
theorem Hq :iN X .LtE ak ak x y (!decide (y.cps.toList<x.cps.toList)):=⟨_,BX,λR H v u Q _ e1 e2 q=>by
 cases e1;cases e2
 exact⟨x,y,rfl,rfl,q⟩⟩
theorem DE {xs:RU}:iN X .NotIn ak (ae ak) x xs (!decide (x∈xs)):=⟨_,yB,λR H v u Q s e1 e2 q=>by
 cases e1
 let⟨a,vs,rfl,hq,p,_⟩:=e2;let e:=mE p;subst e;exact⟨a,_,rfl,.inl (bu.of (s _ _ hq)),rfl,mf xs,by rw[XU rfl,nG];exact q⟩⟩
theorem xk {xs:`x}(h:EV X e Z (ae r) xs Γ1)(he:∀whole,VZ e X.env whole=(do let v ← whole;Wa e.pos;VP [v] (truthy v)):=by intro _;rfl):TV X e Z (!xs.isEmpty) Γ1:=by
 intro σ H0 R0 H R E Q q;refine tS (w6 aO he) (h σ H0 R0 H R E _ λv H1 R1 E1 s1 e1=>?_);let⟨a,vs,rfl,ha,pp,_⟩:=e1;refine⟨!xs.isEmpty,.inl ⟨vs,bu.of (E1.sub _ _ ha),?_⟩,q H1 R1 E1 s1⟩;cases pp<;>rfl
theorem wV {α:Type}(l:`x):∀m,m<=l.length->(SQ m).filterMap (l[·]?)=l.take m
 | 0,_=>rfl
 | m+1,h=>by
   rw[Ua,List.filterMap_append,wV l m `a,S9];simp[So (show m<l.length by cbv)]
def iz (x:Str):Str:=⟨(x.cps.toList.take 7).toArray⟩
theorem Rb:∀n,n<=8->Builtin.Str.strSliceIndices none (some 7) 1 n=SQ (min n 7):=by
 intro n hn;have:∀j:Fin 9,Builtin.Str.strSliceIndices none (some 7) 1 j.val=SQ (min j.val 7):=`b
 exact this ⟨n,`a⟩
theorem O0 (hx:x.length<=8):((SQ (min x.length 7)).filterMap (x.cps[·]?)).toArray=(x.cps.toList.take 7).toArray:=by
 let hl:x.cps.toList.length=x.length:=by simp[Str.length]
 let e:(SQ (min x.length 7)).filterMap (x.cps[·]?)=(SQ (min x.length 7)).filterMap (x.cps.toList[·]?):=by
  congr 1;funext i;simp
 rw[e,wV _ _ `a];congr 1;by_cases h:x.length<=7
 ·rw[Nat.min_eq_left h,← hl,Td,T2 `a]
 ·rw[Nat.min_eq_right `a]
def Rv:V->Option Int->Option Int->Hp->VK->Prop:=λx lo hi H Q=>∃z:Str,x= .str z/\lo=none/\hi∣7/\z.length<=8/\Q (.str (iz z)) H
theorem QQ :Cy X Rv:=by
 intro X3 s σ H x v vl vu lo hi sl Q I rx hs pl pu h;let⟨z,rfl,rfl,rfl,hz,q⟩:=h;let⟨t,rfl⟩:=rx;cases pl
 cases pu with
 | int _ tu=>
   refine⟨"str",_,PySem.F.slot_str_getitem.lookup,V7 _ _ _,wpAny_getItem_str_slice (l:=none) (u:=some (7,tu)) (st:=none) hs rfl ?_⟩;let e:slicePicked z none (some (7,tu)) none=SQ (min z.length 7):=Rb z.length hz;unfold sliceMade;rw[e,Te];split
   ·rename_i hh;let hl:min z.length 7=z.length:= ~~~hh
    let hp:iz z=z:=by
     unfold iz;rw[T2 (by simp[Str.length] at hl ⊢;cbv)]
    rw[hp] at q;exact⟨.str z,H,I,⟨t,rfl⟩,q⟩
   ·rw[O0 hz];refine⟨?_,.str (iz z),H,I.tok _,⟨_,rfl⟩,q⟩;show(List.take 7 z.cps.toList).toArray.size<=Vn;rw[SJ,SW];exact UK (UX _ _) `c
theorem DU {a:Expr}(ha:EV X a Z ak x Z)(hx:x.length<=8):EV X (.Subscript a (.Slice none (some (.Constant (.int 7) j p1)) none p2) pos) Z ak (iz x) Z:=by
 intro σ H0 R0 H R E Q q;let⟨tl,pl,kl⟩:=(ov_none:OV X none Z none);let⟨th,ph,kh⟩:=(ov_some ac:OV X (some (.Constant (.int 7) j p1)) Z (some 7));refine eS (nI QQ aO pl ph) `G;cases e1
 exact⟨x,rfl,rfl,rfl,hx,q _ _ _ E3 `bM rfl⟩
theorem qk (i:Nat)(h:N (Z.set i (.di [])))(hN:X.N.Nodup:=by first | assumption | decide)(hi:X.N[i]?∣x:=by rfl)(hx:`aq)(hs:Vv (.Dict [] [] p2) (some `m) pos.line X.env=pure false:=by rfl)(hf:autoParam (fU X x) Zj):
 W1 X (.Assign [.Name x p1] (.Dict [] [] p2) pos) Z N T:=λσ H0 R0 H R E D dn dr=>by
 refine sS (lr hN hi hx FE hs hf) λp hp=>?_;let E1:=E.grow (Ext.ee E.sub hp (.dK (cR [])));exact dn _ _ R _ (E1.Bo (u:=.dK (cR [])) (en:=.di []) i ⟨p,rfl,aG,E.sub.free hp⟩ (E.ext.h.free hp) λj e _ q w=>E.off hp j e q w) `Z h
theorem xP {R:Hp}:∀{xs:RU}{vs:`K},eL R vs (xs.map PV.str)->vs=xs.map V.str
 | [],_,.nil=>rfl
 | x::xs,_,.cons h t=>by cases h;rw[xP t];rfl
theorem zk {k:Nat}{xs:RU}(h:EA X es Z au (xs.map PV.str) Γ1)(hz:xs.length<=Vn):EV X (.Tuple es k pos) Z wG xs Γ1:=
 EV.re (gB h (by rw[Ss];exact hz)) λK R v e=>by
   cases e with
   | tup hp pp=>rw[xP pp] at hp;exact⟨_,rfl,dY.of hp⟩
def G2 (lo:Int)(n:Nat):It:=⟨λi _=>i<n,λi H x H'=>H'=H/\x= .int (lo-i),λi _=>n<=i⟩
theorem Cp (it:Addr)(lo:Int)(n:Nat):Turn P w K tg (G2 lo n) [it] it (λi h=>Wq h it (lo+(i:Nat)*(-1)) ((n:Int)-(i:Nat)) (-1)) where
 mem:=`d
 obj:=λi h st b hb=>by
  let e:b=it:= ~~~hb
  subst e;exact⟨_,st,λv z=>by
   let z':Data.fields _=Data.cell v:=z;cases z'⟩
 keep:=λi h h' st k=>k it `d _ st
 item:=by
  intro X hP hw hK hc i X3 s σ H E I hf st hg;subst hP hw hK;let⟨f0,f1,f2,f3,f4,f5⟩:=hf it `d;let W:=Walks.range (prog:=X.prog) (w:=X.w) (I.ok.hd hc) it lo (-1) n;refine W.item i s _ _ hg st λv h' tk hv Zw kk=>?_;let⟨t,rfl⟩:=hv;let I1:Inv X X3 σ H {s with heap:=h',toks:=tk}:=I.turned (λb o hb e=>kk b o (~~~hb) e) f0 f1 f3 f4 f5;refine⟨_,rfl,qo (s:={s with heap:=h',toks:=tk}) (n:="range_iterator") Zw rfl rfl `c ⟨.int (lo-i),H,I1,⟨t,?_⟩,⟨rfl,rfl⟩,Zw,λb hb=>(hf b hb).1⟩⟩;rw[show lo+(i:Int)*(-1)=lo-(i:Int) by cbv]
 done:=by
  intro X hP hw hK hc i X3 s σ H E I hf st hg;subst hP hw hK;let⟨f0,f1,f2,f3,f4,f5⟩:=hf it `d;exact wpAny_pyNext_range_end (I.ok.hd hc) st (by have:n<=i:=hg;cbv) λh' eb=>⟨rfl,I.turned (t':=s.toks) (λb o hb e=>eb b o hb e) f0 f1 f3 f4 f5⟩
 self:=λ_ _ _ _ _ st h=>wpAny_pyIter_rangeiter st h
theorem vf {a b:Int}:WI a b (-1)=((a-b).toNat:Int):=by
 unfold WI;rw[XT `c];split
 ·rw[show -(-1:Int)=1 by decide,Int.ediv_one];cbv
 ·cbv
theorem small_down {a b:Int}(ha: -(2 ^ 40)<=a)(YT:a<2 ^ 40)(hb: -(2 ^ 40)<=b)(Zd:b<2 ^ 40):Builtin.Range.small a b (-1)=true:=by
 unfold Builtin.Range.small;rw[vf];simp only[Builtin.Range.rangeFitsLong,Sa,Se,decide_eq_true_eq,beq_iff_eq,show¬(-1:Int)>0 by decide,if_false];cbv
variable {lo:Int}{ta:TA}{R1:Hp}
def Og (ta:TA):TI:=λσ H R=>ta σ H λvs H1=>∃i j:Int,vs=[.int i,.int j,.int (-1)]/\(-(2 ^ 40)<=i/\i<2 ^ 40/\ -(2 ^ 40)<=j/\j<2 ^ 40)/\R (G2 i (i-j).toNat) H1
theorem Jc {X3:RR}{R:It->Hp->Prop}{hi:Int}{t u v:Tok}{tk:Nat}(I:`h)(h1: -(2 ^ 40)<=lo)(h2:lo<2 ^ 40)(h3: -(2 ^ 40)<=hi)(h4:hi<2 ^ 40)(q:R (G2 lo (lo-hi).toNat) H):wpAny `f X.A (pyIter (.ref ⇑s)) (MV X X3 σ tg R) E {s with heap:=s.heap.push {cls:=.type "range",data:=.fields #[.int lo t,.int hi u,.int (-1) v]},toks:=tk}:=by
 refine wpAny_pyIter_range (IsRange.new ..) (small_down h1 h2 h3 h4) ?_;let I1:Inv X X3 σ H {s with heap:=s.heap.push {cls:=.type "range",data:=.fields #[.int lo t,.int hi u,.int (-1) v]},toks:=tk}:=I.kept λb o e=>W6 _ e;refine⟨(s.heap.push {cls:=.type "range",data:=.fields #[.int lo t,.int hi u,.int (-1) v]}).objs.size,[(s.heap.push {cls:=.type "range",data:=.fields #[.int lo t,.int hi u,.int (-1) v]}).objs.size],_,_,H,rfl,
  I1.kept (t':=tk) λb o e=>W6 _ e,Cp _ lo (lo-hi).toNat,?_,λb hb=>?_,q⟩
 ·let e1:lo+((0:Nat):Int)*(-1)=lo:=`d
  let e2:(((lo-hi).toNat:Nat):Int)-((0:Nat):Int)=WI lo hi (-1):=by rw[vf];simp
  show Wq _ _ (lo+((0:Nat):Int)*(-1)) ((((lo-hi).toNat:Nat):Int)-((0:Nat):Int)) (-1);rw[e1,e2];exact W8 _ rfl
 ·let e:b=(s.heap.push {cls:=.type "range",data:=.fields #[.int lo t,.int hi u,.int (-1) v]}).objs.size:= ~~~hb
  subst e;exact I1.ka (UJ _) (I1.X8.fresh (UJ _))
theorem DG {a b c:Expr}{p:Pos}(hg:Gl X "range")(hm:X.mg "range"=none)(ha:PA X [a,b,c] ta)(hs:Vt [a,b,c] X.env=(false,eval a X.env)::Vt [b,c] X.env:=by rfl)(Yo:eV X pos [b,c]:=by rfl):
 PI X tg (.Call (.Name "range" p) [a,b,c] [] pos) (Og ta):=by
 intro X3 s σ H R I h;refine Call_ (i7 I hg hm Vl (Vf `T hs Yo));let⟨i,j,e,⟨q1,q2,q3,q4⟩,q⟩:=q1;subst e;cases r1 with
 | cons r rr=>
   cases rr with
   | cons r' rr=>
     cases rr with
     | cons r'' rr=>
       cases rr
       let⟨t,rfl⟩:=r;let⟨t',rfl⟩:=r';let⟨t'',rfl⟩:=r'';exact call_range_3 `c (Jc I1 q1 q2 q3 q4 q) (.inl (PyProof.noPylong_of_log2 `b))
noncomputable def downs (lo:Int)(n:Nat):RS:=(SQ n).map λ(k:Nat)=>lo-(k:Int)
theorem jn (lo:Int)(n:Nat):(downs lo n).length=n:=by unfold downs;rw[Ss,Te]
theorem w9 {x:Int}(h:(downs lo n)[i]?∣x):i<n/\x=lo-(i:Int):=by
 let hi:i<n:=by have:=(Sn.mp h).1;rwa [jn] at this
 refine⟨hi,?_⟩;unfold downs at h;rw[Sw,Ti hi] at h;exact(Option.some.inj h).symm
theorem EL (lo:Int)(n:Nat):Src K (G2 lo n) R1 ah (downs lo n):=λH' R' sR sH i=>⟨λx hx=>by
 let⟨h1,rfl⟩:=w9 hx;refine⟨h1,λv H2 hy=>?_⟩;let⟨rfl,rfl⟩:=hy;exact⟨R',Ext.refl sH,rfl⟩,λhi=>by rw[jn] at hi;exact hi⟩
theorem BF {a b c:Expr}{m n:Int}(hm:X.mg "range"=none)(ha:HA X [a,b,c] Z [⟨ah,m⟩,⟨ah,n⟩,⟨ah, -1⟩] Γ1)(hn: -1000000<=m/\m<=1000000/\ -1000000<=n/\n<=1000000)(hs:Vt [a,b,c] X.env=(false,eval a X.env)::Vt [b,c] X.env:=by rfl)(Yo:eV X p2 [b,c]:=by rfl)(hg:Gl X "range":=by rfl):IV X tg (.Call (.Name "range" p1) [a,b,c] [] p2) Z ah (downs m (m-n).toNat) Γ1:=by
 refine⟨_,DG hg hm oz hs Yo,λσ H0 R0 H R E Rq q=>ha σ H0 R0 H R E _ λvs H1 R1 E1 s1 e1=>?_⟩;let e:vs=[.int m,.int n,.int (-1)]:=by
  cases e1 with
  | cons a1 t=>cases t with
    | cons a2 t=>cases t with
      | cons a3 t=>cases t;cases a1;cases a2;cases a3;rfl
 subst e;exact⟨m,n,rfl,⟨`a,`a,`a,`a⟩,q _ H1 R1 E1 s1 (by rw[jn];exact UK (show(m-n).toNat<=2000000 by cbv) `c) (EL m (m-n).toNat)⟩
theorem bc.cst {xs ys:`x}(h:bc X e Z r xs Γ1)(q:xs=ys):bc X e Z r ys Γ1:=q▸h
theorem Ii {f:Expr}{D:List (Str×RU)}{k:Str}{zs:RU}(hD:n6 X.prog X.w X.K X.mg x D)(he:EV X e Z ak k Γ1)(hf:EV X f Γ1 wG zs Γ2)(hg:Gl X x:=by rfl)(hd:YV x:=by decide)(m:M2 X `m "get" ap e f cp:=by exact⟨rfl,rfl,rfl,rfl⟩):EV X (.Call (.Attribute `m "get" ap) [e,f] [] cp) Z wG ((cO D k).getD zs) Γ2:=by
 intro σ H0 R0 H R E Q q;let⟨a,o,vs,hm,hk,hdo,hs,hp⟩:=hD;let pe:PE X (.Call (.Attribute `m "get" ap) [e,f] [] cp) (λσ H Q=>fE X e σ H λy H1=>y= .str k/\fE X f σ H1 λz H2=>(∀b,cO D k≠none->VH vs (Sum.inr k:Key)∣.ref b->Q (.ref b) H2)/\(cO D k=none->Q z H2)):=by
  intro X3 s σ H Q I h;refine wpAny_Call_method m.base m.few m.line PySem.F.plainAttrs_dict PySem.F.slot_dict_get PySem.F.type_dict_get (a7 (jJ (v:=.ref a) hg hm rfl hd X3 s σ H (λv H2=>v= .ref a/\H2=H) I ⟨rfl,rfl⟩) λu s1 ⟨x1,H1,I1,rx,e3,e4⟩=>?_);subst e3;subst e4;obtain rfl:u=Xm a:=rx;let dd:s1.heap.DictOf (cH X.prog X.w) a vs:=Xc.mpr ⟨o,I1.gp a o hk,hdo⟩;refine⟨dd.typeIs,λb q=>?_,?_⟩
  ·cases q
   let⟨ob,_,_,h1,h2,_⟩:=dd;exact⟨ob,h1,h2.2.1⟩
  rw[m.trees];refine WT rfl (Calls.evalArgs_plain (WU (a7 (h X3 s1 I1) λiv s2 ⟨y,H2,I2,ry,ey,q2⟩=>
   WU (a7 (q2 X3 s2 I2) λfv s3 ⟨z,H3,I3,rz,q3,q4⟩=>Calls.spliced_nil ?_))))
  subst ey;let dd3:s3.heap.DictOf (cH X.prog X.w) a vs:=Xc.mpr ⟨o,I3.gp a o hk,hdo⟩;refine call_meetsIn PySem.F.slot_dict_get dd3.typeIs PySem.F.entry_dict_get (PySem.F.args_dict_get_3 _ _ _) (meets_dict_get_default (cH X.prog X.w) a (ku (k:=Sum.inr k) ry) hs fv) ⟨_,dd3.mapOf,?_⟩;obtain⟨h1,h2⟩ | ⟨ys,b,h1,h2,_⟩:=vK (x:=k) hp
  ·rw[h2];exact⟨z,_,I3.tok _,rz,q4 h1⟩
  ·rw[h2];exact⟨.ref b,_,I3.tok _,rfl,q3 b (by rw[h1];exact Va _) h2⟩
 refine eS pe (he σ H0 R0 H R E _ λv H1 R1 E1 s1 e1=>⟨e1,hf σ H0 R0 H1 R1 E1 _ λv2 H2 R2 E2 s2 e2=>⟨λb hb hv=>?_,λhn=>?_⟩⟩)
 ·obtain⟨h1,h2⟩ | ⟨ys,b',h1,h2,o',X5,n,h3⟩:=vK (x:=k) hp
  ·exact XS h1 hb
  ·rw[hv] at h2;cases h2
   refine q _ H2 R2 E2 `E ?_;rw[h1];exact⟨b,rfl,.inr ⟨o',X5,n,h3⟩⟩
 ·refine q _ H2 R2 E2 `E ?_;rw[hn];exact e2
def QD (K:Xt)(a:Addr)(n:Nat):It:=
 ⟨λi H=>∃xs,bu K H a xs/\xs.length=n/\i<n,λi H x H'=>H'=H/\∀xs,bu K H a xs->xs[n-1-i]?∣x,λi _=>n<=i⟩
theorem Ek (a it:Addr)(n:Nat):Turn P w K tg (QD K a n) [it] it (λi h=>i<=n/\h.IsRevIter it a ((n:Int)-1-(i:Int))) where
 mem:=`d
 obj:=λi h st b hb=>by
  let e:b=it:= ~~~hb
  subst e;let⟨_,o,e,c,d⟩:=st;exact⟨o,e,λv z=>by rw[d] at z;cases z⟩
 keep:=λi h h' st k=>⟨st.1,st.2.at λo e=>k it `d o e⟩
 item:=by
  intro X hP hw hK hc i X3 s σ H E I hf st hg;subst hP hw hK;let⟨xs,hq,hl,hi⟩:=hg;let⟨X5,rv,p,hz⟩:=I.list hq;let hx:xs[n-1-i]?=some xs[n-1-i]:=So `a;let⟨u,hu,ru⟩:=rv.get hx;let⟨f0,f1,f2,f3,f4,f5⟩:=hf it `d;let st0:s.heap.IsRevIter it a (((n-1-i:Nat)):Int):=by rw[show(((n-1-i:Nat)):Int)=(n:Int)-1-(i:Int) by cbv];exact st.2
  refine wpAny_pyNext_rev_item st0 p.isList (x:=u) (~~~hu) λh' Zw sb=>?_;let I1:Inv X X3 σ H {s with heap:=h'}:=I.turned (t':=s.toks) (λb o hb e=>(sb.2 b hb).trans e) f0 f1 f3 f4 f5;let st2:h'.IsRevIter it a ((n:Int)-1-((i+1:Nat):Int)):=by rw[show(n:Int)-1-((i+1:Nat):Int)=(((n-1-i:Nat)):Int)-1 by cbv];exact Zw
  let⟨o,e,c,d⟩:=id st2;exact⟨u,rfl,qo (s:={s with heap:=h'}) e c d `c ⟨_,H,I1,ru,⟨rfl,λys hy=>by rw[I.nH hy hq];exact hx⟩,⟨`a,st2⟩,λb hb=>(hf b hb).1⟩⟩
 done:=by
  intro X hP hw hK hc i X3 s σ H E I hf st hg;subst hP hw hK;let⟨f0,f1,f2,f3,f4,f5⟩:=hf it `d;let⟨Zi,st⟩:=st;let e:(n:Int)-1-(i:Int)= -1:=by have:n<=i:=hg;cbv
  rw[e] at st;exact wpAny_pyNext_rev_end (I.ok.hd hc) st λh' eb=>⟨rfl,I.turned (t':=s.toks) (λb o hb e=>eb b o hb e) f0 f1 f3 f4 f5⟩
 self:=λ_ _ _ _ _ st h=>wpAny_pyIter_revIter st.2 h
variable {ks:RU}
def RM (K:Xt)(ta:TA):TI:=λσ H R=>ta σ H λvs H1=>∃a xs,vs=[.ref a]/\bu K H1 a xs/\R (QD K a xs.length) H1
theorem JP {a:Expr}{p:Pos}(hg:Gl X "reversed")(hm:X.mg "reversed"=none)(ha:PA X [a] ta)(hs:fL X a:=by rfl):PI X tg (.Call (.Name "reversed" p) [a] [] pos) (RM X.K ta):=by
 intro X3 s σ H R I h;refine Call_ (i7 I hg hm PyProof.Rows.boot_reversed (Vf `T hs rfl));let⟨l,xs,e,hq,q⟩:=q1;subst e;cases r1 with
 | cons r rr=>
   cases rr
   cases r
   let⟨X5,rv,pl,hz⟩:=I1.list hq;let hl:=rv.length;refine call_reversed_list pl.isList ?_;let I2:Inv X X3 σ H1 {s1 with heap:=s1.heap.push (revObj l ((X5.toArray.size:Int)-1))}:=I1.kept (t':=s1.toks) λb o e=>W6 _ e;let it0:(s1.heap.push (revObj l ((X5.toArray.size:Int)-1))).IsRevIter ⇑s1 l ((xs.length:Int)-1-((0:Nat):Int)):=⟨_,W8 _ rfl,rfl,by
    rw[show((xs.length:Int)-1-((0:Nat):Int))=((X5.toArray.size:Int)-1) by simp;cbv];rfl⟩
   refine wpAny_pyIter_revIter it0 ?_;refine⟨⇑s1,[⇑s1],_,_,H1,rfl,I2,Ek l _ xs.length,⟨UL _,it0⟩,λb hb=>?_,q⟩;let e:b=⇑s1:= ~~~hb
   subst e;exact I1.ka (UJ _) (I1.X8.fresh (UJ _))
theorem KI {a:Expr}{p:Pos}{xs:`x}(hm:X.mg "reversed"=none)(ha:EV X a Z (ae r) xs Γ1)(hs:fL X a:=by rfl)(hg:Gl X "reversed":=by rfl):IV X tg (.Call (.Name "reversed" p) [a] [] pos) Z r xs.reverse Γ1:=by
 refine⟨_,JP hg hm `be hs,λσ H0 R0 H R E Rq q=>ha σ H0 R0 H R E _ λv H1 R1 E1 s1 e1=>?_⟩;let⟨a,vs,rfl,hp,pp,z⟩:=e1;let hvl:=pp.length;refine⟨a,vs,rfl,bu.of (E1.sub _ _ hp),q _ H1 R1 E1 s1 (by rw[Ul];exact z) λH' R' sR sH i=>⟨λx hx=>?_,λhi=>?_⟩⟩
 ·let hq:bu X.K H' a vs:=bu.of (sH _ _ (sR _ _ hp));let hi:i<xs.length:=by have:=(Sn.mp hx).1;rwa [Ul] at this
  rw[Uz hi] at hx;let⟨v,hv,hr⟩:=eC pp hx;refine⟨⟨vs,hq,rfl,`a⟩,λv' H2 hy=>?_⟩;let⟨rfl,hy⟩:=hy;have:=hy vs hq;rw[show vs.length-1-i=xs.length-1-i by cbv,hv] at this;cases this
  exact⟨R',Ext.refl sH,r.mono sR hr⟩
 ·rw[Ul] at hi;show vs.length<=i;cbv
theorem Dm (i:Nat){xs ys:`x}(he:EV X e Z (ae r) ys Γ1)(hΓ:`ay)(hΓ1:Γ1[i]?∣.mu r xs)(hz:xs.length+ys.length<=Vn)(h:N (Γ1.set i (.mu r (xs++ys))))(hN:`p)(YH:Vv (.Call (.Attribute `m "extend" ap) [e] [] cp) none pos.line X.env=pure false:=by rfl)(Yd:fA X `m "extend":=by rfl)(Yt:nk X cp [e]:=by rfl)(Yc:`ae=true:=by rfl)(hs:dk X e []:=by rfl):W1 X (.Expr (.Call (.Attribute `m "extend" ap) [e] [] cp) pos) Z N T:=λσ H0 R0 H R E D dn dr=>by
 let⟨a,vs,ea,ha,hR,pp⟩:=E.ent i _ hΓ;refine sS (eD (ie WW PySem.F.slot_list_extend PySem.F.type_list_extend D2 (aX hN) `be Yd Yt Yc hs rfl) YH) ?_;refine⟨.ref a,am ea,.inl ⟨rfl,vs,bu.of ha⟩,he σ H0 R0 H R E _ λu H1 R1 E1 s1 e1=>?_⟩;let⟨b,ws,rfl,hb,pw,hw⟩:=e1;let⟨a',Yy,YC,YT,YI,Y2⟩:=E1.ent i _ hΓ1;rw[ea] at YC;cases YC
 refine⟨a,b,Yy,ws,rfl,rfl,YT,E1.sub _ _ hb,by rw[Y2.length,pw.length];exact hz,?_⟩;exact dn σ _ R1 _ (E1.upd (en:=.mu r (xs++ys)) hΓ1 rfl ea YI ⟨a,_,rfl,aG,YI,dM Y2 pw⟩) s1 h
theorem zo {d:Expr}{kvs:List (Int×V)}{k:Int}(hu:`bc)(he:EV X e Z ah k Γ1)(hd:EV X d Γ1 n5 kvs Γ2)(hm:VI .NotIn d=false:=by first | exact tJ _ | with_unfolding_all rfl):TV X (.Compare e [.NotIn] [d] pos) Z (!jf kvs k) Γ2:=by
 intro σ H0 R0 H R E Q q;refine tS (mF (lR hu aO aO) hm) (he σ H0 R0 H R E _ λv H1 R1 E1 s1 e1=>hd σ H0 R0 H1 R1 E1 _ λu H2 R2 E2 s2 e2=>?_);cases e1
 let⟨p,rfl,hp⟩:=e2;refine⟨p,_,rfl,iC.k (k:=Sum.inl k) (E2.sub _ _ hp),_,rfl,?_⟩;rw[mZ];exact q H2 R2 E2 `E
abbrev xw (ks:RU):List (Key×V):=ks.map λk=>(Sum.inr k,V.bl true)
def tU (a:Addr)(ks:RU):ou where
 fp:=[a]
 R:=λK H R v=>v= .ref a/\H a∣(.dK (xw ks))
 loc:=λhH hR ⟨e,h1⟩=>⟨e,(hH a `d).trans h1⟩
 has:=λ⟨e,h1⟩ b hb=>by rw[Su.mp hb,h1];exact Va _
theorem WS.OZ (i:Nat)(hΓ:Z[i]?∣(.di []))(h:∀a,WS X Y1 (Z.set i (.ob (tU a []))) N T):WS X Y1 Z N T:=λσ H0 R0 H R E D dn dr=>by
 let⟨a,ea,ha,hR⟩:=E.ent i _ hΓ;refine h a σ H0 R0 H R (E.tell hΓ ⟨⟨.ref a,ea,rfl,ha⟩,λb hb=>?_⟩ λb w=>?_) D dn dr
 ·rw[Su.mp hb];exact hR
 ·rw[show b=a from Su.mp w];exact cf.mpr ea
theorem EG (k:Str):∀ks:RU,du (xw ks) (Sum.inr k:Key)=if k∈ks then some (.bl true) else none
 | []=>rfl
 | x::ks=>by
   by_cases e:x=k
   ·show du ((Sum.inr x,V.bl true)::xw ks) _=_;rw[dS (p:=((Sum.inr x:Key),V.bl true)) (by rw[e]),XU (by rw[e];exact Sz)]
   ·show du ((Sum.inr x,V.bl true)::xw ks) _=_;rw[dD (p:=((Sum.inr x:Key),V.bl true)) (λz=>e (Sum.inr.inj z)),EG k ks];by_cases h:k∈ks
    ·rw[XU h,XU (Sv _ h)]
    ·rw[XT h,XT λz=>by obtain q | q:=SF.mp z;exact e q.symm;exact h q]
theorem Jv (i:Nat){ke ve:Expr}{k:Str}(hu:`bc)(hk:EV X ke Z ak k Z)(hv:PE X ve (tC (.bl true)))(hΓ:Z[i]?∣(.ob (tU a ks)))(hn:k∉ks)(hz:ks.length<Vn)(h:N (Z.set i (.ob (tU a (ks++[k])))))(hN:`p)(hs:Vv ve (some (.Subscript `m ke p2)) pos.line X.env=pure false:=by rfl):W1 X (.Assign [.Subscript `m ke p2] ve pos) Z N T:=λσ H0 R0 H R E D dn dr=>by
 refine sS (uT hu (aX hN) aO hv hs) ?_;let⟨⟨v,ea,rfl,ha⟩,hR⟩:=E.ent i _ hΓ;refine⟨.ref a,am ea,hk σ H0 R0 H R E _ λu H1 R1 E1 s1 e1=>?_⟩;let⟨⟨v,YC,rfl,YT⟩,YI⟩:=E1.ent i _ hΓ;cases e1
 refine⟨a,_,rfl,rC.k (k:=Sum.inr k) YT (by rw[Ss];exact hz),?_⟩;rw[rh (.bl true) (by rw[EG,XT hn])];let e:xw ks++[((Sum.inr k:Key),V.bl true)]=xw (ks++[k]):=by unfold xw;rw[SN];rfl
 rw[e];exact dn σ _ R1 _ (E1.oR (en:=.ob (tU a (ks++[k]))) hΓ (a:=a) (by show a∈[a];simp) ⟨⟨.ref a,YC,rfl,aG⟩,YI⟩ λc w=>.inl w) s1 h
theorem EX (i:Nat){k:Str}(hu:`bc)(he:EV X e Z ak k Z)(hΓ:Z[i]?∣(.ob (tU a ks)))(hN:`p):TV X (.Compare e [.NotIn] [.Name x p1] pos) Z (!decide (k∈ks)) Z:=by
 intro σ H0 R0 H R E Q q;refine tS (mF (lR hu aO (aX hN)) (by with_unfolding_all rfl)) `V;let⟨⟨v,ea,rfl,ha⟩,hR⟩:=E1.ent i _ hΓ;cases e1
 refine⟨.ref a,am ea,a,_,rfl,iC.k (k:=Sum.inr k) ha,_,rfl,?_⟩;rw[EG];let e:(if k∈ks then some (V.bl true) else none).isSome=decide (k∈ks):=by by_cases h:k∈ks<;>simp[h]
 rw[e];exact q H1 R1 E1 s1
variable {key:`aa}
section
variable {K:Type} [DecidableEq K]{knd:KeyKind prog w K}
theorem EK {d:Addr}{kvs:List (K×Value)}{k:K}{dflt:`aa}(ZC:knd.is k key=true)(hm:s.heap.DictOf knd d kvs)(hthere:∀v,VH kvs k∣v->Q v {s with toks:=s.toks+1})(hnew:VH kvs k=none->∀h',h'.DictOf knd d (Wv kvs k dflt)->Xa d s.heap h'->Q dflt {s with heap:=h',toks:=s.toks+1})(hsz:kvs.length<=Vn):wpAny `z A (Ww d key dflt) Q E s:=by
 let hmap:=hm.mapOf;let⟨o,es,ep,ho,hc,hd,hk,hp,hn⟩:=hm;let hes:es.size<=Vn:=by
  let e1:=hp.length;let e2:es.toList.length=es.size:=`d
  cbv
 let⟨o2,es2,ep2,ho2,hc2,hd2,Z8,hf⟩:=hmap;rw[ho] at ho2;cases ho2
 rw[hd] at hd2;cases hd2
 unfold Ww
 try with_reducible refine VX ?_
 refine Vp (knd.pyHash ZC ?_);refine Vp (wpAny_dictFind_of (s:={s with toks:=s.toks+1}) ZC ho hd hk ?_);let hidx:(es.findIdx? λe=>knd.is k e.key)=kvs.findIdx? λkv=>decide (kv.1=k):=by
  rw[← hp.findIdx k];let⟨l⟩:=es;simp
 cases hi:es.findIdx? λe=>knd.is k e.key with
 | some i=>
   let hfk:VH kvs k=(es[i]?).map (·.val):=by rw[← hf k,findBy_of_findIdx?,hi]
   refine Vp (wpAny_dictEntries (s:={s with toks:=s.toks+1}) ho hd ?_);cases he:es[i]? with
   | none=>
     exfalso;have:=Array.findIdx?_eq_some_iff_findIdx_eq.mp hi;let YS:i<es.size:=this.1;rw[Array.getElem?_eq_getElem YS] at he;exact nomatch he
   | some e=>
     rw[he] at hfk;exact Vp (V8 (Vs (hthere e.val hfk)))
 | none=>
   let hfk:VH kvs k=none:=by rw[← hf k,findBy_of_findIdx?,hi]
   let hnot:k∉kvs.map (·.1):=not_mem_of_findIdx_none (hidx▸hi);let hany:¬`bo=true:=by
    rw[UA];rintro⟨kv,hkv,he⟩;exact hnot (SU.mpr ⟨kv,hkv,XW he⟩)
   refine Vp (V8 (Vp (wpAny_updateDictKeys (hz:=hes) (s:={s with toks:=s.toks+1}) ho hd (Vs (hnew hfk _ ⟨_,_,ep+1,Xb _ ho (Obj.isFreed_of_dict (Obj.data_mapDictKeys hd _)),
    hc.mapDictKeys _,Obj.data_mapDictKeys hd _,hk.push ZC _,?_,?_⟩ (Xa.update ..))))))
   ·rw[Wv,XT hany];have:=hp.append ZC (knd.hash k) dflt;let⟨l⟩:=es;simpa using this
   ·rw[Wv,XT hany,SN,Tf];refine⟨hn,`d,?_⟩;intro a ha b hb;simp only[Ta,Uk,Su] at hb;subst hb;exact λe=>hnot (e▸ha)
theorem Fy {d:Addr}{kvs:List (K×Value)}{k:K}(ZC:knd.is k key=true)(hd:(d==VD)=false)(dflt:`aa)(hsz:kvs.length<=Vn):
 MeetsIn prog w (Builtin.«dict.setdefault» ⟨[.ref d,key,dflt],[]⟩) (λ_ R s=>s.heap.DictOf knd d kvs/\
  (∀v,VH kvs k∣v->R (.ok (.ret v)) {s with toks:=s.toks+1})/\
  (VH kvs k=none->∀h',h'.DictOf knd d (Wv kvs k dflt)->Xa d s.heap h'->R (.ok (.ret dflt)) {s with heap:=h',toks:=s.toks+1})):=
 .of_wp λA R s ⟨hm,h1,h2⟩=>by
  unfold Builtin.«dict.setdefault»;refine Vp ?_;unfold Builtin.Dict.keyAndDefault;refine Vp (wpAny_notOrdered_dict hm.mapOf.typeIs ?_);show wpAny _ _ (pure (d,key,some dflt)) _ _ s;refine Vs ?_;show wpAny _ _ (if(d==VD)=true then _ else(Ww d key dflt >>=_)) _ _ s;rw[XT (by rw[hd];exact R9)];exact Vp (EK ZC hm (λv hv=>Vs ⟨v,rfl,h1 v hv⟩) (λhn h' hm' hs'=>Vs ⟨dflt,rfl,h2 hn h' hm' hs'⟩) hsz)
end
variable {F:R7}{iter:Expr}
noncomputable def Nl:V->List V->Hp->VK->Prop:=λx vs H Q=>∃(a:Addr)(F:R7)(k v:Int),x= .ref a/\vs=[.int k,.int v]/\H a∣(.dK (cR (cK F)))/\F.length<Vn/\∀u,Q u (if(bq F k).isSome then H else upd H a (.dK (cR (cK (F++[(k,v)])))))
theorem Jn:zm X "dict.setdefault" Nl:=by
 intro X3 s σ H x vs u us Q I rx rv h;let⟨a,F,k,v,rfl,rfl,hH,hz,q⟩:=h;cases rx
 let⟨u1,u2,rfl,⟨t,rfl⟩,⟨t2,rfl⟩⟩:=vals2 rv;let⟨z,hd,kvs,rel,dd⟩:=Av I.X8 hH;let hzl:kvs.length<=Vn:=by rw[← rel.length];exact z
 let ZR:=rel.val (Sum.inl k:Key);rw[lO] at ZR;refine call_meetsIn PySem.F.slot_dict_setdefault dd.typeIs PySem.F.entry_dict_setdefault (PySem.F.args_dict_setdefault_3 _ _ _) (Fy (knd:=cH X.prog X.w) (kvs:=kvs) (ku (k:=Sum.inl k) (u:=.int k t) ⟨t,rfl⟩) hd (.int v t2) hzl) ⟨dd,λw' hw=>?_,λhn h' dd' hs=>?_⟩
 ·cases e:bq F k with
  | none=>rw[e,hw] at ZR;cases ZR
  | some y=>
    rw[e,hw] at ZR;have:=q (.int y);rw[e,XU (show(some y).isSome=true from rfl)] at this;exact⟨.int y,H,I.tok _,ZR,this⟩
 ·cases e:bq F k with
  | some y=>rw[e,hn] at ZR;cases ZR
  | none=>
    have:=q (.int v);rw[e,XT `c] at this;let hput:putK (cR (cK F)) (Sum.inl k:Key) (.int v)=cR (cK (F++[(k,v)])):=by
     rw[w8];unfold jK;rw[e,XT `c]
    let hl:(cR (cK (F++[(k,v)]))).length<=Vn:=by unfold cR cK;simp;cbv
    refine⟨.int v,_,pU I (by rw[hH];exact XR) hs (let ⟨q,_,_,hq,_⟩:=dd';⟨q,hq⟩) (xy hl hd ?_ dd'),⟨t2,rfl⟩,this⟩;rw[← hput];exact rel.put (Sum.inl k:Key) ⟨t2,rfl⟩
theorem set_same.{u}{A:Type u}{l:List A}{i:Nat}{x:A}(h:l[i]?∣x):l.set i x=l:=by
 refine Tr λj=>?_;by_cases e:i=j
 ·subst e;rw[SG (Sn.mp h).1,h]
 ·rw[SX e]
theorem Ln (i:Nat){f:Expr}{k v:Int}(he:EV X e Z ah k Z)(hf:EV X f Z ah v Z)(hΓ:Z[i]?∣(.di (cK F)))(hz:F.length<Vn)(h:N (Z.set i (.di (cK (if(bq F k).isSome then F else F++[(k,v)])))))(hN:`p)(YH:Vv (.Call (.Attribute `m "setdefault" ap) [e,f] [] cp) none pos.line X.env=pure false:=by rfl)(Yd:fA X `m "setdefault":=by rfl)(Yt:nk X cp [e,f]:=by rfl)(Yc:`ae=true:=by rfl)(hs:Vt [e,f] X.env=(false,eval e X.env)::Vt [f] X.env:=by rfl)(YE:dk X f []:=by rfl)(Yo:eV X cp [f]:=by rfl):
 W1 X (.Expr (.Call (.Attribute `m "setdefault" ap) [e,f] [] cp) pos) Z N T:=λσ H0 R0 H R E D dn dr=>by
 let⟨a,ea,ha,hR⟩:=E.ent i _ hΓ;refine sS (eD (ie PySem.F.plainAttrs_dict PySem.F.slot_dict_setdefault PySem.F.type_dict_setdefault Jn (aX hN) (aK aO (aK aO br YE) hs) Yd Yt Yc hs Yo) YH) ?_;refine⟨.ref a,am ea,.inr (.inr (.inl ⟨rfl,.inl ⟨_,ha⟩⟩)),he σ H0 R0 H R E _ λv1 H1 R1 E1 s1 q1=>hf σ H0 R0 H1 R1 E1 _ λv2 H2 R2 E2 s2 q2=>?_⟩;cases q1
 cases q2
 let⟨a',YC,YT,YI⟩:=E2.ent i _ hΓ;rw[ea] at YC;cases YC
 refine⟨a,F,k,v,rfl,rfl,YT,hz,λu=>?_⟩;cases q:(bq F k).isSome with
 | true=>
   rw[q,XU rfl] at h;rw[XU rfl];refine dn σ H2 R2 _ E2 `E ?_;rwa [set_same hΓ] at h
 | false=>
   rw[q,XT `c] at h;rw[XT `c];exact dn σ _ R2 _ (E2.upd (en:=.di (cK (F++[(k,v)]))) hΓ rfl ea YI ⟨a,rfl,aG,YI⟩) `E h
def sZ (X:Cx)(e:Expr)(Z:Ga)(k:Int):Prop:=∀(σ:St)(H0 R0 H R:Hp),ar X.K σ H0 R0 H R Z->∀(H':Hp)(Q:VK),av R H'->Q (.int k) H'->fE X e σ H' Q
theorem yH (i:Nat){y:Int}(hΓ:Z[i]?∣.im ah y)(hN:`p):sZ X `bE Z y:=λσ H0 R0 H R E H' Q s q=>by
 let⟨v,e,h⟩:=E.ent i _ hΓ;cases h
 exact eS (aX hN) ⟨_,am e,q⟩
theorem IM (i:Nat){ke ve le ue:Expr}{k l v u:Int}(hk:sZ X ke Z k)(hl:sZ X le Z l)(hv:PE X ve (tC (.int v)))(hu:PE X ue (tC (.int u)))(hkl:k≠l)(h:N (Z.set i (.di (cK [(k,v),(l,u)]))))(hN:X.N.Nodup:=by first | assumption | decide)(hi:X.N[i]?∣x:=by rfl)(hx:`aq)(hs:Vv (.Dict [some ke,some le] [ve,ue] p2) (some `m) pos.line X.env=pure false:=by rfl)(hf:autoParam (fU X x) Zj):
 W1 X (.Assign [.Name x p1] (.Dict [some ke,some le] [ve,ue] p2) pos) Z N T:=λσ H0 R0 H R E D dn dr=>by
 refine sS (lr hN hi hx (HB (xG aO hv (xG aO hu HU)) rfl rfl `d `d) hs hf) λp hp=>?_;let sR:av R (upd H p (.dK [])):=E.sub.trans (av.fresh hp _);refine hk σ H0 R0 H R E _ _ sR ?_;refine hl σ H0 R0 H R E _ _ sR ?_;refine⟨aG,[(Sum.inl k,.int v),(Sum.inl l,.int u)],rfl,(by show 2<=15;decide),?_⟩;let E1:=E.grow (Ext.ee E.sub hp (.dK (cR (cK [(k,v),(l,u)]))));let e:upd (upd H p (.dK [])) p (.dK (nu [] [(Sum.inl k,.int v),(Sum.inl l,.int u)]))=upd H p (.dK (cR (cK [(k,v),(l,u)]))):=by
  rw[Im];congr 2;show putK [((Sum.inl k:Key),V.int v)] (Sum.inl l) (.int u)=_;rw[rh (.int u) (by
   rw[dD (p:=((Sum.inl k:Key),V.int v)) (λz=>hkl (Sum.inl.inj z))];rfl)]
  rfl
 rw[e];exact dn _ _ R _ (E1.Bo (u:=.dK (cR (cK [(k,v),(l,u)]))) (en:=.di (cK [(k,v),(l,u)])) i ⟨p,rfl,aG,E.sub.free hp⟩ (E.ext.h.free hp) λj e _ q w=>E.off hp j e q w) `Z h
theorem Ic (hz:xs.length<=Vn)(h:EV X iter Z au (.tup xs) Γ1):IV X tg iter Z au xs Γ1:=by
 refine⟨_,BY aO,λσ H0 R0 H R E Rq q=>h σ H0 R0 H R E _ λv H1 R1 E1 s1 e1=>?_⟩;cases e1 with
 | @tup a vs _ hp pp=>
   let Z7:∀H' R':Hp,av R1 R'->av R' H'->dY X.K H' a vs:=λH' R' sR sH=>dY.of (sH _ _ (sR _ _ hp));refine⟨a,rfl,⟨_,Z7 H1 R1 `Z E1.sub⟩,q _ H1 R1 E1 s1 hz λH' R' sR sH i=>⟨λx hx=>?_,λhi=>⟨_,Z7 H' R' sR sH,by rw[pp.pair.length];exact hi⟩⟩⟩;let⟨v,hv,hr⟩:=eC pp.pair hx;refine⟨⟨_,_,Z7 H' R' sR sH,hv⟩,λv2 H2 hy=>?_⟩;let⟨rfl,hy⟩:=hy;have:=hy _ (Z7 _ R' sR sH);rw[hv] at this;cases this
   exact⟨R',Ext.refl sH,hr.mono sR⟩
theorem nO (i:Nat){p:Pos}(hm:X.mg "len"=none)(hΓ:Z[i]?∣(.di (cK F)))(hN:`p)(hs:fL X `m:=by rfl)(hg:Gl X "len":=by rfl):EV X (.Call (.Name "len" p) [.Name x p1] [] pos) Z ah (F.length:Int) Z:=by
 intro σ H0 R0 H R E Q q;let⟨a,ea,ha,hR⟩:=E.ent i _ hΓ;refine eS (eX vh hg hm VJ (aK (aX hN) br hs) `c `c hs) ⟨.ref a,am ea,a,_,rfl,ha,?_⟩;unfold cR cK;rw[Ss,Ss];exact q _ H R E `Z rfl
abbrev jh:=Str×Str×Int×Int×Int
def fP (w:jh):PV:=.tup [.str w.1,.str w.2.1,.int w.2.2.1,.int w.2.2.2.1,.int w.2.2.2.2]
def pG:Rep jh:=⟨λK H v w=>au.R K H v (fP w),λs h=>au.mono s h⟩
theorem Dk {w:jh}(h:pG.R K R v w):∃a,v= .ref a/\R a∣(.tup [.str w.1,.str w.2.1,.int w.2.2.1,.int w.2.2.2.1,.int w.2.2.2.2]):=by
 let h:fc R v (fP w):=h;unfold fP at h;cases h with
 | tup hp pp=>
   cases pp with
   | cons h1 t=>cases t with
     | cons h2 t=>cases t with
       | cons h3 t=>cases t with
         | cons h4 t=>cases t with
           | cons h5 t=>cases t;cases h1;cases h2;cases h3;cases h4;cases h5;exact⟨_,rfl,hp⟩
theorem za {K:Xt}{R:Hp}:∀{vs:`K}{ws:List jh},PySem.Paired (au.R K R) vs (ws.map fP)->PySem.Paired (pG.R K R) vs ws
 | _,[],.nil=>.nil
 | _,_::_,.cons h t=>.cons h (za t)
theorem EV.Ql {ws:List jh}(h:EV X e Z (ae au) (ws.map fP) Γ1):EV X e Z (ae pG) ws Γ1:=h.re λK R v ⟨a,vs,e,q,p,z⟩=>⟨a,vs,e,q,za p,by rw[Ss] at z;exact z⟩
theorem G7 (i1 i2 i3 i4 i5:Nat){x1 x2 x3 x4 x5:Str}{k:Nat}{p3 p4 p5:Pos}(hc:X.calm=true:=by rfl)(hN:X.N.Nodup:=by first | assumption | decide)(h1:X.N[i1]?∣x1:=by rfl)(l1:autoParam (Loc X.env.scope x1) Zk)(f1:autoParam (fU X x1) Zj)(h2:X.N[i2]?∣x2:=by rfl)(l2:autoParam (Loc X.env.scope x2) Zk)(f2:autoParam (fU X x2) Zj)(h3:X.N[i3]?∣x3:=by rfl)(l3:autoParam (Loc X.env.scope x3) Zk)(f3:autoParam (fU X x3) Zj)(h4:X.N[i4]?∣x4:=by rfl)(l4:autoParam (Loc X.env.scope x4) Zk)(f4:autoParam (fU X x4) Zj)(h5:X.N[i5]?∣x5:=by rfl)(l5:autoParam (Loc X.env.scope x5) Zk)(f5:autoParam (fU X x5) Zj):
 BG X (.Tuple [.Name x1 p1,.Name x2 p2,.Name x3 p3,.Name x4 p4,.Name x5 p5] k pos) pG (λw Z=>((((Z.set i1 (.im ak w.1)).set i2 (.im ak w.2.1)).set i3 (.im ah w.2.2.1)).set i4 (.im ah w.2.2.2.1)).set i5 (.im ah w.2.2.2.2)):=λσ H0 R0 H R Z v w E h Q q=>by
 let⟨a,rfl,ha⟩:=Dk h;exact gS (xv hc (f7 (gA hN h1 l1 f1) (f7 (gA hN h2 l2 f2) (f7 (gA hN h3 l3 f3) (f7 (gA hN h4 l4 f4) (f7 (gA hN h5 l5 f5) uJ)))))) ⟨a,_,rfl,dY.of (E.sub _ _ ha),rfl,_,_,rfl,_,_,rfl,_,_,rfl,_,_,rfl,_,_,rfl,rfl,q _ (((((E.set i1 (r:=ak) rfl).set i2 (r:=ak) rfl).set i3 rfl).set i4 rfl).set i5 rfl)⟩
theorem WS.unb (i:Nat){xs:`x}(hΓ:Z[i]?∣(.ob `aN))(h:WS X Y1 (Z.set i (.mu r xs)) N T):WS X Y1 Z N T:=λσ H0 R0 H R E D dn dr=>by
 let⟨ea,⟨vs,ha,pp⟩,hR⟩:=cn (E.ent i _ hΓ);refine h σ H0 R0 H R (E.tell (en:=.mu r xs) hΓ (by rw[ea];exact⟨a,vs,rfl,ha,hR,pp⟩) λb w=>?_) D dn dr;rw[ea] at w;exact w
theorem WS.OT (i:Nat)(hΓ:Z[i]?∣(.di (cK F)))(h:WS X Y1 (Z.set i (.im h9 F)) N T):WS X Y1 Z N T:=λσ H0 R0 H R E D dn dr=>by
 let⟨a,ea,ha,hR⟩:=E.ent i _ hΓ;let h0:H0 a=none:=E.new i _ a hΓ rfl ea;let E1:ar X.K σ H0 R0 H R (Z.set i .no):=E.tell (en:=.no) hΓ trivial λb w=>by cases w
 let off:Off a σ (Z.set i .no):=λj e q w=>by
  obtain⟨rfl,rfl,_⟩ | ⟨hj,q1⟩:=set_at q
  ·cases w
  ·exact hj (E.ds j i e _ a q1 hΓ w (cf.mpr ea))
 let E2:=E1.su ha hR h0 off;let hl:i<Z.length:=(Sn.mp hΓ).1;let E3:=E2.tell (i:=i) (en:=.im h9 F) (e0:=.no) (SG hl) ⟨.ref a,ea,a,rfl,aG⟩ λb w=>by cases w
 rw[TR] at E3;exact h σ H0 R0 H _ E3 D (λσ2 H2 R2 Γ2 E4 s2=>dn σ2 H2 R2 Γ2 E4 ((av.fresh hR _).trans s2)) dr
theorem xS {a:Expr}{p:Pos}(hm:X.mg "len"=none)(ha:EV X a Z h9 F Γ1)(hs:fL X a:=by rfl)(hg:Gl X "len":=by rfl):EV X `aX Z ah (F.length:Int) Γ1:=
 EV.cast (HX (kvs:=cK F) hm (EV.rep ha λ_ _ q=>q) hs hg) (by unfold cK;rw[Ss])
theorem B0 :EV X (.Constant .none j pos) Z nY () Z:=λσ H0 R0 H R E Q q=>eS JO (q .Ye H R E `Z rfl)
noncomputable def GD:Ent->Prop
 | .no=>True
 | .im _ _=>True
 | _=>False
noncomputable def wm:Ga->Prop
 | []=>True
 | e::r=>GD e/\wm r
theorem wm.fp:∀{Z:Ga},wm Z->∀(i:Nat)(e:Ent),Z[i]?∣e->∀o,e.fp o=[]
 | e::_,⟨h,_⟩,0,_,q,o=>by
   cases q
   cases e with
   | no=>rfl
   | im _ _=>rfl
   | mu _ _=>exact h.elim
   | di _=>exact h.elim
   | ob _=>exact h.elim
 | _::r,⟨_,h⟩,i+1,e,q,o=>wm.fp h i e (~~~q) o
 | [],_,i,e,q,o=>by simp at q
theorem ar.Gk (E:`y)(fl:wm Z):ar K σ H R H R Z:=
 ⟨⟨av.refl _,av.refl _,E.sub,λ_ _=>rfl⟩,E.ent,(λi e a q w=>by rw[fl.fp i e q] at w;cases w),(λi j e e' a q q' w w'=>by rw[fl.fp i e q] at w;cases w),E.len⟩
variable {elt:Expr}{scope:Scope}{fr:RU}{ix:List Nat}{J:It}{ra:Rep α}{rb:Rep β}
def Mp (X:Cx)(e:Expr)(Z:Ga){α:Type}(r:Rep α)(P:List α->Prop)(Γ':Ga):Prop:=
 ∀(σ:St)(H0 R0 H R:Hp),ar X.K σ H0 R0 H R Z->∀Q:VK,(∀a vs ys H' R',ar X.K σ H0 R0 H' R' Γ'->av R R'->H' a∣.lst vs->R' a=none->H0 a=none->Off a σ Γ'->PySem.Paired (r.R X.K R') vs ys->ys.length<=Vn->P ys->Q (.ref a) H')->fE X e σ H Q
theorem bc.evr {ys:`x}{P:List α->Prop}(h:bc X e Z r ys Γ1)(hp:P ys):Mp X e Z r P Γ1:=λσ H0 R0 H R E Q q=>h σ H0 R0 H R E Q λa vs H' R' E' s' h1 h2 h3 h4 h5 h6=>q a vs ys H' R' E' s' h1 h2 h3 h4 h5 h6 hp
theorem A2 {cl:`aA}{own:RU}{xs:`x}{P:α->List β->Prop}{bf:α->Ga->Ga}{H1:Hp}{Q:VK}(E1:ar X.K σ H0 R0 H1 R1 Γ1)(src:Src X.K J R1 ra xs)(hz:xs.length<=Vn)(hb:∀(C:Addr)(s:Vo)(H:Hp)(ex:RY),BG `l tg ra bf)(hw:∀x,Wk `u (d9 own ix Γ1))(hfl:∀x,wm `u)(he:∀(C:Addr)(s:Vo)(H:Hp)(ex:RY) x,x∈xs->Mp `l elt `u rb (P x) `u)(q:∀a bs YW H' R',Ext H1 R1 H' R'->H' a=none->jr X.K rb H' R' bs YW->bs.Nodup->(∀b∈bs,H1 b=none/\R' b=none)->PySem.Paired P xs YW->(∀ys∈YW,ys.length<=Vn)->Q (.ref a) (upd H' a (.lst (bs.map .ref)))):
 ∃W:Nat->Nat->List V->St->Hp->Prop,(∃m,W 0 m [] (fw own ix σ) H1)/\∀i m ys σ' H',W i m ys σ' H'->
  ys.length<=Vn/\(`aC∨
  (J.go i H'/\∀x H2,J.yld i H' x H2->(λv σ H Q=>∀C s Hh ex,mn `o tg v σ H Q:TG) x σ' H2 λσ2 H3=>(λσ H Q=>∀C s Hh ex,mm `o [] σ H Q:TT) σ2 H3 λb H4=>
    if b=true then(λσ H Q=>∀C s Hh ex,fE `o elt σ H Q:TE) σ2 H4 λv H5=>∃m',m'<m/\W (i+1) m' (ys++[v]) σ2 H5 else∃m',m'<m/\W (i+1) m' ys σ2 H4)):=by
 refine⟨λi m ys σ' H'=>m=xs.length-i/\i<=xs.length/\∃R' bs YW,ar X.K σ' H1 R1 H' R' (d9 own ix Γ1)/\ys=bs.map .ref/\jr X.K rb H' R' bs YW/\bs.Nodup/\(∀b∈bs,H1 b=none/\R' b=none)/\PySem.Paired P (xs.take i) YW/\∀ys∈YW,ys.length<=Vn,⟨_,rfl,UL _,R1,[],[],yd E1 own ix,rfl,⟨rfl,λi b r h1=>by simp at h1⟩,T9,(λb hb=>by cases hb),(.nil:PySem.Paired P [] []),(λys hy=>by cases hy)⟩,?_⟩;rintro i m ys σ' H' ⟨rfl,hle,R',bs,YW,E',rfl,hrs,hnd,hbs,pq,hsz⟩;let hbl:bs.length=i:=by rw[hrs.1,← pq.length,SW];cbv
 let hys:(bs.map V.ref).length<=Vn:=by rw[Ss,hbl];cbv
 let⟨sgo,Y9⟩:=src H' R' E'.ext.r E'.sub i;refine⟨hys,?_⟩;by_cases YS:i<xs.length
 ·let⟨go,yl⟩:=sgo _ (So YS);let ZS:xs[i]∈xs:=S7 YS;let tk:(xs.take (i+1))=xs.take i++[xs[i]]:=by rw[S9,So YS];rfl
  refine .inr ⟨go,λv H2 hy C s Hh ex=>?_⟩;let⟨R2,x2,hr⟩:=yl v H2 hy;refine hb C s Hh ex σ' H1 R1 H2 R2 _ v _ (E'.grow x2) hr _ λσ2 E2=>?_;intro C s Hh ex;refine(eu (X:=a8 X scope cl C (own++fr) s Hh ex)) σ2 H2 R2 H2 R2 (E2.Gk (hfl _)) _ λH4 R4 E4 s4=>?_;rw[XU rfl];intro C s Hh ex;refine he C s Hh ex _ ZS σ2 H4 R4 H4 R4 (E4.Gk (hfl _)) _ λa vs zs H5 R5 E5 s5 ha hR h0 off pp hz' hP=>?_;let x5:Ext H' R' H5 R5:=x2.trans (E4.ext.trans E5.ext);let x25:Ext H2 R2 H5 R5:=E4.ext.trans E5.ext;let Zi:∀b∈bs,H' b≠none:=λb hb=>by
   let⟨r,hr⟩:=hrs.one hb;rw[hr];exact Va _
  let hold:∀b∈bs,b≠a:=λb hb e=>by
   have:H4 b≠none:=av.some (x2.h.trans E4.ext.h) (Zi b hb);exact this (e▸h0)
  refine⟨xs.length-(i+1),`a,rfl,YS,R5,bs++[a],YW++[zs],(E2.grow x25).weak (hw _),by rw[SN];rfl,?_,?_,λb hb=>?_,?_,λys hy=>?_⟩
  ·refine jr.snoc (jr.loc hrs (λc hc=>?_) x5.r) ha pp;cases e:H' c with
   | none=>exact XS e (Zi c hc)
   | some u=>exact x5.h c u e
  ·exact jF hnd λz=>hold a z rfl
  ·obtain z | z:=SK.mp hb
   ·exact⟨(hbs b z).1,(x5.old b (Zi b z)).trans (hbs b z).2⟩
   ·rw[Su.mp z];exact⟨(E'.ext.h.trans (x2.h.trans E4.ext.h)).free h0,hR⟩
  ·rw[tk];exact dM pq (.cons hP .nil)
  ·obtain z | z:=SK.mp hy
   ·exact hsz ys z
   ·rw[Su.mp z];exact hz'
 ·let e:i=xs.length:=`a
  subst e;rw[Td] at pq;exact .inl ⟨Y9 (UJ _),λa ha=>q a bs YW H' R' E'.ext ha hrs hnd hbs pq hsz⟩
theorem IQ (i:Nat){py Za:Pos}{cl:`aA}{own:RU}{xs:`x}{P:α->List β->Prop}{bf:α->Ga->Ga}(S:fu X scope cl own fr ix)(hit:IV X tg iter Z ra xs Γ1)(hb:∀(C:Addr)(s:Vo)(H:Hp)(ex:RY),BG `l tg ra bf)(hw:∀x,Wk `u (d9 own ix Γ1))(hfl:∀x,wm `u)(he:∀(C:Addr)(s:Vo)(H:Hp)(ex:RY) x,x∈xs->Mp `l elt `u rb (P x) `u)(h:∀a bs YW,PySem.Paired P xs YW->(∀ys∈YW,ys.length<=Vn)->N (Γ1.set i (.ob (sN rb a bs YW))))(YH:Vv `bG (some (.Name y py)) Za.line X.env=pure true:=by rfl)(hN:X.N.Nodup:=by first | assumption | decide)(hi':X.N[i]?∣y:=by rfl)(hx:`bk)(hc:X.calm=true:=by rfl)(hs:∀x,VA iter X.env x=pure x:=by intro _;rfl)(hf:autoParam (fU X y) Zj):
 W1 X (.Assign [.Name y py] `bG Za) Z N T:=λσ H0 R0 H R E D dn dr=>by
 let⟨wi,hi,hit⟩:=hit;refine sS (nW (i:=i) (g:=λv σ H Q=>∀C s Hh ex,mn `o tg v σ H Q) (tc:=λσ H Q=>∀C s Hh ex,mm `o [] σ H Q) (te:=λσ H Q=>∀C s Hh ex,fE `o elt σ H Q) YH hN hi' hx hc S hi
  `v hs hf) ?_
 refine hit σ H0 R0 H R E _ λJ H1 R1 E1 s1 hz src=>A2 (Q:=λv H'=>D.nx `bg H') E1 src hz hb hw hfl he λa bs YW H' R' xx ha hg hnd hbs pq hsz=>?_;let E2:=E1.grow xx;let E3:=E2.grow (Ext.ee E2.sub ha (.lst (bs.map .ref)));let inb:∀c∈bs,H' c≠none:=λc hc=>by
  let⟨r,hr⟩:=hg.one hc;rw[hr];exact Va _
 let nab:a∉bs:=λz=>inb a z ha;refine dn _ _ R' _ (E3.setG (en:=.ob (sN rb a bs YW)) i ⟨⟨.ref a,rfl,rfl,aG,hg.loc (λc hc=>aJ λz=>nab (z▸hc)) `Z,S5.mpr ⟨nab,hnd⟩⟩,λb hb=>?_⟩ (λb hb=>?_) λb hb j e _ qj w=>?_) `bA (h a bs YW pq hsz)
 ·obtain rfl | hb:=SF.mp hb
  ·exact E2.sub.free ha
  ·exact(hbs b hb).2
 ·obtain rfl | hb:=SF.mp hb
  ·exact E2.ext.h.free ha
  ·exact E1.ext.h.free (hbs b hb).1
 ·obtain rfl | hb:=SF.mp hb
  ·exact E2.off ha j e qj w
  ·exact(Ent.fz (E1.ent j e qj) w).1 (hbs b hb).1
theorem Hw {S:jt α}{qual:Str}{N ps:RU}{k:Nat}(F:`bK)(Sc:bD N ps (ao st))(hm:mg x∣.ref f)(hb:be K fd ps [])(len:∀xs qs T,S K xs qs T->qs.length+1=ps.length)(Yn:∀(X6:`aa)(A:Vu)(outer:List Env)(s:Vo)(H:Hp)(E:XK)(a:Addr)(xs:`x)(qs:List Pk)(T:List α->RT),bH k `ad->S K xs qs T->
  WS (eE d7 P w K mg base N qual (ao st) f X6 A outer s H E).gP (bF st) (.ob `aN::fm qs (N.length-1)) (λZ=>∃xs',Z[0]?∣(.ob (aF a r xs'))/\∀H0 H' R',T xs' H0 .Ye H' R') (vx K a r T)):aD P w K mg base x (k+1) (fR r S K):=by
 refine⟨f,fd,ps,?_,hm,F.kp,hb⟩;refine F.ok Sc `bu `W
 ·let⟨R,a,ws,xs,Yy,qs,T,rfl,_,_,_,_,p,hS,_⟩:=h;rw[SE,p.length];exact len xs qs T hS
 ·let⟨R,a,ws,xs,Yy,qs,T,rfl,sR,hR,ha,pp,p,hS,q⟩:=h;let hl:qs.length+1<=N.length:=by
   rw[len xs qs T hS];have:=congrArg List.length Sc.pre;rw[SW] at this;cbv
  refine⟨_,g8,Yn X6 A outer s H E a xs qs T hr hS (L2.start N (.ref a::Yy)) (del H a) R H R (nU sR hR ha pp p hl) {nx:=λ_ H'=>Q .Ye H',rt:=Q} (λσ' H' R' Γ' E' _ ⟨xs',hΓ,t⟩=>?_) λv H' R' xx t=>?_⟩
  ·let⟨ea,⟨YK,YT,Y2⟩,YI⟩:=cn (E'.ent 0 _ hΓ);exact q .Ye H' R' YK xs' E'.ext YT YI Y2 (t _ _ _)
  ·let⟨YK,xs',h1,h2,h3,h4⟩:=t;exact q v H' R' YK xs' xx h1 h2 h3 h4
theorem FV {S:jt α}{N ps:RU}{k:Nat}(D:Def K mg x st ps)(Yn:∀(f:Addr)(X6:`aa)(A:Vu)(outer:List Env)(s:Vo)(H:Hp)(E:XK)(a:Addr)(xs:`x)(qs:List Pk)(T:List α->RT),N.Nodup->bH k (A.deeper (Vi x (ao st) ⇑s f X6))->S K xs qs T->
  WS (eE d7 P w K mg base N x (ao st) f X6 A outer s H E).gP (bF st) (.ob `aN::fm qs (N.length-1)) (λZ=>∃xs',Z[0]?∣(.ob (aF a r xs'))/\∀H0 H' R',T xs' H0 .Ye H' R') (vx K a r T))(len:∀xs qs T,S K xs qs T->qs.length+1=ps.length:=by(intros;rename_i h;repeat (first | (rw[h.1];rfl) | let⟨_,h⟩:=h)))(Sc:bD N ps (ao st):=by exact Zf):aD P w K mg base x (k+1) (fR r S K):=by
 let⟨f,fd,F,hm,hb⟩:=D;exact Hw F Sc hm hb len λX6 A outer s H E a xs qs T=>Yn f X6 A outer s H E a xs qs T Sc.nd
noncomputable def ES (k:Str):Value->Bool
 | .str x _=>decide (x=k)
 | _=>false
noncomputable def Jb:V->List V->Hp->VK->Prop:=λx vs H Q=>∃(l:Addr)(ns:RU)(k:Str)(j:Nat),x= .ref l/\vs=[.str k]/\H l∣(.lst (ns.map V.str))/\ns[j]?∣k/\(∀m,m<j->ns[m]?≠some k)/\Q (.int (j:Nat)) H
theorem DI:zm X "list.index" Jb:=by
 intro X3 s σ H x vs v us Q I rx rv h;let⟨l,ns,k,j,rfl,rfl,hH,hj,hno,q⟩:=h;cases rx
 let⟨u,rfl,t,rfl⟩:=rv.one;let⟨hz,X5,m,r1,hl,ho⟩:=I.oh hH;let jl:j<ns.length:=(Sn.mp hj).1;let hl2:X5.length=ns.length:=by rw[← hl,Ss]
 let at_:∀(n:Nat)(h1:n<X5.length)(h2:n<ns.length),∃t',X5[n]= .str ns[n] t':=λn h1 h2=>by
  let⟨u,e1,t',e2⟩:=r1.get (show(ns.map V.str)[n]?∣(.str ns[n]) by rw[Sw,So h2];rfl);rw[So h1] at e1;exact⟨t',(Option.some.inj e1).trans e2⟩
 refine VW PySem.F.slot_list_index ⟨_,ho,rfl⟩ PySem.F.entry_list_index (PySem.F.args_list_index_2 _ _)
  (SeqAt.list_indexAt l X5.toArray m _ _ (.str k t) (ES k) j (by simpa[hl2] using jl) ?_ ?_ ?_) ⟨ho,λw hw=>?_,?_⟩
 ·have:Vn<2 ^ 63-1:=`c
  rw[Ss] at hz;cbv
 ·let⟨t',e⟩:=at_ j `a jl;show ES k X5[j]=true;rw[e];rw[So jl] at hj;exact XY (Option.some.inj hj)
 ·intro n hn hnj;let⟨t',e⟩:=at_ n (~~~hn) `a;show ES k X5[n]=false;rw[e];refine XZ λz=>hno n hnj ?_;rw[So `a,z]
 ·let hw:w∈X5:= ~~~hw
  let⟨n,hn,rfl⟩:=Uh.mp hw;let⟨t',e⟩:=at_ n hn `a;rw[e];intro prog w E Q hq;exact wpAny_eqBool_str hq
 ·exact⟨.int _,H,I.tok _,⟨_,rfl⟩,q⟩
theorem DO {a:Expr}{k:Str}(ha:EV X a Z (ae ak) ns Γ1)(he:EV X e Γ1 ak k Γ2)(hj:ns[j]?∣k)(hno:∀m,m<j->ns[m]?≠some k)(Yd:fA X a "index":=by rfl)(Yt:nk X cp [e]:=by rfl)(Yc:`ae=true:=by rfl)(hs:dk X e []:=by rfl):EV X (.Call (.Attribute a "index" ap) [e] [] cp) Z ah (j:Nat) Γ2:=λσ H0 R0 H R E Q q=>by
 refine eS (ie WW PySem.F.slot_list_index PySem.F.type_list_index DI aO `be Yd Yt Yc hs rfl) `B;let⟨b,vs,rfl,hb,pp,hz⟩:=e1;let ev:=mE pp;subst ev;refine⟨.inl ⟨rfl,_,bu.of (E1.sub _ _ hb)⟩,he σ H0 R0 H1 R1 E1 _ λu H2 R2 E2 s2 e2=>?_⟩;cases e2
 exact⟨b,ns,k,j,rfl,rfl,E2.sub _ _ (s2 _ _ hb),hj,hno,q _ _ _ E2 `E rfl⟩
theorem ints4 {a b c d:Int}(h:eL R vs [.int a,.int b,.int c,.int d]):vs=[.int a,.int b,.int c,.int d]:=by
 cases h with
 | cons h1 t=>cases t with
   | cons h2 t=>cases t with
     | cons h3 t=>cases t with
       | cons h4 t=>cases t;cases h1;cases h2;cases h3;cases h4;rfl
theorem IJ {k:Nat}{r:Row}(h:EA X es Z au [.int r.1,.int r.2.1,.int r.2.2.1,.int r.2.2.2] Γ1):EV X (.Tuple es k pos) Z fh r Γ1:=
 EV.re (gB h (by show 4<=Vn;decide)) λK R v e=>by
   cases e with
   | tup hp pp=>rw[ints4 pp] at hp;exact⟨_,rfl,hp⟩
def Ff (t:Int×Int):PV:=.tup [.int t.1,.int t.2]
theorem yU {K:Xt}{R:Hp}:∀{vs:`K}{xs:R7},PySem.Paired ((dO ah ah).R K R) vs xs->eL R vs (xs.map Ff)
 | _,_,.nil=>.nil
 | _,_,.cons h t=>by
   let⟨a,v1,v2,rfl,ha,g1,g2⟩:=h;cases g1;cases g2
   exact .cons (.tup ha (.cons (.int _) (.cons (.int _) .nil))) (yU t)
theorem EV.Lj {xs:R7}(h:EV X e Z (ae (dO ah ah)) xs Γ1):EV X e Z au (.lst (xs.map Ff)) Γ1:=h.re λK R v ⟨a,vs,e,q,p,z⟩=>by subst e;exact .lst q (yU p) (by rw[Ss];exact z)
theorem kJ {n:Int}(R H:Hp)(v:V)(_:av R H)(h:au.R K R v (.int n)):fN K H v (.type "int"):=by cases h;exact .int _
theorem kO (R H:Hp)(v:V)(_:av R H)(h:au.R K R v (.str x)):fN K H v (.type "str"):=by cases h;exact .str _
def uq {α:Type}(a:Addr)(r:Rep α):Rep α:=⟨λK H v x=>v= .ref a/\r.R K H v x,λs h=>⟨h.1,r.mono s h.2⟩⟩
variable {bf:List PV->Ga->Ga}
section
variable {l:Nat}
theorem WS.adr (i:Nat){ns:RS}(hΓ:Z[i]?∣.im ck ns)(h:∀a,WS X Y1 (Z.set i (.im (uq a ck) ns)) N T):WS X Y1 Z N T:=λσ H0 R0 H R E D dn dr=>by
 let⟨v,ev,a,rfl,q⟩:=E.ent i _ hΓ;exact h a σ H0 R0 H R (E.tell hΓ (by rw[ev];exact⟨_,rfl,rfl,a,rfl,q⟩) λb w=>by cases w) D dn dr
theorem EV.adr {x:α}(h:EV X e Z (uq a r) x Γ1):EV X e Z r x Γ1:=h.re λK R v e=>e.2
theorem JJ:cS H [a]=del H a:=by
 funext b;unfold cS del;simp
theorem kD (i:Nat){S:jt α}{k:Nat}{e0:Expr}{p:Pos}{r0:Rep β}{y0:β}{xs st:`x}(C:aD X.prog X.w X.K X.mg X.base x k (vX r S X.K))(hr:bH k X.A)(h0:EV X e0 Z r0 y0 Z)(hΓ:Z[i]?∣(.ob `aN))(hS:S X.K xs [⟨r0,y0⟩] (λxs'=>uh λw=>xs'=st/\w=z))(hfr:∀(R:Hp)(ws:`K),PySem.Paired (r.R X.K R) ws st->∃s k rest,ws= .ref s:: .int k::rest)(hmx:noMix z=true)(hg:Gl X x:=by rfl)(Yz:YV x:=by decide)(he:Vt [e0,.Name y p1] X.env=(false,eval e0 X.env)::Vt [.Name y p1] X.env:=by rfl)(he2:dk X (.Name y p1) []:=by rfl)(Yo:eV X pos [.Name y p1]:=by rfl)(hN:autoParam (At X i y) cg):
 gK X (.Call `ah [e0,.Name y p1] [] pos) Z z (Z.set i (.ob (aF a r st))):=λσ H0 R0 H R E Q q=>by
 let⟨f,fd,pn,F,hm,hk,hb⟩:=C.ex;refine eS (gR F hr hg hm hk hb .nil jO (aK aO (aK (aX hN) br he2) he) Yz he Yo) (h0 σ H0 R0 H R E _ λv0 H1 R1 E1 s1 r1=>?_);let⟨ea,⟨ws,ha,pp⟩,hR⟩:=cn (E1.ent i _ hΓ);refine⟨.ref a,am ea,R1,a,ws,xs,v0,[],_,_,rfl,E1.sub,hR,ha,pp,.cons r1 .nil,hS,λv H' R' YK Zw xx h1 h2 pq t=>?_⟩;let⟨w,fp,t1,nd,k,rfl,rfl⟩:=t;let E':ar X.K σ H0 R0 H' R' (Z.set i (.ob (aF a r Zw))):=E1.pW hΓ (by show Ext (cS H1 [a]) R1 H' R';rw[JJ];exact xx) (by rw[ea];exact iH h1 h2 pq) λc hc=>hc;let ZI:∀b∈fp,b≠a:=λb hb e=>by
  subst e;let⟨s,k,rest,e1⟩:=hfr R' YK pq;rw[e1] at h1;exact cP.node h1 t1 hmx hb
 refine q v fp H' R' E' `bA t1 nd λb hb=>?_;let hb1:H1 b=none:=by
  have:=(k b hb).1;unfold del at this;rwa [XT (ZI b hb)] at this
 refine⟨(k b hb).2,E1.ext.h.free hb1,λj e qj w=>?_⟩;obtain⟨rfl,rfl,_⟩ | ⟨hj,q1⟩:=set_at qj
 ·exact ZI b hb (Su.mp w)
 ·exact E1.off hb1 j e q1 w
noncomputable def yV (own:RU)(ix:List Nat)(l:Nat)(e:Ent)(Z:Ga):Ga:=Tg own.length .no++ix.map λi=>if i=l then e else oH Z[i]?
theorem C5 (E:`y)(own:RU)(ix:List Nat)(hl:Z[l]?∣.ob B)(hu:∀(j k:Nat),ix[j]?∣l->ix[k]?∣l->j=k):ar K (fw own ix σ) (cS H B.fp) R H R (yV own ix l (.ob B) Z):=by
 let look:∀(i:Nat)(e:Ent),(yV own ix l (.ob B) Z)[i]?∣e->e= .no∨∃k,own.length<=i/\ix[i-own.length]?∣k/\((fw own ix σ)[i]?).join=(σ[k]?).join/\e=if k=l then .ob B else oH Z[k]?:=λi e q=>by
  unfold yV at q;by_cases hi:i<own.length
  ·rw[S0 (~~~hi),TQ,XU hi] at q;exact .inl (Option.some.inj q).symm
  ·rw[SV (~~~hi),Tq,Sw] at q;cases ek:ix[i-own.length]? with
   | none=>rw[ek] at q;cases q
   | some k=>
     rw[ek] at q;refine .inr ⟨k,`a,rfl,?_,(Option.some.inj q).symm⟩;unfold fw;rw[SV (~~~hi),Tq,Sw,ek];rfl
 let ZP:∀(k:Nat)(o:Option V),(oH Z[k]?).fp o=[]:=λk o=>by unfold oH;split<;>rfl
 refine⟨⟨jw,av.refl _,E.sub,λ_ _=>rfl⟩,λi e q=>?_,λi e c q w=>?_,λi j e e' c q q' w w'=>?_,by unfold yV fw;simp⟩
 ·obtain rfl | ⟨k,_,_,ej,rfl⟩:=look i e q
  ·trivial
  ·rw[ej];split
   ·rename_i hk;rw[hk];exact E.ent l _ hl
   ·cases eg:Z[k]? with
    | none=>trivial
    | some e=>
      cases e with
      | im r x=>exact E.ent k _ eg
      | no=>trivial
      | mu r x=>trivial
      | di x=>trivial
      | ob x=>trivial
 ·obtain rfl | ⟨k,_,_,ej,rfl⟩:=look i e q
  ·cases w
  ·split at w
   ·exact gy w
   ·rw[ZP] at w;cases w
 ·obtain rfl | ⟨k,oi,ki,_,rfl⟩:=look i e q
  ·cases w
  ·obtain rfl | ⟨k',oj,kj,_,rfl⟩:=look j e' q'
   ·cases w'
   ·split at w
    ·rename_i h1;split at w'
     ·rename_i h2;rw[h1] at ki;rw[h2] at kj;have:=hu _ _ ki kj;cbv
     ·rw[ZP] at w';cases w'
    ·rw[ZP] at w;cases w
structure wc (B H R:Hp)(a:Addr)(qs:List PT):Prop where
 pt:∀(n:Nat)(p:PT),qs[n]?∣p->cP H (.ref p.2.1) (.lst p.1) (cC p)/\(cC p).Nodup
 dj:∀(n m:Nat)(p q:PT),qs[n]?∣p->qs[m]?∣q->∀c∈cC p,c∈cC q->n=m
 nw:∀c∈dE qs,B c=none/\R c=none/\c≠a
theorem wc.has {B:Hp}{qs:List PT}(h:wc B H R a qs){c:Addr}(hc:c∈dE qs):H c≠none:=by
 let⟨n,p,hp,hc⟩:=bz.mp hc;exact(h.pt n p hp).1.has c hc
theorem wc.snoc {B:Hp}{qs:List PT}{zs:`aP}(h:wc B H R a qs)(x:Ext (cS H [a]) R H' R')(t:cP H' (.ref b) (.lst zs) (b::g))(nd:(b::g).Nodup)(k:∀c∈b::g,H c=none/\B c=none/\R' c=none/\c≠a):wc B H' R' a (qs++[(zs,b,g)]):=by
 let sp:∀(n:Nat)(q:PT),(qs++[(zs,b,g)])[n]?∣q->(n=qs.length/\q=(zs,b,g))∨(n<qs.length/\qs[n]?∣q):=λn q e=>by
  obtain z | z:=UP n qs.length
  ·rw[S0 z] at e;exact .inr ⟨z,e⟩
  ·rw[SV z] at e;have:=(Sn.mp e).1;let e0:n-qs.length=0:=by simp at this;cbv
   rw[e0] at e;exact .inl ⟨`a,(Option.some.inj e).symm⟩
 let old:∀c∈dE qs,H' c=H c:=λc hc=>by
  cases e:H c with
  | none=>exact XS e (h.has hc)
  | some o=>exact x.h c o (by rw[bY (by rw[Su];exact(h.nw c hc).2.2)];exact e)
 refine⟨λn q e=>?_,λn m q q' e e' c hc hc'=>?_,λc hc=>?_⟩
 ·obtain⟨_,rfl⟩ | ⟨_,e⟩:=sp n q e
  ·exact⟨t,nd⟩
  ·exact⟨(h.pt n q e).1.loc λc hc=>old c (bz.mpr ⟨n,q,e,hc⟩),(h.pt n q e).2⟩
 ·obtain⟨z,rfl⟩ | ⟨_,e⟩:=sp n q e
  ·obtain⟨z',rfl⟩ | ⟨_,e'⟩:=sp m q' e'
   ·rw[z,z']
   ·exact XS (k c hc).1 (h.has (bz.mpr ⟨m,q',e',hc'⟩))
  ·obtain⟨z',rfl⟩ | ⟨_,e'⟩:=sp m q' e'
   ·exact XS (k c hc').1 (h.has (bz.mpr ⟨n,q,e,hc⟩))
   ·exact h.dj n m q q' e e' c hc hc'
 ·let⟨n,q,e,hc⟩:=bz.mp hc;obtain⟨_,rfl⟩ | ⟨_,e⟩:=sp n q e
  ·exact(k c hc).2
  ·let hm:c∈dE qs:=bz.mpr ⟨n,q,e,hc⟩;let⟨h1,h2,h3⟩:=h.nw c hm;exact⟨h1,(x.old c (by rw[bY (by rw[Su];exact h3)];exact h.has hm)).trans h2,h3⟩
theorem ar.MM {xs:`x}(E:`y)(hi:Z[i]?∣(.ob `aN))(fl:∀(j:Nat)(e:Ent),j≠i->Z[j]?∣e->GD e):ar K σ (cS H [a]) R H R Z:=
 ⟨⟨jw,av.refl _,E.sub,λ_ _=>rfl⟩,E.ent,λj e c q w=>by
   by_cases z:j=i
   ·subst z;rw[hi] at q;cases q
    exact gy w
   ·have:=fl j e z q;cases e<;>first | cases w | exact this.elim,E.ds,E.len⟩
theorem Ext.QP (x:Ext H R H' R')(h:R' a=none):Ext (cS H [a]) R (cS H' [a]) R':=by
 let ne:∀{G:Hp}{b:Addr},cS G [a] b≠none->b∉[a]:=λh w=>h (gy w);refine⟨λb o e=>?_,x.r,λb o e=>?_,λb e=>x.old b ?_⟩
 ·let w:=ne (b:=b) (by rw[e];simp);rw[bY w] at e ⊢;exact x.h b o e
 ·rw[bY λw=>by rw[Su.mp w,h] at e;cases e]
  exact x.s b o e
 ·rwa [bY (ne e)] at e
theorem AK {cl:`aA}{own:RU}{xs:List (List PV)}{li:Nat}(st:Nat->List α)(zs:Nat->List PV)(G:List α->Ga){H1:Hp}{Q:VK}(E1:ar X.K σ H0 R0 H1 R1 Γ1)(hl:Γ1[l]?∣(.ob (aF a r (st 0))))(hu:∀(j k:Nat),ix[j]?∣l->ix[k]?∣l->j=k)(hG0:yV own ix l (.ob (aF a r (st 0))) Γ1=G (st 0))(hG:∀s,(G s)[li]?∣(.ob (aF a r s)))(src:Src X.K J R1 (ae au) xs)(hz:xs.length<=Vn)(hb:∀(C:Addr)(s:Vo)(H:Hp)(ex:RY),BG `l tg (ae au) bf)(hw:∀x s,Wk (bf x (G s)) (G s))(hg:∀x s,(bf x (G s))[li]?∣(.ob (aF a r s)))(hfl:∀x s (j:Nat) (e:Ent),j≠li->(bf x (G s))[j]?∣e->GD e)(hset:∀x s s',(bf x (G s)).set li (.ob (aF a r s'))=bf x (G s'))(he:∀(C:Addr)(s:Vo)(H:Hp)(ex:RY)(i:Nat) x,xs[i]?∣x->gK `l elt (bf x (G (st i))) (.lst (zs i)) (bf x (G (st (i+1)))))(q:∀c qs ws H' R',Ext (cS H1 [a]) R1 H' R'->H' a∣.lst ws->R' a=none->PySem.Paired (r.R X.K R') ws (st xs.length)->H' c=none->wc (cS H1 [a]) H' R' a qs->qs.map (·.1)=(SQ xs.length).map zs->Q (.ref c) (upd H' c (.lst (qs.map λp=>.ref p.2.1)))):
 ∃W:Nat->Nat->List V->St->Hp->Prop,(∃m,W 0 m [] (fw own ix σ) H1)/\∀i m ys σ' H',W i m ys σ' H'->
  ys.length<=Vn/\(`aC∨
  (J.go i H'/\∀x H2,J.yld i H' x H2->(λv σ H Q=>∀C s Hh ex,mn `o tg v σ H Q:TG) x σ' H2 λσ2 H3=>(λσ H Q=>∀C s Hh ex,mm `o [] σ H Q:TT) σ2 H3 λb H4=>
    if b=true then(λσ H Q=>∀C s Hh ex,fE `o elt σ H Q:TE) σ2 H4 λv H5=>∃m',m'<m/\W (i+1) m' (ys++[v]) σ2 H5 else∃m',m'<m/\W (i+1) m' ys σ2 H4)):=by
 refine⟨λi m ys σ' H'=>m=xs.length-i/\i<=xs.length/\∃R' qs,ar X.K σ' (cS H1 [a]) R1 H' R' (G (st i))/\ys=qs.map (λp=>V.ref p.2.1)/\wc (cS H1 [a]) H' R' a qs/\qs.map (·.1)=(SQ i).map zs,⟨_,rfl,UL _,R1,[],by rw[← hG0];exact C5 E1 own ix hl hu,rfl,⟨(λn p h=>by simp at h),(λn m p q h=>by simp at h),(λc h=>by cases h)⟩,rfl⟩,?_⟩;rintro i m ys σ' H' ⟨rfl,hle,R',qs,E',rfl,tr,hq⟩;let ql:qs.length=i:=by have:=congrArg List.length hq;rwa [Ss,Ss,Te] at this
 refine⟨by rw[Ss,ql];cbv,?_⟩;let⟨sgo,Y9⟩:=src H' R' E'.ext.r E'.sub i;by_cases YS:i<xs.length
 ·let⟨go,yl⟩:=sgo _ (So YS);refine .inr ⟨go,λv H2 hy C s Hh ex=>?_⟩;let⟨R2,x2,hr⟩:=yl v H2 hy;refine hb C s Hh ex σ' _ R1 H2 R2 _ v _ (E'.grow x2) hr _ λσ2 E2=>?_;intro C s Hh ex;let key:∀Q:Bool->Hp->Prop,Q true H2->mm `o [] σ2 H2 Q:=λQ q=>fS DT q;refine key _ ?_;rw[XU rfl];intro C s Hh ex;refine he C s Hh ex i _ (So YS) σ2 _ R2 H2 R2 (E2.MM (hg _ _) (hfl _ _)) _ λw fp H5 R5 E5 s5 t nd k=>?_;cases t with
  | @lst b vs _ g hb tt z=>
  let x5:Ext (cS H2 [a]) R2 H5 R5:=E5.ext;let⟨_,⟨ws,h5,p5⟩,r5⟩:=cn (E5.ent li _ (hg xs[i] (st (i+1))));let⟨ea,_,r2⟩:=cn (E2.ent li _ (hg xs[i] (st i)));let E6:=E2.pW (hg xs[i] (st i)) (B':=aF a r (st (i+1))) x5 (by rw[ea];exact iH h5 r5 p5) λc hc=>hc;rw[hset] at E6;refine⟨xs.length-(i+1),`a,rfl,YS,R5,qs++[(zs i,b,g)],E6.weak (hw _ _),by rw[SN];rfl,tr.snoc ((x2.QP r2).trans x5) (.lst hb tt z) nd λc hc=>?_,by rw[SN,hq,Ua,SN];rfl⟩;let⟨k1,k2,k3⟩:=k c hc;let ca:c≠a:=λe=>k3 li _ (hg xs[i] (st (i+1))) (by rw[e];exact Su.mpr rfl);rw[bY (by rw[Su];exact ca)] at k2;let k4:=x2.h.free k2;exact⟨k4,E'.ext.h.free k4,k1,ca⟩
 ·let e:i=xs.length:=`a
  subst e;let⟨_,⟨ws,h5,p5⟩,r5⟩:=cn (E'.ent li _ (hG _));exact .inl ⟨Y9 (UJ _),λc hc=>q c qs ws H' R' E'.ext h5 r5 p5 hc tr hq⟩
theorem ar.only {x:α}(s:av R H)(hl:Z.length=σ.length)(ok:(Ent.im r x).ok K H R (σ[l]?).join):ar K σ H R H R ((Z.map λ_=>.no).set l (.im r x)):=by
 let look:∀(j:Nat)(e:Ent),((Z.map λ_=>Ent.no).set l (.im r x))[j]?∣e->(j=l/\e= .im r x)∨e= .no:=λj e q=>by
  obtain⟨a,b,_⟩ | ⟨_,q⟩:=set_at q
  ·exact .inl ⟨a,b⟩
  ·rw[Sw] at q;let⟨_,_,rfl⟩:=U9.mp q;exact .inr rfl
 refine⟨Ext.refl s,λj e q=>?_,λj e c q w=>?_,λj k e e' c q q' w=>?_,by rw[Tb,Ss];exact hl⟩
 ·obtain⟨rfl,rfl⟩ | rfl:=look j e q
  ·exact ok
  ·trivial
 ·rcases look j e q with⟨rfl,rfl⟩ | rfl<;>cases w
 ·rcases look j e q with⟨rfl,rfl⟩ | rfl<;>cases w
theorem Ja (i l q li:Nat){py Za:Pos}{cl:`aA}{own:RU}(st:Nat->List α)(zs:Nat->List PV)(G:List α->Ga)(S:fu X scope cl own fr ix)(hΓ:Z[l]?∣(.ob `F))(hz:ps.length<=Vn)(hq:Z[q]?∣(.ob (aF b r (st 0))))(hlq:l≠q)(hit:IV X tg iter ((Z.map λ_=>.no).set l (.im (ae (ae au)) (ps.map (·.1)))) (ae au) (ps.map (·.1)) ((Z.map λ_=>.no).set l (.im (ae (ae au)) (ps.map (·.1)))))(hu:∀(j k:Nat),ix[j]?∣q->ix[k]?∣q->j=k)(hG0:yV own ix q (.ob (aF b r (st 0))) (Z.set l .no)=G (st 0))(hG:∀s,(G s)[li]?∣(.ob (aF b r s)))(hb:∀(C:Addr)(s:Vo)(H:Hp)(ex:RY),BG `l tg (ae au) bf)(hw:∀x s,Wk (bf x (G s)) (G s))(hg:∀x s,(bf x (G s))[li]?∣(.ob (aF b r s)))(hfl:∀x s (j:Nat) (e:Ent),j≠li->(bf x (G s))[j]?∣e->GD e)(hset:∀x s s',(bf x (G s)).set li (.ob (aF b r s'))=bf x (G s'))(he:∀(C:Addr)(s:Vo)(H:Hp)(ex:RY)(i:Nat) x,(ps.map (·.1))[i]?∣x->gK `l elt (bf x (G (st i))) (.lst (zs i)) (bf x (G (st (i+1)))))(hk:∀(R R':Hp)(ws YK:`K)(n:Nat),PySem.Paired (r.R X.K R) ws (st 0)->PySem.Paired (r.R X.K R') YK (st n)->PySem.Paired (r.R X.K R) YK (st n))(h:∀c qs,qs.map (·.1)=(SQ ps.length).map zs->N ((Z.set q (.ob (aF b r (st ps.length)))).set i (.ob (bp c qs))))(YH:Vv `bG (some (.Name y py)) Za.line X.env=pure true:=by rfl)(hN:X.N.Nodup:=by first | assumption | decide)(hi':X.N[i]?∣y:=by rfl)(hx:`bk)(hc:X.calm=true:=by rfl)(hs:∀x,VA iter X.env x=pure x:=by intro _;rfl)(hf:autoParam (fU X y) Zj):
 W1 X (.Assign [.Name y py] `bG Za) Z N T:=λσ H0 R0 H R E D dn dr=>by
 let⟨wi,hi,hit⟩:=hit;let⟨⟨v,ea,rfl,kk⟩,hRa⟩:=E.ent l _ hΓ;let⟨Ew,sR⟩:=E.QZ hΓ;let k':kf (λb=>if b∈(bp a ps).fp then H b else R b) a ps:=((bp a ps).loc (K:=X.K) (v:=.ref a) (λb hb=>XU hb) (av.refl R) ⟨rfl,kk⟩).2;let El:=ar.only (Z:=Z) (l:=l) (r:=ae (ae au)) (x:=ps.map (·.1)) (K:=X.K) Ew.sub E.len ⟨.ref a,ea,a,_,rfl,k'.hd,qZ λp hp=>by
  let⟨n,hn⟩:=SO.mp hp;exact(k'.pt n p hn).1,by rw[Ss];exact hz⟩
 generalize hRf:(λb=>if b∈(bp a ps).fp then H b else R b)=Rf at Ew sR El;let inf:∀d,d∈(bp a ps).fp->R d=none:=hRa;let outf:∀d,d∉(bp a ps).fp->Rf d=R d:=λd hd=>by rw[← hRf];exact XT hd
 refine sS (nW (i:=i) (g:=λv σ H Q=>∀C s Hh ex,mn `o tg v σ H Q) (tc:=λσ H Q=>∀C s Hh ex,mm `o [] σ H Q) (te:=λσ H Q=>∀C s Hh ex,fE `o elt σ H Q) YH hN hi' hx hc S hi
  `v hs hf) ?_
 refine hit σ H Rf H Rf El _ λJ H1 R1 E1 s1 hz1 src=>?_;let x1:=E1.ext;let E2:=Ew.grow x1;let⟨eb,⟨ws0,_,p0⟩,hRb⟩:=cn (E.ent q _ hq);refine AK (Q:=λv H'=>D.nx `bg H') (l:=q) (li:=li) st zs G E2 (by rw[SX hlq];exact hq) hu hG0 hG src hz1 hb hw hg hfl hset he λc qs ws H' R' xx hb5 rb5 p5 hc tr hm=>?_;rw[Ss] at hm p5;let sub1:av (cS H [b]) (cS H1 [b]):=λd o e=>by
  let w:d∉[b]:=λw=>by rw[gy w] at e;cases e
  rw[bY w] at e ⊢;exact x1.h d o e
 let x3:Ext (cS H [b]) R H' (λd=>if d∈(bp a ps).fp then none else R' d):=⟨sub1.trans xx.h,λd o e=>by
  show(if d∈(bp a ps).fp then none else R' d)∣o;rw[XT λw=>by rw[inf d w] at e;cases e]
  exact xx.r _ _ (x1.r _ _ (sR _ _ e)),λd o e=>by
  let e:(if d∈(bp a ps).fp then none else R' d)∣o:=e;by_cases w:d∈(bp a ps).fp
  ·rw[XU w] at e;cases e
  ·rw[XT w] at e;exact xx.s _ _ e,λd e=>by
  show(if d∈(bp a ps).fp then none else R' d)=R d;by_cases w:d∈(bp a ps).fp
  ·rw[XU w,inf d w]
  ·rw[XT w,xx.old d (av.some sub1 e),x1.old d (av.some jw e),outf d w]⟩
 let nR:∀{d:Addr},R' d=none->(if d∈(bp a ps).fp then none else R' d)=none:=λh=>by split<;>first | rfl | exact h
 let E3:=E.pW hq (B':=aF b r (st ps.length)) x3 (by rw[eb];exact iH hb5 (nR rb5) (Paired.map (λ_ _=>r.mono x3.r) (hk R R' ws0 ws ps.length p0 p5))) λc hc=>hc;let E4:=E3.grow (Ext.ee E3.sub hc (.lst (qs.map λp=>.ref p.2.1)));let nc:∀d∈dE qs,d≠c:=λd hd e=>tr.has hd (e▸hc);refine dn _ _ _ _ (E4.setG (en:=.ob (bp c qs)) i ⟨⟨.ref c,rfl,rfl,aG,λn p hp=>?_,tr.dj⟩,λd hd=>?_⟩ (λd hd=>?_) λd hd j e _ qj w=>?_) x3.r (h c qs hm)
 ·let⟨t1,t2⟩:=tr.pt n p hp;let ncp:∀d∈cC p,d≠c:=λd hd=>nc d (bz.mpr ⟨n,p,hp,hd⟩);exact⟨t1.loc λd hd=>aJ (ncp d hd),t2,λw=>ncp c w rfl⟩
 ·obtain rfl | hd:=SF.mp hd
  ·exact nR (xx.s.free hc)
  ·exact nR (tr.nw d hd).2.1
 ·obtain rfl | hd:=SF.mp hd
  ·exact E3.ext.h.free hc
  ·let⟨d1,_,d3⟩:=tr.nw d hd;rw[bY (by rw[Su];exact d3)] at d1;exact E2.ext.h.free d1
 ·obtain rfl | hd:=SF.mp hd
  ·exact E3.off hc j e qj w
  ·let⟨d1,_,d3⟩:=tr.nw d hd;rw[bY (by rw[Su];exact d3)] at d1;obtain⟨rfl,rfl,_⟩ | ⟨_,qj⟩:=set_at qj
   ·exact d3 (Su.mp w)
   ·exact E.off (x1.h.free d1) j e qj w
end
theorem Ai {K:Xt}{R:Hp}:∀{vs:`K}{xs:List Row},PySem.Paired (fh.R K R) vs xs->eL R vs (xs.map λr=>.tup [.int r.1,.int r.2.1,.int r.2.2.1,.int r.2.2.2])
 | _,_,.nil=>.nil
 | _,_,.cons ⟨a,e,q⟩ t=>by
   subst e;exact .cons (.tup q (.cons (.int _) (.cons (.int _) (.cons (.int _) (.cons (.int _) .nil))))) (Ai t)
noncomputable def AO (v:gq):PV:=.tup [.lst (v.1.map PV.int),.lst (v.2.map λr=>.tup [.int r.1,.int r.2.1,.int r.2.2.1,.int r.2.2.2])]
theorem EV.Ml {v:gq}(h:EV X e Z lA v Γ1):EV X e Z au (AO v) Γ1:=h.re λK R u ⟨a,v1,v2,e,q,⟨a1,vs1,e1,q1,p1,z1⟩,⟨a2,vs2,e2,q2,p2,z2⟩⟩=>by
 subst e e1 e2;exact .tup q (.cons (.lst q1 (uC p1) (by rw[Ss];exact z1)) (.cons (.lst q2 (Ai p2) (by rw[Ss];exact z2)) .nil))
end Fc
namespace K1
open PySem L2 Fc
open PySem.Spec hiding Row
open PyProof.Rows hiding St
open PySem.Builtin.Int (intBits)
variable {P:Vr}{w:World}{K:Xt}{mg:RQ}{base:Heap}{f:Addr}{fd:Vw}
abbrev QL (v:RS×List Fc.Row):Ent:=.im (dO (ae ah) (ae fh)) v
abbrev aE (x:Int):Ent:=.im ah x
abbrev eT (x:RS):Ent:=.im (ae ah) x
theorem pA {x y:Int}(h0:0<=x)(h1:x<4294967296):Wy x y:=.of_left (Wg `a `a)
variable {n:Nat}{i:Int}
theorem xW (h0:0<=i)(h1:i<n):gm n i∣i.toNat:=by unfold gm;rw[XU h0,XU h1]
abbrev jj:Rep (Int×Int):=dO ah ah
theorem aM (h:n<=1000000):n<=Vn:=UK h `c
variable {α:Type}{xs:`x}
theorem bb (d:α)(h0:0<=i)(h1:i<xs.length):cE xs i∣xs.getD i.toNat d:=by
 rw[jT h0 h1,So `a,Sr,So `a];rfl
theorem rM {y:α}(h:xs[xs.length-1]?∣y):cE xs (-1)∣y:=by
 let hl:0<xs.length:=by
  have:=(Sn.mp h).1;cbv
 unfold cE gm;rw[XT `a,XU `a];show xs[((-1:Int)+(xs.length:Int)).toNat]?=_;rw[show((-1:Int)+(xs.length:Int)).toNat=xs.length-1 by cbv];exact h
end K1
namespace K1
open PySem
variable {P:Vr}{w:World}{K:Xt}{mg:RQ}{base:Heap}{f:Addr}{fd:Vw}
abbrev top (i:Nat):Stmt:=PySem.Challenge.pw_fewcounters_k70_whole_named_otherwise.main.body.getD i (.Pass ⟨0,0,0,0⟩)
abbrev yG:Nat:=12
abbrev wC:Nat:=13
abbrev sD:Nat:=14
abbrev yM:Nat:=15
abbrev Nj:Nat:=16
abbrev IH:Nat:=25
abbrev FH:Nat:=26
abbrev Jf:Nat:=27
abbrev x6:Nat:=28
abbrev uj:Nat:=29
abbrev A3:Nat:=30
abbrev qR:Nat:=31
abbrev yC:Nat:=32
abbrev yL:Nat:=33
abbrev vz:Nat:=34
abbrev Cu:Nat:=35
abbrev xc:Nat:=36
abbrev A1:Nat:=37
abbrev A5:Nat:=38
abbrev yq:Nat:=39
abbrev sE:Nat:=42
abbrev vA:Nat:=43
abbrev vy:Nat:=44
abbrev uo:Nat:=45
abbrev rD:Nat:=46
abbrev AM:Nat:=47
abbrev uH:Nat:=48
abbrev vC:Nat:=49
abbrev qw:Nat:=50
abbrev t9:Nat:=51
abbrev rQ:Nat:=52
abbrev r9:Nat:=53
abbrev yJ:Nat:=55
abbrev BL:Nat:=56
abbrev Dj:Nat:=62
abbrev tT:Nat:=63
abbrev vJ:Nat:=65
abbrev xZ:Nat:=66
abbrev xC:Nat:=67
abbrev uL:Nat:=68
abbrev vB:Nat:=69
abbrev wO:Nat:=70
abbrev vH:Nat:=71
abbrev vF:Nat:=72
abbrev ya:Nat:=73
abbrev rN:Nat:=74
abbrev vE:Nat:=75
abbrev wB:Nat:=76
abbrev tZ:Nat:=77
abbrev vI:Nat:=78
abbrev yh:Nat:=79
abbrev si:Nat:=80
abbrev r6:Nat:=81
abbrev LU:Nat:=82
end K1
namespace K1
open PySem L2 Fc
open PySem.Spec hiding Row
open PyProof.Rows hiding St
open PySem.Builtin.Int (intBits)
variable {P:Vr}{w:World}{K:Xt}{mg:RQ}{base:Heap}{f:Addr}{fd:Vw}
structure bW (K:Xt)(mg:RQ):Prop where
 len:mg "len"=none
 min:mg "min"=none
 range:mg "range"=none
 int:mg "int"=none
 list:mg "list"=none
 zip:mg "zip"=none
 enumerate:mg "enumerate"=none
 reversed:mg "reversed"=none
 any:mg "any"=none
 all:mg "all"=none
noncomputable def AD (c:Int):Nat->Int
 | 0=>c
 | n+1=>AD c n/2147483587
def jg (d k:Int):Int:=d%10 ^ 18+48271*(k+1)
def rG (u k:Int):Int:=u*u%2147483629+69621*k
def x9 (d k:Int):Int:=rG (jg d k) k*rG (jg d k) k%2147483587
def wH (ns:RS)(k:Int):Int:=AD (ns.getD (k/8%63).toNat 0/10 ^ 18) (k%8).toNat
def vO (ns:RS)(k:Int):Bool:=decide (k/8%63<(ns.length:Int))&&decide (10 ^ 18<=ns.getD (k/8%63).toNat 0)
noncomputable def aL (ns:RS)(k:Int):Int:=
 if vO ns k=true/\0<wH ns k then wH ns k%2147483587
 else x9 `ax k
theorem mG (ns:RS)(k:Int):0<=aL ns k/\aL ns k<2147483587:=by
 unfold aL;split
 ·exact⟨Sj _ `c,Si _ `c⟩
 ·unfold x9;exact⟨Sj _ `c,Si _ `c⟩
abbrev Gh:Stmt:=top vJ
abbrev Qb:RU:=["_law_script","_law_k","_law_at","_law_cell","_law_j","_law_number"]
structure xm (ns:RS):Prop where
 l:ns.length<=63
 b:∀n∈ns,intBits n<=2 ^ 20
def Hr:c9:=λK ps T=>∃(ns:RS)(k:Int),ps=[⟨ck,ns⟩,⟨ah,k⟩]/\xm ns/\0<=k/\k<=1000000/\T=cq K ah (· =aL ns k)
theorem NH (M:`aY)(Df:Def K mg "_law_mixed" Gh ["_law_script","_law_k"]):aD P w K mg base "_law_mixed" 1 (aP Hr K):=by
 refine bP (N:=Qb) Df `n;let⟨ns,k,rfl,hs,k0,k1,rfl⟩:=hS;let h63:=hs.l;let a0:=Sj (k/8) (show(63:Int)≠0 by decide);refine ai (bo 2 (cY (mM `g ac ⟨`c,`c⟩) ac `c) ?_);let rest:∀e3 e4:Ent,¬(vO ns k=true/\0<wH ns k)->WS (eE d7 P w K mg base Qb "_law_mixed" (ao Gh) f X6 A outer s H E).gP ((bF Gh).drop 2) [.im ck ns,aE k,aE (k/8%63),e3,e4,.no] (λ_=>False) (cq K ah (· =aL ns k)):=by
  intro e3 e4 hn;refine ai (bo 3 ac ?_);change WS _ _ [.im ck ns,aE k,aE (k/8%63),aE 0,e4,.no] _ _;refine bG (N1:=λZ=>Z=[.im ck ns,aE k,aE (k/8%63),aE `ax,e4,.no]) (aZ (ay jz (uf M.len `e) ac) (λh=>?_) `Q) ?_
  ·let hl:(0:Int)<ns.length:=XW h;let hmin:(if(ns.length:Int)<63 then(ns.length:Int) else 63)=ns.length:=by
    by_cases q:(ns.length:Int)<63
    ·rw[XU q]
    ·rw[XT q];cbv
   let q0:=Sj k (show(ns.length:Int)≠0 by cbv);let q1:=Si k hl;refine aj (bo 3 (v8 `e (cY `g (EV.cast (HZ M.min (ag ac (ag (uf M.len `e) ax))) hmin) hl) (bb 0 q0 q1)) ?_);rw[XU (by cbv:0<ns.length)];rfl
  ·let hl:¬(0:Int)<ns.length:=XX h;rw[XT `a]
  rintro _ rfl;let e:aL ns k=x9 `ax k:=by unfold aL;rw[XT hn]
  rw[e];generalize `ax=d;let u0:=Sj d (show(10:Int) ^ 18≠0 by decide);let u1:=Si d (show(0:Int)<10 ^ 18 by decide);refine ai (bo 5 (y:=jg d k) (bZ (cY `q (vU ac ac ⟨`c,`c,`c⟩) `c) (mD ac (bZ `g ac) (pA `c `c))) ?_);let n0:0<=jg d k:=by unfold jg;cbv
  let n1:jg d k<2 ^ 63:=by unfold jg;cbv
  let m0:=Sj (jg d k*jg d k) (show(2147483629:Int)≠0 by decide);let m1:=Si (jg d k*jg d k) (show(0:Int)<2147483629 by decide);refine ai (bo 5 (y:=rG (jg d k) k) (bZ (cY (mD `Y `Y (GK n0 n1)) ac `c) (mD ac `g (pA `c `c))) ?_);let v0:0<=rG (jg d k) k:=by unfold rG;cbv
  let v1:rG (jg d k) k<2 ^ 63:=by unfold rG;cbv
  exact aj (aY (cY (mD `Y `Y (GK v0 v1)) ac `c) rfl)
 refine ai (aZ (TW.tv (de (ay nD `s (uf M.len `e)) (λh=>eO (ay Q4 (v8 `e `s (bb 0 a0 (XW h))) (vU ac ac ⟨`c,`c,`c⟩))))) (λh=>?_) (λh=>aH (rest _ _ (λ⟨q,_⟩=>by rw[show vO ns k=false from h] at q;cases q))))
 let hbig:vO ns k=true:=h;let⟨hl,_⟩:=Bool.and_eq_true_iff.mp hbig;let hl:=XW hl;refine ai (bo 3 (qT (v8 `e `s (bb 0 a0 hl)) (vU ac ac ⟨`c,`c,`c⟩) ⟨`c,`c⟩) ?_);let j0:=Sj k (show(8:Int)≠0 by decide);let j1:=Si k (show(0:Int)<8 by decide);refine bG (N1:=λZ=>∃e4,Z=[.im ck ns,aE k,aE (k/8%63),aE (wH ns k),e4,.no]) (bO (λi Z=>∃e4,Z=[.im ck ns,aE k,aE (k/8%63),aE (AD (ns.getD (k/8%63).toNat 0/10 ^ 18) i),e4,.no]) (eh M.range (cY `g ac `c) ⟨`a,`a⟩) (aU 4) ⟨_,rfl⟩ (λi j Z _ hΓ=>?_) `R) ?_
 ·let⟨e4,rfl⟩:=hΓ;exact aj (bo 3 (qT `q ac ⟨`c,`c⟩) ⟨_,rfl⟩)
 ·let⟨e4,rfl⟩:=hΓ;rw[bt];exact⟨e4,rfl⟩
 rintro _ ⟨e4,rfl⟩;refine aj (aZ (ay jz `q ac) (λh=>?_) (λh=>aH (rest _ _ (λ⟨_,q⟩=>XS q (XX h)))));let h:0<wH ns k:=XW h;exact aj (aY (cY `q ac `c) (by unfold aL;rw[XU ⟨hbig,h⟩]))
abbrev da:Rep (RS ⊕ Int):=oa ck ah
abbrev bw (ns:RS)(k c:Int):List (RS ⊕ Int):=[.inl ns,.inr k,.inr c]
abbrev Ly:Stmt:=top xZ
theorem MT:bD ["_law_pen"] ["_law_pen"] (ao Ly):=Zf
def tP:jt (RS ⊕ Int):=λK xs ps T=>∃(ns:RS)(k c:Int),xs=bw ns k c/\ps=[]/\xm ns/\0<=k/\k<1000000/\T=λxs'=>cq K ah λz=>xs'=bw ns (k+1) c/\z=aL ns (k+1)
abbrev jA:Str:="abcdefghijklmnopqrstuvwxyz"
abbrev jv:RU:=["part","end","do","call","if","else","while","leave","back"]
noncomputable def qM (m:Int):Nat->Str
 | 0=>""
 | n+1=>qM m n++mi jA ((m/8+(n:Int)*(m/88))%26).toNat
noncomputable def Yb (n:Int):Str:=
 if n%4=0 then jv.getD (n/4%9).toNat ""
 else if n%4=1 then jv.getD (n/4%9).toNat ""++mi jA (n/4/9%26).toNat
 else qM (n/4) (1+n/4%8).toNat
structure cD (x:Str):Prop where
 l1:1<=x.length
 l8:x.length<=8
 az:∀c∈x.cps.toList,97<=c/\c<=122
theorem len_app (x y:Str):(x++y).length=x.length+y.length:=by
 show(x.cps++y.cps).size=_;rw[Array.size_append];rfl
theorem ux {x y:Str}{c:Nat}(h:c∈(x++y).cps.toList):c∈x.cps.toList∨c∈y.cps.toList:=by
 let e:(x++y).cps.toList=x.cps.toList++y.cps.toList:=by show(x.cps++y.cps).toList=_;simp
 rw[e] at h;exact SK.mp h
theorem Mn (i:Nat)(h:i<26):97<=jA.cps.getD i 0/\jA.cps.getD i 0<=122:=by
 have:∀j:Fin 26,97<=jA.cps.getD j.val 0/\jA.cps.getD j.val 0<=122:=`b
 exact this ⟨i,h⟩
variable {i:Nat}
theorem B3 (h:i<26):∀c∈(mi jA i).cps.toList,97<=c/\c<=122:=by
 intro c hc;have:c=jA.cps.getD i 0:=by simpa[mi] using hc
 rw[this];exact Mn i h
theorem Pw (x:Int):(x%26).toNat<26:=by
 have:=Sj x (show(26:Int)≠0 by decide);have:=Si x (show(0:Int)<26 by decide);cbv
theorem qf (m:Int):∀n,(qM m n).length=n
 | 0=>rfl
 | n+1=>by rw[qM,len_app,qf m n];rfl
theorem Cv (m:Int):∀n,∀c∈(qM m n).cps.toList,97<=c/\c<=122
 | 0,c,h=>by
   let e:(qM m 0).cps.toList=[]:=rfl;rw[e] at h;cases h
 | n+1,c,h=>by
   obtain z | z:=ux h
   ·exact Cv m n c z
   ·exact B3 (Pw _) c z
theorem CZ (i:Nat)(h:i<9):cD (jv.getD i "")/\(jv.getD i "").length<=5:=by
 have:∀j:Fin 9,(1<=(jv.getD j.val "").length/\(jv.getD j.val "").length<=5)/\∀c∈(jv.getD j.val "").cps.toList,97<=c/\c<=122:=`b
 let⟨⟨a,b⟩,c⟩:=this ⟨i,h⟩;exact⟨⟨a,UK b `c,c⟩,b⟩
theorem fD (n:Int):cD (Yb n):=by
 let q0:=Sj (n/4) (show(9:Int)≠0 by decide);let q1:=Si (n/4) (show(0:Int)<9 by decide);let r0:=Sj (n/4) (show(8:Int)≠0 by decide);let r1:=Si (n/4) (show(0:Int)<8 by decide);let⟨w1,w2⟩:=CZ (n/4%9).toNat `a;unfold Yb;split
 ·exact w1
 split
 ·refine⟨?_,?_,λc hc=>?_⟩
  ·rw[len_app];have:=w1.l1;cbv
  ·rw[len_app];show _+1<=8;cbv
  ·obtain z | z:=ux hc
   ·exact w1.az c z
   ·exact B3 (Pw _) c z
 ·exact⟨by rw[qf];cbv,by rw[qf];cbv,Cv _ _⟩
abbrev Qt:Stmt:=top xC
abbrev nNM:RU:=["_law_number","_law_letters","_law_words_here","_law_way","_law_name_here","_law_k"]
def xF:c9:=λK ps T=>∃n:Int,ps=[⟨ah,n⟩]/\0<=n/\n<2147483587/\T=cq K ak (· =Yb n)
theorem OS (M:`aY)(Df:Def K mg "_law_name" Qt ["_law_number"]):aD P w K mg base "_law_name" 1 (aP xF K):=by
 refine bP (N:=nNM) Df `n;let⟨n,rfl,n0,n1,rfl⟩:=hS;let q0:=Sj (n/4) (show(9:Int)≠0 by decide);let q1:=Si (n/4) (show(0:Int)<9 by decide);let r0:=Sj (n/4) (show(8:Int)≠0 by decide);let r1:=Si (n/4) (show(0:Int)<8 by decide);let ll:jA.length=26:=`b
 let lz:jA.length<=Vn:=by rw[ll];decide
 refine ai (bo 1 (y:=jA) aA ?_);refine ai (bo 2 (y:=jv) (bc.im (aQ (r:=ak) (aq aA (aq aA (aq aA (aq aA (aq aA (aq aA (aq aA (aq aA (aq aA aN))))))))) (by show 9<=Vn;decide))) ?_);refine ai (bo 3 (cY `e ac `c) ?_);refine ai (bo 0 (mM `e ac ⟨`c,`c⟩) ?_);let hw:cE jv (n/4%9)∣(jv.getD (n/4%9).toNat ""):=bb (xs:=jv) "" q0 (by show _<((9:Nat):Int);cbv);refine ai (aZ (ay iD `q ac) (λh=>?_) `Q)
 ·let h:n%4=0:=XW h;exact aj (aY (a9 `s (cY `e ac `c) hw) (by unfold Yb;rw[XU h]))
 let h0:¬n%4=0:=XX h;let wl:=(CZ (n/4%9).toNat `a).2;let s0:=Sj (n/4/9) (show(26:Int)≠0 by decide);let s1:=Si (n/4/9) (show(0:Int)<26 by decide);refine ai (aZ (ay iD `q ac) (λh=>?_) `Q)
 ·let h:n%4=1:=XW h;exact aj (aY (pY (a9 `s (cY `e ac `c) hw) (Cf `g (cY (mM `e ac ⟨`c,`c⟩) ac `c) s0 (by rw[ll];exact s1) lz) (UK (show _<=6 by show _+1<=6;cbv) `c)) (by unfold Yb;rw[XT h0,XU h]))
 let h1:¬n%4=1:=XX h;refine ai (bo 4 (y:=qM (n/4) 0) aA ?_);refine bG (N1:=λZ=>∃e5,Z=[aE (n/4),.im ak jA,.im (ae ak) jv,aE (n%4),.im ak (Yb n),e5]) (bO (λi Z=>∃e5,Z=[aE (n/4),.im ak jA,.im (ae ak) jv,aE (n%4),.im ak (qM (n/4) i),e5]) (eh M.range (bZ ac (cY `e ac `c)) ⟨`a,`a⟩) (aU 5) ⟨_,rfl⟩ (λi j Z hj hΓ=>?_) `R) ?_
 ·let⟨e5,rfl⟩:=hΓ;let⟨jl,ej⟩:=gu hj;obtain rfl:j=(i:Int):=`a
  let t0:=Sj (n/4/8+(i:Int)*(n/4/88)) (show(26:Int)≠0 by decide);let t1:=Si (n/4/8+(i:Int)*(n/4/88)) (show(0:Int)<26 by decide);exact aj (bo 4 (y:=qM (n/4) (i+1)) (pY `af (Cf `g (cY (bZ (mM `e ac ⟨`c,`c⟩) (mD `Y (mM `e ac ⟨`c,`c⟩) (pA `a `a))) ac `c) t0 (by rw[ll];exact t1) lz) (by rw[qf];exact UK (show _<=20 by show _+1<=20;cbv) `c)) ⟨_,rfl⟩)
 ·let⟨e5,rfl⟩:=hΓ;rw[bt];refine⟨e5,?_⟩;let e:Yb n=qM (n/4) (1+n/4%8).toNat:=by unfold Yb;rw[XT h0,XT h1]
  rw[e]
 rintro _ ⟨e5,rfl⟩;exact aj (aY `af rfl)
inductive Th
 | Yq (x:Str)
 | call (j:Int)
 | ifs (x:Str) (a b:`N)
 | X9 (x:Str) (a:`N)
 | leave
 | back
mutual
noncomputable def fI:Th->PV
 | .Yq x=>.lst [.str "do",.str x]
 | .call j=>.lst [.str "call",.int j]
 | .ifs x a b=>.lst [.str "if",.str x,.lst (ba a),.lst (ba b)]
 | .X9 x a=>.lst [.str "while",.str x,.lst (ba a)]
 | .leave=>.lst [.str "leave"]
 | .back=>.lst [.str "back"]
noncomputable def ba:List Th->List PV
 | []=>[]
 | t::ts=>fI t::ba ts
end
theorem eP:∀ts:List Th,ba ts=ts.map fI
 | []=>by rw[ba];rfl
 | t::ts=>by rw[ba,eP ts];rfl
mutual
noncomputable def dF:Th->Bool
 | .leave=>false
 | .back=>false
 | .ifs _ a b=>c6 a ||c6 b
 | _=>true
noncomputable def c6:List Th->Bool
 | []=>true
 | t::ts=>dF t&&c6 ts
end
mutual
noncomputable def eM:Th->Nat
 | .ifs _ a b=>1+max (dc a) (dc b)
 | .X9 _ a=>1+dc a
 | _=>0
noncomputable def dc:List Th->Nat
 | []=>0
 | t::ts=>max (eM t) (dc ts)
end
mutual
noncomputable def Yp:Th->Nat
 | .Yq _=>1
 | .call _=>1
 | .ifs _ a b=>2+Yk a+Yk b
 | .X9 _ a=>2+Yk a
 | _=>0
noncomputable def Yk:List Th->Nat
 | []=>0
 | t::ts=>Yp t+Yk ts
end
variable {ns:RS}{X2:Int}
section
variable {X1:RS}{n b:Nat}
theorem ju:∀a b:List Th,Yk (a++b)=Yk a+Yk b
 | [],b=>by rw[Yk];simp
 | t::a,b=>by rw[Tz,Yk,Yk,ju a b];cbv
theorem mQ:∀a b:List Th,dc (a++b)=max (dc a) (dc b)
 | [],b=>by rw[dc];simp
 | t::a,b=>by rw[Tz,dc,dc,mQ a b];cbv
abbrev Pn:=Int×Int
noncomputable def Yw (ns X1:RS)(sub:`aZ)(X2:Int)(s:Pn):Th×Pn:=
 if aL ns (s.1+1)%12=0/\0<X2 then(.leave,(s.1+2,s.2))
 else if aL ns (s.1+1)%12=1 then(.back,(s.1+2,s.2))
 else if 9<aL ns (s.1+1)%12/\0<X1.length then(.call (X1.getD (aL ns (s.1+3)%(X1.length:Int)).toNat 0),(s.1+3,s.2-1))
 else match sub with
  | some L=>
    if(3<aL ns (s.1+1)%12/\aL ns (s.1+1)%12<7)/\1<s.2 then(.ifs (Yb (aL ns (s.1+2))) (L X2 (s.1+2,s.2-2)).1 (L X2 (L X2 (s.1+2,s.2-2)).2).1,(L X2 (L X2 (s.1+2,s.2-2)).2).2)
    else if(6<aL ns (s.1+1)%12/\aL ns (s.1+1)%12<10)/\1<s.2 then(.X9 (Yb (aL ns (s.1+2))) (L (X2+1) (s.1+2,s.2-2)).1,(L (X2+1) (s.1+2,s.2-2)).2)
    else(.Yq (Yb (aL ns (s.1+2))),(s.1+2,s.2-1))
  | none=>(.Yq (Yb (aL ns (s.1+2))),(s.1+2,s.2-1))
noncomputable def oo:Th->Bool
 | .back=>true
 | _=>false
noncomputable def jb (ns X1:RS)(sub:`aZ)(tp:Bool)(X2:Int)(x:List Th×Pn):List Th×Pn:=
 if 0<x.2.2/\c6 x.1=true then
  if tp=true/\x.1.length=0/\oo (Yw ns X1 sub X2 x.2).1=true then(x.1++[.Yq "back"],((Yw ns X1 sub X2 x.2).2.1,(Yw ns X1 sub X2 x.2).2.2-1))
  else(x.1++[(Yw ns X1 sub X2 x.2).1],(Yw ns X1 sub X2 x.2).2)
 else x
noncomputable def Yv {α:Type}(f:α->α):Nat->α->α
 | 0,x=>x
 | n+1,x=>f (Yv f n x)
noncomputable def f9 (ns:RS)(tp:Bool)(k:Int):Nat:=(aL ns (k+1)%4+2*(if tp then 1 else 0)).toNat
noncomputable def Ym (ns X1:RS):Nat->Bool->Int->Pn->List Th×Pn
 | 0,tp,X2,s=>Yv (jb ns X1 none tp X2) (f9 ns tp s.1) ([],(s.1+1,s.2))
 | n+1,tp,X2,s=>Yv (jb ns X1 (some (Ym ns X1 n false)) tp X2) (f9 ns tp s.1) ([],(s.1+1,s.2))
structure GC (n b:Nat)(s:Pn)(r:List Th×Pn):Prop where
 dp:dc r.1<=n
 c:(Yk r.1:Int)+r.2.2=s.2/\0<=r.2.2
 k:s.1<=r.2.1/\r.2.1<=s.1+b
 l:r.1.length<=5
def GU (n b:Nat)(L:Int->Pn->List Th×Pn):Prop:=∀lp s,0<=s.2->GC n b s (L lp s)
theorem Ah (ns:RS)(tp:Bool)(k:Int):f9 ns tp k<=5:=by
 unfold f9;let a:=Sj (aL ns (k+1)) (show(4:Int)≠0 by decide);let b:=Si (aL ns (k+1)) (show(0:Int)<4 by decide);cases tp<;>simp<;>cbv
structure uP (n:Nat)(b:Nat)(s:Pn)(r:Th×Pn):Prop where
 dp:eM r.1<=n
 c:(Yp r.1:Int)+r.2.2=s.2/\0<=r.2.2
 k:s.1<=r.2.1/\r.2.1<=s.1+b
theorem yf (ns X1:RS)(X2:Int)(s:Pn)(h:0<s.2):uP 0 3 s (Yw ns X1 none X2 s):=by
 unfold Yw;split
 ·exact⟨by simp[eM],⟨by simp[Yp],by show 0<=s.2;cbv⟩,by constructor<;>simp<;>cbv⟩
 split
 ·exact⟨by simp[eM],⟨by simp[Yp],by show 0<=s.2;cbv⟩,by constructor<;>simp<;>cbv⟩
 split
 ·exact⟨by simp[eM],⟨by simp[Yp];cbv,by show 0<=s.2-1;cbv⟩,by constructor<;>simp<;>cbv⟩
 ·exact⟨by simp[eM],⟨by simp[Yp];cbv,by show 0<=s.2-1;cbv⟩,by constructor<;>simp<;>cbv⟩
theorem yr {L:Int->Pn->List Th×Pn}(hL:GU n b L)(X2:Int)(s:Pn)(h:0<s.2):uP (n+1) (3+2*b) s (Yw ns X1 (some L) X2 s):=by
 unfold Yw;split
 ·exact⟨by simp[eM],⟨by simp[Yp],by show 0<=s.2;cbv⟩,by constructor<;>simp<;>cbv⟩
 split
 ·exact⟨by simp[eM],⟨by simp[Yp],by show 0<=s.2;cbv⟩,by constructor<;>simp<;>cbv⟩
 split
 ·exact⟨by simp[eM],⟨by simp[Yp];cbv,by show 0<=s.2-1;cbv⟩,by constructor<;>simp<;>cbv⟩
 dsimp only;split
 ·rename_i hh;let c2:1<s.2:=hh.2;let⟨d1,⟨a1,a2⟩,k1,_⟩:=hL X2 (s.1+2,s.2-2) (by show 0<=s.2-2;cbv);let⟨d2,⟨a3,a4⟩,k2,_⟩:=hL X2 (L X2 (s.1+2,s.2-2)).2 a2;dsimp only at a1 k1;refine⟨by simp only[eM];cbv,⟨by simp only[Yp];push_cast;cbv,a4⟩,?_⟩;constructor
  ·exact Sm `a (Sm k1.1 k2.1)
  ·show(L X2 (L X2 (s.1+2,s.2-2)).2).2.1<=s.1+((3+2*b:Nat):Int);have:=k2.2;have:=k1.2;push_cast;cbv
 split
 ·rename_i _ hh;let c2:1<s.2:=hh.2;let⟨d1,⟨a1,a2⟩,k1,_⟩:=hL (X2+1) (s.1+2,s.2-2) (by show 0<=s.2-2;cbv);dsimp only at a1 k1;refine⟨by simp only[eM];cbv,⟨by simp only[Yp];push_cast;cbv,a2⟩,?_⟩;constructor
  ·exact Sm `a k1.1
  ·show(L (X2+1) (s.1+2,s.2-2)).2.1<=s.1+((3+2*b:Nat):Int);have:=k1.2;push_cast;cbv
 ·exact⟨by simp[eM],⟨by simp[Yp];cbv,by show 0<=s.2-1;cbv⟩,by constructor<;>simp<;>cbv⟩
structure sO (n b i:Nat)(k0 c0:Int)(x:List Th×Pn):Prop where
 dp:dc x.1<=n
 c:(Yk x.1:Int)+x.2.2=c0/\0<=x.2.2
 k:k0<=x.2.1/\x.2.1<=k0+b*i
 l:x.1.length<=i
theorem sO.step {k0 c0:Int}{x:List Th×Pn}{sub:`aZ}{tp:Bool}(h:sO n b i k0 c0 x)(ht:0<x.2.2->uP n b x.2 (Yw ns X1 sub X2 x.2))(hb:1<=b):sO n b (i+1) k0 c0 (jb ns X1 sub tp X2 x):=by
 let hm:((b*(i+1):Nat):Int)=(b*i:Nat)+b:=by push_cast;rw[Int.mul_add];cbv
 let hk:=h.k;let hc:=h.c;let hl:=h.l;let hd:=h.dp;unfold jb;split
 ·rename_i hh;let t:=ht hh.1;let tk:=t.k;let tc:=t.c;split
  ·rename_i h2;let hbk:(Yw ns X1 sub X2 x.2).1= .back:=by
    have:=h2.2.2;cases e:(Yw ns X1 sub X2 x.2).1<;>rw[e] at this<;>first | rfl | cases this
   rw[hbk] at tc;let hrw:(Yp .back:Int)=0:=by simp[Yp]
   rw[hrw] at tc;refine⟨?_,⟨?_,?_⟩,⟨?_,?_⟩,?_⟩
   ·rw[mQ];simp[dc,eM];exact hd
   ·rw[ju];simp[Yk,Yp];cbv
   ·show 0<=(Yw ns X1 sub X2 x.2).2.2-1;have:=hh.1;cbv
   ·exact Sm hk.1 tk.1
   ·show(Yw ns X1 sub X2 x.2).2.1<=k0+((b*(i+1):Nat):Int);have:=tk.2;have:=hk.2;rw[hm];push_cast at *;cbv
   ·simp;cbv
  ·refine⟨?_,⟨?_,tc.2⟩,⟨?_,?_⟩,?_⟩
   ·rw[mQ];have:=t.dp;simp[dc];cbv
   ·rw[ju];simp[Yk];cbv
   ·exact Sm hk.1 tk.1
   ·show(Yw ns X1 sub X2 x.2).2.1<=k0+((b*(i+1):Nat):Int);have:=tk.2;have:=hk.2;rw[hm];push_cast at *;cbv
   ·simp;cbv
 ·refine⟨hd,hc,⟨hk.1,?_⟩,`a⟩;have:=hk.2;show x.2.1<=k0+((b*(i+1):Nat):Int);rw[hm];push_cast at *;cbv
noncomputable def mS:Nat->Nat
 | 0=>16
 | n+1=>1+5*(3+2*mS n)
theorem xp {ns X1:RS}{sub:`aZ}{n b:Nat}(hb:1<=b)(hT:∀(lp:Int)(s:Pn),0<s.2->uP n b s (Yw ns X1 sub lp s))(tp:Bool)(lp:Int)(s:Pn)(hs:0<=s.2):∀m,sO n b m (s.1+1) s.2 (Yv (jb ns X1 sub tp lp) m ([],(s.1+1,s.2)))
 | 0=>⟨by simp[Yv,dc],⟨by simp[Yv,Yk],hs⟩,⟨Sl _,by simp[Yv]⟩,by simp[Yv]⟩
 | m+1=>sO.step (xp hb hT tp lp s hs m) (λh=>hT lp _ h) hb
theorem Cn {sub:`aZ}(hb:1<=b)(hT:∀(lp:Int)(s:Pn),0<s.2->uP n b s (Yw ns X1 sub lp s))(tp:Bool)(lp:Int)(s:Pn)(hs:0<=s.2):GC n (1+5*b) s (Yv (jb ns X1 sub tp lp) (f9 ns tp s.1) ([],(s.1+1,s.2))):=by
 let h:=xp hb hT tp lp s hs (f9 ns tp s.1);let hm:=Ah ns tp s.1;let hmul:b*f9 ns tp s.1<=b*5:=Nat.mul_le_mul_left b hm;refine⟨h.dp,h.c,⟨by have:=h.k.1;cbv,?_⟩,UK h.l hm⟩;have:=h.k.2;cbv
theorem nv (ns X1:RS):∀(n:Nat)(tp:Bool),GU n (mS n) (Ym ns X1 n tp)
 | 0,tp=>λlp s hs=>Cn (b:=3) `c (λlp s h=>yf ns X1 lp s h) tp lp s hs
 | n+1,tp=>λlp s hs=>Cn (b:=3+2*mS n) `a (λlp s h=>yr (nv ns X1 n false) lp s h) tp lp s hs
noncomputable def dt:Th->Str
 | .Yq _=>"do"
 | .call _=>"call"
 | .ifs _ _ _=>"if"
 | .X9 _ _=>"while"
 | .leave=>"leave"
 | .back=>"back"
noncomputable def dC:Th->List PV
 | .Yq x=>[.str "do",.str x]
 | .call j=>[.str "call",.int j]
 | .ifs x a b=>[.str "if",.str x,.lst (ba a),.lst (ba b)]
 | .X9 x a=>[.str "while",.str x,.lst (ba a)]
 | .leave=>[.str "leave"]
 | .back=>[.str "back"]
theorem dg (t:Th):fI t= .lst (dC t):=by cases t<;>rw[fI]<;>rfl
theorem MO (t:Th):cE (dC t) 0∣(.str (dt t)):=by cases t<;>rfl
end
variable {a:Expr}{j:Nat}{t:Th}
section
variable {X:Cx}{Z Γ1:Ga}
theorem gW {p1 pos:Pos}(h:EV X a Z au (fI t) Γ1):EV X (.Subscript a (.Constant (.int 0) j p1) pos) Z ak (dt t) Γ1:=EV.sP (a9 (EV.lP (by rw[dg] at h;exact h)) ac (MO t))
theorem jV {p1 pos:Pos}{i:Int}{xs:`aP}(h:EV X a Z au (fI t) Γ1)(hx:cE (dC t) i∣.lst xs):EV X (.Subscript a (.Constant (.int i) j p1) pos) Z (ae au) xs Γ1:=EV.lP (a9 (EV.lP (by rw[dg] at h;exact h)) ac hx)
end
abbrev Lk:Stmt:=top uL
abbrev nPA:RU:=["_law_items","_law_one"]
theorem FR:bD nPA ["_law_items"] (ao Lk):=Zf
def Ge (n:Nat):c9:=λK ps T=>∃ts:List Th,ps=[⟨ae au,ba ts⟩]/\dc ts<n/\T=cq K cU (· =c6 ts)
theorem Eo (t:Th):(dt t="leave"∨dt t="back")->dF t=false:=by
 intro h;cases t<;>simp[dt] at h<;>first | (exfalso;revert h;decide) | simp[dF]
theorem nC {t:Th}:∀{ts:`N},t∈ts->eM t<=dc ts
 | s::ts,h=>by
   rw[dc];obtain rfl | h:=SF.mp h
   ·cbv
   ·have:=nC h;cbv
theorem NF (F:dw K "_law_passes" "_law_passes" Lk f fd)(hm:mg "_law_passes"∣.ref f)(hb:be K fd ["_law_items"] []):∀n:Nat,aD P w K mg base "_law_passes" (n+1) (aP (Ge n) K):=by
 intro n;let nd:=FR.nd
 induction n with
 | zero=>
   refine ij F FR hm hb (λqs T ⟨_,e,_⟩=>by rw[e];rfl) `ag;let⟨ts,_,h,_⟩:=hS;exact XS h (U4 _)
 | succ n ih=>
   refine ij F FR hm hb (λqs T ⟨_,e,_⟩=>by rw[e];rfl) `ag;let⟨ts,rfl,hd,rfl⟩:=hS;refine ai (bO (r:=au) (λi Z=>∃e1,Z=[.im (ae au) (ba ts),e1]/\c6 ts=c6 (ts.drop i)) (bM `e) (aU 1) ⟨_,rfl,rfl⟩ (λi x Z hx hΓ=>?_) `R)
   ·let⟨e1,rfl,hp⟩:=hΓ;rw[eP,Sw] at hx;let⟨t,ht,rfl⟩:=U9.mp hx;let hdr:ts.drop i=t::ts.drop (i+1):=by
     let⟨h1,h2⟩:=Sn.mp ht;rw[TC h1,h2]
    rw[hdr,c6] at hp;let hdt:=nC (SD ht);refine ai (aZ (TW.tv (jd (ay bS (gW `g) aA) (λ_=>jk (ay bS (gW `g) aA)))) (λh=>?_) `Q)
    ·let h:dt t="leave"∨dt t="back":= ~~~h
     exact aj (aY m7 (by rw[hp,Eo t h];rfl))
    ·let h:¬(dt t="leave"∨dt t="back"):= ~~~h
     by_cases hif:∃x a b,t= .ifs x a b
     ·let⟨x,a,b,rfl⟩:=hif;let hab:dc a<n/\dc b<n:=by rw[eM] at hdt;cbv
      refine aj (aZ (TW.tv (de (ay bS (gW `g) aA) (λ_=>de (gj (bV (aB ih hr (ag (jV `g (xs:=ba a) rfl) ax) ⟨a,rfl,hab.1,rfl⟩))) (λ_=>eO (gj (bV (aB ih hr (ag (jV `g (xs:=ba b) rfl) ax) ⟨b,rfl,hab.2,rfl⟩))))))) (λh=>?_) (λh=>aH ⟨_,rfl,?_⟩))
      ·let h:c6 a=false/\c6 b=false:=by simpa[dt] using h
       exact aj (aY m7 (by rw[hp,dF,h.1,h.2];rfl))
      ·let h:c6 a=false->c6 b=true:=by simpa[dt] using h
       rw[hp,dF];cases ea:c6 a with
       | true=>simp
       | false=>rw[h ea];simp
     ·let hk:decide (dt t="if")=false:=by cases t<;>first | rfl | exact XS ⟨_,_,_,rfl⟩ hif
      let hpt:dF t=true:=by cases t<;>first | (simp[dF];done) | exact XS ⟨_,_,_,rfl⟩ hif | exact XS `aR h | exact XS (.inr rfl) h
      refine aj (aZ (TW.tv (de (y:=true) (ay bS (gW `g) aA) (λh=>XS (hk.symm.trans h) `c))) (λh=>?_) (λh=>aH ⟨_,rfl,?_⟩))
      ·rw[hk] at h;cases h
      ·rw[hp,hpt];rfl
   ·let⟨e1,rfl,hp⟩:=hΓ;rw[show(ba ts).length=ts.length by rw[eP,Ss],drop_length,c6] at hp;exact aj (aY m7 hp.symm)
noncomputable def d8 (ns X1:RS):Nat->Option (Int->Pn->List Th×Pn)
 | 0=>none
 | n+1=>some (Ym ns X1 n false)
theorem m8 (ns X1:RS)(n:Nat)(tp:Bool)(X2:Int)(s:Pn):Ym ns X1 n tp X2 s=Yv (jb ns X1 `an tp X2) (f9 ns tp s.1) ([],(s.1+1,s.2)):=by cases n<;>rfl
noncomputable def bT:Nat->Nat
 | 0=>3
 | n+1=>3+2*mS n
theorem Ho (n:Nat):3<=bT n:=by cases n<;>simp[bT]
structure qh (ns X1:RS)(n b:Nat)(k c:Int):Prop where
 s:xm ns
 k0:0<=k
 k1:k+(b:Int)<=900000
 c0:0<=c
 c1:c<=100
 l:X1.length<=100
 n4:n<=4
abbrev Pl (n:Nat)(X2:Int)(X1:RS):List Pk:=[⟨ah,4-(n:Int)⟩,⟨ah,X2⟩,⟨ae ah,X1⟩]
def Kb (n:Nat):jt (RS ⊕ Int):=λK xs ps T=>∃(ns X1:RS)(k c X2:Int),xs=bw ns k c/\ps=Pl n X2 X1/\qh ns X1 n (bT n) k c/\0<c/\T=λxs'=>uh λy=>xs'=bw ns (Yw ns X1 `an X2 (k,c)).2.1 (Yw ns X1 `an X2 (k,c)).2.2/\y=fI (Yw ns X1 `an X2 (k,c)).1
def G9 (n:Nat):jt (RS ⊕ Int):=λK xs ps T=>∃(ns X1:RS)(k c X2:Int),xs=bw ns k c/\ps=Pl n X2 X1/\qh ns X1 n (mS n) k c/\T=λxs'=>uh λy=>xs'=bw ns (Ym ns X1 n (decide (n=4)) X2 (k,c)).2.1 (Ym ns X1 n (decide (n=4)) X2 (k,c)).2.2/\y= .lst (ba (Ym ns X1 n (decide (n=4)) X2 (k,c)).1)
variable {L:Int->Pn->List Th×Pn}
section
variable {X1:RS}{sub:`aZ}{k c:Int}
abbrev gG (ns:RS)(k:Int):Int:=aL ns (k+1)%12
abbrev C0 (ns:RS)(k X2:Int):Prop:=gG ns k=0/\0<X2
abbrev C2 (ns X1:RS)(k:Int):Prop:=9<gG ns k/\0<X1.length
abbrev C3 (ns:RS)(k c:Int):Prop:=(3<gG ns k/\gG ns k<7)/\1<c
abbrev C4 (ns:RS)(k c:Int):Prop:=(6<gG ns k/\gG ns k<10)/\1<c
theorem BD (h:C0 ns k X2):Yw ns X1 sub X2 (k,c)=(.leave,(k+2,c)):=XU h
theorem Et (h0:¬C0 ns k X2)(h:gG ns k=1):Yw ns X1 sub X2 (k,c)=(.back,(k+2,c)):=by
 unfold Yw;rw[XT h0,XU h]
theorem Fv (h0:¬C0 ns k X2)(h1:¬gG ns k=1)(h:C2 ns X1 k):Yw ns X1 sub X2 (k,c)=(.call (X1.getD (aL ns (k+3)%(X1.length:Int)).toNat 0),(k+3,c-1)):=by
 unfold Yw;rw[XT h0,XT h1,XU h]
theorem Kw (h0:¬C0 ns k X2)(h1:¬gG ns k=1)(h2:¬C2 ns X1 k)(h:C3 ns k c):Yw ns X1 (some L) X2 (k,c)=(.ifs (Yb (aL ns (k+2))) (L X2 (k+2,c-2)).1 (L X2 (L X2 (k+2,c-2)).2).1,(L X2 (L X2 (k+2,c-2)).2).2):=by
 unfold Yw;rw[XT h0,XT h1,XT h2];dsimp only;rw[XU h]
theorem K6 (h0:¬C0 ns k X2)(h1:¬gG ns k=1)(h2:¬C2 ns X1 k)(h3:¬C3 ns k c)(h:C4 ns k c):Yw ns X1 (some L) X2 (k,c)=(.X9 (Yb (aL ns (k+2))) (L (X2+1) (k+2,c-2)).1,(L (X2+1) (k+2,c-2)).2):=by
 unfold Yw;rw[XT h0,XT h1,XT h2];dsimp only;rw[XT h3,XU h]
theorem LY (h0:¬C0 ns k X2)(h1:¬gG ns k=1)(h2:¬C2 ns X1 k)(h:∀L,sub∣L->¬C3 ns k c/\¬C4 ns k c):Yw ns X1 sub X2 (k,c)=(.Yq (Yb (aL ns (k+2))),(k+2,c-1)):=by
 unfold Yw;rw[XT h0,XT h1,XT h2];cases sub with
 | none=>rfl
 | some L=>dsimp only;rw[XT (h L rfl).1,XT (h L rfl).2]
end
theorem xn:∀ts:List Th,Er (ba ts)=false
 | []=>by rw[ba];rfl
 | [t]=>by rw[ba,ba,dg];rfl
 | t::u::ts=>by rw[ba,ba,dg,dg];rfl
mutual
theorem Hk:∀t:Th,noMix (fI t)=true
 | .Yq x=>by rw[dg];rfl
 | .call x=>by rw[dg];rfl
 | .leave=>by rw[dg];rfl
 | .back=>by rw[dg];rfl
 | .ifs x A B=>by
   let hA:=pF A;let hB:=pF B;rw[dg];simp only[dC,noMix,ic,xn,hA,hB,Bool.not_false,Bool.true_and,Sf];rfl
 | .X9 x A=>by
   let hA:=pF A;rw[dg];simp only[dC,noMix,ic,xn,hA,Bool.not_false,Bool.true_and,Sf];rfl
theorem pF:∀ts:List Th,ic (ba ts)=true
 | []=>by rw[ba,ic]
 | t::ts=>by rw[ba,ic,Hk t,pF ts];rfl
end
theorem lZ (ts:`N):noMix (.lst (ba ts))=true:=by rw[noMix,xn,pF];rfl
theorem oT {k c:Int}(R:Hp)(ws:`K)(h:PySem.Paired (da.R K R) ws (bw ns k c)):∃s k' rest,ws= .ref s:: .int k'::rest:=by
 cases h with
 | cons a1 t1=>cases t1 with
   | cons a2 t2=>
     let⟨s,e,_⟩:=(a1:ck.R K R _ ns);let e2:_=V.int k:=a2;exact⟨s,k,_,by rw[e,e2]⟩
abbrev G6:Stmt:=top vB
abbrev nTH:RU:=["_law_pen","_law_depth","_law_loops","_law_calls","_law_way","_law_name_here","_law_first"]
abbrev Ad:RU:=["_law_pen","_law_depth","_law_loops","_law_calls"]
theorem JR:bD nTH Ad (ao G6):=Zf
theorem Hg (M:`aY)(CP:`aU)(CN:`aw)(n:Nat)(CL:∀m,n=m+1->aD P w K mg base "_law_list" (2*m+8) (fR da (G9 m) K))(F:dw K "_law_thing" "_law_thing" G6 f fd)(hm:mg "_law_thing"∣.ref f)(hb:be K fd Ad []):aD P w K mg base "_law_thing" (2*n+7) (fR da (Kb n) K):=by
 let nd:=JR.nd;let CP:=CP.mono (show 2<=2*n+6 by cbv);let CN:=CN.mono (show 1<=2*n+6 by cbv);refine wj (k:=2*n+6) F JR hm hb (λxs qs T ⟨_,_,_,_,_,_,e,_⟩=>by rw[e];rfl) (λX6 A outer s H E a xs qs T hr hS=>?_);let⟨ns,X1,k,c,X2,rfl,rfl,hp,c0,rfl⟩:=hS;let hb16:=Ho n;let k0:=hp.k0;let k1:=hp.k1;let cl:=hp.l;let c1:=hp.c1;refine ai (bo 4 (cY (dN 0 (st:=bw ns (k+1) c) (z:=aL ns (k+1)) CP hr ax rfl ⟨ns,k,c,rfl,rfl,hp.s,k0,`a,rfl⟩) ac `c) ?_);let m2:=mG ns (k+2);let e2:k+1+1=k+2:=`a
 refine ai (bo 5 (y:=Yb (aL ns (k+2))) (aB CN hr (ag (dN 0 (st:=bw ns (k+2) c) (z:=aL ns (k+2)) CP hr ax rfl ⟨ns,k+1,c,rfl,rfl,hp.s,`a,`a,by rw[e2]⟩) ax) ⟨_,rfl,m2.1,m2.2,rfl⟩) ?_);let fin:∀(k' c':Int)(t:Th)(r:Th×Pn),Yw ns X1 `an X2 (k,c)=(t,(k',c'))->(λxs' (y:PV)=>xs'=bw ns (Yw ns X1 `an X2 (k,c)).2.1 (Yw ns X1 `an X2 (k,c)).2.2/\y=fI (Yw ns X1 `an X2 (k,c)).1) (bw ns k' c') (.lst (dC t)):=λk' c' t r h=>by rw[h];exact⟨rfl,(dg t).symm⟩
 refine ai (aZ (TW.tv (de (ay iD `af ac) (λ_=>eO (ay jz `s ac)))) (λh=>?_) `Q)
 ·let h:C0 ns k X2:= ~~~h
  exact aj (iT 0 (bc.qA (aQ (r:=au) (aq `bq aN) (by show 1<=Vn;decide)) rfl) rfl (fin _ _ .leave (.leave,(k,c)) (BD h)))
 let h0:¬C0 ns k X2:= ~~~h
 refine ai (aZ (ay iD `af ac) (λh=>?_) `Q)
 ·let h:gG ns k=1:=XW h;exact aj (iT 0 (bc.qA (aQ (r:=au) (aq `bq aN) (by show 1<=Vn;decide)) rfl) rfl (fin _ _ .back (.leave,(k,c)) (Et h0 h)))
 let h1:¬gG ns k=1:=XX h;refine ai (aZ (TW.tv (de (ay jz `af ac) (λ_=>eO (ay jz (eo M.len `q) ac)))) (λh=>?_) `Q)
 ·let h:C2 ns X1 k:=by
   let h:9<gG ns k/\(0:Int)<(X1.length:Int):= ~~~h
   exact⟨h.1,`a⟩
  let hl:(0:Int)<(X1.length:Int):=by have:=h.2;cbv
  refine ai `S;let e3:k+2+1=k+3:=`a
  let q0:=Sj (aL ns (k+3)) (show(X1.length:Int)≠0 by cbv);let q1:=Si (aL ns (k+3)) hl;exact aj (iT 0 (bc.qA (aQ (r:=au) (aq `bq (aq (EV.pI (a9 `q (cY (dN 0 (st:=bw ns (k+3) (c-1)) (z:=aL ns (k+3)) CP hr ax rfl ⟨ns,k+2,c-1,rfl,rfl,hp.s,`a,`a,by rw[e3]⟩) (eo M.len `q) hl) (bb 0 q0 q1))) aN)) (by show 2<=Vn;decide)) rfl) rfl (fin _ _ (.call _) (.leave,(k,c)) (Fv h0 h1 h)))
 let h2:¬C2 ns X1 k:=by
  let h:9<gG ns k->¬(0:Int)<(X1.length:Int):= ~~~h
  exact λ⟨x,y⟩=>h x `a
 refine ai (aZ (TW.tv (de (ay jz `af ac) (λ_=>de (ay nD `af ac) (λ_=>de (ay nD `g ac) (λ_=>eO (ay jz (EV.qL (dI 0 ac rfl (y:=(Sum.inr c:RS ⊕ Int)) rfl)) ac)))))) (λh=>?_) `Q)
 ·let h:3<gG ns k/\gG ns k<7/\4-(n:Int)<4/\1<c:= ~~~h
  let h3:C3 ns k c:=⟨⟨h.1,h.2.1⟩,h.2.2.2⟩;let hc:=h.2.2.2;let hn:=h.2.2.1;obtain⟨m,rfl⟩:∃m,n=m+1:=⟨n-1,`a⟩;let CL:=(CL m rfl).mono (show 2*m+8<=2*(m+1)+6 by cbv);let n4:=hp.n4;let hf:decide (m=4)=false:=XZ `a;let hbd:bT (m+1)=3+2*mS m:=rfl;refine ai `S;change WS _ _ [.ob (aF a da (bw ns (k+2) (c-2))),aE (4-((m+1:Nat):Int)),aE X2,eT X1,aE (aL ns (k+1)%12),.im ak (Yb (aL ns (k+2))),.no] _ _;let p1:qh ns X1 m (mS m) (k+2) (c-2):=⟨hp.s,`a,`a,`a,`a,hp.l,`a⟩;let⟨g1,g2,g3,g4⟩:=nv ns X1 m false X2 (k+2,c-2) (by show 0<=c-2;cbv);let e1:=Kw (L:=Ym ns X1 m false) h0 h1 h2 h3;generalize hr1:Ym ns X1 m false X2 (k+2,c-2)=r1 at g1 g2 g3 g4 e1;dsimp only at g2 g3;refine ai (ng 6 (iY 0 (st:=bw ns (Ym ns X1 m false X2 (k+2,c-2)).2.1 (Ym ns X1 m false X2 (k+2,c-2)).2.2) (z:=.lst (ba (Ym ns X1 m false X2 (k+2,c-2)).1)) CL hr (ag (EV.cast (y':=4-(m:Int)) (bZ `g ac) `a) (ag `s (ag `q ax))) rfl ⟨ns,X1,_,_,X2,rfl,rfl,p1,by rw[hf]⟩ oT (lZ _)) λf6=>?_);rw[hr1];change WS _ _ [.ob (aF a da (bw ns r1.2.1 r1.2.2)),aE (4-((m+1:Nat):Int)),aE X2,eT X1,aE (aL ns (k+1)%12),.im ak (Yb (aL ns (k+2))),.ob (fV (.lst (ba r1.1)) f6)] _ _;let p2:qh ns X1 m (mS m) r1.2.1 r1.2.2:=⟨hp.s,`a,`a,`a,`a,hp.l,`a⟩;exact aj (iT 0 (Bz 6 `bq (EV.pS `Y) (iY 0 (st:=bw ns (Ym ns X1 m false X2 r1.2).2.1 (Ym ns X1 m false X2 r1.2).2.2) (z:=.lst (ba (Ym ns X1 m false X2 r1.2).1)) CL hr (ag (EV.cast (y':=4-(m:Int)) (bZ `g ac) `a) (ag `s (ag `q ax))) rfl ⟨ns,X1,_,_,X2,rfl,rfl,p2,by rw[hf]⟩ oT (lZ _)) rfl rfl rfl rfl) rfl (fin _ _ (.ifs _ _ _) (.leave,(k,c)) e1))
 let h3:n=0∨¬C3 ns k c:=by
  let h:3<gG ns k->gG ns k<7->4-(n:Int)<4->¬1<c:= ~~~h
  by_cases z:n=0
  ·exact .inl z
  ·exact .inr λ⟨⟨x,y⟩,u⟩=>h x y `a u
 refine ai (aZ (TW.tv (de (ay jz `af ac) (λ_=>de (ay nD `af ac) (λ_=>de (ay nD `g ac) (λ_=>eO (ay jz (EV.qL (dI 0 ac rfl (y:=(Sum.inr c:RS ⊕ Int)) rfl)) ac)))))) (λh=>?_) `Q)
 ·let h:6<gG ns k/\gG ns k<10/\4-(n:Int)<4/\1<c:= ~~~h
  let h4:C4 ns k c:=⟨⟨h.1,h.2.1⟩,h.2.2.2⟩;let hc:=h.2.2.2;let hn:=h.2.2.1;let h3x:¬C3 ns k c:=h3.resolve_left `a;obtain⟨m,rfl⟩:∃m,n=m+1:=⟨n-1,`a⟩;let CL:=(CL m rfl).mono (show 2*m+8<=2*(m+1)+6 by cbv);let n4:=hp.n4;let hf:decide (m=4)=false:=XZ `a;let hbd:bT (m+1)=3+2*mS m:=rfl;refine ai `S;change WS _ _ [.ob (aF a da (bw ns (k+2) (c-2))),aE (4-((m+1:Nat):Int)),aE X2,eT X1,aE (aL ns (k+1)%12),.im ak (Yb (aL ns (k+2))),.no] _ _;let p1:qh ns X1 m (mS m) (k+2) (c-2):=⟨hp.s,`a,`a,`a,`a,hp.l,`a⟩;let e1:=K6 (L:=Ym ns X1 m false) h0 h1 h2 h3x h4;exact aj (iT 0 (Dn `bq (EV.pS `Y) (iY 0 (st:=bw ns (Ym ns X1 m false (X2+1) (k+2,c-2)).2.1 (Ym ns X1 m false (X2+1) (k+2,c-2)).2.2) (z:=.lst (ba (Ym ns X1 m false (X2+1) (k+2,c-2)).1)) CL hr (ag (EV.cast (y':=4-(m:Int)) (bZ `g ac) `a) (ag (bZ `s ac) (ag `q ax))) rfl ⟨ns,X1,_,_,X2+1,rfl,rfl,p1,by rw[hf]⟩ oT (lZ _)) rfl rfl) rfl (fin _ _ (.X9 _ _) (.leave,(k,c)) e1))
 let h4:n=0∨¬C4 ns k c:=by
  let h:6<gG ns k->gG ns k<10->4-(n:Int)<4->¬1<c:= ~~~h
  by_cases z:n=0
  ·exact .inl z
  ·exact .inr λ⟨⟨x,y⟩,u⟩=>h x y `a u
 refine ai `S;refine aj (iT 0 (bc.qA (aQ (r:=au) (aq `bq (aq (EV.pS `Y) aN)) (by show 2<=Vn;decide)) rfl) rfl (fin _ _ (.Yq _) (.leave,(k,c)) (LY h0 h1 h2 λL e=>?_)));cases n with
 | zero=>cases e
 | succ m=>exact⟨h3.resolve_left `a,h4.resolve_left `a⟩
mutual
noncomputable def bI:Th->Int->List PV×Int
 | .Yq x,k=>([.str "do",.str x,.int k],k+1)
 | .call j,k=>([.str "call",.int j,.int k],k+1)
 | .ifs x A B,k=>([.str "if",.str x,.lst ((aR A (k+1)).1.map PV.lst),.lst ((aR B (aR A (k+1)).2).1.map PV.lst),.int k],(aR B (aR A (k+1)).2).2)
 | .X9 x A,k=>([.str "while",.str x,.lst ((aR A (k+1)).1.map PV.lst),.int k],(aR A (k+1)).2)
 | .leave,k=>([.str "leave"],k)
 | .back,k=>([.str "back"],k)
noncomputable def aR:List Th->Int->List (List PV)×Int
 | [],k=>([],k)
 | t::ts,k=>((bI t k).1::(aR ts (bI t k).2).1,(aR ts (bI t k).2).2)
end
theorem DJ (ts:`N):ba ts=(ts.map dC).map PV.lst:=by
 rw[eP,Tp];exact TK λt _=>dg t
theorem oq:∀(ts:`N)(k:Int),(aR ts k).1.length=ts.length
 | [],k=>by rw[aR];rfl
 | t::ts,k=>by rw[aR,SE,SE,oq ts]
noncomputable def my (n:Nat):Sp:=λvs H Q _=>∃(R:Hp)(b c:Addr)(g:RY)(ts:`N)(k:Int),vs=[.ref b,.ref c]/\av R H/\cP H (.ref b) (.lst (ba ts)) (b::g)/\(b::g).Nodup/\(∀d∈b::g,R d=none)/\c∉b::g/\R c=none/\H c∣(.lst [.int k])/\dc ts<=n/\
 ∀H' R',Ext (cS H (c::b::g)) R H' R'->cP H' (.ref b) (.lst ((aR ts k).1.map PV.lst)) (b::g)->H' c∣(.lst [.int (aR ts k).2])->(∀d∈c::b::g,R' d=none)->Q .Ye H'
end K1
namespace Fc
open PySem PySem.Spec PySem.W PySem.Calls L2
open PyProof.Rows hiding St
open PySem PySem.Spec L2 K1
section
variable {X:Cx}{Z Γ1 Γ2 Γ3:Ga}{α β γ δ:Type}{N:Ga->Prop}{T:RT}
variable {x:Str}{n':Nat}{a c:Addr}{ps:List PT}{q0:PT}{ts:`N}
theorem zr {x:Str}{n d:Nat}{es:R6}{σ:St}{H0 R0 H R:Hp}{i l:Nat}{b:Addr}{g:RY}{k:Int}{Q:VK}{Ex:XK}{ys:`aP}(E:`aS)(hil:i≠l)(hΓ:`az)(hl:Z[l]?∣(.ob (aF c ah [k])))(hq:ps[n']?∣q0)(Yx:∀e∈b::g,e∈cC q0)(t:cP H (.ref b) (.lst (ba ts)) (b::g))(nd:(b::g).Nodup)(hd:dc ts<=d)(hys:∀H':Hp,(∀e∈cC q0,e∉b::g->H' e=H e)->cP H' (.ref b) (.lst ((aR ts k).1.map PV.lst)) (b::g)->cP H' (.ref q0.2.1) (.lst ys) (cC q0))(hQ:∀H' R',ar X.K σ H0 R0 H' R' ((Z.set i (.ob (bp a (ps.set n' (ys,q0.2.1,q0.2.2))))).set l (.ob (aF c ah [(aR ts k).2])))->av R R'->Q .Ye H'):my d [.ref b,.ref c] H Q Ex:=by
 let⟨⟨v,ea,rfl,kk⟩,hR⟩:=E.ent i _ hΓ;let⟨ec,⟨ws,hc,pc⟩,hRc⟩:=cn (E.ent l _ hl);let ews:ws=[.int k]:=by
  cases pc with
  | cons a1 t1=>cases t1;have:_=V.int k:=a1;rw[this]
 subst ews;let inB:∀e∈b::g,e∈(bp a ps).fp:=λe he=>Sv _ (bz.mpr ⟨n',q0,hq,Yx e he⟩);let cB:∀e∈(bp a ps).fp,e≠c:=λe he z=>hil (E.ds i l _ _ e hΓ hl he (by rw[z];exact Su.mpr rfl));refine⟨R,b,c,g,ts,k,rfl,E.sub,t,nd,λe he=>hR e (inB e he),λw=>cB c (inB c w) rfl,hRc,hc,hd,λH' R' xx t' hc' Y7=>?_⟩;let keep:∀e∈(bp a ps).fp,e∉b::g->H' e=H e:=λe he hn=>xx.keep (λw=>(SF.mp w).elim (cB e he) hn) ((bp a ps).has (K:=X.K) (R0:=R) ⟨rfl,kk⟩ e he);let tq:=hys H' (λe he hn=>keep e (Sv _ (bz.mpr ⟨n',q0,hq,he⟩)) hn) t';let nR:∀e∈(bp a ps).fp,R' e=none:=λe he=>by
  by_cases w:e∈c::b::g
  ·exact Y7 e w
  ·exact(xx.old e (by rw[bY w];exact(bp a ps).has (K:=X.K) (R0:=R) ⟨rfl,kk⟩ e he)).trans (hR e he)
 refine hQ H' R' (E.N4 hil hΓ hl (D:=c::b::g) (λe he=>?_) xx ?_ ?_ (zQ hq) λe he=>he) xx.r
 ·obtain rfl | he:=SF.mp he
  ·exact .inr `bi
  ·exact .inl (inB e he)
 ·rw[ea];refine⟨⟨_,rfl,rfl,kk.put hq (λe he hn=>keep e he λw=>hn (Yx e w)) tq⟩,λe he=>nR e (zQ hq e he)⟩
 ·rw[ec];exact⟨⟨_,rfl,rfl,[.int (aR ts k).2],hc',.cons rfl .nil⟩,λe he=>by rw[Su.mp he];exact Y7 c Sz⟩
theorem Rz (i j l:Nat){y z:Str}{d m0:Nat}{p p1 p2 cp pos:Pos}{k:Int}(C:aD X.prog X.w X.K X.mg X.base x m0 (my d))(hr:bH m0 X.A)(hil:i≠l)(hΓ:`az)(hj:Z[j]?∣.im dG q0.2.1)(hl:Z[l]?∣(.ob (aF c ah [k])))(hq:ps[n']?∣q0)(hts:q0.1=ba ts)(hd:dc ts<=d)(h:N ((Z.set i (.ob (bp a (ps.set n' ((aR ts k).1.map PV.lst,q0.2.1,q0.2.2))))).set l (.ob (aF c ah [(aR ts k).2]))))(hg:Gl X x:=by rfl)(Yz:YV x:=by decide)(he:Vt [.Name y p1,.Name z p2] X.env=`bp::Vt [.Name z p2] X.env:=by rfl)(he2:dk X (.Name z p2) []:=by rfl)(Yo:eV X cp [.Name z p2]:=by rfl)(hNj:autoParam (At X j y) cg)(hNl:autoParam (At X l z) cg)(YH:Vv (.Call `ah [.Name y p1,.Name z p2] [] cp) none pos.line X.env=pure false:=by rfl):W1 X (.Expr (.Call `ah [.Name y p1,.Name z p2] [] cp) pos) Z N T:=λσ H0 R0 H R E D dn dr=>by
 let⟨f,fd,pn,F,hm,hk,hb⟩:=C.ex;let⟨⟨v,ea,rfl,kk⟩,hR⟩:=E.ent i _ hΓ;let⟨v0,e0,Zz⟩:=E.ent j _ hj;cases Zz
 let⟨ec,_,_⟩:=cn (E.ent l _ hl);let⟨t,nd,_⟩:=kk.pt n' q0 hq;rw[hts] at t;refine sS (eD (gR F hr hg hm hk hb .nil jO (aK (aX hNj) (aK (aX hNl) br he2) he) Yz he Yo) YH) ⟨.ref q0.2.1,am e0,.ref c,am ec,?_⟩;show my d [.ref q0.2.1,.ref c] H (λ_ H1=>D.nx σ H1) E0;refine zr (x:=x) (n:=0) (es:=[]) (Q:=λ_ H'=>D.nx σ H') (g:=q0.2.2) (ys:=(aR ts k).1.map PV.lst) E hil hΓ hl hq (λe he=>he) t nd hd (λH' _ t'=>t') λH' R' E' s'=>dn σ H' R' _ E' s' h
theorem uA (i j l:Nat){y z:Str}{d m0 m jc:Nat}{p p1 p2 p3 p4 cp pos:Pos}{k:Int}(C:aD X.prog X.w X.K X.mg X.base x m0 (my d))(hr:bH m0 X.A)(hil:i≠l)(hΓ:`az)(hj:Z[j]?∣.im dG q0.2.1)(hl:Z[l]?∣(.ob (aF c ah [k])))(hq:ps[n']?∣q0)(hts:q0.1[m]?∣(.lst (ba ts)))(hd:dc ts<=d)(h:N ((Z.set i (.ob (bp a (ps.set n' (q0.1.set m (.lst ((aR ts k).1.map PV.lst)),q0.2.1,q0.2.2))))).set l (.ob (aF c ah [(aR ts k).2]))))(hg:Gl X x:=by rfl)(Yz:YV x:=by decide)(he:Vt [.Subscript (.Name y p1) (.Constant (.int (m:Int)) jc p3) p4,.Name z p2] X.env=(false,eval (.Subscript (.Name y p1) (.Constant (.int (m:Int)) jc p3) p4) X.env)::Vt [.Name z p2] X.env:=by rfl)(he2:dk X (.Name z p2) []:=by rfl)(Yo:eV X cp [.Name z p2]:=by rfl)(hNj:autoParam (At X j y) cg)(hNl:autoParam (At X l z) cg)(hpi:dU (.Constant (.int (m:Int)) jc p3):=by exact λ_ _=>rfl)(YH:Vv (.Call `ah [.Subscript (.Name y p1) (.Constant (.int (m:Int)) jc p3) p4,.Name z p2] [] cp) none pos.line X.env=pure false:=by rfl):W1 X (.Expr (.Call `ah [.Subscript (.Name y p1) (.Constant (.int (m:Int)) jc p3) p4,.Name z p2] [] cp) pos) Z N T:=λσ H0 R0 H R E D dn dr=>by
 let⟨f,fd,pn,F,hm,hk,hb⟩:=C.ex;let⟨v0,e0,Zz⟩:=E.ent j _ hj;cases Zz
 refine sS (eD (gR F hr hg hm hk hb .nil jO (aK (ip gT (aX hNj) (aO (e:=.Constant (.int (m:Int)) jc p3)) hpi) (aK (aX hNl) br he2) he) Yz he Yo) YH) ⟨.ref q0.2.1,am e0,(ac (i:=(m:Int)) (X:=X) (Z:=Z)) σ H0 R0 H R E _ λu H2 R2 E2 s2 e2=>?_⟩;let⟨⟨v,ea,rfl,kk⟩,hR⟩:=E2.ent i _ hΓ;let⟨ec,_,_⟩:=cn (E2.ent l _ hl);let⟨t0,nd,_⟩:=kk.pt n' q0 hq;cases t0 with
 | @lst _ vs _ _ hb2 tt zz=>
 let⟨b,g,f1,f2,hv,ef,t,repl⟩:=tt.sub hts;let⟨n1,n2⟩:=S5.mp nd;rw[ef] at n2;let⟨m1,m2,m3⟩:=Tf.mp n2;let⟨m4,m5,m6⟩:=Tf.mp m2;let ml:=(Sn.mp hv).1;refine⟨q0.2.1,vs,(m:Int),.ref b,rfl,e2,bu.of hb2,by rw[jT `a `a,show((m:Nat):Int).toNat=m by cbv];exact hv,.ref c,am ec,?_⟩;let sub:∀e∈b::g,e∈q0.2.2:=λe he=>by rw[ef];exact SH _ (SS _ he)
 show my d [.ref b,.ref c] H2 (λ_ H1=>D.nx σ H1) E0;refine zr (x:=x) (n:=0) (es:=[]) (Q:=λ_ H'=>D.nx σ H') (ys:=q0.1.set m (.lst ((aR ts k).1.map PV.lst))) E2 hil hΓ hl hq (λe he=>Sv _ (sub e he)) t m4 hd (λH' Z8 t'=>?_) λH' R' E' s'=>dn σ H' R' _ E' (s2.trans s') h;refine .lst ((Z8 _ Sz λw=>n1 (sub _ w)).trans hb2) (repl H' _ (λe he=>Z8 e ?_ ?_) t') (by rw[Tb];exact zz)
 ·refine Sv _ ?_;rw[ef];obtain w | w:=SK.mp he
  ·exact SS _ w
  ·exact SH _ (SH _ w)
 ·intro w;obtain z | z:=SK.mp he
  ·exact m3 e z e (SS _ w) rfl
  ·exact m6 e w e z rfl
end
end Fc
namespace K1
open PySem L2 Fc
open PySem.Spec hiding Row
open PyProof.Rows hiding St
open PySem.Builtin.Int (intBits)
variable {P:Vr}{w:World}{K:Xt}{mg:RQ}{base:Heap}{f:Addr}{fd:Vw}
theorem oI:∀(ts:`N)(t:Th)(k:Int),aR (ts++[t]) k=((aR ts k).1++[(bI t (aR ts k).2).1],(bI t (aR ts k).2).2)
 | [],t,k=>by rw[To,aR,aR,aR];rfl
 | u::ts,t,k=>by rw[Tz,aR,oI ts t,aR];rfl
variable {H:Hp}{b:Addr}
theorem Lr {R:Hp}{c:Addr}{ps:List PT}{k:Int}{N:RU}(hN:N.length=3)(s:av R H)(kk:kf H b ps)(hR:∀d∈b::dE ps,R d=none)(hc:c∉b::dE ps)(hRc:R c=none)(hHc:H c∣(.lst [.int k])):
 ar K (L2.start N [.ref b,.ref c]) (cS H (c::b::dE ps)) R H R [.ob (bp b ps),.ob (aF c ah [k]),.no]:=by
 let es:L2.start N [.ref b,.ref c]=[some (.ref b),some (.ref c),none]:=by unfold L2.start;rw[hN];rfl
 rw[es];let at_:∀(i:Nat)(e:Ent),([.ob (bp b ps),.ob (aF c ah [k]),.no]:Ga)[i]?∣e->(i=0/\e= .ob (bp b ps))∨(i=1/\e= .ob (aF c ah [k]))∨(i=2/\e= .no):=λi e q=>by
  match i with
  | 0=>exact .inl ⟨rfl,by simpa using q.symm⟩
  | 1=>exact .inr (.inl ⟨rfl,by simpa using q.symm⟩)
  | 2=>exact .inr (.inr ⟨rfl,by simpa using q.symm⟩)
  | i+3=>simp at q
 refine⟨⟨jw,av.refl _,s,λ_ _=>rfl⟩,λi e q=>?_,λi e d q w=>?_,λi j e e' d q q' w w'=>?_,rfl⟩
 ·obtain⟨rfl,rfl⟩ | ⟨rfl,rfl⟩ | ⟨rfl,rfl⟩:=at_ i e q
  ·exact⟨⟨_,rfl,rfl,kk⟩,hR⟩
  ·exact⟨⟨_,rfl,rfl,_,hHc,.cons rfl .nil⟩,λd hd=>by rw[Su.mp hd];exact hRc⟩
  ·trivial
 ·obtain⟨rfl,rfl⟩ | ⟨rfl,rfl⟩ | ⟨rfl,rfl⟩:=at_ i e q
  ·exact gy (Sv _ w)
  ·rw[Su.mp w];exact gy Sz
  ·cases w
 ·obtain⟨rfl,rfl⟩ | ⟨rfl,rfl⟩ | ⟨rfl,rfl⟩:=at_ i e q
  ·obtain⟨rfl,rfl⟩ | ⟨rfl,rfl⟩ | ⟨rfl,rfl⟩:=at_ j e' q'
   ·rfl
   ·exact XS w (by rw[Su.mp w'];exact hc)
   ·cases w'
  ·obtain⟨rfl,rfl⟩ | ⟨rfl,rfl⟩ | ⟨rfl,rfl⟩:=at_ j e' q'
   ·exact XS w' (by rw[Su.mp w];exact hc)
   ·rfl
   ·cases w'
  ·cases w
variable {α:Type}{i:Nat}
theorem l9 {l:`x}{x:α}(h:l[i]?∣x):l.set i x=l:=by
 let⟨hl,rfl⟩:=Sn.mp h;exact List.set_getElem_self hl
variable {N:Ga->Prop}{X:Cx}{g:Addr×RY}{qs:List PT}{p1 pos:Pos}{Z:Ga}{T:RT}{n:Nat}{X6:`aa}{A:Vu}{outer:List Env}{E:XK}{t:Th}
abbrev tf:Stmt:=top rN
abbrev GJ:RU:=["_law_items","_law_keys","_law_one"]
abbrev GN:RU:=["_law_items","_law_keys"]
theorem Ei:bD GJ GN (ao tf):=Zf
section
variable {cs:`aP}{e:Ent}{k s s':Str}{y z:Bool}{j1 j2 j3 j4:Nat}{p2 p3 p4 p5 p6 p7 p8 p9 p10:Pos}
theorem cy {c:Expr}{bd Y1:List Stmt}(h:TV X c Z false Z)(k:WS X Y1 Z N T):WS X (.If c bd [] pos::Y1) Z N T:=ai (aZ h (λh=>by cases h) (λ_=>aH k))
theorem hZ {c:Expr}{bd Y1:List Stmt}(h:TV X c Z true Z)(k:WS X bd Z (λZ=>WS X Y1 Z N T) T):WS X (.If c bd [] pos::Y1) Z N T:=ai (aZ h (λ_=>k) (λh=>by cases h))
theorem j9 (hq:qs[i]?∣(cs,g))(h0:cs[0]?∣.str k)(hb:decide (k=s)=y)(hN:autoParam (At X 2 "_law_one") cg):TV X (.Compare (.Subscript (.Name "_law_one" p1) (.Constant (.int 0) j1 p2) p3) [.Eq] [.Constant (.str s) j2 p4] pos) [.ob (bp b qs),e,.im dG g.1] y [.ob (bp b qs),e,.im dG g.1]:=
 TV.cast (ay bS (EV.sP (x:=k) (oU 0 2 (m:=0) rfl rfl hq h0 rfl hN)) aA) hb
theorem uR (hq:qs[i]?∣(cs,g))(h0:cs[0]?∣.str k)(hb:(!decide (k=s)&& !decide (k=s'))=y)(hN:autoParam (At X 2 "_law_one") cg):TV X (.BoolOp .And [.Compare (.Subscript (.Name "_law_one" p1) (.Constant (.int 0) j1 p2) p3) [.NotEq] [.Constant (.str s) j2 p4] p5,.Compare (.Subscript (.Name "_law_one" p6) (.Constant (.int 0) j4 p9) p10) [.NotEq] [.Constant (.str s') j3 p7] p8] pos) [.ob (bp b qs),e,.im dG g.1] y [.ob (bp b qs),e,.im dG g.1]:=
 TV.cast (TW.tv (de (ay vS (EV.sP (x:=k) (oU 0 2 (m:=0) rfl rfl hq h0 rfl hN)) aA) (λ_=>eO (ay vS (EV.sP (x:=k) (oU 0 2 (m:=0) rfl rfl hq h0 rfl hN)) aA)))) hb
end
theorem HM (CN:∀m,n=m+1->aD P w K mg base "_law_numbered" (m+1) (my m)){s:Vo}(hr:bH n (A.deeper (Vi "_law_numbered" (ao tf) ⇑s f X6))){c:Addr}{k:Int}(hd:eM t<=n)(hq:qs[i]?∣(dC t,g))(hN:N [.ob (bp b (qs.set i ((bI t k).1,g))),.ob (aF c ah [(bI t k).2]),.im dG g.1]):
 WS (eE d7 P w K mg base GJ "_law_numbered" (ao tf) f X6 A outer s H E).gP (match bF tf with | .For _ _ bd _ _::_=>bd | _=>[]) [.ob (bp b qs),.ob (aF c ah [k]),.im dG g.1] N T:=by
 let nd:=Ei.nd;let il:=(Sn.mp hq).1;let at1:∀y:List PV,(qs.set i (y,g))[i]?∣(y,g):=λy=>SG il;cases t with
 | leave=>
   have:qs.set i ((bI (.leave) k).1,g)=qs:=by rw[bI];exact l9 hq
   rw[this,bI] at hN;exact cy (uR hq rfl rfl) (cy (j9 hq rfl rfl) (cy (j9 hq rfl rfl) (aH hN)))
 | back=>
   have:qs.set i ((bI (.back) k).1,g)=qs:=by rw[bI];exact l9 hq
   rw[this,bI] at hN;exact cy (uR hq rfl rfl) (cy (j9 hq rfl rfl) (cy (j9 hq rfl rfl) (aH hN)))
 | Yq x=>
   rw[bI] at hN;exact hZ (uR hq rfl rfl) (ai (pK 0 2 (y:=.int k) (EV.pI `bf) rfl rfl rfl hq rfl (by show 2<Vn;decide) (aj (eG 1 (j:=0) (bZ `bf ac) ac rfl rfl rfl (cy (j9 (at1 _) rfl rfl) (cy (j9 (at1 _) rfl rfl) (aH hN)))))))
 | call x=>
   rw[bI] at hN;exact hZ (uR hq rfl rfl) (ai (pK 0 2 (y:=.int k) (EV.pI `bf) rfl rfl rfl hq rfl (by show 2<Vn;decide) (aj (eG 1 (j:=0) (bZ `bf ac) ac rfl rfl rfl (cy (j9 (at1 _) rfl rfl) (cy (j9 (at1 _) rfl rfl) (aH hN)))))))
 | ifs x L M=>
   let hd:1+max (dc L) (dc M)<=n:=by rw[eM] at hd;exact hd
   obtain⟨m,rfl⟩:∃m,n=m+1:=⟨n-1,`a⟩;refine hZ (uR hq rfl rfl) (ai (pK 0 2 (y:=.int k) (EV.pI `bf) rfl rfl rfl hq rfl (by show 4<Vn;decide) (aj (eG 1 (j:=0) (bZ `bf ac) ac rfl rfl rfl (hZ (j9 (at1 _) rfl rfl) ?_)))));refine ai (uA 0 2 1 (m:=2) (ts:=L) (CN m rfl) hr `c rfl rfl rfl (at1 ([.str "if",.str x,.lst (ba L),.lst (ba M)]++[.int k])) rfl `a ?_);rw[TR];generalize hA:aR L (k+1)=RA;refine aj (uA 0 2 1 (m:=3) (ts:=M) (CN m rfl) hr `c rfl rfl rfl (at1 [.str "if",.str x,.lst (RA.1.map PV.lst),.lst (ba M),.int k]) rfl `a ?_);rw[TR];rw[bI,hA] at hN;exact cy (j9 (at1 _) rfl rfl) (aH hN)
 | X9 x L=>
   let hd:1+dc L<=n:=by rw[eM] at hd;exact hd
   obtain⟨m,rfl⟩:∃m,n=m+1:=⟨n-1,`a⟩;refine hZ (uR hq rfl rfl) (ai (pK 0 2 (y:=.int k) (EV.pI `bf) rfl rfl rfl hq rfl (by show 3<Vn;decide) (aj (eG 1 (j:=0) (bZ `bf ac) ac rfl rfl rfl (cy (j9 (at1 _) rfl rfl) (hZ (j9 (at1 _) rfl rfl) ?_))))));refine aj (uA 0 2 1 (m:=2) (ts:=L) (CN m rfl) hr `c rfl rfl rfl (at1 ([.str "while",.str x,.lst (ba L)]++[.int k])) rfl `a (aH ?_));rw[TR];rw[bI] at hN;exact hN
theorem Dw (CN:∀m,n=m+1->aD P w K mg base "_law_numbered" (m+1) (my m))(F:dw K "_law_numbered" "_law_numbered" tf f fd)(hm:mg "_law_numbered"∣.ref f)(hb:be K fd GN []):aD P w K mg base "_law_numbered" (n+1) (my n):=by
 let nd:=Ei.nd;refine⟨f,fd,GN,?_,hm,F.kp,hb⟩;refine F.ok Ei `bu `W
 ·let⟨R,b,c,g,ts,k,rfl,_⟩:=h;rfl
 ·let⟨R,b,c,g,ts,k,rfl,sR,t,ndb,hR,hc,hRc,hHc,hd,q⟩:=h;let hz:ts.length<=Vn:=by
   cases t with
   | lst _ _ z=>rw[eP,Ss] at z;exact z
  rw[DJ] at t;let⟨ps,kk,e1,rfl⟩:=t.pl ndb;let pl:ps.length=ts.length:=by
   have:=congrArg List.length e1;rwa [Ss,Ss] at this
  let body:WS (eE d7 P w K mg base GJ "_law_numbered" (ao tf) f X6 A outer s H E).gP (bF tf) [.ob (bp b ps),.ob (aF c ah [k]),.no] (λZ=>∃(qs:List PT)(e:Ent),Z=[.ob (bp b qs),.ob (aF c ah [(aR ts k).2]),e]/\qs.map (·.2)=ps.map (·.2)/\qs.map (·.1)=(aR ts k).1) (λ_ _ _ _=>False):=by
   refine aj (zt 0 (a:=b) (ps:=ps) (λi Z=>∃(qs:List PT)(e:Ent),Z=[.ob (bp b qs),.ob (aF c ah [(aR `ar k).2]),e]/\qs.map (·.2)=ps.map (·.2)/\qs.map (·.1)=(aR `ar k).1++(ts.drop i).map dC) rfl (aU 2) ⟨ps,.no,rfl,rfl,?_⟩ (λi Z ⟨qs,e,h1,h2,_⟩=>⟨qs,by rw[h1];rfl,h2⟩) (λi p Z hp hΓ=>?_) `R)
   ·rw[TZ,aR,drop_zero,e1];rfl
   ·let⟨qs,e,rfl,h2,h3⟩:=hΓ;let il:i<ts.length:=by rw[← pl];exact(Sn.mp hp).1
    let ti:ts[i]?=some ts[i]:=So il;let lt:(aR `ar k).1.length=i:=by rw[oq,SW];cbv
    let q1:(qs.map (·.1))[i]?∣(dC ts[i]):=by
     rw[h3,SV `a,lt,U2,Sw,UH,U3,ti];rfl
    let q2:(qs.map (·.2))[i]?∣p.2:=by rw[h2,Sw,hp];rfl
    rw[Sw] at q1 q2;let⟨q0,Z7,e3⟩:=U9.mp q1;rw[Z7] at q2;let e4:q0.2=p.2:=Option.some.inj q2;let hq:qs[i]?∣(dC ts[i],p.2):=by rw[Z7];exact congrArg some (Vd e3 e4)
    let nx:aR (ts.take (i+1)) k=((aR `ar k).1++[(bI ts[i] (aR `ar k).2).1],(bI ts[i] (aR `ar k).2).2):=by
     rw[S9,ti];exact oI _ _ _
    refine HM (t:=ts[i]) (i:=i) (qs:=qs) (g:=p.2) CN hr (UK (nC (S7 il)) hd) hq ⟨qs.set i ((bI ts[i] (aR `ar k).2).1,p.2),.im dG p.2.1,by rw[nx],?_,?_⟩
    ·rw[Ux,h2];exact l9 (by rw[Sw,hp];rfl)
    ·rw[Ux,h3,nx,List.set_append_right _ _ `a,lt,U2,SR];congr 1;rw[show ts.drop i=ts[i]::ts.drop (i+1) from TC il];rfl
   ·let⟨qs,e,rfl,h2,h3⟩:=hΓ;rw[pl,Td] at h3 ⊢;rw[drop_length,Uk,S3] at h3;exact⟨qs,e,rfl,h2,h3⟩
  refine⟨_,g8,body (L2.start GJ [.ref b,.ref c]) (cS H (c::b::dE ps)) R H R (Lr rfl sR kk hR hc hRc hHc) {nx:=λ_ H'=>Q .Ye H',rt:=Q} (λσ' H' R' Γ' E' _ ⟨qs,e,hΓ,h2,h3⟩=>?_) λv H' R' xx t=>t.elim⟩;subst hΓ;let⟨⟨v,ea,rfl,k2⟩,hR2⟩:=E'.ent 0 _ rfl;let⟨ec,⟨ws,hwc,pw⟩,hRc2⟩:=cn (E'.ent 1 _ rfl);let ews:ws=[.int (aR ts k).2]:=by
   cases pw with
   | cons a1 t1=>cases t1;have:_=V.int (aR ts k).2:=a1;rw[this]
  subst ews;let fe:dE qs=dE ps:=by
   have:=congrArg (λl:List (Addr×RY)=>l.flatMap λz=>z.1::z.2) h2;simpa only[List.flatMap_map] using this
  let ql:qs.length<=Vn:=by
   have:=congrArg List.length h2;rw[Ss,Ss] at this;cbv
  let⟨t2,_⟩:=k2.tpv ql;rw[h3,fe] at t2;refine q H' R' E'.ext t2 hwc λd hd=>?_;obtain rfl | hd:=SF.mp hd
  ·exact hRc2
  ·exact hR2 d (by show d∈b::dE qs;rw[fe];exact hd)
theorem G5 (F:dw K "_law_numbered" "_law_numbered" tf f fd)(hm:mg "_law_numbered"∣.ref f)(hb:be K fd GN []):∀n,aD P w K mg base "_law_numbered" (n+1) (my n)
 | 0=>Dw (λm h=>XS h `a) F hm hb
 | n+1=>Dw (λm h=>by cases h;exact G5 F hm hb n) F hm hb
noncomputable def lJ (ts:`N)(k:Int)(bh lp:PV):PV:=match ts with
 | []=>bh
 | .leave::_=>lp
 | .back::_=>.int (-1)
 | _::_=>.int k
mutual
noncomputable def eY:Th->Int->PV->PV->List PV
 | .Yq x,k,af,lp=>[.tup [.str "do",.str x,.int k,af,.int (-1)]]
 | .call j,k,af,lp=>[.tup [.str "call",.str "",.int k,af,.int j]]
 | .ifs x A B,k,af,lp=>[.tup [.str "yes",.str x,.int k,lJ A (k+1) af lp,.int (-1)],.tup [.str "no",.str x,.int k,lJ B (aR A (k+1)).2 af lp,.int (-1)]]++(fk A (k+1) af lp++fk B (aR A (k+1)).2 af lp)
 | .X9 x A,k,af,lp=>[.tup [.str "yes",.str x,.int k,lJ A (k+1) (.int k) af,.int (-1)],.tup [.str "no",.str x,.int k,af,.int (-1)]]++fk A (k+1) (.int k) af
 | .leave,_,_,_=>[]
 | .back,_,_,_=>[]
noncomputable def fk:List Th->Int->PV->PV->List PV
 | [],_,_,_=>[]
 | t::ts,k,bh,lp=>eY t k (lJ ts (bI t k).2 bh lp) lp++fk ts (bI t k).2 bh lp
end
mutual
theorem vY:∀(t:Th)(k:Int)(af lp:PV),(eY t k af lp).length=Yp t
 | .Yq x,k,af,lp=>by rw[eY,Yp];rfl
 | .call j,k,af,lp=>by rw[eY,Yp];rfl
 | .ifs x A B,k,af,lp=>by rw[eY,Yp,Sx,Sx,ir A,ir B];show 2+_=_;cbv
 | .X9 x A,k,af,lp=>by rw[eY,Yp,Sx,ir A];rfl
 | .leave,k,af,lp=>by simp only[eY,Yp];rfl
 | .back,k,af,lp=>by simp only[eY,Yp];rfl
theorem ir:∀(ts:`N)(k:Int)(bh lp:PV),(fk ts k bh lp).length=Yk ts
 | [],k,bh,lp=>by rw[fk,Yk];rfl
 | t::ts,k,bh,lp=>by rw[fk,Yk,Sx,vY t,ir ts]
end
theorem zD (t:Th)(k:Int):cE (bI t k).1 0∣(.str (dt t)):=by cases t<;>rw[bI]<;>rfl
theorem uM:∀{ts:`N}{j:Nat}{t:Th}(k:Int),ts[j]?∣t->(aR ts k).1[j]?=some (bI t (aR (ts.take j) k).2).1
 | u::ts,0,t,k,h=>by
   let e:u=t:= ~~~h
   rw[aR,TZ,aR,e];rfl
 | u::ts,j+1,t,k,h=>by
   rw[aR,Tj,aR];exact uM (bI u k).2 (~~~h)
theorem BH:∀(ts:`N)(j:Nat){t:Th}(k:Int)(bh lp:PV),ts[j]?∣t->fk (ts.drop j) (aR (ts.take j) k).2 bh lp=eY t (aR (ts.take j) k).2 (lJ (ts.drop (j+1)) (aR (ts.take (j+1)) k).2 bh lp) lp++fk (ts.drop (j+1)) (aR (ts.take (j+1)) k).2 bh lp
 | ts,j,t,k,bh,lp,h=>by
   let jl:=(Sn.mp h).1;let e:ts.drop j=t::ts.drop (j+1):=by
    rw[TC jl];congr 1;exact Option.some.inj ((So jl).symm.trans h)
   let e2:(aR (ts.take (j+1)) k).2=(bI t (aR (ts.take j) k).2).2:=by
    rw[S9,h];show(aR (ts.take j++[t]) k).2=_;rw[oI]
   rw[e,fk,e2]
abbrev gv (ts:`N)(k:Int):List PV:=(aR ts k).1.map PV.lst
abbrev Qj:Stmt:=top vE
abbrev Qr:RU:=["_law_items","_law_j","_law_behind","_law_loop"]
def Du:c9:=λK ps T=>∃(ts:`N)(k:Int)(j:Nat)(bh lp:PV),ps=[⟨ae au,gv ts k⟩,⟨ah,(j:Int)⟩,⟨au,bh⟩,⟨au,lp⟩]/\j<=ts.length/\T=cq K au (· =lJ (ts.drop j) (aR (ts.take j) k).2 bh lp)
theorem NV (M:`aY)(Df:Def K mg "_law_entry" Qj Qr):aD P w K mg base "_law_entry" 1 (aP Du K):=by
 refine bP (N:=Qr) (k:=0) Df `n;let⟨ts,k,j,bh,lp,rfl,hj,rfl⟩:=hS;let ln:(gv ts k).length=ts.length:=by rw[Ss,oq]
 refine ai (aZ (ay iD `g (eo M.len `e)) (λh=>?_) `Q)
 ·let h:(j:Int)=((gv ts k).length:Int):=XW h;refine aj (aY `s ?_);rw[T3 `a];rfl
 let h:¬(j:Int)=((gv ts k).length:Int):=XX h;let jl:j<ts.length:=`a
 let tj:ts[j]?=some ts[j]:=So jl;let ed:ts.drop j=ts[j]::ts.drop (j+1):=TC jl;let at_:cE (gv ts k) (j:Int)∣(.lst (bI ts[j] (aR (ts.take j) k).2).1):=by
  rw[jT `a `a,show((j:Nat):Int).toNat=j by cbv,Sw,uM k tj];rfl
 rw[ed];generalize ts[j]=t at at_;generalize (aR (ts.take j) k).2=kk at at_;refine ai (aZ (ay bS (EV.sP (a9 (EV.lP (a9 `e `g at_)) ac (zD t kk))) aA) (λh=>?_) `Q)
 ·let h:dt t="leave":=XW h;refine aj (aY `q ?_);cases t with
  | leave=>rfl
  | _=>simp only[dt] at h;exact XS h `b
 let h1:dt t≠"leave":=XX h;refine ai (aZ (ay bS (EV.sP (a9 (EV.lP (a9 `e `g at_)) ac (zD t kk))) aA) (λh=>?_) `Q)
 ·let h:dt t="back":=XW h;refine aj (aY (EV.pI (cj ac)) ?_);cases t with
  | back=>rfl
  | _=>simp only[dt] at h;exact XS h `b
 let h2:dt t≠"back":=XX h;let lst:cE (bI t kk).1 (-1)∣.int kk/\lJ (t::ts.drop (j+1)) kk bh lp= .int kk:=by
  cases t with
  | leave=>exact XS rfl h1
  | back=>exact XS rfl h2
  | _=>exact⟨by rw[bI];rfl,rfl⟩
 exact aj (aY (a9 (EV.lP (a9 `e `g at_)) (cj ac) lst.1) lst.2.symm)
def om (n:Nat)(K:Xt):Sp:=λvs H Q _=>∃(R:Hp)(a:Addr)(ws:`K)(xs:`aP)(v0 v1 v2:V)(ts:`N)(k:Int)(bh lp:PV),vs=[v0,v1,v2,.ref a]/\av R H/\R a=none/\H a∣.lst ws/\PySem.Paired (au.R K R) ws xs/\(ae au).R K R v0 (gv ts k)/\au.R K R v1 bh/\au.R K R v2 lp/\dc ts<=n/\xs.length+Yk ts<=1000/\
 ∀H' R' YK,Ext (del H a) R H' R'->H' a∣.lst YK->R' a=none->PySem.Paired (au.R K R') YK (xs++fk ts k bh lp)->Q .Ye H'
variable {x:Str}{xs:`aP}{e:Expr}{es:R6}{a:Addr}{y:Str}{ts:`N}
theorem fG (i:Nat){n:Int}{y:PV}(hΓ:Z[i]?∣(.im au (.lst xs)))(he:EV X e Z ah n Z)(hy:cE xs n∣y)(hN:`p)(hs:dU e:=by exact λ_ _=>rfl):EV X (.Subscript `m e pos) Z au y Z:=
 a9 (EV.lP (aa i hΓ hN)) he hy hs
theorem eK (i:Nat){k s:Str}{jc:Nat}{p2 p3:Pos}{b:Bool}(hΓ:Z[i]?∣(.im au (.lst (.str k::xs))))(he:EV X e Z ah 0 Z)(hb:decide (k=s)=b)(hN:`p)(hs:dU e:=by exact λ_ _=>rfl):TV X (.Compare (.Subscript `m e p2) [.Eq] [.Constant (.str s) jc p3] pos) Z b Z:=
 TV.cast (ay bS (EV.sP (fG i hΓ he (by rw[jT `a `d];rfl) hN hs)) aA) hb
theorem uG (i:Nat){k:Nat}{tp ap cp:Pos}{ys:`aP}(he:EA X es (Z.set i (.mu au xs)) au ys (Z.set i (.mu au xs)))(hΓ:Z[i]?∣(.ob (aF a au xs)))(hz:xs.length<=1100)(h:N (Z.set i (.ob (aF a au (xs++[.tup ys])))))(hy:ys.length<=Vn:=by show 5<=Vn;decide)(hN:`p)(YH:Vv (.Call (.Attribute `m "append" ap) [.Tuple es k tp] [] cp) none pos.line X.env=pure false:=by rfl)(Yd:fA X `m "append":=by rfl)(Yt:((Wd cp (Vt [.Tuple es k tp] X.env)).all (λx=> !x.1)&&(backToKw cp (keywordEach [] X.env)).all (λx=>x.1.isSome)
  &&decide ([(.Tuple es k tp:Expr)].length+([]:List Wi).length+(if([]:List Wi).isEmpty then 0 else 1)<30))=true:=by rfl)(Yc:`ae=true:=by rfl)(hs:Vt [.Tuple es k tp] X.env=(false,eval (.Tuple es k tp) X.env)::Vt [] X.env:=by rfl):W1 X (.Expr (.Call (.Attribute `m "append" ap) [.Tuple es k tp] [] cp) pos) Z N T:=by
 let hl:i<Z.length:=(Sn.mp hΓ).1;refine pj (EV.box i (vd i (r:=au) (gB he hy) (SG hl) (SG hl) (UM hz `c) hN Yd Yt Yc hs) hΓ (SG (by rw[Tb];exact hl))) ?_ YH;rw[TR,TR];exact h
theorem Em (i:Nat){m:Nat}{e0 e1 e2:Expr}{p cp:Pos}{k:Int}{bh lp:PV}(C:aD X.prog X.w X.K X.mg X.base x m (om n X.K))(hr:bH m X.A)(h0:EV X e0 Z (ae au) (gv ts k) Z)(h1:EV X e1 Z au bh Z)(h2:EV X e2 Z au lp Z)(hΓ:Z[i]?∣(.ob (aF a au xs)))(hd:dc ts<=n)(hz:xs.length+Yk ts<=1000)(h:N (Z.set i (.ob (aF a au (xs++fk ts k bh lp)))))(hg:Gl X x:=by rfl)(Yz:YV x:=by decide)(s0:Vt [e0,e1,e2,.Name y p1] X.env=(false,eval e0 X.env)::Vt [e1,e2,.Name y p1] X.env:=by rfl)(s1:Vt [e1,e2,.Name y p1] X.env=(false,eval e1 X.env)::Vt [e2,.Name y p1] X.env:=by rfl)(s2:Vt [e2,.Name y p1] X.env=(false,eval e2 X.env)::Vt [.Name y p1] X.env:=by rfl)(s3:dk X (.Name y p1) []:=by rfl)(Yo:eV X cp [e1,e2,.Name y p1]:=by rfl)(hN:autoParam (At X i y) cg)(YH:Vv (.Call `ah [e0,e1,e2,.Name y p1] [] cp) none pos.line X.env=pure false:=by rfl):W1 X (.Expr (.Call `ah [e0,e1,e2,.Name y p1] [] cp) pos) Z N T:=λσ H0 R0 H R E D dn dr=>by
 let⟨f,fd,pn,F,hm,hk,hb⟩:=C.ex;refine sS (eD (gR F hr hg hm hk hb .nil jO (aK aO (aK aO (aK aO (aK (aX hN) br s3) s2) s1) s0) Yz s0 Yo) YH) ?_;refine h0 σ H0 R0 H R E _ λv0 H1 R1 E1 q1 g0=>h1 σ H0 R0 H1 R1 E1 _ λv1 H2 R2 E2 q2 g1=>h2 σ H0 R0 H2 R2 E2 _ λv2 H3 R3 E3 q3 g2=>?_;let⟨ea,⟨ws,ha,pp⟩,hR⟩:=cn (E3.ent i _ hΓ);refine⟨.ref a,am ea,?_⟩;show om n X.K [v0,v1,v2,.ref a] H3 (λ_ H1=>D.nx σ H1) E0;refine⟨R3,a,ws,xs,v0,v1,v2,ts,k,bh,lp,rfl,E3.sub,hR,ha,pp,(ae au).mono (q2.trans q3) g0,au.mono (K:=X.K) q3 g1,g2,hd,hz,λH' R' YK xx h1 h2 pq=>?_⟩;let hl:i<Z.length:=(Sn.mp hΓ).1;let E4:ar X.K σ H0 R0 H' R' (Z.set i (.ob (aF a au (xs++fk ts k bh lp)))):=E3.pW hΓ (B:=aF a au xs) (by
  have:cS H3 (aF a au xs).fp=del H3 a:=by funext b;show(if b∈[a] then none else H3 b)=_;unfold del;simp only[Su]
  rw[this];exact xx) (by rw[ea];exact⟨⟨_,rfl,rfl,YK,h1,pq⟩,λb hb=>by rw[Su.mp hb];exact h2⟩) λc hc=>hc
 exact dn σ H' R' _ E4 (q1.trans (q2.trans (q3.trans xx.r))) h
abbrev sy:Stmt:=top wB
abbrev Gr:RU:=["_law_items","_law_behind","_law_loop","_law_rows_here","_law_j","_law_one","_law_after"]
abbrev Gg:RU:=["_law_items","_law_behind","_law_loop","_law_rows_here"]
theorem FF:bD Gr Gg (ao sy):=Zf
theorem Lw {R:Hp}{ws:`K}{items:`aP}{bh lp:PV}{u0 u1 u2:V}{N:RU}(hN:N.length=7)(s:av R H)(hR:R a=none)(ha:H a∣.lst ws)(pp:PySem.Paired (au.R K R) ws xs)(g0:(ae au).R K R u0 items)(g1:au.R K R u1 bh)(g2:au.R K R u2 lp):
 ar K (L2.start N [u0,u1,u2,.ref a]) (del H a) R H R [.im (ae au) items,.im au bh,.im au lp,.ob (aF a au xs),.no,.no,.no]:=by
 let es:L2.start N [u0,u1,u2,.ref a]=[some u0,some u1,some u2,some (.ref a),none,none,none]:=by unfold L2.start;rw[hN];rfl
 rw[es];let key:∀(i:Nat)(e:Ent),([Ent.im (ae au) items,.im au bh,.im au lp,.ob (aF a au xs),.no,.no,.no]:Ga)[i]?∣e->(i=0/\e= .im (ae au) items)∨(i=1/\e= .im au bh)∨(i=2/\e= .im au lp)∨(i=3/\e= .ob (aF a au xs))∨e= .no:=by
  intro i e q
  match i,q with
  | 0,q=>simp at q;exact .inl ⟨rfl,q.symm⟩
  | 1,q=>simp at q;exact .inr (.inl ⟨rfl,q.symm⟩)
  | 2,q=>simp at q;exact .inr (.inr (.inl ⟨rfl,q.symm⟩))
  | 3,q=>simp at q;exact .inr (.inr (.inr (.inl ⟨rfl,q.symm⟩)))
  | 4,q=>simp at q;exact .inr (.inr (.inr (.inr q.symm)))
  | 5,q=>simp at q;exact .inr (.inr (.inr (.inr q.symm)))
  | 6,q=>simp at q;exact .inr (.inr (.inr (.inr q.symm)))
  | i+7,q=>simp at q
 let dsub:av (del H a) H:=λb o q=>by
  unfold del at q;by_cases h:b=a
  ·rw[XU h] at q;cases q
  ·rwa [XT h] at q
 refine⟨⟨dsub,av.refl _,s,λ_ _=>rfl⟩,λi e q=>?_,λi e d q w=>?_,λi j e e' d q q' w w'=>?_,rfl⟩
 ·obtain⟨rfl,rfl⟩ | ⟨rfl,rfl⟩ | ⟨rfl,rfl⟩ | ⟨rfl,rfl⟩ | rfl:=key i e q
  ·exact⟨u0,rfl,g0⟩
  ·exact⟨u1,rfl,g1⟩
  ·exact⟨u2,rfl,g2⟩
  ·exact⟨⟨_,rfl,rfl,ws,ha,pp⟩,λb hb=>by rw[Su.mp hb];exact hR⟩
  ·trivial
 ·obtain⟨rfl,rfl⟩ | ⟨rfl,rfl⟩ | ⟨rfl,rfl⟩ | ⟨rfl,rfl⟩ | rfl:=key i e q
  ·cases w
  ·cases w
  ·cases w
  ·rw[Su.mp w];unfold del;rw[XU rfl]
  ·cases w
 ·obtain⟨rfl,rfl⟩ | ⟨rfl,rfl⟩ | ⟨rfl,rfl⟩ | ⟨rfl,rfl⟩ | rfl:=key i e q
  ·cases w
  ·cases w
  ·cases w
  ·obtain⟨rfl,rfl⟩ | ⟨rfl,rfl⟩ | ⟨rfl,rfl⟩ | ⟨rfl,rfl⟩ | rfl:=key j e' q'
   ·cases w'
   ·cases w'
   ·cases w'
   ·rfl
   ·cases w'
  ·cases w
theorem Je (CE:aD P w K mg base "_law_entry" 1 (aP Du K))(CR:∀m,n=m+1->aD P w K mg base "_law_rows" (m+2) (om m K)){s:Vo}(hr:bH (n+1) (A.deeper (Vi "_law_rows" (ao sy) ⇑s f X6))){items:`aP}{bh lp af:PV}{k:Int}{e4:Ent}(hd:eM t<=n)(hz:xs.length+Yp t<=1000)(hN:N [.im (ae au) items,.im au bh,.im au lp,.ob (aF a au (xs++eY t k af lp)),e4,.im au (.lst (bI t k).1),.im au af]):
 WS (eE d7 P w K mg base Gr "_law_rows" (ao sy) f X6 A outer s H E).gP (match bF sy with | .For _ _ bd _ _::_=>bd.drop 1 | _=>[]) [.im (ae au) items,.im au bh,.im au lp,.ob (aF a au xs),e4,.im au (.lst (bI t k).1),.im au af] N T:=by
 let nd:=FF.nd;let CE:=CE.mono (show 1<=n+1 by cbv);let hzl:∀m:Nat,m<=1100->m<Vn:=λm h=>UM h `c;cases t with
 | leave=>
   rw[bI,eY,S3] at hN;rw[bI];exact cy `H (cy `H (cy `H (cy `H (aH hN))))
 | back=>
   rw[bI,eY,S3] at hN;rw[bI];exact cy `H (cy `H (cy `H (cy `H (aH hN))))
 | Yq x=>
   rw[bI,eY] at hN;simp only[Yp] at hz;rw[bI];refine hZ `H (aj (uG 3 (aq `bq (aq `ba (aq `bw (aq `au (aq (EV.pI (cj ac)) aN))))) rfl `a ?_));exact cy `H (cy `H (cy `H (aH hN)))
 | call x=>
   rw[bI,eY] at hN;simp only[Yp] at hz;rw[bI];refine cy `H (hZ `H (aj (uG 3 (aq `bq (aq `bq (aq `bw (aq `au (aq `ba aN))))) rfl `a ?_)));exact cy `H (cy `H (aH hN))
 | ifs x L M=>
   rw[bI,eY] at hN;simp only[Yp] at hz;rw[bI];let hd:1+max (dc L) (dc M)<=n:=by rw[eM] at hd;exact hd
   obtain⟨m,rfl⟩:∃m,n=m+1:=⟨n-1,`a⟩;refine cy `H (cy `H (hZ `H ?_));refine ai (uG 3 (aq `bq (aq `ba (aq `bw (aq (aB CE hr (ag (EV.lP `ba) (ag ac (ag `au (ag `s ax)))) ⟨L,k+1,0,af,lp,rfl,UL _,rfl⟩) (aq (EV.pI (cj ac)) aN))))) rfl `a ?_);refine ai (uG 3 (aq `bq (aq `ba (aq `bw (aq (aB CE hr (ag (EV.lP `ba) (ag ac (ag `au (ag `s ax)))) ⟨M,(aR L (k+1)).2,0,af,lp,rfl,UL _,rfl⟩) (aq (EV.pI (cj ac)) aN))))) rfl (by simp only[Sx,SE,S4];cbv) ?_);refine ai (Em 3 (ts:=L) (k:=k+1) (CR m rfl) hr (EV.lP `ba) `au `s rfl `a (by simp only[Sx,SE,S4];cbv) ?_);refine aj (Em 3 (ts:=M) (k:=(aR L (k+1)).2) (CR m rfl) hr (EV.lP `ba) `au `s rfl `a (by simp only[Sx,SE,S4,ir];cbv) ?_);refine cy `H (aH ?_);simp only[SR,Tz,To] at hN ⊢;exact hN
 | X9 x L=>
   rw[bI,eY] at hN;simp only[Yp] at hz;rw[bI];let hd:1+dc L<=n:=by rw[eM] at hd;exact hd
   obtain⟨m,rfl⟩:∃m,n=m+1:=⟨n-1,`a⟩;refine cy `H (cy `H (cy `H (hZ `H ?_)));refine ai (uG 3 (aq `bq (aq `ba (aq `bw (aq (aB CE hr (ag (EV.lP `ba) (ag ac (ag `bw (ag `au ax)))) ⟨L,k+1,0,.int k,af,rfl,UL _,rfl⟩) (aq (EV.pI (cj ac)) aN))))) rfl `a ?_);refine ai (uG 3 (aq `bq (aq `ba (aq `bw (aq `au (aq (EV.pI (cj ac)) aN))))) rfl (by simp only[Sx,SE,S4];cbv) ?_);refine aj (Em 3 (ts:=L) (k:=k+1) (CR m rfl) hr (EV.lP `ba) `bw `au rfl `a (by simp only[Sx,SE,S4];cbv) (aH ?_));simp only[SR,Tz,To] at hN ⊢;exact hN
theorem Bx (M:`aY)(CE:aD P w K mg base "_law_entry" 1 (aP Du K))(CR:∀m,n=m+1->aD P w K mg base "_law_rows" (m+2) (om m K))(F:dw K "_law_rows" "_law_rows" sy f fd)(hm:mg "_law_rows"∣.ref f)(hb:be K fd Gg []):aD P w K mg base "_law_rows" (n+2) (om n K):=by
 let nd:=FF.nd;refine⟨f,fd,Gg,?_,hm,F.kp,hb⟩;refine F.ok (k:=n+1) FF `bu `W
 ·let⟨R,a,ws,xs,v0,v1,v2,ts,k,bh,lp,rfl,_⟩:=h;rfl
 ·let⟨R,a,ws,xs,v0,v1,v2,ts,k,bh,lp,rfl,sR,hR,ha,pp,g0,g1,g2,hd,hz,q⟩:=h;let CE':=CE.mono (show 1<=n+1 by cbv);let ln:(gv ts k).length=ts.length:=by rw[Ss,oq]
  let body:WS (eE d7 P w K mg base Gr "_law_rows" (ao sy) f X6 A outer s H E).gP (bF sy) [.im (ae au) (gv ts k),.im au bh,.im au lp,.ob (aF a au xs),.no,.no,.no] (λZ=>∃e4 e5 e6,Z=[.im (ae au) (gv ts k),.im au bh,.im au lp,.ob (aF a au (xs++fk ts k bh lp)),e4,e5,e6]) (λ_ _ _ _=>False):=by
   refine aj (bO (r:=dO ah au) (λi Z=>∃ys e4 e5 e6,Z=[.im (ae au) (gv ts k),.im au bh,.im au lp,.ob (aF a au ys),e4,e5,e6]/\ys++fk (ts.drop i) (aR `ar k).2 bh lp=xs++fk ts k bh lp) (iU M.enumerate `e) (eQ 4 5) ⟨xs,_,_,_,rfl,?_⟩ (λi z Z hzi hΓ=>?_) `R)
   ·rw[drop_zero,TZ,aR]
   ·let⟨ys,e4,e5,e6,rfl,he⟩:=hΓ;let⟨z1,z2⟩:=ft hzi;let il:i<ts.length:=by rw[← ln];exact(Sn.mp z2).1
    let ti:ts[i]?=some ts[i]:=So il;let ez:z.2= .lst (bI ts[i] (aR `ar k).2).1:=by
     rw[Sw,uM k ti] at z2;exact(Option.some.inj z2).symm
    rw[BH ts i k bh lp ti] at he;let hlen:ys.length+(Yp ts[i]+Yk (ts.drop (i+1)))=xs.length+Yk ts:=by
     have:=congrArg List.length he;simpa only[Sx,vY,ir] using this
    let⟨zi,zp⟩:=z;dsimp only at z1 ez;subst z1 ez;refine ai (bo 6 (r:=au) (y:=lJ (ts.drop (i+1)) (aR (ts.take (i+1)) k).2 bh lp) (aB CE' hr (ag `e (ag (EV.cast (y':=((i+1:Nat):Int)) (bZ `af ac) (by push_cast;rfl)) (ag `g (ag `s ax)))) ⟨ts,k,i+1,bh,lp,rfl,il,rfl⟩) ?_);refine Je CE CR hr (UK (nC (S7 il)) hd) `a ⟨_,_,_,_,rfl,?_⟩;rw[SR];exact he
   ·let⟨ys,e4,e5,e6,rfl,he⟩:=hΓ;rw[cN,ln,drop_length,fk,S3] at he;rw[← he];exact⟨_,_,_,rfl⟩
  refine⟨_,g8,body (L2.start Gr [v0,v1,v2,.ref a]) (del H a) R H R (Lw rfl sR hR ha pp g0 g1 g2) {nx:=λ_ H'=>Q .Ye H',rt:=Q} (λσ' H' R' Γ' E' _ ⟨e4,e5,e6,hΓ⟩=>?_) λv H' R' xx t=>t.elim⟩;subst hΓ;let⟨ea,⟨YK,YT,Y2⟩,YI⟩:=cn (E'.ent 3 _ rfl);exact q H' R' YK E'.ext YT YI Y2
theorem GI (M:`aY)(CE:aD P w K mg base "_law_entry" 1 (aP Du K))(F:dw K "_law_rows" "_law_rows" sy f fd)(hm:mg "_law_rows"∣.ref f)(hb:be K fd Gg []):∀n,aD P w K mg base "_law_rows" (n+2) (om n K)
 | 0=>Bx M CE (λm h=>XS h `a) F hm hb
 | n+1=>Bx M CE (λm h=>by cases h;exact GI M CE F hm hb n) F hm hb
theorem L6 (n:Nat):mS n=1+5*bT n:=by cases n<;>rfl
theorem G0 (ns X1:RS):∀(n:Nat)(lp:Int)(s:Pn),0<s.2->uP n (bT n) s (Yw ns X1 `an lp s)
 | 0,lp,s,h=>yf ns X1 lp s h
 | n+1,lp,s,h=>yr (nv ns X1 n false) lp s h
theorem OK (K:Xt)(H H':Hp)(v:V)(y:Int)(h:ah.R K H v y):ah.R K H' v y:=h
theorem O4 (K:Xt)(H H':Hp)(v:V)(y:Str)(h:ak.R K H v y):ak.R K H' v y:=h
theorem y4 (t:Th):oo t=decide (dt t="back"):=by cases t<;>rfl
theorem zO (a b:`N):ba (a++b)=ba a++ba b:=by rw[eP,eP,eP,SN]
theorem iK (a:`N):(ba a).length=a.length:=by rw[eP,Ss]
abbrev tE:Stmt:=top wO
abbrev Kr:RU:=["_law_pen","_law_depth","_law_loops","_law_calls","_law_items","_law_k","_law_one"]
theorem Ft:bD Kr Ad (ao tE):=Zf
theorem ls_run (M:`aY)(CP:`aU)(CA:aD P w K mg base "_law_passes" 6 (aP (Ge 5) K))(CT:aD P w K mg base "_law_thing" (2*n+7) (fR da (Kb n) K)){s:Vo}{ns X1:RS}{k c X2:Int}(hr:bH (2*n+7) (A.deeper (Vi "_law_list" (ao tE) ⇑s f X6)))(hp:qh ns X1 n (mS n) k c)(ZU:∀(e5 e6:Ent)(fp:RY),WS (eE d7 P w K mg base Kr "_law_list" (ao tE) f X6 A outer s H E).gP ((bF tE).drop 2) [.ob (aF a da (bw ns (Ym ns X1 n (decide (n=4)) X2 (k,c)).2.1 (Ym ns X1 n (decide (n=4)) X2 (k,c)).2.2)),aE (4-(n:Int)),aE X2,eT X1,.ob (fV (.lst (ba (Ym ns X1 n (decide (n=4)) X2 (k,c)).1)) fp),e5,e6] N T):
 WS (eE d7 P w K mg base Kr "_law_list" (ao tE) f X6 A outer s H E).gP (bF tE) [.ob (aF a da (bw ns k c)),aE (4-(n:Int)),aE X2,eT X1,.no,.no,.no] N T:=by
 let nd:=Ft.nd;let CP:=CP.mono (show 2<=2*n+7 by cbv);let CA:=CA.mono (show 6<=2*n+7 by cbv);let k0:=hp.k0;let k1:=hp.k1;let c0:=hp.c0;let c1:=hp.c1;let n4:=hp.n4;let hbd:=L6 n;let b3:=Ho n;rw[m8] at ZU;generalize htp:decide (n=4)=tp at ZU;let hrun:=xp (ns:=ns) (X1:=X1) (sub:=d8 ns X1 n) (n:=n) (b:=bT n) `a (G0 ns X1 n) tp X2 (k,c) c0;dsimp only at hrun ZU;let hmany:=Ah ns tp k;generalize hx:(λi=>Yv (jb ns X1 `an tp X2) i ([],(k+1,c)))=x at hrun;let hxi:∀i,Yv (jb ns X1 `an tp X2) i ([],(k+1,c))=x i:=λi=>by rw[← hx]
 let hxs:∀i,x (i+1)=jb ns X1 `an tp X2 (x i):=λi=>by rw[← hx];rfl
 let hx0:x 0=([],(k+1,c)):=by rw[← hx];rfl
 simp only[hxi] at hrun ZU;refine ai (ng 4 (y:=.lst []) (bc.qA `aE rfl) λf4=>?_);let m0:=Sj (aL ns (k+1)) (show(4:Int)≠0 by decide);let m1:=Si (aL ns (k+1)) (show(0:Int)<4 by decide);let htp2:decide (4-(n:Int)=0)=tp:=by rw[← htp];exact decide_eq_decide.mpr ⟨λh=>`a,λh=>`a⟩
 let hman:(aL ns (k+1)%4+2*(if decide (4-(n:Int)=0)=true then 1 else 0)).toNat=f9 ns tp k:=by rw[htp2];rfl
 let hb2:0<=(if decide (4-(n:Int)=0)=true then(1:Int) else 0)/\(if decide (4-(n:Int)=0)=true then(1:Int) else 0)<=1:=by split<;>decide
 refine ai (bO (r:=ah) (λi Z=>∃e5 e6 fp,Z=[.ob (aF a da (bw ns (x i).2.1 (x i).2.2)),aE (4-(n:Int)),aE X2,eT X1,.ob (fV (.lst (ba (x i).1)) fp),e5,e6]) (eh M.range (bZ (cY (dN 0 (st:=bw ns (k+1) c) (z:=aL ns (k+1)) CP hr ax rfl ⟨ns,k,c,rfl,rfl,hp.s,k0,`a,rfl⟩) ac `c) (LZ ac (Ab M.int (ja iD `g ac)) (.inl `c))) ⟨`a,`a⟩) (aU 5) ⟨_,_,f4,by rw[hx0];rfl⟩ (λi j Z hj hΓ=>?_) `R)
 ·let⟨e5,e6,fp,rfl⟩:=hΓ;let il:=(gu hj).1;rw[hman] at il;let⟨rd,⟨rc,rc0⟩,⟨rk0,rk1⟩,rll⟩:=hrun i;let hmul:bT n*i<=bT n*4:=Nat.mul_le_mul_left _ `a;let hs:=hxs i;generalize x i=xi at rd rc rc0 rk0 rk1 rll hs;let⟨X5,kk,cc⟩:=xi;dsimp only at rd rc rc0 rk0 rk1 rll ⊢;change WS _ _ [.ob (aF a da (bw ns kk cc)),aE (4-(n:Int)),aE X2,eT X1,.ob (fV (.lst (ba X5)) fp),aE j,e6] _ _;let rkk:kk+(bT n:Int)<=900000:=by push_cast at rk1;cbv
  refine aj (aZ (TW.tv (de (ay jz (EV.qL (dI 0 ac rfl (y:=(Sum.inr cc:RS ⊕ Int)) rfl)) ac) (λ_=>eO (TV.YY (EU (i:=4) rfl) (bV (aB CA hr (ag (EV.lP `af) ax) ⟨X5,rfl,`a,rfl⟩)))))) (λh=>?_) `Q)
  ·let h:0<cc/\c6 X5=true:= ~~~h
   let ht:=G0 ns X1 n X2 (kk,cc) h.1;let e1:jb ns X1 `an tp X2 (X5,kk,cc)=if tp=true/\X5.length=0/\oo (Yw ns X1 `an X2 (kk,cc)).1=true then(X5++[.Yq "back"],((Yw ns X1 `an X2 (kk,cc)).2.1,(Yw ns X1 `an X2 (kk,cc)).2.2-1)) else(X5++[(Yw ns X1 `an X2 (kk,cc)).1],(Yw ns X1 `an X2 (kk,cc)).2):=XU h;refine ai (ng 6 (iY 0 (st:=bw ns (Yw ns X1 `an X2 (kk,cc)).2.1 (Yw ns X1 `an X2 (kk,cc)).2.2) (z:=fI (Yw ns X1 `an X2 (kk,cc)).1) CT hr (ag `g (ag `s (ag `q ax))) rfl ⟨ns,X1,kk,cc,X2,rfl,rfl,⟨hp.s,`a,rkk,`a,`a,hp.l,n4⟩,h.1,rfl⟩ oT (Hk _)) λf6=>?_);generalize Yw ns X1 `an X2 (kk,cc)=r at ht e1;let⟨tt,kr,cr⟩:=r;dsimp only at e1 ⊢;change WS _ _ [.ob (aF a da (bw ns kr cr)),aE (4-(n:Int)),aE X2,eT X1,.ob (fV (.lst (ba X5)) fp),aE j,.ob (fV (fI tt) f6)] _ _;refine bG (N1:=λZ=>∃t' c' f',Z=[.ob (aF a da (bw ns kr c')),aE (4-(n:Int)),aE X2,eT X1,.ob (fV (.lst (ba X5)) fp),aE j,.ob (fV (fI t') f')]/\jb ns X1 `an tp X2 (X5,kk,cc)=(X5++[t'],(kr,c'))) (aZ (TW.tv (de (ay iD `g ac) (λ_=>de (ay iD (EV.YY (EU (i:=4) rfl) OK (eo M.len (EV.lP `af))) ac) (λ_=>eO (ay bS (EV.YY (EU (i:=6) rfl) O4 (gW `au)) aA))))) (λh=>?_) (λh=>aH ⟨tt,cr,f6,rfl,?_⟩)) ?_
   ·let h:tp=true/\X5.length=0/\oo tt=true:=by
     rw[htp2,iK] at h;rw[y4];simpa using h
    refine ai (eG 0 (j:=2) (EV.inr (h8 (EV.qL (dI 0 ac rfl (y:=(Sum.inr cr:RS ⊕ Int)) rfl)) ac)) ac rfl rfl rfl ?_);change WS _ _ [.ob (aF a da (bw ns kr (cr-1))),aE (4-(n:Int)),aE X2,eT X1,.ob (fV (.lst (ba X5)) fp),aE j,.ob (fV (fI tt) f6)] _ _;refine aj (ng 6 (y:=fI (.Yq "back")) (gK.cast (x:=.lst (dC (.Yq "back"))) (bc.qA (aQ (r:=au) (aq `bq (aq `bq aN)) (by show 2<=Vn;decide)) rfl) (dg _).symm) λf'=>⟨.Yq "back",cr-1,f',rfl,?_⟩);rw[e1,XU h]
   ·let h:¬(tp=true/\X5.length=0/\oo tt=true):=by
     rw[htp2,iK] at h;rw[y4];simpa using h
    rw[e1,XT h]
   rintro _ ⟨t',c',f',rfl,e2⟩;refine aj (oG 4 (tY 6 rfl) rfl rfl (UM (show _<=10 by rw[iK];cbv) `c) λfp'=>⟨aE j,.no,fp',?_⟩);rw[hs,e2,zO,ba,ba];rfl
  ·let h:¬(0<cc/\c6 X5=true):= ~~~h
   refine⟨aE j,e6,fp,?_⟩;rw[hs,show jb ns X1 `an tp X2 (X5,kk,cc)=(X5,kk,cc) from XT h]
 ·let⟨e5,e6,fp,rfl⟩:=hΓ;rw[bt,hman];exact ZU e5 e6 fp
theorem D1 (M:`aY)(CP:`aU)(CA:aD P w K mg base "_law_passes" 6 (aP (Ge 5) K))(CT:aD P w K mg base "_law_thing" (2*n+7) (fR da (Kb n) K))(F:dw K "_law_list" "_law_list" tE f fd)(hm:mg "_law_list"∣.ref f)(hb:be K fd Ad []):aD P w K mg base "_law_list" (2*n+8) (fR da (G9 n) K):=by
 let nd:=Ft.nd;refine wj (k:=2*n+7) F Ft hm hb (λxs qs T ⟨_,_,_,_,_,_,e,_⟩=>by rw[e];rfl) (λX6 A outer s H E a xs qs T hr hS=>?_);let⟨ns,X1,k,c,X2,rfl,rfl,hp,rfl⟩:=hS;exact ls_run M CP CA CT hr hp λe5 e6 fp=>aj (iT 0 (tY 4 rfl) rfl ⟨rfl,rfl⟩)
theorem Hd (M:`aY)(CP:`aU)(CN:`aw)(CA:aD P w K mg base "_law_passes" 6 (aP (Ge 5) K)){f2:Addr}{fd2:Vw}(F:dw K "_law_list" "_law_list" tE f fd)(hm:mg "_law_list"∣.ref f)(hb:be K fd Ad [])(F2:dw K "_law_thing" "_law_thing" G6 f2 fd2)(Z3:mg "_law_thing"∣.ref f2)(hb2:be K fd2 Ad []):∀n,aD P w K mg base "_law_list" (2*n+8) (fR da (G9 n) K)
 | 0=>D1 M CP CA (Hg M CP CN 0 (λm h=>XS h `a) F2 Z3 hb2) F hm hb
 | n+1=>D1 M CP CA (Hg M CP CN (n+1) (λm h=>by cases h;exact Hd M CP CN CA F hm hb F2 Z3 hb2 n) F2 Z3 hb2) F hm hb
variable {c:Str}{m:Int}{X0:RU}
noncomputable def gi (X0:RU)(x c:Str):Str:=if x∈X0 then iz x++c else x
abbrev g6:Str:="qwer"
noncomputable def qD (X0:RU)(x:Str):Str:=(fT g6).foldl (gi X0) x
noncomputable def Yh (ns:RS)(s:Int):Nat->RU
 | 0=>[]
 | i+1=>Yh ns s i++[qD `bI (Yb (aL ns (s+2+(i:Int))))]
def YN (ns:RS)(s:Int):Int:=1+aL ns (s+1)%4
def dA (m:Int):Int:=([14,12,8,6]:RS).getD (m-1).toNat 0
def fM (i:Nat)(m:Int):RS:=ups ((i:Int)+1) (m-((i:Int)+1)).toNat
noncomputable def Yg (ns:RS)(m k:Int):Nat->List (List Th)×Int
 | 0=>([],k)
 | i+1=>((Yg ns m k i).1++[(Ym ns (fM i m) 4 true 0 `bx).1],(Ym ns (fM i m) 4 true 0 `bx).2.1)
def atF (ns:RS)(k:Int)(j:Nat):Nat:=(aL ns (k+1)%(j:Int)).toNat
def rn (ns:RS)(x:List (List Th)×Int)(j:Nat):List (List Th)×Int:=
 (x.1.set (atF ns x.2 j) (cz (aL ns (x.2+2)%((x.1.getD (atF ns x.2 j) []).length:Int)).toNat (.call (j:Int)) (x.1.getD (atF ns x.2 j) [])),x.2+2)
noncomputable def YA (ns:RS)(x:List (List Th)×Int):Nat->List (List Th)×Int
 | 0=>x
 | i+1=>rn ns (YA ns x i) (i+1)
def YU (ns:RS)(s:Int):RU:=Yh ns s (YN ns s).toNat
def Y4 (ns:RS)(s:Int):List (List Th):=(YA ns (Yg ns (YN ns s) (s+1+YN ns s) (YN ns s).toNat) (YN ns s-1).toNat).1
theorem Ao (ns:RS)(s:Int):1<=YN ns s/\YN ns s<=4:=by
 unfold YN;have:=Sj (aL ns (s+1)) (show(4:Int)≠0 by decide);have:=Si (aL ns (s+1)) (show(0:Int)<4 by decide);cbv
theorem Dx (h1:1<=m)(h4:m<=4):6<=dA m/\dA m<=14:=by
 have:∀j:Fin 4,6<=([14,12,8,6]:RS).getD j.val 0/\([14,12,8,6]:RS).getD j.val 0<=14:=`c
 exact this ⟨(m-1).toNat,`a⟩
theorem rF (x:Str):(iz x).length<=7:=by
 unfold iz;show(List.take 7 x.cps.toList).toArray.size<=7;rw[SJ,SW];cbv
theorem F5 {c:Nat}(h:c∈(iz x).cps.toList):c∈x.cps.toList:=by
 unfold iz at h;have:c∈List.take 7 x.cps.toList:= ~~~h
 exact Ui this
theorem mK (h:c∈fT g6):cD c/\c.length=1:=by
 have:∀c∈fT g6,((1<=c.length/\c.length<=8)/\∀d∈c.cps.toList,97<=d/\d<=122)/\c.length=1:=`b
 let⟨⟨⟨a,b⟩,d⟩,e⟩:=this c h;exact⟨⟨a,b,d⟩,e⟩
theorem MQ (hx:cD x)(hc:cD c/\c.length=1):cD (gi X0 x c):=by
 unfold gi;split
 ·refine⟨?_,?_,λd hd=>?_⟩
  ·rw[len_app,hc.2];cbv
  ·rw[len_app,hc.2];have:=rF x;cbv
  ·obtain z | z:=ux hd
   ·exact hx.az d (F5 z)
   ·exact hc.1.az d z
 ·exact hx
theorem l6 {X0:RU}:∀{cs:RU}{x:Str},cD x->(∀c∈cs,cD c/\c.length=1)->cD (cs.foldl (gi X0) x)
 | [],_,hx,_=>hx
 | c::cs,x,hx,h=>l6 (cs:=cs) (x:=gi X0 x c) (MQ hx (h c Sz)) λd hd=>h d (Sv _ hd)
theorem KP (hx:cD x):cD (qD X0 x):=l6 hx λc hc=>mK hc
theorem jy (ns:RS)(s:Int):∀i,(Yh ns s i).length=i
 | 0=>rfl
 | i+1=>by rw[Yh,Sx,jy ns s i];rfl
theorem wL (ns:RS)(s:Int):∀i,∀x∈Yh ns s i,cD x
 | 0,x,h=>by cases h
 | i+1,x,h=>by
   rw[Yh] at h;obtain z | z:=SK.mp h
   ·exact wL ns s i x z
   ·rw[Su.mp z];exact KP (fD _)
theorem nA (ns:RS)(m k:Int):∀i,(Yg ns m k i).1.length=i
 | 0=>rfl
 | i+1=>by rw[Yg,Sx,nA ns m k i];rfl
theorem Ru:mS 4=177776:=rfl
theorem GH (ns:RS)(m k:Int)(hb:0<=dA m):∀i:Nat,k<=(Yg ns m k i).2/\(Yg ns m k i).2<=k+177776*(i:Int)
 | 0=>⟨Sl _,by show k<=_;cbv⟩
 | i+1=>by
   let⟨a,b⟩:=GH ns m k hb i;let⟨c,d⟩:=(nv ns (fM i m) 4 true 0 `bx hb).k;rw[Ru] at d;dsimp only at c d;rw[Yg];dsimp only;exact⟨`a,by push_cast;cbv⟩
theorem Mc (ns X1:RS)(c k:Int)(hc:0<c):0<(Ym ns X1 4 true 0 (k,c)).1.length:=by
 rw[m8];let hm:2<=f9 ns true k:=by
  unfold f9;have:=Sj (aL ns (k+1)) (show(4:Int)≠0 by decide);simp;cbv
 let key:∀(f:List Th×Pn->List Th×Pn)(x:List Th×Pn),(∀y,y.1.length<=(f y).1.length)->0<(f x).1.length->∀m,1<=m->0<(Yv f m x).1.length:=by
  intro f x h1 h2 m
  induction m with
  | zero=>intro h;cbv
  | succ m ih=>
    intro _;rw[Yv];cases m with
    | zero=>exact h2
    | succ m=>exact UN (ih `a) (h1 _)
 refine key _ _ (λy=>?_) ?_ _ (show 1<=f9 ns true k by cbv)
 ·unfold jb;split
  ·split<;>simp
  ·exact UJ _
 ·unfold jb;rw[XU ⟨hc,by simp[c6]⟩];split<;>simp
theorem Dl (ns:RS)(m k:Int)(hb:0<dA m):∀i,∀L∈(Yg ns m k i).1,0<L.length/\L.length<=5
 | 0,L,h=>by cases h
 | i+1,L,h=>by
   rw[Yg] at h;obtain z | z:=SK.mp h
   ·exact Dl ns m k hb i L z
   ·rw[Su.mp z];exact⟨Mc ns _ _ _ hb,(nv ns (fM i m) 4 true 0 `bx (Int.le_of_lt hb)).l⟩
theorem lX (k:Nat)(y:α)(xs:`x):(cz k y xs).length=xs.length+1:=by
 unfold cz;rw[Sx,SE,SW,T7];cbv
theorem mem_set {l:`x}{x y:α}(h:y∈l.set i x):y∈l∨y=x:=List.mem_or_eq_of_mem_set h
theorem zK (ns:RS)(x:List (List Th)×Int)(hx:∀L∈x.1,0<L.length/\L.length<=5):∀i,(YA ns x i).1.length=x.1.length/\(YA ns x i).2=x.2+2*(i:Int)/\∀L∈(YA ns x i).1,0<L.length/\L.length<=5+i
 | 0=>⟨rfl,by show x.2=_;cbv,λL h=>⟨(hx L h).1,(hx L h).2⟩⟩
 | i+1=>by
   let⟨a,b,c⟩:=zK ns x hx i;rw[YA];refine⟨by unfold rn;dsimp only;rw[Tb];exact a,by unfold rn;dsimp only;rw[b];push_cast;cbv,λL h=>?_⟩;unfold rn at h;dsimp only at h;obtain z | z:=mem_set h
   ·have:=c L z;cbv
   ·rw[z,lX];generalize hn:atF ns (YA ns x i).2 (i+1)=n;refine⟨`a,?_⟩;rw[Sr];cases e:(YA ns x i).1[n]? with
    | none=>show 0+1<=_;cbv
    | some L'=>
      have:=(c L' (SD e)).2;show L'.length+1<=_;cbv
abbrev Pf:Stmt:=top vH
abbrev nDR:RU:=["_law_script","_law_start","_law_pen","_law_many","_law_names_here","_law_k","_law_name_here","_law_letter","_law_lists","_law_items"]
noncomputable def Pz:c9:=λK ps T=>∃(ns:RS)(s:Int),ps=[⟨ck,ns⟩,⟨ah,s⟩]/\xm ns/\0<=s/\s<=1000/\T=Eu K (ae ak) λy L=>y=YU ns s/\L=(Y4 ns s).map ba
theorem NJ (M:`aY)(CP:`aU)(CN:`aw)(CL:aD P w K mg base "_law_list" 16 (fR da (G9 4) K))(Df:Def K mg "_law_drawn" Pf ["_law_script","_law_start"]):aD P w K mg base "_law_drawn" 17 (aP Pz K):=by
 let CP:=CP.mono (show 2<=16 by decide);let CN:=CN.mono (show 1<=16 by decide);refine bP (N:=nDR) (k:=16) Df `t;let⟨ns,s,rfl,hs,s0,s1,rfl⟩:=hS;let⟨m1,m4⟩:=Ao ns s;refine ai (cF 2 (r:=da) (ys:=bw ns s 0) (aQ (aq (EV.inl `e) (aq (EV.inr `g) (aq (EV.inr ac) aN))) (by show 3<=Vn;decide)) ?_);refine WS.box 2 rfl λa0=>?_;refine ai (bo 3 (y:=YN ns s) (bZ ac (cY (dN 2 (st:=bw ns (s+1) 0) (z:=aL ns (s+1)) CP hr ax rfl ⟨ns,s,0,rfl,rfl,hs,s0,`a,rfl⟩) ac `c)) ?_);generalize hM:YN ns s=m at m1 m4;refine ai (cF 4 (r:=ak) (ys:=[]) `aE ?_);refine bG (N1:=λZ=>∃e5 e6 e7,Z=[.im ck ns,aE s,.ob (aF a0 da (bw ns (s+1+m) 0)),aE m,.mu ak (YU ns s),e5,e6,e7,.no,.no]) (bO (λi Z=>∃e5 e6 e7,Z=[.im ck ns,aE s,.ob (aF a0 da (bw ns (s+1+(i:Int)) 0)),aE m,.mu ak `bI,e5,e6,e7,.no,.no]) (eh M.range `q ⟨`a,`a⟩) (aU 5) ⟨_,_,_,by rw[show s+1+((0:Nat):Int)=s+1 from Int.add_zero _];rfl⟩ (λi j Z hj hΓ=>?_) `R) ?_
 ·let⟨e5,e6,e7,rfl⟩:=hΓ;let⟨jl,ej⟩:=gu hj;obtain rfl:j=(i:Int):=`a
  let b:=mG ns (s+1+(i:Int)+1);refine ai (bo 6 (y:=Yb (aL ns (s+1+(i:Int)+1))) (aB CN hr (ag (dN 2 (st:=bw ns (s+1+(i:Int)+1) 0) (z:=aL ns (s+1+(i:Int)+1)) CP hr ax rfl ⟨ns,_,0,rfl,rfl,hs,`a,`a,rfl⟩) ax) ⟨_,rfl,b.1,b.2,rfl⟩) ?_);let hx:=fD (aL ns (s+1+(i:Int)+1));let he:s+1+(i:Int)+1=s+2+(i:Int):=`a
  let ZA:Yh ns s (i+1)=Yh ns s i++[qD `bI (Yb (aL ns (s+1+(i:Int)+1)))]:=by rw[Yh,he]
  generalize Yb (aL ns (s+1+(i:Int)+1))=x at hx ZA;let hlen:=jy ns s i;let Z1:∀n,cD (((fT g6).take n).foldl (gi `bI) x):=λn=>l6 hx λc hc=>mK (Ui hc);refine bG (N1:=λZ=>∃e7,Z=[.im ck ns,aE s,.ob (aF a0 da (bw ns (s+1+(i:Int)+1) 0)),aE m,.mu ak `bI,aE (i:Int),.im ak (qD `bI x),e7,.no,.no]) (bO (λn Z=>∃e7,Z=[.im ck ns,aE s,.ob (aF a0 da (bw ns (s+1+(i:Int)+1) 0)),aE m,.mu ak `bI,aE (i:Int),.im ak (((fT g6).take n).foldl (gi `bI) x),e7,.no,.no]) (xD (x:=g6) aA `b `b) (aU 7) ⟨_,rfl⟩ (λn c Z hc hΓ=>?_) `R) ?_
  ·let⟨e7,rfl⟩:=hΓ;let hf:=Z1 n;let YJ:((fT g6).take (n+1)).foldl (gi `bI) x=gi `bI (((fT g6).take n).foldl (gi `bI) x) c:=by
    rw[S9,hc,Tu];rfl
   rw[YJ];generalize ((fT g6).take n).foldl (gi `bI) x=z at hf;let cl:=(mK (SD hc)).2;change WS _ _ [.im ck ns,aE s,.ob (aF a0 da (bw ns (s+1+(i:Int)+1) 0)),aE m,.mu ak `bI,aE (i:Int),.im ak z,.im ak c,.no,.no] _ _;refine aj (aZ (TV.YY (B5 (i:=4) rfl (aM (by rw[hlen];cbv))) (ay sL `au `af)) (λh=>?_) (λh=>aH ⟨.im ak c,?_⟩))
   ·let h:z∈Yh ns s i:=XW h;refine aj (bo 6 (y:=gi `bI z c) (EV.cast (pY (DU `au hf.l8) (aa 7 rfl) (UK (show _<=8 by have:=rF z;cbv) `c)) (by unfold gi;rw[XU h])) ⟨.im ak c,rfl⟩)
   ·let h:¬z∈Yh ns s i:=XX h;unfold gi;rw[XT h]
  ·let⟨e7,rfl⟩:=hΓ;refine⟨e7,?_⟩;rw[Td];rfl
  rintro _ ⟨e7,rfl⟩;refine aj (eU 4 `au rfl rfl (UM (show _<=10 by rw[hlen];cbv) `c) ⟨aE (i:Int),.im ak (qD `bI x),e7,?_⟩);rw[ZA,show s+1+((i+1:Nat):Int)=s+1+(i:Int)+1 by push_cast;cbv];rfl
 ·let⟨e5,e6,e7,rfl⟩:=hΓ;rw[bt];refine⟨e5,e6,e7,?_⟩;unfold YU;rw[hM,show((m.toNat:Nat):Int)=m by cbv]
 rintro _ ⟨e5,e6,e7,rfl⟩;let hdN:(YU ns s).length<=4:=by unfold YU;rw[jy,hM];cbv
 generalize hdn:YU ns s=dn at hdN;let⟨b6,b14⟩:=Dx m1 m4;refine ai (cF 8 (r:=au) (ys:=[]) `aE ?_);refine WS.Nx 8 rfl λa=>?_;let kb:=GH ns m (s+1+m) `a;refine bG (N1:=λZ=>∃e5 c ps,Z=[.im ck ns,aE s,.ob (aF a0 da (bw ns (Yg ns m (s+1+m) m.toNat).2 c)),aE m,.mu ak dn,e5,e6,e7,.ob `F,.no]/\ps.map (·.1)=(Yg ns m (s+1+m) m.toNat).1.map ba) (bO (λi Z=>∃e5 c ps,Z=[.im ck ns,aE s,.ob (aF a0 da (bw ns (Yg ns m (s+1+m) i).2 c)),aE m,.mu ak dn,e5,e6,e7,.ob `F,.no]/\ps.map (·.1)=(Yg ns m (s+1+m) i).1.map ba) (eh M.range `q ⟨`a,`a⟩) (aU 5) ⟨_,_,[],rfl,rfl⟩ (λi j Z hj hΓ=>?_) `R) ?_
 ·let⟨e5,c,ps,rfl,YX⟩:=hΓ;let⟨jl,ej⟩:=gu hj;obtain rfl:j=(i:Int):=`a
  let⟨k0,k1⟩:=kb i;let hl:=nA ns m (s+1+m) i;let Y8:Yg ns m (s+1+m) (i+1)=((Yg ns m (s+1+m) i).1++[(Ym ns (fM i m) 4 true 0 ((Yg ns m (s+1+m) i).2,dA m)).1],(Ym ns (fM i m) 4 true 0 ((Yg ns m (s+1+m) i).2,dA m)).2.1):=rfl;generalize Yg ns m (s+1+m) i=x at k0 k1 hl Y8 YX;rw[Y8];let⟨Ls,k⟩:=x;dsimp only at k0 k1 hl ⊢;let hbud:cE ([14,12,8,6]:RS) (m-1)∣dA m:=bb 0 `a (by show m-1<((4:Nat):Int);cbv);refine ai (eG 2 (j:=2) (EV.inr (a9 (bc.im (aQ (r:=ah) (aq ac (aq ac (aq ac (aq ac aN)))) (by show 4<=Vn;decide))) (h8 `q ac) hbud)) ac rfl rfl rfl ?_);let hcl:(fM i m).length<=100:=by unfold fM;rw[bt];cbv
  let Yo:ps.length=i:=by
   have:=congrArg List.length YX;rw[Ss,Ss,hl] at this;exact this
  refine aj (Jj 8 (ys:=ba (Ym ns (fM i m) 4 true 0 (k,dA m)).1) (iY 2 (st:=bw ns (Ym ns (fM i m) 4 true 0 (k,dA m)).2.1 (Ym ns (fM i m) 4 true 0 (k,dA m)).2.2) CL hr (ag ac (ag ac (ag (bc.im (t7 M.list M.range (ag (bZ `Y ac) (ag `q ax)) ⟨`a,`a⟩ ⟨`a,`a⟩)) ax))) rfl ⟨ns,fM i m,k,dA m,0,rfl,rfl,⟨hs,`a,show k+((177776:Nat):Int)<=900000 by cbv,`a,`a,hcl,`c⟩,rfl⟩ oT (lZ _)) rfl rfl (UM (show _<=10 by cbv) `c) λb g=>⟨aE (i:Int),(Ym ns (fM i m) 4 true 0 (k,dA m)).2.2,ps++[(ba (Ym ns (fM i m) 4 true 0 (k,dA m)).1,b,g)],rfl,?_⟩);rw[SN,SN,YX];rfl
 ·let⟨e5,c,ps,rfl,YX⟩:=hΓ;rw[bt] at YX ⊢;exact⟨e5,c,ps,rfl,YX⟩
 rintro _ ⟨e5,c,ps,rfl,YX⟩;let Yi:=Dl ns m (s+1+m) `a m.toNat;let hxl:=nA ns m (s+1+m) m.toNat;let⟨k0,k1⟩:=kb m.toNat;let hdl:Y4 ns s=(YA ns (Yg ns m (s+1+m) m.toNat) (m-1).toNat).1:=by unfold Y4;rw[hM]
 generalize Yg ns m (s+1+m) m.toNat=x at Yi hxl k0 k1 hdl YX;let hinv:=zK ns x Yi;refine bG (N1:=λZ=>∃e5 e9 k ps,Z=[.im ck ns,aE s,.ob (aF a0 da (bw ns k c)),aE m,.mu ak dn,e5,e6,e7,.ob `F,e9]/\ps.map (·.1)=(Y4 ns s).map ba) (bO (λi Z=>∃e5 e9 ps,Z=[.im ck ns,aE s,.ob (aF a0 da (bw ns (YA ns x i).2 c)),aE m,.mu ak dn,e5,e6,e7,.ob `F,e9]/\ps.map (·.1)=(YA ns x i).1.map ba) (DX M.range ac `q ⟨`a,`a,`a,`a⟩) (aU 5) ⟨_,_,ps,rfl,YX⟩ (λi j Z hj hΓ=>?_) `R) ?_
 ·let⟨e5,e9,ps,rfl,YX⟩:=hΓ;let⟨jl,ej⟩:=gu hj;obtain rfl:j=((i+1:Nat):Int):=by push_cast;cbv
  let⟨i1,i2,i3⟩:=hinv i;let Y8:YA ns x (i+1)=rn ns (YA ns x i) (i+1):=rfl;rw[Y8];generalize YA ns x i=y at i1 i2 i3 YX;let⟨Ls,k⟩:=y;dsimp only at i1 i2 i3 YX;let Yo:ps.length=Ls.length:=by
   have:=congrArg List.length YX;rwa [Ss,Ss] at this
  unfold rn;dsimp only;let q0:=Sj (aL ns (k+1)) (show((i+1:Nat):Int)≠0 by cbv);let q1:=Si (aL ns (k+1)) (show(0:Int)<((i+1:Nat):Int) by cbv);let YZ:atF ns k (i+1)<Ls.length:=by unfold atF;cbv
  let hix:gm ps.length (aL ns (k+1)%((i+1:Nat):Int))∣(atF ns k (i+1)):=xW q0 `a;generalize hatn:atF ns k (i+1)=n at YZ hix;let hL:Ls[n]?∣(Ls.getD n []):=by rw[Sr,So YZ];rfl
  let hq:ps[n]?∣(ps[n]'`a):=So `a;generalize (ps[n]'`a)=q at hq;let hq1:q.1=ba (Ls.getD n []):=by
   have:=congrArg (λl=>l[n]?) YX;simp only[Sw,hq,hL] at this;exact Option.some.inj this
  refine ai (Bs 8 9 (cY (dN 2 (st:=bw ns (k+1) c) (z:=aL ns (k+1)) CP hr ax rfl ⟨ns,k,c,rfl,rfl,hs,`a,`a,rfl⟩) `Y `a) rfl rfl hix hq ?_);let⟨l0,l5⟩:=i3 _ (SD hL);generalize Ls.getD n []=L at hL l0 l5 hq1;let hll:(q.1.length:Int)=(L.length:Int):=by rw[hq1,iK]
  let r0:=Sj (aL ns (k+2)) (show(L.length:Int)≠0 by cbv);let r1:=Si (aL ns (k+2)) (show(0:Int)<(L.length:Int) by cbv);let e3:k+1+1=k+2:=`a
  refine aj (Ht 8 9 (k:=aL ns (k+2)%(L.length:Int)) (y:=fI (.call ((i+1:Nat):Int))) (cY (dN 2 (st:=bw ns (k+2) c) (z:=aL ns (k+2)) CP hr ax rfl ⟨ns,k+1,c,rfl,rfl,hs,`a,`a,by rw[e3]⟩) (EV.cast (FG 8 9 M.len rfl rfl hq) hll) `a) (gK.cast (x:=.lst (dC (.call ((i+1:Nat):Int)))) (bc.qA (aQ (r:=au) (aq `bq (aq (EV.pI `Y) aN)) (by show 2<=Vn;decide)) rfl) (dg _).symm) rfl rfl hq rfl r0 `a (UM (show _<=20 by rw[hq1,iK];cbv) `c) λg=>⟨aE ((i+1:Nat):Int),.im dG q.2.1,_,rfl,?_⟩);rw[Ux,YX];show(Ls.map ba).set n (cz _ _ q.1)=_;rw[hq1];rw[Ux,eP (cz _ _ _),BB,← eP]
 ·let⟨e5,e9,ps,rfl,YX⟩:=hΓ;rw[bt] at YX ⊢;exact⟨e5,e9,_,ps,rfl,by rw[hdl];exact YX⟩
 rintro _ ⟨e5,e9,k,ps,rfl,YX⟩;let⟨i1,i2,i3⟩:=hinv (m-1).toNat;rw[← hdl] at i1 i3;refine WS.freeze 4 rfl (aM `a) ?_;exact aj (Jd 8 `af rfl ⟨rfl,YX⟩)
mutual
noncomputable def bU (lo m:Int):Bool->Th->Prop
 | _,.Yq x=>cD x
 | _,.call j=>lo<j/\j<m
 | lp,.ifs x a b=>cD x/\bK lo m lp a/\bK lo m lp b
 | _,.X9 x a=>cD x/\bK lo m true a
 | lp,.leave=>lp=true
 | _,.back=>True
noncomputable def bK (lo m:Int):Bool->List Th->Prop
 | _,[]=>True
 | lp,t::ts=>bU lo m lp t/\(dF t=true∨ts=[])/\bK lo m lp ts
end
variable {lo:Int}{lp:Bool}
theorem kX {t:Th}:∀{a:`N},bK lo m lp a->c6 a=true->bU lo m lp t->bK lo m lp (a++[t])
 | [],_,_,ht=>by rw[To,bK];exact⟨ht,.inr rfl,by rw[bK];trivial⟩
 | x::a,h,hp,ht=>by
   rw[bK] at h;rw[c6,Sa] at hp;rw[Tz,bK];exact⟨h.1,.inl hp.1,kX h.2.2 hp.2 ht⟩
theorem z3 {t:Th}(ht:bU lo m lp t)(hp:dF t=true):∀{k:Nat}{L:`N},bK lo m lp L->k<L.length->bK lo m lp (cz k t L)
 | 0,L,h,_=>by show bK lo m lp (t::L);rw[bK];exact⟨ht,.inl hp,h⟩
 | k+1,[],_,hk=>by cases hk
 | k+1,x::L,h,hk=>by
   rw[bK] at h;let hk:k<L.length:= ~~~hk
   let hx:dF x=true:=h.2.1.resolve_right λe=>by rw[e] at hk;cases hk
   show bK lo m lp (x::cz k t L);rw[bK];exact⟨h.1,.inl hx,z3 ht hp h.2.2 hk⟩
theorem zC {ns X1:RS}{sub:`aZ}(hc:∀j∈X1,lo<j/\j<m)(Yx:∀L,sub∣L->∀lp s,0<=lp->bK lo m (decide (0<lp)) (L lp s).1)(X2:Int)(s:Pn)(hl:0<=X2):bU lo m (decide (0<X2)) (Yw ns X1 sub X2 s).1:=by
 unfold Yw;split
 ·rename_i h;simp only[bU];exact XY h.2
 split
 ·simp only[bU]
 split
 ·rename_i h;simp only[bU];let hl:(0:Int)<(X1.length:Int):=by have:=h.2;cbv
  let q0:=Sj (aL ns (s.1+3)) (show(X1.length:Int)≠0 by cbv);let q1:=Si (aL ns (s.1+3)) hl;let hi:(aL ns (s.1+3)%(X1.length:Int)).toNat<X1.length:=`a
  rw[Sr,So hi];exact hc _ (S7 hi)
 cases sub with
 | none=>simp only[bU];exact fD _
 | some L=>
   dsimp only;split
   ·simp only[bU];exact⟨fD _,Yx L rfl _ _ hl,Yx L rfl _ _ hl⟩
   split
   ·simp only[bU];have:=Yx L rfl (X2+1) (s.1+2,s.2-2) `a;rw[XY (show 0<X2+1 by cbv)] at this;exact⟨fD _,this⟩
   ·simp only[bU];exact fD _
theorem Ae:cD "back":=⟨`b,`b,`b⟩
theorem ur {α:Type}{f:α->α}{P:α->Prop}(h:∀x,P x->P (f x)):∀n x,P x->P (Yv f n x)
 | 0,_,hx=>hx
 | n+1,x,hx=>h _ (ur h n x hx)
theorem HJ {ns X1:RS}(hc:∀j∈X1,lo<j/\j<m):∀(n:Nat)(tp:Bool)(lp:Int)(s:Pn),0<=lp->bK lo m (decide (0<lp)) (Ym ns X1 n tp lp s).1:=by
 intro n
 induction n with
 | zero=>
   intro tp lp s hl;rw[m8];refine ur (P:=λ(x:List Th×Pn)=>bK lo m (decide (0<lp)) x.1) (λx hx=>?_) _ _ (by simp only[bK]);unfold jb;split
   ·rename_i h;split
    ·exact kX hx h.2 (by simp only[bU];exact Ae)
    ·exact kX hx h.2 (zC hc (λL e=>by cases e) lp x.2 hl)
   ·exact hx
 | succ n ih=>
   intro tp lp s hl;rw[m8];refine ur (P:=λ(x:List Th×Pn)=>bK lo m (decide (0<lp)) x.1) (λx hx=>?_) _ _ (by simp only[bK]);unfold jb;split
   ·rename_i h;split
    ·exact kX hx h.2 (by simp only[bU];exact Ae)
    ·exact kX hx h.2 (zC hc (λL e lp' s' Zu=>by cases e;exact ih false lp' s' Zu) lp x.2 hl)
   ·exact hx
section
variable {L:`N}
def gH (L:`N):Prop:=∃t ts,L=t::ts/\oo t=false
theorem JG (h:gH L)(t:Th):gH (L++[t]):=by
 let⟨x,ts,rfl,h⟩:=h;exact⟨x,ts++[t],rfl,h⟩
theorem L3 (ns X1:RS)(c k:Int)(hc:0<c):gH (Ym ns X1 4 true 0 (k,c)).1:=by
 rw[m8];let hm:2<=f9 ns true k:=by
  unfold f9;have:=Sj (aL ns (k+1)) (show(4:Int)≠0 by decide);simp;cbv
 let key:∀(f:List Th×Pn->List Th×Pn)(x:List Th×Pn),(∀y,gH y.1->gH (f y).1)->gH (f x).1->∀m,1<=m->gH (Yv f m x).1:=by
  intro f x h1 h2 m
  induction m with
  | zero=>intro h;cbv
  | succ m ih=>
    intro _;rw[Yv];cases m with
    | zero=>exact h2
    | succ m=>exact h1 _ (ih `a)
 refine key _ _ (λy hy=>?_) ?_ _ (show 1<=f9 ns true k by cbv)
 ·unfold jb;split
  ·split<;>exact JG hy _
  ·exact hy
 ·unfold jb;rw[XU ⟨hc,by simp[c6]⟩];split
  ·exact⟨_,[],rfl,rfl⟩
  ·rename_i h;refine⟨_,[],rfl,?_⟩;cases e:oo (Yw ns X1 (d8 ns X1 4) 0 ([],k+1,c).2).1 with
   | false=>rfl
   | true=>exact XS ⟨rfl,rfl,e⟩ h
def lS (x:Str):Option Nat:=x.cps.toList.getLast?
theorem nT (x:Str)(c:Nat):lS (x++⟨#[c]⟩)∣c:=by
 unfold lS;let e:(x++(⟨#[c]⟩:Str)).cps.toList=x.cps.toList++[c]:=by show(x.cps++ #[c]).toList=_;simp
 rw[e];simp
theorem E7:fT g6=[⟨#[113]⟩,⟨#[119]⟩,⟨#[101]⟩,⟨#[114]⟩]:=`b
theorem Hs (hl:X0.length<=3)(x:Str):qD X0 x∉X0:=by
 unfold qD;rw[E7];simp only[List.foldl];let YF:∀{y:Str},y∉X0->∀c,gi X0 y c=y:=λh c=>XT h;let go:∀{y:Str},y∈X0->∀c,gi X0 y c=iz y++c:=λh c=>XU h;by_cases h0:x∈X0;rotate_left
 ·rw[YF h0,YF h0,YF h0,YF h0];exact h0
 rw[go h0];generalize hx1:iz x++(⟨#[113]⟩:Str)=x1;let l1:lS x1∣113:=by rw[← hx1];exact nT _ _
 by_cases h1:x1∈X0;rotate_left
 ·rw[YF h1,YF h1,YF h1];exact h1
 rw[go h1];generalize hx2:iz x1++(⟨#[119]⟩:Str)=x2;let l2:lS x2∣119:=by rw[← hx2];exact nT _ _
 by_cases h2:x2∈X0;rotate_left
 ·rw[YF h2,YF h2];exact h2
 rw[go h2];generalize hx3:iz x2++(⟨#[101]⟩:Str)=x3;let l3:lS x3∣101:=by rw[← hx3];exact nT _ _
 by_cases h3:x3∈X0;rotate_left
 ·rw[YF h3];exact h3
 rw[go h3];generalize hx4:iz x3++(⟨#[114]⟩:Str)=x4;let l4:lS x4∣114:=by rw[← hx4];exact nT _ _
 intro h4;let⟨n1,b1,e1⟩:=Ub h1;let⟨n2,b2,e2⟩:=Ub h2;let⟨n3,b3,e3⟩:=Ub h3;let⟨n4,b4,e4⟩:=Ub h4;let ne:∀{i j:Nat}{hi:i<X0.length}{hj:j<X0.length}{y z:Str}{c d:Nat},X0[i]=y->X0[j]=z->lS y∣c->lS z∣d->c≠d->i≠j:=by
  intro i j hi hj y z c d e e' l l' Z4 z;subst z;rw[← e] at l;rw[← e',l] at l';exact Z4 (Option.some.inj l')
 have:=ne e1 e2 l1 l2 `c;have:=ne e1 e3 l1 l3 `c;have:=ne e1 e4 l1 l4 `c;have:=ne e2 e3 l2 l3 `c;have:=ne e2 e4 l2 l4 `c;have:=ne e3 e4 l3 l4 `c;cbv
theorem ym (ns:RS)(s:Int):∀i,i<=4->(Yh ns s i).Nodup
 | 0,_=>T9
 | i+1,h=>by
   rw[Yh];exact jF (ym ns s i `a) (Hs (by rw[jy];cbv) _)
theorem Lc (i:Nat)(m:Int):∀j∈fM i m,(i:Int)<j/\j<m:=by
 intro j hj;unfold fM at hj;let⟨n,hn⟩:=SO.mp hj;let⟨a,b⟩:=gu hn;cbv
structure LsOk (m:Int)(b:Nat)(Ls:`A):Prop where
 ok:∀(p:Nat)(L:`N),Ls[p]?∣L->bK (p:Int) m false L
 dp:∀L∈Ls,dc L<=4
 hd:∀L∈Ls,gH L
 rw:∀L∈Ls,Yk L<=b
theorem DD (ns:RS)(m k:Int)(hb:0<dA m):∀i,LsOk m (dA m).toNat (Yg ns m k i).1/\((Yg ns m k i).1.map Yk).sum<=i*(dA m).toNat
 | 0=>⟨⟨(λp L h=>by simp[Yg] at h),(λL h=>by simp[Yg] at h),(λL h=>by simp[Yg] at h),(λL h=>by simp[Yg] at h)⟩,UL _⟩
 | i+1=>by
   let⟨h,hs⟩:=DD ns m k hb i;let hl:=nA ns m k i;let g:=nv ns (fM i m) 4 true 0 `bx (Int.le_of_lt hb);let go:=HJ (lo:=(i:Int)) (m:=m) (ns:=ns) (Lc i m) 4 true 0 `bx (Sl 0);let gh:=L3 ns (fM i m) (dA m) (Yg ns m k i).2 hb;let gr:Yk (Ym ns (fM i m) 4 true 0 `bx).1<=(dA m).toNat:=by
    have:=g.c;dsimp only at this;cbv
   rw[Yg];dsimp only;generalize Ym ns (fM i m) 4 true 0 `bx=r at g go gh gr;generalize Yg ns m k i=x at h hs hl;let mem:∀{L},L∈x.1++[r.1]->L∈x.1∨L=r.1:=λh=>(SK.mp h).imp id Su.mp;refine⟨⟨λp L hp=>?_,λL hL=>?_,λL hL=>?_,λL hL=>?_⟩,?_⟩
   ·obtain z | z:=UP p x.1.length
    ·rw[S0 z] at hp;exact h.ok p L hp
    ·rw[SV z] at hp;let hz:p-x.1.length=0:=by
      have:=(Sn.mp hp).1;simp at this;cbv
     rw[hz] at hp;let e:r.1=L:= ~~~hp
     let ep:p=i:=`a
     rw[← e,ep];exact go
   ·obtain z | rfl:=mem hL
    ·exact h.dp L z
    ·exact g.dp
   ·obtain z | rfl:=mem hL
    ·exact h.hd L z
    ·exact gh
   ·obtain z | rfl:=mem hL
    ·exact h.rw L z
    ·exact gr
   ·rw[SN,UE,Nat.add_mul];simp;cbv
theorem mh (k:Nat)(y:α)(xs:`x):cz k y xs=xs.take k++y::xs.drop k:=rfl
theorem BR (k:Nat)(j:Int)(L:`N):Yk (cz k (.call j) L)=Yk L+1:=by
 rw[mh,ju,Yk,Yp];have:=ju (L.take k) (L.drop k);rw[TL] at this;cbv
theorem Kk (k:Nat)(j:Int)(L:`N):dc (cz k (.call j) L)=dc L:=by
 rw[mh,mQ,dc,show eM (.call j)=0 by simp[eM]];have:=mQ (L.take k) (L.drop k);rw[TL] at this;cbv
theorem Hu {k:Nat}{y x:Th}(h:x∈L):x∈cz k y L:=by
 rw[mh];rw[← TL k L] at h;obtain z | z:=SK.mp h
 ·exact SS _ z
 ·exact SH _ (Sv _ z)
theorem Gb {k:Nat}{y:Th}:y∈cz k y L:=by
 rw[mh];exact SH _ Sz
theorem Ka {k:Nat}{j:Int}(h:gH L):gH (cz k (.call j) L):=by
 let⟨t,ts,rfl,h⟩:=h;cases k with
 | zero=>exact⟨_,_,rfl,rfl⟩
 | succ k=>exact⟨t,cz k (.call j) ts,rfl,h⟩
theorem sum_set:∀{l:List Nat}{n a b:Nat},l[n]?∣a->(l.set n b).sum+a=l.sum+b
 | x::l,0,a,b,h=>by
   let e:x=a:= ~~~h
   rw[List.set_cons_zero,Um,Um,e];cbv
 | x::l,n+1,a,b,h=>by
   have:=sum_set (l:=l) (n:=n) (a:=a) (b:=b) (~~~h);rw[List.set_cons_succ,Um,Um];cbv
theorem Dt (ns:RS)(x:List (List Th)×Int)(m:Int)(b:Nat)(hx:LsOk m b x.1)(hl:(x.1.length:Int)=m):∀i:Nat,(i:Int)<m->LsOk m (b+i) (YA ns x i).1/\(YA ns x i).1.length=x.1.length/\((YA ns x i).1.map Yk).sum=(x.1.map Yk).sum+i/\∀j:Nat,1<=j->j<=i->∃L∈(YA ns x i).1,Th.call (j:Int)∈L
 | 0,_=>⟨hx,rfl,rfl,λj h1 h2=>`a⟩
 | i+1,hi=>by
   let⟨h,hll,hs,hc⟩:=Dt ns x m b hx hl i `a;rw[YA];generalize YA ns x i=y at h hll hs hc;unfold rn;let q0:=Sj (aL ns (y.2+1)) (show((i+1:Nat):Int)≠0 by cbv);let q1:=Si (aL ns (y.2+1)) (show(0:Int)<((i+1:Nat):Int) by cbv);let YZ:atF ns y.2 (i+1)<=i:=by unfold atF;cbv
   generalize atF ns y.2 (i+1)=n at YZ;let hn:n<y.1.length:=`a
   let hL:y.1[n]?∣(y.1.getD n []):=by rw[Sr,So hn];rfl
   generalize y.1.getD n []=L at hL;let mL:=SD hL;let l0:0<L.length:=by let⟨t,ts,rfl,_⟩:=h.hd L mL;simp
   let r0:=Sj (aL ns (y.2+2)) (show(L.length:Int)≠0 by cbv);let r1:=Si (aL ns (y.2+2)) (show(0:Int)<(L.length:Int) by cbv);let hk:(aL ns (y.2+2)%(L.length:Int)).toNat<L.length:=`a
   dsimp only;generalize (aL ns (y.2+2)%(L.length:Int)).toNat=k at hk;refine⟨⟨λp L' hp=>?_,λL' hL'=>?_,λL' hL'=>?_,λL' hL'=>?_⟩,by rw[Tb];exact hll,?_,λj h1 h2=>?_⟩
   ·by_cases e:p=n
    ·subst e;rw[SG hn] at hp;cases hp
     exact z3 (by simp only[bU];cbv) (by simp only[dF]) (h.ok p L hL) hk
    ·rw[SX (U8 e)] at hp;exact h.ok p L' hp
   ·obtain z | rfl:=mem_set hL'
    ·exact h.dp L' z
    ·rw[Kk];exact h.dp L mL
   ·obtain z | rfl:=mem_set hL'
    ·exact h.hd L' z
    ·exact Ka (h.hd L mL)
   ·obtain z | rfl:=mem_set hL'
    ·have:=h.rw L' z;cbv
    ·rw[BR];have:=h.rw L mL;cbv
   ·rw[Ux];have:=sum_set (l:=y.1.map Yk) (n:=n) (a:=Yk L) (b:=Yk (cz k (.call ((i+1:Nat):Int)) L)) (by rw[Sw,hL];rfl);rw[BR] at this ⊢;cbv
   ·let sets:∀{L':`N},L'∈y.1->∃L2∈y.1.set n (cz k (.call ((i+1:Nat):Int)) L),∀t∈L',t∈L2:=λ{L'} hL'=>by
     let⟨q,hq⟩:=SO.mp hL';by_cases e:q=n
     ·subst e;rw[hL] at hq;cases hq
      exact⟨_,SD (SG hn),λt ht=>Hu ht⟩
     ·exact⟨L',SD ((SX (U8 e)).trans hq),λt ht=>ht⟩
    by_cases e:j=i+1
    ·subst e;exact⟨_,SD (SG hn),Gb⟩
    ·let⟨L',hL',hj⟩:=hc j h1 `a;let⟨L2,m2,s2⟩:=sets hL';exact⟨L2,m2,s2 _ hj⟩
structure cv (xs:RU)(Ls:`A):Prop where
 l:xs.length=Ls.length
 l1:1<=Ls.length
 l4:Ls.length<=4
 nm:∀x∈xs,cD x
 nd:xs.Nodup
 ok:∀(p:Nat)(L:`N),Ls[p]?∣L->bK (p:Int) (Ls.length:Int) false L
 dp:∀L∈Ls,dc L<=4
 hd:∀L∈Ls,gH L
 rw:∀L∈Ls,Yk L<=14
 tot:(Ls.map Yk).sum<=30
 cl:∀j:Nat,1<=j->j<Ls.length->∃L∈Ls,Th.call (j:Int)∈L
theorem JC (ns:RS)(s:Int):cv (YU ns s) (Y4 ns s):=by
 let⟨m1,m4⟩:=Ao ns s;unfold YU Y4;generalize YN ns s=m at m1 m4;let⟨b6,b14⟩:=Dx m1 m4;let⟨h,hs⟩:=DD ns m (s+1+m) `a m.toNat;let hl:=nA ns m (s+1+m) m.toNat;generalize Yg ns m (s+1+m) m.toNat=x at h hs hl;let⟨o,oll,os,oc⟩:=Dt ns x m _ h `a (m-1).toNat `a;let bm:(dA m).toNat+(m-1).toNat<=14/\m.toNat*(dA m).toNat+(m-1).toNat<=30:=by
  have:∀j:Fin 4,(dA ((j.val:Int)+1)).toNat+j.val<=14/\(j.val+1)*(dA ((j.val:Int)+1)).toNat+j.val<=30:=`b
  have:=this ⟨(m-1).toNat,`a⟩;dsimp only at this;rw[show(((m-1).toNat:Nat):Int)+1=m by cbv,show(m-1).toNat+1=m.toNat by cbv] at this;exact this
 generalize YA ns x (m-1).toNat=y at o oll os oc;let em:((y.1.length:Nat):Int)=m:=`a
 exact⟨by rw[jy];cbv,`a,`a,wL ns s _,ym ns s _ `a,by rw[em];exact o.ok,o.dp,o.hd,λL hL=>UK (o.rw L hL) bm.1,`a,λj h1 h2=>oc j h1 `a⟩
end
abbrev S1 (x:Str):RU:=[x]
abbrev S2 (x y:Str):RU:=[x,y]
mutual
noncomputable def c5 (X0:RU):Th->RU
 | .Yq x=>S2 "do" x
 | .call j=>S2 "call" (X0.getD j.toNat "")
 | .ifs x a b=>S2 "if" x++Yf X0 a++S1 "else"++(Yf X0 b++S1 "end")
 | .X9 x a=>S2 "while" x++Yf X0 a++S1 "end"
 | .leave=>S1 "leave"
 | .back=>S1 "back"
noncomputable def Yf (X0:RU):List Th->RU
 | []=>[]
 | t::ts=>c5 X0 t++Yf X0 ts
end
theorem Ap (X0:RU):∀a b:List Th,Yf X0 (a++b)=Yf X0 a++Yf X0 b
 | [],b=>by rw[Yf];rfl
 | t::a,b=>by rw[Tz,Yf,Yf,Ap X0 a b,SR]
theorem HH (X0:RU)(t:Th):Yf X0 [t]=c5 X0 t:=by rw[Yf,Yf,S3]
mutual
theorem Ij {X0:RU}{lo m:Int}:∀(t:Th)(lp:Bool),bU lo m lp t->(c5 X0 t).length<=4*Yp t+(if Yp t=0 then 1 else 0)
 | .Yq x,_,_=>by simp[c5,Yp]
 | .call j,_,_=>by simp[c5,Yp]
 | .ifs x a b,lp,h=>by
   simp only[bU] at h;let h1:=fK (X0:=X0) a lp h.2.1;let h2:=fK (X0:=X0) b lp h.2.2;simp[c5,Yp];cbv
 | .X9 x a,lp,h=>by
   simp only[bU] at h;let h1:=fK (X0:=X0) a true h.2;simp[c5,Yp];cbv
 | .leave,_,_=>by simp[c5,Yp]
 | .back,_,_=>by simp[c5,Yp]
theorem fK {X0:RU}{lo m:Int}:∀(ts:`N)(lp:Bool),bK lo m lp ts->(Yf X0 ts).length<=4*Yk ts+1
 | [],_,_=>by simp[Yf]
 | t::ts,lp,h=>by
   simp only[bK] at h;let h1:=Ij (X0:=X0) t lp h.1;let h2:=fK (X0:=X0) ts lp h.2.2;rw[Yf,Yk,Sx];by_cases e:Yp t=0
   ·rw[e,XU rfl] at h1;let hp:dF t=false:=by cases t<;>simp[Yp] at e<;>simp[dF]
    have:ts=[]:=h.2.1.resolve_left (by rw[hp];decide);subst this;simp[Yf,Yk];cbv
   ·rw[XT e] at h1;cbv
end
theorem uO {lo m:Int}{lp:Bool}{t:Th}:∀{ts:`N},bK lo m lp ts->t∈ts->bU lo m lp t
 | s::ts,h,hm=>by
   simp only[bK] at h;obtain rfl | hm:=SF.mp hm
   ·exact h.1
   ·exact uO h.2.2 hm
theorem xl {t:Th}:∀{ts:`N},t∈ts->Yp t<=Yk ts
 | s::ts,h=>by
   rw[Yk];obtain rfl | h:=SF.mp h
   ·cbv
   ·have:=xl h;cbv
theorem xj {lo m:Int}{lp:Bool}:∀{ts:`N}(i:Nat),bK lo m lp ts->bK lo m lp `ar
 | [],i,h=>by rw[take_nil];exact h
 | t::ts,0,h=>by simp only[TZ,bK]
 | t::ts,i+1,h=>by
   simp only[bK] at h;rw[Tj,bK];exact⟨h.1,h.2.1.imp id λe=>by rw[e,take_nil],xj i h.2.2⟩
theorem Ih (ts:`N)(i:Nat):Yk `ar<=Yk ts:=by
 have:=ju `ar (ts.drop i);rw[TL] at this;cbv
variable {Γ1:Ga}{j:Nat}
theorem wU {a:Expr}{i:Int}(h:EV X a Z au (fI t) Γ1)(hx:cE (dC t) i∣.str x):EV X (.Subscript a (.Constant (.int i) j p1) pos) Z ak x Γ1:=EV.sP (a9 (EV.lP (by rw[dg] at h;exact h)) ac hx)
theorem MF {a:Expr}{i:Int}{x:Int}(h:EV X a Z au (fI t) Γ1)(hx:cE (dC t) i∣.int x):EV X (.Subscript a (.Constant (.int i) j p1) pos) Z ah x Γ1:=EV.iP (a9 (EV.lP (by rw[dg] at h;exact h)) ac hx)
variable {Ls:`A}{z:`bd}{ws:RU}
abbrev Mm:Stmt:=top vF
abbrev nWD:RU:=["_law_items","_law_names_here","_law_words_here","_law_one"]
theorem EM:bD nWD ["_law_items","_law_names_here"] (ao Mm):=Zf
def QE (n:Nat):c9:=λK ps T=>∃(ts:`N)(X0:RU)(lo m:Int)(lp:Bool),ps=[⟨ae au,ba ts⟩,⟨ae ak,X0⟩]/\dc ts<n/\bK lo m lp ts/\0<=lo/\m<=(X0.length:Int)/\Yk ts<=100/\T=cq K (ae ak) (· =Yf X0 ts)
theorem l1 (x:Str):([x]:RU).length<=Vn:=by show 1<=Vn;decide
theorem l2 (x y:Str):([x,y]:RU).length<=Vn:=by show 2<=Vn;decide
theorem Oq (F:dw K "_law_words" "_law_words" Mm f fd)(hm:mg "_law_words"∣.ref f)(hb:be K fd ["_law_items","_law_names_here"] []):∀n:Nat,aD P w K mg base "_law_words" (n+1) (aP (QE n) K):=by
 intro n;let nd:=EM.nd
 induction n with
 | zero=>
   refine ij F EM hm hb (λqs T ⟨_,_,_,_,_,e,_⟩=>by rw[e];rfl) `ag;let⟨ts,_,_,_,_,_,h,_⟩:=hS;exact XS h (U4 _)
 | succ n ih=>
   refine ij F EM hm hb (λqs T ⟨_,_,_,_,_,e,_⟩=>by rw[e];rfl) `ag;let⟨ts,X0,lo,m,lp,rfl,hd,X8,lo0,hml,hrw,rfl⟩:=hS;refine ai (cF 2 (r:=ak) (ys:=[]) `aE ?_);refine bG (N1:=λZ=>∃e3,Z=[.im (ae au) (ba ts),.im (ae ak) X0,.mu ak (Yf X0 ts),e3]) (bO (r:=au) (λi Z=>∃e3,Z=[.im (ae au) (ba ts),.im (ae ak) X0,.mu ak (Yf X0 `ar),e3]) (bM `e) (aU 3) ⟨_,rfl⟩ (λi x Z hx hΓ=>?_) `R) ?_
   ·let⟨e3,rfl⟩:=hΓ;rw[eP,Sw] at hx;let⟨t,ht,rfl⟩:=U9.mp hx;let tm:=SD ht;let tok:=uO X8 tm;let tdp:=nC tm;let trw:=xl tm;let wl:=fK (X0:=X0) `ar lp (xj i X8);let wr:=Ih ts i;let Y8:Yf X0 (ts.take (i+1))=Yf X0 `ar++c5 X0 t:=by rw[S9,ht,Ap];rw[show(some t).toList=[t] from rfl,HH]
    rw[Y8];generalize Yf X0 `ar=ws at wl;let wz:ws.length<=401:=`a
    refine aj (aZ (ay bS (gW `q) aA) (λh=>?_) (λh1=>?_))
    ·let h:dt t="do":=XW h;cases t with
     | Yq x=>
       refine WS.freeze 2 rfl (aM `a) ?_;refine aj (cF 2 (ys:=ws++S2 "do" x) `bC ⟨.im au (fI (.Yq x)),?_⟩);rw[c5];rfl
     | _=>exact XS h (by simp only[dt];decide)
    let h1:¬dt t="do":=XX h1;refine aj (aZ (ay bS (gW `q) aA) (λh=>?_) (λh2=>?_))
    ·let h:dt t="call":=XW h;cases t with
     | call j=>
       simp only[bU] at tok;refine WS.freeze 2 rfl (aM `a) ?_;refine aj (cF 2 (ys:=ws++S2 "call" (X0.getD j.toNat "")) (cT `s (bc.im (aQ (r:=ak) (aq aA (aq (a9 `g (MF `q rfl) (bb (xs:=X0) (i:=j) "" `a `a)) aN)) (l2 _ _))) `av) ⟨.im au (fI (.call j)),?_⟩);rw[c5];rfl
     | _=>exact XS h (by simp only[dt];decide)
    let h2:¬dt t="call":=XX h2;refine aj (aZ (ay bS (gW `q) aA) (λh=>?_) (λh3=>?_))
    ·let h:dt t="if":=XW h;cases t with
     | ifs x a b=>
       simp only[bU] at tok;rw[eM] at tdp;rw[Yp] at trw;let la:=fK (X0:=X0) a lp tok.2.1;let lb:=fK (X0:=X0) b lp tok.2.2;refine WS.freeze 2 rfl (aM `a) ?_;refine ai (cF 2 (ys:=ws++S2 "if" x++Yf X0 a++S1 "else") (cT (bc.im (cT (bc.im `bC) (aB ih hr (ag (jV `q rfl) (ag `g ax)) ⟨a,X0,lo,m,lp,rfl,`a,tok.2.1,lo0,hml,`a,rfl⟩) `av)) (bc.im (aQ (r:=ak) (aq aA aN) (l1 _))) `av) ?_);refine WS.freeze 2 rfl `av ?_;refine aj (cF 2 (ys:=ws++S2 "if" x++Yf X0 a++S1 "else"++Yf X0 b++S1 "end") (cT (bc.im (cT `s (aB ih hr (ag (jV `q rfl) (ag `g ax)) ⟨b,X0,lo,m,lp,rfl,`a,tok.2.2,lo0,hml,`a,rfl⟩) `av)) (bc.im (aQ (r:=ak) (aq aA aN) (l1 _))) `av) ⟨.im au (fI (.ifs x a b)),?_⟩);rw[c5];simp only[SR];rfl
     | _=>exact XS h (by simp only[dt];decide)
    let h3:¬dt t="if":=XX h3;refine aj (aZ (ay bS (gW `q) aA) (λh=>?_) (λh4=>?_))
    ·let h:dt t="while":=XW h;cases t with
     | X9 x a=>
       simp only[bU] at tok;rw[eM] at tdp;rw[Yp] at trw;let la:=fK (X0:=X0) a true tok.2;refine WS.freeze 2 rfl (aM `a) ?_;refine aj (cF 2 (ys:=ws++S2 "while" x++Yf X0 a++S1 "end") (cT (bc.im (cT (bc.im `bC) (aB ih hr (ag (jV `q rfl) (ag `g ax)) ⟨a,X0,lo,m,true,rfl,`a,tok.2,lo0,hml,`a,rfl⟩) `av)) (bc.im (aQ (r:=ak) (aq aA aN) (l1 _))) `av) ⟨.im au (fI (.X9 x a)),?_⟩);rw[c5];simp only[SR];rfl
     | _=>exact XS h (by simp only[dt];decide)
    let h4:¬dt t="while":=XX h4;let ew:c5 X0 t=[dt t]:=by
     cases t with
     | Yq x=>exact XS rfl h1
     | call x=>exact XS rfl h2
     | ifs x a b=>exact XS rfl h3
     | X9 x a=>exact XS rfl h4
     | leave=>rw[c5];rfl
     | back=>rw[c5];rfl
    rw[ew];exact aj (eU 2 (gW `q) rfl rfl (UM wz `c) ⟨.im au (fI t),rfl⟩)
   ·let⟨e3,rfl⟩:=hΓ;rw[iK,Td];exact⟨e3,rfl⟩
   rintro _ ⟨e3,rfl⟩;let wl:=fK (X0:=X0) ts lp X8;refine WS.freeze 2 rfl (aM `a) ?_;exact aj (aY `s rfl)
def gw (X0:RU)(z:`bd):RU:=S2 "part" (z.1)++Yf X0 z.2++S1 "end"
noncomputable def gO (X0:RU)(Ls:`A):RU:=(X0.zip Ls).flatMap (gw X0)
abbrev Qo:Stmt:=top ya
abbrev nTX:RU:=["_law_names_here","_law_lists","_law_words_here","_law_name_here","_law_items"]
noncomputable def Qh:c9:=λK ps T=>∃(X0:RU)(Ls:`A),ps=[⟨ae ak,X0⟩,⟨ae (ae au),Ls.map ba⟩]/\cv X0 Ls/\T=cq K ak (· =Xj " " (gO X0 Ls))
structure gY (w:Str):Prop where
 l:w.length<=8
 f:32∉w.cps.toList
theorem cD.wo (h:cD x):gY x:=⟨h.l8,λz=>by have:=(h.az _ z).1;cbv⟩
theorem gg {w:Str}(h:(decide (w.length<=8)&&decide (32∉w.cps.toList))=true):gY w:=by
 rw[Sa] at h;exact⟨XW h.1,XW h.2⟩
theorem IB (h:∀x∈X0,cD x)(i:Nat):gY (X0.getD i ""):=by
 rw[Sr];cases e:X0[i]? with
 | none=>exact gg `b
 | some x=>exact(h x (SD e)).wo
theorem pB (hx:gY x)(hy:gY y):∀w∈S2 x y,gY w:=λw hw=>by
 obtain rfl | hw:=SF.mp hw
 ·exact hx
 ·rw[Su.mp hw];exact hy
theorem nq (hx:gY x):∀w∈S1 x,gY w:=λw hw=>by rw[Su.mp hw];exact hx
theorem gx {a b:RU}(ha:∀w∈a,gY w)(hb:∀w∈b,gY w):∀w∈a++b,gY w:=λw hw=>(SK.mp hw).elim (ha w) (hb w)
mutual
theorem MW {X0:RU}{lo m:Int}(hn:∀x∈X0,cD x):∀(t:Th)(lp:Bool),bU lo m lp t->∀w∈c5 X0 t,gY w
 | .Yq x,_,h=>by
   simp only[bU] at h;rw[c5];exact pB (gg `b) h.wo
 | .call j,_,_=>by rw[c5];exact pB (gg `b) (IB hn _)
 | .ifs x a b,lp,h=>by
   simp only[bU] at h;rw[c5];exact gx (gx (gx (pB (gg `b) h.1.wo) (oO hn a lp h.2.1)) (nq (gg `b))) (gx (oO hn b lp h.2.2) (nq (gg `b)))
 | .X9 x a,lp,h=>by
   simp only[bU] at h;rw[c5];exact gx (gx (pB (gg `b) h.1.wo) (oO hn a true h.2)) (nq (gg `b))
 | .leave,_,_=>by rw[c5];exact nq (gg `b)
 | .back,_,_=>by rw[c5];exact nq (gg `b)
theorem oO {X0:RU}{lo m:Int}(hn:∀x∈X0,cD x):∀(ts:`N)(lp:Bool),bK lo m lp ts->∀w∈Yf X0 ts,gY w
 | [],_,_=>by rw[Yf];intro w h;cases h
 | t::ts,lp,h=>by
   simp only[bK] at h;rw[Yf];exact gx (MW hn t lp h.1) (oO hn ts lp h.2.2)
end
theorem kY (h:(X0.zip Ls)[i]?∣z):X0[i]?∣z.1/\Ls[i]?∣z.2:=by
 rw[List.getElem?_zip_eq_some] at h;exact h
theorem NN (h:`aJ)(hz:z∈X0.zip Ls):(gw X0 z).length<=60/\∀w∈gw X0 z,gY w:=by
 let⟨i,hi⟩:=SO.mp hz;let⟨h1,h2⟩:=kY hi;let hk:=h.ok i z.2 h2;let hl:=fK (X0:=X0) z.2 false hk;let hr:=h.rw z.2 (SD h2);unfold gw;refine⟨by simp;cbv,gx (gx (pB (gg `b) (h.nm z.1 (SD h1)).wo) (oO h.nm z.2 false hk)) (nq (gg `b))⟩
theorem zF {X0:RU}:∀{zs:`aV},(∀z∈zs,(gw X0 z).length<=60/\∀w∈gw X0 z,gY w)->(zs.flatMap (gw X0)).length<=60*zs.length/\∀w∈zs.flatMap (gw X0),gY w
 | [],_=>⟨UL _,λw h=>by cases h⟩
 | z::zs,h=>by
   let⟨a,b⟩:=zF (zs:=zs) λy hy=>h y (Sv _ hy);let⟨c,d⟩:=h z Sz;rw[TB];exact⟨by rw[Sx,SE];cbv,gx d b⟩
theorem Al (h:`aJ)(i:Nat):(((X0.zip Ls).take i).flatMap (gw X0)).length<=240/\∀w∈((X0.zip Ls).take i).flatMap (gw X0),gY w:=by
 let⟨a,b⟩:=zF (X0:=X0) (zs:=(X0.zip Ls).take i) λz hz=>NN h (Ui hz);refine⟨?_,b⟩;have:=h.l;have:=h.l4;rw[SW,T6] at a;cbv
theorem xb (h:`aJ):(gO X0 Ls).length<=240/\∀w∈gO X0 Ls,gY w:=by
 have:=Al h (X0.zip Ls).length;rw[Td] at this;exact this
theorem z7 (hl:ws.length<=240)(h:∀w∈ws,gY w):JoinOk " " ws=true:=by
 unfold JoinOk;rw[StrLaws.joinFits (B:=8) (λy hy=>(h y hy).l) (by rw[show(" ":Str).length=1 by decide +kernel];cbv)];rfl
theorem Nv (M:`aY)(CW:aD P w K mg base "_law_words" 6 (aP (QE 5) K))(Df:Def K mg "_law_text" Qo ["_law_names_here","_law_lists"]):aD P w K mg base "_law_text" 7 (aP Qh K):=by
 refine bP (N:=nTX) (k:=6) Df `n;let⟨X0,Ls,rfl,hP,rfl⟩:=hS;refine ai (bo 2 (y:=([]:RU)) (bc.im (aQ (r:=ak) aN (UL _))) ?_);refine bG (N1:=λZ=>∃e3 e4,Z=[.im (ae ak) X0,.im (ae (ae au)) (Ls.map ba),.im (ae ak) (gO X0 Ls),e3,e4]) (bO (λi Z=>∃e3 e4,Z=[.im (ae ak) X0,.im (ae (ae au)) (Ls.map ba),.im (ae ak) (((X0.zip Ls).take i).flatMap (gw X0)),e3,e4]) (Br M.zip `e `g) (eQ 3 4) ⟨_,_,rfl⟩ (λi x Z hx hΓ=>?_) `R) ?_
 ·let⟨e3,e4,rfl⟩:=hΓ;rw[List.zip_map_right,Sw] at hx;let⟨z,hz,rfl⟩:=U9.mp hx;let⟨h1,h2⟩:=kY hz;let⟨tl,_⟩:=Al hP i;let hk:=hP.ok i z.2 h2;let hl:=fK (X0:=X0) z.2 false hk;let hrw:=hP.rw z.2 (SD h2);let hdp:=hP.dp z.2 (SD h2);let hll:=hP.l;let Y8:((X0.zip Ls).take (i+1)).flatMap (gw X0)=((X0.zip Ls).take i).flatMap (gw X0)++gw X0 z:=by
   rw[S9,hz,T4];simp
  rw[Y8];generalize ((X0.zip Ls).take i).flatMap (gw X0)=ws at tl;refine aj (bo 2 (y:=ws++S2 "part" z.1++Yf X0 z.2++S1 "end") (bc.im (cT (bc.im (cT (bc.im (cT `s (bc.im (aQ (r:=ak) (aq aA (aq `q aN)) (l2 _ _))) `av)) (aB CW hr (ag `af `bb) ⟨z.2,X0,(i:Int),(Ls.length:Int),false,rfl,`a,hk,`a,`a,`a,rfl⟩) `av)) (bc.im (aQ (r:=ak) (aq aA aN) (l1 _))) `av)) ⟨.im ak z.1,.im (ae au) (ba z.2),?_⟩);unfold gw;simp only[SR];rfl
 ·let⟨e3,e4,rfl⟩:=hΓ;refine⟨e3,e4,?_⟩;rw[List.zip_map_right,Ss,Td];rfl
 rintro _ ⟨e3,e4,rfl⟩;let⟨pl,po⟩:=xb hP;exact aj (aY (Iv aA `s (z7 pl po)) (y6 _ _))
structure aI where
 kind:Str
 name:Str
 word:Int
 within:Int
abbrev dy:aI:=⟨"","",0,0⟩
abbrev named:RU:=["part","do","call","if","while"]
abbrev Ys:RU:=["do","call","if","while","leave","back"]
abbrev YB:RU:=["part","if","else","while"]
abbrev X7:RU:=["else","end"]
structure fW where
 S:List aI
 O:RS
 w:Nat
def aT (S:`M)(o:Int):Str:=(S.getD o.toNat dy).kind
noncomputable def gD (k:Str)(ks:RU):Bool:=
 if ks.isEmpty then decide (k="part")
 else if k="leave" then decide (("while":Str)∈ks)
 else if k="else" then decide (ks.getLast?.getD ""="if")
 else if k="end" then !decide (ks.getLast?.getD ""="if")
 else decide (k∈Ys)
abbrev yT (ws:RU)(x:fW):Str:=ws.getD x.w ""
def rB (k:Str)(n:Str)(x:fW):aI:=⟨k,n,(x.w:Int),x.O.getLast?.getD (-1)⟩
noncomputable def Zo (k n:Str)(x:fW):fW:=
 ⟨x.S++[rB k (if k∈named then n else "") x],(if k∈X7 then x.O.dropLast else x.O)++(if k∈YB then[(x.S.length:Int)] else[]),x.w+(if k∈named then 2 else 1)⟩
def kg (ws:RU)(x:fW):fW:=Zo (yT ws x) (ws.getD (x.w+1) "") x
structure J0 (ws:RU)(x:fW):Prop where
 w:x.w<ws.length
 may:gD (yT ws x) (x.O.map (aT x.S))=true
 nm:yT ws x∈named->x.w+1<ws.length/\cD (ws.getD (x.w+1) "")
 o:∀o∈x.O,0<=o/\o<(x.S.length:Int)
theorem pN {α:Type}(f:α->α)(m:Nat)(x:α):∀n,Yv f (m+n) x=Yv f n (Yv f m x)
 | 0=>rfl
 | n+1=>by rw[← U5,Yv,Yv,pN f m x n]
def ib (ws:RU)(n:Nat)(x y:fW):Prop:=Yv (kg ws) n x=y/\∀i,i<n->J0 ws (Yv (kg ws) i x)
theorem ib.refl {x:fW}:ib ws 0 x x:=⟨rfl,λi h=>`a⟩
theorem ib.trans {m:Nat}{x y z:fW}(h:ib ws m x y)(h':ib ws n y z):ib ws (m+n) x z:=by
 refine⟨by rw[pN,h.1];exact h'.1,λi hi=>?_⟩;by_cases q:i<m
 ·exact h.2 i q
 ·let e:i=m+(i-m):=`a
  rw[e,pN,h.1];exact h'.2 (i-m) `a
theorem ib.cast {x y y':fW}(h:ib ws n x y)(e:y=y'):ib ws n x y':=e▸h
theorem ib.one {x y:fW}(h:J0 ws x)(e:kg ws x=y):ib ws 1 x y:=by
 refine⟨e,λi hi=>?_⟩;obtain rfl:i=0:=`a
 exact h
def tQ (ws:RU)(w:Nat)(vs:RU):Prop:=∀(i:Nat)(v:Str),vs[i]?∣v->ws[w+i]?∣v
theorem tQ.app {w:Nat}{a b:RU}(h:tQ ws w (a++b)):tQ ws w a/\tQ ws (w+a.length) b:=by
 refine⟨λi v hv=>h i v ?_,λi v hv=>?_⟩
 ·rw[S0 (Sn.mp hv).1];exact hv
 ·have:=h (a.length+i) v (by rw[SV `a,show a.length+i-a.length=i by cbv];exact hv);rw[show w+a.length+i=w+(a.length+i) by cbv];exact this
theorem tQ.d {w:Nat}{vs:RU}(h:tQ ws w vs){v:Str}(hv:vs[i]?∣v):ws.getD (w+i) ""=v/\w+i<ws.length:=by
 have:=h i v hv;exact⟨by rw[Sr,this];rfl,(Sn.mp this).1⟩
mutual
noncomputable def bB:Th->Nat
 | .ifs _ a b=>3+X4 a+X4 b
 | .X9 _ a=>2+X4 a
 | _=>1
noncomputable def X4:List Th->Nat
 | []=>0
 | t::ts=>bB t+X4 ts
end
mutual
noncomputable def spT (X0:RU)(a w u:Int):Th->List aI
 | .Yq x=>[⟨"do",x,w,u⟩]
 | .call j=>[⟨"call",X0.getD j.toNat "",w,u⟩]
 | .ifs x A B=>[⟨"if",x,w,u⟩]++cb X0 (a+1) (w+2) a A++([⟨"else","",w+2+(Yf X0 A).length,a⟩]++(cb X0 (a+2+X4 A) (w+3+(Yf X0 A).length) (a+1+X4 A) B++[⟨"end","",w+3+(Yf X0 A).length+(Yf X0 B).length,a+1+X4 A⟩]))
 | .X9 x A=>[⟨"while",x,w,u⟩]++(cb X0 (a+1) (w+2) a A++[⟨"end","",w+2+(Yf X0 A).length,a⟩])
 | .leave=>[⟨"leave","",w,u⟩]
 | .back=>[⟨"back","",w,u⟩]
noncomputable def cb (X0:RU)(a w u:Int):List Th->List aI
 | []=>[]
 | t::ts=>spT X0 a w u t++cb X0 (a+bB t) (w+(c5 X0 t).length) u ts
end
mutual
theorem kL {X0:RU}:∀(t:Th)(a w u:Int),(spT X0 a w u t).length=bB t
 | .Yq _,_,_,_=>by simp[spT,bB]
 | .call _,_,_,_=>by simp[spT,bB]
 | .ifs x A B,a,w,u=>by
   simp only[spT,bB,Sx,cu A,cu B,SE,S4];cbv
 | .X9 x A,a,w,u=>by
   simp only[spT,bB,Sx,cu A,SE,S4];cbv
 | .leave,_,_,_=>by simp[spT,bB]
 | .back,_,_,_=>by simp[spT,bB]
theorem cu {X0:RU}:∀(ts:`N)(a w u:Int),(cb X0 a w u ts).length=X4 ts
 | [],_,_,_=>by simp[cb,X4]
 | t::ts,a,w,u=>by rw[cb,X4,Sx,kL t,cu ts]
end
variable {s:aI}{O:RS}{S:`M}{ks:RU}
section
variable {x:fW}{n:Str}{a:Int}{S':`M}{f:Int->Str}
structure Ctx (x:fW)(lp:Bool):Prop where
 ne:x.O≠[]
 o:∀o∈x.O,0<=o/\o<(x.S.length:Int)
 lp:lp=true->("while":Str)∈x.O.map (aT x.S)
theorem HS {o:Int}(h0:0<=o)(h1:o<(S.length:Int)):aT (S++S') o=aT S o:=by
 unfold aT;rw[Sr,Sr,S0 `a]
theorem Dd:aT (S++s::S') (S.length:Int)=s.kind:=by
 unfold aT;rw[Sr,show((S.length:Nat):Int).toNat=S.length by cbv];simp
theorem y8 (h:∀o∈O,0<=o/\o<(S.length:Int)):O.map (aT (S++S'))=O.map (aT S):=TK λo ho=>HS (h o ho).1 (h o ho).2
theorem Ctx.more (h:Ctx x lp)(S':`M)(w:Nat):Ctx ⟨x.S++S',x.O,w⟩ lp:=
 ⟨h.ne,λo ho=>⟨(h.o o ho).1,by have:=(h.o o ho).2;show o<((x.S++S').length:Int);rw[Sx];cbv⟩,λe=>by show _∈x.O.map (aT (x.S++S'));rw[y8 h.o];exact h.lp e⟩
theorem Ctx.inner {lp':Bool}(h:Ctx x lp)(s:aI)(w:Nat)(hl:lp'=true->lp=true∨s.kind="while"):Ctx ⟨x.S++[s],x.O++[(x.S.length:Int)],w⟩ lp':=by
 refine⟨`d,λo ho=>?_,λe=>?_⟩
 ·show _/\o<((x.S++[s]).length:Int);rw[Sx,S8];obtain z | z:=SK.mp ho
  ·have:=h.o o z;cbv
  ·rw[Su.mp z];cbv
 ·show _∈(x.O++[(x.S.length:Int)]).map (aT (x.S++[s]));rw[SN,y8 h.o];obtain z | z:=hl e
  ·exact SS _ (h.lp z)
  ·refine SH _ ?_;rw[UI,Dd,z];exact Su.mpr rfl
theorem kS {k:Str}(Yi:ks≠[])(h:k∈Ys)(hl:k≠"leave"):gD k ks=true:=by
 unfold gD;let e:ks.isEmpty=false:=by cases ks with
  | nil=>exact XS rfl Yi
  | cons _ _=>rfl
 let h1:k≠"else":=λz=>by rw[z] at h;revert h;decide +kernel
 let h2:k≠"end":=λz=>by rw[z] at h;revert h;decide +kernel
 rw[XT (by rw[e];decide),XT hl,XT h1,XT h2];exact XY h
theorem pd (h:O≠[]):O.map f≠[]:=λe=>h (List.map_eq_nil_iff.mp e)
theorem gM {k:Str}{vs:RU}{i:Nat}(hk:ws.getD x.w ""=k/\x.w<ws.length)(hn:k∈named->ws.getD (x.w+1) ""=n/\x.w+1<ws.length/\cD n)(hm:gD k (x.O.map (aT x.S))=true)(ho:∀o∈x.O,0<=o/\o<(x.S.length:Int)):ib ws 1 x (Zo k n x):=by
 let⟨e1,h1⟩:=hk;let e:yT ws x=k:=e1;refine ib.one ⟨h1,by rw[e];exact hm,λh=>?_,ho⟩ ?_
 ·rw[e] at h;let⟨e2,h2,h3⟩:=hn h;exact⟨h2,by rw[e2];exact h3⟩
 ·unfold kg;rw[e];by_cases h:k∈named
  ·rw[(hn h).1]
  ·unfold Zo;rw[XT h,XT h,XT h]
theorem yo:((O++[a]).map f).getLast?.getD ""=f a:=`d
theorem EF (h:f a="if"):gD "else" ((O++[a]).map f)=true:=by
 unfold gD;rw[XT `d,XT `b,XU rfl,yo,h];rfl
theorem ub (h:f a≠"if"):gD "end" ((O++[a]).map f)=true:=by
 unfold gD;rw[XT `d,XT `b,XT `b,XU rfl,yo,XZ h];rfl
theorem Cw (h:("while":Str)∈ks):gD "leave" ks=true:=by
 unfold gD;rw[XT (by cases ks with
  | nil=>cases h
  | cons _ _=>simp),XU rfl]
 exact XY h
abbrev uF (x:fW):Int:=x.O.getLast?.getD (-1)
theorem wZ {k:Str}(h1:k∈named)(h2:k∉X7)(h3:k∉YB):Zo k n x=⟨x.S++[⟨k,n,x.w,uF x⟩],x.O,x.w+2⟩:=by
 unfold Zo rB;rw[XU h1,XU h1,XT h2,XT h3,S3]
theorem Ag {k:Str}(h1:k∉named)(h2:k∉X7)(h3:k∉YB):Zo k n x=⟨x.S++[⟨k,"",x.w,uF x⟩],x.O,x.w+1⟩:=by
 unfold Zo rB;rw[XT h1,XT h1,XT h2,XT h3,S3]
theorem tX {k:Str}(h1:k∈named)(h2:k∉X7)(h3:k∈YB):Zo k n x=⟨x.S++[⟨k,n,x.w,uF x⟩],x.O++[(x.S.length:Int)],x.w+2⟩:=by
 unfold Zo rB;rw[XU h1,XU h1,XT h2,XU h3]
theorem IX {w:Nat}:Zo "else" n ⟨S,O++[a],w⟩=⟨S++[⟨"else","",w,a⟩],O++[(S.length:Int)],w+1⟩:=by
 unfold Zo rB;rw[XT (show¬("else":Str)∈named by decide +kernel),XT (show¬("else":Str)∈named by decide +kernel),XU (show("else":Str)∈X7 by decide +kernel),XU (show("else":Str)∈YB by decide +kernel)];simp
theorem pf {w:Nat}:Zo "end" n ⟨S,O++[a],w⟩=⟨S++[⟨"end","",w,a⟩],O,w+1⟩:=by
 unfold Zo rB;rw[XT (show¬("end":Str)∈named by decide +kernel),XT (show¬("end":Str)∈named by decide +kernel),XU (show("end":Str)∈X7 by decide +kernel),XT (show¬("end":Str)∈YB by decide +kernel)];simp
theorem rZ (h:∀o∈O,0<=o/\o<(S.length:Int))(S':`M):∀o∈O++[(S.length:Int)],0<=o/\o<(((S++[s])++S').length:Int):=λo ho=>by
 rw[Sx,Sx,S8];obtain z | z:=SK.mp ho
 ·have:=h o z;cbv
 ·rw[Su.mp z];cbv
theorem tD:aT ((S++[s])++S') (S.length:Int)=s.kind:=by rw[SR];exact Dd
mutual
theorem Q2 {ws X0:RU}{lo m:Int}(hn:∀x∈X0,cD x)(hm:m<=(X0.length:Int))(hlo:0<=lo):∀(t:Th)(lp:Bool)(x:fW),bU lo m lp t->tQ ws x.w (c5 X0 t)->Ctx x lp->
 ib ws (bB t) x ⟨x.S++spT X0 (x.S.length:Int) (x.w:Int) (uF x) t,x.O,x.w+(c5 X0 t).length⟩
 | .Yq y,lp,x,h,hw,hc=>by
   simp only[bU] at h;rw[c5] at hw;let e1:=hw.d (i:=0) rfl;let e2:=hw.d (i:=1) rfl;let s:=gM (n:=y) (vs:=[]) (i:=0) e1 (λ_=>⟨e2.1,e2.2,h⟩) (kS (pd hc.ne) `b `b) hc.o;rw[wZ `b `b `b] at s;simp only[bB,spT,c5];exact s
 | .call j,lp,x,h,hw,hc=>by
   simp only[bU] at h;rw[c5] at hw;let e1:=hw.d (i:=0) rfl;let e2:=hw.d (i:=1) rfl;let hj:cD (X0.getD j.toNat ""):=by
    let hl:j.toNat<X0.length:=`a
    rw[Sr,So hl];exact hn _ (S7 hl)
   let s:=gM (n:=X0.getD j.toNat "") (vs:=[]) (i:=0) e1 (λ_=>⟨e2.1,e2.2,hj⟩) (kS (pd hc.ne) `b `b) hc.o;rw[wZ `b `b `b] at s;simp only[bB,spT,c5];exact s
 | .leave,lp,x,h,hw,hc=>by
   simp only[bU] at h;rw[c5] at hw;let e1:=hw.d (i:=0) rfl;let s:=gM (n:="") (vs:=[]) (i:=0) e1 (λz=>XS z `b) (Cw (hc.lp h)) hc.o;rw[Ag `b `b `b] at s;simp only[bB,spT,c5];exact s
 | .back,lp,x,h,hw,hc=>by
   rw[c5] at hw;let e1:=hw.d (i:=0) rfl;let s:=gM (n:="") (vs:=[]) (i:=0) e1 (λz=>XS z `b) (kS (pd hc.ne) `b `b) hc.o;rw[Ag `b `b `b] at s;simp only[bB,spT,c5];exact s
 | .X9 y A,lp,x,h,hw,hc=>by
   simp only[bU] at h;rw[c5,SR] at hw;let⟨w1,w2⟩:=hw.app;let⟨w2,w3⟩:=w2.app;let e1:=w1.d (i:=0) rfl;let e2:=w1.d (i:=1) rfl;let s1:=gM (n:=y) (vs:=[]) (i:=0) e1 (λ_=>⟨e2.1,e2.2,h.1⟩) (kS (pd hc.ne) `b `b) hc.o;rw[tX `b `b `b] at s1;let s2:=v7 (lo:=lo) (m:=m) hn hm hlo A true ⟨x.S++[(⟨"while",y,x.w,uF x⟩:aI)],x.O++[(x.S.length:Int)],x.w+2⟩ h.2 w2 (hc.inner _ _ λ_=>.inr rfl);let hu:uF ⟨x.S++[(⟨"while",y,x.w,uF x⟩:aI)],x.O++[(x.S.length:Int)],x.w+2⟩=(x.S.length:Int):=by unfold uF;simp
   rw[hu] at s2;let e3:=w3.d (i:=0) rfl;let s3:=gM (ws:=ws) (x:=⟨x.S++[(⟨"while",y,x.w,uF x⟩:aI)]++cb X0 ((x.S++[(⟨"while",y,x.w,uF x⟩:aI)]).length:Int) ((x.w+2:Nat):Int) (x.S.length:Int) A,x.O++[(x.S.length:Int)],x.w+2+(Yf X0 A).length⟩) (n:="") (vs:=[]) (i:=0) e3 (λz=>XS z `b) (ub (by rw[tD];show("while":Str)≠"if";decide +kernel)) (rZ hc.o _);rw[pf] at s3;let s:=(s1.trans s2).trans s3;simp only[bB,spT,c5];rw[show 1+X4 A+1=2+X4 A by cbv] at s;refine s.cast ?_;simp only[Sx,SE,S4,SR];push_cast;simp only[fW.mk.injEq];refine⟨?_,trivial,?_⟩
   ·rw[show(x.w:Int)+1+1=(x.w:Int)+2 by cbv]
   ·cbv
 | .ifs y A B,lp,x,h,hw,hc=>by
   simp only[bU] at h;rw[c5,SR,SR] at hw;let⟨w1,w2⟩:=hw.app;let⟨w2,w3⟩:=w2.app;let⟨w3,w4⟩:=w3.app;let⟨w4,w5⟩:=w4.app;let e1:=w1.d (i:=0) rfl;let e2:=w1.d (i:=1) rfl;let s1:=gM (n:=y) (vs:=[]) (i:=0) e1 (λ_=>⟨e2.1,e2.2,h.1⟩) (kS (pd hc.ne) `b `b) hc.o;rw[tX `b `b `b] at s1;generalize hs0:(⟨"if",y,x.w,uF x⟩:aI)=s0 at s1;let k0:s0.kind="if":=by rw[← hs0]
   let s2:=v7 (lo:=lo) (m:=m) hn hm hlo A lp ⟨x.S++[s0],x.O++[(x.S.length:Int)],x.w+2⟩ h.2.1 w2 (hc.inner _ _ λz=>.inl z);let hu:uF ⟨x.S++[s0],x.O++[(x.S.length:Int)],x.w+2⟩=(x.S.length:Int):=by unfold uF;simp
   rw[hu] at s2;let e3:=w3.d (i:=0) rfl;generalize hSA:cb X0 ((x.S++[s0]).length:Int) ((x.w+2:Nat):Int) (x.S.length:Int) A=SA at s2;let lSA:SA.length=X4 A:=by rw[← hSA,cu]
   let s3:=gM (ws:=ws) (x:=(⟨x.S++[s0]++SA,x.O++[(x.S.length:Int)],x.w+2+(Yf X0 A).length⟩:fW)) (n:="") (vs:=[]) (i:=0) e3 (λz=>XS z `b) (EF (by rw[tD,k0])) (rZ hc.o _);rw[IX] at s3;let c3:=(hc.more (s0::SA) (x.w+2+(Yf X0 A).length)).inner (⟨"else","",((x.w+2+(Yf X0 A).length:Nat):Int),(x.S.length:Int)⟩:aI) (x.w+2+(Yf X0 A).length+1) (lp':=lp) λz=>.inl z;let el:x.S++s0::SA=x.S++[s0]++SA:=`d
   dsimp only at c3;rw[el] at c3;generalize hs1:(⟨"else","",((x.w+2+(Yf X0 A).length:Nat):Int),(x.S.length:Int)⟩:aI)=s1' at s3 c3;let k1:s1'.kind≠"if":=by rw[← hs1];show("else":Str)≠"if";decide +kernel
   let s4:=v7 (lo:=lo) (m:=m) hn hm hlo B lp _ h.2.2 w4 c3;let hu2:uF ⟨x.S++[s0]++SA++[s1'],x.O++[((x.S++[s0]++SA).length:Int)],x.w+2+(Yf X0 A).length+1⟩=((x.S++[s0]++SA).length:Int):=by unfold uF;simp
   rw[hu2] at s4;let e5:=w5.d (i:=0) rfl;dsimp only at s4;generalize hSB:cb X0 ((x.S++[s0]++SA++[s1']).length:Int) ((x.w+2+(Yf X0 A).length+1:Nat):Int) ((x.S++[s0]++SA).length:Int) B=SB at s4;let s5:=gM (ws:=ws) (x:=(⟨x.S++[s0]++SA++[s1']++SB,x.O++[((x.S++[s0]++SA).length:Int)],x.w+2+(Yf X0 A).length+1+(Yf X0 B).length⟩:fW)) (n:="") (vs:=[]) (i:=0) e5 (λz=>XS z `b) (ub (by rw[tD];exact k1)) (rZ (by
    intro o ho;have:=(hc.more (s0::SA) 0).o o ho;dsimp only at this;rw[el] at this;exact this) _)
   rw[pf] at s5;let s:=(((s1.trans s2).trans s3).trans s4).trans s5;simp only[bB,spT,c5];rw[show 1+X4 A+1+X4 B+1=3+X4 A+X4 B by cbv] at s;refine s.cast ?_;subst hs0 hs1;simp only[Sx,SE,S4,SR,lSA] at hSA hSB ⊢;rw[← hSA,← hSB];push_cast;simp only[fW.mk.injEq];refine⟨?_,trivial,?_⟩
   ·rw[show(x.w:Int)+1+1=(x.w:Int)+2 by cbv,show(x.w:Int)+2+((Yf X0 A).length:Int)+1=(x.w:Int)+3+((Yf X0 A).length:Int) by cbv,show(x.S.length:Int)+(1+((X4 A:Int)+1))=(x.S.length:Int)+2+(X4 A:Int) by cbv,show(x.S.length:Int)+(1+(X4 A:Int))=(x.S.length:Int)+1+(X4 A:Int) by cbv]
   ·cbv
theorem v7 {ws X0:RU}{lo m:Int}(hn:∀x∈X0,cD x)(hm:m<=(X0.length:Int))(hlo:0<=lo):∀(ts:`N)(lp:Bool)(x:fW),bK lo m lp ts->tQ ws x.w (Yf X0 ts)->Ctx x lp->
 ib ws (X4 ts) x ⟨x.S++cb X0 (x.S.length:Int) (x.w:Int) (uF x) ts,x.O,x.w+(Yf X0 ts).length⟩
 | [],lp,x,h,hw,hc=>by
   simp only[X4,cb,Yf];refine ib.refl.cast ?_;simp
 | t::ts,lp,x,h,hw,hc=>by
   simp only[bK] at h;rw[Yf] at hw;let⟨w1,w2⟩:=hw.app;let s1:=Q2 hn hm hlo t lp x h.1 w1 hc;let s2:=v7 hn hm hlo ts lp ⟨x.S++spT X0 (x.S.length:Int) (x.w:Int) (uF x) t,x.O,x.w+(c5 X0 t).length⟩ h.2.2 w2 (hc.more _ _);let s:=s1.trans s2;simp only[X4,cb,Yf];refine s.cast ?_;simp only[Sx,kL,SR];push_cast;simp only[fW.mk.injEq];refine⟨trivial,trivial,?_⟩;cbv
end
end
noncomputable def iR (X0:RU)(a w:Int):List (Str×List Th)->List aI
 | []=>[]
 | z::r=>[⟨"part",z.1,w, -1⟩]++(cb X0 (a+1) (w+2) a z.2++([⟨"end","",w+2+(Yf X0 z.2).length,a⟩]++iR X0 (a+2+X4 z.2) (w+3+(Yf X0 z.2).length) r))
noncomputable def dq:List (Str×List Th)->Nat
 | []=>0
 | z::r=>2+X4 z.2+dq r
theorem zU {X0:RU}:∀(zs:`aV)(a w:Int),(iR X0 a w zs).length=dq zs
 | [],_,_=>rfl
 | z::r,a,w=>by
   rw[iR,dq];simp only[Sx,cu,zU r,SE,S4];cbv
theorem Km {ws X0:RU}{m:Int}(hn:∀x∈X0,cD x)(hm:m<=(X0.length:Int)):∀(zs:`aV)(x:fW),(∀z∈zs,cD z.1/\∃lo,0<=lo/\bK lo m false z.2)->tQ ws x.w (zs.flatMap (gw X0))->x.O=[]->
 ib ws (dq zs) x ⟨x.S++iR X0 (x.S.length:Int) (x.w:Int) zs,[],x.w+(zs.flatMap (gw X0)).length⟩
 | [],x,h,hw,hc=>by
   refine ib.refl.cast ?_;simp[iR,← hc]
 | z::r,x,h,hw,hc=>by
   let⟨S,O,w⟩:=x;obtain rfl:O=[]:=hc;let⟨hz,lo,hlo,X8⟩:=h z Sz;rw[TB] at hw;let⟨hw,hwr⟩:=hw.app;rw[show gw X0 z=S2 "part" z.1++(Yf X0 z.2++S1 "end") by unfold gw;rw[SR]] at hw;let⟨w1,w2⟩:=hw.app;let⟨w2,w3⟩:=w2.app;dsimp only at w1 w2 w3 hwr ⊢;let e1:=w1.d (i:=0) rfl;let e2:=w1.d (i:=1) rfl;let s1:=gM (x:=(⟨S,[],w⟩:fW)) (n:=z.1) (vs:=[]) (i:=0) e1 (λ_=>⟨e2.1,e2.2,hz⟩) (show gD "part" []=true by decide +kernel) (λo ho=>by cases ho);rw[tX `b `b `b] at s1;dsimp only at s1;rw[show uF ⟨S,[],w⟩= -1 from rfl] at s1;generalize hs0:(⟨"part",z.1,(w:Int), -1⟩:aI)=s0 at s1;let k0:s0.kind="part":=by rw[← hs0]
   let c1:Ctx ⟨S++[s0],[]++[(S.length:Int)],w+2⟩ false:=⟨`d,λo ho=>by
    let e:o=(S.length:Int):= ~~~ho
    show _/\o<((S++[s0]).length:Int);rw[Sx,S8,e];cbv,λe=>by cases e⟩
   let s2:=v7 (lo:=lo) (m:=m) hn hm hlo z.2 false _ X8 w2 c1;rw[show uF ⟨S++[s0],[]++[(S.length:Int)],w+2⟩=(S.length:Int) from rfl] at s2;dsimp only at s2;generalize hSA:cb X0 ((S++[s0]).length:Int) ((w+2:Nat):Int) (S.length:Int) z.2=SA at s2;let lSA:SA.length=X4 z.2:=by rw[← hSA,cu]
   let e3:=w3.d (i:=0) rfl;let s3:=gM (ws:=ws) (x:=(⟨S++[s0]++SA,[]++[(S.length:Int)],w+2+(Yf X0 z.2).length⟩:fW)) (n:="") (vs:=[]) (i:=0) e3 (λz=>XS z `b) (ub (by rw[tD,k0];decide +kernel)) (rZ (λo ho=>by cases ho) _);rw[pf] at s3;let s4:=Km hn hm r ⟨S++[s0]++SA++[⟨"end","",((w+2+(Yf X0 z.2).length:Nat):Int),(S.length:Int)⟩],[],w+2+(Yf X0 z.2).length+1⟩ (λy hy=>h y (Sv _ hy)) (by
    let e:w+2+(Yf X0 z.2).length+1=w+(gw X0 z).length:=by unfold gw;simp only[Sx,SE,S4];cbv
    dsimp only;rw[e];exact hwr) rfl
   let s:=((s1.trans s2).trans s3).trans s4;rw[dq,show 2+X4 z.2+dq r=1+X4 z.2+1+dq r by cbv];refine s.cast ?_;subst hs0;dsimp only;rw[iR,TB];let lp:(gw X0 z).length=3+(Yf X0 z.2).length:=by unfold gw;simp only[Sx,SE,S4];cbv
   simp only[Sx,SE,S4,SR,lSA,lp] at hSA ⊢;rw[← hSA];push_cast;simp only[fW.mk.injEq];refine⟨?_,trivial,?_⟩
   ·rw[show(w:Int)+1+1=(w:Int)+2 by cbv,show(w:Int)+2+((Yf X0 z.2).length:Int)+1=(w:Int)+3+((Yf X0 z.2).length:Int) by cbv,show(S.length:Int)+(1+((X4 z.2:Int)+1))=(S.length:Int)+2+(X4 z.2:Int) by cbv]
   ·cbv
abbrev aw (X0:RU)(Ls:`A):List aI:=iR X0 0 0 (X0.zip Ls)
theorem uY (h:`aJ):ib (gO X0 Ls) (dq (X0.zip Ls)) ⟨[],[],0⟩ ⟨aw X0 Ls,[],(gO X0 Ls).length⟩:=by
 have:=Km (ws:=gO X0 Ls) (X0:=X0) (m:=(Ls.length:Int)) h.nm (by rw[h.l];cbv) (X0.zip Ls) ⟨[],[],0⟩ (λz hz=>by
  let⟨i,hi⟩:=SO.mp hz;let⟨h1,h2⟩:=kY hi;exact⟨h.nm z.1 (SD h1),(i:Int),`a,h.ok i z.2 h2⟩) (λi v hv=>by
   show(gO X0 Ls)[0+i]?∣v;rw[UR];exact hv) rfl
 refine this.cast ?_;simp[aw,gO]
structure lY (K:Xt)(mg:RQ):Prop where
 most:∃t,mg "MOST_LETTERS"∣.int 8 t
 nost:∃t,mg "NO_STEP"∣(.int (-1) t)
 named:uy K mg "NAMED" named
 Ys:uy K mg "SENTENCES" Ys
 YB:uy K mg "OPENING" YB
 X7:uy K mg "CLOSING" X7
abbrev i6:RU:=["kind","name","word","within"]
theorem jY (h:decide (x∈i6)=true):x∈i6:=XW h
def Pm (s:aI):lj:=[("kind",ak.at_ s.kind),("name",ak.at_ s.name),("word",ah.at_ s.word),("within",ah.at_ s.within)]
def bN (C:Addr):Rep aI:=⟨λK R v s=>∃x dx vs,v= .ref x/\R x∣.ins C dx vs/\g7 (Pm s) K R vs,λs ⟨x,dx,vs,e,h1,h2⟩=>⟨x,dx,vs,e,s _ _ h1,h2.mono s⟩⟩
variable {C:Addr}
theorem ig (hC:bL X.K C i6)(he:EV X e Z (bN C) s Γ1)(hb:fA X e "kind":=by rfl):EV X (.Attribute e "kind" pos) Z ak s.kind Γ1:=kF hC (jY `c) he (λK R v ⟨x,dx,vs,e,h1,h2⟩=>by let⟨u,q1,q2⟩:=h2.get (f:="kind") rfl;exact⟨x,dx,vs,u,e,h1,q1,q2⟩) hb
theorem tW (hC:bL X.K C i6)(he:EV X e Z (bN C) s Γ1)(hb:fA X e "name":=by rfl):EV X (.Attribute e "name" pos) Z ak s.name Γ1:=kF hC (jY `c) he (λK R v ⟨x,dx,vs,e,h1,h2⟩=>by let⟨u,q1,q2⟩:=h2.get (f:="name") rfl;exact⟨x,dx,vs,u,e,h1,q1,q2⟩) hb
theorem Oi (hC:bL X.K C i6)(he:EV X e Z (bN C) s Γ1)(hb:fA X e "word":=by rfl):EV X (.Attribute e "word" pos) Z ah s.word Γ1:=kF hC (jY `c) he (λK R v ⟨x,dx,vs,e,h1,h2⟩=>by let⟨u,q1,q2⟩:=h2.get (f:="word") rfl;exact⟨x,dx,vs,u,e,h1,q1,q2⟩) hb
theorem tG (hC:bL X.K C i6)(he:EV X e Z (bN C) s Γ1)(hb:fA X e "within":=by rfl):EV X (.Attribute e "within" pos) Z ah s.within Γ1:=kF hC (jY `c) he (λK R v ⟨x,dx,vs,e,h1,h2⟩=>by let⟨u,q1,q2⟩:=h2.get (f:="within") rfl;exact⟨x,dx,vs,u,e,h1,q1,q2⟩) hb
abbrev uX:Stmt:=match top IH with
 | .ClassDef _ _ _ b _ _ _ _ _ _ _=>b.getD 0 (.Pass ⟨0,0,0,0⟩)
 | s=>s
abbrev wR:RU:=["self","kind","name","word","within"]
theorem MB:bD wR wR (ao uX):=Zf
def Qi (C0:Addr):Cj:=λK C ps Pd=>C=C0/\∃s:aI,ps=[⟨ak,s.kind⟩,⟨ak,s.name⟩,⟨ah,s.word⟩,⟨ah,s.within⟩]/\Pd=λfs=>fs=Pm s
theorem Ou {C0:Addr}(HC:bL K C0 i6)(F:dw K "__init__" "Step.__init__" uX f fd):eZ P w K mg base d7 1 f fd wR (Aj (Qi C0) K):=by
 let nd:=MB.nd;refine DH F MB (λC qs Pd ⟨_,m,e,_⟩=>by rw[e];rfl) (λX6 A outer st H E C x dx qs Pd hr hS=>?_);let⟨rfl,s,rfl,rfl⟩:=hS;refine ai (iZ 0 HC (jY `c) `g rfl rfl (by show 0<1000;decide) ?_);refine ai (iZ 0 HC (jY `c) `s rfl rfl (by show 1<1000;decide) ?_);refine ai (iZ 0 HC (jY `c) `q rfl rfl (by show 2<1000;decide) ?_);exact aj (iZ 0 HC (jY `c) `af rfl rfl (by show 3<1000;decide) ⟨_,rfl,rfl⟩)
abbrev M7:Stmt:=top A3
def PX:c9:=λK ps T=>∃x:Str,ps=[⟨ak,x⟩]/\cD x/\T=cq K cU (· =true)
theorem LR (h:cD x)(hc:c∈fT x):∃n,c=⟨#[n]⟩/\97<=n/\n<=122:=by
 unfold fT at hc;let⟨i,hi,rfl⟩:=SU.mp hc;let hi:i<x.cps.size:= ~~~hi
 refine⟨x.cps.getD i 0,rfl,h.az _ ?_⟩;rw[Array.getD_eq_getD_getElem?];simp[hi]
theorem ON (h:97<=n/\n<=122):(!decide ((⟨#[n]⟩:Str).cps.toList<("a":Str).cps.toList))=true/\(!decide (("z":Str).cps.toList<(⟨#[n]⟩:Str).cps.toList))=true:=by
 let ea:("a":Str).cps.toList=[97]:=`b
 let ez:("z":Str).cps.toList=[122]:=`b
 rw[ea,ez];let e1:¬([n]:List Nat) < [97]:=by intro z;cases z with
  | rel h1=>cbv
  | cons h1=>cases h1
 let e2:¬([122]:List Nat) < [n]:=by intro z;cases z with
  | rel h1=>cbv
  | cons h1=>cases h1
 exact⟨by rw[show(⟨#[n]⟩:Str).cps.toList=[n] from rfl,XZ e1];rfl,by rw[show(⟨#[n]⟩:Str).cps.toList=[n] from rfl,XZ e2];rfl⟩
theorem Ox (M:`aY)(M2:lY K mg)(Df:Def K mg "is_name" M7 ["word"]):aD P w K mg base "is_name" 1 (aP PX K):=by
 let Zs:S6 [("sign":Str)]:=`c
 refine bP (N:=["word"]) Df `n;let⟨x,rfl,hx,rfl⟩:=hS;let⟨t,hmo⟩:=M2.most;let hl:x.cps.size<=Vn:=UK hx.l8 `c;let hasc:x.cps.all (· < 128)=true:=by
  rw[Array.all_eq_true];intro i hi;have:=hx.az x.cps[i] `d;exact XY `a
 let l1:=hx.l1;let l8:=hx.l8;refine aj (aY (oS (rT xY xY ac (Jr M.len `e hl) (fO hmo)) (λ_=>sW (tK M.all (bc.im (cI (own:=["sign"]) (fr:=[]) (ix:=[]) (ra:=ak) (rb:=cU) (p:=λ_=>true) (f:=λ_=>true) (bQ (so:=ao M7) (N0:=["word"]) rfl rfl `X `b) (xD `e hasc hl)
  `D `U (λC s H ex c hc=>eu) (λC s H ex c hc _=>?_)))))) ?_)
 ·let⟨n,rfl,hn⟩:=LR hx hc;let⟨q1,q2⟩:=ON hn;exact EV.cast (rT Hq Hq aA `e aA) (by rw[q1,q2];rfl)
 ·let e1:decide ((1:Int)<=(x.length:Int))=true:=XY `a;let e2:decide ((x.length:Int)<=8)=true:=XY `a;rw[e1,e2];simp
abbrev QG:Stmt:=top uj
def PQ:c9:=λK ps T=>∃(ws:RU)(i:Nat),ps=[⟨ae ak,ws⟩,⟨ah,(i:Int)⟩]/\i+1<ws.length/\cD (ws.getD (i+1) "")/\T=cq K ak (· =ws.getD (i+1) "")
theorem OC (M:`aY)(CI:aD P w K mg base "is_name" 1 (aP PX K))(Df:Def K mg "name_behind" QG ["words","word"]):aD P w K mg base "name_behind" 2 (aP PQ K):=by
 refine bP (N:=["words","word"]) Df `n;let⟨ws,i,rfl,hi,hn,rfl⟩:=hS;let YZ:cE ws ((i:Int)+1)∣(ws.getD (i+1) ""):=bb (xs:=ws) (i:=((i:Int)+1)) "" `a `a;refine ai (aZ (TW.tv (jd (ay iD (bZ `g ac) (eo M.len `e)) (λ_=>jk (gj (bV (aB CI hr (ag (a9 `e (bZ `g ac) YZ) ax) ⟨_,rfl,hn,rfl⟩)))))) (λh=>?_) `Q)
 ·rw[XZ (show¬(i:Int)+1=(ws.length:Int) by cbv)] at h;cases h
 ·exact aj (aY (a9 `e (bZ `g ac) YZ) rfl)
abbrev PZ:Stmt:=top x6
def PN:c9:=λK ps T=>∃(k:Str)(ks:RU),ps=[⟨ak,k⟩,⟨ae ak,ks⟩]/\T=cq K cU (· =gD k ks)
theorem zJ (h:ks≠[]):cE ks (-1)∣(ks.getLast?.getD ""):=by
 obtain⟨l,x,rfl⟩:∃l x,ks=l++[x]:=⟨ks.dropLast,ks.getLast h,(TJ h).symm⟩;unfold cE;rw[show gm (l++[x]).length (-1)∣l.length by unfold gm;simp;cbv];simp
theorem O5 (M2:lY K mg)(Df:Def K mg "may_stand" PZ ["kind","opened"]):aD P w K mg base "may_stand" 1 (aP PN K):=by
 refine bP (N:=["kind","opened"]) Df `n;let⟨k,ks,rfl,rfl⟩:=hS;refine ai (aZ (gj (xk `g)) (λh=>?_) `Q)
 ·let h:ks.isEmpty=true:= ~~~h
  exact aj (aY (ja bS `e aA) (by unfold gD;rw[XU h]))
 let h0:¬ks.isEmpty=true:= ~~~h
 let Yi:ks≠[]:=λz=>h0 (by rw[z];rfl);refine ai (aZ (ay bS `e aA) (λh=>?_) `Q)
 ·let h:k="leave":=XW h;exact aj (aY (ja sL aA `g) (by unfold gD;rw[XT h0,XU h]))
 let h1:¬k="leave":=XX h;refine ai (aZ (ay bS `e aA) (λh=>?_) `Q)
 ·let h:k="else":=XW h;exact aj (aY (ja bS (a9 `g (cj ac) (zJ Yi)) aA) (by unfold gD;rw[XT h0,XT h1,XU h]))
 let h2:¬k="else":=XX h;refine ai (aZ (ay bS `e aA) (λh=>?_) `Q)
 ·let h:k="end":=XW h;exact aj (aY (ja vS (a9 `g (cj ac) (zJ Yi)) aA) (by unfold gD;rw[XT h0,XT h1,XT h2,XU h]))
 let h3:¬k="end":=XX h;exact aj (aY (ja ma `e (iF M2.Ys)) (by unfold gD;rw[XT h0,XT h1,XT h2,XT h3]))
theorem wg (ws:RU):∀i,(Yv (kg ws) i ⟨[],[],0⟩).S.length=i/\i<=(Yv (kg ws) i ⟨[],[],0⟩).w/\(Yv (kg ws) i ⟨[],[],0⟩).O.length<=i
 | 0=>⟨rfl,UJ _,UJ _⟩
 | i+1=>by
   let⟨a,b,c⟩:=wg ws i;rw[Yv];generalize Yv (kg ws) i ⟨[],[],0⟩=x at a b c;unfold kg Zo;refine⟨by rw[Sx,a];rfl,?_,?_⟩
   ·dsimp only;split<;>cbv
   ·rw[Sx];let h1:(if yT ws x∈X7 then x.O.dropLast else x.O).length<=x.O.length:=by
     split
     ·rw[T8];cbv
     ·exact UJ _
    let h2:(if yT ws x∈YB then[(x.S.length:Int)] else[]).length<=1:=by split<;>simp
    cbv
theorem FY (h:O≠[]):cE O (-1)∣(O.getLast?.getD (-1)):=by
 obtain⟨l,x,rfl⟩:∃l x,O=l++[x]:=⟨O.dropLast,O.getLast h,(TJ h).symm⟩;unfold cE;rw[show gm (l++[x]).length (-1)∣l.length by unfold gm;simp;cbv];simp
theorem EI (h:O≠[]):O[O.length-1]?∣(O.getLast?.getD (-1)):=by
 obtain⟨l,x,rfl⟩:∃l x,O=l++[x]:=⟨O.dropLast,O.getLast h,(TJ h).symm⟩;simp
structure A4 (P:Vr)(w:World)(K:Xt)(mg:RQ)(base:Heap)(C:Addr):Prop where
 cl:bL K C i6
 ex:∃fi ZV,Mk K C fi/\eZ P w K mg base d7 1 fi ZV wR (Aj (Qi C) K)/\be K ZV wR []
 mg:mg "Step"∣.ref C
theorem Ik {p:Pos}(G:A4 X.prog X.w X.K X.mg X.base C)(hr:bH 2 X.A)(ha:HA X (e::es) Z [⟨ak,s.kind⟩,⟨ak,s.name⟩,⟨ah,s.word⟩,⟨ah,s.within⟩] Γ1)(hg:Gl X "Step":=by rfl)(he:dk X e es:=by rfl)(Yo:eV X pos es:=by rfl):EV X (.Call (.Name "Step" p) (e::es) [] pos) Z (bN C) s Γ1:=by
 let⟨fi,ZV,MK,SI,bi⟩:=G.ex;exact yX MK SI hr G.mg bi ha ⟨rfl,s,rfl,rfl⟩ (λfs R x dx vs hP h1 h2=>by subst hP;exact⟨x,dx,vs,rfl,h2,h1⟩) hg `c he Yo
abbrev Mz:Stmt:=top Jf
abbrev P1:RU:=["text","words","steps","opened","word","kind","name"]
def Pr (C:Addr):c9:=λK ps T=>∃(ws:RU)(n:Nat)(S:`M),ps=[⟨ak,Xj " " ws⟩]/\ws≠[]/\ws.length<=240/\(∀w∈ws,gY w)/\ib ws n ⟨[],[],0⟩ ⟨S,[],ws.length⟩/\T=cq K `bt (· =S)
theorem E8 (h:∀w∈ws,gY w)(hl:ws.length<=240):(Xj " " ws).length<=Vn:=by
 have:=joinOk_length (z7 hl h);rwa [y6] at this
theorem Oc (M:`aY)(M2:lY K mg)(G:A4 P w K mg base C)(CM:aD P w K mg base "may_stand" 1 (aP PN K))(CN:aD P w K mg base "name_behind" 2 (aP PQ K))(Df:Def K mg "read" Mz ["text"]):aD P w K mg base "read" 3 (aP (Pr C) K):=by
 let Zs:S6 [("number":Str),"steps"]:=`c
 let CM:=CM.mono (show 1<=2 by decide);refine bP (N:=P1) (k:=2) Df `n;let⟨ws,n,S,rfl,Yi,hl,hw,hsim,rfl⟩:=hS;let⟨t,hno⟩:=M2.nost;let ZJ:Xl (Xj " " ws) " "=ws:=by
  rw[ER];exact Ba Yi λw h=>(hw w h).f
 generalize hj:Xj " " ws=txt at ZJ;let htl:txt.length<=Vn:=by rw[← hj];exact E8 hw hl
 refine ai (bo 1 (y:=ws) (EV.cast (bc.im (Cq `e aA `b htl (by rw[ZJ];exact aM `a))) ZJ) ?_);refine ai (cF 2 (r:=bN C) (ys:=[]) `aE ?_);refine ai (cF 3 (r:=ah) (ys:=[]) `aE ?_);refine ai (bo 4 (y:=(0:Int)) ac ?_);let hinv:=wg ws;let YJ:∀i,Yv (kg ws) (i+1) ⟨[],[],0⟩=kg ws (Yv (kg ws) i ⟨[],[],0⟩):=λi=>rfl;let h0:Yv (kg ws) 0 ⟨[],[],0⟩=⟨[],[],0⟩:=rfl;let⟨Y5,hrd⟩:=hsim;generalize hx:(λi=>Yv (kg ws) i ⟨[],[],0⟩)=x at *;let hxi:∀i,Yv (kg ws) i ⟨[],[],0⟩=x i:=λi=>by rw[← hx]
 simp only[hxi] at hinv YJ h0 Y5 hrd;refine bG (N1:=λZ=>∃e5 e6,Z=[.im ak txt,.im (ae ak) ws,.mu (bN C) S,.mu ah [],aE (ws.length:Int),e5,e6]) (mR (λk Z=>∃i,k+i=n/\∃e5 e6,Z=[.im ak txt,.im (ae ak) ws,.mu (bN C) (x i).S,.mu ah (x i).O,aE ((x i).w:Int),e5,e6]) (m0:=n) ⟨0,rfl,_,_,by rw[h0];rfl⟩ (λk Z hI=>?_)) ?_
 ·let⟨i,hki,e5,e6,rfl⟩:=hI;let⟨iS,iw,iO⟩:=hinv i;refine⟨decide (((x i).w:Int)<(ws.length:Int)),_,ay nD `af (eo M.len `g),λh=>?_,λh=>?_⟩
  ·let h:((x i).w:Int)<(ws.length:Int):=XW h;let Zi:i<n:=by
    obtain z | z:=UP i n
    ·exact z
    ·exfalso;have:i=n:=`a
     rw[this,Y5] at h;exact XS h (Int.lt_irrefl _)
   let⟨rw_,ZL,rnm,ro⟩:=hrd i Zi;let hs:=YJ i;generalize x i=y at iS iw iO rw_ ZL rnm ro hs h;let⟨Sy,Oy,wy⟩:=y;dsimp only at iS iw iO rw_ ZL rnm ro h ⊢;let YZ:cE ws (wy:Int)∣(ws.getD wy ""):=bb (xs:=ws) (i:=(wy:Int)) "" `a h;refine ai (bo 5 (y:=ws.getD wy "") (a9 `g `af YZ) ?_);rw[show kg ws ⟨Sy,Oy,wy⟩=Zo (ws.getD wy "") (ws.getD (wy+1) "") ⟨Sy,Oy,wy⟩ from rfl] at hs;change gD (ws.getD wy "") (Oy.map (aT Sy))=true at ZL;change ws.getD wy ""∈named->wy+1<ws.length/\cD (ws.getD (wy+1) "") at rnm;generalize hkd:ws.getD wy ""=kd at ZL rnm hs;let cc:(Oy.filter λ_=>true).map (aT Sy)=Oy.map (aT Sy):=by rw[Ts.mpr λ_ _=>rfl]
   refine ai (aZ (TV.YY (HV (i:=2) (j:=3) `c rfl rfl (aM `a) (aM `a)) (gj (bV (aB CM hr (ag `Y (ag (bc.im (cI (own:=["number"]) (fr:=["steps"]) (ix:=[2]) (ra:=ah) (rb:=ak) (p:=λ_=>true) (f:=aT Sy) (bQ (so:=ao Mz) (N0:=P1) rfl rfl `X `b) (bM `q)
    `D `O (λC s H ex c hc=>eu) (λC' s H ex o ho _=>ig (C:=C) G.cl (a9 `g `e (bb (xs:=Sy) (i:=o) dy (ro o ho).1 (ro o ho).2))))) ax)) ⟨kd,Oy.map (aT Sy),by rw[cc],rfl⟩)))) (λhh=>?_) (λ_=>aH ?_))
   ·rw[ZL] at hh;cases hh
   let hnm:kd∈named->wy+1<ws.length/\cD (ws.getD (wy+1) ""):=rnm;refine ai (bo 6 (y:=if kd∈named then ws.getD (wy+1) "" else "") (EV.cast (lU (ay ma `Y (iF M2.named)) (λhh=>aB CN hr (ag `g (ag `af ax)) ⟨ws,wy,rfl,(hnm (XW hh)).1,(hnm (XW hh)).2,rfl⟩) (λ_=>aA)) (by by_cases z:kd∈named<;>simp[z])) ?_)
   generalize hnam:(if kd∈named then ws.getD (wy+1) "" else "")=nam;let hlast:(if(!Oy.isEmpty)=true then Oy.getLast?.getD (-1) else -1)=Oy.getLast?.getD (-1):=by cases Oy<;>rfl
   refine ai (eU 2 (y:=(⟨kd,nam,(wy:Int),Oy.getLast?.getD (-1)⟩:aI)) (Ik (s:=⟨kd,nam,(wy:Int),Oy.getLast?.getD (-1)⟩) G hr (ag `Y (ag `au (ag `af (ag (EV.cast (lU (mJ 3 rfl) (λhh=>oZ 3 (cj ac) rfl rfl (FY (λz=>by rw[z] at hh;cases hh))) (λ_=>fO hno)) hlast) ax))))) rfl rfl (UM (show _<=1000 by cbv) `c) ?_)
   change WS _ _ [.im ak txt,.im (ae ak) ws,.mu (bN C) (Sy++[⟨kd,nam,(wy:Int),Oy.getLast?.getD (-1)⟩]),.mu ah Oy,aE (wy:Int),.im ak kd,.im ak nam] _ _;let hS':(Zo kd (ws.getD (wy+1) "") ⟨Sy,Oy,wy⟩).S=Sy++[⟨kd,nam,(wy:Int),Oy.getLast?.getD (-1)⟩]:=by unfold Zo rB;dsimp only;rw[hnam]
   rw[← hS'];let hSl:(Zo kd (ws.getD (wy+1) "") ⟨Sy,Oy,wy⟩).S.length=Sy.length+1:=by rw[hS',Sx];rfl
   let hOe:(Zo kd (ws.getD (wy+1) "") ⟨Sy,Oy,wy⟩).O=(if kd∈X7 then Oy.dropLast else Oy)++(if kd∈YB then[(Sy.length:Int)] else[]):=rfl;let hwe:(Zo kd (ws.getD (wy+1) "") ⟨Sy,Oy,wy⟩).w=wy+(if kd∈named then 2 else 1):=rfl;generalize Zo kd (ws.getD (wy+1) "") ⟨Sy,Oy,wy⟩=z at hs hS' hSl hOe hwe;refine bG (N1:=λZ=>Z=[.im ak txt,.im (ae ak) ws,.mu (bN C) z.S,.mu ah (if kd∈X7 then Oy.dropLast else Oy),aE (wy:Int),.im ak kd,.im ak nam]) (aZ (ay ma `Y (iF M2.X7)) (λhh=>?_) (λhh=>aH ?_)) ?_
   ·let hh:kd∈X7:=XW hh;let hOne:Oy≠[]:=λe=>by
     rw[e] at ZL;have:kd="part":=XW ZL;rw[this] at hh;exact XS hh `b
    refine aj (pj (xI 3 rfl (EI hOne)) ?_);rw[XU hh];rfl
   ·let hh:¬kd∈X7:=XX hh;rw[XT hh]
   rintro _ rfl;let hOl:(if kd∈X7 then Oy.dropLast else Oy).length<=Oy.length:=by
    split
    ·rw[T8];cbv
    ·exact UJ _
   generalize (if kd∈X7 then Oy.dropLast else Oy)=O1 at hOe hOl;refine bG (N1:=λZ=>Z=[.im ak txt,.im (ae ak) ws,.mu (bN C) z.S,.mu ah z.O,aE (wy:Int),.im ak kd,.im ak nam]) (aZ (ay ma `Y (iF M2.YB)) (λhh=>?_) (λhh=>aH ?_)) ?_
   ·let hh:kd∈YB:=XW hh;refine aj (eU 3 (EV.cast (y':=(Sy.length:Int)) (h8 (zT 2 M.len rfl) ac) `a) rfl rfl (UM (show _<=1000 by cbv) `c) ?_);rw[hOe,XU hh];rfl
   ·let hh:¬kd∈YB:=XX hh;rw[hOe,XT hh,S3]
   rintro _ rfl;refine aj (DY 4 (c:=if kd∈named then 2 else 1) (EV.cast (lU (ay ma `Y (iF M2.named)) (λ_=>ac) (λ_=>ac)) (by by_cases z:kd∈named<;>simp[z])) rfl ⟨k-1,`a,i+1,`a,.im ak kd,.im ak nam,?_⟩)
   rw[hs,hwe];by_cases q:kd∈named
   ·rw[XU q,XU q];rfl
   ·rw[XT q,XT q];rfl
  ·let h:¬((x i).w:Int)<(ws.length:Int):=XX h;let Zi:i=n:=by
    obtain z | z:=UP i n
    ·exact XS (by have:=(hrd i z).w;cbv) h
    ·cbv
   subst Zi;refine⟨e5,e6,?_⟩;rw[Y5]
 rintro _ ⟨e5,e6,rfl⟩;let hSn:S.length<=240:=by
  let⟨a,b,c⟩:=hinv n;rw[Y5] at a b;dsimp only at a b;cbv
 refine ai (aZ (mJ 3 rfl) (λhh=>by cases hh) (λ_=>aH ?_));refine WS.freeze 2 rfl (aM `a) ?_;exact aj (aY `s rfl)
theorem ru {k:Nat}(hr:bH k A):A.units+1<cLine:=by have:=hr.units;cbv
noncomputable def gZ (F:R7)(z:Int×aI):R7:=if z.2.kind∈X7 then jK F z.2.within z.1 else F
noncomputable def eN (S:`M):R7:=(nums S).foldl gZ []
variable {F:R7}
theorem Ez {z:Int×aI}:(gZ F z).length<=F.length+1:=by
 unfold gZ;split
 ·exact Fh _ _ _
 ·cbv
theorem J3 (S:`M)(i:Nat):(((nums S).take i).foldl gZ []).length<=i:=by
 induction i with
 | zero=>exact UJ _
 | succ i ih=>
   rw[S9,Tu];cases e:(nums S)[i]? with
   | none=>exact Nat.le_succ_of_le ih
   | some z=>
     show(gZ _ z).length<=_;exact UK Ez `a
abbrev cQ (S:`M)(o:Int):Int:=(S.getD o.toNat dy).within
def Ar (S:`M)(n:Int)(kd:Str)(a:Int):Prop:=∃k:Nat,Yv (cQ S) k (cQ S n)=a/\(∀j,j<=k->0<=Yv (cQ S) j (cQ S n)/\Yv (cQ S) j (cQ S n)<(S.length:Int))/\(∀j,j<k->aT S (Yv (cQ S) j (cQ S n))≠kd)/\aT S a=kd
inductive fg (S:`M) (F:R7) (n:Int):RS->Prop
 | row {c:Int} (h:aT S n="if"∨aT S n="while") (hc:bq F n∣c):fg S F n [n+1,c+1]
 | els {c:Int} (h:aT S n="else") (hc:bq F n∣c):fg S F n [c]
 | lev {a c:Int} (h:aT S n="leave") (ha:Ar S n "while" a) (hc:bq F a∣c):fg S F n [c+1]
 | bck {a c:Int} (h:aT S n="back") (ha:Ar S n "part" a) (hc:bq F a∣c):fg S F n [c]
 | enw (h:aT S n="end") (h0:0<=cQ S n) (h1:cQ S n<(S.length:Int)) (hk:aT S (cQ S n)="while"):fg S F n [cQ S n]
 | enp (h:aT S n="end") (h0:0<=cQ S n) (h1:cQ S n<(S.length:Int)) (hk:aT S (cQ S n)="part"):fg S F n []
 | ene (h:aT S n="end") (h0:0<=cQ S n) (h1:cQ S n<(S.length:Int)) (hk:aT S (cQ S n)="else"):fg S F n [n+1]
 | oth (h:aT S n="part"∨aT S n="do"∨aT S n="call"):fg S F n [n+1]
abbrev P4:Stmt:=top qR
abbrev nCS:RU:=["steps","closing","number","step"]
def LP (C:Addr):c9:=λK ps T=>∃S:List aI,ps=[⟨ae (bN C),S⟩]/\S.length<=1000/\T=cq K h9 (· =eN S)
theorem OQ (M:`aY)(M2:lY K mg)(HC:bL K C i6)(Df:Def K mg "closing_steps" P4 ["steps"]):aD P w K mg base "closing_steps" 1 (aP (LP C) K):=by
 refine bP (N:=nCS) Df `n;let⟨S,rfl,hl,rfl⟩:=hS;refine ai (qk 1 ?_);refine bG (N1:=λZ=>∃e2 e3,Z=[.im `bt S,.di (cK (eN S)),e2,e3]) (bO (λi Z=>∃e2 e3,Z=[.im `bt S,.di (cK (((nums S).take i).foldl gZ [])),e2,e3]) (iU M.enumerate `e) (eQ 2 3) ⟨_,_,rfl⟩ (λi z Z hz hΓ=>?_) `R) ?_
 ·let⟨e2,e3,rfl⟩:=hΓ;let⟨n,st⟩:=z;let fl:=J3 S i;let il:i<S.length:=by have:=(Sn.mp hz).1;rwa [cN] at this
  let Y8:((nums S).take (i+1)).foldl gZ []=gZ (((nums S).take i).foldl gZ []) (n,st):=by rw[S9,hz,Tu];rfl
  rw[Y8];generalize ((nums S).take i).foldl gZ []=Fd at fl;change WS _ _ [.im `bt S,.di (cK Fd),aE n,.im (bN C) st] _ _;refine aj (aZ (ay ma (ig (C:=C) HC `q) (iF M2.X7)) (λh=>?_) (λh=>aH ⟨aE n,.im (bN C) st,?_⟩))
  ·let h:st.kind∈X7:=XW h;refine aj (sJ 1 (ru hr) (tG (C:=C) HC `q) `s rfl (UM (show _<=1000 by cbv) `c) ⟨aE n,.im (bN C) st,?_⟩);unfold gZ;rw[XU h];rfl
  ·let h:¬st.kind∈X7:=XX h;unfold gZ;rw[XT h]
 ·let⟨e2,e3,rfl⟩:=hΓ;refine⟨e2,e3,?_⟩;rw[Td];rfl
 rintro _ ⟨e2,e3,rfl⟩;exact aj (zS 1 rfl rfl)
abbrev Po:Stmt:=top Cu
abbrev nAR:RU:=["steps","number","kind","found"]
def Qv (C:Addr):c9:=λK ps T=>∃(S:`M)(n a:Int)(kd:Str),ps=[⟨ae (bN C),S⟩,⟨ah,n⟩,⟨ak,kd⟩]/\0<=n/\n<(S.length:Int)/\Ar S n kd a/\T=cq K ah (· =a)
theorem OF (HC:bL K C i6)(Df:Def K mg "around" Po ["steps","number","kind"]):aD P w K mg base "around" 1 (aP (Qv C) K):=by
 refine bP (N:=nAR) Df `n;let⟨S,n,a,kd,rfl,n0,n1,⟨k,ha,Zi,Yi,hk⟩,rfl⟩:=hS;refine ai (bo 3 (y:=cQ S n) (tG (C:=C) HC (a9 `e `g (bb (xs:=S) (i:=n) dy n0 n1))) ?_);refine bG (N1:=λZ=>Z=[.im `bt S,aE n,.im ak kd,aE a]) (mR (λm Z=>∃i,m+i=k/\Z=[.im `bt S,aE n,.im ak kd,aE (Yv (cQ S) i (cQ S n))]) (m0:=k) ⟨0,rfl,rfl⟩ (λm Z hI=>?_)) ?_
 ·let⟨i,hi,rfl⟩:=hI;let⟨o0,o1⟩:=Zi i `a;let hs:Yv (cQ S) (i+1) (cQ S n)=cQ S (Yv (cQ S) i (cQ S n)):=rfl;let hne':=Yi i;let hki:i=k->aT S (Yv (cQ S) i (cQ S n))=kd/\Yv (cQ S) i (cQ S n)=a:=λe=>by rw[e,ha];exact⟨hk,rfl⟩
  generalize Yv (cQ S) i (cQ S n)=o at o0 o1 hs hne' hki;refine⟨!decide (aT S o=kd),_,ay vS (ig (C:=C) HC (a9 `e `q (bb (xs:=S) (i:=o) dy o0 o1))) `s,λh=>?_,λh=>?_⟩
  ·let h:¬aT S o=kd:= ~~~h
   let ik:i<k:=by
    obtain z | z:=UP i k
    ·exact z
    ·exact XS (hki `a).1 h
   exact aj (bo 3 (tG (C:=C) HC (a9 `e `q (bb (xs:=S) (i:=o) dy o0 o1))) ⟨m-1,`a,i+1,`a,by rw[hs];rfl⟩)
  ·let h:aT S o=kd:= ~~~h
   let ik:i=k:=by
    obtain z | z:=UP i k
    ·exact XS h (hne' z)
    ·cbv
   rw[(hki ik).2]
 rintro _ rfl;exact aj (aY `q rfl)
abbrev QJ:Stmt:=top vz
abbrev nLF:RU:=["steps","closing","number","kind","ended"]
abbrev pLF:RU:=["steps","closing","number"]
def PH (C:Addr):c9:=λK ps T=>∃(S:`M)(F:R7)(n:Int)(ls:RS),ps=[⟨ae (bN C),S⟩,⟨h9,F⟩,⟨ah,n⟩]/\0<=n/\n<(S.length:Int)/\fg S F n ls/\T=cq K (ae ah) (· =ls)
noncomputable def BS (S:`M)(n:Int):Str:=if aT S n="end" then aT S (cQ S n) else ""
theorem Nq (HC:bL K C i6)(CA:aD P w K mg base "around" 1 (aP (Qv C) K))(Df:Def K mg "leads_from" QJ pLF):aD P w K mg base "leads_from" 2 (aP (PH C) K):=by
 refine bP (N:=nLF) Df `n;let⟨S,Fd,n,ls,rfl,n0,n1,hL,rfl⟩:=hS;let hu:=ru hr;let YZ:cE S n∣S.getD n.toNat dy:=bb (xs:=S) (i:=n) dy n0 n1;let hen:aT S n="end"->0<=cQ S n/\cQ S n<(S.length:Int):=λh=>by
  cases hL with
  | row g hc=>rcases g with g | g<;>rw[g] at h<;>exact XS h `b
  | els g hc=>rw[g] at h;exact XS h `b
  | lev g ha hc=>rw[g] at h;exact XS h `b
  | bck g ha hc=>rw[g] at h;exact XS h `b
  | enw g h0 h1 hk=>exact⟨h0,h1⟩
  | enp g h0 h1 hk=>exact⟨h0,h1⟩
  | ene g h0 h1 hk=>exact⟨h0,h1⟩
  | oth g=>rcases g with g | g | g<;>rw[g] at h<;>exact XS h `b
 refine ai (bo 3 (y:=aT S n) (ig (C:=C) HC (a9 `e `s YZ)) ?_);refine ai (bo 4 (y:=BS S n) (EV.cast (lU (x:=aT S (cQ S n)) (ay bS `q aA) (λh=>ig (C:=C) HC (a9 `e (tG (C:=C) HC (a9 `e `s YZ)) (bb (xs:=S) (i:=cQ S n) dy (hen (XW h)).1 (hen (XW h)).2))) (λ_=>aA)) (by unfold BS;by_cases h:aT S n="end"<;>simp[h])) ?_)
 let en0:aT S n≠"end"->BS S n="":=λh=>XT h;let en1:aT S n="end"->BS S n=aT S (cQ S n):=λh=>XU h;generalize hE:BS S n=ed at en0 en1;let one_le:(1:Nat)<=Vn:=`c
 refine ai (aZ (ay ma `q (zk (xs:=["if","while"]) (aq `bq (aq `bq aN)) (by show 2<=Vn;decide))) (λh=>?_) `Q)
 ·let h:aT S n∈(["if","while"]:RU):=XW h;cases hL with
  | row g hc=>exact aj (aY (bc.im (aQ (r:=ah) (aq (bZ `s ac) (aq (bZ (kZ hu `g `s hc) ac) aN)) (by show 2<=Vn;decide))) rfl)
  | els g hc=>rw[g] at h;exact XS h `b
  | lev g ha hc=>rw[g] at h;exact XS h `b
  | bck g ha hc=>rw[g] at h;exact XS h `b
  | enw g h0 h1 hk=>rw[g] at h;exact XS h `b
  | enp g h0 h1 hk=>rw[g] at h;exact XS h `b
  | ene g h0 h1 hk=>rw[g] at h;exact XS h `b
  | oth g=>rcases g with g | g | g<;>rw[g] at h<;>exact XS h `b
 let h1:¬aT S n∈(["if","while"]:RU):=XX h;refine ai (aZ (ay bS `q aA) (λh=>?_) `Q)
 ·let h:aT S n="else":=XW h;cases hL with
  | row g hc=>rcases g with g | g<;>rw[g] at h<;>exact XS h `b
  | els g hc=>exact aj (aY (bc.im (aQ (r:=ah) (aq (kZ hu `g `s hc) aN) one_le)) rfl)
  | lev g ha hc=>rw[g] at h;exact XS h `b
  | bck g ha hc=>rw[g] at h;exact XS h `b
  | enw g h0 h1 hk=>rw[g] at h;exact XS h `b
  | enp g h0 h1 hk=>rw[g] at h;exact XS h `b
  | ene g h0 h1 hk=>rw[g] at h;exact XS h `b
  | oth g=>rcases g with g | g | g<;>rw[g] at h<;>exact XS h `b
 let h2:¬aT S n="else":=XX h;refine ai (aZ (ay bS `q aA) (λh=>?_) `Q)
 ·let h:aT S n="leave":=XW h;cases hL with
  | row g hc=>rcases g with g | g<;>rw[g] at h<;>exact XS h `b
  | els g hc=>rw[g] at h;exact XS h `b
  | lev g ha hc=>exact aj (aY (bc.im (aQ (r:=ah) (aq (bZ (kZ hu `g (aB CA hr (ag `e (ag `s (ag aA ax))) ⟨S,n,_,_,rfl,n0,n1,ha,rfl⟩) hc) ac) aN) one_le)) rfl)
  | bck g ha hc=>rw[g] at h;exact XS h `b
  | enw g h0 h1 hk=>rw[g] at h;exact XS h `b
  | enp g h0 h1 hk=>rw[g] at h;exact XS h `b
  | ene g h0 h1 hk=>rw[g] at h;exact XS h `b
  | oth g=>rcases g with g | g | g<;>rw[g] at h<;>exact XS h `b
 let h3:¬aT S n="leave":=XX h;refine ai (aZ (ay bS `q aA) (λh=>?_) `Q)
 ·let h:aT S n="back":=XW h;cases hL with
  | row g hc=>rcases g with g | g<;>rw[g] at h<;>exact XS h `b
  | els g hc=>rw[g] at h;exact XS h `b
  | lev g ha hc=>rw[g] at h;exact XS h `b
  | bck g ha hc=>exact aj (aY (bc.im (aQ (r:=ah) (aq (kZ hu `g (aB CA hr (ag `e (ag `s (ag aA ax))) ⟨S,n,_,_,rfl,n0,n1,ha,rfl⟩) hc) aN) one_le)) rfl)
  | enw g h0 h1 hk=>rw[g] at h;exact XS h `b
  | enp g h0 h1 hk=>rw[g] at h;exact XS h `b
  | ene g h0 h1 hk=>rw[g] at h;exact XS h `b
  | oth g=>rcases g with g | g | g<;>rw[g] at h<;>exact XS h `b
 let h4:¬aT S n="back":=XX h;let hno:∀{k:Str},k≠""->aT S n≠"end"->ed≠k:=λhk h z=>hk (by rw[← z,en0 h]);refine ai (aZ (ay bS `af aA) (λh=>?_) `Q)
 ·let h:ed="while":=XW h;cases hL with
  | row g hc=>exact XS h (hno `b (by rcases g with g | g<;>rw[g]<;>decide +kernel))
  | els g hc=>exact XS g h2
  | lev g ha hc=>exact XS g h3
  | bck g ha hc=>exact XS g h4
  | enw g h0 h1 hk=>exact aj (aY (bc.im (aQ (r:=ah) (aq (tG (C:=C) HC (a9 `e `s YZ)) aN) one_le)) rfl)
  | enp g h0 h1 hk=>rw[en1 g,hk] at h;exact XS h `b
  | ene g h0 h1 hk=>rw[en1 g,hk] at h;exact XS h `b
  | oth g=>exact XS h (hno `b (by rcases g with g | g | g<;>rw[g]<;>decide +kernel))
 let h5:¬ed="while":=XX h;cases hL with
 | row g hc=>exact XS (by rcases g with g | g<;>rw[g]<;>decide +kernel) h1
 | els g hc=>exact XS g h2
 | lev g ha hc=>exact XS g h3
 | bck g ha hc=>exact XS g h4
 | enw g h0 h1 hk=>exact XS ((en1 g).trans hk) h5
 | enp g h0 h1 hk=>
   let e:ed="part":=(en1 g).trans hk;exact aj (aY (y:=([]:RS)) (EV.cast (lU (y:=([]:RS)) (ay bS `af aA) (λ_=>bc.im (aQ (r:=ah) aN (UL _))) (λh=>XS e (XX h))) (by split<;>rfl)) rfl)
 | ene g h0 h1 hk=>
   let e:ed≠"part":=by rw[en1 g,hk];decide +kernel
   exact aj (aY (y:=[n+1]) (EV.cast (lU (x:=[n+1]) (ay bS `af aA) (λh=>XS (XW h) e) (λ_=>bc.im (aQ (r:=ah) (aq (bZ `s ac) aN) one_le))) (by split<;>rfl)) rfl)
 | oth g=>
   let e:ed≠"part":=hno `b (by rcases g with g | g | g<;>rw[g]<;>decide +kernel)
   exact aj (aY (y:=[n+1]) (EV.cast (lU (x:=[n+1]) (ay bS `af aA) (λh=>XS (XW h) e) (λ_=>bc.im (aQ (r:=ah) (aq (bZ `s ac) aN) one_le))) (by split<;>rfl)) rfl)
abbrev KO:Stmt:=top yL
abbrev QC:RU:=["steps","closing"]
def As (S:`M)(Ld:`bn):Prop:=Ld.length=S.length/\∀n:Nat,n<S.length->fg S (eN S) (n:Int) (Ld.getD n [])
def Qc (C:Addr):c9:=λK ps T=>∃(S:`M)(Ld:`bn),ps=[⟨ae (bN C),S⟩]/\S.length<=1000/\As S Ld/\T=cq K `bh (· =Ld)
theorem EE (Ld:`bn):((ups 0 Ld.length).filter λ_=>true).map (λn=>Ld.getD n.toNat [])=Ld:=by
 rw[Ts.mpr λ_ _=>rfl];refine Tr λi=>?_;unfold ups;rw[Sw,Sw];obtain h | h:=UP i Ld.length
 ·rw[Ti h,So h];show some (Ld.getD (0+(i:Int)).toNat [])=_;rw[show(0+(i:Int)).toNat=i by cbv,Sr,So h];rfl
 ·rw[SY (~~~h),SY h];rfl
theorem OE (M:`aY)(CC:aD P w K mg base "closing_steps" 1 (aP (LP C) K))(CF:aD P w K mg base "leads_from" 2 (aP (PH C) K))(Df:Def K mg "leads_in" KO ["steps"]):aD P w K mg base "leads_in" 3 (aP (Qc C) K):=by
 let Zs:S6 [("number":Str),"steps","closing"]:=`c
 let CC:=CC.mono (show 1<=2 by decide);refine bP (N:=QC) (k:=2) Df `n;let⟨S,Ld,rfl,hl,⟨hll,hL⟩,rfl⟩:=hS;refine ai (bo 1 (y:=eN S) (aB CC hr `bb ⟨S,rfl,hl,rfl⟩) ?_);change WS _ _ [.im `bt S,.im h9 (eN S)] _ _;let cc:=EE Ld;rw[hll] at cc;refine aj (aY (bc.im (cI (own:=["number"]) (fr:=["steps","closing"]) (ix:=[0,1]) (ra:=ah) (rb:=ae ah) (p:=λ_=>true) (f:=λn=>Ld.getD n.toNat []) (bQ (so:=ao KO) (N0:=QC) rfl rfl `X `b) (eh M.range (eo M.len `e) ⟨`a,`a⟩)
  `D (λx=>⟨.inr rfl,.inl rfl,.inl rfl,trivial⟩) (λC s H ex c hc=>eu) (λC' s H ex o ho _=>?_))) ?_)
 ·let⟨i,hi⟩:=SO.mp ho;let⟨il,rfl⟩:=gu hi;let il:i<S.length:=`a
  have:=hL i il;rw[show(i:Int)=0+(i:Int) by cbv] at this;exact aB CF hr (ag `g (ag `s `bb)) ⟨S,eN S,0+(i:Int),_,rfl,`a,`a,by rw[show(0+(i:Int)).toNat=i by cbv];exact this,rfl⟩
 ·rw[show((S.length:Int)).toNat=S.length by cbv];exact cc
abbrev L5:Stmt:=top yC
abbrev Qw:RU:=["steps","closing"]
abbrev hX:=Str×Int×Int
def ow (p:hX):PV:=.tup [.str p.1,.int p.2.1,.int p.2.2]
def M5 (z:Int×aI):Bool:=decide (z.2.kind="part")
def Le (S:`M)(z:Int×aI):hX:=(z.2.name,z.1,(bq (eN S) z.1).getD 0)
noncomputable def cW (S:`M):List hX:=((nums S).filter M5).map (Le S)
noncomputable def PU (C:Addr):c9:=λK ps T=>∃S:List aI,ps=[⟨ae (bN C),S⟩]/\S.length<=1000/\(∀n:Nat,n<S.length->aT S (n:Int)="part"->(bq (eN S) (n:Int)).isSome)/\T=cq K (ae au) (· =(cW S).map ow)
theorem pX {z:Int×aI}(h:z∈nums S):∃n:Nat,n<S.length/\z.1=(n:Int)/\S.getD n dy=z.2:=by
 let⟨i,hi⟩:=SO.mp h;let⟨e1,e2⟩:=ft hi;exact⟨i,(Sn.mp e2).1,e1,by rw[Sr,e2];rfl⟩
theorem Ot (M:`aY)(HC:bL K C i6)(CC:aD P w K mg base "closing_steps" 1 (aP (LP C) K))(Df:Def K mg "parts_in" L5 ["steps"]):aD P w K mg base "parts_in" 2 (aP (PU C) K):=by
 let Zs:S6 [("number":Str),"step","closing"]:=`c
 refine bP (N:=Qw) (k:=1) Df `n;let⟨S,rfl,hl,hp,rfl⟩:=hS;refine ai (bo 1 (y:=eN S) (aB CC hr `bb ⟨S,rfl,hl,rfl⟩) ?_);refine aj (aY (bc.im (cI (own:=["number","step"]) (fr:=["closing"]) (ix:=[1]) (ra:=dO ah (bN C)) (rb:=au) (p:=M5) (f:=λz=>ow (Le S z)) (bQ (so:=ao L5) (N0:=Qw) rfl rfl `X `b) (iU M.enumerate `e)
  (λC s H ex=>eQ 0 1) (λx=>⟨.inr rfl,.inr rfl,.inl rfl,trivial⟩) (λC' s H ex z hz=>?_) (λC' s H ex z hz hpz=>?_))) ?_)
 ·exact ji (ay bS (ig (C:=C) HC `g) aA)
 ·let⟨n,nl,e1,e2⟩:=pX hz;let hk:aT S (n:Int)="part":=by
   unfold aT;rw[show((n:Nat):Int).toNat=n by cbv,e2];exact XW hpz
  let hs:=hp n nl hk;rw[← e1] at hs;let hc:bq (eN S) z.1∣((bq (eN S) z.1).getD 0):=by
   cases q:bq (eN S) z.1 with
   | none=>rw[q] at hs;cases hs
   | some c=>rfl
  exact gB (aq (EV.pS (tW (C:=C) HC `g)) (aq (EV.pI `e) (aq (EV.pI (kZ (ru hr) `s `e hc)) aN))) (by show 3<=Vn;decide)
 ·unfold cW;rw[Tp];rfl
abbrev dH:List (Str×RU):=[("do",["do"]),("call",["call"]),("if",["yes","no"]),("while",["yes","no"])]
def aV (k:Str):Bool:=(cO dH k).isSome
noncomputable def tV (S:`M)(Ld:`bn)(td:RS)(n:Int):RS:=
 if(Ld.getD n.toNat []).isEmpty=false/\aV (aT S n)=false then td.set n.toNat (td.getD ((Ld.getD n.toNat []).getD 0 0).toNat 0) else td
variable {Ld:`bn}
theorem Jm {td:RS}{n:Int}:(tV S Ld td n).length=td.length:=by
 unfold tV;split
 ·rw[Tb]
 ·rfl
noncomputable def ZX (S:`M)(Ld:`bn)(i:Nat):RS:=((downs ((S.length:Int)-1) S.length).take i).foldl (tV S Ld) (ups 0 S.length)
theorem kT (h:i<S.length):ZX S Ld (i+1)=tV S Ld (ZX S Ld i) ((S.length:Int)-1-(i:Int)):=by
 let hd:(downs ((S.length:Int)-1) S.length)[i]?∣((S.length:Int)-1-(i:Int)):=by
  unfold downs;rw[Sw,Ti h];rfl
 unfold ZX;rw[S9,hd,Tu];rfl
theorem kK {S:`M}{Ld:`bn}:∀i,i<=S.length->(ZX S Ld i).length=S.length
 | 0,_=>bt _ _
 | i+1,h=>by rw[kT h,Jm];exact kK i `a
abbrev aW (S:`M)(Ld:`bn):RS:=ZX S Ld S.length
def yu (S:`M)(Ld:`bn):Prop:=Ld.length=S.length/\∀ls∈Ld,∀l∈ls,0<=l/\l<(S.length:Int)
abbrev QH:Stmt:=top xc
abbrev nST:RU:=["steps","leads","told","number"]
def Px (C:Addr):c9:=λK ps T=>∃(S:`M)(Ld:`bn),ps=[⟨ae (bN C),S⟩,⟨ae (ae ah),Ld⟩]/\S.length<=1000/\yu S Ld/\T=cq K (ae ah) (· =aW S Ld)
theorem OG (M:`aY)(HC:bL K C i6)(RW:n6 P w K mg "ROW_WORDS" dH)(Df:Def K mg "stands_in" QH ["steps","leads"]):aD P w K mg base "stands_in" 1 (aP (Px C) K):=by
 refine bP (N:=nST) Df `n;let⟨S,Ld,rfl,hl,⟨hll,Zi⟩,rfl⟩:=hS;change WS _ _ [.im `bt S,.im `bh Ld,.no,.no] _ _;refine ai (cF 2 (r:=ah) (ys:=ups 0 S.length) (bc.cst (vG M.list M.range (eo M.len `e) ⟨`a,`a⟩) (by rw[show((S.length:Int)).toNat=S.length by cbv])) ?_);refine bG (N1:=λZ=>∃e3,Z=[.im `bt S,.im `bh Ld,.mu ah `ai,e3]) (bO (λi Z=>∃e3,Z=[.im `bt S,.im `bh Ld,.mu ah (ZX S Ld i),e3]) (BF M.range (ag (h8 (eo M.len `e) ac) (ag (cj ac) (ag (cj ac) ax))) ⟨`a,`a,`a,`a⟩) (aU 3) ⟨_,rfl⟩ (λi n Z hn hΓ=>?_) `R) ?_
 ·let⟨e3,rfl⟩:=hΓ;let⟨il,rfl⟩:=w9 hn;let il:i<S.length:=`a
  rw[kT il];let tl:=kK (S:=S) (Ld:=Ld) i `a;generalize ZX S Ld i=td at tl;generalize hnn:(S.length:Int)-1-(i:Int)=n;let n0:0<=n:=`a
  let n1:n<(S.length:Int):=`a
  change WS _ _ [.im `bt S,.im `bh Ld,.mu ah td,aE n] _ _;let YZ:cE Ld n∣(Ld.getD n.toNat []):=bb (xs:=Ld) (i:=n) [] n0 `a;let Z3:Ld.getD n.toNat []∈Ld:=by
   rw[Sr,So (show n.toNat<Ld.length by cbv)];exact S7 _
  refine aj (aZ (TW.tv (de (xk (a9 `g `q YZ)) (λ_=>eO (BE RW (ig (C:=C) HC (a9 `e `q (bb (xs:=S) (i:=n) dy n0 n1))))))) (λh=>?_) (λh=>aH ⟨aE n,?_⟩))
  ·let h:(Ld.getD n.toNat []).isEmpty=false/\aV (aT S n)=false:=by simpa[aV,aT] using h
   let hls:=Zi _ Z3;obtain⟨l,r,hlr⟩:∃l r,Ld.getD n.toNat []=l::r:=by
    cases e:Ld.getD n.toNat [] with
    | nil=>rw[e] at h;exact XS h.1 `c
    | cons l r=>exact⟨l,r,rfl⟩
   let e0:(Ld.getD n.toNat []).getD 0 0=l:=by rw[hlr];rfl
   let hl0:cE (Ld.getD n.toNat []) 0∣l:=by rw[hlr,jT `c `d];rfl
   let⟨l0,l1⟩:=hls l (by rw[hlr];exact Sz);refine aj (IL 2 (y:=td.getD l.toNat 0) (j:=n.toNat) (oZ 2 (a9 (a9 `g `q YZ) ac hl0) rfl rfl (bb (xs:=td) (i:=l) 0 l0 `a)) `q rfl rfl (xW n0 `a) ⟨aE n,?_⟩);unfold tV;rw[XU h,e0];rfl
  ·let h:¬((Ld.getD n.toNat []).isEmpty=false/\aV (aT S n)=false):=by
    intro z;unfold aV at z;unfold aT at z;rw[z.1,z.2] at h;exact XS h `c
   unfold tV;rw[XT h]
 ·let⟨e3,rfl⟩:=hΓ;rw[jn,show((S.length:Int)-1 - -1).toNat=S.length by cbv];exact⟨e3,rfl⟩
 rintro _ ⟨e3,rfl⟩;refine WS.freeze 2 rfl (aM (by rw[kK S.length (UJ _)];cbv)) ?_;exact aj (aY `s rfl)
abbrev Rw:=Int×Int×Str×Str
def jS (r:Rw):PV:=.tup [.int r.1,.int r.2.1,.str r.2.2.1,.str r.2.2.2]
def j5 (Ld:`bn)(z:Int×aI):List (Str×Int):=((cO dH z.2.kind).getD []).zip (Ld.getD z.1.toNat [])
def sA (St:RS)(z:Int×aI)(y:Str×Int):Rw:=(z.1,St.getD y.2.toNat 0,y.1,z.2.name)
noncomputable def dQ (Ld:`bn)(St:RS)(z:Int×aI):List Rw:=(j5 Ld z).map (sA St z)
noncomputable def gc (S:`M)(Ld:`bn)(St:RS):List Rw:=(nums S).flatMap (dQ Ld St)
theorem zG (Ld:`bn)(z:Int×aI):(j5 Ld z).length<=2:=by
 unfold j5;rw[T6];refine UK (UX _ _) ?_;unfold cO;split
 ·decide
 unfold cO;split
 ·decide
 unfold cO;split
 ·decide
 unfold cO;split
 ·decide
 ·exact UL _
theorem qP {α β:Type}{f:α->List β}{n:Nat}(h:∀x,(f x).length<=n):∀xs:List α,(xs.flatMap f).length<=n*xs.length
 | []=>UL _
 | x::xs=>by
   rw[TB,Sx,SE,Nat.mul_succ];have:=h x;have:=qP h xs;cbv
theorem tO (Ld:`bn)(St:RS)(z:Int×aI):(dQ Ld St z).length<=2:=by unfold dQ;rw[Ss];exact zG Ld z
abbrev Qg:Stmt:=top A1
abbrev nRI:RU:=["steps","leads","stands","told","number","step","word","lead"]
abbrev pRI:RU:=["steps","leads","stands"]
noncomputable def QK (C:Addr):c9:=λK ps T=>∃(S:`M)(Ld:`bn)(St:RS),ps=[⟨ae (bN C),S⟩,⟨ae (ae ah),Ld⟩,⟨ae ah,St⟩]/\S.length<=1000/\yu S Ld/\St.length=S.length/\T=cq K (ae au) (· =(gc S Ld St).map jS)
theorem Oj (M:`aY)(HC:bL K C i6)(RW:n6 P w K mg "ROW_WORDS" dH)(Df:Def K mg "rows_in" Qg pRI):aD P w K mg base "rows_in" 1 (aP (QK C) K):=by
 refine bP (N:=nRI) Df `n;let⟨S,Ld,St,rfl,hl,⟨hll,Zi⟩,hst,rfl⟩:=hS;change WS _ _ [.im `bt S,.im `bh Ld,eT St,.no,.no,.no,.no,.no] _ _;refine ai (cF 3 (r:=au) (ys:=[]) `aE ?_);refine bG (N1:=λZ=>∃e4 e5 e6 e7,Z=[.im `bt S,.im `bh Ld,eT St,.mu au ((gc S Ld St).map jS),e4,e5,e6,e7]) (bO (λi Z=>∃e4 e5 e6 e7,Z=[.im `bt S,.im `bh Ld,eT St,.mu au ((((nums S).take i).flatMap (dQ Ld St)).map jS),e4,e5,e6,e7]) (iU M.enumerate `e) (eQ 4 5) ⟨_,_,_,_,rfl⟩ (λi z Z hz hΓ=>?_) `R) ?_
 ·let⟨e4,e5,e6,e7,rfl⟩:=hΓ;let⟨n,nl,e1,e2⟩:=pX (SD hz);let il:i<S.length:=by have:=(Sn.mp hz).1;rwa [cN] at this
  let fl:=qP (tO Ld St) ((nums S).take i);let hti:((nums S).take i).length<=i:=by rw[SW];cbv
  let Y8:((nums S).take (i+1)).flatMap (dQ Ld St)=((nums S).take i).flatMap (dQ Ld St)++dQ Ld St z:=by
   rw[S9,hz,T4];simp
  rw[Y8];generalize ((nums S).take i).flatMap (dQ Ld St)=rs at fl;let rl:rs.length<=2000:=`a
  let⟨zn,zs⟩:=z;dsimp only at e1 e2;subst e1;change WS _ _ [.im `bt S,.im `bh Ld,eT St,.mu au (rs.map jS),aE (n:Int),.im (bN C) zs,e6,e7] _ _;let YZ:cE Ld (n:Int)∣(Ld.getD n []):=bb (xs:=Ld) (i:=(n:Int)) [] `a `a;let Z3:Ld.getD n []∈Ld:=by
   rw[Sr,So (show n<Ld.length by cbv)];exact S7 _
  let hls:=Zi _ Z3;let hzl:=zG Ld ((n:Int),zs);let hzz:j5 Ld ((n:Int),zs)=((cO dH zs.kind).getD []).zip (Ld.getD n []):=rfl;refine aj (bO (λj Z=>∃e6 e7,Z=[.im `bt S,.im `bh Ld,eT St,.mu au ((rs++((j5 Ld ((n:Int),zs)).take j).map (sA St ((n:Int),zs))).map jS),aE (n:Int),.im (bN C) zs,e6,e7]) (Ia M.zip (Ii RW (ig (C:=C) HC `Y) (zk (xs:=[]) aN (UL _))) (a9 `g `af YZ)) (eQ 6 7) ⟨e6,e7,by rw[TZ,Uk,S3]⟩ (λj y Z hy hΓ=>?_) `R)
  ·let⟨e6,e7,rfl⟩:=hΓ;rw[← hzz] at hy;let hjl:j<(j5 Ld ((n:Int),zs)).length:=(Sn.mp hy).1;let htj:(((j5 Ld ((n:Int),zs)).take j).map (sA St ((n:Int),zs))).length<=2:=by rw[Ss,SW];cbv
   let hnj:((j5 Ld ((n:Int),zs)).take (j+1)).map (sA St ((n:Int),zs))=((j5 Ld ((n:Int),zs)).take j).map (sA St ((n:Int),zs))++[sA St ((n:Int),zs) y]:=by
    rw[S9,hy,SN];rfl
   rw[hnj];let hyl:y.2∈Ld.getD n []:=by
    rw[hzz] at hy;exact(Ug (SD hy)).2
   let⟨y0,y1⟩:=hls y.2 hyl;generalize ((j5 Ld ((n:Int),zs)).take j).map (sA St ((n:Int),zs))=ts at htj;let⟨yw,yl⟩:=y;refine aj (eU 3 (y:=jS (sA St ((n:Int),zs) (yw,yl))) (gB (aq (EV.pI `af) (aq (EV.pI (a9 `s (aa 7 rfl) (bb (xs:=St) (i:=yl) 0 y0 `a))) (aq (EV.pS `au) (aq (EV.pS (tW (C:=C) HC `Y)) aN)))) (by show 4<=Vn;decide)) rfl rfl (UM (show _<=3000 by rw[Ss,Sx];cbv) `c) ⟨.im ak yw,aE yl,?_⟩);rw[← SR,SN (l₁:=rs++ts)];rfl
  ·let⟨e6,e7,rfl⟩:=hΓ;refine⟨aE (n:Int),.im (bN C) zs,e6,e7,?_⟩;rw[← hzz,Td];rfl
 ·let⟨e4,e5,e6,e7,rfl⟩:=hΓ;refine⟨e4,e5,e6,e7,?_⟩;rw[Td];rfl
 rintro _ ⟨e4,e5,e6,e7,rfl⟩;let fl:=qP (tO Ld St) (nums S);rw[cN] at fl;refine WS.freeze 3 rfl (aM (by rw[Ss];unfold gc;cbv)) ?_;exact aj (aY `q rfl)
structure iL where
 S:List aI
 parts:List hX
 Ld:List RS
 St:RS
 rows:List Rw
abbrev gf:RU:=["steps","parts","leads","stands","rows"]
theorem dR (h:decide (x∈gf)=true):x∈gf:=XW h
noncomputable def Qy (C:Addr)(s:iL):lj:=[("steps",(ae (bN C)).at_ s.S),("parts",(ae au).at_ (s.parts.map ow)),("leads",(ae (ae ah)).at_ s.Ld),("stands",(ae ah).at_ s.St),("rows",(ae au).at_ (s.rows.map jS))]
def cV (C D:Addr):Rep iL:=⟨λK R v s=>∃x dx vs,v= .ref x/\R x∣.ins D dx vs/\g7 (Qy C s) K R vs,λs ⟨x,dx,vs,e,h1,h2⟩=>⟨x,dx,vs,e,s _ _ h1,h2.mono s⟩⟩
variable {D:Addr}
section
variable {s:iL}
theorem A0 (hC:bL X.K D gf)(he:EV X e Z (cV C D) s Γ1)(hb:fA X e "steps":=by rfl):EV X (.Attribute e "steps" pos) Z `bt s.S Γ1:=kF hC (dR `c) he (λK R v ⟨x,dx,vs,e,h1,h2⟩=>by let⟨u,q1,q2⟩:=h2.get (f:="steps") rfl;exact⟨x,dx,vs,u,e,h1,q1,q2⟩) hb
theorem jo (hC:bL X.K D gf)(he:EV X e Z (cV C D) s Γ1)(hb:fA X e "parts":=by rfl):EV X (.Attribute e "parts" pos) Z (ae au) (s.parts.map ow) Γ1:=kF hC (dR `c) he (λK R v ⟨x,dx,vs,e,h1,h2⟩=>by let⟨u,q1,q2⟩:=h2.get (f:="parts") rfl;exact⟨x,dx,vs,u,e,h1,q1,q2⟩) hb
theorem N3 (hC:bL X.K D gf)(he:EV X e Z (cV C D) s Γ1)(hb:fA X e "leads":=by rfl):EV X (.Attribute e "leads" pos) Z `bh s.Ld Γ1:=kF hC (dR `c) he (λK R v ⟨x,dx,vs,e,h1,h2⟩=>by let⟨u,q1,q2⟩:=h2.get (f:="leads") rfl;exact⟨x,dx,vs,u,e,h1,q1,q2⟩) hb
theorem Na (hC:bL X.K D gf)(he:EV X e Z (cV C D) s Γ1)(hb:fA X e "stands":=by rfl):EV X (.Attribute e "stands" pos) Z (ae ah) s.St Γ1:=kF hC (dR `c) he (λK R v ⟨x,dx,vs,e,h1,h2⟩=>by let⟨u,q1,q2⟩:=h2.get (f:="stands") rfl;exact⟨x,dx,vs,u,e,h1,q1,q2⟩) hb
theorem sj (hC:bL X.K D gf)(he:EV X e Z (cV C D) s Γ1)(hb:fA X e "rows":=by rfl):EV X (.Attribute e "rows" pos) Z (ae au) (s.rows.map jS) Γ1:=kF hC (dR `c) he (λK R v ⟨x,dx,vs,e,h1,h2⟩=>by let⟨u,q1,q2⟩:=h2.get (f:="rows") rfl;exact⟨x,dx,vs,u,e,h1,q1,q2⟩) hb
end
structure oF (S:`M)(Ld:`bn):Prop where
 l:S.length<=240
 ld:As S Ld
 li:yu S Ld
 pt:∀n:Nat,n<S.length->aT S (n:Int)="part"->(bq (eN S) (n:Int)).isSome
def Yj (S:`M)(Ld:`bn):iL:=⟨S,cW S,Ld,aW S Ld,gc S Ld `ai⟩
def rq (x:Str)(S:`M):Prop:=∃(ws:RU)(n:Nat),x=Xj " " ws/\ws≠[]/\ws.length<=240/\(∀w∈ws,gY w)/\ib ws n ⟨[],[],0⟩ ⟨S,[],ws.length⟩
abbrev vm:Stmt:=match top FH with
 | .ClassDef _ _ _ b _ _ _ _ _ _ _=>b.getD 0 (.Pass ⟨0,0,0,0⟩)
 | s=>s
abbrev xU:RU:=["self","text"]
theorem Lh:bD xU xU (ao vm):=Zf
def Py (C D0:Addr):Cj:=λK D ps Pd=>D=D0/\∃(x:Str)(S:`M)(Ld:`bn),ps=[⟨ak,x⟩]/\rq x S/\oF S Ld/\Pd=λfs=>fs=Qy C (Yj S Ld)
theorem M8 (HD:bL K D gf)(CR:aD P w K mg base "read" 3 (aP (Pr C) K))(CP:aD P w K mg base "parts_in" 2 (aP (PU C) K))(CL:aD P w K mg base "leads_in" 3 (aP (Qc C) K))(CS:aD P w K mg base "stands_in" 1 (aP (Px C) K))(CW:aD P w K mg base "rows_in" 1 (aP (QK C) K))(F:dw K "__init__" "Spots.__init__" vm f fd):eZ P w K mg base d7 4 f fd xU (Aj (Py C D) K):=by
 let nd:=Lh.nd;let CP:=CP.mono (show 2<=3 by decide);let CS:=CS.mono (show 1<=3 by decide);let CW:=CW.mono (show 1<=3 by decide);refine DH (k:=3) F Lh (λD qs Pd ⟨_,_,_,_,e,_⟩=>by rw[e];rfl) (λX6 A outer st H E D' x dx qs Pd hr hS=>?_);let⟨rfl,tx,S,Ld,rfl,⟨ws,n,et,Yi,hl,hw,hsim⟩,hOk,rfl⟩:=hS;let ZZ:S.length<=1000:=by have:=hOk.l;cbv
 refine ai (iZ 0 HD (dR `c) (aB (y:=S) (r:=ae (bN C)) CR hr (ag `g ax) ⟨ws,n,S,by rw[et],Yi,hl,hw,hsim,rfl⟩) rfl rfl (by show 0<1000;decide) ?_);refine ai (iZ 0 HD (dR `c) (aB CP hr (ag `bB ax) ⟨S,rfl,ZZ,hOk.pt,rfl⟩) rfl rfl (by show 1<1000;decide) ?_);refine ai (iZ 0 HD (dR `c) (aB CL hr (ag `bB ax) ⟨S,Ld,rfl,ZZ,hOk.ld,rfl⟩) rfl rfl (by show 2<1000;decide) ?_);refine ai (iZ 0 HD (dR `c) (aB CS hr (ag `bB (ag `bB ax)) ⟨S,Ld,rfl,ZZ,hOk.li,rfl⟩) rfl rfl (by show 3<1000;decide) ?_);exact aj (iZ 0 HD (dR `c) (aB CW hr (ag `bB (ag `bB (ag `bB ax))) ⟨S,Ld,aW S Ld,rfl,ZZ,hOk.li,kK S.length (UJ _),rfl⟩) rfl rfl (by show 4<1000;decide) ⟨_,rfl,rfl⟩)
structure yv (P:Vr)(w:World)(K:Xt)(mg:RQ)(base:Heap)(C D:Addr):Prop where
 cl:bL K D gf
 ex:∃fi ZV,Mk K D fi/\eZ P w K mg base d7 4 fi ZV xU (Aj (Py C D) K)/\be K ZV xU []
 mg:mg "Spots"∣.ref D
theorem EH {p:Pos}(G:yv X.prog X.w X.K X.mg X.base C D)(hr:bH 5 X.A)(ha:HA X [e] Z [⟨ak,x⟩] Γ1)(hx:rq x S)(hk:oF S Ld)(hg:Gl X "Spots":=by rfl)(he:dk X e []:=by rfl)(Yo:eV X pos []:=by rfl):EV X (.Call (.Name "Spots" p) [e] [] pos) Z (cV C D) (Yj S Ld) Γ1:=by
 let⟨fi,ZV,MK,SI,bi⟩:=G.ex;exact yX MK SI hr G.mg bi ha ⟨rfl,x,S,Ld,rfl,hx,hk,rfl⟩ (λfs R x dx vs hP h1 h2=>by subst hP;exact⟨x,dx,vs,rfl,h2,h1⟩) hg `c he Yo
theorem KG {xs:`x}(h:i<=xs.length):cut xs none (some (i:Int))=xs.take i:=by
 let e:HT.Yl xs.length xs.length (some (i:Int))=i:=by
  show(if(i:Int)<0 then((i:Int)+(xs.length:Int)).toNat else min (i:Int).toNat xs.length)=i;rw[XT `a];cbv
 unfold cut;rw[e];rfl
theorem tN {xs:`x}:cut xs (some (i:Int)) none=xs.drop i:=by
 let e:HT.Yl xs.length 0 (some (i:Int))=min i xs.length:=by
  show(if(i:Int)<0 then((i:Int)+(xs.length:Int)).toNat else min (i:Int).toNat xs.length)=_;rw[XT `a];rfl
 let e2:HT.Yl xs.length xs.length none=xs.length:=rfl;unfold cut;rw[e,e2];obtain h | h:=UP i xs.length
 ·rw[Nat.min_eq_left `a,T2 (by rw[T7];cbv)]
 ·rw[Nat.min_eq_right h,T3 (UJ _),T3 h,take_nil]
theorem sk:∀(n:Nat)(l:RS),l.Nodup->(∀x∈l,0<=x/\x<(n:Int))->l.length<=n
 | 0,l,_,h=>by
   cases l with
   | nil=>exact UJ _
   | cons x r=>have:=h x Sz;cbv
 | n+1,l,nd,h=>by
   by_cases q:(n:Int)∈l
   ·have:=sk n (l.erase (n:Int)) (nd.erase _) λx hx=>by
     let hm:=(nd.mem_erase_iff.mp hx);have:=h x hm.2;have:=hm.1;cbv
    rw[List.length_erase_of_mem q] at this;cbv
   ·have:=sk n l nd λx hx=>by
     have:=h x hx;have:x≠(n:Int):=λe=>q (e▸hx);cbv
    cbv
noncomputable def cX (F:R7)(k:Int):R7:=if(bq F k).isSome then F else F++[(k,(F.length:Int))]
def hV (p:hX)(r:Rw):Bool:=decide (p.2.1<r.1)&&decide (r.1<p.2.2)
noncomputable def dX (p:hX)(F:R7)(r:Rw):R7:=if hV p r then cX (cX F r.1) r.2.1 else F
noncomputable def cM (s:iL)(p:hX):R7:=s.rows.foldl (dX p) [(s.St.getD p.2.1.toNat 0,0),(p.2.2,1)]
def Reach (s:iL)(fd:RS):Prop:=(∀p∈s.parts,p.2.1∈fd)/\∀n∈fd,∀l∈s.Ld.getD n.toNat [],l∈fd
structure Good (s:iL):Prop where
 l:s.S.length<=240
 pl:s.parts.length<=4
 pn:(s.parts.map (·.1)).Nodup
 pv:∀p∈s.parts,0<=p.2.1/\p.2.1<(s.S.length:Int)
 li:yu s.S s.Ld
 l2:∀ls∈s.Ld,ls.length<=2
 sl:s.St.length=s.S.length
 sn:((s.S.filter λt=>decide (t.kind=("part":Str))).map (·.name)).Nodup
 ca:∀(n:Nat)(t:aI),s.S[n]?∣t->t.kind="call"->∃(m:Nat)(u:aI),n<m/\s.S[m]?∣u/\u.kind="part"/\u.name=t.name
 ct:∀fd,Reach s fd->∀n:Nat,n<s.S.length->aT s.S (n:Int)∈Ys->(n:Int)∈fd
 nc:∀p∈s.parts.drop 1,∃t∈s.S,t.kind="call"/\t.name=p.1
 eb:∀p∈s.parts,s.St.getD p.2.1.toNat 0≠p.2.2
 rl:s.rows.length<=30
 rk:∀r∈s.rows,(0<=r.1/\r.1<(s.S.length:Int))/\aT s.S r.1∈Ys
 pc:∀p∈s.parts,(cM s p).length<=16
noncomputable def xN:PV->Str
 | .tup (.str x::_)=>x
 | _=>""
theorem Co (p:hX):xN (ow p)=p.1:=rfl
abbrev K0:Stmt:=top vy
def zZ (C D:Addr):c9:=λK ps T=>∃s:iL,ps=[⟨cV C D,s⟩,⟨ae au,[]⟩]/\T=cq K (ae ah) (· =[])
theorem NZ (Df:Def K mg "name_words" K0 ["spots","parts"]):aD P w K mg base "name_words" 1 (aP (zZ C D) K):=by
 let Zs:S6 [("part":Str),"spots"]:=`c
 refine bP (N:=["spots","parts"]) Df `t;let⟨s,rfl,rfl⟩:=hS;exact aj (aY (bc.im (cI (own:=["part"]) (fr:=["spots"]) (ix:=[0]) (ra:=au) (rb:=ah) (p:=λ_=>true) (f:=λ_=>0) (bQ (so:=ao K0) (N0:=["spots","parts"]) rfl rfl `X `b) (bM `g)
  `D `O `aG (λC' s H ex o ho _=>by cases ho))) rfl)
abbrev Hb:Stmt:=top uo
abbrev JX:RU:=["spots","names"]
def jq (C D:Addr):c9:=λK ps T=>∃s:iL,ps=[⟨cV C D,s⟩]/\Good s/\T=cq K (ae ah) (· =[])
theorem jX {β:Type}{xs:`x}{p:α->Bool}{f:α->β}(h:∀x∈xs,p x=false):(xs.filter p).map f=[]:=by
 rw[Uu.mpr λx hx=>by rw[h x hx];decide];rfl
theorem Ju {xs:RU}(h:xs.Nodup)(hx:xs[i]?∣x):x∉xs.take i:=by
 intro hm;let⟨j,hj⟩:=SO.mp hm;let⟨jl,ej⟩:=Sn.mp hj;let⟨il,ei⟩:=Sn.mp hx;rw[SW] at jl;rw[List.getElem_take] at ej;have:=(Uq (h₀:=by cbv) (h₁:=il) h).mp (ej.trans ei.symm);cbv
theorem Oz (M:`aY)(HD:bL K D gf)(CN:`aF)(Df:Def K mg "named_again" Hb ["spots"]):aD P w K mg base "named_again" 2 `ap:=by
 let Zs:S6 [("part":Str)]:=`c
 let ndc2:S6 [("place":Str),"part","names"]:=`c
 refine bP (N:=JX) (k:=1) Df `t;let⟨s,rfl,hG,rfl⟩:=hS;let hnm:((s.parts.map ow).filter λ_=>true).map xN=s.parts.map (·.1):=by rw[Ts.mpr λ_ _=>rfl,Tp];rfl
 refine ai (bo 1 (y:=s.parts.map (·.1)) (EV.cast (bc.im (cI (own:=["part"]) (fr:=[]) (ix:=[]) (ra:=au) (rb:=ak) (p:=λ_=>true) (f:=xN) (bQ (so:=ao Hb) (N0:=JX) rfl rfl `X `b) (bM `bN)
  `D `U `aG (λC' s H ex o ho _=>by
   let⟨p,_,rfl⟩:=SU.mp ho;exact EV.sP (x:=p.1) (dv `e ac rfl)))) hnm) ?_)
 change WS _ _ [.im (cV C D) s,.im (ae ak) (s.parts.map (·.1))] _ _;refine aj (aY (y:=([]:RS)) (aB CN hr (ag `e (ag (x:=([]:List PV)) (EV.cast (bc.im (cI (own:=["place","part"]) (fr:=["names"]) (ix:=[1]) (ra:=dO ah au) (rb:=au) (p:=λz=>decide (xN z.2∈cut (s.parts.map (·.1)) none (some z.1))) (f:=λz=>z.2) (bQ (so:=ao Hb) (N0:=JX) rfl rfl `X `b) (iU M.enumerate `bN)
  (λC s H ex=>eQ 0 1) (λx=>⟨.inr rfl,.inr rfl,.inl rfl,trivial⟩) (λC' s H ex z hz=>?_) (λC' s H ex z hz _=>aa 1 rfl))) ?_) ax)) ⟨s,rfl,rfl⟩) rfl)
 ·let⟨i,hi⟩:=SO.mp hz;let⟨e1,e2⟩:=ft hi;rw[Sw] at e2;let⟨p,_,ep⟩:=U9.mp e2;let⟨zn,zp⟩:=z;dsimp only at e1 ep;subst ep;exact ji (ay sL (EV.sP (x:=p.1) (dv `g ac rfl)) (bc.im (lQ `s ov_none (ov_some `e))))
 ·refine jX λz hz=>?_;let⟨i,hi⟩:=SO.mp hz;let⟨e1,e2⟩:=ft hi;rw[Sw] at e2;let⟨p,hp,ep⟩:=U9.mp e2;rw[e1,← ep,Co];let il:=(Sn.mp hp).1;rw[KG (by rw[Ss];cbv)];exact XZ (Ju hG.pn (by rw[Sw,hp];rfl))
abbrev Qn:Stmt:=top rD
abbrev nCA:RU:=["spots","found","behind","step"]
noncomputable def YR (S:`M):RU:=(S.filter λt=>decide (t.kind=("part":Str))).map (·.name)
theorem mH (a b:`M):YR (a++b)=YR a++YR b:=by unfold YR;rw[TU,SN]
theorem J4 (h:(YR S).Nodup):(YR S.reverse).Nodup:=by
 unfold YR at h ⊢;rw[List.filter_reverse,List.map_reverse];exact List.pairwise_reverse.mpr (h.imp λz=>U8 z)
theorem Pb (M:`aY)(HC:bL K C i6)(HD:bL K D gf)(Df:Def K mg "called_astray" Qn ["spots"]):aD P w K mg base "called_astray" 1 `ap:=by
 refine bP (N:=nCA) Df `t;let⟨s,rfl,hG,rfl⟩:=hS;let hu:=ru hr;let hl:=hG.l;let hnd:=J4 (S:=s.S) hG.sn;refine ai (cF 1 (r:=ah) (ys:=[]) `aE ?_);refine ai (qk 2 ?_);refine WS.OZ 2 rfl λa=>?_;refine bG (N1:=λZ=>∃ks e3,Z=[.im (cV C D) s,.mu ah [],.ob (tU a ks),e3]) (bO (λi Z=>∃e3,Z=[.im (cV C D) s,.mu ah [],.ob (tU a (YR (s.S.reverse.take i))),e3]) (KI M.reversed (A0 (C:=C) HD `e)) (aU 3) ⟨_,rfl⟩ (λi t Z ht hΓ=>?_) `R) ?_
 ·let⟨e3,rfl⟩:=hΓ;let il:i<s.S.length:=by have:=(Sn.mp ht).1;rwa [Ul] at this
  let Y8:YR (s.S.reverse.take (i+1))=YR (s.S.reverse.take i)++YR [t]:=by rw[S9,ht,mH];rfl
  let Yx:(YR (s.S.reverse.take (i+1))).Nodup:=by
   have:YR s.S.reverse=YR (s.S.reverse.take (i+1))++YR (s.S.reverse.drop (i+1)):=by rw[← mH,TL]
   rw[this] at hnd;exact(Tf.mp hnd).1
  let hkl:(YR (s.S.reverse.take i)).length<=240:=by
   unfold YR;rw[Ss];refine UK (T5 _ _) ?_;rw[SW];cbv
  let hcall:t.kind="call"->t.name∈YR (s.S.reverse.take i):=λhk=>by
   rw[Uz il] at ht;let⟨m,u,hm',hu',ZD,hn'⟩:=hG.ca _ t ht hk;let ml:=(Sn.mp hu').1;unfold YR;refine SU.mpr ⟨u,Tn.mpr ⟨SD (i:=s.S.length-1-m) ?_,XY ZD⟩,hn'⟩;rw[List.getElem?_take,XU `a,Uz `a,show s.S.length-1-(s.S.length-1-m)=m by cbv];exact hu'
  rw[Y8];generalize YR (s.S.reverse.take i)=ks at Y8 hkl hcall;rw[Y8] at Yx;change WS _ _ [.im (cV C D) s,.mu ah [],.ob (tU a ks),.im (bN C) t] _ _;refine bG (N1:=λZ=>Z=[.im (cV C D) s,.mu ah [],.ob (tU a (ks++YR [t])),.im (bN C) t]) (aZ (ay bS (ig (C:=C) HC `q) aA) (λh=>?_) `Q) ?_
  ·let h:t.kind="part":=XW h;let hp:YR [t]=[t.name]:=by unfold YR;rw[Tw (~~~h)];rfl
   rw[hp] at Yx ⊢;refine aj (Jv 2 hu (tW (C:=C) HC `q) AL rfl (λz=>?_) (UM hkl `c) rfl);exact(Tf.mp Yx).2.2 t.name z t.name `bi rfl
  ·let h:¬t.kind="part":=XX h;let hp:YR [t]=[]:=by unfold YR;rw[Tx (~~~h)];rfl
   rw[hp,S3]
  rintro _ rfl;refine aj (aZ (TW.tv (de (ay bS (ig (C:=C) HC `q) aA) (λ_=>eO (EX 2 hu (tW (C:=C) HC `q) rfl)))) (λh=>?_) (λh=>aH ⟨.im (bN C) t,rfl⟩));exfalso;let⟨h1,h2⟩:=Bool.and_eq_true_iff.mp h;let h1:t.kind="call":=XW h1;rw[XY (SS _ (hcall h1))] at h2;cases h2
 ·let⟨e3,rfl⟩:=hΓ;exact⟨_,e3,rfl⟩
 rintro _ ⟨ks,e3,rfl⟩;refine WS.freeze 1 rfl (UL _) ?_;exact aj (aY `g rfl)
abbrev Hi:Stmt:=top AM
abbrev Qx:RU:=["spots","found","waiting","number"]
theorem La:bD Qx ["spots"] (ao Hi):=Zf
noncomputable def dT (fd:RS):List (Int×V):=fd.map λk=>(k,V.bl true)
theorem oE (fd:RS)(k:Int):jf (dT fd) k=decide (k∈fd):=by
 unfold jf dT;rw[List.any_map];by_cases h:k∈fd
 ·rw[XY h,UA];exact⟨k,h,`d⟩
 ·rw[XZ h];rw[List.any_eq_false];intro x hx;have:x≠k:=λe=>h (e▸hx);simpa using this
def Kf (C D:Addr):c9:=λK ps T=>∃s:iL,ps=[⟨cV C D,s⟩]/\Good s/\T=cq K n5 (λkvs=>∃fd,kvs=dT fd/\Reach s fd)
structure CtI (s:iL)(fd wt:RS):Prop where
 nd:fd.Nodup
 fv:∀n∈fd,0<=n/\n<(s.S.length:Int)
 wv:∀n∈wt,0<=n/\n<(s.S.length:Int)
 st:∀p∈s.parts,p.2.1∈fd∨p.2.1∈wt
 cl:∀n∈fd,∀l∈s.Ld.getD n.toNat [],l∈fd∨l∈wt
noncomputable def AU:PV->Int
 | .tup (_:: .int n::_)=>n
 | _=>0
theorem OD (M:`aY)(HD:bL K D gf)(F:dw K "come_to" "come_to" Hi f fd)(hm:mg "come_to"∣.ref f)(hb:be K fd ["spots"] []):aD P w K mg base "come_to" 1 (aP (Kf C D) K):=by
 let nd:=La.nd;let Zs:S6 [("part":Str)]:=`c
 refine ij F La hm hb (λqs T ⟨_,e,_⟩=>by rw[e];rfl) `bz;let⟨s,rfl,hG,rfl⟩:=hS;let hu:=ru hr;let hl:=hG.l;let⟨hll,Zi⟩:=hG.li;let Yo:=hG.pl;refine ai (qk 1 ?_);let hst:((s.parts.map ow).filter λ_=>true).map AU=s.parts.map (·.2.1):=by rw[Ts.mpr λ_ _=>rfl,Tp];rfl
 refine ai (mC 2 (own:=["part"]) (fr:=[]) (ix:=[]) (ra:=au) (rb:=ah) (p:=λ_=>true) (f:=AU) (bQ (so:=ao Hi) (N0:=Qx) rfl rfl `X `b) (bM `bN)
  `D `U `aG (λC' s H ex o ho _=>by
   let⟨p,_,rfl⟩:=SU.mp ho;exact EV.iP (n:=p.2.1) (dv `e ac rfl)) ?_)
 rw[hst];refine bG (N1:=λZ=>∃fd e3,Z=[.im (cV C D) s,.di (dT fd),.mu ah [],e3]/\Reach s fd) (mR (λm Z=>∃fd wt e3,Z=[.im (cV C D) s,.di (dT fd),.mu ah wt,e3]/\CtI s fd wt/\3*(s.S.length-fd.length)+wt.length=m/\m<=1000) (m0:=3*s.S.length+s.parts.length) ⟨[],s.parts.map (·.2.1),.no,rfl,⟨T9,(λn h=>by cases h),(λn h=>?_),(λp hp=>.inr (SU.mpr ⟨p,hp,rfl⟩)),(λn h=>by cases h)⟩,by rw[Ss];rfl,`a⟩ (λm Z hI=>?_)) ?_
 ·let⟨p,hp,rfl⟩:=SU.mp h;exact hG.pv p hp
 ·let⟨fd,wt,e3,rfl,hC,hmm,hm1⟩:=hI;let fl:=sk s.S.length fd hC.nd hC.fv;refine⟨!wt.isEmpty,_,mJ 2 rfl,λh=>?_,λh=>?_⟩
  ·let Yi:wt≠[]:=λz=>by rw[z] at h;cases h
   obtain⟨wi,n,rfl⟩:∃l x,wt=l++[x]:=⟨wt.dropLast,wt.getLast Yi,(TJ Yi).symm⟩;rw[Sx,S8] at hmm;let⟨n0,n1⟩:=hC.wv n (SH _ `bi);refine ai (bo 3 (y:=n) (xI 2 rfl `d) ?_);rw[show(wi++[n]).dropLast=wi by simp];refine aj (aZ (Iw 1 true hu `q rfl) (λh=>?_) `Q)
   ·let hnf:n∉fd:=by rw[XU rfl,oE] at h;simpa using h
    let YZ:cE s.Ld n∣(s.Ld.getD n.toNat []):=bb (xs:=s.Ld) (i:=n) [] n0 `a;let Z3:s.Ld.getD n.toNat []∈s.Ld:=by
     rw[Sr,So (show n.toNat<s.Ld.length by cbv)];exact S7 _
    let h2:=hG.l2 _ Z3;let hls:=Zi _ Z3;let fl2:=sk s.S.length (fd++[n]) (jF hC.nd hnf) λx hx=>by
     obtain z | z:=SK.mp hx
     ·exact hC.fv x z
     ·rw[Su.mp z];exact⟨n0,n1⟩
    rw[Sx,S8] at fl2;refine ai (Cr 1 hu `q AL rfl (by rw[oE];exact XZ hnf) (by unfold dT;rw[Ss];exact UM (show _<=1000 by cbv) `c) ?_);let e:dT fd++[(n,V.bl true)]=dT (fd++[n]):=by unfold dT;rw[SN];rfl
    rw[e];refine aj (Dm 2 (a9 (N3 (C:=C) HD `e) `q YZ) rfl rfl (aM `a) ⟨3*(s.S.length-(fd++[n]).length)+(wi++s.Ld.getD n.toNat []).length,by rw[Sx,Sx,S8];cbv,fd++[n],wi++s.Ld.getD n.toNat [],aE n,rfl,⟨jF hC.nd hnf,λx hx=>?_,λx hx=>?_,λp hp=>?_,λx hx l Zu=>?_⟩,rfl,by rw[Sx,Sx,S8];cbv⟩)
    ·obtain z | z:=SK.mp hx
     ·exact hC.fv x z
     ·rw[Su.mp z];exact⟨n0,n1⟩
    ·obtain z | z:=SK.mp hx
     ·exact hC.wv x (SS _ z)
     ·exact hls x z
    ·obtain z | z:=hC.st p hp
     ·exact .inl (SS _ z)
     ·obtain z | z:=SK.mp z
      ·exact .inr (SS _ z)
      ·exact .inl (SH _ z)
    ·obtain z | z:=SK.mp hx
     ·obtain q | q:=hC.cl x z l Zu
      ·exact .inl (SS _ q)
      ·obtain q | q:=SK.mp q
       ·exact .inr (SS _ q)
       ·exact .inl (SH _ q)
     ·rw[Su.mp z] at Zu;exact .inr (SH _ Zu)
   ·let hnf:n∈fd:=by rw[XU rfl,oE] at h;simpa using h
    refine⟨3*(s.S.length-fd.length)+wi.length,`a,fd,wi,aE n,rfl,⟨hC.nd,hC.fv,λx hx=>hC.wv x (SS _ hx),λp hp=>?_,λx hx l Zu=>?_⟩,rfl,`a⟩
    ·obtain z | z:=hC.st p hp
     ·exact .inl z
     ·obtain z | z:=SK.mp z
      ·exact .inr z
      ·rw[Su.mp z];exact .inl hnf
    ·obtain q | q:=hC.cl x hx l Zu
     ·exact .inl q
     ·obtain q | q:=SK.mp q
      ·exact .inr q
      ·rw[Su.mp q];exact .inl hnf
  ·let hwt:wt=[]:=by cases wt with
    | nil=>rfl
    | cons _ _=>cases h
   subst hwt;exact⟨fd,e3,rfl,λp hp=>(hC.st p hp).resolve_right `d,λn hn l Zu=>(hC.cl n hn l Zu).resolve_right `d⟩
 rintro _ ⟨fd,e3,rfl,hR⟩;exact aj (MH 1 rfl ⟨fd,rfl,hR⟩)
abbrev BI:Stmt:=top uH
abbrev L8:RU:=["spots","known","lost"]
theorem J6:bD L8 ["spots"] (ao BI):=Zf
theorem Of (M:`aY)(M2:lY K mg)(HC:bL K C i6)(HD:bL K D gf)(CT:aD P w K mg base "come_to" 1 (aP (Kf C D) K))(F:dw K "not_come_to" "not_come_to" BI f fd)(hm:mg "not_come_to"∣.ref f)(hb:be K fd ["spots"] []):aD P w K mg base "not_come_to" 2 `ap:=by
 let nd:=J6.nd;let Zs:S6 [("number":Str),"step","known"]:=`c
 let ndc2:S6 [("step":Str)]:=`c
 refine ij (k:=1) F J6 hm hb (λqs T ⟨_,e,_⟩=>by rw[e];rfl) `bz;let⟨s,rfl,hG,rfl⟩:=hS;let hu:=ru hr;let hl:=hG.l;refine ai (An 1 CT hr `bb ⟨s,rfl,hG,rfl⟩ ?_);rintro _ ⟨fd,rfl,hR⟩;change WS _ _ [.im (cV C D) s,.im n5 (dT fd),.no] _ _;refine ai (mC 2 (own:=["number","step"]) (fr:=["known"]) (ix:=[1]) (ra:=dO ah (bN C)) (rb:=bN C) (p:=λz=> !jf (dT fd) z.1) (f:=λz=>z.2) (bQ (so:=ao BI) (N0:=L8) rfl rfl `X `b) (iU M.enumerate (A0 (C:=C) HD `e))
  (λC s H ex=>eQ 0 1) (λx=>⟨.inr rfl,.inr rfl,.inl rfl,trivial⟩) (λC' s H ex z hz=>ji (zo hu `e `s)) (λC' s H ex z hz _=>aa 1 rfl) ?_)
 let lz:(((nums s.S).filter λz=> !jf (dT fd) z.1).map λz=>z.2).length<=240:=by
  rw[Ss];refine UK (T5 _ _) ?_;rw[cN];exact hl
 refine WS.freeze 2 rfl (aM `a) ?_;refine aj (aY (bc.im (cI (own:=["step"]) (fr:=[]) (ix:=[]) (ra:=bN C) (rb:=ah) (p:=λt=>decide (t.kind∈Ys)) (f:=λt=>t.word) (bQ (so:=ao BI) (N0:=L8) rfl rfl `X `b) (bM `s)
  `D `U (λC' s H ex t ht=>ji (ay ma (ig (C:=C) HC `e) (iF M2.Ys))) (λC' s H ex t ht _=>Oi (C:=C) HC `e))) ?_)
 refine jX λt ht=>?_;let⟨z,hz,rfl⟩:=SU.mp ht;let⟨hz,hp⟩:=Tn.mp hz;let⟨n,nl,e1,e2⟩:=pX hz;refine XZ λhk=>?_;have:=hG.ct fd hR n nl (by unfold aT;rw[show((n:Nat):Int).toNat=n by cbv,e2];exact hk);rw[oE,e1,XY this] at hp;cases hp
abbrev G3:Stmt:=top vC
abbrev LX:RU:=["spots","called"]
theorem OA (M:`aY)(HC:bL K C i6)(HD:bL K D gf)(CN:`aF)(Df:Def K mg "not_called" G3 ["spots"]):aD P w K mg base "not_called" 2 `ap:=by
 let Zs:S6 [("step":Str)]:=`c
 let ndc2:S6 [("part":Str),"called"]:=`c
 refine bP (N:=LX) (k:=1) Df `t;let⟨s,rfl,hG,rfl⟩:=hS;refine ai (bo 1 (bc.im (cI (own:=["step"]) (fr:=[]) (ix:=[]) (ra:=bN C) (rb:=ak) (p:=λt=>decide (t.kind="call")) (f:=λt=>t.name) (bQ (so:=ao G3) (N0:=LX) rfl rfl `X `b) (bM (A0 (C:=C) HD `e))
  `D `U (λC' s H ex t ht=>ji (ay bS (ig (C:=C) HC `e) aA)) (λC' s H ex t ht _=>tW (C:=C) HC `e))) ?_)
 generalize hcl:(s.S.filter λt=>decide (t.kind=("call":Str))).map (λt=>t.name)=cs;refine aj (aY (y:=([]:RS)) (aB CN hr (ag `e (ag (x:=([]:List PV)) (EV.cast (bc.im (cI (own:=["part"]) (fr:=["called"]) (ix:=[1]) (ra:=au) (rb:=au) (xs:=cut (s.parts.map ow) (some 1) none) (p:=λz=> !decide (xN z∈cs)) (f:=λz=>z) (bQ (so:=ao G3) (N0:=LX) rfl rfl `X `b) (bM (bc.im (lQ `bN (ov_some ac) ov_none)))
  `D `O (λC' s H ex z hz=>?_) (λC' s H ex z hz _=>aa 0 rfl))) ?_) ax)) ⟨s,rfl,rfl⟩) rfl)
 ·rw[show((1:Int))=((1:Nat):Int) from rfl,tN,← UD] at hz;let⟨p,_,rfl⟩:=SU.mp hz;exact ji (ay DE (EV.sP (x:=p.1) (dv `e ac rfl)) `g)
 ·refine jX λz hz=>?_;rw[show((1:Int))=((1:Nat):Int) from rfl,tN,← UD] at hz;let⟨p,hp,rfl⟩:=SU.mp hz;let⟨t,ht,hk,hn⟩:=hG.nc p hp;rw[Co,XY (show p.1∈cs from by rw[← hcl];exact SU.mpr ⟨t,Tn.mpr ⟨ht,XY hk⟩,hn⟩)];rfl
noncomputable def um (ts:`N)(k bh lp:Int):Int:=match ts with
 | []=>bh
 | .leave::_=>lp
 | .back::_=> -1
 | _::_=>k
mutual
noncomputable def fZ:Th->Int->Int->Int->List jh
 | .Yq x,k,af,lp=>[("do",x,k,af, -1)]
 | .call j,k,af,lp=>[("call","",k,af,j)]
 | .ifs x A B,k,af,lp=>([(("yes":Str),x,k,um A (k+1) af lp, -1),(("no":Str),x,k,um B (aR A (k+1)).2 af lp, -1)]:List jh)++(jP A (k+1) af lp++jP B (aR A (k+1)).2 af lp)
 | .X9 x A,k,af,lp=>([(("yes":Str),x,k,um A (k+1) k af, -1),(("no":Str),x,k,af, -1)]:List jh)++jP A (k+1) k af
 | .leave,_,_,_=>[]
 | .back,_,_,_=>[]
noncomputable def jP:List Th->Int->Int->Int->List jh
 | [],_,_,_=>[]
 | t::ts,k,bh,lp=>fZ t k (um ts (bI t k).2 bh lp) lp++jP ts (bI t k).2 bh lp
end
noncomputable def zW (lp:Bool)(l:Int):PV:=if lp=true then .int l else .Ye
variable {l:Int}
theorem vT :∀{ts:`N}(k bh:Int),bK lo m lp ts->lJ ts k (.int bh) (zW lp l)= .int (um ts k bh l)
 | [],k,bh,_=>rfl
 | .leave::ts,k,bh,h=>by
   simp only[bK,bU] at h;show zW lp l= .int l;rw[zW,XU h.1]
 | .back::ts,k,bh,_=>rfl
 | .Yq _::ts,k,bh,_=>rfl
 | .call _::ts,k,bh,_=>rfl
 | .ifs _ _ _::ts,k,bh,_=>rfl
 | .X9 _ _::ts,k,bh,_=>rfl
mutual
theorem JQ {lo m:Int}:∀(t:Th){lp:Bool}(l k af:Int),bU lo m lp t->eY t k (.int af) (zW lp l)=(fZ t k af l).map fP
 | .Yq x,lp,l,k,af,_=>by rw[eY,fZ];rfl
 | .call j,lp,l,k,af,_=>by rw[eY,fZ];rfl
 | .leave,lp,l,k,af,_=>by rw[eY,fZ];rfl
 | .back,lp,l,k,af,_=>by rw[eY,fZ];rfl
 | .ifs x A B,lp,l,k,af,h=>by
   simp only[bU] at h;rw[eY,fZ,vT (k+1) af h.2.1,vT _ af h.2.2,oP A l (k+1) af h.2.1,oP B l _ af h.2.2,SN,SN];rfl
 | .X9 x A,lp,l,k,af,h=>by
   simp only[bU] at h;let e:(PV.int af)=zW true af:=rfl;rw[eY,fZ,e,vT (k+1) k h.2,oP A af (k+1) k h.2,SN];rfl
theorem oP {lo m:Int}:∀(ts:`N){lp:Bool}(l k bh:Int),bK lo m lp ts->fk ts k (.int bh) (zW lp l)=(jP ts k bh l).map fP
 | [],lp,l,k,bh,_=>by rw[fk,jP];rfl
 | t::ts,lp,l,k,bh,h=>by
   simp only[bK] at h;rw[fk,jP,vT _ bh h.2.2,JQ t l k _ h.1,oP ts l _ bh h.2.2,SN]
end
structure kB (mg:RQ):Prop where
 beg:∃t,mg "BEGIN"∣.int 0 t
 end_:∃t,mg "END"∣.int 1 t
 parts:∃t,mg "MOST_PARTS"∣.int 4 t
 places:∃t,mg "MOST_PLACES"∣.int 16 t
 rows:∃t,mg "MOST_PROGRAM_ROWS"∣.int 30 t
theorem v5 (i j:Nat){z:Str}{p2 ap:Pos}{s:iL}{k y:Int}(hD:bL X.K D gf)(hΓ:Z[i]?∣(.im (cV C D) s))(hj:Z[j]?∣aE k)(hk:cE s.St k∣y)(hN:`p)(hN':autoParam (At X j z) cg)(hb:fA X `m "stands":=by rfl)(hsx:dU (.Name z p2):=by exact λ_ _=>rfl):sZ X (.Subscript (.Attribute `m "stands" ap) (.Name z p2) pos) Z y:=λσ H0 R0 H R E H' Q sR q=>by
 let⟨v,ea,xx,dx,vs,rfl,h1,h2⟩:=E.ent i _ hΓ;let⟨u,q1,q2⟩:=h2.get (f:="stands") rfl;let⟨b,ws,rfl,Zd,pp,hz⟩:=(show(ae ah).R X.K R u s.St from q2);let⟨v0,e0,Zz⟩:=E.ent j _ hj;cases Zz
 let⟨w,e3,e4⟩:=iW pp hk;cases e4
 exact eS (ip gT (v9 (aX hN) hb) (aX hN') hsx) ⟨.ref xx,am ea,xx,D,dx,vs,.ref b,rfl,sR _ _ h1,hD.cl,hD.no _ (dR `c),q1,.int k,am e0,b,ws,k,.int y,rfl,rfl,bu.of (sR _ _ Zd),e3,q⟩
abbrev KU:Stmt:=top qw
noncomputable def QM:PV->Int
 | .tup (_::_:: .int n::_)=>n
 | _=>0
theorem Nc (HD:bL K D gf)(CN:`aF)(Df:Def K mg "ended_at_begin" KU ["spots"]):aD P w K mg base "ended_at_begin" 2 `ap:=by
 let Zs:S6 [("part":Str),"spots"]:=`c
 refine bP (N:=["spots"]) (k:=1) Df `t;let⟨s,rfl,hG,rfl⟩:=hS;refine aj (aY (y:=([]:RS)) (aB CN hr (ag `e (ag (x:=([]:List PV)) (EV.cast (bc.im (cI (own:=["part"]) (fr:=["spots"]) (ix:=[0]) (ra:=au) (rb:=au) (p:=λz=>decide (s.St.getD (AU z).toNat 0=QM z)) (f:=λz=>z) (bQ (so:=ao KU) (N0:=["spots"]) rfl rfl `X `b) (bM `bN)
  `D `O (λC' s' H ex z hz=>?_) (λC' s H ex z hz _=>aa 0 rfl))) ?_) ax)) ⟨s,rfl,rfl⟩) rfl)
 ·let⟨p,hp,rfl⟩:=SU.mp hz;let⟨p0,p1⟩:=hG.pv p hp;exact ji (ay iD (a9 (Na (C:=C) HD `g) (EV.iP (n:=p.2.1) (dv `e ac rfl)) (bb (xs:=s.St) (i:=p.2.1) 0 p0 (by rw[hG.sl];exact p1))) (EV.iP (n:=p.2.2) (dv `e ac rfl)))
 ·refine jX λz hz=>?_;let⟨p,hp,rfl⟩:=SU.mp hz;exact XZ (hG.eb p hp)
abbrev J5:Stmt:=top t9
theorem NI (M3:kB mg)(HD:bL K D gf)(Df:Def K mg "rows_beyond" J5 ["spots"]):aD P w K mg base "rows_beyond" 1 `ap:=by
 let Zs:S6 [("row":Str),"spots"]:=`c
 refine bP (N:=["spots"]) Df `t;let⟨s,rfl,hG,rfl⟩:=hS;let⟨t,ht⟩:=M3.rows;let hc:cut (s.rows.map jS) (some 30) none=[]:=by
  rw[show((30:Int))=((30:Nat):Int) from rfl,tN,← UD,T3 hG.rl];rfl
 exact aj (aY (bc.im (cI (own:=["row"]) (fr:=["spots"]) (ix:=[0]) (ra:=au) (rb:=ah) (xs:=[]) (p:=λ_=>true) (f:=λ_=>0) (bQ (so:=ao J5) (N0:=["spots"]) rfl rfl `X `b) (bM (EV.cast (bc.im (lQ (sj (C:=C) HD `e) (ov_some (fO ht)) ov_none)) hc))
  `D `O `aG (λC' s H ex o ho _=>by cases ho))) rfl)
abbrev PM:Stmt:=top r9
theorem Np (M3:kB mg)(HD:bL K D gf)(CN:`aF)(Df:Def K mg "parts_beyond" PM ["spots"]):aD P w K mg base "parts_beyond" 2 `ap:=by
 refine bP (N:=["spots"]) (k:=1) Df `t;let⟨s,rfl,hG,rfl⟩:=hS;let⟨t,ht⟩:=M3.parts;let hc:cut (s.parts.map ow) (some 4) none=[]:=by
  rw[show((4:Int))=((4:Nat):Int) from rfl,tN,← UD,T3 hG.pl];rfl
 exact aj (aY (y:=([]:RS)) (aB CN hr (ag `e (ag (x:=([]:List PV)) (EV.cast (bc.im (lQ `bN (ov_some (fO ht)) ov_none)) hc) ax)) ⟨s,rfl,rfl⟩) rfl)
abbrev JN:Stmt:=top yq
abbrev Rj:RU:=["spots","part","first","last","told","row","step"]
def EC (C D:Addr):c9:=λK ps T=>∃(s:iL)(i:Nat)(p:hX),ps=[⟨cV C D,s⟩,⟨ah,(i:Int)⟩]/\Good s/\s.parts[i]?∣p/\T=cq K h9 (· =cM s p)
theorem qu (F:R7)(k:Int):(cX F k).length<=F.length+1:=by
 unfold cX;split
 ·cbv
 ·rw[Sx];simp
theorem Iq (p:hX)(F:R7)(r:Rw):(dX p F r).length<=F.length+2:=by
 unfold dX;split
 ·exact UK (qu _ _) (by have:=qu F r.1;cbv)
 ·cbv
theorem KR (p:hX)(F:R7)(rs:List Rw):(rs.foldl (dX p) F).length<=F.length+2*rs.length:=by
 induction rs generalizing F with
 | nil=>exact UJ _
 | cons r rs ih=>
   rw[Tt,SE];have:=ih (dX p F r);have:=Iq p F r;cbv
theorem Kq (M:`aY)(M3:kB mg)(HD:bL K D gf)(Df:Def K mg "places_in" JN ["spots","part"]):aD P w K mg base "places_in" 1 (aP (EC C D) K):=by
 refine bP (N:=Rj) Df `t;let⟨s,i,p,rfl,hG,hp,rfl⟩:=hS;let⟨t1,hbg⟩:=M3.beg;let⟨t2,hen⟩:=M3.end_;let pm:=SD hp;let il:=(Sn.mp hp).1;let⟨p0,p1⟩:=hG.pv p pm;let hrl:=hG.rl;let YZ:cE (s.parts.map ow) (i:Int)∣ow p:=by
  rw[jT `a (by rw[Ss];cbv),show((i:Nat):Int).toNat=i by cbv,Sw,hp];rfl
 refine ai (bo 2 (y:=p.2.1) (EV.iP (dv (xs:=[.str p.1,.int p.2.1,.int p.2.2]) (a9 `bN `g YZ) ac rfl)) ?_);refine ai (bo 3 (y:=p.2.2) (EV.iP (dv (xs:=[.str p.1,.int p.2.1,.int p.2.2]) (a9 `bN `g YZ) ac rfl)) ?_);refine ai (IM 4 (v:=0) (u:=1) (v5 (C:=C) 0 2 HD rfl rfl (bb (xs:=s.St) (i:=p.2.1) 0 p0 (by rw[hG.sl];exact p1))) (yH 3 rfl) (jJ rfl hbg ⟨t1,rfl⟩) (jJ rfl hen ⟨t2,rfl⟩) (hG.eb p pm) ?_);generalize hF0:[(s.St.getD p.2.1.toNat 0,(0:Int)),(p.2.2,1)]=F0;let Yo:cM s p=s.rows.foldl (dX p) F0:=by unfold cM;rw[hF0]
 let f0l:F0.length=2:=by rw[← hF0];rfl
 rw[Yo];refine bG (N1:=λZ=>∃e5 e6,Z=[.im (cV C D) s,aE (i:Int),aE p.2.1,aE p.2.2,.di (cK (s.rows.foldl (dX p) F0)),e5,e6]) (bO (λj Z=>∃e5 e6,Z=[.im (cV C D) s,aE (i:Int),aE p.2.1,aE p.2.2,.di (cK ((s.rows.take j).foldl (dX p) F0)),e5,e6]) (bM (sj (C:=C) HD `e)) (aU 5) ⟨_,_,rfl⟩ (λj z Z hz hΓ=>?_) `R) ?_
 ·let⟨e5,e6,rfl⟩:=hΓ;rw[Sw] at hz;let⟨r,Y7,rfl⟩:=U9.mp hz;let jl:=(Sn.mp Y7).1;let fl:=KR p F0 (s.rows.take j);let tl:(s.rows.take j).length<=30:=by rw[SW];cbv
  let Y8:(s.rows.take (j+1)).foldl (dX p) F0=dX p ((s.rows.take j).foldl (dX p) F0) r:=by rw[S9,Y7,Tu];rfl
  rw[Y8];generalize (s.rows.take j).foldl (dX p) F0=Fj at fl;let fj:Fj.length<=62:=`a
  change WS _ _ [.im (cV C D) s,aE (i:Int),aE p.2.1,aE p.2.2,.di (cK Fj),.im au (jS r),e6] _ _;refine aj (aZ (E9 nD nD `s (EV.iP (n:=r.1) (dv `Y ac rfl)) `q) (λh=>?_) (λh=>aH ⟨.im au (jS r),e6,?_⟩))
  ·let Zi:hV p r=true:=h;let hcut:cut [PV.int r.1,.int r.2.1,.str r.2.2.1,.str r.2.2.2] none (some 2)=[.int r.1,.int r.2.1]:=rfl;let g:dX p Fj r=cX (cX Fj r.1) r.2.1:=XU Zi;rw[g];let l1:=qu Fj r.1;refine aj (bO (r:=au) (xs:=[.int r.1,.int r.2.1]) (λq Z=>∃e6,Z=[.im (cV C D) s,aE (i:Int),aE p.2.1,aE p.2.2,.di (cK (([r.1,r.2.1].take q).foldl cX Fj)),.im au (jS r),e6]) (Ic (by show 2<=Vn;decide) (EV.cast (Ko `Y ov_none (ov_some ac)) (congrArg PV.tup hcut))) (aU 6) ⟨_,rfl⟩ (λq y Z hy hΓ=>?_) `R)
   ·let⟨e6,rfl⟩:=hΓ;obtain⟨n,hn,rfl⟩:∃n,[r.1,r.2.1][q]?∣n/\PV.int n=y:=by
     have:([r.1,r.2.1].map PV.int)[q]?∣y:=hy;rw[Sw] at this;exact U9.mp this
    let hnq:([r.1,r.2.1].take (q+1)).foldl cX Fj=cX (([r.1,r.2.1].take q).foldl cX Fj) n:=by rw[S9,hn,Tu];rfl
    rw[hnq];let hql:(([r.1,r.2.1].take q).foldl cX Fj).length<=64:=by
     let key:∀(ks:RS)(G:R7),(ks.foldl cX G).length<=G.length+ks.length:=by
      intro ks
      induction ks with
      | nil=>intro G;exact UJ _
      | cons k ks ih=>intro G;rw[Tt,SE];have:=ih (cX G k);have:=qu G k;cbv
     have:=key ([r.1,r.2.1].take q) Fj;have:([r.1,r.2.1].take q).length<=2:=by rw[SW];exact U1 _ _
     cbv
    generalize ([r.1,r.2.1].take q).foldl cX Fj=G at hql;change WS _ _ [.im (cV C D) s,aE (i:Int),aE p.2.1,aE p.2.2,.di (cK G),.im au (jS r),.im au (.int n)] _ _;refine aj (Ln 4 (k:=n) (EV.iP `au) (nO 4 M.len rfl) rfl (UM hql `c) ⟨.im au (.int n),?_⟩);unfold cX;rfl
   ·let⟨e6,rfl⟩:=hΓ;exact⟨.im au (jS r),e6,rfl⟩
  ·let Zi:¬hV p r=true:=by
    rw[show hV p r=false from h];decide
   rw[show dX p Fj r=Fj from XT Zi]
 ·let⟨e5,e6,rfl⟩:=hΓ;refine⟨e5,e6,?_⟩;rw[Ss,Td]
 rintro _ ⟨e5,e6,rfl⟩;exact aj (zS 4 rfl rfl)
noncomputable def Bg:PV->Int
 | .tup (.int n::_)=>n
 | _=>0
abbrev Bu:Stmt:=top rQ
abbrev LH:RU:=["spots","known","lost","found","number","part","whole"]
theorem KZ:bD LH ["spots"] (ao Bu):=Zf
theorem Ng (M:`aY)(M3:kB mg)(HD:bL K D gf)(CN:`aF)(CT:aD P w K mg base "come_to" 1 (aP (Kf C D) K))(CP:aD P w K mg base "places_in" 1 (aP (EC C D) K))(F:dw K "places_beyond" "places_beyond" Bu f fd)(hm:mg "places_beyond"∣.ref f)(hb:be K fd ["spots"] []):aD P w K mg base "places_beyond" 2 `ap:=by
 let nd:=KZ.nd;let Zs:S6 [("row":Str),"known"]:=`c
 let ndc2:S6 [("row":Str),"part"]:=`c
 refine ij (k:=1) F KZ hm hb (λqs T ⟨_,e,_⟩=>by rw[e];rfl) `bz;let⟨s,rfl,hG,rfl⟩:=hS;let⟨t,hmp⟩:=M3.places;let hu:=ru hr;refine ai (An 1 CT hr `bb ⟨s,rfl,hG,rfl⟩ ?_);rintro _ ⟨fd,rfl,hR⟩;let hlost:(((s.rows.map jS).filter λz=> !jf (dT fd) (Bg z)).map Bg)=[]:=jX λz hz=>by
  let⟨r,Y7,rfl⟩:=SU.mp hz;let⟨⟨r0,r1⟩,rk⟩:=hG.rk r Y7;have:=hG.ct fd hR r.1.toNat `a (by rw[show((r.1.toNat:Nat):Int)=r.1 by cbv];exact rk);rw[show((r.1.toNat:Nat):Int)=r.1 by cbv] at this;show(!jf (dT fd) r.1)=false;rw[oE,XY this];rfl
 refine ai (mC 2 (own:=["row"]) (fr:=["known"]) (ix:=[1]) (ra:=au) (rb:=ah) (p:=λz=> !jf (dT fd) (Bg z)) (f:=Bg) (bQ (so:=ao Bu) (N0:=LH) rfl rfl `X `b) (bM (sj (C:=C) HD `e))
  `D `O (λC' s H ex z hz=>by
   let⟨r,_,rfl⟩:=SU.mp hz;exact ji (zo hu (EV.iP (n:=r.1) (dv `e ac rfl)) `g)) (λC' s H ex z hz _=>by
   let⟨r,_,rfl⟩:=SU.mp hz;exact EV.iP (n:=r.1) (dv `e ac rfl)) ?_)
 rw[hlost];refine WS.freeze 2 rfl (UL _) ?_;refine ai (cF 3 (r:=au) (ys:=[]) `aE ?_);refine bG (N1:=λZ=>∃e4 e5 e6,Z=[.im (cV C D) s,.im n5 (dT fd),eT [],.mu au [],e4,e5,e6]) (bO (λi Z=>∃e4 e5 e6,Z=[.im (cV C D) s,.im n5 (dT fd),eT [],.mu au [],e4,e5,e6]) (iU M.enumerate `bN) (eQ 4 5) ⟨_,_,_,rfl⟩ (λi z Z hz hΓ=>?_) (λZ hΓ=>hΓ)) ?_
 ·let⟨e4,e5,e6,rfl⟩:=hΓ;let⟨e1,e2⟩:=ft hz;rw[Sw] at e2;let⟨p,hp,ep⟩:=U9.mp e2;let⟨zn,zp⟩:=z;dsimp only at e1 ep;subst ep;subst e1;refine ai (bo 6 (y:=true) (EV.cast (xE (Lg M.any (bc.im (cI (own:=["row"]) (fr:=["part"]) (ix:=[5]) (ra:=ah) (rb:=cU) (p:=λ_=>true) (f:=λ_=>true) (bQ (so:=ao Bu) (N0:=LH) rfl rfl `X `b) (bM `s)
   `D `O `aG (λC' s H ex o ho _=>by cases ho))))) rfl) ?_)
  refine aj (aZ (TW.tv (de (bV `au) (λ_=>eO (ay jz (xS M.len (aB CP hr (ag `e (ag `af ax)) ⟨s,i,p,rfl,hG,hp,rfl⟩)) (fO hmp))))) (λh=>?_) (λh=>aH ⟨_,_,_,rfl⟩));exfalso;have:=hG.pc p (SD hp);rw[XZ (show¬(16:Int)<((cM s p).length:Int) by cbv)] at h;cases h
 rintro _ ⟨e4,e5,e6,rfl⟩;refine WS.freeze 3 rfl (UL _) ?_;exact aj (aY (y:=([]:RS)) (aB CN hr (ag `e (ag `q ax)) ⟨s,rfl,rfl⟩) rfl)
abbrev Pu:Stmt:=top vA
abbrev nHI:RU:=["spots","found"]
theorem N5 (NA:aD P w K mg base "named_again" 2 `ap)(CA:aD P w K mg base "called_astray" 1 `ap)(NC:aD P w K mg base "not_come_to" 2 `ap)(NL:aD P w K mg base "not_called" 2 `ap)(EB:aD P w K mg base "ended_at_begin" 2 `ap)(RB:aD P w K mg base "rows_beyond" 1 `ap)(PY:aD P w K mg base "places_beyond" 2 `ap)(PB:aD P w K mg base "parts_beyond" 2 `ap)(Df:Def K mg "hindrances" Pu ["spots"]):aD P w K mg base "hindrances" 3 `ap:=by
 let CA:=CA.mono (show 1<=2 by decide);let RB:=RB.mono (show 1<=2 by decide);refine bP (N:=nHI) (k:=2) Df `t;let⟨s,rfl,hG,rfl⟩:=hS;let z:(([]:RS)).length+(([]:RS)).length<=Vn:=UL _;refine ai (bo 1 (y:=([]:RS)) (bc.im (cT (xs:=[]) (ys:=[]) (bc.im (cT (xs:=[]) (ys:=[]) (bc.im (cT (xs:=[]) (ys:=[]) (aB NA hr `bb ⟨s,rfl,hG,rfl⟩) (aB CA hr `bb ⟨s,rfl,hG,rfl⟩) z)) (aB NC hr `bb ⟨s,rfl,hG,rfl⟩) z)) (aB NL hr `bb ⟨s,rfl,hG,rfl⟩) z)) ?_);exact aj (aY (y:=([]:RS)) (bc.im (cT (xs:=[]) (ys:=[]) (bc.im (cT (xs:=[]) (ys:=[]) (bc.im (cT (xs:=[]) (ys:=[]) (bc.im (cT (xs:=[]) (ys:=[]) `g (aB EB hr `bb ⟨s,rfl,hG,rfl⟩) z)) (aB RB hr `bb ⟨s,rfl,hG,rfl⟩) z)) (aB PY hr `bb ⟨s,rfl,hG,rfl⟩) z)) (aB PB hr `bb ⟨s,rfl,hG,rfl⟩) z)) rfl)
abbrev QF:Stmt:=top sE
abbrev nNP:RU:=["text","spots","found"]
def Mq (C D:Addr):c9:=λK ps T=>∃(x:Str)(S:`M)(Ld:`bn),ps=[⟨ak,x⟩]/\rq x S/\oF S Ld/\Good (Yj S Ld)/\T=cq K (cV C D) (· =Yj S Ld)
theorem Oa (G:yv P w K mg base C D)(CH:aD P w K mg base "hindrances" 3 `ap)(Df:Def K mg "need_program" QF ["text"]):aD P w K mg base "need_program" 6 (aP (Mq C D) K):=by
 let CH:=CH.mono (show 3<=5 by decide);refine bP (N:=nNP) (k:=5) Df `t;let⟨x,S,Ld,rfl,hx,hk,hG,rfl⟩:=hS;refine ai (bo 1 (y:=Yj S Ld) (EH G hr `bb hx hk) ?_);refine ai (bo 2 (y:=([]:RS)) (aB CH hr (ag `g ax) ⟨Yj S Ld,rfl,hG,rfl⟩) ?_);refine ai (aZ (xk `s) (λh=>by cases h) (λ_=>aH ?_));exact aj (aY `g rfl)
section
variable {a b:Int}{l:RS}
def Pure:Prop:=∀(X0:RU)(Ls:`A),cv X0 Ls->∃Ld,oF `i Ld/\Good (Yj `i Ld)
theorem zq (h:`aJ):rq (Xj " " (gO X0 Ls)) `i:=by
 let⟨pl,po⟩:=xb h;refine⟨gO X0 Ls,_,rfl,λe=>?_,pl,po,uY h⟩;have:=h.l1;let hl:=h.l;cases X0 with
 | nil=>rw[S4] at hl;cbv
 | cons x X0=>cases Ls with
   | nil=>exact XS h.l1 `d
   | cons L Ls=>
     unfold gO at e;rw[List.zip_cons_cons,TB] at e;unfold gw at e;simp at e
def cJ (S:`x)(a:Nat)(vs:`x):Prop:=∀(i:Nat)(v:α),vs[i]?∣v->S[a+i]?∣v
theorem cJ.app {S:`x}{w:Nat}{a b:`x}(h:cJ S w (a++b)):cJ S w a/\cJ S (w+a.length) b:=by
 refine⟨λi v hv=>h i v ?_,λi v hv=>?_⟩
 ·rw[S0 (Sn.mp hv).1];exact hv
 ·have:=h (a.length+i) v (by rw[SV `a,show a.length+i-a.length=i by cbv];exact hv);rw[show w+a.length+i=w+(a.length+i) by cbv];exact this
theorem cJ.self (S:`x):cJ S 0 S:=λi v hv=>by rw[UR];exact hv
theorem cJ.d {α:Type}{S:`x}{a:Nat}{vs:`x}(h:cJ S a vs){i:Nat}{v:α}(hv:vs[i]?∣v)(d:α):S.getD (a+i) d=v/\a+i<S.length:=by
 have:=h i v hv;exact⟨by rw[Sr,this];rfl,(Sn.mp this).1⟩
theorem cJ.k {a:Nat}{vs:`M}(h:cJ S a vs){v:aI}(hv:vs[i]?∣v):aT S ((a+i:Nat):Int)=v.kind/\cQ S ((a+i:Nat):Int)=v.within/\a+i<S.length:=by
 let⟨e,l⟩:=h.d hv dy;unfold aT;rw[show(((a+i:Nat)):Int).toNat=a+i by cbv,e];refine⟨rfl,?_,l⟩;show(S.getD (((a+i:Nat)):Int).toNat dy).within=_;rw[show(((a+i:Nat)):Int).toNat=a+i by cbv,e]
noncomputable def cw (S:`M):RS:=(S.filter λt=>decide (t.kind∈X7)).map (·.within)
theorem ia (a b:`M):cw (a++b)=cw a++cw b:=by unfold cw;rw[TU,SN]
theorem nQ (h:s.kind∉X7):cw [s]=[]:=by unfold cw;rw[Tx (~~~h)];rfl
theorem tH (h:s.kind∈X7):cw [s]=[s.within]:=by unfold cw;rw[Tw (~~~h)];rfl
def js (a b:Int)(l:RS):Prop:=l.Nodup/\∀x∈l,a<=x/\x<b
theorem js.app {c:Int}{m:RS}(h:js a b l)(h':js b c m)(h1:a<=b)(h2:b<=c):js a c (l++m):=by
 refine⟨Tf.mpr ⟨h.1,h'.1,λx hx y hy e=>?_⟩,λx hx=>?_⟩
 ·have:=h.2 x hx;have:=h'.2 y hy;cbv
 ·obtain z | z:=SK.mp hx
  ·have:=h.2 x z;cbv
  ·have:=h'.2 x z;cbv
theorem js.wide {a' b':Int}(h:js a b l)(h1:a'<=a)(h2:b<=b'):js a' b' l:=⟨h.1,λx hx=>by have:=h.2 x hx;cbv⟩
theorem js.add {x:Int}(h:js a b l)(hx:x<a∨b<=x)(lo hi:Int)(h1:lo<=a)(h2:b<=hi)(h3:lo<=x)(h4:x<hi):js lo hi (l++[x]):=by
 refine⟨jF h.1 λz=>by have:=h.2 x z;cbv,λy hy=>?_⟩;obtain z | z:=SK.mp hy
 ·have:=h.2 y z;cbv
 ·rw[Su.mp z];cbv
theorem js.nil (a b:Int):js a b []:=⟨T9,λx h=>by cases h⟩
mutual
theorem cwT {X0:RU}:∀(t:Th)(a w u:Int),js a (a+bB t) (cw (spT X0 a w u t))
 | .Yq _,a,w,u=>by rw[spT,nQ (show("do":Str)∉X7 by decide +kernel)];exact .nil _ _
 | .call _,a,w,u=>by rw[spT,nQ (show("call":Str)∉X7 by decide +kernel)];exact .nil _ _
 | .leave,a,w,u=>by rw[spT,nQ (show("leave":Str)∉X7 by decide +kernel)];exact .nil _ _
 | .back,a,w,u=>by rw[spT,nQ (show("back":Str)∉X7 by decide +kernel)];exact .nil _ _
 | .X9 x A,a,w,u=>by
   let h:=Ck (X0:=X0) A (a+1) (w+2) a;rw[spT,bB,ia,ia,nQ (show("while":Str)∉X7 by decide +kernel),tH (show("end":Str)∈X7 by decide +kernel),To];push_cast;exact h.add (.inl `a) _ _ `a `a `a `a
 | .ifs x A B,a,w,u=>by
   let h:=Ck (X0:=X0) A (a+1) (w+2) a;let h':=Ck (X0:=X0) B (a+2+X4 A) (w+3+(Yf X0 A).length) (a+1+X4 A);rw[spT,bB,ia,ia,ia,ia,nQ (show("if":Str)∉X7 by decide +kernel),tH (show("else":Str)∈X7 by decide +kernel),tH (show("end":Str)∈X7 by decide +kernel),To];push_cast;let g1:js a (a+1+X4 A) (cw (cb X0 (a+1) (w+2) a A)++[a]):=h.add (.inl `a) _ _ `a `a `a `a;let g2:js (a+1+X4 A) (a+2+X4 A+X4 B) (cw (cb X0 (a+2+X4 A) (w+3+(Yf X0 A).length) (a+1+X4 A) B)++[a+1+X4 A]):=h'.add (.inl `a) _ _ `a `a `a `a;let g:=g1.app g2 `a `a;rw[SR] at g;exact g.wide `a `a
theorem Ck {X0:RU}:∀(ts:`N)(a w u:Int),js a (a+X4 ts) (cw (cb X0 a w u ts))
 | [],a,w,u=>by rw[cb];exact .nil _ _
 | t::ts,a,w,u=>by
   let h:=cwT (X0:=X0) t a w u;let h':=Ck (X0:=X0) ts (a+bB t) (w+(c5 X0 t).length) u;rw[cb,ia,X4];push_cast;exact(h.app h' `a `a).wide `a `a
end
end
variable {u:Int}{kd:Str}
theorem Qa {X0:RU}:∀(zs:`aV)(a w:Int),js a (a+dq zs) (cw (iR X0 a w zs))
 | [],a,w=>by rw[iR];exact .nil _ _
 | z::r,a,w=>by
   let h:=Ck (X0:=X0) z.2 (a+1) (w+2) a;let h':=Qa (X0:=X0) r (a+2+X4 z.2) (w+3+(Yf X0 z.2).length);rw[iR,dq,ia,ia,ia,nQ (show("part":Str)∉X7 by decide +kernel),tH (show("end":Str)∈X7 by decide +kernel),To];push_cast;let g1:js a (a+2+X4 z.2) (cw (cb X0 (a+1) (w+2) a z.2)++[a]):=h.add (.inl `a) _ _ `a `a `a `a;let g:=g1.app h' `a `a;rw[SR] at g;exact g.wide `a `a
theorem EJ {a b:`br}(h:a.map V.int=b.map V.int):a=b:=by
 cases a<;>cases b<;>simp at h<;>simp[h]
theorem wX (F:R7)(k v j:Int):bq (jK F k v) j=if j=k then some v else bq F j:=by
 let h:=Fn (cR (cK F)) (Sum.inl k:Key) (Sum.inl j) (.int v);rw[w8,lO,lO] at h;apply EJ;rw[h];by_cases e:j=k
 ·rw[XU (by rw[e]),XU e];rfl
 ·rw[XT (λz=>e (Sum.inl.inj z)),XT e]
theorem kP {k:Int}:(bq F k).isSome=true↔k∈F.map (·.1):=by
 unfold bq;rw[Vc,List.find?_isSome];simp only[decide_eq_true_eq,SU]
theorem yS {k:Int}:∀{ps:List (Int×aI)}{F:R7},(∀z∈ps,z.2.kind∈X7->z.2.within≠k)->bq (ps.foldl gZ F) k=bq F k
 | [],F,_=>rfl
 | y::ps,F,h=>by
   rw[Tt,yS λz hz=>h z (Sv _ hz)];unfold gZ;split
   ·rename_i hc;rw[wX,XT (λe=>h y Sz hc e.symm)]
   ·rfl
theorem uI:∀{ps:List (Int×aI)}{F:R7},((ps.filter λz=>decide (z.2.kind∈X7)).map (·.2.within)).Nodup->∀z∈ps,z.2.kind∈X7->bq (ps.foldl gZ F) z.2.within∣z.1
 | y::ps,F,nd,z,hz,hc=>by
   rw[Tt];by_cases hy:y.2.kind∈X7
   ·rw[Tw (~~~hy),Ta,S5] at nd;obtain rfl | hz:=SF.mp hz
    ·rw[yS λx hx hxc e=>nd.1 (SU.mpr ⟨x,Tn.mpr ⟨hx,by simpa using hxc⟩,e⟩)];unfold gZ;rw[XU hy,wX,XU rfl]
    ·exact uI nd.2 z hz hc
   ·rw[Tx (~~~hy)] at nd;obtain rfl | hz:=SF.mp hz
    ·exact XS hc hy
    ·exact uI nd z hz hc
theorem rV (S:`M):(nums S).map (·.2)=S:=by
 refine Tr λi=>?_;rw[Sw];obtain h | h:=UP i S.length
 ·let hn:i<(nums S).length:=by rw[cN];exact h
  rw[So hn];have:=(ft (So hn)).2;rw[this];rfl
 ·rw[SY (by rw[cN];exact h),SY h];rfl
theorem IP (S:`M):cw S=((nums S).filter λz=>decide (z.2.kind∈X7)).map (·.2.within):=by
 conv=>lhs;rw[← rV S]
 unfold cw;rw[UG,Tp];rfl
theorem rK (h:S[n]?∣s):((n:Int),s)∈nums S:=by
 let hl:=(Sn.mp h).1;let hn:n<(nums S).length:=by rw[cN];exact hl
 let⟨e1,e2⟩:=ft (So hn);rw[h] at e2;have:(nums S)[n]=((n:Int),s):=Vd e1 (Option.some.inj e2).symm;rw[← this];exact S7 hn
theorem sI (nd:(cw S).Nodup)(h:S[n]?∣s)(hc:s.kind∈X7):bq (eN S) s.within∣(n:Int):=by
 rw[IP] at nd;exact uI nd ((n:Int),s) (rK h) hc
def Up (S:`M)(u:Int)(kd:Str)(a:Int):Prop:=∃k:Nat,Yv (cQ S) k u=a/\(∀j,j<=k->0<=Yv (cQ S) j u/\Yv (cQ S) j u<(S.length:Int))/\(∀j,j<k->aT S (Yv (cQ S) j u)≠kd)/\aT S a=kd
theorem uK (f:α->α)(x:α)(j:Nat):Yv f (j+1) x=Yv f j (f x):=by
 rw[show j+1=1+j by cbv,pN];rfl
theorem Up.here (h0:0<=u)(h1:u<(S.length:Int))(hk:aT S u=kd):Up S u kd u:=⟨0,rfl,λj hj=>by
 obtain rfl:j=0:=`a
 exact⟨h0,h1⟩,λj hj=>`a,hk⟩
theorem Up.step {a:Int}(h0:0<=u)(h1:u<(S.length:Int))(hk:aT S u≠kd)(h:Up S (cQ S u) kd a):Up S u kd a:=by
 let⟨k,e,Zi,Yi,ha⟩:=h;refine⟨k+1,by rw[uK];exact e,λj hj=>?_,λj hj=>?_,ha⟩
 ·cases j with
  | zero=>exact⟨h0,h1⟩
  | succ j=>rw[uK];exact Zi j `a
 ·cases j with
  | zero=>exact hk
  | succ j=>rw[uK];exact Yi j `a
mutual
noncomputable def fQ (a wl pe:Int):Th->List RS
 | .Yq _=>[[a+1]]
 | .call _=>[[a+1]]
 | .ifs _ A B=>[[a+1,a+2+X4 A]]++gE (a+1) wl pe A++([[a+2+X4 A+X4 B]]++(gE (a+2+X4 A) wl pe B++[[a+3+X4 A+X4 B]]))
 | .X9 _ A=>[[a+1,a+2+X4 A]]++(gE (a+1) (a+2+X4 A) pe A++[[a]])
 | .leave=>[[wl]]
 | .back=>[[pe]]
noncomputable def gE (a wl pe:Int):List Th->List RS
 | []=>[]
 | t::ts=>fQ a wl pe t++gE (a+bB t) wl pe ts
end
mutual
theorem pQ:∀(t:Th)(a wl pe:Int),(fQ a wl pe t).length=bB t
 | .Yq _,_,_,_=>by simp[fQ,bB]
 | .call _,_,_,_=>by simp[fQ,bB]
 | .ifs x A B,a,wl,pe=>by
   simp only[fQ,bB,Sx,dW A,dW B,SE,S4];cbv
 | .X9 x A,a,wl,pe=>by
   simp only[fQ,bB,Sx,dW A,SE,S4];cbv
 | .leave,_,_,_=>by simp[fQ,bB]
 | .back,_,_,_=>by simp[fQ,bB]
theorem dW:∀(ts:`N)(a wl pe:Int),(gE a wl pe ts).length=X4 ts
 | [],_,_,_=>by simp[gE,X4]
 | t::ts,a,wl,pe=>by rw[gE,X4,Sx,pQ t,dW ts]
end
section
variable {B pe:Int}{a:Nat}
noncomputable def vb (a:Int):List (Str×List Th)->List RS
 | []=>[]
 | z::r=>[[a+1]]++(gE (a+1) 0 (a+1+X4 z.2) z.2++([[]]++vb (a+2+X4 z.2) r))
theorem yQ:∀(zs:`aV)(a:Int),(vb a zs).length=dq zs
 | [],_=>rfl
 | z::r,a=>by
   rw[vb,dq];simp only[Sx,dW,yQ r,SE,S4];cbv
structure mq (S:`M)(Ld:`bn)(B pe:Int)(n:Nat):Prop where
 ld:fg S (eN S) (n:Int) (Ld.getD n [])
 rg:∀l∈Ld.getD n [],B<=l/\l<=pe
 ln:(Ld.getD n []).length<=2
 go:aV (aT S (n:Int))=false->∃l r,Ld.getD n []=l::r/\((n:Int)<l∨aV (aT S l)=true)
structure Cz (S:`M)(B pe wl u:Int)(lp:Bool)(hi:Nat):Prop where
 pt:∃p,Up S u "part" p/\bq (eN S) p∣pe
 wh:lp=true->(∃A,Up S u "while" A/\bq (eN S) A∣(wl-1))/\(hi:Int)<=wl/\wl<=pe
 pe:(hi:Int)<=pe
 u0:0<=u
 u1:u<(S.length:Int)
def iy (S:`M)(Ld:`bn)(B pe:Int)(a k:Nat):Prop:=∀i,i<k->mq S Ld B pe (a+i)
theorem iy.app {k m:Nat}(h:iy S Ld B pe a k)(h':iy S Ld B pe (a+k) m):iy S Ld B pe a (k+m):=λi hi=>by
 by_cases q:i<k
 ·exact h i q
 ·have:=h' (i-k) `a;rwa [show a+k+(i-k)=a+i by cbv] at this
theorem iy.one (h:mq S Ld B pe a):iy S Ld B pe a 1:=λi hi=>by
 obtain rfl:i=0:=`a
 exact h
theorem iy.nil:iy S Ld B pe a 0:=λi hi=>`a
theorem rY:aV "do"=true:=`b
theorem nP:aV "call"=true:=`b
theorem mN:aV "if"=true:=`b
theorem gI:aV "while"=true:=`b
theorem j6 (hL:Ld.getD n []=[l])(h:fg S (eN S) (n:Int) [l])(h0:B<=l)(h1:l<=pe)(hg:(n:Int)<l∨aV (aT S l)=true):mq S Ld B pe n:=by
 refine⟨by rw[hL];exact h,by rw[hL];intro x hx;rw[Su.mp hx];exact⟨h0,h1⟩,by rw[hL];exact US 1,λ_=>⟨l,[],hL,hg⟩⟩
theorem Di (hL:Ld.getD n []=[l,m])(h:fg S (eN S) (n:Int) [l,m])(h0:B<=l)(h1:l<=pe)(h2:B<=m)(h3:m<=pe)(hg:aV (aT S (n:Int))=true):mq S Ld B pe n:=by
 refine⟨by rw[hL];exact h,by
  rw[hL];intro x hx;obtain rfl | hx:=SF.mp hx
  ·exact⟨h0,h1⟩
  ·rw[Su.mp hx];exact⟨h2,h3⟩,by rw[hL];exact UJ 2,λq=>by rw[hg] at q;cases q⟩
end
section
variable {B pe:Int}(hcw:(cw S).Nodup)
include hcw
mutual
theorem stT:∀(t:Th)(lp:Bool)(a:Nat)(w u wl:Int),bU lo m lp t->cJ S a (spT X0 (a:Int) w u t)->cJ Ld a (fQ (a:Int) wl pe t)->Cz S B pe wl u lp (a+bB t)->B<=(a:Int)->iy S Ld B pe a (bB t)
 | .Yq x,lp,a,w,u,wl,h,hS,hL,hc,hB=>by
   rw[spT] at hS;rw[fQ] at hL;simp only[bB] at hc ⊢;let⟨k1,k2,k3⟩:=hS.k (i:=0) rfl;let e1:=(hL.d (i:=0) rfl []).1;have:=hc.pe;refine .one (j6 e1 (.oth (.inr (.inl k1))) `a (by push_cast at this;cbv) (.inl ?_));show(a:Int)<_;cbv
 | .call x,lp,a,w,u,wl,h,hS,hL,hc,hB=>by
   rw[spT] at hS;rw[fQ] at hL;simp only[bB] at hc ⊢;let⟨k1,k2,k3⟩:=hS.k (i:=0) rfl;let e1:=(hL.d (i:=0) rfl []).1;have:=hc.pe;refine .one (j6 e1 (.oth (.inr (.inr k1))) `a (by push_cast at this;cbv) (.inl ?_));show(a:Int)<_;cbv
 | .leave,lp,a,w,u,wl,h,hS,hL,hc,hB=>by
   simp only[bU] at h;rw[spT] at hS;rw[fQ] at hL;simp only[bB] at hc ⊢;let⟨k1,k2,k3⟩:=hS.k (i:=0) rfl;let e1:=(hL.d (i:=0) rfl []).1;let⟨⟨A,hA,hF⟩,w1,w2⟩:=hc.wh h;push_cast at w1;let hl:fg S (eN S) ((a+0:Nat):Int) [wl-1+1]:=.lev (a:=A) k1 (by unfold Ar;rw[k2];exact hA) hF;rw[show wl-1+1=wl by cbv] at hl;refine .one (j6 e1 hl `a `a (.inl ?_));show(a:Int)<_;cbv
 | .back,lp,a,w,u,wl,h,hS,hL,hc,hB=>by
   rw[spT] at hS;rw[fQ] at hL;simp only[bB] at hc ⊢;let⟨k1,k2,k3⟩:=hS.k (i:=0) rfl;let e1:=(hL.d (i:=0) rfl []).1;let⟨p,hp,hF⟩:=hc.pt;let w1:=hc.pe;push_cast at w1;refine .one (j6 e1 (.bck (a:=p) k1 (by unfold Ar;rw[show cQ S (a:Int)=u from k2];exact hp) hF) `a `a (.inl ?_));show(a:Int)<_;cbv
 | .X9 x A,lp,a,w,u,wl,h,hS,hL,hc,hB=>by
   simp only[bU] at h;rw[spT] at hS;rw[fQ] at hL;simp only[bB] at hc ⊢;let⟨s1,s2⟩:=hS.app;let⟨s2,s3⟩:=s2.app;let⟨d1,d2⟩:=hL.app;let⟨d2,d3⟩:=d2.app;rw[cu] at s3;rw[dW] at d3;simp only[SE,S4] at s2 s3 d2 d3;let⟨k1,k2,k3⟩:=s1.k (i:=0) rfl;let⟨k4,k5,k6⟩:=s3.k (i:=0) rfl;let e1:=(d1.d (i:=0) rfl []).1;let e3:=(d3.d (i:=0) rfl []).1;let hF:bq (eN S) (a:Int)∣(((a+(0+1)+X4 A+0:Nat)):Int):=sI (s:=⟨"end","",w+2+(Yf X0 A).length,(a:Int)⟩) hcw (s3 0 _ rfl) (show("end":Str)∈X7 by decide +kernel);let hpe:=hc.pe;push_cast at hpe hF;let k1':aT S (a:Int)="while":=k1;let k2':cQ S (a:Int)=u:=k2;let ala:a<S.length:=k3;let p1:mq S Ld B pe a:=by
    let hl:fg S (eN S) (a:Int) [(a:Int)+1,(a:Int)+(0+1)+X4 A+0+1]:=.row (.inr k1') hF;rw[show(a:Int)+(0+1)+X4 A+0+1=(a:Int)+2+X4 A by cbv] at hl;exact Di e1 hl `a `a `a `a (by rw[k1'];exact gI)
   let c2:Cz S B pe `bF (a:Int) true (a+(0+1)+X4 A):=by
    let⟨p,hp,hpF⟩:=hc.pt;refine⟨⟨p,.step `a `a (by rw[k1'];decide +kernel) (by rw[k2'];exact hp),hpF⟩,λ_=>⟨⟨(a:Int),.here `a `a k1',?_⟩,by push_cast;cbv,`a⟩,by push_cast;cbv,`a,`a⟩;rw[hF];congr 1;cbv
   let p2:=Ct A true (a+(0+1)) (w+2) (a:Int) `bF h.2 (by push_cast;exact s2) (by push_cast;exact d2) c2 (by push_cast;cbv);let p3:mq S Ld B pe (a+(0+1)+X4 A+0):=by
    let hl:fg S (eN S) ((a+(0+1)+X4 A+0:Nat):Int) [cQ S ((a+(0+1)+X4 A+0:Nat):Int)]:=.enw k4 (by rw[k5];show(0:Int)<=(a:Int);cbv) (by rw[k5];show(a:Int)<_;cbv) (by rw[k5];exact k1');rw[k5] at hl;exact j6 e3 hl `a `a (.inr (by rw[k1'];exact gI))
   have:=(iy.one p1).app (p2.app (iy.one p3));rwa [show 1+(X4 A+1)=2+X4 A by cbv] at this
 | .ifs x A Bb,lp,a,w,u,wl,h,hS,hL,hc,hB=>by
   simp only[bU] at h;rw[spT,SR] at hS;rw[fQ,SR] at hL;simp only[bB] at hc ⊢;let⟨s1,s2⟩:=hS.app;let⟨s2,s3⟩:=s2.app;let⟨s3,s4⟩:=s3.app;let⟨s4,s5⟩:=s4.app;let⟨d1,d2⟩:=hL.app;let⟨d2,d3⟩:=d2.app;let⟨d3,d4⟩:=d3.app;let⟨d4,d5⟩:=d4.app;rw[cu] at s3 s4 s5;rw[cu] at s5;rw[dW] at d3 d4 d5;rw[dW] at d5;simp only[SE,S4] at s2 s3 s4 s5 d2 d3 d4 d5;let⟨k1,k2,k3⟩:=s1.k (i:=0) rfl;let⟨k4,k5,k6⟩:=s3.k (i:=0) rfl;let⟨k7,k8,k9⟩:=s5.k (i:=0) rfl;let e1:=(d1.d (i:=0) rfl []).1;let e3:=(d3.d (i:=0) rfl []).1;let e5:=(d5.d (i:=0) rfl []).1;let hF:bq (eN S) (a:Int)∣(((a+(0+1)+X4 A+0:Nat)):Int):=sI (s:=⟨"else","",w+2+(Yf X0 A).length,(a:Int)⟩) hcw (s3 0 _ rfl) (show("else":Str)∈X7 by decide +kernel);let hF2:bq (eN S) ((a:Int)+1+X4 A)∣(((a+(0+1)+X4 A+(0+1)+X4 Bb+0:Nat)):Int):=sI (s:=⟨"end","",w+3+(Yf X0 A).length+(Yf X0 Bb).length,(a:Int)+1+X4 A⟩) hcw (s5 0 _ rfl) (show("end":Str)∈X7 by decide +kernel);let hpe:=hc.pe;push_cast at hpe hF hF2;let k1':aT S (a:Int)="if":=k1;let k2':cQ S (a:Int)=u:=k2;let ala:a<S.length:=k3;let en:((a+(0+1)+X4 A+0:Nat):Int)=(a:Int)+1+X4 A:=by push_cast;cbv
   rw[en] at k4 k5;let k4':aT S ((a:Int)+1+X4 A)="else":=k4;let k5':cQ S ((a:Int)+1+X4 A)=(a:Int):=k5;let p1:mq S Ld B pe a:=by
    let hl:fg S (eN S) (a:Int) [(a:Int)+1,(a:Int)+(0+1)+X4 A+0+1]:=.row (.inl k1') hF;rw[show(a:Int)+(0+1)+X4 A+0+1=(a:Int)+2+X4 A by cbv] at hl;exact Di e1 hl `a `a `a `a (by rw[k1'];exact mN)
   let cA:Cz S B pe wl (a:Int) lp (a+(0+1)+X4 A):=by
    let⟨p,hp,hpF⟩:=hc.pt;refine⟨⟨p,.step `a `a (by rw[k1'];decide +kernel) (by rw[k2'];exact hp),hpF⟩,λq=>?_,by push_cast;cbv,`a,`a⟩;let⟨⟨Aw,hA,hAF⟩,w1,w2⟩:=hc.wh q;push_cast at w1;exact⟨⟨Aw,.step `a `a (by rw[k1'];decide +kernel) (by rw[k2'];exact hA),hAF⟩,by push_cast;cbv,w2⟩
   let cB:Cz S B pe wl ((a:Int)+1+X4 A) lp (a+(0+1)+X4 A+(0+1)+X4 Bb):=by
    let⟨p,hp,hpF⟩:=cA.pt;refine⟨⟨p,.step `a `a (by rw[k4'];decide +kernel) (by rw[k5'];exact hp),hpF⟩,λq=>?_,by push_cast;cbv,`a,`a⟩;let⟨⟨Aw,hA,hAF⟩,w1,w2⟩:=cA.wh q;let⟨_,w3,_⟩:=hc.wh q;push_cast at w3;exact⟨⟨Aw,.step `a `a (by rw[k4'];decide +kernel) (by rw[k5'];exact hA),hAF⟩,by push_cast;cbv,w2⟩
   let p2:=Ct A lp (a+(0+1)) (w+2) (a:Int) wl h.2.1 (by push_cast;exact s2) (by push_cast;exact d2) cA (by push_cast;cbv);let p3:mq S Ld B pe (a+(0+1)+X4 A+0):=by
    let hl:fg S (eN S) ((a+(0+1)+X4 A+0:Nat):Int) [(a:Int)+(0+1)+X4 A+(0+1)+X4 Bb+0]:=by rw[en];exact .els k4' hF2
    rw[show(a:Int)+(0+1)+X4 A+(0+1)+X4 Bb+0=(a:Int)+2+X4 A+X4 Bb by cbv] at hl;exact j6 e3 hl `a `a (.inl (by push_cast;cbv))
   let q4:(((a+(0+1)+X4 A+(0+1):Nat)):Int)=(a:Int)+2+X4 A:=by push_cast;cbv
   let p4:=Ct Bb lp (a+(0+1)+X4 A+(0+1)) (w+3+(Yf X0 A).length) ((a:Int)+1+X4 A) wl h.2.2 (by rw[q4];exact s4) (by rw[q4];exact d4) cB (by push_cast;cbv);let p5:mq S Ld B pe (a+(0+1)+X4 A+(0+1)+X4 Bb+0):=by
    let hl:fg S (eN S) ((a+(0+1)+X4 A+(0+1)+X4 Bb+0:Nat):Int) [((a+(0+1)+X4 A+(0+1)+X4 Bb+0:Nat):Int)+1]:=.ene k7 (by rw[k8];show(0:Int)<=(a:Int)+1+X4 A;cbv) (by rw[k8];show(a:Int)+1+X4 A<_;cbv) (by rw[k8];exact k4');rw[show((a+(0+1)+X4 A+(0+1)+X4 Bb+0:Nat):Int)+1=(a:Int)+3+X4 A+X4 Bb by push_cast;cbv] at hl;exact j6 e5 hl `a `a (.inl (by push_cast;cbv))
   have:=(iy.one p1).app (p2.app ((iy.one p3).app (p4.app (iy.one p5))));rwa [show 1+(X4 A+(1+(X4 Bb+1)))=3+X4 A+X4 Bb by cbv] at this
theorem Ct:∀(ts:`N)(lp:Bool)(a:Nat)(w u wl:Int),bK lo m lp ts->cJ S a (cb X0 (a:Int) w u ts)->cJ Ld a (gE (a:Int) wl pe ts)->Cz S B pe wl u lp (a+X4 ts)->B<=(a:Int)->iy S Ld B pe a (X4 ts)
 | [],lp,a,w,u,wl,h,hS,hL,hc,hB=>by rw[X4];exact .nil
 | t::ts,lp,a,w,u,wl,h,hS,hL,hc,hB=>by
   simp only[bK] at h;rw[cb] at hS;rw[gE] at hL;rw[X4] at hc ⊢;let⟨s1,s2⟩:=hS.app;let⟨d1,d2⟩:=hL.app;rw[kL] at s2;rw[pQ] at d2;let hpe:=hc.pe;push_cast at hpe;let p1:=stT t lp a w u wl h.1 s1 d1 ⟨hc.pt,λq=>by
    let⟨x,y,z⟩:=hc.wh q;push_cast at y;exact⟨x,by push_cast;cbv,z⟩,by push_cast;cbv,hc.u0,hc.u1⟩ hB
   let p2:=Ct ts lp (a+bB t) (w+(c5 X0 t).length) u wl h.2.2 (by push_cast;exact s2) (by push_cast;exact d2) ⟨hc.pt,λq=>by
    let⟨x,y,z⟩:=hc.wh q;push_cast at y;exact⟨x,by push_cast;cbv,z⟩,by push_cast;cbv,hc.u0,hc.u1⟩ (by push_cast;cbv)
   exact p1.app p2
end
end
structure J7 (S:`M)(Ld:`bn)(X0:RU)(f:Nat)(w:Int)(z:`bd):Prop where
 s:cJ S f ([⟨"part",z.1,w, -1⟩]++(cb X0 ((f:Int)+1) (w+2) (f:Int) z.2++[⟨"end","",w+2+(Yf X0 z.2).length,(f:Int)⟩]))
 d:cJ Ld f ([[(f:Int)+1]]++(gE ((f:Int)+1) 0 ((f:Int)+1+X4 z.2) z.2++[[]]))
theorem cJ.pre {S:`x}{a:Nat}{x y:`x}(h:cJ S a (x++y)):cJ S a x:=h.app.1
theorem CK {S:`M}{Ld:`bn}{X0:RU}:∀{zs:`aV}{a:Nat}{w:Int},cJ S a (iR X0 (a:Int) w zs)->cJ Ld a (vb (a:Int) zs)->∀(j:Nat)(z:`bd),zs[j]?∣z->∃w',J7 S Ld X0 (a+dq (zs.take j)) w' z
 | [],_,_,_,_,j,z,h=>by simp at h
 | y::r,a,w,hS,hL,j,z,h=>by
   rw[iR] at hS;rw[vb] at hL;cases j with
   | zero=>
     let e:y=z:= ~~~h
     subst e;refine⟨w,?_,?_⟩
     ·rw[show([⟨"part",y.1,w, -1⟩]++(cb X0 ((a:Int)+1) (w+2) (a:Int) y.2++([⟨"end","",w+2+(Yf X0 y.2).length,(a:Int)⟩]++iR X0 ((a:Int)+2+X4 y.2) (w+3+(Yf X0 y.2).length) r)):List aI)=([⟨"part",y.1,w, -1⟩]++(cb X0 ((a:Int)+1) (w+2) (a:Int) y.2++[⟨"end","",w+2+(Yf X0 y.2).length,(a:Int)⟩]))++iR X0 ((a:Int)+2+X4 y.2) (w+3+(Yf X0 y.2).length) r by simp only[SR]] at hS;exact hS.pre
     ·rw[show([[(a:Int)+1]]++(gE ((a:Int)+1) 0 ((a:Int)+1+X4 y.2) y.2++([[]]++vb ((a:Int)+2+X4 y.2) r)):List RS)=([[(a:Int)+1]]++(gE ((a:Int)+1) 0 ((a:Int)+1+X4 y.2) y.2++[[]]))++vb ((a:Int)+2+X4 y.2) r by simp only[SR]] at hL;exact hL.pre
   | succ j=>
     let s4:=hS.app.2.app.2.app.2;let d4:=hL.app.2.app.2.app.2;rw[cu] at s4;rw[dW] at d4;simp only[SE,S4] at s4 d4;let e:a+(0+1)+X4 y.2+(0+1)=a+2+X4 y.2:=`a
     rw[e] at s4 d4;have:=CK (zs:=r) (a:=a+2+X4 y.2) (w:=w+3+(Yf X0 y.2).length) (by push_cast;exact s4) (by push_cast;exact d4) j z (~~~h);rw[Tj,dq];rwa [show a+(2+X4 y.2+dq (r.take j))=a+2+X4 y.2+dq (r.take j) by cbv]
theorem cover:∀(zs:`aV)(n:Nat),n<dq zs->∃(j:Nat)(z:`bd),zs[j]?∣z/\dq (zs.take j)<=n/\n<dq (zs.take j)+2+X4 z.2
 | [],n,h=>by rw[dq] at h;cbv
 | y::r,n,h=>by
   rw[dq] at h;by_cases q:n<2+X4 y.2
   ·exact⟨0,y,rfl,UL _,by show n<0+2+_;cbv⟩
   ·let⟨j,z,h1,h2,h3⟩:=cover r (n-(2+X4 y.2)) `a;exact⟨j+1,z,h1,by rw[Tj,dq];cbv,by rw[Tj,dq];cbv⟩
theorem pJ:∀(zs:`aV)(j k:Nat)(z:`bd),zs[j]?∣z->j<k->dq (zs.take j)+2+X4 z.2<=dq (zs.take k)
 | [],j,k,z,h,_=>by simp at h
 | y::r,0,k+1,z,h,_=>by
   let e:y=z:= ~~~h
   subst e;rw[Tj,dq,TZ,dq];cbv
 | y::r,j+1,k+1,z,h,hk=>by
   have:=pJ r j k z (~~~h) `a;rw[Tj,Tj,dq,dq];cbv
section
variable {f:Nat}{w:Int}
abbrev lst (f:Nat)(z:`bd):Nat:=f+1+X4 z.2
structure fH (S:`M)(Ld:`bn)(X0:RU)(f:Nat)(w:Int)(z:`bd):Prop where
 k:aT S (f:Int)="part"
 nm:S[f]?∣⟨"part",z.1,w, -1⟩
 s:cJ S (f+1) `as
 d:cJ Ld (f+1) (gE (((f+1:Nat)):Int) 0 ((lst f z:Nat):Int) z.2)
 e:S[lst f z]?∣⟨"end","",w+2+(Yf X0 z.2).length,(f:Int)⟩
 df:Ld.getD f []=[(f:Int)+1]
 dl:Ld.getD (lst f z) []=[]
 dn:lst f z<Ld.length
theorem J7.p (h:J7 S Ld X0 f w z):fH S Ld X0 f w z:=by
 let⟨hS,hL⟩:=h;let⟨s1,s2⟩:=hS.app;let⟨s2,s3⟩:=s2.app;let⟨d1,d2⟩:=hL.app;let⟨d2,d3⟩:=d2.app;rw[cu] at s3;rw[dW] at d3;simp only[SE,S4] at s2 s3 d2 d3;refine⟨(s1.k (i:=0) rfl).1,s1 0 _ rfl,by push_cast;exact s2,by push_cast;exact d2,s3 0 _ rfl,(d1.d (i:=0) rfl []).1,(d3.d (i:=0) rfl []).1,(d3.d (i:=0) rfl []).2⟩
theorem dz (h:S[n]?∣s):aT S (n:Int)=s.kind/\cQ S (n:Int)=s.within:=by
 let e:S.getD ((n:Nat):Int).toNat dy=s:=by rw[show((n:Nat):Int).toNat=n by cbv,Sr,h];rfl
 exact⟨by unfold aT;rw[e],by show(S.getD ((n:Nat):Int).toNat dy).within=_;rw[e]⟩
theorem fH.cl (h:fH S Ld X0 f w z)(hcw:(cw S).Nodup):bq (eN S) (f:Int)∣((lst f z:Nat):Int):=sI hcw h.e (show("end":Str)∈X7 by decide +kernel)
theorem fH.all (h:fH S Ld X0 f w z)(hcw:(cw S).Nodup)(X8:bK lo m false z.2):∀n,f<=n->n<lst f z->mq S Ld ((f:Int)+1) ((lst f z:Nat):Int) n:=by
 let fl:f<S.length:=(Sn.mp h.nm).1;let hs:=Ct (B:=(f:Int)+1) (lo:=lo) (m:=m) hcw z.2 false (f+1) (w+2) (f:Int) 0 X8 h.s h.d ⟨⟨(f:Int),.here `a `a h.k,h.cl hcw⟩,(λq=>by cases q),Sl _,`a,`a⟩ (by push_cast;cbv);intro n h1 h2;by_cases q:n=f
 ·subst q;exact j6 h.df (.oth (.inl h.k)) `a (by push_cast;cbv) (.inl `a)
 ·let h2':n<f+1+X4 z.2:=h2;have:=hs (n-(f+1)) `a;rwa [show f+1+(n-(f+1))=n by cbv] at this
theorem fH.last (h:fH S Ld X0 f w z):fg S (eN S) ((lst f z:Nat):Int) (Ld.getD (lst f z) []):=by
 let⟨k1,k2⟩:=dz h.e;let fl:f<S.length:=(Sn.mp h.nm).1;rw[h.dl];exact .enp k1 (by rw[k2];show(0:Int)<=(f:Int);cbv) (by rw[k2];show(f:Int)<_;cbv) (by rw[k2];exact h.k)
end
abbrev c8 (X0:RU)(Ls:`A):List (Str×List Th):=X0.zip Ls
abbrev cG (X0:RU)(Ls:`A):List RS:=vb 0 `L
abbrev fst (X0:RU)(Ls:`A)(j:Nat):Nat:=dq ((c8 X0 Ls).take j)
theorem hJ (h:`bv):∃w,fH `i `C X0 `j w z:=by
 let⟨w,hw⟩:=CK (S:=aw X0 Ls) (Ld:=cG X0 Ls) (X0:=X0) (zs:=c8 X0 Ls) (a:=0) (w:=0) (cJ.self _) (cJ.self _) j z h;rw[UR] at hw;exact⟨w,hw.p⟩
theorem kG:(cw `i).Nodup:=(Qa (X0:=X0) `L 0 0).1
theorem eJ (h:`aJ)(hz:`bv):bK (j:Int) (Ls.length:Int) false z.2/\gH z.2/\Yk z.2<=14/\X0[j]?∣z.1/\Ls[j]?∣z.2:=by
 let⟨h1,h2⟩:=kY hz;let hm:=SD h2;exact⟨h.ok j z.2 h2,h.hd z.2 hm,h.rw z.2 hm,h1,h2⟩
theorem AG:(aw X0 Ls).length=dq `L:=zU _ _ _
theorem O3:(cG X0 Ls).length=dq `L:=yQ _ _
theorem mU (h:`aJ)(n:Nat)(hn:n<(aw X0 Ls).length):∃(j:Nat)(z:`bd)(w:Int),(c8 X0 Ls)[j]?∣z/\fH `i `C X0 `j w z/\fst X0 Ls j<=n/\n<=lst `j z/\lst `j z<(aw X0 Ls).length:=by
 rw[AG] at hn;let⟨j,z,h1,h2,h3⟩:=cover _ n hn;let⟨w,hb⟩:=hJ (X0:=X0) (Ls:=Ls) h1;refine⟨j,z,w,h1,hb,h2,by show n<=dq (List.take j `L)+1+X4 z.2;cbv,(Sn.mp hb.e).1⟩
theorem Fi (h:`aJ):As `i `C/\yu `i `C/\∀ls∈cG X0 Ls,ls.length<=2:=by
 let hl:(cG X0 Ls).length=(aw X0 Ls).length:=by rw[AG,O3]
 let key:∀n,n<(aw X0 Ls).length->fg `i (eN `i) (n:Int) ((cG X0 Ls).getD n [])/\(∀l∈(cG X0 Ls).getD n [],0<=l/\l<((aw X0 Ls).length:Int))/\((cG X0 Ls).getD n []).length<=2:=by
  intro n hn;let⟨j,z,w,hz,hb,h1,h2,h3⟩:=mU h n hn;by_cases q:n=lst `j z
  ·subst q;refine⟨hb.last,?_,?_⟩
   ·rw[hb.dl];intro l hl;cases hl
   ·rw[hb.dl];exact UL _
  ·let st:=hb.all kG (eJ h hz).1 n h1 `a;refine⟨st.ld,λl Zu=>?_,st.ln⟩;have:=st.rg l Zu;cbv
 let mem:∀ls∈cG X0 Ls,∃n,n<(aw X0 Ls).length/\(cG X0 Ls).getD n []=ls:=λls hm=>by
  let⟨n,hn,e⟩:=Ub hm;exact⟨n,`a,by rw[Sr,So hn,e];rfl⟩
 refine⟨⟨hl,λn hn=>(key n hn).1⟩,⟨hl,λls hm l Zu=>?_⟩,λls hm=>?_⟩
 ·let⟨n,hn,e⟩:=mem ls hm;exact(key n hn).2.1 l (by rw[e];exact Zu)
 ·let⟨n,hn,e⟩:=mem ls hm;rw[← e];exact(key n hn).2.2
theorem Ac (hi:i<S.length)(hn:n≠S.length-1-i):(ZX S Ld (i+1)).getD n 0=(ZX S Ld i).getD n 0:=by
 rw[kT hi];unfold tV;split
 ·simp only[Sr];rw[SX `a]
 ·rfl
theorem xa:∀(i n:Nat),i<=S.length->n<S.length-i->(ZX S Ld i).getD n 0=(n:Int)
 | 0,n,_,h=>by
   show(ups 0 S.length).getD n 0=_;rw[Sr];unfold ups;rw[Sw,Ti `a];show(0:Int)+(n:Int)=_;cbv
 | i+1,n,hi,h=>by rw[Ac `a `a];exact xa i n `a `a
theorem zy {i n:Nat}(hn:S.length-i<=n):∀d:Nat,i+d<=S.length->(ZX S Ld (i+d)).getD n 0=(ZX S Ld i).getD n 0
 | 0,_=>rfl
 | d+1,h=>by rw[← U5,Ac `a `a];exact zy hn d `a
theorem xu (hi:i<=S.length)(hn:S.length-i<=n):(ZX S Ld i).getD n 0=(aW S Ld).getD n 0:=by
 have:=zy (S:=S) (Ld:=Ld) hn (S.length-i) `a;rw[show i+(S.length-i)=S.length by cbv] at this;exact this.symm
theorem i9 (hn:n<S.length)(h:(Ld.getD n [])=[]∨aV (aT S (n:Int))=true):(aW S Ld).getD n 0=(n:Int):=by
 rw[← xu (i:=S.length-1-n+1) `a `a,kT `a,show(S.length:Int)-1-((S.length-1-n:Nat):Int)=(n:Int) by cbv];unfold tV;rw[XT (by
  rw[show((n:Nat):Int).toNat=n by cbv];rintro⟨h1,h2⟩;obtain h | h:=h
  ·rw[h] at h1;cases h1
  ·rw[h] at h2;cases h2)]
 exact xa _ n `a `a
theorem nN (hn:n<S.length){r:RS}(hL:Ld.getD n []=l::r)(hr:aV (aT S (n:Int))=false)(l0:0<=l)(l1:l<(S.length:Int)):(aW S Ld).getD n 0=if(n:Int)<l then(aW S Ld).getD l.toNat 0 else l:=by
 rw[← xu (i:=S.length-1-n+1) (n:=n) `a `a,kT `a,show(S.length:Int)-1-((S.length-1-n:Nat):Int)=(n:Int) by cbv];unfold tV;rw[show((n:Nat):Int).toNat=n by cbv,hL,XU ⟨rfl,hr⟩];let ln:=kK (S:=S) (Ld:=Ld) (S.length-1-n) `a;rw[Sr,SG `a];show(ZX S Ld (S.length-1-n)).getD l.toNat 0=_;by_cases q:(n:Int)<l
 ·rw[XU q];exact xu `a `a
 ·rw[XT q,xa _ _ `a `a];cbv
variable {ls:RS}
section
variable {f:Nat}{w:Int}
def Mt (S:`M)(f l:Nat)(v:Int):Prop:=(f:Int)<v/\v<=(l:Int)/\(v=(l:Int)∨aV (aT S v)=true)
theorem fH.Au (h:fH S Ld X0 f w z)(hcw:(cw S).Nodup)(X8:bK lo m false z.2):∀(d n:Nat),lst f z-n=d->f<=n->n<=lst f z->Mt S f (lst f z) ((aW S Ld).getD n 0):=by
 let ll:lst f z<S.length:=(Sn.mp h.e).1;let fl:f<lst f z:=by show f<f+1+X4 z.2;cbv
 intro d
 induction d using Nat.strongRecOn with
 | _ d ih=>
   intro n hd h1 h2;by_cases q:n=lst f z
   ·rw[q,i9 ll (.inl h.dl)];exact⟨`a,Sl _,.inl rfl⟩
   ·let st:=h.all hcw X8 n h1 `a;cases hr:aV (aT S (n:Int)) with
    | true=>
      rw[i9 `a (.inr hr)];have:n≠f:=λe=>by
       rw[e,h.k] at hr;exact XS hr `b
      exact⟨`a,`a,.inr hr⟩
    | false=>
      let⟨l,r,hL,hg⟩:=st.go hr;let⟨r0,r1⟩:=st.rg l (by rw[hL];exact Sz);rw[nN `a hL hr `a `a];by_cases ql:(n:Int)<l
      ·rw[XU ql];exact ih (lst f z-l.toNat) `a l.toNat rfl `a `a
      ·rw[XT ql];exact⟨`a,r1,.inr (hg.resolve_left ql)⟩
theorem kQ (h:fH S Ld X0 f w z)(X8:bK lo m false z.2)(hh:gH z.2):aV (aT S ((f+1:Nat):Int))=true/\1<=X4 z.2:=by
 let⟨t,ts,e,hb⟩:=hh;let hs:=h.s;rw[e] at hs X8 ⊢;rw[cb] at hs;simp only[bK] at X8;rw[X4];let hs:=hs.pre;cases t with
 | Yq x=>rw[spT] at hs;refine⟨?_,by simp only[bB];cbv⟩;rw[show((f+1:Nat):Int)=((f+1+0:Nat):Int) from rfl,(hs.k (i:=0) rfl).1];exact rY
 | call x=>rw[spT] at hs;refine⟨?_,by simp only[bB];cbv⟩;rw[show((f+1:Nat):Int)=((f+1+0:Nat):Int) from rfl,(hs.k (i:=0) rfl).1];exact nP
 | ifs x A B=>rw[spT] at hs;refine⟨?_,by simp only[bB];cbv⟩;rw[show((f+1:Nat):Int)=((f+1+0:Nat):Int) from rfl,(hs.pre.pre.k (i:=0) rfl).1];exact mN
 | X9 x A=>rw[spT] at hs;refine⟨?_,by simp only[bB];cbv⟩;rw[show((f+1:Nat):Int)=((f+1+0:Nat):Int) from rfl,(hs.pre.k (i:=0) rfl).1];exact gI
 | leave=>simp only[bU] at X8;cases X8.1
 | back=>cases hb
theorem fH.first (h:fH S Ld X0 f w z)(X8:bK lo m false z.2)(hh:gH z.2):(aW S Ld).getD f 0=((f+1:Nat):Int):=by
 let ll:lst f z<S.length:=(Sn.mp h.e).1;let ll:f+1+X4 z.2<S.length:=ll;let⟨hr,h1⟩:=kQ h X8 hh;rw[nN (n:=f) `a h.df (by rw[h.k];decide +kernel) `a `a,XU `a,show((f:Int)+1).toNat=f+1 by cbv];exact i9 `a (.inr hr)
def mV (Ld:`bn)(fd:RS):Prop:=∀n∈fd,∀l∈Ld.getD n.toNat [],l∈fd
theorem mV.on {fd:RS}(h:mV Ld fd)(hn:(n:Int)∈fd)(hL:Ld.getD n []=ls)(hl:l∈ls):l∈fd:=h _ hn l (by rw[show((n:Nat):Int).toNat=n by cbv,hL];exact hl)
end
section
variable {fd:RS}(hC:mV Ld fd)
include hC
mutual
theorem goT:∀(t:Th)(lp:Bool)(a:Nat)(w u wl pe:Int),bU lo m lp t->cJ S a (spT X0 (a:Int) w u t)->cJ Ld a (fQ (a:Int) wl pe t)->(a:Int)∈fd->(∀i,i<bB t->aT S ((a+i:Nat):Int)∈Ys->((a+i:Nat):Int)∈fd)/\(dF t=true->((a+bB t:Nat):Int)∈fd)
 | .Yq x,lp,a,w,u,wl,pe,h,hS,hL,ha=>by
   rw[fQ] at hL;simp only[bB];refine⟨(λi hi _=>by cases (show i=0 by cbv);exact ha),(λ_=>?_)⟩;have:=hC.on ha (hL.d (i:=0) rfl []).1 (l:=(a:Int)+1) `bi;push_cast;exact this
 | .call x,lp,a,w,u,wl,pe,h,hS,hL,ha=>by
   rw[fQ] at hL;simp only[bB];refine⟨(λi hi _=>by cases (show i=0 by cbv);exact ha),(λ_=>?_)⟩;have:=hC.on ha (hL.d (i:=0) rfl []).1 (l:=(a:Int)+1) `bi;push_cast;exact this
 | .leave,lp,a,w,u,wl,pe,h,hS,hL,ha=>by
   simp only[bB];exact⟨(λi hi _=>by cases (show i=0 by cbv);exact ha),(λq=>by simp[dF] at q)⟩
 | .back,lp,a,w,u,wl,pe,h,hS,hL,ha=>by
   simp only[bB];exact⟨(λi hi _=>by cases (show i=0 by cbv);exact ha),(λq=>by simp[dF] at q)⟩
 | .X9 x A,lp,a,w,u,wl,pe,h,hS,hL,ha=>by
   simp only[bU] at h;rw[spT] at hS;rw[fQ] at hL;simp only[bB];let⟨s1,s2⟩:=hS.app;let⟨s2,s3⟩:=s2.app;let⟨d1,d2⟩:=hL.app;let⟨d2,d3⟩:=d2.app;rw[cu] at s3;simp only[SE,S4] at s2 s3 d2 d3;let e1:=(d1.d (i:=0) rfl []).1;let g1:(((a+(0+1):Nat)):Int)∈fd:=by
    have:=hC.on ha e1 (l:=(a:Int)+1) Sz;push_cast;simpa using this
   let g2:(((a+(2+X4 A):Nat)):Int)∈fd:=by
    have:=hC.on ha e1 (l:=(a:Int)+2+X4 A) (Sv _ `bi);rwa [show(((a+(2+X4 A):Nat)):Int)=(a:Int)+2+X4 A by push_cast;cbv]
   let⟨q1,_⟩:=D5 A true (a+(0+1)) (w+2) (a:Int) `bF pe h.2 (by push_cast;exact s2) (by push_cast;exact d2) g1;refine⟨λi hi hk=>?_,λ_=>g2⟩;by_cases i0:i=0
   ·subst i0;exact ha
   by_cases i1:i<1+X4 A
   ·have:=q1 (i-1) `a (by rw[show a+(0+1)+(i-1)=a+i by cbv];exact hk);rwa [show a+(0+1)+(i-1)=a+i by cbv] at this
   ·obtain rfl:i=1+X4 A:=`a
    let ke:=(s3.k (i:=0) rfl).1;rw[show a+(0+1)+X4 A+0=a+(1+X4 A) by cbv] at ke;rw[ke] at hk;exact XS hk (show("end":Str)∉Ys by decide +kernel)
 | .ifs x A B,lp,a,w,u,wl,pe,h,hS,hL,ha=>by
   simp only[bU] at h;rw[spT,SR] at hS;rw[fQ,SR] at hL;simp only[bB];let⟨s1,s2⟩:=hS.app;let⟨s2,s3⟩:=s2.app;let⟨s3,s4⟩:=s3.app;let⟨s4,s5⟩:=s4.app;let⟨d1,d2⟩:=hL.app;let⟨d2,d3⟩:=d2.app;let⟨d3,d4⟩:=d3.app;let⟨d4,d5⟩:=d4.app;rw[cu] at s3 s4 s5;rw[cu] at s5;rw[dW] at d3 d4 d5;rw[dW] at d5;simp only[SE,S4] at s2 s3 s4 s5 d2 d3 d4 d5;let e1:=(d1.d (i:=0) rfl []).1;let e3:=(d3.d (i:=0) rfl []).1;let e5:=(d5.d (i:=0) rfl []).1;let g1:(((a+(0+1):Nat)):Int)∈fd:=by
    have:=hC.on ha e1 (l:=(a:Int)+1) Sz;push_cast;simpa using this
   let g2:(((a+(0+1)+X4 A+(0+1):Nat)):Int)∈fd:=by
    have:=hC.on ha e1 (l:=(a:Int)+2+X4 A) (Sv _ `bi);rwa [show(((a+(0+1)+X4 A+(0+1):Nat)):Int)=(a:Int)+2+X4 A by push_cast;cbv]
   let⟨q1,q2⟩:=D5 A lp (a+(0+1)) (w+2) (a:Int) wl pe h.2.1 (by push_cast;exact s2) (by push_cast;exact d2) g1;let q4:(((a+(0+1)+X4 A+(0+1):Nat)):Int)=(a:Int)+2+X4 A:=by push_cast;cbv
   let⟨q3,q5⟩:=D5 B lp (a+(0+1)+X4 A+(0+1)) (w+3+(Yf X0 A).length) ((a:Int)+1+X4 A) wl pe h.2.2 (by rw[q4];exact s4) (by rw[q4];exact d4) g2;let fin:(((a+(0+1)+X4 A+(0+1)+X4 B+0:Nat)):Int)∈fd->(((a+(3+X4 A+X4 B):Nat)):Int)∈fd:=λq=>by
    have:=hC.on q e5 (l:=(a:Int)+3+X4 A+X4 B) `bi;rwa [show(((a+(3+X4 A+X4 B):Nat)):Int)=(a:Int)+3+X4 A+X4 B by push_cast;cbv]
   refine⟨λi hi hk=>?_,λhp=>fin ?_⟩
   ·by_cases i0:i=0
    ·subst i0;exact ha
    by_cases i1:i<1+X4 A
    ·have:=q1 (i-1) `a (by rw[show a+(0+1)+(i-1)=a+i by cbv];exact hk);rwa [show a+(0+1)+(i-1)=a+i by cbv] at this
    by_cases i2:i=1+X4 A
    ·subst i2;let ke:=(s3.k (i:=0) rfl).1;rw[show a+(0+1)+X4 A+0=a+(1+X4 A) by cbv] at ke;rw[ke] at hk;exact XS hk (show("else":Str)∉Ys by decide +kernel)
    by_cases i3:i<2+X4 A+X4 B
    ·have:=q3 (i-(2+X4 A)) `a (by rw[show a+(0+1)+X4 A+(0+1)+(i-(2+X4 A))=a+i by cbv];exact hk);rwa [show a+(0+1)+X4 A+(0+1)+(i-(2+X4 A))=a+i by cbv] at this
    ·obtain rfl:i=2+X4 A+X4 B:=`a
     let ke:=(s5.k (i:=0) rfl).1;rw[show a+(0+1)+X4 A+(0+1)+X4 B+0=a+(2+X4 A+X4 B) by cbv] at ke;rw[ke] at hk;exact XS hk (show("end":Str)∉Ys by decide +kernel)
   ·simp only[dF,Se] at hp;obtain hp | hp:=hp
    ·let hel:=q2 hp;have:=hC.on (n:=a+(0+1)+X4 A+0) hel e3 (l:=(a:Int)+2+X4 A+X4 B) `bi;rwa [show(((a+(0+1)+X4 A+(0+1)+X4 B+0:Nat)):Int)=(a:Int)+2+X4 A+X4 B by push_cast;cbv]
    ·exact q5 hp
theorem D5:∀(ts:`N)(lp:Bool)(a:Nat)(w u wl pe:Int),bK lo m lp ts->cJ S a (cb X0 (a:Int) w u ts)->cJ Ld a (gE (a:Int) wl pe ts)->(a:Int)∈fd->(∀i,i<X4 ts->aT S ((a+i:Nat):Int)∈Ys->((a+i:Nat):Int)∈fd)/\(c6 ts=true->((a+X4 ts:Nat):Int)∈fd)
 | [],lp,a,w,u,wl,pe,h,hS,hL,ha=>by
   rw[X4];exact⟨λi hi=>`a,λ_=>ha⟩
 | t::ts,lp,a,w,u,wl,pe,h,hS,hL,ha=>by
   simp only[bK] at h;rw[cb] at hS;rw[gE] at hL;rw[X4];let⟨s1,s2⟩:=hS.app;let⟨d1,d2⟩:=hL.app;rw[kL] at s2;rw[pQ] at d2;let⟨q1,q2⟩:=goT t lp a w u wl pe h.1 s1 d1 ha;obtain hp | hp:=h.2.1
   ·let⟨q3,q4⟩:=D5 ts lp (a+bB t) (w+(c5 X0 t).length) u wl pe h.2.2 (by push_cast;exact s2) (by push_cast;exact d2) (q2 hp);refine⟨λi hi hk=>?_,λhpp=>?_⟩
    ·by_cases q:i<bB t
     ·exact q1 i q hk
     ·have:=q3 (i-bB t) `a (by rw[show a+bB t+(i-bB t)=a+i by cbv];exact hk);rwa [show a+bB t+(i-bB t)=a+i by cbv] at this
    ·rw[c6,Sa] at hpp;have:=q4 hpp.2;rwa [show a+bB t+X4 ts=a+(bB t+X4 ts) by cbv] at this
   ·subst hp;rw[X4];refine⟨λi hi hk=>q1 i `a hk,λhpp=>?_⟩;rw[c6,Sa] at hpp;exact q2 hpp.1
end
end
structure Fx (X0:RU)(lo m:Int)(s:aI):Prop where
 np:s.kind≠"part"
 cl:s.kind="call"->∃j:Int,lo<j/\j<m/\s.name=X0.getD j.toNat ""
theorem gJ (h1:s.kind≠"part")(h2:s.kind≠"call"):Fx X0 lo m s:=⟨h1,λe=>XS e h2⟩
theorem all1 {P:aI->Prop}(h:P s):∀x∈[s],P x:=λx hx=>by rw[Su.mp hx];exact h
theorem rR {P:aI->Prop}{a b:`M}(h:∀x∈a,P x)(h':∀x∈b,P x):∀x∈a++b,P x:=λx hx=>(SK.mp hx).elim (h x) (h' x)
mutual
theorem K2 {X0:RU}{lo m:Int}:∀(t:Th)(lp:Bool)(a w u:Int),bU lo m lp t->∀s∈spT X0 a w u t,Fx X0 lo m s
 | .Yq x,lp,a,w,u,h=>by rw[spT];exact all1 (gJ (show("do":Str)≠"part" by decide +kernel) (show("do":Str)≠"call" by decide +kernel))
 | .call j,lp,a,w,u,h=>by
   simp only[bU] at h;rw[spT];exact all1 ⟨show("call":Str)≠"part" by decide +kernel,λ_=>⟨j,h.1,h.2,rfl⟩⟩
 | .leave,lp,a,w,u,h=>by rw[spT];exact all1 (gJ (show("leave":Str)≠"part" by decide +kernel) (show("leave":Str)≠"call" by decide +kernel))
 | .back,lp,a,w,u,h=>by rw[spT];exact all1 (gJ (show("back":Str)≠"part" by decide +kernel) (show("back":Str)≠"call" by decide +kernel))
 | .X9 x A,lp,a,w,u,h=>by
   simp only[bU] at h;rw[spT];exact rR (all1 (gJ (show("while":Str)≠"part" by decide +kernel) (show("while":Str)≠"call" by decide +kernel))) (rR (lF A true _ _ _ h.2) (all1 (gJ (show("end":Str)≠"part" by decide +kernel) (show("end":Str)≠"call" by decide +kernel))))
 | .ifs x A B,lp,a,w,u,h=>by
   simp only[bU] at h;rw[spT];exact rR (rR (all1 (gJ (show("if":Str)≠"part" by decide +kernel) (show("if":Str)≠"call" by decide +kernel))) (lF A lp _ _ _ h.2.1)) (rR (all1 (gJ (show("else":Str)≠"part" by decide +kernel) (show("else":Str)≠"call" by decide +kernel))) (rR (lF B lp _ _ _ h.2.2) (all1 (gJ (show("end":Str)≠"part" by decide +kernel) (show("end":Str)≠"call" by decide +kernel)))))
theorem lF {X0:RU}{lo m:Int}:∀(ts:`N)(lp:Bool)(a w u:Int),bK lo m lp ts->∀s∈cb X0 a w u ts,Fx X0 lo m s
 | [],lp,a,w,u,h=>by rw[cb];intro s hs;cases hs
 | t::ts,lp,a,w,u,h=>by
   simp only[bK] at h;rw[cb];exact rR (K2 t lp _ _ _ h.1) (lF ts lp _ _ _ h.2.2)
end
theorem call_in {X0:RU}{j:Int}:∀{ts:`N}(a w u:Int),Th.call j∈ts->∃s∈cb X0 a w u ts,s.kind="call"/\s.name=X0.getD j.toNat ""
 | t::ts,a,w,u,h=>by
   rw[cb];obtain rfl | h:=SF.mp h
   ·exact⟨_,SS _ (by rw[spT];exact Su.mpr rfl),rfl,rfl⟩
   ·let⟨s,hs,h1⟩:=call_in (X0:=X0) (j:=j) (ts:=ts) (a+bB t) (w+(c5 X0 t).length) u h;exact⟨s,SH _ hs,h1⟩
def jW (k:Str):Nat:=((cO dH k).getD []).length
noncomputable def lK (S:`M):Nat:=(S.map λs=>jW s.kind).sum
theorem hU (a b:`M):lK (a++b)=lK a+lK b:=by unfold lK;rw[SN,UE]
theorem gL (s:aI):lK [s]=jW s.kind:=by unfold lK;simp
mutual
theorem rkT {X0:RU}:∀(t:Th)(a w u:Int),lK (spT X0 a w u t)=Yp t
 | .Yq x,a,w,u=>by rw[spT,gL,Yp];show jW "do"=1;decide +kernel
 | .call x,a,w,u=>by rw[spT,gL,Yp];show jW "call"=1;decide +kernel
 | .leave,a,w,u=>by rw[spT,gL];simp only[Yp];show jW "leave"=0;decide +kernel
 | .back,a,w,u=>by rw[spT,gL];simp only[Yp];show jW "back"=0;decide +kernel
 | .X9 x A,a,w,u=>by
   rw[spT,Yp,hU,hU,gL,gL,Aa A,show jW "while"=2 by decide +kernel,show jW "end"=0 by decide +kernel];cbv
 | .ifs x A B,a,w,u=>by
   rw[spT,Yp,hU,hU,hU,hU,gL,gL,gL,Aa A,Aa B,show jW "if"=2 by decide +kernel,show jW "end"=0 by decide +kernel,show jW "else"=0 by decide +kernel];cbv
theorem Aa {X0:RU}:∀(ts:`N)(a w u:Int),lK (cb X0 a w u ts)=Yk ts
 | [],a,w,u=>by rw[cb,Yk];rfl
 | t::ts,a,w,u=>by rw[cb,Yk,hU,rkT t,Aa ts]
end
variable {Kp:RS}{r:Rw}
theorem Qq {X0:RU}:∀(zs:`aV)(a w:Int),lK (iR X0 a w zs)=(zs.map λz=>Yk z.2).sum
 | [],a,w=>by rw[iR];rfl
 | z::r,a,w=>by
   rw[iR,hU,hU,hU,gL,gL,Aa,Qq r,show jW "part"=0 by decide +kernel,show jW "end"=0 by decide +kernel,Ta,Um];cbv
theorem wa {α β:Type}{f:α->List β}{g:α->Nat}(h:∀x,(f x).length<=g x):∀xs:List α,(xs.flatMap f).length<=(xs.map g).sum
 | []=>UL _
 | x::xs=>by
   rw[TB,Sx,Ta,Um];have:=h x;have:=wa h xs;cbv
theorem FO (S:`M)(Ld:`bn)(St:RS):(gc S Ld St).length<=lK S:=by
 have:=wa (f:=dQ Ld St) (g:=λz=>jW z.2.kind) (λz=>by
  unfold dQ j5;rw[Ss,T6];exact UX _ _) (nums S)
 refine UK this (U7 ?_);unfold lK
 conv=>rhs;rw[← rV S]
 rw[Tp];rfl
theorem n9 {St:RS}(h:r∈gc S Ld St):∃(n:Nat)(s:aI)(l:Int),S[n]?∣s/\r.1=(n:Int)/\aV s.kind=true/\l∈Ld.getD n []/\r.2.1=St.getD l.toNat 0:=by
 unfold gc at h;let⟨z,hz,hr⟩:=Ue.mp h;unfold dQ at hr;let⟨y,hy,rfl⟩:=SU.mp hr;let⟨i,hi⟩:=SO.mp hz;let⟨e1,e2⟩:=ft hi;unfold j5 at hy;let⟨h1,h2⟩:=Ug (show(y.1,y.2)∈_ from hy);rw[e1,show((i:Nat):Int).toNat=i by cbv] at h2;refine⟨i,z.2,y.2,e2,e1,?_,h2,rfl⟩;unfold aV;cases q:cO dH z.2.kind with
 | none=>rw[q] at h1;cases h1
 | some v=>rfl
theorem Fo {k:Str}(h:aV k=true):k∈Ys:=by
 unfold aV cO at h;split at h
 ·rename_i e;rw[← e];decide +kernel
 unfold cO at h;split at h
 ·rename_i e;rw[← e];decide +kernel
 unfold cO at h;split at h
 ·rename_i e;rw[← e];decide +kernel
 unfold cO at h;split at h
 ·rename_i e;rw[← e];decide +kernel
 ·cases h
theorem DW:∀{l m:RS},l.Nodup->(∀x∈l,x∈m)->l.length<=m.length
 | [],m,_,_=>UL _
 | x::l,m,nd,h=>by
   let⟨n1,n2⟩:=S5.mp nd;let hx:=h x Sz;have:=DW (l:=l) (m:=m.erase x) n2 λy hy=>by
    have:y≠x:=λe=>n1 (e▸hy);exact(List.mem_erase_of_ne this).mpr (h y (Sv _ hy))
   rw[List.length_erase_of_mem hx] at this;have:0<m.length:=List.length_pos_of_mem hx;rw[SE];cbv
noncomputable def jx (Kp:RS)(F:R7):Prop:=(F.map (·.1)).Nodup/\∀x∈F.map (·.1),x∈Kp
theorem jx.put (h:jx Kp F){k:Int}(hk:k∈Kp):jx Kp (cX F k):=by
 unfold cX;split
 ·exact h
 ·rename_i hn;let hnk:k∉F.map (·.1):=λz=>hn (kP.mpr z);refine⟨by rw[SN];exact jF h.1 hnk,λx hx=>?_⟩;rw[SN] at hx;obtain z | z:=SK.mp hx
  ·exact h.2 x z
  ·rw[show x=k by simpa using z];exact hk
theorem jx.rows {p:hX}:∀{rs:List Rw}{F:R7},jx Kp F->(∀r∈rs,hV p r=true->r.1∈Kp/\r.2.1∈Kp)->jx Kp (rs.foldl (dX p) F)
 | [],F,h,_=>h
 | r::rs,F,h,hr=>by
   rw[Tt];refine jx.rows ?_ λx hx=>hr x (Sv _ hx);unfold dX;split
   ·rename_i hi;let⟨h1,h2⟩:=hr r Sz hi;exact(h.put h1).put h2
   ·exact h
theorem jx.len (h:jx Kp F):F.length<=Kp.length:=by
 have:=DW h.1 h.2;rwa [Ss] at this
theorem z9:∀S:List aI,(S.filter λs=>aV s.kind).length<=lK S
 | []=>UL _
 | s::S=>by
   let ih:=z9 S;let e:lK (s::S)=jW s.kind+lK S:=by unfold lK;rw[Ta,Um]
   rw[e];by_cases h:aV s.kind=true
   ·rw[Tw (p:=λ(s:aI)=>aV s.kind) h,SE];have:1<=jW s.kind:=by
     unfold jW;unfold aV cO at h;unfold cO;split at h
     ·rename_i e;rw[XU e];decide
     rename_i e;rw[XT e];unfold cO at h ⊢;split at h
     ·rename_i e;rw[XU e];decide
     rename_i e;rw[XT e];unfold cO at h ⊢;split at h
     ·rename_i e;rw[XU e];decide
     rename_i e;rw[XT e];unfold cO at h ⊢;split at h
     ·rename_i e;rw[XU e];decide
     ·cases h
    cbv
   ·rw[Tx (p:=λ(s:aI)=>aV s.kind) h];cbv
theorem Nn (h:∀s∈S,s.kind≠"part"):YR S=[]:=by
 unfold YR;rw[Uu.mpr λs hs=>by simpa using h s hs];rfl
theorem L4 {X0:RU}{m:Int}:∀(zs:`aV)(a w:Int),(∀z∈zs,∃lo,bK lo m false z.2)->YR (iR X0 a w zs)=zs.map (·.1)
 | [],a,w,_=>by rw[iR];rfl
 | z::r,a,w,h=>by
   let⟨lo,hz⟩:=h z Sz;rw[iR,mH,mH,mH,L4 r _ _ λy hy=>h y (Sv _ hy),Nn λs hs=>(lF (X0:=X0) z.2 false _ _ _ hz s hs).np];rfl
theorem yg (S:`M):(cW S).map (·.1)=YR S:=by
 unfold cW YR
 conv=>rhs;rw[← rV S]
 rw[UG,Tp,Tp];rfl
section
variable (h:`aJ)
include h
theorem Mr:(c8 X0 Ls).map (·.1)=X0:=List.map_fst_zip (by rw[h.l];exact UJ _)
theorem KS:(c8 X0 Ls).map (·.2)=Ls:=List.map_snd_zip (by rw[h.l];exact UJ _)
theorem O9:∀z∈c8 X0 Ls,∃lo,bK lo (Ls.length:Int) false z.2:=λz hz=>by
 let⟨j,hj⟩:=SO.mp hz;exact⟨_,(eJ h hj).1⟩
theorem Gw:YR `i=X0:=by
 rw[L4 (m:=(Ls.length:Int)) _ _ _ (O9 h),Mr h]
theorem pV:(cW `i).map (·.1)=X0:=by rw[yg,Gw h]
theorem O6:(aw X0 Ls).length<=240:=by
 let⟨pl,_⟩:=xb h;let⟨e,_⟩:=uY h;let⟨i1,i2,_⟩:=wg (gO X0 Ls) (dq (X0.zip Ls));rw[e] at i1 i2;dsimp only at i1 i2;cbv
theorem z8 (hn:n<(aw X0 Ls).length)(hk:aT `i (n:Int)="part"):∃(j:Nat)(z:`bd)(w:Int),(c8 X0 Ls)[j]?∣z/\fH `i `C X0 `j w z/\n=fst X0 Ls j:=by
 let⟨j,z,w,hz,hb,h1,h2,h3⟩:=mU h n hn;refine⟨j,z,w,hz,hb,?_⟩;obtain q | q:=UP `j n
 ·exfalso;by_cases e:n=lst `j z
  ·rw[e,(dz hb.e).1] at hk;exact XS hk (show("end":Str)≠"part" by decide +kernel)
  ·let h2':n<fst X0 Ls j+1+X4 z.2:=UZ h2 e;let hi:n-`al<(cb X0 (((fst X0 Ls j+1:Nat)):Int) (w+2) (fst X0 Ls j:Int) z.2).length:=by rw[cu];cbv
   let hs:=hb.s.k (So hi);rw[show fst X0 Ls j+1+(n-`al)=n by cbv] at hs;rw[hs.1] at hk;exact(lF (X0:=X0) z.2 false _ _ _ (eJ h hz).1 _ (S7 hi)).np hk
 ·cbv
theorem nV {p:hX}(hp:p∈cW `i):∃(j:Nat)(z:`bd)(w:Int),(c8 X0 Ls)[j]?∣z/\fH `i `C X0 `j w z/\p=(z.1,((fst X0 Ls j:Nat):Int),((lst `j z:Nat):Int)):=by
 unfold cW at hp;let⟨y,hy,rfl⟩:=SU.mp hp;let⟨hy,hk⟩:=Tn.mp hy;let⟨n,nl,e1,e2⟩:=pX hy;let Zc:aT `i (n:Int)="part":=by
  unfold aT;rw[show((n:Nat):Int).toNat=n by cbv,e2];exact XW hk
 let⟨j,z,w,hz,hb,e3⟩:=z8 h nl Zc;refine⟨j,z,w,hz,hb,?_⟩;subst e3;unfold Le;rw[e1,hb.cl kG];have:y.2=⟨"part",z.1,w, -1⟩:=by rw[← e2,Sr,hb.nm];rfl
 rw[this];rfl
end
variable {v:gq}
theorem B2 (l:`x)(d:α)(p:α->Bool):((SQ l.length).filter λi=>p (l.getD i d)).length=(l.filter p).length:=by
 let e:(SQ l.length).map (λi=>l.getD i d)=l:=by
  refine Tr λi=>?_;rw[Sw];obtain h | h:=UP i l.length
  ·rw[Ti h,So h];show some (l.getD i d)=_;rw[Sr,So h];rfl
  ·rw[SY (~~~h),SY h];rfl
 conv=>rhs;rw[← e,UG,Ss]
 rfl
noncomputable def oB (S:`M)(f:Nat)(z:`bd):RS:=((SQ (X4 z.2)).filter λi=>aV (aT S ((f+1+i:Nat):Int))).map (λi=>((f+1+i:Nat):Int))++[((lst f z:Nat):Int)]
theorem jM {f:Nat}{v:Int}(h:Mt S f (lst f z) v):v∈oB S f z:=by
 let⟨h1,h2,h3⟩:=h;unfold oB;by_cases q:v=((lst f z:Nat):Int)
 ·exact SH _ (by rw[q];exact Su.mpr rfl)
 ·let h2':v<=((f+1+X4 z.2:Nat):Int):=h2;let q':v≠((f+1+X4 z.2:Nat):Int):=q;refine SS _ (SU.mpr ⟨v.toNat-(f+1),Tn.mpr ⟨Tv.mpr `a,?_⟩,`a⟩);rw[show((f+1+(v.toNat-(f+1)):Nat):Int)=v by cbv];exact h3.resolve_left q
theorem Ds {f:Nat}{w:Int}(h:fH S Ld X0 f w z)(hr:Yk z.2<=14):(oB S f z).length<=16:=by
 unfold oB;rw[Sx,Ss,S8];let e:((SQ (X4 z.2)).filter λi=>aV (aT S ((f+1+i:Nat):Int)))=((SQ (cb X0 (((f+1:Nat)):Int) (w+2) (f:Int) z.2).length).filter λi=>aV ((cb X0 (((f+1:Nat)):Int) (w+2) (f:Int) z.2).getD i dy).kind):=by
  rw[cu];refine List.filter_congr λi hi=>?_;let hi:i<(cb X0 (((f+1:Nat)):Int) (w+2) (f:Int) z.2).length:=by rw[cu];exact Tv.mp hi
  rw[(h.s.k (So hi)).1,Sr,So hi];rfl
 rw[e,B2 `as dy λs=>aV s.kind];have:=z9 `as;rw[Aa] at this;cbv
theorem nJ (h:`aJ):oF `i `C/\Good (Yj `i `C):=by
 let⟨hLd,hLi,hl2⟩:=Fi h;let hS:=O6 h;refine⟨⟨hS,hLd,hLi,λn hn hk=>?_⟩,?_⟩
 ·let⟨j,z,w,hz,hb,e⟩:=z8 h hn hk;subst e;rw[hb.cl kG];rfl
 let bl:∀{j:Nat}{z:`bd}{w:Int},fH `i `C X0 `j w z->fst X0 Ls j<(aw X0 Ls).length:=λhb=>(Sn.mp hb.nm).1;let hn:=pV h;let hlp:(cW `i).length=X0.length:=by rw[← congrArg List.length hn,Ss]
 refine⟨hS,?_,?_,λp hp=>?_,hLi,hl2,kK _ (UJ _),?_,λn t ht hk=>?_,λfd hR n hn' hk=>?_,λp hp=>?_,λp hp=>?_,?_,λr hr=>?_,λp hp=>?_⟩
 ·show(cW `i).length<=4;rw[hlp,h.l];exact h.l4
 ·show((cW `i).map (·.1)).Nodup;rw[hn];exact h.nd
 ·let⟨j,z,w,hz,hb,rfl⟩:=nV h hp;have:=bl hb;exact⟨by show(0:Int)<=((fst X0 Ls j:Nat):Int);cbv,by show((fst X0 Ls j:Nat):Int)<((aw X0 Ls).length:Int);cbv⟩
 ·show(YR `i).Nodup;rw[Gw h];exact h.nd
 ·-- X1
  let ht:(aw X0 Ls)[n]?∣t:=ht;let hn':=(Sn.mp ht).1;let⟨j,z,w,hz,hb,h1,h2,h3⟩:=mU h n hn';let Zc:=(dz ht).1;let Yi:n≠fst X0 Ls j:=λe=>by
   rw[e,hb.k,hk] at Zc;exact XS Zc `b
  let hnl:n≠lst `j z:=λe=>by
   rw[e,(dz hb.e).1,hk] at Zc;exact XS Zc (show("end":Str)≠"call" by decide +kernel)
  let h2':n<fst X0 Ls j+1+X4 z.2:=UZ h2 hnl;let hi:n-`al<(cb X0 (((fst X0 Ls j+1:Nat)):Int) (w+2) (fst X0 Ls j:Int) z.2).length:=by rw[cu];cbv
  let hs:=hb.s _ _ (So hi);rw[show fst X0 Ls j+1+(n-`al)=n by cbv,ht] at hs;let ko:=lF (X0:=X0) z.2 false _ _ _ (eJ h hz).1 _ (S7 hi);rw[← Option.some.inj hs] at ko;let⟨c,c1,c2,c3⟩:=ko.cl hk;let hcl:c.toNat<X0.length:=by rw[h.l];cbv
  let hcz:c.toNat<(c8 X0 Ls).length:=by rw[T6,h.l];cbv
  let⟨w',Zd⟩:=hJ (X0:=X0) (Ls:=Ls) (So hcz);let YS:=pJ `L j c.toNat z hz `a;refine⟨fst X0 Ls c.toNat,_,?_,Zd.nm,rfl,?_⟩
  ·have:fst X0 Ls j+2+X4 z.2<=fst X0 Ls c.toNat:=YS;cbv
  ·rw[c3];let hz':=(eJ h (So hcz)).2.2.2.1;rw[Sr,hz'];rfl
 ·-- coming to each sentence
  let⟨hR1,hR2⟩:=hR;let hn':n<(aw X0 Ls).length:=hn';let⟨j,z,w,hz,hb,h1,h2,h3⟩:=mU h n hn';let Zc:aT `i (n:Int)∈Ys:=hk;let Yi:n≠fst X0 Ls j:=λe=>by
   rw[e,hb.k] at Zc;exact XS Zc `b
  let hnl:n≠lst `j z:=λe=>by
   rw[e,(dz hb.e).1] at Zc;exact XS Zc (show("end":Str)∉Ys by decide +kernel)
  let h2':n<fst X0 Ls j+1+X4 z.2:=UZ h2 hnl;let hf:((fst X0 Ls j:Nat):Int)∈fd:=by
   refine hR1 (z.1,((fst X0 Ls j:Nat):Int),(bq (eN `i) ((fst X0 Ls j:Nat):Int)).getD 0) ?_;show _∈cW `i;unfold cW;exact SU.mpr ⟨(((fst X0 Ls j:Nat):Int),⟨"part",z.1,w, -1⟩),Tn.mpr ⟨rK hb.nm,XY rfl⟩,rfl⟩
  let hC:mV `C fd:=hR2;let hf1:=hC.on hf hb.df (l:=((fst X0 Ls j:Nat):Int)+1) `bi;have:=(D5 (X0:=X0) (S:=aw X0 Ls) hC z.2 false `al (w+2) _ 0 _ (eJ h hz).1 hb.s hb.d (by push_cast;exact hf1)).1 (n-`al) `a (by rw[show fst X0 Ls j+1+(n-`al)=n by cbv];exact Zc);rwa [show fst X0 Ls j+1+(n-`al)=n by cbv] at this
 ·-- each later part is called
  let hp:p∈(cW `i).drop 1:=hp;let⟨k,hk⟩:=SO.mp hp;rw[UH] at hk;let hnk:X0[1+k]?∣p.1:=by rw[← hn,Sw,hk];rfl
  let hkl:=(Sn.mp hnk).1;let⟨L,hL,hcL⟩:=h.cl (1+k) `a (by rw[← h.l];exact hkl);let⟨i,hi⟩:=SO.mp hL;let il:=(Sn.mp hi).1;let hiz:i<(c8 X0 Ls).length:=by rw[T6,h.l];cbv
  let⟨w',Zd⟩:=hJ (X0:=X0) (Ls:=Ls) (So hiz);let e2:=(eJ h (So hiz)).2.2.2.2;rw[hi] at e2;let e2:=Option.some.inj e2;let⟨s,hs,s1,s2⟩:=call_in (X0:=X0) (((fst X0 Ls i+1:Nat)):Int) (w'+2) ((fst X0 Ls i:Nat):Int) hcL;rw[e2] at hs;let⟨q,hq⟩:=SO.mp hs;refine⟨s,SD (Zd.s q s hq),s1,?_⟩;rw[s2,show(((1+k:Nat)):Int).toNat=1+k by cbv,Sr,hnk];rfl
 ·-- no part ends at X5 begin
  let⟨j,z,w,hz,hb,rfl⟩:=nV h hp;let⟨Zn,ZY,ok3,_⟩:=eJ h hz;show(aW `i `C).getD ((fst X0 Ls j:Nat):Int).toNat 0≠((lst `j z:Nat):Int);rw[show((fst X0 Ls j:Nat):Int).toNat=fst X0 Ls j by cbv,hb.first Zn ZY];have:=(kQ hb Zn ZY).2;show((fst X0 Ls j+1:Nat):Int)≠((fst X0 Ls j+1+X4 z.2:Nat):Int);cbv
 ·-- rows
  show(gc `i `C (aW `i `C)).length<=30;refine UK (FO _ _ _) ?_;rw[Qq];let e:(c8 X0 Ls).map (λz=>Yk z.2)=Ls.map Yk:=by
   conv=>rhs;rw[← KS h]
   rw[Tp];rfl
  show((c8 X0 Ls).map λz=>Yk z.2).sum<=30;rw[e];exact h.tot
 ·let⟨n,s,l,h1,h2,h3,_⟩:=n9 hr;let hn':=(Sn.mp h1).1;rw[h2];refine⟨⟨`a,by show(n:Int)<((aw X0 Ls).length:Int);cbv⟩,?_⟩;show aT `i (n:Int)∈Ys;rw[(dz h1).1];exact Fo h3
 ·-- places
  let⟨j,z,w,hz,hb,rfl⟩:=nV h hp;let⟨Zn,ZY,ok3,_⟩:=eJ h hz;let fl:fst X0 Ls j<lst `j z:=by show _<fst X0 Ls j+1+X4 z.2;cbv
  let Y3:=λn h1 h2=>hb.Au kG Zn _ n rfl h1 h2;refine UK (jx.len (Kp:=oB `i `j z) ?_) (Ds hb ok3);refine jx.rows ?_ λr hr hi=>?_
  ·let Yi:(aW `i `C).getD `j 0≠((lst `j z:Nat):Int):=by
    rw[hb.first Zn ZY];have:=(kQ hb Zn ZY).2;show((fst X0 Ls j+1:Nat):Int)≠((fst X0 Ls j+1+X4 z.2:Nat):Int);cbv
   let e0:(Yj `i `C).St.getD ((fst X0 Ls j:Nat):Int).toNat 0=(aW `i `C).getD `j 0:=by rw[show((fst X0 Ls j:Nat):Int).toNat=fst X0 Ls j by cbv];rfl
   dsimp only;rw[e0];refine⟨?_,λx hx=>?_⟩
   ·exact S5.mpr ⟨λq=>Yi (Su.mp q),S5.mpr ⟨`d,T9⟩⟩
   ·let hx:x=(aW `i `C).getD `j 0∨x=((lst `j z:Nat):Int):= ~~~hx
    obtain rfl | rfl:=hx
    ·exact jM (Y3 _ (UJ _) `a)
    ·exact jM ⟨`a,Sl _,.inl rfl⟩
  ·let⟨n,s,l,h1,h2,h3,h4,h5⟩:=n9 hr;unfold hV at hi;rw[Sa] at hi;let i1:((fst X0 Ls j:Nat):Int)<r.1:=XW hi.1;let i2:r.1<((lst `j z:Nat):Int):=XW hi.2;rw[h2] at i1 i2;let Zc:aT `i (n:Int)=s.kind:=(dz h1).1;let st:=hb.all kG Zn n `a `a;let rg:=st.rg l h4;refine⟨?_,?_⟩
   ·rw[h2];exact jM ⟨i1,`a,.inr (by rw[Zc];exact h3)⟩
   ·rw[h5];exact jM (Y3 l.toNat `a `a)
theorem JA:Pure:=λX0 Ls h=>⟨cG X0 Ls,nJ h⟩
structure kC (mg:RQ):Prop where
 isinstance:mg "isinstance"=none
 bool:mg "bool"=none
 max:mg "max"=none
 nocall:∃t,mg "NO_CALL"∣(.int (-1) t)
 first:∃t,mg "FIRST_PART"∣.int 0 t
 yes:∃t,mg "YES"∣.int 1 t
 ended:∃t,mg "ENDED"∣(.str "ended" t)
 bound:∃t,mg "BOUND"∣(.str "bound" t)
 wanting:∃t,mg "WANTING"∣(.str "wanting" t)
abbrev i8:=R7
abbrev GG:Row:=(0,0,0,0)
def ad (v:gq)(k:Int):Row:=v.2.getD k.toNat GG
noncomputable def sG (v:gq)(p q:Int):RS:=(ups 0 v.2.length).filter λk=>decide (((ad v k).1,(ad v k).2.1)=(p,q))
theorem nX {st:i8}(h:st≠[]):st.dropLast++[st.getLast h]=st:=TJ h
def trim (st:i8):i8:=(st.reverse.dropWhile λt=>decide (t.2=1)).reverse
theorem wW:trim []=[]:=rfl
theorem wF {st:i8}(h:st≠[])(e:(st.getLast h).2=1):trim st=trim st.dropLast:=by
 let e1:st.reverse=st.getLast h::st.dropLast.reverse:=by
  have:=congrArg List.reverse (nX h);rw[← this];simp
 unfold trim;rw[e1,List.dropWhile_cons,XU (XY e)]
theorem vk {st:i8}(h:st≠[])(e:(st.getLast h).2≠1):trim st=st:=by
 let e1:st.reverse=st.getLast h::st.dropLast.reverse:=by
  have:=congrArg List.reverse (nX h);rw[← this];simp
 unfold trim;rw[e1,List.dropWhile_cons,XT (~~~e),← e1,List.reverse_reverse]
theorem yb:∀(n:Nat)(st:i8),st.length=n->∃s',st=trim st++s'/\(∀t∈s',t.2=1)/\∀h:trim st≠[],((trim st).getLast h).2≠1
 | 0,st,hn=>by
   have:st=[]:=List.length_eq_zero_iff.mp hn;subst this;rw[wW];exact⟨[],rfl,`d,λh=>XS rfl h⟩
 | n+1,st,hn=>by
   let Yi:st≠[]:=λe=>by rw[e] at hn;simp at hn
   by_cases e:(st.getLast Yi).2=1
   ·let⟨s',h1,h2,h3⟩:=yb n st.dropLast (by rw[T8,hn];rfl);rw[wF Yi e];refine⟨s'++[st.getLast Yi],?_,λt ht=>?_,h3⟩
    ·rw[← SR,← h1];exact(nX Yi).symm
    ·obtain q | q:=SK.mp ht
     ·exact h2 t q
     ·rw[Su.mp q];exact e
   ·rw[vk Yi e];exact⟨[],`d,`d,λ_=>e⟩
structure nF (v:gq):Prop where
 pl:v.1.length<=4
 p1:1<=v.1.length
 rl:v.2.length<=30
 sz:∀n∈v.1,2<=n/\n<=16
 rw:∀r∈v.2,(0<=r.1/\r.1<(v.1.length:Int))/\(0<=r.2.1/\r.2.1<v.1.getD r.1.toNat 0)/\(0<=r.2.2.1/\r.2.2.1<v.1.getD r.1.toNat 0)/\(r.2.2.2= -1∨(0<=r.2.2.2/\r.2.2.2<(v.1.length:Int)))
 fr:∀p k:Nat,p<v.1.length->(k:Int)<v.1.getD p 0->k≠1->∃(n:Nat)(r:Row),v.2[n]?∣r/\r.1=(p:Int)/\r.2.1=(k:Int)
theorem qB {α β:Type}{P:α->List β->Prop}(hp:∀x ys,P x ys->ys=[]):∀{xs:`x}{YW:List (List β)},PySem.Paired P xs YW->YW=Tg xs.length []
 | _,_,.nil=>rfl
 | _,_,.cons h t=>by rw[SE,List.replicate_succ,qB hp t,hp _ _ h]
noncomputable def kE (v:gq)(p:Int)(i:Nat)(q:Int):RS:=(ups 0 i).filter λk=>decide (((ad v k).1,(ad v k).2.1)=(p,q))
theorem EY (i:Nat):ups 0 (i+1)=ups 0 i++[(i:Int)]:=by
 unfold ups;rw[Ua,SN];simp
theorem sg (v:gq)(p:Int)(i:Nat)(q:Int):kE v p (i+1) q=kE v p i q++(if(ad v (i:Int)).1=p/\(ad v (i:Int)).2.1=q then[(i:Int)] else[]):=by
 unfold kE;rw[EY,TU];congr 1;by_cases h:(ad v (i:Int)).1=p/\(ad v (i:Int)).2.1=q
 ·rw[XU h,Tw (by simp[h.1,h.2])];rfl
 ·rw[XT h,Tx (by simp;exact λa b=>h ⟨a,b⟩)];rfl
noncomputable def jC (v:gq)(p:Int)(n i:Nat):List RS:=(ups 0 n).map (kE v p i)
noncomputable def j8 (v:gq)(p:Int):List RS:=(ups 0 (v.1.getD p.toNat 0).toNat).map (sG v p)
theorem lD (v:gq)(p:Int)(n i:Nat):(jC v p n i).length=n:=by unfold jC;rw[Ss,bt]
theorem uU (h:j<n):(ups 0 n)[j]?∣(j:Int):=by unfold ups;rw[Sw,Ti h];simp
theorem qt {p:Int}(h:j<n):(jC v p n i)[j]?∣(kE v p i (j:Int)):=by unfold jC;rw[Sw,uU h];rfl
theorem Ca {p:Int}(h:(ad v (i:Int)).1≠p):jC v p n (i+1)=jC v p n i:=by
 unfold jC;refine TK λq hq=>?_;rw[sg,XT (λz=>h z.1),S3]
theorem FX {p:Int}(h:(ad v (i:Int)).1=p)(s0:0<=(ad v (i:Int)).2.1)(s1:(ad v (i:Int)).2.1<(n:Int)):(jC v p n i).set (ad v (i:Int)).2.1.toNat (kE v p i (ad v (i:Int)).2.1++[(i:Int)])=jC v p n (i+1):=by
 apply Tr;intro j;by_cases hj:j<n
 ·rw[qt hj,sg];by_cases e:(ad v (i:Int)).2.1.toNat=j
  ·subst e;rw[SG (by rw[lD];exact hj),XU ⟨h,`a⟩];rw[show(((ad v (i:Int)).2.1.toNat:Nat):Int)=(ad v (i:Int)).2.1 by cbv]
  ·rw[SX e,qt hj,XT (λz=>e (by have:=z.2;cbv)),S3]
 ·rw[SY (by rw[Tb,lD];cbv),SY (by rw[lD];cbv)]
theorem uV (v:gq)(p:Int)(i:Nat)(q:Int):(kE v p i q).length<=i:=by
 unfold kE;refine UK (T5 _ _) ?_;rw[bt];exact UJ _
theorem FA {p q:Int}(q0:0<=q)(q1:q<v.1.getD p.toNat 0):(j8 v p)[q.toNat]?∣sG v p q:=by
 have:=qt (v:=v) (p:=p) (n:=(v.1.getD p.toNat 0).toNat) (i:=v.2.length) (j:=q.toNat) `a;rw[show((q.toNat:Nat):Int)=q by cbv] at this;exact this
theorem boot_bool:VM "bool"∣(.type "bool"):=`b
variable {st:i8}
theorem xq (h:st≠[]):st[st.length-1]?∣st.getLast h:=by rw[List.getLast_eq_getElem];exact So _
abbrev KD:Stmt:=top sD
abbrev Pq:RU:=["web","part","leaving","number","row"]
noncomputable def Qs (fr:Bool):c9:=λK ps T=>∃(v:gq)(p:Int),ps=[⟨lA,v⟩,⟨ah,p⟩]/\nF v/\0<=p/\p<(v.1.length:Int)/\T=if fr=true then DZ K (ae ah) (· =j8 v p) else PD K ah (· =j8 v p)
theorem Ni (fr:Bool)(M:`aY)(Df:Def K mg "rows_leaving" KD ["web","part"]):aD P w K mg base "rows_leaving" 1 (aP (Qs fr) K):=by
 let Zs:S6 [("place":Str)]:=`c
 refine bP (N:=Pq) Df `n;let⟨v,p,rfl,hv,p0,p1,rfl⟩:=hS;let pl:=hv.pl;let rl:=hv.rl;let hn:cE v.1 p∣v.1.getD p.toNat 0:=bb 0 p0 p1;let nb:=hv.sz (v.1.getD p.toNat 0) (by rw[Sr,So `a];exact S7 _);generalize hN:v.1.getD p.toNat 0=n at hn nb;change WS _ _ [QL v,aE p,.no,.no,.no] _ _;refine ai (IQ 2 (own:=["place"]) (fr:=[]) (ix:=[]) (ra:=ah) (rb:=ah) (P:=λ_ ys=>ys=[]) (bQ (so:=ao KD) (N0:=Pq) rfl rfl `X `b) (eh M.range (a9 (yx `e) `g hn) ⟨`a,`a⟩)
  `D `U (λx=>⟨trivial,trivial⟩) (λC s H ex x hx=>bc.evr (aQ aN `c) rfl) λa bs YW pq _=>?_)
 let ey:=qB (λ_ _ h=>h) pq;rw[bt] at ey;let e0:Tg n.toNat ([]:RS)=jC v p n.toNat 0:=by
  unfold jC kE;apply Tr;intro j;rw[TQ,Sw];by_cases hj:j<n.toNat
  ·rw[XU hj,uU hj];rfl
  ·rw[XT hj,SY (by rw[bt];cbv)];rfl
 rw[e0] at ey;subst ey;refine ai (bO (r:=dO ah fh) (λi Z=>∃v3 v4,Z=[QL v,aE p,.ob (sN ah a bs (jC v p n.toNat i)),v3,v4])
  (iU M.enumerate (tI `e)) (eQ 3 4) ⟨_,_,rfl⟩ ?_ ?_)
 ·rintro i x Z hx ⟨v3,v4,rfl⟩;let⟨e1,e2⟩:=ft hx;let il:=(Sn.mp e2).1;let er:ad v i=x.2:=by unfold ad;rw[Sr,show((i:Int)).toNat=i by cbv,e2];rfl
  refine aj (aZ (ay iD (yR `af) `g) (λh=>?_) `Q)
  ·let h:x.2.1=p:=XW h;let rp:=hv.rw _ (SD e2);let q0:=rp.2.1.1;let q1:=rp.2.1.2;rw[h,hN] at q1;let len:=lD v p n.toNat i;refine aj (Bi 2 (IZ `af) `q rfl (xW q0 `a) (qt (j:=x.2.2.1.toNat) `a) (UM (UK (uV v p i _) (show i<=100 by cbv)) `c) ?_);refine⟨aE x.1,.im fh x.2,?_⟩;have:=FX (v:=v) (p:=p) (n:=n.toNat) (i:=i) (by rw[er];exact h) (by rw[er];exact q0) (by rw[er];cbv);rw[er] at this;rw[e1,show((x.2.2.1.toNat:Nat):Int)=x.2.2.1 by cbv,this];rfl
  ·let h:x.2.1≠p:=XX h;refine⟨aE x.1,.im fh x.2,?_⟩;rw[Ca (by rw[er];exact h)];rfl
 ·rintro Z ⟨v3,v4,rfl⟩;rw[cN];let e:jC v p n.toNat v.2.length=j8 v p:=by unfold j8;rw[hN];rfl
  rw[e];let ll:(j8 v p).length<=16:=by rw[← e,lD];cbv
  cases fr with
  | false=>exact aj (JW 2 rfl rfl)
  | true=>
    refine aj (HL 2 rfl (aM `a) (λxs hx=>?_) rfl);rw[← e] at hx;let⟨q,_,rfl⟩:=SU.mp hx;exact aM (UK (uV v p _ q) `a)
abbrev Ph:Stmt:=top yG
def KH:c9:=λK ps T=>∃x:Int,ps=[⟨ah,x⟩]/\T=cq K cU (· =true)
theorem Ow (M:`aY)(M4:kC mg)(Df:Def K mg "is_whole" Ph ["value"]):aD P w K mg base "is_whole" 1 (aP KH K):=by
 refine bP (N:=["value"]) Df `n;let⟨x,rfl,rfl⟩:=hS;exact aj (aY (oS (bA M4.isinstance M.int Vj `e ty_int) (λ_=>sW (xE (bA M4.isinstance M4.bool boot_bool `e ty_int)))) rfl)
abbrev B8:Stmt:=top wC
theorem MI:bD ["values"] ["values"] (ao B8):=Zf
def Qz:c9:=λK ps T=>((∃ns:RS,ps=[⟨ae ah,ns⟩])∨(∃r:Row,ps=[⟨fh,r⟩]))/\T=cq K cU (· =true)
theorem BJ (xs:`x):((xs.filter λ_=>true).map λ_=>true).all id=true:=by
 rw[Ud];intro b hb;let⟨_,_,rfl⟩:=SU.mp hb;rfl
theorem OL (M:`aY)(M4:kC mg)(CI:aD P w K mg base "is_whole" 1 (aP KH K))(F:dw K "are_whole" "are_whole" B8 f fd)(hm:mg "are_whole"∣.ref f)(hb:be K fd ["values"] []):aD P w K mg base "are_whole" 2 (aP Qz K):=by
 let nd:=MI.nd;let Zs:S6 [("value":Str)]:=`c
 refine ij F MI hm hb (λqs T ⟨e,_⟩=>by rcases e with⟨_,e⟩ | ⟨_,e⟩<;>(rw[e];rfl)) `ag
 obtain⟨⟨ns,rfl⟩ | ⟨r,rfl⟩,rfl⟩:=hS
 ·exact aj (aY (tK M.all (bc.im (cI (own:=["value"]) (fr:=[]) (ix:=[]) (p:=λ_=>true) (f:=λ_=>true) (bQ (so:=ao B8) (N0:=["values"]) rfl rfl `X `b) (bM `e)
   `D `U (λC s H ex x hx=>eu) (λC s H ex x hx _=>aB CI hr `bb ⟨_,rfl,rfl⟩)))) (BJ ns))
 ·exact aj (aY (tK M.all (bc.im (cI (own:=["value"]) (fr:=[]) (ix:=[]) (p:=λ_=>true) (f:=λ_=>true) (bQ (so:=ao B8) (N0:=["values"]) rfl rfl `X `b) (Mi `e)
   `D `U (λC s H ex x hx=>eu) (λC s H ex x hx _=>aB CI hr `bb ⟨_,rfl,rfl⟩)))) (BJ _))
abbrev Gu:Stmt:=top tT
abbrev Hn:RU:=["answers","bound"]
theorem Mv:bD Hn Hn (ao Gu):=Zf
noncomputable def pC (ans:RS):Bool:=((ans.filter λ_=>true).map λa=>decide (0<=a)&&decide (a<=1)).all id
def Pg:c9:=λK ps T=>∃(ans:RS)(bound:Int),ps=[⟨ae ah,ans⟩,⟨ah,bound⟩]/\pC ans=true/\0<=bound/\T=cq K nY (λ_=>True)
theorem OJ (M:`aY)(M4:kC mg)(CI:aD P w K mg base "is_whole" 1 (aP KH K))(CA:aD P w K mg base "are_whole" 2 (aP Qz K))(F:dw K "need_answers" "need_answers" Gu f fd)(hm:mg "need_answers"∣.ref f)(hb:be K fd Hn []):aD P w K mg base "need_answers" 3 (aP Pg K):=by
 let nd:=Mv.nd;let Zs:S6 [("answer":Str)]:=`c
 refine MN F Mv hm hb (λqs T ⟨_,_,e,_⟩=>by rw[e];rfl) `ag;let⟨ans,bound,rfl,ha,hb,rfl⟩:=hS;refine⟨λ_ _ _=>⟨(),rfl,trivial⟩,?_⟩;change WS _ _ [eT ans,aE bound] _ _;refine ai (aZ (TW.tv (jd (gj (bV (bA M4.isinstance M.list Ve `e ty_list))) (λ_=>jd (gj (bV (aB CA hr `bb ⟨.inl ⟨_,rfl⟩,rfl⟩))) (λ_=>jk (gj (bV (tK M.all (bc.im (cI (own:=["answer"]) (fr:=[]) (ix:=[]) (p:=λ_=>true) (f:=λa=>decide (0<=a)&&decide (a<=1)) (bQ (so:=ao Gu) (N0:=Hn) rfl rfl `X `b) (bM `e)
  `D `U (λC s H ex x hx=>eu) (λC s H ex x hx _=>rT xY xY ac `e ac)))))))))) (λh=>?_) `Q)
 ·let h2:(false ||(false || !pC ans))=true:=h;rw[ha] at h2;cases h2
 refine aj (aZ (TW.tv (jd (gj (bV (aB (CI.mono `c) hr (ag `g ax) ⟨_,rfl,rfl⟩))) (λ_=>jk (ay nD `g ac)))) (λh=>?_) (λh=>aH trivial));let h2:(false ||decide (bound<0))=true:=h;simp at h2;cbv
abbrev Qk:Stmt:=top yM
def Mf:c9:=λK ps T=>∃p:Int,ps=[⟨ah,p⟩]/\T=cq K jj (· =(p,0))
theorem Nh (M3:kB mg)(Df:Def K mg "at_begin" Qk ["part"]):aD P w K mg base "at_begin" 1 (aP Mf K):=by
 let⟨t1,hB⟩:=M3.beg;refine bP (N:=["part"]) Df `n;let⟨p,rfl,rfl⟩:=hS;change WS _ _ [aE p] _ _;exact aj (aY (pO (ag `e (ag (fO hB) ax))) rfl)
abbrev Gp:Stmt:=top Nj
noncomputable def km (st:i8)(r:Row):i8:=trim (if r.2.2.2= -1 then st.set (st.length-1) (r.1,r.2.2.1) else st.set (st.length-1) (r.1,r.2.2.1)++[(r.2.2.2,0)])
def PK:jt (Int×Int):=λK xs ps T=>∃r:Row,ps=[⟨fh,r⟩]/\xs≠[]/\xs.length<=200000/\T=λxs'=>cq K nY λz=>xs'=km xs r/\z=()
theorem Ol (M3:kB mg)(M4:kC mg)(CA:aD P w K mg base "at_begin" 1 (aP Mf K))(Df:Def K mg "go" Gp ["stack","row"]):aD P w K mg base "go" 2 (fR jj PK K):=by
 let⟨t1,hNC⟩:=M4.nocall;let⟨t2,hEND⟩:=M3.end_;refine FV (N:=["stack","row"]) Df (λf X6 A outer s H E a xs qs T nd hr hS=>?_);let⟨r,rfl,ne,hl,rfl⟩:=hS;change WS _ _ [.ob (aF a jj xs),.im fh r] _ _;let hpos:0<xs.length:=Uo.mpr ne;let hix:gm xs.length (-1)∣(xs.length-1):=by unfold gm;rw[XT `a,XU `a];congr 1;cbv
 refine ai (eG 0 (j:=xs.length-1) (pO (ag (yR `g) (ag (JB `g) ax))) (cj ac) rfl rfl hix ?_);let two:∀s2:i8,trim s2=km xs r->WS (eE d7 P w K mg base ["stack","row"] "go" (ao Gp) f X6 A outer s H E).gP ((bF Gp).drop 2) [.ob (aF a jj s2),.im fh r] (λZ=>∃xs',Z[0]?∣(.ob (aF a jj xs'))/\∀H0 H' R',(cq K nY λz=>xs'=km xs r/\z=()) H0 .Ye H' R') (vx K a jj λxs'=>cq K nY λz=>xs'=km xs r/\z=()):=by
  intro s2 he;refine aj (mR (λm Z=>∃s3:i8,Z=[.ob (aF a jj s3),.im fh r]/\m=s3.length/\trim s3=km xs r) (m0:=s2.length) ⟨s2,rfl,rfl,he⟩ ?_);rintro m Z ⟨s3,rfl,rfl,ht⟩;by_cases Yi:s3=[]
  ·subst Yi;refine⟨_,_,TV.box 0 (TW.tv (de (y:=false) (mJ 0 rfl) `aD)) rfl rfl,λh=>XS h `c,λ_=>?_⟩;exact⟨[],rfl,λ_ _ _=>⟨(),rfl,by rw[← ht,wW],rfl⟩⟩
  ·let hl3:=xq Yi;let ne':s3.isEmpty=false:=by cases s3 with
    | nil=>exact XS rfl Yi
    | cons a b=>rfl
   refine⟨_,_,TV.box 0 (TW.tv (de (mJ 0 rfl) (λ_=>eO (ay iD (tI (oZ 0 (cj ac) rfl rfl (rM hl3))) (fO hEND))))) rfl rfl,λh=>?_,λh=>?_⟩
   ·rw[Sa] at h;let h1:(s3.getLast Yi).2=1:=XW h.2;refine aj (pj (EV.box 0 (xI 0 rfl hl3) rfl rfl) ?_);exact⟨s3.dropLast.length,by rw[T8];have:=Uo.mpr Yi;cbv,s3.dropLast,rfl,rfl,by rw[← wF Yi h1];exact ht⟩
   ·rw[ne'] at h;let h1:(s3.getLast Yi).2≠1:= ~~~h
    rw[vk Yi h1] at ht;exact⟨s3,rfl,λ_ _ _=>⟨(),rfl,ht,rfl⟩⟩
 refine ai (aZ (ay Fz (yN `g) (fO hNC)) (λh=>?_) `Q)
 ·let h:r.2.2.2≠ -1:= ~~~h
  refine aj (pj (EV.box 0 (vd 0 (aB CA hr (ag (yN `g) ax) ⟨_,rfl,rfl⟩) rfl rfl (UM (show _<=200001 by rw[Tb];cbv) `c)) rfl rfl) ?_);exact two _ (by rw[km,XT h])
 ·let h:r.2.2.2= -1:= ~~~h
  exact two _ (by rw[km,XU h])
abbrev vL:hX:=("",0,0)
noncomputable def cZ (s:iL)(n:Int):Int:=((s.parts.filter λp=>decide (p.2.1<=n)).length:Int)-1
noncomputable def eI (s:iL):List R7:=s.parts.map (cM s)
def YO (X0:RU)(x:Str):Nat:=X0.findIdx λy=>decide (y=x)
noncomputable def fF (s:iL)(r:Rw):Row:=
 (cZ s r.1,(bq ((eI s).getD (cZ s r.1).toNat []) r.1).getD 0,(bq ((eI s).getD (cZ s r.1).toNat []) r.2.1).getD 0,if r.2.2.1="call" then(YO (s.parts.map (·.1)) r.2.2.2:Int) else -1)
noncomputable def YL (s:iL):gq:=((eI s).map λF=>(F.length:Int),s.rows.map (fF s))
structure Ec (s:iL):Prop where
 pt:∀r∈s.rows,0<=cZ s r.1/\cZ s r.1<(s.parts.length:Int)
 f1:∀r∈s.rows,(bq ((eI s).getD (cZ s r.1).toNat []) r.1).isSome
 f2:∀r∈s.rows,(bq ((eI s).getD (cZ s r.1).toNat []) r.2.1).isSome
 cl:∀r∈s.rows,r.2.2.1="call"->r.2.2.2∈s.parts.map (·.1)
theorem nj (h:x∈X0):X0[YO X0 x]?∣x/\∀m,m<YO X0 x->X0[m]?≠some x:=by
 unfold YO;let hl:(X0.findIdx λy=>decide (y=x))<X0.length:=List.findIdx_lt_length_of_exists ⟨x,h,XY rfl⟩;refine⟨?_,λm hm e=>?_⟩
 ·have:=List.findIdx_getElem (w:=hl);rw[So hl,XW this]
 ·have:=List.not_of_lt_findIdx hm;let⟨ml,em⟩:=Sn.mp e;rw[em] at this;simp at this
theorem vi {o:`br}(h:o.isSome=true):o∣o.getD 0:=by
 cases o with
 | none=>cases h
 | some x=>rfl
abbrev FC:Stmt:=top A5
def MA (C D:Addr):c9:=λK ps T=>∃(s:iL)(n:Int),ps=[⟨cV C D,s⟩,⟨ah,n⟩]/\s.parts.length<=4/\T=cq K ah (· =cZ s n)
theorem Lb (M:`aY)(HD:bL K D gf)(Df:Def K mg "part_at" FC ["spots","number"]):aD P w K mg base "part_at" 1 (aP (MA C D) K):=by
 let Zs:S6 [("part":Str),"number"]:=`c
 refine bP (N:=["spots","number"]) Df `t;let⟨s,n,rfl,hl,rfl⟩:=hS;change WS _ _ [.im (cV C D) s,aE n] _ _;refine aj (aY (h8 (eo M.len (bc.im (cI (own:=["part"]) (fr:=["number"]) (ix:=[1]) (ra:=au) (rb:=au) (p:=λz=>decide (AU z<=n)) (f:=λz=>z) (bQ (so:=ao FC) (N0:=["spots","number"]) rfl rfl `X `b) (bM `bN)
  `D `O (λC' s' H ex z hz=>?_) (λC' s H ex z hz _=>aa 0 rfl)))) ac) ?_)
 ·let⟨p,hp,rfl⟩:=SU.mp hz;exact ji (ay xY (EV.iP (n:=p.2.1) (dv `e ac rfl)) `g)
 ·unfold cZ;rw[Ss,UG,Ss];rfl
abbrev z4:Stmt:=top BL
abbrev G4:RU:=["text","spots","names","places","rows","row","part","calls"]
theorem Li:bD G4 ["text"] (ao z4):=Zf
def C8:c9:=λK ps T=>∃(x:Str)(S:`M)(Ld:`bn),ps=[⟨ak,x⟩]/\rq x S/\oF S Ld/\Good (Yj S Ld)/\Ec (Yj S Ld)/\T=cq K lA (· =YL (Yj S Ld))
theorem N9 (M:`aY)(M4:kC mg)(HD:bL K D gf)(CN:aD P w K mg base "need_program" 6 (aP (Mq C D) K))(CP:aD P w K mg base "places_in" 1 (aP (EC C D) K))(CA:aD P w K mg base "part_at" 1 (aP (MA C D) K))(F:dw K "web_of" "web_of" z4 f fd)(hm:mg "web_of"∣.ref f)(hb:be K fd ["text"] []):aD P w K mg base "web_of" 7 (aP C8 K):=by
 let nd:=Li.nd;let Zs:S6 [("part":Str)]:=`c
 let ndc2:S6 [("part":Str),"spots"]:=`c
 let ndc3:S6 [("known":Str)]:=`c
 let CP:=CP.mono (show 1<=6 by decide);let CA:=CA.mono (show 1<=6 by decide);refine ij (k:=6) F Li hm hb (λqs T ⟨_,_,_,e,_⟩=>by rw[e];rfl) `bz;let⟨x,S,Ld,rfl,hx,hk,hG,hW,rfl⟩:=hS;let⟨t,hnc⟩:=M4.nocall;let hu:=ru hr;change WS _ _ [.im ak x,.no,.no,.no,.no,.no,.no,.no] _ _;refine ai (bo 1 (y:=Yj S Ld) (aB CN hr `bb ⟨x,S,Ld,rfl,hx,hk,hG,rfl⟩) ?_);generalize Yj S Ld=s at hG hW;let Yo:=hG.pl;let hrl:=hG.rl;change WS _ _ [.im ak x,.im (cV C D) s,.no,.no,.no,.no,.no,.no] _ _;let hnm:((s.parts.map ow).filter λ_=>true).map xN=s.parts.map (·.1):=by rw[Ts.mpr λ_ _=>rfl,Tp];rfl
 refine ai (mC 2 (own:=["part"]) (fr:=[]) (ix:=[]) (ra:=au) (rb:=ak) (p:=λ_=>true) (f:=xN) (bQ (so:=ao z4) (N0:=G4) rfl rfl `X `b) (bM (jo (C:=C) HD `g))
  `D `U `aG (λC' s H ex o ho _=>by
   let⟨p,_,rfl⟩:=SU.mp ho;exact EV.sP (x:=p.1) (dv `e ac rfl)) ?_)
 rw[hnm];generalize hns:s.parts.map (·.1)=X0;let hnl:X0.length=s.parts.length:=by rw[← hns,Ss]
 refine WS.freeze 2 rfl (aM `a) ?_;change WS _ _ [.im ak x,.im (cV C D) s,.im (ae ak) X0,.no,.no,.no,.no,.no] _ _;let hpls:((ups 0 X0.length).filter λ_=>true).map (λi=>cM s (s.parts.getD i.toNat vL))=eI s:=by
  rw[Ts.mpr λ_ _=>rfl,hnl];unfold eI;refine Tr λi=>?_;unfold ups;rw[Sw,Sw,Sw];obtain h | h:=UP i s.parts.length
  ·rw[Ti h,So h];show some (cM s (s.parts.getD (0+(i:Int)).toNat vL))=_;rw[show(0+(i:Int)).toNat=i by cbv,Sr,So h];rfl
  ·rw[SY (~~~h),SY h];rfl
 refine ai (mC 3 (own:=["part"]) (fr:=["spots"]) (ix:=[1]) (ra:=ah) (rb:=h9) (p:=λ_=>true) (f:=λi=>cM s (s.parts.getD i.toNat vL)) (bQ (so:=ao z4) (N0:=G4) rfl rfl `X `b) (eh M.range (eo M.len `s) ⟨`a,`a⟩)
  `D `O `aG (λC' s' H ex o ho _=>by
   let⟨i,hi⟩:=SO.mp ho;let⟨il,rfl⟩:=gu hi;let il:i<s.parts.length:=`a
   rw[show(0:Int)+(i:Int)=(i:Int) by cbv];exact aB CP hr (ag `g `bb) ⟨s,i,s.parts.getD i vL,rfl,hG,by rw[Sr,So il];rfl,rfl⟩) ?_)
 rw[show((X0.length:Int)).toNat=X0.length by cbv,hpls];let hpll:(eI s).length=s.parts.length:=by unfold eI;rw[Ss]
 refine WS.freeze 3 rfl (aM `a) ?_;refine ai (cF 4 (r:=fh) (ys:=[]) `aE ?_);change WS _ _ [.im ak x,.im (cV C D) s,.im (ae ak) X0,.im (ae h9) (eI s),.mu fh [],.no,.no,.no] _ _;refine bG (N1:=λZ=>∃e5 e6 e7,Z=[.im ak x,.im (cV C D) s,.im (ae ak) X0,.im (ae h9) (eI s),.mu fh (s.rows.map (fF s)),e5,e6,e7]) (bO (λi Z=>∃e5 e6 e7,Z=[.im ak x,.im (cV C D) s,.im (ae ak) X0,.im (ae h9) (eI s),.mu fh ((s.rows.take i).map (fF s)),e5,e6,e7]) (bM (sj (C:=C) HD `g)) (aU 5) ⟨_,_,_,rfl⟩ (λi z Z hz hΓ=>?_) `R) ?_
 ·let⟨e5,e6,e7,rfl⟩:=hΓ;rw[Sw] at hz;let⟨r,Y7,rfl⟩:=U9.mp hz;let rm:=SD Y7;let il:=(Sn.mp Y7).1;let⟨q0,q1⟩:=hW.pt r rm;let Y8:(s.rows.take (i+1)).map (fF s)=(s.rows.take i).map (fF s)++[fF s r]:=by rw[S9,Y7,SN];rfl
  rw[Y8];let tl:((s.rows.take i).map (fF s)).length<=30:=by rw[Ss,SW];cbv
  generalize (s.rows.take i).map (fF s)=rs at tl;change WS _ _ [.im ak x,.im (cV C D) s,.im (ae ak) X0,.im (ae h9) (eI s),.mu fh rs,.im au (jS r),e6,e7] _ _;refine ai (bo 6 (y:=cZ s r.1) (aB CA hr (ag `g (ag (EV.iP (n:=r.1) (dv `Y ac rfl)) ax)) ⟨s,r.1,rfl,Yo,rfl⟩) ?_);let hcl:r.2.2.1="call"->r.2.2.2∈X0:=λq=>by rw[← hns];exact hW.cl r rm q
  refine ai (bo 7 (y:=if r.2.2.1="call" then(YO X0 r.2.2.2:Int) else -1) (EV.cast (lU (ay bS (EV.sP (x:=r.2.2.1) (dv `Y ac rfl)) aA) (λh=>DO `s (EV.sP (x:=r.2.2.2) (dv `Y ac rfl)) (nj (hcl (XW h))).1 (nj (hcl (XW h))).2) (λ_=>fO hnc)) (by by_cases q:r.2.2.1="call"<;>simp[q])) ?_)
  let YZ:cE (eI s) (cZ s r.1)∣((eI s).getD (cZ s r.1).toNat []):=bb (xs:=eI s) (i:=cZ s r.1) [] q0 `a;refine aj (eU 4 (y:=fF s r) (IJ (aq (EV.pI `au) (aq (EV.pI (kZ hu (a9 `q `au YZ) (EV.iP (n:=r.1) (dv `Y ac rfl)) (vi (hW.f1 r rm)))) (aq (EV.pI (kZ hu (a9 `q `au YZ) (EV.iP (n:=r.2.1) (dv `Y ac rfl)) (vi (hW.f2 r rm)))) (aq (EV.cast (EV.pI (aa 7 rfl)) (by unfold fF;rw[hns])) aN))))) rfl rfl (UM tl `c) ⟨.im au (jS r),aE (cZ s r.1),aE (if r.2.2.1="call" then(YO X0 r.2.2.2:Int) else -1),rfl⟩)
 ·let⟨e5,e6,e7,rfl⟩:=hΓ;refine⟨e5,e6,e7,?_⟩;rw[Ss,Td]
 rintro _ ⟨e5,e6,e7,rfl⟩;refine WS.freeze 4 rfl (aM (by rw[Ss];cbv)) ?_;refine aj (aY (pO (ag (bc.im (cI (own:=["known"]) (fr:=[]) (ix:=[]) (ra:=h9) (rb:=ah) (p:=λ_=>true) (f:=λF=>(F.length:Int)) (bQ (so:=ao z4) (N0:=G4) rfl rfl `X `b) (bM `q)
  `D `U `aG (λC' s' H ex o ho _=>xS M.len `e))) (ag `af ax))) ?_)
 unfold YL;rw[Ts.mpr λ_ _=>rfl]
def Ix (F:R7):Prop:=∀(i:Nat)(y:Int×Int),F[i]?∣y->y.2=(i:Int)
theorem Ix.put (h:Ix F)(k:Int):Ix (cX F k):=by
 unfold cX;split
 ·exact h
 ·intro i y hy;obtain q | q:=UP i F.length
  ·rw[S0 q] at hy;exact h i y hy
  ·rw[SV q] at hy;have:i-F.length=0:=by
    have:=(Sn.mp hy).1;rw[S8] at this;cbv
   rw[this] at hy;let hy:(k,(F.length:Int))=y:= ~~~hy
   rw[← hy];show(F.length:Int)=(i:Int);cbv
theorem uk (F:R7)(k:Int):F <+:cX F k:=by
 unfold cX;split
 ·exact prefix_rfl
 ·exact List.prefix_append _ _
theorem z6 (F:R7)(k:Int):k∈(cX F k).map (·.1):=by
 unfold cX;split
 ·rename_i h;exact kP.mp h
 ·rw[SN];exact SH _ `d
theorem Jy (p:hX)(F:R7)(r:Rw):F <+:dX p F r:=by
 unfold dX;split
 ·exact(uk _ _).trans (uk _ _)
 ·exact prefix_rfl
theorem Ix.rows {p:hX}:∀{rs:List Rw}{F:R7},Ix F->Ix (rs.foldl (dX p) F)
 | [],F,h=>h
 | r::rs,F,h=>by
   rw[Tt];refine Ix.rows ?_;unfold dX;split
   ·exact(h.put _).put _
   ·exact h
theorem rf {p:hX}:∀{rs:List Rw}{F:R7},F <+:rs.foldl (dX p) F
 | [],F=>prefix_rfl
 | r::rs,F=>by rw[Tt];exact(Jy p F r).trans rf
theorem rH {p:hX}{r:Rw}(hi:hV p r=true):∀{rs:List Rw}{F:R7},r∈rs->r.1∈(rs.foldl (dX p) F).map (·.1)/\r.2.1∈(rs.foldl (dX p) F).map (·.1)
 | x::rs,F,h=>by
   rw[Tt];obtain rfl | h:=SF.mp h
   ·let pre:=rf (p:=p) (rs:=rs) (F:=dX p F r);let e:dX p F r=cX (cX F r.1) r.2.1:=by unfold dX;rw[XU hi]
    let sub:∀y,y∈(dX p F r).map (·.1)->y∈(rs.foldl (dX p) (dX p F r)).map (·.1):=λy hy=>by
     let⟨z,hz,rfl⟩:=SU.mp hy;exact SU.mpr ⟨z,pre.subset hz,rfl⟩
    refine⟨sub _ ?_,sub _ ?_⟩
    ·rw[e];let⟨z,hz,ez⟩:=SU.mp (z6 F r.1);exact SU.mpr ⟨z,(uk _ _).subset hz,ez⟩
    ·rw[e];exact z6 _ _
   ·exact rH hi h
theorem MJ (a b:Int):Ix [(a,0),(b,1)]:=by
 intro i y hy
 match i with
 | 0=>have:(a,(0:Int))=y:= ~~~hy
      rw[← this];rfl
 | 1=>have:(b,(1:Int))=y:= ~~~hy
      rw[← this];rfl
 | i+2=>simp at hy
theorem HE {k v:Int}(h:bq F k∣v):(k,v)∈F:=by
 unfold bq at h;let⟨y,hy,rfl⟩:=U9.mp h;let h1:=List.mem_of_find?_eq_some hy;let h2:=List.find?_some hy;let h2:y.1=k:=XW h2;rw[← h2];exact h1
theorem zL {k v:Int}:∀{F:R7},(F.map (·.1)).Nodup->(k,v)∈F->bq F k∣v
 | y::F,nd,h=>by
   let⟨n1,n2⟩:=S5.mp (show(y.1::F.map (·.1)).Nodup from nd);unfold bq;obtain e | h:=SF.mp h
   ·rw[← e,Uv `d];rfl
   ·rw[Uc (by
     simp only[decide_eq_true_eq];intro e;exact n1 (by rw[e];exact SU.mpr ⟨_,h,rfl⟩))]
    exact zL n2 h
theorem Ix.val (h:Ix F){k:Int}(hk:k∈F.map (·.1)):∃i:Nat,bq F k∣(i:Int)/\i<F.length/\F[i]?∣(k,(i:Int)):=by
 let hs:=kP.mpr hk;cases e:bq F k with
 | none=>rw[e] at hs;cases hs
 | some v=>
   let hm:=HE e;let⟨i,hi⟩:=SO.mp hm;have:=h i _ hi;let hv:v=(i:Int):=this;rw[hv] at hi ⊢;exact⟨i,rfl,(Sn.mp hi).1,hi⟩
theorem A9 {p:α->Bool}{l:`x}(hj:j<l.length)(h:∀(i:Nat)(x:α),l[i]?∣x->(p x=true↔i<=j)):(l.filter p).length=j+1:=by
 conv=>lhs;rw[← TL (j+1) l]
 rw[TU,Ts.mpr λx hx=>?_,Uu.mpr λx hx=>?_,S3,SW]
 ·cbv
 ·let⟨i,hi⟩:=SO.mp hx;rw[UH] at hi;intro q;have:=(h _ _ hi).mp q;cbv
 ·let⟨i,hi⟩:=SO.mp hx;let il:i<(l.take (j+1)).length:=(Sn.mp hi).1;rw[SW] at il;rw[List.getElem?_take_of_lt `a] at hi;exact(h _ _ hi).mpr `a
theorem B7 {St:RS}(h:r∈gc S Ld St):∃(n:Nat)(s:aI)(l:Int),S[n]?∣s/\r.1=(n:Int)/\aV s.kind=true/\l∈Ld.getD n []/\r.2.1=St.getD l.toNat 0/\r.2.2.1∈(cO dH s.kind).getD []/\r.2.2.2=s.name:=by
 unfold gc at h;let⟨z,hz,hr⟩:=Ue.mp h;unfold dQ at hr;let⟨y,hy,rfl⟩:=SU.mp hr;let⟨i,hi⟩:=SO.mp hz;let⟨e1,e2⟩:=ft hi;unfold j5 at hy;let⟨h1,h2⟩:=Ug (show(y.1,y.2)∈_ from hy);rw[e1,show((i:Nat):Int).toNat=i by cbv] at h2;refine⟨i,z.2,y.2,e2,e1,?_,h2,rfl,h1,rfl⟩;unfold aV;cases q:cO dH z.2.kind with
 | none=>rw[q] at h1;cases h1
 | some v=>rfl
theorem DQ {k:Str}(h:("call":Str)∈(cO dH k).getD []):k="call":=by
 unfold cO at h;split at h
 ·exact XS h `b
 unfold cO at h;split at h
 ·rename_i e;exact e.symm
 unfold cO at h;split at h
 ·exact XS h `b
 unfold cO at h;split at h
 ·exact XS h `b
 ·unfold cO at h;cases h
theorem Ep {n:Int}(h:fg S F n ls)(hr:aV (aT S n)=true):ls≠[]:=by
 cases h with
 | enp h _ _ _=>rw[h] at hr;exact XS hr `b
 | _=>simp
theorem FZ {k:Str}(h:aV k=true):(cO dH k).getD []≠[]:=by
 unfold aV cO at h;unfold cO;split at h
 ·rename_i e;rw[XU e];decide
 rename_i e;rw[XT e];unfold cO at h ⊢;split at h
 ·rename_i e;rw[XU e];decide
 rename_i e;rw[XT e];unfold cO at h ⊢;split at h
 ·rename_i e;rw[XU e];decide
 rename_i e;rw[XT e];unfold cO at h ⊢;split at h
 ·rename_i e;rw[XU e];decide
 ·cases h
theorem MY {St:RS}(hs:S[n]?∣s)(hk:aV s.kind=true)(hl:Ld.getD n []≠[]):∃r∈gc S Ld St,r.1=(n:Int):=by
 let hw:=FZ hk;cases e1:(cO dH s.kind).getD [] with
 | nil=>exact XS e1 hw
 | cons x xs=>cases e2:Ld.getD n [] with
   | nil=>exact XS e2 hl
   | cons y ys=>
     refine⟨sA St ((n:Int),s) (x,y),Ue.mpr ⟨((n:Int),s),rK hs,?_⟩,rfl⟩;unfold dQ;refine SU.mpr ⟨(x,y),?_,rfl⟩;unfold j5;rw[show(((n:Int),s).1).toNat=n by show((n:Nat):Int).toNat=n;cbv,e2];show(x,y)∈((cO dH s.kind).getD []).zip (y::ys);rw[e1];exact Sz
abbrev bJ (X0:RU)(Ls:`A):iL:=Yj `i `C
abbrev iJ (f:Nat)(z:`bd):hX:=(z.1,(f:Int),((lst f z:Nat):Int))
theorem wI (h:`aJ)(hz:`bv):(cW `i)[j]?∣(iJ `j z):=by
 let hn:=pV h;let hlp:(cW `i).length=X0.length:=by rw[← congrArg List.length hn,Ss]
 let⟨_,_,_,hnj,_⟩:=eJ h hz;let jl:=(Sn.mp hnj).1;let jp:j<(cW `i).length:=`a
 rw[So jp];let⟨j',z',w',hz',Zd,e⟩:=nV h (S7 jp);let h1:X0[j]?=some ((cW `i)[j]).1:=by
  conv=>lhs;rw[← hn]
  rw[Sw,So jp];rfl
 let⟨_,_,_,hnj',_⟩:=eJ h hz';rw[e] at h1;let h1:X0[j]?∣z'.1:=h1;let jl':=(Sn.mp hnj').1;let ej:j=j':=by
  rw[So jl] at h1;rw[So jl'] at hnj';exact(Uq h.nd).mp ((Option.some.inj h1).trans (Option.some.inj hnj').symm)
 subst ej;rw[hz] at hz';cases Option.some.inj hz'
 rw[e]
theorem oN (h:`aJ):(c8 X0 Ls).length=Ls.length:=by rw[T6,h.l];cbv
theorem lV (h:`aJ):(cW `i).length=Ls.length:=by
 rw[← h.l,← congrArg List.length (pV h),Ss]
theorem pT (h:`aJ)(hz:`bv)(h1:fst X0 Ls j<=n)(h2:n<=lst `j z):cZ `w (n:Int)=(j:Int):=by
 let jl:=(Sn.mp hz).1;let zl:=oN h;let pl:=lV h;unfold cZ;show(((cW `i).filter λp=>decide (p.2.1<=(n:Int))).length:Int)-1=_;rw[A9 (j:=j) `a λi x hx=>?_]
 ·push_cast;cbv
 ·let il:=(Sn.mp hx).1;let hzi:(c8 X0 Ls)[i]?∣((c8 X0 Ls)[i]'`a):=So `a;rw[wI h hzi] at hx;let hx:=Option.some.inj hx;rw[← hx];show decide (((fst X0 Ls i:Nat):Int)<=(n:Int))=true↔i<=j;rw[decide_eq_true_eq];constructor
  ·intro q;refine Classical.byContradiction λc=>?_;have:=pJ `L j i z hz `a;let h2:n<=fst X0 Ls j+1+X4 z.2:=h2;have:fst X0 Ls j+2+X4 z.2<=fst X0 Ls i:=this;cbv
  ·intro q;obtain c | c:=UP i j
   ·have:=pJ `L i j _ hzi c;have:fst X0 Ls i+2+X4 ((c8 X0 Ls)[i]'`a).2<=fst X0 Ls j:=this;cbv
   ·have:i=j:=`a
    subst this;cbv
structure Oo (S:`M)(f l:Nat)(F:R7):Prop where
 ix:Ix F
 nd:(F.map (·.1)).Nodup
 le:F.length<=16
 ge:2<=F.length
 kp:∀k∈F.map (·.1),(f:Int)<k/\k<=(l:Int)/\(k=(l:Int)∨aV (aT S k)=true)
 en:F[1]?∣((l:Int),1)
 bg:∃b,F[0]?∣(b,0)
theorem xM {f:Nat}{v:Int}(h:v∈oB S f z):Mt S f (lst f z) v:=by
 unfold oB at h;obtain h | h:=SK.mp h
 ·let⟨i,hi,rfl⟩:=SU.mp h;let⟨h1,h2⟩:=Tn.mp hi;let h1:=Tv.mp h1;refine⟨`a,?_,.inr h2⟩;show((f+1+i:Nat):Int)<=((f+1+X4 z.2:Nat):Int);cbv
 ·rw[Su.mp h];exact⟨by show(f:Int)<((f+1+X4 z.2:Nat):Int);cbv,Sl _,.inl rfl⟩
theorem yy (h:`aJ){w:Int}(hz:`bv)(hb:fH `i `C X0 `j w z)(hr:r∈(bJ X0 Ls).rows)(hi:hV (iJ `j z) r=true):r.1∈oB `i `j z/\r.2.1∈oB `i `j z:=by
 let⟨Zn,ZY,ok3,_⟩:=eJ h hz;let Y3:=λn h1 h2=>hb.Au kG Zn _ n rfl h1 h2;let⟨n,s,l,h1,h2,h3,h4,h5⟩:=n9 hr;unfold hV at hi;rw[Sa] at hi;let i1:((fst X0 Ls j:Nat):Int)<r.1:=XW hi.1;let i2:r.1<((lst `j z:Nat):Int):=XW hi.2;rw[h2] at i1 i2;let Zc:aT `i (n:Int)=s.kind:=(dz h1).1;let st:=hb.all kG Zn n `a `a;let rg:=st.rg l h4;refine⟨?_,?_⟩
 ·rw[h2];exact jM ⟨i1,`a,.inr (by rw[Zc];exact h3)⟩
 ·rw[h5];exact jM (Y3 l.toNat `a `a)
theorem pD (h:`aJ)(hz:`bv):Oo `i `j (lst `j z) (cM `w (iJ `j z)):=by
 let⟨w,hb⟩:=hJ (X0:=X0) (Ls:=Ls) hz;let⟨Zn,ZY,ok3,_⟩:=eJ h hz;let fl:fst X0 Ls j<lst `j z:=by show _<fst X0 Ls j+1+X4 z.2;cbv
 let Y3:=λn h1 h2=>hb.Au kG Zn _ n rfl h1 h2;let Yi:(aW `i `C).getD `j 0≠((lst `j z:Nat):Int):=by
  rw[hb.first Zn ZY];have:=(kQ hb Zn ZY).2;show((fst X0 Ls j+1:Nat):Int)≠((fst X0 Ls j+1+X4 z.2:Nat):Int);cbv
 let e0:(bJ X0 Ls).St.getD ((fst X0 Ls j:Nat):Int).toNat 0=(aW `i `C).getD `j 0:=by rw[show((fst X0 Ls j:Nat):Int).toNat=fst X0 Ls j by cbv];rfl
 unfold cM;dsimp only;rw[e0];generalize hb0:(aW `i `C).getD `j 0=b at Yi;let ks:jx (oB `i `j z) ((bJ X0 Ls).rows.foldl (dX (iJ `j z)) [(b,0),(((lst `j z:Nat):Int),1)]):=by
  refine jx.rows ⟨?_,λx hx=>?_⟩ λr hr hi=>yy h hz hb hr hi
  ·exact S5.mpr ⟨λq=>Yi (Su.mp q),S5.mpr ⟨`d,T9⟩⟩
  ·let hx:x=b∨x=((lst `j z:Nat):Int):= ~~~hx
   obtain rfl | rfl:=hx
   ·rw[← hb0];exact jM (Y3 _ (UJ _) `a)
   ·exact jM ⟨`a,Sl _,.inl rfl⟩
 let pre:=rf (p:=(iJ `j z)) (rs:=(bJ X0 Ls).rows) (F:=[(b,0),(((lst `j z:Nat):Int),1)]);let⟨t,ht⟩:=pre;refine⟨Ix.rows (MJ _ _),ks.1,UK ks.len (Ds hb ok3),?_,λk hk=>xM (ks.2 k hk),?_,⟨b,?_⟩⟩
 ·rw[← ht];simp
 ·rw[← ht];rfl
 ·rw[← ht];rfl
theorem we (h:`aJ)(hr:r∈(bJ X0 Ls).rows):∃(j:Nat)(z:`bd),(c8 X0 Ls)[j]?∣z/\cZ `w r.1=(j:Int)/\hV (iJ `j z) r=true:=by
 let⟨n,s,l,h1,h2,h3,h4,h5⟩:=n9 hr;let hn:=(Sn.mp h1).1;let⟨j,z,w,hz,hb,q1,q2,q3⟩:=mU h n hn;let Zc:aT `i (n:Int)=s.kind:=(dz h1).1;refine⟨j,z,hz,by rw[h2];exact pT h hz q1 q2,?_⟩;let n1:n≠fst X0 Ls j:=λe=>by
  rw[e,hb.k] at Zc;rw[← Zc] at h3;exact XS h3 `b
 let n2:n≠lst `j z:=λe=>by
  rw[e,(dz hb.e).1] at Zc;rw[← Zc] at h3;exact XS h3 (show¬aV "end"=true by decide +kernel)
 unfold hV;rw[Sa,h2];exact⟨XY (show((fst X0 Ls j:Nat):Int)<(n:Int) by cbv),XY (show(n:Int)<((lst `j z:Nat):Int) by cbv)⟩
theorem lG (h:`aJ)(hz:`bv):(eI `w)[j]?∣(cM `w (iJ `j z)):=by
 unfold eI;rw[Sw];show((cW `i)[j]?).map _=_;rw[wI h hz];rfl
theorem zH (h:`aJ):(eI `w).length=Ls.length:=by
 unfold eI;rw[Ss];exact lV h
theorem nM (h:`aJ):Ec `w:=by
 let zl:=oN h;let pl:=lV h;let key:∀r∈(bJ X0 Ls).rows,r.1∈((eI `w).getD (cZ `w r.1).toNat []).map (·.1)/\r.2.1∈((eI `w).getD (cZ `w r.1).toNat []).map (·.1):=λr hr=>by
  let⟨j,z,hz,e,hi⟩:=we h hr;rw[e,show((j:Nat):Int).toNat=j by cbv,Sr,lG h hz];exact rH hi hr
 refine⟨λr hr=>?_,λr hr=>kP.mpr (key r hr).1,λr hr=>kP.mpr (key r hr).2,λr hr hc=>?_⟩
 ·let⟨j,z,hz,e,_⟩:=we h hr;let jl:=(Sn.mp hz).1;rw[e];exact⟨`a,by show(j:Int)<((cW `i).length:Int);cbv⟩
 ·let⟨n,s,l,h1,h2,h3,h4,h5,h6,h7⟩:=B7 hr;rw[hc] at h6;let hk:=DQ h6;let⟨Ld,ZJ,hG⟩:=JA X0 Ls h;let⟨m,u,_,hm,hu,hun⟩:=hG.ca n s h1 hk;rw[h7,← hun];show u.name∈(cW `i).map (·.1);rw[yg];unfold YR;exact SU.mpr ⟨u,Tn.mpr ⟨SD hm,XY hu⟩,rfl⟩
theorem G1 (h:`aJ)(hG:Good `w):nF (YL `w):=by
 let zl:=oN h;let pl:=lV h;let wb:=nM h;let sl:=zH h;let l1:=h.l1;let l4:=h.l4;let vl:(YL `w).1.length=Ls.length:=by unfold YL;rw[Ss];exact sl
 let vat:∀{j:Nat}{z:`bd},(c8 X0 Ls)[j]?∣z->(YL `w).1.getD j 0=((cM `w (iJ `j z)).length:Int):=λ{j z} hz=>by
  unfold YL;rw[Sr,Sw,lG h hz];rfl
 refine⟨`a,`a,?_,λn hn=>?_,λr hr=>?_,λp k hp hk hk1=>?_⟩
 ·unfold YL;rw[Ss];exact hG.rl
 ·unfold YL at hn;let⟨F,hF,rfl⟩:=SU.mp hn;let⟨j,hj⟩:=SO.mp hF;let jl:=(Sn.mp hj).1;let hz:(c8 X0 Ls)[j]?∣((c8 X0 Ls)[j]'`a):=So `a;let po:=pD h hz;rw[lG h hz] at hj;rw[← Option.some.inj hj];have:=po.le;have:=po.ge;cbv
 ·unfold YL at hr;let⟨q,hq,rfl⟩:=SU.mp hr;let⟨j,z,hz,e,hi⟩:=we h hq;let jl:=(Sn.mp hz).1;let po:=pD h hz;let⟨k1,k2⟩:=rH hi hq (F:=[((bJ X0 Ls).St.getD ((fst X0 Ls j:Nat):Int).toNat 0,0),(((lst `j z:Nat):Int),1)]);let⟨i1,e1,l1',_⟩:=po.ix.val k1;let⟨i2,e2,l2',_⟩:=po.ix.val k2;let eF:(eI `w).getD (cZ `w q.1).toNat []=cM `w (iJ `j z):=by
   rw[e,show((j:Nat):Int).toNat=j by cbv,Sr,lG h hz];rfl
  let w1:(fF `w q).1=(j:Int):=e;let w2:(fF `w q).2.1=(i1:Int):=by unfold fF;dsimp only;rw[eF,e1];rfl
  let w3:(fF `w q).2.2.1=(i2:Int):=by unfold fF;dsimp only;rw[eF,e2];rfl
  rw[w1,w2,w3,vl,show((j:Nat):Int).toNat=j by cbv,vat hz];refine⟨⟨`a,`a⟩,⟨`a,`a⟩,⟨`a,`a⟩,?_⟩;show(if q.2.2.1="call" then _ else _)= -1∨_;unfold fF;dsimp only;by_cases c:q.2.2.1="call"
  ·rw[XU c];have:=(Sn.mp (nj (wb.cl q hq c)).1).1;let Yo:((bJ X0 Ls).parts.map (·.1)).length=Ls.length:=by rw[Ss];exact pl
   exact .inr ⟨`a,`a⟩
  ·rw[XT c];exact .inl rfl
 ·let hz:(c8 X0 Ls)[p]?∣((c8 X0 Ls)[p]'`a):=So `a;rw[vat hz] at hk;let po:=pD h hz;generalize hzz:((c8 X0 Ls)[p]'`a)=z at hz po hk;generalize hF:cM `w (iJ (fst X0 Ls p) z)=F at po hk;let kl:k<F.length:=`a
  let hFk:F[k]?=some F[k]:=So kl;let hv:=po.ix k _ hFk;let ZS:F[k]∈F:=S7 kl;let⟨a1,a2,a3⟩:=po.kp _ (SU.mpr ⟨_,ZS,rfl⟩);let Yi:F[k].1≠((lst (fst X0 Ls p) z:Nat):Int):=λc=>by
   let h1:(F.map (·.1))[k]?=some F[k].1:=by rw[Sw,hFk];rfl
   let h2:(F.map (·.1))[1]?∣((lst (fst X0 Ls p) z:Nat):Int):=by rw[Sw,po.en];rfl
   rw[c] at h1;let k1:=(Sn.mp h1);let k2:=(Sn.mp h2);let⟨x1,y1⟩:=k1;let⟨x2,y2⟩:=k2;exact hk1 ((Uq po.nd).mp (y1.trans y2.symm))
  let hrow:=a3.resolve_left Yi;let⟨w,hb⟩:=hJ (X0:=X0) (Ls:=Ls) hz;let⟨Zn,ZY,ok3,_⟩:=eJ h hz;let ll:lst (fst X0 Ls p) z<(aw X0 Ls).length:=(Sn.mp hb.e).1;obtain⟨n,hn⟩:∃n:Nat,F[k].1=(n:Int):=⟨F[k].1.toNat,`a⟩;rw[hn] at a1 a2 hrow Yi;let nl:n<(aw X0 Ls).length:=`a
  let hs:(aw X0 Ls)[n]?=some (aw X0 Ls)[n]:=So nl;let Zc:aT `i (n:Int)=((aw X0 Ls)[n]).kind:=(dz hs).1;let st:=hb.all kG Zn n `a `a;let⟨r,hr,er⟩:=MY (St:=(bJ X0 Ls).St) hs (by rw[← Zc];exact hrow) (Ep st.ld hrow);let hr:r∈(bJ X0 Ls).rows:=hr;let⟨i,hi⟩:=SO.mp hr;refine⟨i,fF `w r,by unfold YL;rw[Sw,hi];rfl,?_,?_⟩
  ·show cZ _ r.1=_;rw[er];exact pT h hz `a `a
  ·unfold fF;dsimp only;rw[er,pT h hz `a `a,show((p:Nat):Int).toNat=p by cbv,Sr,lG h hz,hF];show(bq F (n:Int)).getD 0=_;rw[zL (v:=(k:Int)) po.nd (by
    have:F[k]=((n:Int),(k:Int)):=Vd hn hv;rw[← this];exact ZS)]
   rfl
variable {ans:RS}
abbrev Wk:=RS×Str×i8
abbrev qJ:=RS×Nat×i8
noncomputable def yO (x:Wk):PV:=.tup [.lst (x.1.map PV.int),.str x.2.1,.lst (x.2.2.map Ff)]
def gQ (st:i8):Int×Int:=st.getLastD (0,0)
def fo (v:gq)(st:i8):RS:=sG v (gQ st).1 (gQ st).2
noncomputable def rE (v:gq)(ans:RS)(u:Nat)(st:i8):Option (Int×Nat):=
 if 1<(fo v st).length then(ans[u]?).map λa=>((fo v st).getD (1-a).toNat 0,u+1) else some ((fo v st).getD 0 0,u)
noncomputable def qC (v:gq)(ans:RS)(s:qJ):Option qJ:=(rE v ans s.2.1 s.2.2).map λc=>(s.1++[c.1],c.2,km s.2.2 (ad v c.1))
noncomputable def g9 (v:gq)(ans:RS):Nat->qJ->Wk
 | 0,s=>if s.2.2=[] then(s.1,"ended",[]) else(s.1,"bound",s.2.2)
 | n+1,s=>if s.2.2=[] then(s.1,"ended",[]) else
   match qC v ans s with
   | none=>(s.1,"wanting",s.2.2)
   | some s'=>g9 v ans n s'
theorem Bv:∀{n:Nat}{s:qJ},s.2.2=[]->g9 v ans n s=(s.1,("ended":Str),[])
 | 0,s,h=>by rw[g9,XU h]
 | n+1,s,h=>by rw[g9,XU h]
theorem Ib {s:qJ}(h:s.2.2≠[]):g9 v ans 0 s=(s.1,("bound":Str),s.2.2):=by rw[g9,XT h]
theorem zN {s:qJ}(h:s.2.2≠[])(hn:qC v ans s=none):g9 v ans (n+1) s=(s.1,("wanting":Str),s.2.2):=by rw[g9,XT h,hn]
theorem zV {s s':qJ}(h:s.2.2≠[])(hn:qC v ans s∣s'):g9 v ans (n+1) s=g9 v ans n s':=by rw[g9,XT h,hn]
theorem Kz {s s':qJ}(h:qC v ans s∣s'):∃c,s'.1=s.1++[c]:=by
 unfold qC at h;let⟨c,_,rfl⟩:=U9.mp h;exact⟨c.1,rfl⟩
theorem xt {v:gq}{ans:RS}:∀(n:Nat)(s:qJ),∃ex,(g9 v ans n s).1=s.1++ex/\ex.length<=n
 | 0,s=>⟨[],by rw[g9];split<;>simp,UJ _⟩
 | n+1,s=>by
   by_cases h:s.2.2=[]
   ·exact⟨[],by rw[Bv h];simp,UL _⟩
   ·cases q:qC v ans s with
    | none=>exact⟨[],by rw[zN h q];simp,UL _⟩
    | some s'=>
      let⟨ex,h1,h2⟩:=xt (v:=v) (ans:=ans) n s';let⟨c,hc⟩:=Kz q;refine⟨c::ex,?_,by rw[SE];cbv⟩;rw[zV h q,h1,hc,SR];rfl
structure qU (v:gq)(st:i8):Prop where
 el:∀t∈st,(0<=t.1/\t.1<(v.1.length:Int))/\0<=t.2/\t.2<v.1.getD t.1.toNat 0
 tp:∀h:st≠[],(st.getLast h).2≠1
theorem nF.two (hv:nF v){p:Int}(h0:0<=p)(h1:p<(v.1.length:Int)):2<=v.1.getD p.toNat 0:=by
 rw[Sr,So `a];exact(hv.sz _ (S7 _)).1
theorem CU (hv:nF v):qU v [(0,0)]:=by
 have:=hv.p1;let h2:=hv.two (p:=0) (Sl _) `a;refine⟨λt ht=>?_,λh=>by show(0:Int)≠1;decide⟩;rw[Su.mp ht];exact⟨⟨Sl _,by show(0:Int)<_;cbv⟩,Sl _,by show(0:Int)<v.1.getD (0:Int).toNat 0;cbv⟩
theorem OX (hv:nF v)(hs:qU v st)(Yi:st≠[]){r:Row}(hr:r∈v.2):qU v (km st r)/\(km st r).length<=st.length+1:=by
 let⟨r1,r2,r3,r4⟩:=hv.rw r hr;let base:∀t∈st.set (st.length-1) (r.1,r.2.2.1),(0<=t.1/\t.1<(v.1.length:Int))/\0<=t.2/\t.2<v.1.getD t.1.toNat 0:=λt ht=>by
  obtain h | h:=List.mem_or_eq_of_mem_set ht
  ·exact hs.el t h
  ·rw[h];exact⟨r1,r3⟩
 unfold km;generalize hst2:(if r.2.2.2= -1 then st.set (st.length-1) (r.1,r.2.2.1) else st.set (st.length-1) (r.1,r.2.2.1)++[(r.2.2.2,0)])=s2;let h2:(∀t∈s2,(0<=t.1/\t.1<(v.1.length:Int))/\0<=t.2/\t.2<v.1.getD t.1.toNat 0)/\s2.length<=st.length+1:=by
  rw[← hst2];by_cases c:r.2.2.2= -1
  ·rw[XU c];exact⟨base,by rw[Tb];cbv⟩
  ·rw[XT c];refine⟨λt ht=>?_,by rw[Sx,Tb];exact UJ _⟩;obtain h | h:=SK.mp ht
   ·exact base t h
   ·rw[Su.mp h];let r4:=r4.resolve_left c;have:=hv.two r4.1 r4.2;exact⟨r4,Sl _,by show(0:Int)<v.1.getD r.2.2.2.toNat 0;cbv⟩
 let⟨s',e,_,h3⟩:=yb s2.length s2 rfl;refine⟨⟨λt ht=>h2.1 t (by rw[e];exact SS _ ht),h3⟩,?_⟩;have:s2.length=(trim s2).length+s'.length:=by
  have:=congrArg List.length e;rwa [Sx] at this
 cbv
theorem x8 (h:st≠[]):gQ st=st.getLast h:=by unfold gQ;cases st with
 | nil=>exact XS rfl h
 | cons a b=>rfl
theorem Ig {c:Int}(h:c∈fo v st):0<=c/\c<(v.2.length:Int)/\ad v c∈v.2:=by
 unfold fo sG at h;let⟨h1,_⟩:=Tn.mp h;unfold ups at h1;let⟨i,hi,rfl⟩:=SU.mp h1;let hi:=Tv.mp hi;refine⟨`a,`a,?_⟩;unfold ad;rw[show((0:Int)+(i:Int)).toNat=i by cbv,Sr,So hi];exact S7 hi
theorem D4 (hv:nF v)(hs:qU v st)(Yi:st≠[]):fo v st≠[]:=by
 let h1:=hs.el _ (List.getLast_mem Yi);let h2:=hs.tp Yi;let et:=x8 Yi;rw[← et] at h1 h2;let⟨n,r,hn,e1,e2⟩:=hv.fr (gQ st).1.toNat (gQ st).2.toNat `a (by have:=h1.2.2;cbv) `a;intro c;have:(n:Int)∈fo v st:=by
  unfold fo sG;let nl:=(Sn.mp hn).1;refine Tn.mpr ⟨?_,?_⟩
  ·unfold ups;exact SU.mpr ⟨n,Tv.mpr nl,`a⟩
  ·have:ad v (n:Int)=r:=by unfold ad;rw[show((n:Nat):Int).toNat=n by cbv,Sr,hn];rfl
   rw[this,e1,e2];refine XY (Vd ?_ ?_)
   ·show(((gQ st).1.toNat:Nat):Int)=(gQ st).1;cbv
   ·show(((gQ st).2.toNat:Nat):Int)=(gQ st).2;cbv
 rw[c] at this;cases this
theorem DB (h:pC ans=true){a:Int}(ha:ans[i]?∣a):0<=a/\a<=1:=by
 unfold pC at h;rw[Ud] at h;have:=h (decide (0<=a)&&decide (a<=1)) (SU.mpr ⟨a,Tn.mpr ⟨SD ha,rfl⟩,rfl⟩);let this:(decide (0<=a)&&decide (a<=1))=true:=this;rw[Sa] at this;exact⟨XW this.1,XW this.2⟩
theorem JD (hv:nF v)(ha:pC ans=true)(hs:qU v st)(Yi:st≠[]){u:Nat}{c:Int×Nat}(h:rE v ans u st∣c):c.1∈fo v st:=by
 let fne:=D4 hv hs Yi;let fl:=Uo.mpr fne;unfold rE at h;split at h
 ·let⟨a,h1,rfl⟩:=U9.mp h;have:=DB ha h1;dsimp only;rw[Sr,So `a];exact S7 _
 ·cases Option.some.inj h
  dsimp only;rw[Sr,So `a];exact S7 _
abbrev GL:Stmt:=top Dj
abbrev P2:RU:=["text","answers","bound","web","leaving","stack","rows","used","found","chosen"]
theorem ME:bD P2 ["text","answers","bound"] (ao GL):=Zf
abbrev st0:qJ:=([],0,[(0,0)])
def GX:c9:=λK ps T=>∃(x:Str)(ans:RS)(bound:Int)(S:`M)(Ld:`bn),ps=[⟨ak,x⟩,⟨ae ah,ans⟩,⟨ah,bound⟩]/\rq x S/\oF S Ld/\Good (Yj S Ld)/\Ec (Yj S Ld)/\nF (YL (Yj S Ld))/\pC ans=true/\0<=bound/\(g9 (YL (Yj S Ld)) ans bound.toNat st0).1.length<=100000/\T=cq K au (· =yO (g9 (YL (Yj S Ld)) ans bound.toNat st0))
theorem O8 (M:`aY)(M4:kC mg)(CW:aD P w K mg base "web_of" 7 (aP C8 K))(CN:aD P w K mg base "need_answers" 3 (aP Pg K))(CR:aD P w K mg base "rows_leaving" 1 (aP (Qs true) K))(CB:aD P w K mg base "at_begin" 1 (aP Mf K))(CG:aD P w K mg base "go" 2 (fR jj PK K))(F:dw K "walked" "walked" GL f fd)(hm:mg "walked"∣.ref f)(hb:be K fd ["text","answers","bound"] []):aD P w K mg base "walked" 8 (aP GX K):=by
 let nd:=ME.nd;let Zs:S6 [("part":Str),"web"]:=`c
 let CN:=CN.mono (show 3<=7 by decide);let CR:=CR.mono (show 1<=7 by decide);let CB:=CB.mono (show 1<=7 by decide);let CG:=CG.mono (show 2<=7 by decide);let⟨t1,hFP⟩:=M4.first;let⟨t2,hY⟩:=M4.yes;let⟨t3,hEN⟩:=M4.ended;let⟨t4,hBO⟩:=M4.bound;let⟨t5,hWA⟩:=M4.wanting;refine ij (k:=7) F ME hm hb (λqs T ⟨_,_,_,_,_,e,_⟩=>by rw[e];rfl) `bz;let⟨x,ans,bound,S,Ld,rfl,hx,hk,hG,hWb,hv,ha,hb0,hlen,rfl⟩:=hS;change WS _ _ [.im ak x,eT ans,aE bound,.no,.no,.no,.no,.no,.no,.no] _ _;refine ai (bo 3 (y:=YL (Yj S Ld)) (aB CW hr `bb ⟨x,S,Ld,rfl,hx,hk,hG,hWb,rfl⟩) ?_);generalize YL (Yj S Ld)=v at hv hlen;let pl:=hv.pl;change WS _ _ [.im ak x,eT ans,aE bound,.im lA v,.no,.no,.no,.no,.no,.no] _ _;refine ai (Jt CN hr (ag `g (ag `s ax)) ⟨ans,bound,rfl,ha,hb0,rfl⟩ ?_);refine ai (mC 4 (own:=["part"]) (fr:=["web"]) (ix:=[3]) (ra:=ah) (rb:=ae (ae ah)) (p:=λ_=>true) (f:=j8 v) (bQ (so:=ao GL) (N0:=P2) rfl rfl `X `b) (eh M.range (eo M.len (yx `q)) ⟨`a,`a⟩)
  `D `O `aG (λC' s' H ex o ho _=>by
   let⟨i,hi⟩:=SO.mp ho;let⟨il,rfl⟩:=gu hi;exact bc.im (yn CR hr (ag `g `bb) ⟨v,_,rfl,hv,`a,`a,rfl⟩)) ?_)
 rw[Ts.mpr λ_ _=>rfl,show((v.1.length:Int)).toNat=v.1.length by cbv];refine WS.freeze 4 rfl (aM (by rw[Ss,bt];cbv)) ?_;generalize hlv:(ups 0 v.1.length).map (j8 v)=lv;refine ai (cF 5 (r:=jj) (aQ (aq (aB CB hr (ag (fO hFP) ax) ⟨_,rfl,rfl⟩) aN) (by show 1<=Vn;decide)) ?_);refine ai (cF 6 (r:=ah) (ys:=[]) `aE ?_);refine ai (bo 7 (y:=((0:Nat):Int)) ac ?_);change WS _ _ [.im ak x,eT ans,aE bound,.im lA v,.im (ae `bh) lv,.mu jj [(0,0)],.mu ah [],aE ((0:Nat):Int),.no,.no] _ _;generalize hR:g9 v ans bound.toNat st0=R at hlen;refine bG (N1:=λZ=>∃e7 e8 e9,Z=[.im ak x,eT ans,aE bound,.im lA v,.im (ae `bh) lv,.mu jj [],.mu ah R.1,e7,e8,e9]/\R=(R.1,("ended":Str),[]))
  (mR (λm Z=>∃(rows:RS)(u:Nat)(st:i8)(e8 e9:Ent),Z=[.im ak x,eT ans,aE bound,.im lA v,.im (ae `bh) lv,.mu jj st,.mu ah rows,aE (u:Int),e8,e9]/\g9 v ans m (rows,u,st)=R/\(rows.length:Int)+(m:Int)=bound/\qU v st/\st.length<=rows.length+1/\u<=ans.length) (m0:=bound.toNat) ⟨[],0,[(0,0)],.no,.no,rfl,hR,by rw[S4];cbv,CU hv,UJ _,UL _⟩ ?_) ?_
 ·rintro m Z ⟨rows,u,st,e8,e9,rfl,hw,hm,hs,hl,hu⟩;let rl:rows.length<=100000:=by
   let⟨ex,h1,_⟩:=xt (v:=v) (ans:=ans) m (rows,u,st);rw[hw] at h1;rw[h1,Sx] at hlen;have:rows.length+ex.length<=100000:=hlen;cbv
  refine⟨!st.isEmpty,_,mJ 5 rfl,λh=>?_,λh=>?_⟩
  ·let Yi:st≠[]:=λe=>by rw[e] at h;cases h
   let lz:=xq Yi;let et:=x8 Yi;let te:=hs.el _ (List.getLast_mem Yi);rw[← et] at te lz;let fne:=D4 hv hs Yi;let fl:=Uo.mpr fne;refine ai (aZ (ay iD (zT 6 M.len rfl) `s) (λh=>?_) `Q)
   ·let h:(rows.length:Int)=bound:=XW h;let m0:m=0:=`a
    subst m0;rw[Ib Yi] at hw;refine WS.freeze 5 rfl (aM `a) (WS.freeze 6 rfl (aM `a) ?_);refine aj (aY (gB (aq (EV.My `au) (aq (EV.pS (qV hBO)) (aq (EV.Lj `Y) aN))) (by show 3<=Vn;decide)) ?_);rw[← hw];rfl
   let h:¬(rows.length:Int)=bound:=XX h;obtain⟨m',rfl⟩:∃m',m=m'+1:=⟨m-1,`a⟩;let h1:cE lv (gQ st).1∣(j8 v (gQ st).1):=by
    rw[← hlv,bb (xs:=(ups 0 v.1.length).map (j8 v)) [] te.1.1 (by rw[Ss,bt];exact te.1.2),Sr,Sw,uU `a,show(((gQ st).1.toNat:Nat):Int)=(gQ st).1 by cbv];rfl
   let h2:cE (j8 v (gQ st).1) (gQ st).2∣fo v st:=by
    have:=FA (v:=v) te.2.1 te.2.2;let hl:=(Sn.mp this).1;rw[bb (xs:=j8 v (gQ st).1) [] te.2.1 `a,Sr,this];rfl
   refine ai (bo 8 (r:=ae ah) (y:=fo v st) (a9 (a9 `af (yx (oZ 5 (cj ac) rfl rfl (rM lz))) h1) (tI (oZ 5 (cj ac) rfl rfl (rM lz))) h2) ?_);refine ai (bo 9 (y:=(fo v st).getD 0 0) (a9 (aa 8 rfl) ac (bb (xs:=fo v st) (i:=0) 0 (Sl _) `a)) ?_);change WS _ _ [.im ak x,eT ans,aE bound,.im lA v,.im (ae `bh) lv,.mu jj st,.mu ah rows,aE (u:Int),eT (fo v st),aE ((fo v st).getD 0 0)] _ _;refine bG (N1:=λZ=>∃(c:Int)(u':Nat),Z=[.im ak x,eT ans,aE bound,.im lA v,.im (ae `bh) lv,.mu jj st,.mu ah rows,aE (u':Int),eT (fo v st),aE c]/\rE v ans u st∣(c,u')/\u'<=ans.length)
    (aZ (ay jz (eo M.len (aa 8 rfl)) ac) (λh=>?_) `Q) ?_
   ·let h:1<((fo v st).length:Int):=XW h;refine ai (aZ (ay iD (aa 7 rfl) (eo M.len `g)) (λq=>?_) (λq=>aH ?_))
    ·let q:(u:Int)=(ans.length:Int):=XW q;let hn:qC v ans (rows,u,st)=none:=by
      unfold qC rE;rw[XU (by show 1<(fo v st).length;cbv),SY (show ans.length<=u by cbv)];rfl
     rw[zN Yi hn] at hw;refine WS.freeze 5 rfl (aM `a) (WS.freeze 6 rfl (aM `a) ?_);refine aj (aY (gB (aq (EV.My `au) (aq (EV.pS (qV hWA)) (aq (EV.Lj `Y) aN))) (by show 3<=Vn;decide)) ?_);rw[← hw];rfl
    ·let q:¬(u:Int)=(ans.length:Int):=XX q;let ul:u<ans.length:=`a
     let hau:ans[u]?=some ans[u]:=So ul;let hab:=DB ha hau;generalize ans[u]=b at hau hab;let YZ:cE ans (u:Int)∣b:=by rw[bb (xs:=ans) 0 `a `a,Sr,show((u:Nat):Int).toNat=u by cbv,hau];rfl
     refine ai (bo 9 (y:=(fo v st).getD (1-b).toNat 0) (a9 (aa 8 rfl) (h8 (fO hY) (a9 `g (aa 7 rfl) YZ)) (bb (xs:=fo v st) (i:=1-b) 0 `a `a)) ?_);refine aj (DY 7 (a:=(u:Int)) (c:=1) ac rfl ⟨(fo v st).getD (1-b).toNat 0,u+1,?_,?_,ul⟩)
     ·rw[show((u+1:Nat):Int)=(u:Int)+1 by push_cast;rfl];rfl
     ·unfold rE;rw[XU `a,hau];rfl
   ·let h:¬1<((fo v st).length:Int):=XX h;refine⟨_,u,rfl,?_,hu⟩;unfold rE;rw[XT `a]
   rintro _ ⟨c,u',rfl,hc,hu'⟩;let cm:=JD hv ha hs Yi hc;let⟨c0,c1,c2⟩:=Ig cm;let hn:qC v ans (rows,u,st)∣(rows++[c],u',km st (ad v c)):=by unfold qC;rw[hc];rfl
   rw[zV Yi hn] at hw;let gk:qU v (km st (ad v c))/\(km st (ad v c)).length<=st.length+1:=OX hv hs Yi c2;refine ai (eU 6 (y:=c) (aa 9 rfl) rfl rfl (UM rl `c) ?_);refine aj (pj (xB 5 (st:=km st (ad v c)) (rr:=nY) (z:=()) CG hr (ag (a9 (tI `q) (aa 9 rfl) (bb GG c0 c1)) ax) rfl rfl ⟨_,rfl,Yi,`a,rfl⟩) ?_);refine⟨m',`a,rows++[c],u',km st (ad v c),_,_,rfl,hw,?_,gk.1,?_,hu'⟩
   ·rw[Sx,S8];push_cast;push_cast at hm;cbv
   ·rw[Sx,S8];cbv
  ·let Yi:st=[]:=by
    cases st with
    | nil=>rfl
    | cons a b=>cases h
   subst Yi;rw[Bv rfl] at hw;exact⟨aE (u:Int),e8,e9,by rw[← hw],by rw[← hw]⟩
 ·rintro _ ⟨e7,e8,e9,rfl,he⟩;refine WS.freeze 5 rfl (UL _) (WS.freeze 6 rfl (aM `a) ?_);refine aj (aY (gB (aq (EV.My `au) (aq (EV.pS (qV hEN)) (aq (EV.Lj `Y) aN))) (by show 3<=Vn;decide)) ?_);unfold yO;rw[he]
theorem yY (h:∀a∈ans,a=0∨a=1):pC ans=true:=by
 unfold pC;rw[Ud];intro b hb;let⟨a,ha,rfl⟩:=SU.mp hb;rcases h a (Tn.mp ha).1 with rfl | rfl<;>decide
def lH (ns:RS)(k:Int):Nat:=(aL ns k/3%41).toNat
noncomputable def mr (ns:RS)(k j:Int):Int:=if aL ns k%3<aL ns (k+1+j)%4 then 1 else 0
noncomputable def ZG (ns:RS)(k:Int):RS:=(ups 0 (lH ns k)).map (mr ns k)
theorem F9 (ns:RS)(k:Int):∀a∈ZG ns k,a=0∨a=1:=λa ha=>by
 unfold ZG at ha;let⟨j,_,rfl⟩:=SU.mp ha;unfold mr;split
 ·exact .inr rfl
 ·exact .inl rfl
theorem zc (ns:RS)(k:Int):lH ns k<=40:=by unfold lH;cbv
theorem xA (ns:RS)(k:Int):(ZG ns k).length<=40:=by unfold ZG;rw[Ss,bt];exact zc ns k
abbrev P7:Stmt:=top si
abbrev nAN:RU:=["_law_script","_law_k","_law_number","_law_lean","_law_bits","_law_j","_law_bit"]
def Qd:c9:=λK ps T=>∃(ns:RS)(k:Int),ps=[⟨ck,ns⟩,⟨ah,k⟩]/\xm ns/\0<=k/\k<=10000/\T=DZ K ah (· =ZG ns k)
theorem Nb (M:`aY)(CM:aD P w K mg base "_law_mixed" 1 (aP Hr K))(Df:Def K mg "_law_answers" P7 ["_law_script","_law_k"]):aD P w K mg base "_law_answers" 2 (aP Qd K):=by
 refine bP (N:=nAN) (k:=1) Df `n;let⟨ns,k,rfl,hs,k0,k1,rfl⟩:=hS;let bd:=mG ns k;let hle:=zc ns k;change WS _ _ [.im ck ns,aE k,.no,.no,.no,.no,.no] _ _;refine ai (bo 2 (y:=aL ns k) (aB CM hr (ag `e (ag `g ax)) ⟨ns,k,rfl,hs,k0,`a,rfl⟩) ?_);refine ai (bo 3 (y:=aL ns k%3) (cY `s ac `c) ?_);refine ai (cF 4 (r:=ah) (ys:=[]) `aE ?_);change WS _ _ [.im ck ns,aE k,aE (aL ns k),aE (aL ns k%3),.mu ah [],.no,.no] _ _;refine bG (N1:=λZ=>∃e5 e6,Z=[.im ck ns,aE k,aE (aL ns k),aE (aL ns k%3),.mu ah (ZG ns k),e5,e6]) (bO (λi Z=>∃e5 e6,Z=[.im ck ns,aE k,aE (aL ns k),aE (aL ns k%3),.mu ah (((ups 0 (lH ns k)).take i).map (mr ns k)),e5,e6]) (eh M.range (cY (qT `s ac ⟨`c,`c⟩) ac `c) ⟨`a,`a⟩) (aU 5) ⟨_,_,rfl⟩ (λi j Z hj hΓ=>?_) `R) ?_
 ·let⟨e5,e6,rfl⟩:=hΓ;let hj2:(ups 0 (lH ns k))[i]?∣j:=hj;let⟨jl,ej⟩:=gu hj;let jl:i<lH ns k:=jl;let Y8:((ups 0 (lH ns k)).take (i+1)).map (mr ns k)=((ups 0 (lH ns k)).take i).map (mr ns k)++[mr ns k j]:=by rw[S9,hj2,SN];rfl
  rw[Y8];let tl:(((ups 0 (lH ns k)).take i).map (mr ns k)).length<=40:=by rw[Ss,SW];cbv
  generalize ((ups 0 (lH ns k)).take i).map (mr ns k)=bs at tl;change WS _ _ [.im ck ns,aE k,aE (aL ns k),aE (aL ns k%3),.mu ah bs,aE j,e6] _ _;refine ai (bo 6 (y:=aL ns (k+1+j)%4) (cY (aB CM hr (ag `e (ag (bZ (bZ `g ac) `Y) ax)) ⟨ns,k+1+j,rfl,hs,`a,`a,rfl⟩) ac `c) ?_);refine aj (eU 4 (y:=mr ns k j) (EV.cast (Ab M.int (ja jz `au `q)) ?_) rfl rfl (UM tl `c) ⟨_,_,rfl⟩);unfold mr;simp only[decide_eq_true_eq]
 ·let⟨e5,e6,rfl⟩:=hΓ;refine⟨e5,e6,?_⟩;rw[bt];rw[show(aL ns k/3%41).toNat=lH ns k from rfl,T2 (by rw[bt];exact UJ _)];rfl
 rintro _ ⟨e5,e6,rfl⟩;exact aj (IG 4 rfl (aM (by have:=xA ns k;cbv)) rfl)
mutual
noncomputable def fJ:Th->Nat
 | .ifs _ A B=>1+fX A+fX B
 | .X9 _ A=>1+fX A
 | .Yq _=>1
 | .call _=>1
 | .leave=>0
 | .back=>0
noncomputable def fX:List Th->Nat
 | []=>0
 | t::ts=>fJ t+fX ts
end
abbrev nB:=Str×Str×Int×Int×Int
noncomputable def jH (ts:`N)(k bh lp:Int):Int:=match ts with
 | []=>bh
 | .leave::_=>lp
 | .back::_=> -1
 | _::_=>k
mutual
noncomputable def dP:Th->Int->Int->Int->List nB
 | .Yq x,k,af,lp=>[("do",x,k,af, -1)]
 | .call j,k,af,lp=>[("call","",k,af,j)]
 | .ifs x A B,k,af,lp=>([(("yes":Str),x,k,jH A (k+1) af lp, -1),(("no":Str),x,k,jH B (k+1+fX A) af lp, -1)]:List nB)++(fb A (k+1) af lp++fb B (k+1+fX A) af lp)
 | .X9 x A,k,af,lp=>([(("yes":Str),x,k,jH A (k+1) k af, -1),(("no":Str),x,k,af, -1)]:List nB)++fb A (k+1) k af
 | .leave,_,_,_=>[]
 | .back,_,_,_=>[]
noncomputable def fb:List Th->Int->Int->Int->List nB
 | [],_,_,_=>[]
 | t::ts,k,bh,lp=>dP t k (jH ts (k+fJ t) bh lp) lp++fb ts (k+fJ t) bh lp
end
theorem LC (x:Str):bB (.Yq x)=1:=by simp[bB]
theorem Ji (x:Int):bB (.call x)=1:=by simp[bB]
theorem F3:bB .leave=1:=by simp[bB]
theorem IF:bB .back=1:=by simp[bB]
theorem nE:aV "else"=false:=`b
theorem iG:aV "end"=false:=`b
theorem oW:aV "leave"=false:=`b
theorem rL:aV "back"=false:=`b
theorem xT:aV "part"=false:=`b
noncomputable def lh (S:`M):Nat:=(S.filter λt=>aV t.kind).length
theorem iI (a b:`M):lh (a++b)=lh a+lh b:=by unfold lh;rw[TU,Sx]
theorem rW (h:aV s.kind=true):lh [s]=1:=by unfold lh;rw[Tw (by exact h)];rfl
theorem qq (h:aV s.kind=false):lh [s]=0:=by unfold lh;rw[Tx (by rw[h];exact R9)];rfl
mutual
theorem KA {X0:RU}:∀(t:Th)(a w u:Int),lh (spT X0 a w u t)=fJ t
 | .Yq _,a,w,u=>by rw[spT,fJ];exact rW rY
 | .call _,a,w,u=>by rw[spT,fJ];exact rW nP
 | .leave,a,w,u=>by rw[spT,fJ];exact qq oW
 | .back,a,w,u=>by rw[spT,fJ];exact qq rL
 | .X9 x A,a,w,u=>by
   rw[spT,fJ,iI,iI,xV A,rW gI,qq iG];cbv
 | .ifs x A B,a,w,u=>by
   rw[spT,fJ,iI,iI,iI,iI,xV A,xV B,rW mN,qq nE,qq iG];cbv
theorem xV {X0:RU}:∀(ts:`N)(a w u:Int),lh (cb X0 a w u ts)=fX ts
 | [],a,w,u=>by rw[cb,fX];rfl
 | t::ts,a,w,u=>by rw[cb,fX,iI,KA t,xV ts]
end
section
variable {a:Nat}
noncomputable def cL (S:`M)(Ld:`bn)(a n:Nat):List Rw:=(UB a n).flatMap λ(i:Nat)=>dQ Ld `ai ((i:Int),S.getD i dy)
theorem dJ (S:`M)(Ld:`bn)(a m n:Nat):cL S Ld a (m+n)=cL S Ld a m++cL S Ld (a+m) n:=by
 unfold cL;rw[← T4,List.range'_append_1]
theorem oC (S:`M)(Ld:`bn)(a:Nat):cL S Ld a 1=dQ Ld `ai ((a:Int),S.getD a dy):=by
 unfold cL;rw[range'_one,Uw]
noncomputable def YM (S:`M)(a n:Nat):Nat:=((UB a n).filter λ(i:Nat)=>aV (aT S (i:Int))).length
theorem gz (S:`M)(a m n:Nat):YM S a (m+n)=YM S a m+YM S (a+m) n:=by
 unfold YM;rw[← Sx,← TU,List.range'_append_1]
theorem vN (h:aV (aT S (a:Int))=true):YM S a 1=1:=by
 unfold YM;rw[range'_one,Tw (by exact h)];rfl
theorem vQ (h:aV (aT S (a:Int))=false):YM S a 1=0:=by
 unfold YM;rw[range'_one,Tx (by rw[h];exact R9)];rfl
theorem cJ.gX {S:`x}{v:α}{vs:`x}(h:cJ S a (v::vs)):S[a]?∣v/\cJ S (a+1) vs:=⟨h 0 v rfl,λi x hx=>by
 have:=h (i+1) x hx;rwa [show a+1+i=a+(i+1) by cbv]⟩
theorem vW {S:`M}:∀{vs:`M}{a:Nat},cJ S a vs->YM S a vs.length=lh vs
 | [],a,_=>rfl
 | v::vs,a,h=>by
   let⟨h1,h2⟩:=h.gX;let h2:cJ S (a+1) vs:=h2;let ih:=vW h2;rw[SE,Nat.add_comm,gz,ih,show v::vs=[v]++vs from rfl,iI];let hk:=(dz h1).1;cases hr:aV v.kind with
   | true=>rw[vN (by rw[hk];exact hr),rW hr]
   | false=>rw[vQ (by rw[hk];exact hr),qq hr]
theorem Od {x w:Int}{k:Nat}(h:cJ S a (spT X0 x w u t))(hk:YM S 0 a=k):YM S 0 (a+bB t)=k+fJ t:=by
 have:=vW h;rw[kL,KA] at this;rw[gz,hk,UR,this]
theorem GF {x w:Int}{k:Nat}(h:cJ S a (cb X0 x w u ts))(hk:YM S 0 a=k):YM S 0 (a+X4 ts)=k+fX ts:=by
 have:=vW h;rw[cu,xV] at this;rw[gz,hk,UR,this]
theorem zx (S:`M)(Ld:`bn):gc S Ld `ai=cL S Ld 0 S.length:=by
 unfold gc cL;let e:nums S=(UB 0 S.length).map λ(i:Nat)=>((i:Int),S.getD i dy):=by
  refine Tr λi=>?_;obtain h | h:=UP i S.length
  ·let hl:i<(nums S).length:=by rw[cN];exact h
   let hn:(nums S)[i]?=some (nums S)[i]:=So hl;let⟨y1,y2⟩:=ft hn;let hr:(UB 0 S.length)[i]?∣i:=by rw[List.getElem?_range' h];simp
   rw[hn,Sw,hr];refine congrArg some (Vd y1 ?_);show _=S.getD i dy;rw[Sr,y2];rfl
  ·rw[SY (by rw[cN];exact h),SY (by rw[Ss,List.length_range'];exact h)]
 rw[e,List.flatMap_map]
theorem jD (hs:S[n]?∣s)(hk:aV s.kind=false):cL S Ld n 1=[]:=by
 let e:S.getD n dy=s:=by rw[Sr,hs];rfl
 rw[oC,e];unfold dQ j5;unfold aV at hk;cases q:cO dH s.kind with
 | none=>rfl
 | some x=>rw[q] at hk;cases hk
theorem Cc (hs:S[n]?∣s)(hk:cO dH s.kind∣[y])(hl:Ld.getD n []=[l]):cL S Ld n 1=[((n:Int),(aW S Ld).getD l.toNat 0,y,s.name)]:=by
 let e:S.getD n dy=s:=by rw[Sr,hs];rfl
 rw[oC,e];unfold dQ j5;rw[show(((n:Int),s).1).toNat=n from Sk n,show(((n:Int),s).2).kind=s.kind from rfl,hk,hl];rfl
theorem CY {y':Str}{l':Int}(hs:S[n]?∣s)(hk:cO dH s.kind∣[y,y'])(hl:Ld.getD n []=[l,l']):cL S Ld n 1=[((n:Int),(aW S Ld).getD l.toNat 0,y,s.name),((n:Int),(aW S Ld).getD l'.toNat 0,y',s.name)]:=by
 let e:S.getD n dy=s:=by rw[Sr,hs];rfl
 rw[oC,e];unfold dQ j5;rw[show(((n:Int),s).1).toNat=n from Sk n,show(((n:Int),s).2).kind=s.kind from rfl,hk,hl];rfl
noncomputable def sQ (X0:RU)(φ:Int->Int)(r:Rw):nB:=(r.2.2.1,if r.2.2.1="call" then "" else r.2.2.2,φ r.1,φ r.2.1,if r.2.2.1="call" then(YO X0 r.2.2.2:Int) else -1)
structure tL (S:`M)(Ld:`bn)(φ:Int->Int)(pe:Nat)(wl lq:Int)(lp:Bool)(hi:Nat):Prop where
 pz:hi<=pe
 pl:pe<S.length
 ps:φ ((aW S Ld).getD pe 0)= -1
 wh:lp=true->(hi:Int)<=wl/\wl<(S.length:Int)/\φ ((aW S Ld).getD wl.toNat 0)=lq
end
variable {φ:Int->Int}{pe:Nat}{wl bh:Int}
section
variable {lq:Int}
theorem tL.less {hi lo:Nat}(h:tL S Ld φ pe wl lq lp hi)(q:lo<=hi):tL S Ld φ pe wl lq lp lo:=
 ⟨by have:=h.pz;cbv,h.pl,h.ps,λe=>by let⟨a,b,c⟩:=h.wh e;exact⟨`a,b,c⟩⟩
theorem DK (hs:S[n]?∣s)(hk:aV s.kind=true):(aW S Ld).getD n 0=(n:Int):=
 i9 (Sn.mp hs).1 (.inr (by rw[(dz hs).1];exact hk))
theorem me (hs:S[n]?∣s)(hk:aV s.kind=false)(hL:Ld.getD n []=[l])(h1:(n:Int)<l)(h2:l<(S.length:Int)):(aW S Ld).getD n 0=(aW S Ld).getD l.toNat 0:=by
 rw[nN (Sn.mp hs).1 hL (by rw[(dz hs).1];exact hk) `a h2,XU h1]
theorem By (hs:S[n]?∣s)(hk:aV s.kind=false)(hL:Ld.getD n []=[l])(h0:0<=l)(h1:l<=(n:Int)):(aW S Ld).getD n 0=l:=by
 let hn:=(Sn.mp hs).1;rw[nN hn hL (by rw[(dz hs).1];exact hk) h0 `a,XT `a]
theorem K4:cO dH "do"∣(["do"]:RU):=`b
theorem Eh:cO dH "call"∣(["call"]:RU):=`b
theorem LA:cO dH "if"∣(["yes","no"]:RU):=`b
theorem Bt:cO dH "while"∣(["yes","no"]:RU):=`b
theorem cJ.d0 {a:Nat}{v:RS}{vs:`bn}(h:cJ Ld a (v::vs)):Ld.getD a []=v:=by
 rw[Sr,h.gX.1];rfl
theorem hdT {a w:Int}:∃s r,spT X0 a w u t=s::r/\(aV s.kind=true↔t≠ .leave/\t≠ .back):=by
 cases t with
 | Yq x=>rw[spT];exact⟨_,_,rfl,by constructor<;>intro _;exact⟨`aL,λe=>by cases e⟩;exact rY⟩
 | call x=>rw[spT];exact⟨_,_,rfl,by constructor<;>intro _;exact⟨`aL,λe=>by cases e⟩;exact nP⟩
 | ifs x A B=>rw[spT];exact⟨_,_,rfl,by constructor<;>intro _;exact⟨`aL,λe=>by cases e⟩;exact mN⟩
 | X9 x A=>rw[spT];exact⟨_,_,rfl,by constructor<;>intro _;exact⟨`aL,λe=>by cases e⟩;exact gI⟩
 | leave=>rw[spT];exact⟨_,_,rfl,by constructor<;>intro h;rw[show aV _=false from oW] at h;cases h;exact XS rfl h.1⟩
 | back=>rw[spT];exact⟨_,_,rfl,by constructor<;>intro h;rw[show aV _=false from rL] at h;cases h;exact XS rfl h.2⟩
theorem IS (t:Th):1<=bB t:=by
 cases t<;>simp[bB]<;>cbv
theorem HP {k:Int}(h:t≠ .leave/\t≠ .back):jH (t::ts) k bh lq=k:=by
 cases t with
 | leave=>exact XS rfl h.1
 | back=>exact XS rfl h.2
 | Yq _=>rfl
 | call _=>rfl
 | ifs _ _ _=>rfl
 | X9 _ _=>rfl
theorem vR (hφ:∀n:Nat,n<pe->aV (aT S (n:Int))=true->φ (n:Int)=(YM S 0 n:Int)){a:Nat}{w:Int}(X8:bK lo m lp ts)(hS:cJ S a (cb X0 (a:Int) w u ts))(hL:cJ Ld a (gE (a:Int) wl (pe:Int) ts))(cx:tL S Ld φ pe wl lq lp (a+X4 ts)){k:Nat}(hk:YM S 0 a=k)(hb:φ ((aW S Ld).getD (a+X4 ts) 0)=bh):φ ((aW S Ld).getD a 0)=jH ts (k:Int) bh lq:=by
 cases ts with
 | nil=>rw[X4] at hb;exact hb
 | cons t ts=>
   rw[cb] at hS;rw[gE] at hL;simp only[bK] at X8;rw[X4] at cx;let hS:=hS.pre;let hL:=hL.pre;let p1:=IS t;let pz:=cx.pz;let pl:=cx.pl;let⟨s,r,e,hr⟩:=hdT (X0:=X0) (t:=t) (a:=(a:Int)) (w:=w) (u:=u);let hs:S[a]?∣s:=by rw[e] at hS;exact hS.gX.1
   cases ZD:aV s.kind with
   | true=>
     rw[DK hs ZD,HP (hr.mp ZD),hφ a `a (by rw[(dz hs).1];exact ZD),hk]
   | false=>
     cases t with
     | Yq _=>rw[hr.mpr ⟨`aL,`aL⟩] at ZD;cases ZD
     | call _=>rw[hr.mpr ⟨`aL,`aL⟩] at ZD;cases ZD
     | ifs _ _ _=>rw[hr.mpr ⟨`aL,`aL⟩] at ZD;cases ZD
     | X9 _ _=>rw[hr.mpr ⟨`aL,`aL⟩] at ZD;cases ZD
     | leave=>
       let h1:=X8.1;simp only[bU] at h1;let⟨w1,w2,w3⟩:=cx.wh h1;rw[fQ] at hL;rw[me hs ZD hL.d0 `a w2,w3];rfl
     | back=>
       rw[fQ] at hL;rw[me hs ZD hL.d0 `a `a,Sk,cx.ps];rfl
end
theorem Cb {a a' b b':`x}(h:a=a')(h':b=b'):a++b=a'++b':=by rw[h,h']
section
theorem Ks (nd:X0.Nodup)(h:j<X0.length):YO X0 (X0.getD j "")=j:=by
 let hx:X0[j]?∣(X0.getD j ""):=by rw[Sr,So h];rfl
 let⟨h1,h2⟩:=nj (SD hx);obtain q | q | q:=Nat.lt_trichotomy (YO X0 (X0.getD j "")) j
 ·have:=(List.getElem?_inj `a nd).mp (h1.trans hx.symm);exact this
 ·exact q
 ·exact XS hx (h2 j q)
variable (nd:X0.Nodup)(hm:m<=(X0.length:Int))(h0:0<=lo)(hφ:∀n:Nat,n<pe->aV (aT S (n:Int))=true->φ (n:Int)=(YM S 0 n:Int))
include nd hm h0 hφ
mutual
theorem mpT:∀(t:Th)(lp:Bool)(a:Nat)(w u wl lq:Int)(k:Nat)(af:Int),bU lo m lp t->cJ S a (spT X0 (a:Int) w u t)->cJ Ld a (fQ (a:Int) wl (pe:Int) t)->tL S Ld φ pe wl lq lp (a+bB t)->YM S 0 a=k->φ ((aW S Ld).getD (a+bB t) 0)=af->(cL S Ld a (bB t)).map (sQ X0 φ)=dP t (k:Int) af lq
 | .Yq x,lp,a,w,u,wl,lq,k,af,h,hS,hL,cx,hk,ha=>by
   rw[spT] at hS;rw[fQ] at hL;rw[LC] at ha cx ⊢;let pz:=cx.pz;let fa:=hφ a `a (by rw[(dz hS.gX.1).1];exact rY);rw[Cc hS.gX.1 K4 hL.d0,dP,UI];show[(("do":Str),(if("do":Str)="call" then("":Str) else x),φ (a:Int),φ ((aW S Ld).getD ((a:Int)+1).toNat 0),(if("do":Str)="call" then(YO X0 x:Int) else -1))]=_;rw[show((a:Int)+1).toNat=a+1 by cbv,ha,fa,hk,XT `b,XT `b]
 | .call j,lp,a,w,u,wl,lq,k,af,h,hS,hL,cx,hk,ha=>by
   rw[spT] at hS;rw[fQ] at hL;rw[Ji] at ha cx ⊢;simp only[bU] at h;let pz:=cx.pz;let fa:=hφ a `a (by rw[(dz hS.gX.1).1];exact nP);rw[Cc hS.gX.1 Eh hL.d0,dP,UI];show[(("call":Str),(if("call":Str)="call" then("":Str) else X0.getD j.toNat ""),φ (a:Int),φ ((aW S Ld).getD ((a:Int)+1).toNat 0),(if("call":Str)="call" then(YO X0 (X0.getD j.toNat ""):Int) else -1))]=_;rw[show((a:Int)+1).toNat=a+1 by cbv,ha,fa,hk,XU rfl,XU rfl,Ks nd `a,show((j.toNat:Nat):Int)=j by cbv]
 | .leave,lp,a,w,u,wl,lq,k,af,h,hS,hL,cx,hk,ha=>by
   rw[spT] at hS;rw[F3];rw[jD hS.gX.1 oW,dP];rfl
 | .back,lp,a,w,u,wl,lq,k,af,h,hS,hL,cx,hk,ha=>by
   rw[spT] at hS;rw[IF];rw[jD hS.gX.1 rL,dP];rfl
 | .X9 x A,lp,a,w,u,wl,lq,k,af,h,hS,hL,cx,hk,ha=>by
   simp only[bU] at h;rw[spT] at hS;rw[fQ] at hL;rw[bB] at cx ha ⊢;let⟨s1,s2⟩:=hS.app;let⟨s2,s3⟩:=s2.app;let⟨d1,d2⟩:=hL.app;let⟨d2,d3⟩:=d2.app;rw[cu] at s3;rw[dW] at d3;simp only[SE,S4,UR] at s2 s3 d2 d3;let pz:=cx.pz;let pl:=cx.pl;let fa:=hφ a `a (by rw[(dz s1.gX.1).1];exact gI);let se:(aW S Ld).getD (a+1+X4 A) 0=(a:Int):=By s3.gX.1 iG d3.d0 `a `a;let cx':tL S Ld φ pe `bF af true (a+1+X4 A):=⟨`a,pl,cx.ps,λ_=>⟨`a,`a,by rw[show((a:Int)+2+X4 A).toNat=a+(2+X4 A) by cbv];exact ha⟩⟩;let k1:YM S 0 (a+1)=k+1:=by rw[gz,hk,UR,vN (by rw[(dz s1.gX.1).1];exact gI)]
   let s2':cJ S (a+1) (cb X0 ((a+1:Nat):Int) (w+2) (a:Int) A):=by push_cast;exact s2
   let d2':cJ Ld (a+1) (gE ((a+1:Nat):Int) `bF (pe:Int) A):=by push_cast;exact d2
   let hb:φ ((aW S Ld).getD (a+1+X4 A) 0)=(k:Int):=by rw[se,fa,hk]
   let en:=vR hφ h.2 s2' d2' cx' k1 hb;let ih:=DM A true (a+1) (w+2) (a:Int) `bF af (k+1) (k:Int) h.2 s2' d2' cx' k1 hb;rw[show 2+X4 A=1+(X4 A+1) by cbv,dJ,dJ,CY s1.gX.1 Bt d1.d0,jD s3.gX.1 iG,S3,SN,ih,dP];refine Cb ?_ (by push_cast;rfl);show[(("yes":Str),(if("yes":Str)="call" then("":Str) else x),φ (a:Int),φ ((aW S Ld).getD ((a:Int)+1).toNat 0),(if("yes":Str)="call" then(YO X0 x:Int) else -1)),(("no":Str),(if("no":Str)="call" then("":Str) else x),φ (a:Int),φ ((aW S Ld).getD ((a:Int)+2+X4 A).toNat 0),(if("no":Str)="call" then(YO X0 x:Int) else -1))]=_;rw[show((a:Int)+1).toNat=a+1 by cbv,show((a:Int)+2+X4 A).toNat=a+(2+X4 A) by cbv,ha,en,fa,hk,XT `b,XT `b,XT `b,XT `b];push_cast;rfl
 | .ifs x A B,lp,a,w,u,wl,lq,k,af,h,hS,hL,cx,hk,ha=>by
   simp only[bU] at h;rw[spT,SR] at hS;rw[fQ,SR] at hL;rw[bB] at cx ha ⊢;let⟨s1,s2⟩:=hS.app;let⟨s2,s3⟩:=s2.app;let⟨s3,s4⟩:=s3.app;let⟨s4,s5⟩:=s4.app;let⟨d1,d2⟩:=hL.app;let⟨d2,d3⟩:=d2.app;let⟨d3,d4⟩:=d3.app;let⟨d4,d5⟩:=d4.app;rw[cu] at s3 s4 s5;rw[cu] at s5;rw[dW] at d3 d4 d5;rw[dW] at d5;simp only[SE,S4,UR] at s2 s3 s4 s5 d2 d3 d4 d5;let pz:=cx.pz;let pl:=cx.pl;let fa:=hφ a `a (by rw[(dz s1.gX.1).1];exact mN);let s5e:(aW S Ld).getD (a+1+X4 A+1+X4 B) 0=(aW S Ld).getD (a+(3+X4 A+X4 B)) 0:=by
    rw[me s5.gX.1 iG d5.d0 `a `a];congr 1;cbv
   let s3e:(aW S Ld).getD (a+1+X4 A) 0=(aW S Ld).getD (a+(3+X4 A+X4 B)) 0:=by
    rw[me s3.gX.1 nE d3.d0 `a `a,← s5e];congr 1;cbv
   let k1:YM S 0 (a+1)=k+1:=by rw[gz,hk,UR,vN (by rw[(dz s1.gX.1).1];exact mN)]
   let k2:YM S 0 (a+1+X4 A)=k+1+fX A:=GF s2 k1;let k3:YM S 0 (a+1+X4 A+1)=k+1+fX A:=by rw[gz,k2,UR,vQ (by rw[(dz s3.gX.1).1];exact nE),U3]
   let s2':cJ S (a+1) (cb X0 ((a+1:Nat):Int) (w+2) (a:Int) A):=by push_cast;exact s2
   let d2':cJ Ld (a+1) (gE ((a+1:Nat):Int) wl (pe:Int) A):=by push_cast;exact d2
   let q4:((a+1+X4 A+1:Nat):Int)=(a:Int)+2+X4 A:=`a
   let s4':cJ S (a+1+X4 A+1) (cb X0 ((a+1+X4 A+1:Nat):Int) (w+3+(Yf X0 A).length) ((a:Int)+1+X4 A) B):=by rw[q4];exact s4
   let d4':cJ Ld (a+1+X4 A+1) (gE ((a+1+X4 A+1:Nat):Int) wl (pe:Int) B):=by rw[q4];exact d4
   let cA:tL S Ld φ pe wl lq lp (a+1+X4 A):=cx.less `a;let cB:tL S Ld φ pe wl lq lp (a+1+X4 A+1+X4 B):=cx.less `a;let hA:φ ((aW S Ld).getD (a+1+X4 A) 0)=af:=by rw[s3e];exact ha
   let hB:φ ((aW S Ld).getD (a+1+X4 A+1+X4 B) 0)=af:=by rw[s5e];exact ha
   let eA:=vR hφ h.2.1 s2' d2' cA k1 hA;let eB:=vR hφ h.2.2 s4' d4' cB k3 hB;let iA:=DM A lp (a+1) (w+2) (a:Int) wl lq (k+1) af h.2.1 s2' d2' cA k1 hA;let iB:=DM B lp (a+1+X4 A+1) (w+3+(Yf X0 A).length) ((a:Int)+1+X4 A) wl lq (k+1+fX A) af h.2.2 s4' d4' cB k3 hB;rw[show 3+X4 A+X4 B=1+(X4 A+(1+(X4 B+1))) by cbv,dJ,dJ,dJ,dJ,CY s1.gX.1 LA d1.d0,jD s3.gX.1 nE,jD s5.gX.1 iG,S3,To,SN,SN,iA,iB,dP];refine Cb ?_ (by push_cast;rfl);show[(("yes":Str),(if("yes":Str)="call" then("":Str) else x),φ (a:Int),φ ((aW S Ld).getD ((a:Int)+1).toNat 0),(if("yes":Str)="call" then(YO X0 x:Int) else -1)),(("no":Str),(if("no":Str)="call" then("":Str) else x),φ (a:Int),φ ((aW S Ld).getD ((a:Int)+2+X4 A).toNat 0),(if("no":Str)="call" then(YO X0 x:Int) else -1))]=_;rw[show((a:Int)+1).toNat=a+1 by cbv,show((a:Int)+2+X4 A).toNat=a+1+X4 A+1 by cbv,eB,eA,fa,hk,XT `b,XT `b,XT `b,XT `b];push_cast;rfl
theorem DM:∀(ts:`N)(lp:Bool)(a:Nat)(w u wl lq:Int)(k:Nat)(bh:Int),bK lo m lp ts->cJ S a (cb X0 (a:Int) w u ts)->cJ Ld a (gE (a:Int) wl (pe:Int) ts)->tL S Ld φ pe wl lq lp (a+X4 ts)->YM S 0 a=k->φ ((aW S Ld).getD (a+X4 ts) 0)=bh->(cL S Ld a (X4 ts)).map (sQ X0 φ)=fb ts (k:Int) bh lq
 | [],lp,a,w,u,wl,lq,k,bh,h,hS,hL,cx,hk,hb=>by rw[X4,fb];rfl
 | t::ts,lp,a,w,u,wl,lq,k,bh,h,hS,hL,cx,hk,hb=>by
   simp only[bK] at h;rw[cb] at hS;rw[gE] at hL;rw[X4] at cx hb ⊢;let⟨s1,s2⟩:=hS.app;let⟨d1,d2⟩:=hL.app;rw[kL] at s2;rw[pQ] at d2;let s2':cJ S (a+bB t) (cb X0 ((a+bB t:Nat):Int) (w+(c5 X0 t).length) u ts):=by push_cast;exact s2
   let d2':cJ Ld (a+bB t) (gE ((a+bB t:Nat):Int) wl (pe:Int) ts):=by push_cast;exact d2
   let k1:=Od s1 hk;rw[← U5] at cx hb;let en:=vR hφ h.2.2 s2' d2' cx k1 hb;let i1:=mpT t lp a w u wl lq k _ h.1 s1 d1 (cx.less `a) hk en;let i2:=DM ts lp (a+bB t) (w+(c5 X0 t).length) u wl lq (k+fJ t) bh h.2.2 s2' d2' cx k1 hb;rw[dJ,SN,i1,i2,fb];push_cast;rfl
end
end
noncomputable def mI (φ:Int->Int)(F:R7):R7:=F.map λy=>(φ y.1,y.2)
def AA (φ:Int->Int)(Kp:RS):Prop:=∀x∈Kp,∀y∈Kp,φ x=φ y->x=y
theorem qg {φ:Int->Int}{Kp:RS}(hi:AA φ Kp){k:Int}(hk:k∈Kp):∀{F:R7},(∀x∈F.map (·.1),x∈Kp)->bq (mI φ F) (φ k)=bq F k
 | [],_=>rfl
 | y::F,h=>by
   let ih:=qg hi hk (F:=F) λx hx=>h x (Sv _ hx);let hy:=h y.1 Sz;unfold bq mI at ih ⊢;rw[Ta];by_cases q:y.1=k
   ·rw[Uv (~~~congrArg φ q),Uv (~~~q)];rfl
   ·rw[Uc (~~~λe=>q (hi _ hy _ hk e)),Uc (~~~q)];exact ih
theorem yP (hi:AA φ Kp){k:Int}(hk:k∈Kp)(hF:∀x∈F.map (·.1),x∈Kp):cX (mI φ F) (φ k)=mI φ (cX F k)/\∀x∈(cX F k).map (·.1),x∈Kp:=by
 unfold cX;rw[qg hi hk hF];cases (bq F k).isSome with
 | true=>exact⟨rfl,hF⟩
 | false=>
   refine⟨?_,λx hx=>?_⟩
   ·show mI φ F++[(φ k,((mI φ F).length:Int))]=mI φ (F++[(k,(F.length:Int))]);unfold mI;rw[SN,Ss];rfl
   ·let hx:x∈(F++[(k,(F.length:Int))]).map (·.1):=hx;rw[SN] at hx;obtain hx | hx:=SK.mp hx
    ·exact hF x hx
    ·rw[Su.mp hx];exact hk
abbrev iX (F:R7)(a b:Int):R7:=cX (cX F a) b
theorem wu {φ:Int->Int}{Kp:RS}(X0:RU)(hi:AA φ Kp):∀{rs:List Rw}{F:R7},(∀x∈F.map (·.1),x∈Kp)->(∀r∈rs,r.1∈Kp/\r.2.1∈Kp)->(rs.map (sQ X0 φ)).foldl `ac (mI φ F)=mI φ (rs.foldl (λF r=>iX F r.1 r.2.1) F)/\∀x∈(rs.foldl (λF r=>iX F r.1 r.2.1) F).map (·.1),x∈Kp
 | [],F,hF,_=>⟨rfl,hF⟩
 | r::rs,F,hF,hr=>by
   let⟨k1,k2⟩:=hr r Sz;let⟨e1,h1⟩:=yP hi k1 hF;let⟨e2,h2⟩:=yP hi k2 h1;let ih:=wu X0 hi (rs:=rs) (F:=iX F r.1 r.2.1) h2 λx hx=>hr x (Sv _ hx);rw[Ta,Tt,Tt];show(rs.map (sQ X0 φ)).foldl _ (cX (cX (mI φ F) (φ r.1)) (φ r.2.1))=_/\_;rw[e1,e2];exact ih
theorem rj {p:hX}:∀{rs:List Rw}{F:R7},(∀r∈rs,hV p r=false)->rs.foldl (dX p) F=F
 | [],F,_=>rfl
 | r::rs,F,h=>by
   rw[Tt,show dX p F r=F by unfold dX;rw[h r Sz];rfl];exact rj λx hx=>h x (Sv _ hx)
theorem zI {p:hX}:∀{rs:List Rw}{F:R7},(∀r∈rs,hV p r=true)->rs.foldl (dX p) F=rs.foldl (λF r=>iX F r.1 r.2.1) F
 | [],F,_=>rfl
 | r::rs,F,h=>by
   rw[Tt,Tt,show dX p F r=iX F r.1 r.2.1 by unfold dX;rw[h r Sz];rfl];exact zI λx hx=>h x (Sv _ hx)
theorem md {a:Nat}(h:r∈cL S Ld a n):∃i:Nat,a<=i/\i<a+n/\r.1=(i:Int):=by
 unfold cL at h;let⟨i,hi,hr⟩:=Ue.mp h;let⟨y,hy,rfl⟩:=SU.mp hr;have:=List.mem_range'_1.mp hi;exact⟨i,this.1,this.2,rfl⟩
theorem GV {m:Nat}(h:n<m)(hr:aV (aT S (n:Int))=true):YM S 0 n<YM S 0 m:=by
 obtain⟨d,rfl⟩:∃d,m=n+(1+d):=⟨m-n-1,`a⟩;rw[gz,UR,gz,vN hr];cbv
theorem rP:∀(zs:`aV)(j:Nat)(z:`bd),zs[j]?∣z->dq (zs.take (j+1))=dq (zs.take j)+(2+X4 z.2)
 | [],j,z,h=>by simp at h
 | y::r,0,z,h=>by
   let e:y=z:= ~~~h
   subst e;rw[Tj,dq,TZ,TZ,dq];cbv
 | y::r,j+1,z,h=>by
   have:=rP r j z (~~~h);rw[Tj,Tj,dq,dq,this];cbv
noncomputable def Yr (Ls:`A)(j:Nat):Nat:=((Ls.take j).map fX).sum
def bX (Ls:`A)(j:Nat):List nB:=fb (Ls.getD j []) (Yr Ls j:Int) (-1) 0
noncomputable def iV (Ls:`A)(j:Nat):R7:=(bX Ls j).foldl `ac [((Yr Ls j:Int),0),(-1,1)]
def oX (j:Nat)(F:R7)(r:nB):Row:=((j:Int),(bq F r.2.2.1).getD 0,(bq F r.2.2.2.1).getD 0,r.2.2.2.2)
noncomputable def YG (Ls:`A):gq:=((SQ Ls.length).map λj=>((iV Ls j).length:Int),(SQ Ls.length).flatMap λj=>(bX Ls j).map (oX j (iV Ls j)))
noncomputable def oA (X0:RU)(r:nB):Str×Str:=(r.1,if r.1="call" then X0.getD r.2.2.2.2.toNat "" else r.2.1)
noncomputable def je (X0:RU)(Ls:`A):List (Str×Str):=(SQ Ls.length).flatMap λj=>(bX Ls j).map (oA X0)
noncomputable def jR (X0:RU)(Ls:`A)(j:Nat)(z:`bd)(x:Int):Int:=if x=((lst `j z:Nat):Int) then -1 else(YM `i 0 x.toNat:Int)
theorem sC (S:`M)(Ld:`bn){f:Nat}{w:Int}(hb:fH S Ld X0 f w z):cL S Ld f (2+X4 z.2)=cL S Ld (f+1) (X4 z.2):=by
 rw[show 2+X4 z.2=1+(X4 z.2+1) by cbv,dJ,dJ,jD hb.nm xT,jD hb.e iG,S3,To]
theorem uz {f:Nat}{w:Int}(hb:fH S Ld X0 f w z):YM S 0 (f+1)=YM S 0 f/\YM S 0 (f+(2+X4 z.2))=YM S 0 f+fX z.2:=by
 let k1:YM S 0 (f+1)=YM S 0 f:=by rw[gz,UR,vQ (by rw[hb.k];exact xT),U3]
 refine⟨k1,?_⟩;let k2:=GF hb.s k1;rw[show f+(2+X4 z.2)=(f+1+X4 z.2)+1 by cbv,gz,k2,UR,vQ (by rw[(dz hb.e).1];exact iG),U3]
theorem qm (h:`aJ)(hj:j<Ls.length):∃z,(c8 X0 Ls)[j]?∣z/\z.2=Ls.getD j []:=by
 let hl:j<(c8 X0 Ls).length:=by rw[oN h];exact hj
 let hz:=So hl;refine⟨_,hz,?_⟩;have:=(eJ h hz).2.2.2.2;rw[Sr,this];rfl
theorem Bm (h:`aJ):∀j,j<=Ls.length->YM `i 0 `j=Yr Ls j
 | 0,_=>rfl
 | j+1,hj=>by
   let⟨z,hz,ez⟩:=qm h (j:=j) `a;let⟨w,hb⟩:=hJ (X0:=X0) (Ls:=Ls) hz;let hL:=(eJ h hz).2.2.2.2;let e:fst X0 Ls (j+1)=fst X0 Ls j+(2+X4 z.2):=rP _ _ _ hz;rw[e,(uz hb).2,Bm h j `a];unfold Yr;rw[S9,hL,SN,UE];simp
theorem all_rows (h:`aJ):∀n,n<=Ls.length->cL `i `C 0 (fst X0 Ls n)=(SQ n).flatMap λj=>cL `i `C `al (X4 (Ls.getD j []))
 | 0,_=>rfl
 | n+1,hn=>by
   let⟨z,hz,ez⟩:=qm h (j:=n) `a;let⟨w,hb⟩:=hJ (X0:=X0) (Ls:=Ls) hz;let e:fst X0 Ls (n+1)=fst X0 Ls n+(2+X4 z.2):=rP _ _ _ hz;rw[e,dJ,all_rows h n `a,UR,sC _ _ hb,Ua,T4,Uw,ez]
theorem qQ (h:`aJ):(bJ X0 Ls).rows=(SQ Ls.length).flatMap λj=>cL `i `C `al (X4 (Ls.getD j [])):=by
 rw[← all_rows h Ls.length (UJ _)];show gc `i `C (aW `i `C)=_;rw[zx];congr 1;rw[AG,← oN h];show dq `L=dq ((c8 X0 Ls).take _);rw[Td]
theorem lT (h:`aJ)(hz:`bv):(cL `i `C `al (X4 z.2)).map (sQ X0 (jR X0 Ls j z))=bX Ls j:=by
 let⟨w,hb⟩:=hJ (X0:=X0) (Ls:=Ls) hz;let⟨Zn,ZY,ok3,hn,hL⟩:=eJ h hz;let jl:=(Sn.mp hL).1;let ll:lst `j z<(aw X0 Ls).length:=(Sn.mp hb.e).1;let hφ:∀n:Nat,n<lst `j z->aV (aT `i (n:Int))=true->jR X0 Ls j z (n:Int)=(YM `i 0 n:Int):=λn hn _=>by
  unfold jR;rw[XT `a,Sk]
 let ps:jR X0 Ls j z ((aW `i `C).getD (lst `j z) 0)= -1:=by
  rw[i9 ll (.inl hb.dl)];unfold jR;rw[XU rfl]
 let hk:YM `i 0 `al=Yr Ls j:=by rw[(uz hb).1,Bm h j `a]
 have:=DM (S:=aw X0 Ls) (Ld:=cG X0 Ls) (X0:=X0) (φ:=jR X0 Ls j z) (pe:=lst `j z) (lo:=(j:Int)) (m:=(Ls.length:Int)) h.nd (by rw[h.l];exact Sl _) `a hφ z.2 false `al (w+2) (fst X0 Ls j:Int) 0 0 (Yr Ls j) (-1) Zn hb.s hb.d ⟨UJ _,ll,ps,λe=>by cases e⟩ hk ps;rw[this];unfold bX;rw[Sr,hL];rfl
theorem uE (h:`aJ):AA (jR X0 Ls j z) (oB `i `j z):=λx hx y hy e=>by
 let⟨x1,x2,x3⟩:=xM hx;let⟨y1,y2,y3⟩:=xM hy;unfold jR at e;by_cases qx:x=((lst `j z:Nat):Int)
 ·by_cases qy:y=((lst `j z:Nat):Int)
  ·rw[qx,qy]
  ·rw[XU qx,XT qy] at e;cbv
 ·by_cases qy:y=((lst `j z:Nat):Int)
  ·rw[XT qx,XU qy] at e;cbv
  ·rw[XT qx,XT qy] at e;let rx:=x3.resolve_left qx;let ry:=y3.resolve_left qy;let ex:((x.toNat:Nat):Int)=x:=`a
   let ey:((y.toNat:Nat):Int)=y:=`a
   obtain q | q | q:=Nat.lt_trichotomy x.toNat y.toNat
   ·have:=GV (S:=aw X0 Ls) q (by rw[ex];exact rx);cbv
   ·cbv
   ·have:=GV (S:=aw X0 Ls) q (by rw[ey];exact ry);cbv
theorem qr (h:`aJ)(hz:`bv)(hr:r∈cL `i `C `al (X4 z.2)):r∈(bJ X0 Ls).rows:=by
 let⟨_,_,_,_,hL⟩:=eJ h hz;rw[qQ h];refine Ue.mpr ⟨j,Tv.mpr (Sn.mp hL).1,?_⟩;rw[Sr,hL];exact hr
theorem qF (h:`aJ)(hz:`bv):mI (jR X0 Ls j z) (cM `w (iJ `j z))=iV Ls j/\∀x∈(cM `w (iJ `j z)).map (·.1),x∈oB `i `j z:=by
 let⟨w,hb⟩:=hJ (X0:=X0) (Ls:=Ls) hz;let⟨Zn,ZY,ok3,hn,hL⟩:=eJ h hz;let jl:=(Sn.mp hL).1;let⟨hr,h1⟩:=kQ hb Zn ZY;let hk:YM `i 0 `al=Yr Ls j:=by rw[(uz hb).1,Bm h j `a]
 let hrows:(bJ X0 Ls).rows=cL `i `C 0 `j++(cL `i `C `al (X4 z.2)++cL `i `C (fst X0 Ls j+(2+X4 z.2)) ((aw X0 Ls).length-(fst X0 Ls j+(2+X4 z.2)))):=by
  show gc `i `C (aW `i `C)=_;rw[zx,← sC _ _ hb,← dJ];have:=dJ `i `C 0 `j (2+X4 z.2+((aw X0 Ls).length-(fst X0 Ls j+(2+X4 z.2))));rw[UR] at this;rw[← this];congr 1;let ll:fst X0 Ls j+1+X4 z.2<(aw X0 Ls).length:=(Sn.mp hb.e).1;cbv
 let b0:(bJ X0 Ls).St.getD ((iJ `j z).2.1).toNat 0=((fst X0 Ls j+1:Nat):Int):=by
  show(aW `i `C).getD (((fst X0 Ls j:Nat):Int)).toNat 0=_;rw[Sk,hb.first Zn ZY]
 let inr:∀r∈cL `i `C `al (X4 z.2),hV (iJ `j z) r=true:=λr hr=>by
  let⟨i,i1,i2,e⟩:=md hr;unfold hV;rw[Sa,e];exact⟨XY (show((fst X0 Ls j:Nat):Int)<(i:Int) by cbv),XY (show(i:Int)<((fst X0 Ls j+1+X4 z.2:Nat):Int) by cbv)⟩
 let e:cM `w (iJ `j z)=(cL `i `C `al (X4 z.2)).foldl (λF r=>iX F r.1 r.2.1) [(((fst X0 Ls j+1:Nat):Int),0),(((lst `j z:Nat):Int),1)]:=by
  unfold cM;let o1:∀r∈cL `i `C 0 `j,hV (iJ `j z) r=false:=λr hr=>by
   let⟨i,i1,i2,e⟩:=md hr;unfold hV;rw[e,XZ (show¬((fst X0 Ls j:Nat):Int)<(i:Int) by cbv),Bool.false_and]
  let o2:∀r∈cL `i `C (fst X0 Ls j+(2+X4 z.2)) ((aw X0 Ls).length-(fst X0 Ls j+(2+X4 z.2))),hV (iJ `j z) r=false:=λr hr=>by
   let⟨i,i1,i2,e⟩:=md hr;unfold hV;rw[e,XZ (show¬(i:Int)<((fst X0 Ls j+1+X4 z.2:Nat):Int) by cbv),Bool.and_false]
  rw[b0,hrows,Tu,Tu,rj o1,zI inr,rj o2]
 let hl:((lst `j z:Nat):Int)=((fst X0 Ls j+1+X4 z.2:Nat):Int):=rfl;let⟨q1,q2⟩:=wu X0 (uE h (j:=j) (z:=z)) (rs:=cL `i `C `al (X4 z.2)) (F:=[(((fst X0 Ls j+1:Nat):Int),0),(((lst `j z:Nat):Int),1)]) (λx hx=>by
  let hx:x=((fst X0 Ls j+1:Nat):Int)∨x=((lst `j z:Nat):Int):= ~~~hx
  obtain rfl | rfl:=hx
  ·exact jM ⟨`a,`a,.inr hr⟩
  ·exact jM ⟨`a,Sl _,.inl rfl⟩) λr hr=>yy h hz hb (qr h hz hr) (inr r hr)
 rw[← e] at q1 q2;refine⟨?_,q2⟩;rw[← q1,lT h hz];unfold iV;congr 1;show[(jR X0 Ls j z ((fst X0 Ls j+1:Nat):Int),(0:Int)),(jR X0 Ls j z ((lst `j z:Nat):Int),(1:Int))]=_;let p1:jR X0 Ls j z ((fst X0 Ls j+1:Nat):Int)=(Yr Ls j:Int):=by unfold jR;rw[XT `a,Sk,hk]
 let p2:jR X0 Ls j z ((lst `j z:Nat):Int)= -1:=by unfold jR;rw[XU rfl]
 rw[p1,p2]
theorem jB {α β:Type}{f g:α->List β}:∀{l:`x},(∀x∈l,f x=g x)->l.flatMap f=l.flatMap g
 | [],_=>rfl
 | x::l,h=>by rw[TB,TB,h x Sz,jB λy hy=>h y (Sv _ hy)]
theorem Af (h:`aJ):YL `w=YG Ls:=by
 let pl:=zH h;refine Vd ?_ ?_
 ·show(eI `w).map (λF=>(F.length:Int))=(SQ Ls.length).map λj=>((iV Ls j).length:Int);refine Tr λj=>?_;obtain hj | hj:=UP j Ls.length
  ·let⟨z,hz,ez⟩:=qm h hj;rw[Sw,lG h hz,Sw,Ti hj];show some ((cM `w (iJ `j z)).length:Int)∣((iV Ls j).length:Int);rw[← (qF h hz).1];unfold mI;rw[Ss]
  ·rw[SY (by rw[Ss,pl];exact hj),SY (by rw[Ss,Te];exact hj)]
 ·show(bJ X0 Ls).rows.map (fF `w)=(SQ Ls.length).flatMap λj=>(bX Ls j).map (oX j (iV Ls j));rw[qQ h,List.map_flatMap];refine jB λj hj=>?_;let⟨z,hz,ez⟩:=qm h (Tv.mp hj);let⟨w,hb⟩:=hJ (X0:=X0) (Ls:=Ls) hz;let⟨pp,pk⟩:=qF h hz;rw[← ez,← lT h hz,Tp];refine TK λr hr=>?_;let⟨i,i1,i2,e⟩:=md hr;let ep:cZ `w r.1=(j:Int):=by rw[e];exact pT h hz `a (by show i<=fst X0 Ls j+1+X4 z.2;cbv)
  let eF:(eI `w).getD (cZ `w r.1).toNat []=cM `w (iJ `j z):=by
   rw[ep,Sk,Sr,lG h hz];rfl
  let hi:hV (iJ `j z) r=true:=by
   unfold hV;rw[Sa,e];exact⟨XY (show((fst X0 Ls j:Nat):Int)<(i:Int) by cbv),XY (show(i:Int)<((fst X0 Ls j+1+X4 z.2:Nat):Int) by cbv)⟩
  let⟨k1,k2⟩:=yy h hz hb (qr h hz hr) hi;show fF `w r=oX j (iV Ls j) (sQ X0 (jR X0 Ls j z) r);unfold fF oX sQ;dsimp only;let hpn:(bJ X0 Ls).parts.map (·.1)=X0:=pV h;rw[eF,ep,hpn,← pp,qg (uE h) k1 pk,qg (uE h) k2 pk]
theorem ua (h:`aJ):(bJ X0 Ls).rows.map (λr=>(r.2.2.1,r.2.2.2))=je X0 Ls:=by
 let wb:=nM h;unfold je
 conv=>lhs;rw[qQ h,List.map_flatMap]
 refine jB λj hj=>?_;let⟨z,hz,ez⟩:=qm h (Tv.mp hj);rw[← ez,← lT h hz,Tp];refine TK λr hr=>?_;show(r.2.2.1,r.2.2.2)=oA X0 (sQ X0 (jR X0 Ls j z) r);unfold oA sQ;dsimp only;by_cases q:r.2.2.1="call"
 ·let hm:=wb.cl r (qr h hz hr) q;let hpn:(bJ X0 Ls).parts.map (·.1)=X0:=pV h;rw[hpn] at hm;rw[XU q,XU q,Sk,Sr,(nj hm).1];rfl
 ·rw[XT q,XT q]
end K1
namespace Fc
open PySem PySem.Spec PySem.W PySem.Calls L2
open PyProof.Rows hiding St
open PySem PySem.Spec L2 K1
variable {e:Expr}{ps:List PT}{q0:PT}
section
variable {X:Cx}{Z Γ1:Ga}{α:Type}{N:Ga->Prop}{T:RT}
theorem Ea (i:Nat){x:Str}{p1 pos:Pos}{F:R7}{k:Int}(hu:`bc)(he:EV X e Z ah k Z)(hΓ:Z[i]?∣(.di (cK F)))(hN:`p)(hm:VI .NotIn `m=false:=by first | exact tJ _ | with_unfolding_all rfl):TV X (.Compare e [.NotIn] [.Name x p1] pos) Z (!(bq F k).isSome) Z:=by
 intro σ H0 R0 H R E Q q;refine tS (mF (lR hu aO (aX hN)) hm) `V;cases e1
 let⟨a,ea,ha,hR⟩:=E1.ent i _ hΓ;refine⟨.ref a,am ea,a,_,rfl,iC.k (k:=Sum.inl k) ha,_,rfl,?_⟩;rw[mZ,Hz];exact q H1 R1 E1 s1
theorem EV.PR (h:EV X e Z nY () Γ1):EV X e Z au .Ye Γ1:=h.re λK R v e=>by cases e;exact .Ye
mutual
theorem cP.nodes {H:Hp}:∀{v:V}{x:PV}{fp:RY},cP H v x fp->∀a∈fp,∃vs,H a∣.lst vs
 | _,_,_,.str x,_,h=>by cases h
 | _,_,_,.int n,_,h=>by cases h
 | _,_,_,.lst q t z,a,h=>by
   obtain rfl | h:=SF.mp h
   ·exact⟨_,q⟩
   ·exact t.nodes a h
theorem bE.nodes {H:Hp}:∀{vs:`K}{xs:`aP}{fp:RY},bE H vs xs fp->∀a∈fp,∃vs,H a∣.lst vs
 | _,_,_,.nil,_,h=>by cases h
 | _,_,_,.cons q t,a,h=>(SK.mp h).elim (q.nodes a) (t.nodes a)
end
theorem yA {R R':Hp}(h:∀t us,R t∣.tup us->R' t∣.tup us){K:Xt}:∀{vs:`K}{ws:List jh},PySem.Paired (au.R K R) vs (ws.map fP)->PySem.Paired (au.R K R') vs (ws.map fP)
 | _,[],.nil=>.nil
 | _,w::_,.cons q t=>.cons (by
  let⟨a,rfl,e⟩:=Dk (K:=K) (w:=w) q;exact .tup (h _ _ e) (.cons (.str _) (.cons (.str _) (.cons (.int _) (.cons (.int _) (.cons (.int _) .nil)))))) (yA h t)
theorem Ov (i j l:Nat){x y z:Str}{m n n':Nat}{e1 e2:Expr}{p p0 p1 cp pos:Pos}{a c:Addr}{ts:`N}{k:Int}{bh lp:PV}{rws:List jh}(C:aD X.prog X.w X.K X.mg X.base x m (om n X.K))(hr:bH m X.A)(hil:i≠l)(h1:EV X e1 Z au bh Z)(h2:EV X e2 Z au lp Z)(hΓ:`az)(hj:Z[j]?∣.im dG q0.2.1)(hq:ps[n']?∣q0)(hts:q0.1=gv ts k)(hl:Z[l]?∣(.ob (aF c au [])))(hd:dc ts<=n)(hz:Yk ts<=1000)(hrw:K1.fk ts k bh lp=rws.map fP)(h:N (Z.set l (.ob (aF c au (rws.map fP)))))(hg:Gl X x:=by rfl)(Yz:YV x:=by decide)(s0:Vt [.Name y p0,e1,e2,.Name z p1] X.env=(false,eval (.Name y p0) X.env)::Vt [e1,e2,.Name z p1] X.env:=by rfl)(s1:Vt [e1,e2,.Name z p1] X.env=(false,eval e1 X.env)::Vt [e2,.Name z p1] X.env:=by rfl)(s2:Vt [e2,.Name z p1] X.env=(false,eval e2 X.env)::Vt [.Name z p1] X.env:=by rfl)(s3:dk X (.Name z p1) []:=by rfl)(Yo:eV X cp [e1,e2,.Name z p1]:=by rfl)(hNj:autoParam (At X j y) cg)(hNl:autoParam (At X l z) cg)(YH:Vv (.Call `ah [.Name y p0,e1,e2,.Name z p1] [] cp) none pos.line X.env=pure false:=by rfl):W1 X (.Expr (.Call `ah [.Name y p0,e1,e2,.Name z p1] [] cp) pos) Z N T:=λσ H0 R0 H R E D dn dr=>by
 let⟨f,fd,pn,F,hm,hk,hb⟩:=C.ex;let⟨v0,e0,Zz⟩:=E.ent j _ hj;cases Zz
 refine sS (eD (gR F hr hg hm hk hb .nil jO (aK (aX hNj) (aK aO (aK aO (aK (aX hNl) br s3) s2) s1) s0) Yz s0 Yo) YH) ⟨.ref q0.2.1,am e0,?_⟩;refine h1 σ H0 R0 H R E _ λv1 H2 R2 E2 q2 g1=>h2 σ H0 R0 H2 R2 E2 _ λv2 H3 R3 E3 q3 g2=>?_;let⟨⟨v,ea,rfl,kk⟩,hR⟩:=E3.ent i _ hΓ;let⟨ec,⟨ws,hc,pc⟩,hRc⟩:=cn (E3.ent l _ hl);cases pc
 let⟨t,nd,_⟩:=kk.pt n' q0 hq;rw[hts] at t;let inB:∀d∈cC q0,d∈(bp a ps).fp:=λd hd=>Sv _ (bz.mpr ⟨n',q0,hq,hd⟩);let nR:∀d∈cC q0,R3 d=none:=λd hd=>hR d (inB d hd);let nc:∀d∈cC q0,d≠c:=λd hd z=>hil (E3.ds i l _ _ d hΓ hl (inB d hd) (by rw[z];exact Su.mpr rfl));let s34:av R3 (λd=>if d∈cC q0 then H3 d else R3 d):=λd o e=>by
  show(if d∈cC q0 then H3 d else R3 d)∣o;rw[XT λw=>by rw[nR d w] at e;cases e];exact e
 refine⟨.ref c,am ec,?_⟩;show om n X.K [.ref q0.2.1,v1,v2,.ref c] H3 (λ_ H1=>D.nx σ H1) E0;let t4:cP (λd=>if d∈cC q0 then H3 d else R3 d) (.ref q0.2.1) (.lst (gv ts k)) (cC q0):=t.loc λd hd=>XU hd;refine⟨λd=>if d∈cC q0 then H3 d else R3 d,c,[],[],.ref q0.2.1,v1,v2,ts,k,bh,lp,rfl,λd o e=>?_,?_,hc,.nil,?_,au.mono (K:=X.K) (q3.trans s34) g1,au.mono (K:=X.K) s34 g2,hd,by show 0+Yk ts<=1000;cbv,λH' R' YK xx w1 w2 pq=>?_⟩
 ·by_cases w:d∈cC q0
  ·let e:(if d∈cC q0 then H3 d else R3 d)∣o:=e;rwa [XU w] at e
  ·let e:(if d∈cC q0 then H3 d else R3 d)∣o:=e;rw[XT w] at e;exact E3.sub _ _ e
 ·show(if c∈cC q0 then H3 c else R3 c)=none;rw[XT λw=>nc c w rfl];exact hRc
 ·cases t4 with
  | @lst _ vs _ _ hb tt zz=>exact⟨_,vs,rfl,hb,tt.rX.pair,zz⟩
 ·rw[To,hrw] at pq;let hD:∀d∈cC q0,H' d=H3 d:=λd w=>by
   let⟨vs,e⟩:=t.nodes d w;rw[e];exact xx.h d _ (by unfold del;rw[XT (nc d w)];exact e)
  let x5:Ext (del H3 c) R3 H' (λd=>if d∈cC q0 then none else R' d):=⟨xx.h,λd o e=>?_,λd o e=>?_,λd e=>?_⟩
  ·let E4:ar X.K σ H0 R0 H' (λd=>if d∈cC q0 then none else R' d) (Z.set l (.ob (aF c au (rws.map fP)))):=E3.pW hl (B:=aF c au []) (by
    have:cS H3 (aF c au ([]:List PV)).fp=del H3 c:=by funext b;show(if b∈[c] then none else H3 b)=_;unfold del;simp only[Su]
    rw[this];exact x5) (by rw[ec];exact⟨⟨_,rfl,rfl,YK,w1,yA (λu us e=>by
     show(if u∈cC q0 then none else R' u)=_;rw[XT λw=>by
      let⟨vs,e'⟩:=t.nodes u w;rw[← hD u w,xx.s _ _ e] at e';cases e']
     exact e) pq⟩,λb hb=>by
      rw[Su.mp hb];show(if c∈cC q0 then none else R' c)=none;rw[XT λw=>nc c w rfl];exact w2⟩) λb hb=>hb
   exact dn σ H' _ _ E4 (q2.trans (q3.trans x5.r)) h
  ·show(if d∈cC q0 then none else R' d)∣o;rw[XT λw=>by rw[nR d w] at e;cases e]
   exact xx.r _ _ (s34 _ _ e)
  ·let e:(if d∈cC q0 then none else R' d)∣o:=e;by_cases w:d∈cC q0
   ·rw[XU w] at e;cases e
   ·rw[XT w] at e;exact xx.s _ _ e
  ·show(if d∈cC q0 then none else R' d)=R3 d;by_cases w:d∈cC q0
   ·rw[XU w,nR d w]
   ·rw[XT w,xx.old d e];show(if d∈cC q0 then H3 d else R3 d)=R3 d;rw[XT w]
theorem Kc {i j:Nat}{a:Addr}{n:Nat}(hΓ:`az)(hj:Z[j]?∣.im dG q0.2.1)(hq:ps[n]?∣q0)(σ:St)(H0 R0 H R:Hp)(E:`aS):ar X.K σ H H H H ((Z.map og).set j (.im (ae au) q0.1)):=by
 let⟨⟨v,ea,rfl,k⟩,_⟩:=E.ent i _ hΓ;let⟨v0,e0,Zz⟩:=E.ent j _ hj;cases Zz
 cases (k.pt n _ hq).1 with
 | @lst _ vs _ _ hb tt zz=>
 exact E.YY.lW (i:=j) (e0:=.im dG q0.2.1) (by rw[Sw,hj];rfl) ⟨_,e0,_,vs,rfl,hb,tt.rX.pair,zz⟩ λb w=>by cases w
def Q5:ou:=⟨[],λ_ _ _ _=>True,λ_ _ h=>h,λ_ b hb=>by cases hb⟩
end
end Fc
namespace K1
open PySem L2 Fc
open PySem.Spec hiding Row
open PyProof.Rows hiding St
open PySem.Builtin.Int (intBits)
variable {P:Vr}{w:World}{K:Xt}{mg:RQ}{base:Heap}{f:Addr}{fd:Vw}
mutual
theorem Dy:∀(t:Th)(k:Int),(bI t k).2=k+fJ t
 | .Yq x,k=>by rw[bI,fJ];rfl
 | .call j,k=>by rw[bI,fJ];rfl
 | .leave,k=>by rw[bI,fJ];show k=_;cbv
 | .back,k=>by rw[bI,fJ];show k=_;cbv
 | .X9 x A,k=>by rw[bI,fJ];show(aR A (k+1)).2=_;rw[ny A];cbv
 | .ifs x A B,k=>by rw[bI,fJ];show(aR B (aR A (k+1)).2).2=_;rw[ny B,ny A];cbv
theorem ny:∀(ts:`N)(k:Int),(aR ts k).2=k+fX ts
 | [],k=>by rw[aR,fX];show k=_;cbv
 | t::ts,k=>by rw[aR,fX];show(aR ts (bI t k).2).2=_;rw[ny ts,Dy t];cbv
end
theorem sf {k bh lp:Int}:∀ts:List Th,um ts k bh lp=jH ts k bh lp
 | []=>rfl
 | .leave::_=>rfl
 | .back::_=>rfl
 | .Yq _::_=>rfl
 | .call _::_=>rfl
 | .ifs _ _ _::_=>rfl
 | .X9 _ _::_=>rfl
mutual
theorem Iz:∀(t:Th)(k af lp:Int),fZ t k af lp=dP t k af lp
 | .Yq x,k,af,lp=>by rw[fZ,dP]
 | .call j,k,af,lp=>by rw[fZ,dP]
 | .leave,k,af,lp=>by rw[fZ,dP]
 | .back,k,af,lp=>by rw[fZ,dP]
 | .X9 x A,k,af,lp=>by rw[fZ,dP,mO A,sf]
 | .ifs x A B,k,af,lp=>by rw[fZ,dP,mO A,mO B,sf,sf,ny]
theorem mO:∀(ts:`N)(k bh lp:Int),jP ts k bh lp=fb ts k bh lp
 | [],k,bh,lp=>by rw[jP,fb]
 | t::ts,k,bh,lp=>by rw[jP,fb,Iz t,mO ts,sf,Dy]
end
theorem yk {lo m:Int}{L:`N}{k:Int}(h:bK lo m false L):fk L k (.int (-1)) .Ye=(fb L k (-1) 0).map fP:=by
 rw[← mO];exact oP L 0 k (-1) h
abbrev gF:Rep (List jh×R7):=dO (ae pG) h9
def oQ (Ls:`A)(j:Nat):List jh×R7:=(bX Ls j,iV Ls j)
noncomputable def iq (Ls:`A):List (List jh×R7):=(SQ Ls.length).map (oQ Ls)
noncomputable def Ax (K:Xt):Sp:=λvs H Q _=>∃(R:Hp)(a:Addr)(ps:List PT)(X0:RU)(Ls:`A),vs=[.ref a]/\av R H/\kf H a ps/\(∀d∈a::dE ps,R d=none)/\ps.map (·.1)=Ls.map ba/\cv X0 Ls/\
 ∀v H' R',Ext (cS H (a::dE ps)) R H' R'->(ae gF).R K R' v (iq Ls)->Q v H'
end K1
namespace Fc
open PySem PySem.Spec PySem.W PySem.Calls L2
open PyProof.Rows hiding St
open PySem PySem.Spec L2 K1
section
variable {X:Cx}{Z Γ1:Ga}{N:Ga->Prop}{T:RT}
theorem GR (i:Nat){x y:Str}{m:Nat}{p p1 pos:Pos}{a:Addr}{ps:List PT}{X0:RU}{Ls:`A}(C:aD X.prog X.w X.K X.mg X.base x m (Ax X.K))(hr:bH m X.A)(hΓ:`az)(YX:ps.map (·.1)=Ls.map ba)(hP:`aJ)(hg:Gl X x:=by rfl)(Yz:YV x:=by decide)(he:dk X (.Name y p1) []:=by rfl)(Yo:eV X pos []:=by rfl)(hN:autoParam (At X i y) cg):
 EV X (.Call `ah [.Name y p1] [] pos) Z (ae gF) (iq Ls) (Z.set i .no):=λσ H0 R0 H R E Q q=>by
 let⟨f,fd,pn,F,hm,hk,hb⟩:=C.ex;let⟨⟨v,ea,rfl,kk⟩,hR⟩:=E.ent i _ hΓ;refine eS (gR F hr hg hm hk hb .nil jO (aK (aX hN) br he) Yz he Yo) ⟨.ref a,am ea,?_⟩;show Ax X.K [.ref a] H Q E0;refine⟨R,a,ps,X0,Ls,rfl,E.sub,kk,hR,YX,hP,λv H' R' xx r=>?_⟩;let E1:ar X.K σ H0 R0 H' R' (Z.set i (.ob Q5)):=E.pW hΓ (B:=bp a ps) xx (by rw[ea];exact⟨⟨_,rfl,trivial⟩,λb hb=>by cases hb⟩) λc hc=>by cases hc
 let hl:i<Z.length:=(Sn.mp hΓ).1;let E2:=E1.tell (i:=i) (en:=.no) (SG hl) trivial λb w=>by cases w
 rw[TR] at E2;exact q v H' R' E2 xx.r r
end
end Fc
namespace K1
open PySem L2 Fc
open PySem.Spec hiding Row
open PyProof.Rows hiding St
open PySem.Builtin.Int (intBits)
variable {P:Vr}{w:World}{K:Xt}{mg:RQ}{base:Heap}{f:Addr}{fd:Vw}
variable {L:`N}{Ls:`A}{i:Nat}
theorem K8 {R H:Hp}{a:Addr}{ps:List PT}{N:RU}(hN:N.length=12)(s:av R H)(kk:kf H a ps)(hR:∀d∈a::dE ps,R d=none):
 ar K (L2.start N [.ref a]) (cS H (a::dE ps)) R H R [.ob `F,.no,.no,.no,.no,.no,.no,.no,.no,.no,.no,.no]:=by
 let es:L2.start N [.ref a]=some (.ref a)::Tg 11 none:=by unfold L2.start;rw[hN];rfl
 rw[es];let at_:∀(i:Nat)(e:Ent),(Ent.ob `F::Tg 11 Ent.no:Ga)[i]?∣e->(i=0/\e= .ob `F)∨e= .no:=λi e q=>by
  cases i with
  | zero=>exact .inl ⟨rfl,by simpa using q.symm⟩
  | succ i=>
    right;have:e∈Tg 11 Ent.no:=SD (~~~q);exact List.eq_of_mem_replicate this
 show ar K _ _ R H R (Ent.ob `F::Tg 11 Ent.no);refine⟨⟨jw,av.refl _,s,λ_ _=>rfl⟩,λi e q=>?_,λi e d q w=>?_,λi j e e' d q q' w w'=>?_,rfl⟩
 ·obtain⟨rfl,rfl⟩ | rfl:=at_ i e q
  ·exact⟨⟨_,rfl,rfl,kk⟩,hR⟩
  ·trivial
 ·obtain⟨rfl,rfl⟩ | rfl:=at_ i e q
  ·exact gy w
  ·cases w
 ·obtain⟨rfl,rfl⟩ | rfl:=at_ i e q
  ·obtain⟨rfl,rfl⟩ | rfl:=at_ j e' q'
   ·rfl
   ·cases w'
  ·cases w
noncomputable def Ak (Ls:`A)(i:Nat):List (List PV):=((SQ i).map λj=>gv (Ls.getD j []) (Yr Ls j:Int))++(Ls.drop i).map ba
theorem MC (h:Ls[i]?∣L):(Ak Ls i)[i]?∣ba L/\Ak Ls (i+1)=(Ak Ls i).set i (gv L (Yr Ls i:Int)):=by
 let hl:=(Sn.mp h).1;let e1:((SQ i).map λj=>gv (Ls.getD j []) (Yr Ls j:Int)).length=i:=by rw[Ss,Te]
 let hd:Ls.drop i=L::Ls.drop (i+1):=by
  let⟨h1,h2⟩:=Sn.mp h;rw[TC h1,h2]
 let hg:Ls.getD i []=L:=by rw[Sr,h];rfl
 unfold Ak;refine⟨?_,?_⟩
 ·rw[SV `a,e1,U2,hd];rfl
 ·rw[List.set_append_right _ _ `a,e1,U2,hd,Ua,SN,SR];show _++(gv (Ls.getD i []) (Yr Ls i:Int)::_)=_;rw[hg];rfl
theorem wk (F:R7)(k:Int):(cX F k).length<=F.length+1:=by
 unfold cX;split
 ·cbv
 ·rw[Sx];exact UJ _
theorem yZ {F:R7}{k:Int}:cX F k=if(bq F k).isSome then F else jK F k (F.length:Int):=by
 unfold cX jK;cases (bq F k).isSome<;>rfl
theorem IK (rs:List nB):∀(F:R7),(rs.foldl `ac F).length<=F.length+2*rs.length:=by
 induction rs with
 | nil=>intro F;exact UJ _
 | cons r rs ih=>
   intro F;rw[Tt,SE];let h1:_<=(cX (cX F r.2.2.1) r.2.2.2.1).length+2*rs.length:=ih (iX F r.2.2.1 r.2.2.2.1);let h2:=wk (cX F r.2.2.1) r.2.2.2.1;let h3:=wk F r.2.2.1;cbv
theorem D7 {lo m:Int}(h:bK lo m false L)(k:Int):(fb L k (-1) 0).length=Yk L:=by
 have:=congrArg List.length (yk (k:=k) h);rw[ir,Ss] at this;exact this.symm
theorem Lm {k:Int}{bh lp:PV}{lo m:Int}(h:gH L)(ho:bK lo m false L):lJ L k bh lp= .int k:=by
 let⟨t,ts,rfl,hb⟩:=h;cases t with
 | leave=>simp only[bK,bU] at ho;cases ho.1
 | back=>cases hb
 | Yq _=>rfl
 | call _=>rfl
 | ifs _ _ _=>rfl
 | X9 _ _=>rfl
abbrev BO:Stmt:=top tZ
abbrev Mj:RU:=["_law_lists","_law_keys","_law_mapped_here","_law_items","_law_rows_here","_law_known","_law_key","_law_word","_law_name_here","_law_one","_law_other","_law_calls"]
abbrev Lx:RU:=["_law_lists"]
theorem MR:bD Mj Lx (ao BO):=Zf
theorem OY (M:`aY)(CN:aD P w K mg base "_law_numbered" 5 (my 4))(CE:aD P w K mg base "_law_entry" 1 (aP Du K))(CR:aD P w K mg base "_law_rows" 6 (om 4 K))(F:dw K "_law_mapped" "_law_mapped" BO f fd)(hm:mg "_law_mapped"∣.ref f)(hb:be K fd Lx []):aD P w K mg base "_law_mapped" 7 (Ax K):=by
 let nd:=MR.nd;let CN:=CN.mono (show 5<=6 by decide);let CE:=CE.mono (show 1<=6 by decide);refine⟨f,fd,Lx,?_,hm,F.kp,hb⟩;refine F.ok (k:=6) MR `bu `W
 ·let⟨R,a,ps,X0,Ls,rfl,_⟩:=h;rfl
 ·let⟨R,a,ps,X0,Ls,rfl,sR,kk,hR,YX,hP,q⟩:=h;let hu:=ru hr;let l4:=hP.l4;let lps:ps.length=Ls.length:=by have:=congrArg List.length YX;rwa [Ss,Ss] at this
  let body:WS (eE d7 P w K mg base Mj "_law_mapped" (ao BO) f X6 A outer s H E).gP (bF BO) [.ob `F,.no,.no,.no,.no,.no,.no,.no,.no,.no,.no,.no] (λ_=>False) (cq K (ae gF) (· =iq Ls)):=by
   refine ai (cF 1 (r:=ah) (ys:=[0]) (aQ (aq ac aN) (by show 1<=Vn;decide)) ?_);refine ai (cF 2 (r:=gF) (ys:=[]) `aE ?_);refine WS.box 1 rfl λc=>?_;refine bG (N1:=λZ=>∃e0 e1 e3 e4 e5 e6 e7 e8 e9 Zr Zq,Z=[e0,e1,.mu gF (iq Ls),e3,e4,e5,e6,e7,e8,e9,Zr,Zq]) (zt 0 (a:=a) (ps:=ps) (λi Z=>∃qs e3 e4 e5 e6 e7 e8 e9 Zr Zq,Z=[.ob (bp a qs),.ob (aF c ah [(Yr Ls i:Int)]),.mu gF ((SQ i).map (oQ Ls)),e3,e4,e5,e6,e7,e8,e9,Zr,Zq]/\qs.map (·.2)=ps.map (·.2)/\qs.map (·.1)=Ak Ls i) rfl (aU 3) ⟨ps,_,_,_,_,_,_,_,_,_,rfl,rfl,YX⟩ (λk Z ⟨qs,e3,e4,e5,e6,e7,e8,e9,Zr,Zq,e,h1,_⟩=>⟨qs,by rw[e];rfl,h1⟩) (λi p Z hp hΓ=>?_) `R) ?_
   ·let⟨qs,e3,e4,e5,e6,e7,e8,e9,Zr,Zq,rfl,h1,h2⟩:=hΓ;let il:i<Ls.length:=by have:=(Sn.mp hp).1;rwa [lps] at this
    obtain⟨L,hL⟩:∃L,Ls[i]?∣L:=⟨_,So il⟩;let hg:Ls.getD i []=L:=by rw[Sr,hL];rfl
    let⟨n1,n2⟩:=MC hL;let ql:qs.length=ps.length:=by have:=congrArg List.length h1;rwa [Ss,Ss] at this
    obtain⟨q0,hq⟩:∃q,qs[i]?∣q:=⟨_,So `a⟩;let er:q0.2=p.2:=by
     have:=congrArg (·[i]?) h1;simp only[Sw,hq,hp,Vb] at this;exact Option.some.inj this
    let ey:q0.1=ba L:=by
     have:=congrArg (·[i]?) h2;simp only[Sw,hq,n1,Vb] at this;exact Option.some.inj this
    let hq2:(qs.set i `aj)[i]?∣`aj:=SG (Sn.mp hq).1;let h1':(qs.set i `aj).map (·.2)=ps.map (·.2):=by
     rw[Ux,l9 (by rw[Sw,hq];rfl),h1]
    let h3:(qs.set i `aj).map (·.1)=Ak Ls (i+1):=by rw[Ux,h2,n2]
    let hm:=SD hL;let ho:=hP.ok i L hL;let hh:=hP.hd L hm;let h14:=hP.rw L hm;let rl:=D7 ho (Yr Ls i:Int);change WS _ _ [.ob (bp a qs),.ob (aF c ah [(Yr Ls i:Int)]),.mu gF ((SQ i).map (oQ Ls)),.im dG p.2.1,e4,e5,e6,e7,e8,e9,Zr,Zq] _ _;rw[← er];refine ai (Rz 0 3 1 CN hr `c rfl rfl rfl hq ey (hP.dp L hm) ?_);refine ai (cF 4 (r:=au) (ys:=[]) `aE ?_);refine WS.box 4 rfl λd=>?_;change WS _ _ [.ob (bp a (qs.set i `aj)),.ob (aF c ah [(aR L (Yr Ls i:Int)).2]),.mu gF ((SQ i).map (oQ Ls)),.im dG q0.2.1,.ob (aF d au []),e5,e6,e7,e8,e9,Zr,Zq] _ _;generalize qs.set i `aj=us at hq2 h1' h3 ⊢;refine ai (Ov 0 3 4 (q0:=`aj) (ts:=L) (k:=(Yr Ls i:Int)) (bh:=.int (-1)) (lp:=.Ye) CR hr `c (EV.pI (cj ac)) (EV.PR B0) rfl rfl hq2 rfl rfl (hP.dp L hm) `a (yk ho) ?_);refine WS.unb 4 rfl ?_;refine WS.freeze 4 rfl (aM (by rw[Ss];cbv)) ?_;refine ai (qk 5 ?_);let kn:(aR L (Yr Ls i:Int)).2=(Yr Ls (i+1):Int):=by
     rw[ny];unfold Yr;rw[S9,hL,SN,UE];show _=(((List.map fX (Ls.take i)).sum + [fX L].sum:Nat):Int);rw[show[fX L].sum=fX L by simp];push_cast;rfl
    rw[kn];let hen:lJ L (Yr Ls i:Int) (.int (-1)) .Ye= .int (Yr Ls i:Int):=Lm hh ho;let rws:fb L (Yr Ls i:Int) (-1) 0=bX Ls i:=by unfold bX;rw[hg]
    let knf:(bX Ls i).foldl `ac [((Yr Ls i:Int),0),(-1,1)]=iV Ls i:=rfl;rw[rws] at rl ⊢;let nx:(SQ (i+1)).map (oQ Ls)=(SQ i).map (oQ Ls)++[(bX Ls i,iV Ls i)]:=by rw[Ua,SN];rfl
    rw[nx];let ml:((SQ i).map (oQ Ls)).length<=4:=by rw[Ss,Te];cbv
    generalize (SQ i).map (oQ Ls)=ms at ml;let k0:(0:Int)<=(Yr Ls i:Int):=Int.natCast_nonneg _;change WS _ _ [.ob (bp a us),.ob `aW,.mu gF ms,.im dG q0.2.1,.im (ae au) ((bX Ls i).map fP),.di (cK []),e6,e7,e8,e9,Zr,Zq] _ _;refine bG (N1:=λZ=>∃e6,Z=[.ob (bp a us),.ob `aW,.mu gF ms,.im dG q0.2.1,.im (ae au) ((bX Ls i).map fP),.di (cK [((Yr Ls i:Int),0),(-1,1)]),e6,e7,e8,e9,Zr,Zq]) (bO (r:=ah) (xs:=[(Yr Ls i:Int), -1]) (λk Z=>∃e6,Z=[.ob (bp a us),.ob `aW,.mu gF ms,.im dG q0.2.1,.im (ae au) ((bX Ls i).map fP),.di (cK (([((Yr Ls i:Int),(0:Int)),(-1,1)]:R7).take k)),e6,e7,e8,e9,Zr,Zq]) (bM (bc.im (aQ (aq (EV.YY (r:=ah) (Kc (i:=0) (j:=3) (q0:=`aj) rfl rfl hq2) (λ_ _ _ _ _ h=>h) (EV.iP (n:=(Yr Ls i:Int)) (EV.cast (aB CE hr (ag `q (ag ac (ag (EV.pI (cj ac)) (ag (EV.PR B0) ax)))) ⟨L,(Yr Ls i:Int),0,.int (-1),.Ye,rfl,UL _,rfl⟩) (by rw[drop_zero,TZ,aR];exact hen)))) (aq (cj ac) aN)) (by show 2<=Vn;decide)))) (aU 6) ⟨_,rfl⟩ (λk x Z hx hΓ=>?_) (λZ hΓ=>hΓ)) ?_
    ·let⟨e6,rfl⟩:=hΓ
     match k,hx with
     | 0,hx=>
       let hx:x=(Yr Ls i:Int):= ~~~hx.symm
       subst hx;exact aj (sJ 5 hu `au (nO 5 M.len rfl) rfl (show 0<Vn by decide) ⟨_,rfl⟩)
     | 1,hx=>
       let hx:x= -1:= ~~~hx.symm
       subst hx;let e:jK [((Yr Ls i:Int),(0:Int))] (-1) 1=[((Yr Ls i:Int),0),(-1,1)]:=by
        unfold jK bq;rw[Uc `d];rfl
       refine aj (sJ 5 (F:=[((Yr Ls i:Int),(0:Int))]) hu `au (nO 5 M.len rfl) rfl (show 1<Vn by decide) ⟨aE (-1),?_⟩);show _=[Ent.ob (bp a us),.ob `aW,.mu gF ms,.im dG q0.2.1,.im (ae au) ((bX Ls i).map fP),.di (cK [((Yr Ls i:Int),0),(-1,1)]),aE (-1),e7,e8,e9,Zr,Zq];rw[← e];rfl
     | k+2,hx=>simp at hx
    rintro _ ⟨e6,rfl⟩;refine bG (N1:=λZ=>∃e6 e7 e8 e9 Zr Zq,Z=[.ob (bp a us),.ob `aW,.mu gF ms,.im dG q0.2.1,.im (ae au) ((bX Ls i).map fP),.di (cK (iV Ls i)),e6,e7,e8,e9,Zr,Zq]) (bO (r:=pG) (xs:=bX Ls i) (λk Z=>∃e6 e7 e8 e9 Zr Zq,Z=[.ob (bp a us),.ob `aW,.mu gF ms,.im dG q0.2.1,.im (ae au) ((bX Ls i).map fP),.di (cK (((bX Ls i).take k).foldl `ac [((Yr Ls i:Int),0),(-1,1)])),e6,e7,e8,e9,Zr,Zq]) (bM (EV.Ql `af)) (G7 7 8 9 10 11) ⟨_,_,_,_,_,_,rfl⟩ (λk r Z Y7 hΓ=>?_) `R) ?_
    ·let⟨e6,e7,e8,e9,Zr,Zq,rfl⟩:=hΓ;let kl:=(Sn.mp Y7).1;let nx:((bX Ls i).take (k+1)).foldl `ac [((Yr Ls i:Int),0),(-1,1)]=iX (((bX Ls i).take k).foldl `ac [((Yr Ls i:Int),0),(-1,1)]) r.2.2.1 r.2.2.2.1:=by
      rw[S9,Y7,Tu];rfl
     rw[nx];let Fl:=IK ((bX Ls i).take k) [((Yr Ls i:Int),0),(-1,1)];rw[SW] at Fl;let Fl:(((bX Ls i).take k).foldl `ac [((Yr Ls i:Int),0),(-1,1)]).length<=40:=by
      refine UK Fl ?_;show 2+2*min k (bX Ls i).length<=40;cbv
     generalize ((bX Ls i).take k).foldl `ac [((Yr Ls i:Int),0),(-1,1)]=F0 at Fl;let⟨wd,nm,o1,o2,cl⟩:=r;refine aj (bO (r:=ah) (xs:=[o1,o2]) (λk Z=>∃e6,Z=[.ob (bp a us),.ob `aW,.mu gF ms,.im dG q0.2.1,.im (ae au) ((bX Ls i).map fP),.di (cK ((([o1,o2]:RS).take k).foldl cX F0)),e6,.im ak wd,.im ak nm,aE o1,aE o2,aE cl]) (bM (bc.im (aQ (aq (aa 9 rfl) (aq (aa 10 rfl) aN)) (by show 2<=Vn;decide)))) (aU 6) ⟨_,rfl⟩ (λk x Z hx hΓ=>?_) `R)
     ·let⟨e6,rfl⟩:=hΓ;let kl:k<2:=(Sn.mp hx).1;let nx:(([o1,o2]:RS).take (k+1)).foldl cX F0=cX ((([o1,o2]:RS).take k).foldl cX F0) x:=by
       rw[S9,hx,Tu];rfl
      rw[nx];let F1l:((([o1,o2]:RS).take k).foldl cX F0).length<=42:=by
       match k,kl with
       | 0,_=>show F0.length<=42;cbv
       | 1,_=>show(cX F0 o1).length<=42;have:=wk F0 o1;cbv
      generalize (([o1,o2]:RS).take k).foldl cX F0=F1 at F1l;refine aj (aZ (Ea 5 hu `au rfl) (λh=>?_) `Q)
      ·let h:(bq F1 x).isSome=false:= ~~~h
       refine aj (sJ 5 hu `au (nO 5 M.len rfl) rfl (UM F1l `c) ⟨aE x,?_⟩);rw[yZ,h];rfl
      ·let h:(bq F1 x).isSome=true:= ~~~h
       refine⟨aE x,?_⟩;rw[yZ,h];rfl
     ·let⟨e6,rfl⟩:=hΓ;exact⟨_,_,_,_,_,_,rfl⟩
    ·let⟨e6,e7,e8,e9,Zr,Zq,rfl⟩:=hΓ;rw[Td];exact⟨_,_,_,_,_,_,rfl⟩
    rintro _ ⟨e6,e7,e8,e9,Zr,Zq,rfl⟩;refine WS.OT 5 rfl ?_;refine aj (eU 2 (r:=gF) (y:=(bX Ls i,iV Ls i)) (pO (ag (EV.Ql `af) (ag `Y ax))) rfl rfl (UM ml `c) ⟨us,_,_,_,_,_,_,_,_,_,rfl,h1',h3⟩)
   ·let⟨qs,e3,e4,e5,e6,e7,e8,e9,Zr,Zq,rfl,h1,h2⟩:=hΓ;rw[lps];exact⟨_,_,_,_,_,_,_,_,_,_,_,rfl⟩
   rintro _ ⟨e0,e1,e3,e4,e5,e6,e7,e8,e9,Zr,Zq,rfl⟩;refine WS.freeze 2 rfl (aM (by unfold iq;rw[Ss,Te];cbv)) ?_;exact aj (aY `s rfl)
  exact⟨_,g8,body (L2.start Mj [.ref a]) (cS H (a::dE ps)) R H R (K8 rfl sR kk hR) {nx:=λ_ H'=>Q .Ye H',rt:=Q} (λσ' H' R' Γ' E' _ h=>h.elim) λv H' R' xx t=>by let⟨y,hy,rfl⟩:=t;exact q v H' R' xx hy⟩
structure sX (mg:RQ):Prop where
 isinstance:mg "isinstance"=none
 bool:mg "bool"=none
 str:mg "str"=none
 tuple:mg "tuple"=none
mutual
noncomputable def oM:PV->Bool
 | .str _=>true
 | .int _=>true
 | .tup xs=>decide (xs.length<=1000)&&nS xs
 | .lst xs=>nS xs
 | _=>false
noncomputable def nS:List PV->Bool
 | []=>true
 | x::xs=>oM x&&nS xs
end
theorem qW {x:PV}:∀{xs:`aP},nS xs=true->x∈xs->oM x=true
 | y::xs,h,hx=>by
   rw[nS,Sa] at h;obtain rfl | hx:=SF.mp hx
   ·exact h.1
   ·exact qW h.2 hx
theorem y9:∀{xs:`aP},(∀x∈xs,oM x=true)->nS xs=true
 | [],_=>by rw[nS]
 | y::xs,h=>by rw[nS,h y Sz,y9 λx hx=>h x (Sv _ hx)];rfl
variable {α:Type}{xs:`x}
theorem vV {y:α×α}(h:(xs.zip xs)[i]?∣y):y.1∈xs/\y=(y.1,y.1):=by
 let⟨h1,h2⟩:=Fc.kY h;rw[h1] at h2;exact⟨SD h1,Vd rfl (Option.some.inj h2).symm⟩
def gb (y:Str×Str):PV:=.tup [.str y.1,.str y.2]
variable {n:Nat}
abbrev Hl:Stmt:=top yh
abbrev nSM:RU:=["_law_told","_law_due","_law_one","_law_other"]
abbrev LV:RU:=["_law_told","_law_due"]
theorem KQ:bD nSM LV (ao Hl):=Zf
def D3 (n:Nat):c9:=λK ps T=>∃x:PV,ps=[⟨au,x⟩,⟨au,x⟩]/\x.deep<=n/\oM x=true/\T=cq K cU (· =true)
theorem C7 (M:`aY)(MS:sX mg)(CS:∀m,n=m+1->aD P w K mg base "_law_same" (m+1) (aP (D3 m) K))(F:dw K "_law_same" "_law_same" Hl f fd)(hm:mg "_law_same"∣.ref f)(hb:be K fd LV []):aD P w K mg base "_law_same" (n+1) (aP (D3 n) K):=by
 let nd:=KQ.nd;refine ij (k:=n) F KQ hm hb (λqs T ⟨_,e,_⟩=>by rw[e];rfl) `ag;let⟨x,rfl,hd,ho,rfl⟩:=hS;cases x with
 | Ye=>simp[oM] at ho
 | bl b=>simp[oM] at ho
 | int k=>
   refine ai (aZ (TW.tv (jd (bV (bA (b:=false) MS.isinstance MS.tuple Vh `g kJ)) (λ_=>jk (bV (bA (b:=false) MS.isinstance M.list Ve `g kJ))))) `aD (λ_=>aH ?_));refine ai (aZ (bV (bA (b:=false) MS.isinstance MS.bool boot_bool `g kJ)) `aD (λ_=>aH ?_));refine ai (aZ (bV (bA (b:=true) MS.isinstance M.int Vj `g kJ)) (λ_=>?_) `aD);exact aj (aY (oS (bA (b:=true) MS.isinstance M.int Vj `e kJ) (λ_=>oS (xE (bA (b:=false) MS.isinstance MS.bool boot_bool `e kJ)) (λ_=>sW (ja iD (EV.iP (n:=k) `e) (EV.iP (n:=k) `g))))) `d)
 | str y=>
   refine ai (aZ (TW.tv (jd (bV (bA (b:=false) MS.isinstance MS.tuple Vh `g kO)) (λ_=>jk (bV (bA (b:=false) MS.isinstance M.list Ve `g kO))))) `aD (λ_=>aH ?_));refine ai (aZ (bV (bA (b:=false) MS.isinstance MS.bool boot_bool `g kO)) `aD (λ_=>aH ?_));refine ai (aZ (bV (bA (b:=false) MS.isinstance M.int Vj `g kO)) `aD (λ_=>aH ?_));refine ai (aZ (bV (bA (b:=true) MS.isinstance MS.str PyProof.Rows.boot_str `g kO)) (λ_=>?_) `aD);exact aj (aY (oS (bA (b:=true) MS.isinstance MS.str PyProof.Rows.boot_str `e kO) (λ_=>sW (ja bS (EV.sP (x:=y) `e) (EV.sP (x:=y) `g)))) `d)
 | tup xs=>
   rw[PV.deep] at hd;rw[oM,Sa] at ho;cases n with
   | zero=>cbv
   | succ m=>
   let CS:=CS m rfl;refine ai (aZ (TW.tv (jd (y:=false) (bV (bA (b:=true) MS.isinstance MS.tuple Vh `g o8)) `aD)) (λ_=>?_) `aD);refine ai (aZ (TW.tv (jd (ay vM (bA (b:=true) MS.isinstance MS.tuple Vh `e o8) (bA (b:=true) MS.isinstance MS.tuple Vh `g o8)) (λ_=>jk (ay vM (bA (b:=false) MS.isinstance M.list Ve `e o8) (bA (b:=false) MS.isinstance M.list Ve `g o8))))) `aD (λ_=>aH ?_));refine ai (aZ (ay Fz (Am M.len `e) (Am M.len `g)) (λh=>XS h `d) (λ_=>aH ?_));refine bG (N1:=λZ=>∃e2 e3,Z=[.im au (.tup xs),.im au (.tup xs),e2,e3]) (bO (r:=dO au au) (λi Z=>∃e2 e3,Z=[.im au (.tup xs),.im au (.tup xs),e2,e3]) (FQ M.zip `e `g (aM (UK (XW ho.1) `c))) (eQ 2 3) ⟨_,_,rfl⟩ (λi y Z hy hΓ=>?_) (λZ hΓ=>hΓ)) ?_
   ·let⟨e2,e3,rfl⟩:=hΓ;let⟨h1,h2⟩:=vV hy;rw[h2];have:=iu h1;exact aj (aZ (gj (bV (aB CS hr (ag `s (ag `q ax)) ⟨y.1,rfl,`a,qW ho.2 h1,rfl⟩))) `aD (λ_=>aH ⟨_,_,rfl⟩))
   rintro _ ⟨e2,e3,rfl⟩;exact aj (aY m7 rfl)
 | lst xs=>
   rw[PV.deep] at hd;rw[oM] at ho;cases n with
   | zero=>cbv
   | succ m=>
   let CS:=CS m rfl;refine ai (aZ (TW.tv (jd (bV (bA (b:=false) MS.isinstance MS.tuple Vh `g kN)) (λ_=>jk (bV (bA (b:=true) MS.isinstance M.list Ve `g kN))))) (λ_=>?_) `aD);refine ai (aZ (TW.tv (jd (ay vM (bA (b:=false) MS.isinstance MS.tuple Vh `e kN) (bA (b:=false) MS.isinstance MS.tuple Vh `g kN)) (λ_=>jk (ay vM (bA (b:=true) MS.isinstance M.list Ve `e kN) (bA (b:=true) MS.isinstance M.list Ve `g kN))))) `aD (λ_=>aH ?_));refine ai (aZ (ay Fz (eo M.len (EV.lP (xs:=xs) `e)) (eo M.len (EV.lP (xs:=xs) `g))) (λh=>XS h `d) (λ_=>aH ?_));refine bG (N1:=λZ=>∃e2 e3,Z=[.im au (.lst xs),.im au (.lst xs),e2,e3]) (bO (r:=dO au au) (λi Z=>∃e2 e3,Z=[.im au (.lst xs),.im au (.lst xs),e2,e3]) (Br M.zip (EV.lP (xs:=xs) `e) (EV.lP (xs:=xs) `g)) (eQ 2 3) ⟨_,_,rfl⟩ (λi y Z hy hΓ=>?_) (λZ hΓ=>hΓ)) ?_
   ·let⟨e2,e3,rfl⟩:=hΓ;let⟨h1,h2⟩:=vV hy;rw[h2];have:=iu h1;exact aj (aZ (gj (bV (aB CS hr (ag `s (ag `q ax)) ⟨y.1,rfl,`a,qW ho h1,rfl⟩))) `aD (λ_=>aH ⟨_,_,rfl⟩))
   rintro _ ⟨e2,e3,rfl⟩;exact aj (aY m7 rfl)
theorem Hm (M:`aY)(MS:sX mg)(F:dw K "_law_same" "_law_same" Hl f fd)(hm:mg "_law_same"∣.ref f)(hb:be K fd LV []):∀n,aD P w K mg base "_law_same" (n+1) (aP (D3 n) K)
 | 0=>C7 M MS (λm h=>XS h `a) F hm hb
 | n+1=>C7 M MS (λm h=>by cases h;exact Hm M MS F hm hb n) F hm hb
mutual
noncomputable def dB (ns:RS):Th->Int->Th×Int
 | .Yq _,k=>(.Yq (Yb (aL ns (k+1))),k+1)
 | .call j,k=>(.call j,k)
 | .leave,k=>(.leave,k)
 | .back,k=>(.back,k)
 | .X9 _ a,k=>(.X9 (Yb (aL ns (k+1))) (Ya ns a (k+1)).1,(Ya ns a (k+1)).2)
 | .ifs _ a b,k=>(.ifs (Yb (aL ns ((Ya ns a k).2+1))) (Ya ns a k).1 (Ya ns b ((Ya ns a k).2+1)).1,(Ya ns b ((Ya ns a k).2+1)).2)
noncomputable def Ya (ns:RS):List Th->Int->List Th×Int
 | [],k=>([],k)
 | t::ts,k=>((dB ns t k).1::(Ya ns ts (dB ns t k).2).1,(Ya ns ts (dB ns t k).2).2)
end
theorem vg (ns:RS):∀(ts:`N)(t:Th)(k:Int),Ya ns (ts++[t]) k=((Ya ns ts k).1++[(dB ns t (Ya ns ts k).2).1],(dB ns t (Ya ns ts k).2).2)
 | [],t,k=>by rw[To,Ya,Ya,Ya];rfl
 | u::ts,t,k=>by rw[Tz,Ya,vg ns ts t,Ya];rfl
mutual
theorem L0 (ns:RS):∀(t:Th)(k:Int),k<=(dB ns t k).2/\(dB ns t k).2<=k+(Yp t:Int)
 | .Yq x,k=>by rw[dB,Yp];show k<=k+1/\k+1<=_;cbv
 | .call j,k=>by rw[dB,Yp];show k<=k/\k<=_;cbv
 | .leave,k=>by rw[dB];show k<=k/\k<=_;cbv
 | .back,k=>by rw[dB];show k<=k/\k<=_;cbv
 | .X9 x a,k=>by
   have:=lg ns a (k+1);rw[dB,Yp];dsimp only;cbv
 | .ifs x a b,k=>by
   have:=lg ns a k;have:=lg ns b ((Ya ns a k).2+1);rw[dB,Yp];dsimp only;cbv
theorem lg (ns:RS):∀(ts:`N)(k:Int),k<=(Ya ns ts k).2/\(Ya ns ts k).2<=k+(Yk ts:Int)
 | [],k=>by rw[Ya,Yk];show k<=k/\k<=_;cbv
 | t::ts,k=>by
   have:=L0 ns t k;have:=lg ns ts (dB ns t k).2;rw[Ya,Yk];dsimp only;cbv
end
variable {x:Str}
section
variable {y:Str}
def nl (r:nB):Str×Int×Int×Int:=(r.1,r.2.2)
structure qE (t u:Th):Prop where
 rw:Yp u=Yp t
 dp:eM u=eM t
 ps:dF u=dF t
 nr:fJ u=fJ t
 bk:oo u=oo t
 en:∀(ts us:`N)(k bh lp:Int),jH (u::us) k bh lp=jH (t::ts) k bh lp
 ro:∀k af lp:Int,(dP u k af lp).map nl=(dP t k af lp).map nl
 ok:∀(lo m:Int)(lp:Bool),bU lo m lp t->bU lo m lp u
 cl:∀j,t= .call j->u= .call j
structure l7 (ts us:`N):Prop where
 rw:Yk us=Yk ts
 dp:dc us=dc ts
 ps:c6 us=c6 ts
 nr:fX us=fX ts
 en:∀k bh lp:Int,jH us k bh lp=jH ts k bh lp
 ro:∀k bh lp:Int,(fb us k bh lp).map nl=(fb ts k bh lp).map nl
 ok:∀(lo m:Int)(lp:Bool),bK lo m lp ts->bK lo m lp us
 cl:∀j,Th.call j∈ts->Th.call j∈us
 ni:ts=[]->us=[]
 hd:gH ts->gH us
theorem qE.same (t:Th)(h:∀(ts us:`N)(k bh lp:Int),jH (t::us) k bh lp=jH (t::ts) k bh lp):qE t t:=⟨rfl,rfl,rfl,rfl,rfl,h,λ_ _ _=>rfl,λ_ _ _ h=>h,λ_ h=>h⟩
theorem l7.nil:l7 [] []:=⟨rfl,rfl,rfl,rfl,λ_ _ _=>rfl,λ_ _ _=>rfl,λ_ _ _ h=>h,λ_ h=>h,λh=>h,λh=>h⟩
theorem l7.cons {t u:Th}{ts us:`N}(h:qE t u)(H:l7 ts us):l7 (t::ts) (u::us):=by
 refine⟨by rw[Yk,Yk,h.rw,H.rw],by rw[dc,dc,h.dp,H.dp],by rw[c6,c6,h.ps,H.ps],by rw[fX,fX,h.nr,H.nr],h.en ts us,λk bh lp=>?_,λlo m lp hk=>?_,λj hj=>?_,`aL,λ⟨x,xs,e,hb⟩=>?_⟩
 ·rw[fb,fb,SN,SN,h.nr,H.en,h.ro,H.ro]
 ·simp only[bK] at hk ⊢;exact⟨h.ok _ _ _ hk.1,by rw[h.ps];exact hk.2.1.imp id H.ni,H.ok _ _ _ hk.2.2⟩
 ·obtain e | e:=SF.mp hj
  ·rw[h.cl j e.symm];exact Sz
  ·exact Sv _ (H.cl j e)
 ·cases e
  exact⟨u,us,rfl,h.bk.trans hb⟩
theorem qE.Yq (hy:cD y):qE (.Yq x) (.Yq y):=⟨by rw[Yp,Yp],by simp only[eM],by simp only[dF],by rw[fJ,fJ],rfl,λ_ _ _ _ _=>rfl,λ_ _ _=>by rw[dP,dP];rfl,λ_ _ _ _=>by simp only[bU];exact hy,λ_ h=>by cases h⟩
theorem qE.X9 {a b:`N}(hy:cD y)(h:l7 a b):qE (.X9 x a) (.X9 y b):=⟨by rw[Yp,Yp,h.rw],by simp only[eM,h.dp],by simp only[dF],by rw[fJ,fJ,h.nr],rfl,λ_ _ _ _ _=>rfl,λ_ _ _=>by rw[dP,dP,SN,SN,h.ro,h.en];rfl,λ_ _ _ k=>by simp only[bU] at k ⊢;exact⟨hy,h.ok _ _ _ k.2⟩,λ_ h=>by cases h⟩
theorem qE.ifs {a b c d:`N}(hy:cD y)(h:l7 a b)(g:l7 c d):qE (.ifs x a c) (.ifs y b d):=⟨by rw[Yp,Yp,h.rw,g.rw],by simp only[eM,h.dp,g.dp],by simp only[dF,h.ps,g.ps],by rw[fJ,fJ,h.nr,g.nr],rfl,λ_ _ _ _ _=>rfl,λ_ _ _=>by simp only[dP,SN,h.ro,g.ro,h.en,g.en,h.nr];rfl,λ_ _ _ k=>by simp only[bU] at k ⊢;exact⟨hy,h.ok _ _ _ k.2.1,g.ok _ _ _ k.2.2⟩,λ_ h=>by cases h⟩
mutual
theorem ND (ns:RS):∀(t:Th)(k:Int),qE t (dB ns t k).1
 | .Yq x,k=>by rw[dB];exact .Yq (fD _)
 | .call j,k=>by rw[dB];exact .same _ λ_ _ _ _ _=>rfl
 | .leave,k=>by rw[dB];exact .same _ λ_ _ _ _ _=>rfl
 | .back,k=>by rw[dB];exact .same _ λ_ _ _ _ _=>rfl
 | .X9 x a,k=>by rw[dB];exact .X9 (fD _) (tR ns a _)
 | .ifs x a b,k=>by rw[dB];exact .ifs (fD _) (tR ns a _) (tR ns b _)
theorem tR (ns:RS):∀(ts:`N)(k:Int),l7 ts (Ya ns ts k).1
 | [],k=>by rw[Ya];exact .nil
 | t::ts,k=>by rw[Ya];exact .cons (ND ns t _) (tR ns ts _)
end
end
noncomputable def kR (ns:RS)(Ls:`A)(k:Int):Nat->Int
 | 0=>k
 | i+1=>(Ya ns (Ls.getD i []) (kR ns Ls k i)).2
def zR (ns:RS)(Ls:`A)(k:Int)(i:Nat):List Th:=(Ya ns (Ls.getD i []) (kR ns Ls k i)).1
noncomputable def ZM (ns:RS)(Ls:`A)(k:Int):List (List Th):=(SQ Ls.length).map (zR ns Ls k)
theorem IU (ns:RS)(Ls:`A)(k:Int)(j:Nat):l7 (Ls.getD j []) ((ZM ns Ls k).getD j []):=by
 unfold ZM;rw[Sr (l:=List.map _ _),Sw];obtain h | h:=UP j Ls.length
 ·rw[Ti h];exact tR ns _ _
 ·rw[SY (by rw[Te];exact h),Sr,SY h];exact .nil
theorem Fg (ns:RS)(Ls:`A)(k:Int):(ZM ns Ls k).length=Ls.length:=by unfold ZM;rw[Ss,Te]
theorem Gx {ns:RS}{Ls:`A}{k:Int}(h:∀L∈Ls,Yk L<=14):∀i:Nat,k<=kR ns Ls k i/\kR ns Ls k i<=k+14*(i:Int)
 | 0=>by show k<=k/\k<=_;cbv
 | i+1=>by
   let ih:=Gx h (ns:=ns) (k:=k) i;have:=lg ns (Ls.getD i []) (kR ns Ls k i);have:Yk (Ls.getD i [])<=14:=by
    rw[Sr];cases e:Ls[i]? with
    | none=>show Yk []<=14;rw[Yk];cbv
    | some L=>exact h L (SD e)
   rw[kR];push_cast;cbv
variable {j:Nat}{X0:RU}
section
variable {Ms:`A}(hl:Ms.length=Ls.length)(hs:∀j,l7 (Ls.getD j []) (Ms.getD j []))
theorem getD_some (h:Ls[j]?∣L):Ls.getD j []=L:=by rw[Sr,h];rfl
include hl hs
theorem r8 {M:`N}(h:Ms[j]?∣M):∃L,Ls[j]?∣L/\l7 L M:=by
 let hj:j<Ls.length:=by rw[← hl];exact(Sn.mp h).1
 let e:=So hj;have:=hs j;rw[getD_some e,getD_some h] at this;exact⟨_,e,this⟩
theorem Pa (h:Ls[j]?∣L):∃M,Ms[j]?∣M/\l7 L M:=by
 let hj:j<Ms.length:=by rw[hl];exact(Sn.mp h).1
 let e:=So hj;have:=hs j;rw[getD_some e,getD_some h] at this;exact⟨_,e,this⟩
theorem BU {g:List Th->α}(hg:∀L M,l7 L M->g M=g L):Ms.map g=Ls.map g:=by
 refine Tr λj=>?_;rw[Sw,Sw];cases e:Ms[j]? with
 | none=>rw[SY (by rw[← hl];exact List.getElem?_eq_none_iff.mp e)]
 | some M=>
   let⟨L,h1,h2⟩:=r8 hl hs e;rw[h1];exact congrArg some (hg L M h2)
theorem K5 (j:Nat):Yr Ms j=Yr Ls j:=by
 unfold Yr;rw[← map_take.symm,← map_take.symm,BU hl hs λL M h=>h.nr]
theorem K9 (j:Nat):(bX Ms j).map nl=(bX Ls j).map nl:=by
 unfold bX;rw[K5 hl hs];exact(hs j).ro _ _ _
theorem He (j:Nat):iV Ms j=iV Ls j:=by
 let key:∀(rs:List nB)(F:R7),rs.foldl `ac F=(rs.map nl).foldl (λF r=>iX F r.2.1 r.2.2.1) F:=λrs F=>by rw[List.foldl_map];rfl
 unfold iV;rw[key,key,K9 hl hs,K5 hl hs]
theorem Ma:YG Ms=YG Ls:=by
 let key:∀(j:Nat)(F:R7)(rs:List nB),rs.map (oX j F)=(rs.map nl).map λr=>((j:Int),(bq F r.2.1).getD 0,(bq F r.2.2.1).getD 0,r.2.2.2):=λj F rs=>by rw[Tp];rfl
 unfold YG;rw[hl];refine Vd (TK λj _=>by rw[He hl hs]) ?_;dsimp only;congr 1;funext j;rw[key,key,K9 hl hs,He hl hs]
theorem NT {called:RU}(h:`aJ)(l:called.length=Ls.length)(nm:∀x∈called,cD x)(nd:called.Nodup):cv called Ms:=by
 refine⟨l.trans hl.symm,by rw[hl];exact h.l1,by rw[hl];exact h.l4,nm,nd,λp M hM=>?_,λM hM=>?_,λM hM=>?_,λM hM=>?_,by rw[BU hl hs λL M h=>h.rw];exact h.tot,λj h1 h2=>?_⟩
 ·let⟨L,h1,h2⟩:=r8 hl hs hM;rw[hl];exact h2.ok _ _ _ (h.ok p L h1)
 ·let⟨j,hj⟩:=SO.mp hM;let⟨L,h1,h2⟩:=r8 hl hs hj;rw[h2.dp];exact h.dp L (SD h1)
 ·let⟨j,hj⟩:=SO.mp hM;let⟨L,h1,h2⟩:=r8 hl hs hj;exact h2.hd (h.hd L (SD h1))
 ·let⟨j,hj⟩:=SO.mp hM;let⟨L,h1,h2⟩:=r8 hl hs hj;rw[h2.rw];exact h.rw L (SD h1)
 ·let⟨L,hL,hc⟩:=h.cl j h1 (by rw[← hl];exact h2);let⟨n,hn⟩:=SO.mp hL;let⟨M,m1,m2⟩:=Pa hl hs hn;exact⟨M,SD m1,m2.cl _ hc⟩
end
theorem BK {lo m:Int}:∀{ts:`N}{lp:Bool},bK lo m lp ts->ts.length<=Yk ts+1
 | [],_,_=>UL _
 | t::ts,lp,h=>by
   simp only[bK] at h;rw[SE,Yk];obtain hp | rfl:=h.2.1
   ·let ih:=BK h.2.2;have:1<=Yp t:=by cases t<;>simp[Yp,dF] at hp ⊢<;>cbv
    cbv
   ·show 0+1<=_;cbv
variable {s:Addr}{ns:RS}
theorem LG (CM:aD P w K mg base "_law_mixed" 1 (aP Hr K))(Df:Def K mg "_law_pull" Ly ["_law_pen"])(r0:Rep RS)(h0:∀{K:Xt}{R:Hp}{v:V}{y:RS},r0.R K R v y->ck.R K R v y):aD P w K mg base "_law_pull" 2 (fR (oa r0 ah) tP K):=by
 let nd:=MT.nd;refine Ie (Sc:=MT) Df (λf X6 A outer s H E a xs qs T _ hr hS=>?_);let⟨ns,k,c,rfl,rfl,hs,k0,k1,rfl⟩:=hS;refine ai (eG 0 (j:=1) (EV.inr (bZ (EV.qL (dI 0 ac rfl (y:=(Sum.inr k:RS ⊕ Int)) rfl)) ac)) ac rfl rfl rfl ?_);exact aj (Kj 0 (aB CM hr (ag ((EV.ofl (dI 0 ac rfl (y:=(Sum.inl ns:RS ⊕ Int)) rfl)).re λK R v e=>h0 e) (ag (EV.qL (dI 0 ac rfl (y:=(Sum.inr (k+1):RS ⊕ Int)) rfl)) ax)) ⟨ns,k+1,rfl,hs,`a,`a,rfl⟩) rfl ⟨rfl,rfl⟩)
abbrev gU (s:Addr):Rep (RS ⊕ Int):=oa (uq s ck) ah
theorem uw {k c:Int}(R:Hp)(ws:`K)(h:PySem.Paired ((gU s).R K R) ws (bw ns k c)):ws=[.ref s,.int k,.int c]/\ck.R K R (.ref s) ns:=by
 cases h with
 | cons a1 t1=>cases t1 with
   | cons a2 t2=>cases t2 with
     | cons a3 t3=>
       cases t3
       let⟨e1,h1⟩:=(a1:(uq s ck).R K R _ ns);let e2:_=V.int k:=a2;let e3:_=V.int c:=a3;subst e1 e2 e3;exact⟨rfl,h1⟩
theorem pZ {k c:Int}(R:Hp)(ws:`K)(h:PySem.Paired ((gU s).R K R) ws (bw ns k c)):∃s k' rest,ws= .ref s:: .int k'::rest:=⟨_,_,_,(uw R ws h).1⟩
abbrev Hj:Stmt:=top r6
abbrev nRN:RU:=["_law_items","_law_pen","_law_told","_law_one","_law_first"]
theorem Eg:bD nRN ["_law_items","_law_pen"] (ao Hj):=Zf
def JM (n:Nat):jt (RS ⊕ Int):=λK xs ps T=>∃(ns:RS)(ts:`N)(k c lo m:Int)(lp:Bool),xs=bw ns k c/\ps=[⟨ae au,ba ts⟩]/\dc ts<n/\bK lo m lp ts/\Yk ts<=100/\xm ns/\0<=k/\k+(Yk ts:Int)<=10000/\T=λxs'=>uh λy=>xs'=bw ns (Ya ns ts k).2 c/\y= .lst (ba (Ya ns ts k).1)
theorem NY (M:`aY){s0:Addr}(CP:aD P w K mg base "_law_pull" 2 (fR (gU s0) tP K))(CN:`aw)(F:dw K "_law_renamed" "_law_renamed" Hj f fd)(hm:mg "_law_renamed"∣.ref f)(hb:be K fd ["_law_items","_law_pen"] []):∀n:Nat,aD P w K mg base "_law_renamed" (n+3) (vX (gU s0) (JM n) K):=by
 intro n;let nd:=Eg.nd
 induction n with
 | zero=>
   refine zM F Eg hm hb (λxs qs T ⟨_,_,_,_,_,_,_,_,e,_⟩=>by rw[e];rfl) (λX6 A outer s H E a xs q0 qs T hr hS=>?_);let⟨ns,ts,k,c,lo,m,lp,_,_,h,_⟩:=hS;exact XS h (U4 _)
 | succ n ih=>
   let CP:=CP.mono (show 2<=n+3 by cbv);let CN:=CN.mono (show 1<=n+3 by cbv);refine zM F Eg hm hb (λxs qs T ⟨_,_,_,_,_,_,_,_,e,_⟩=>by rw[e];rfl) (λX6 A outer s H E a xs q0 qs T hr hS=>?_);let⟨ns,ts,k,c,lo,m,lp,rfl,e,hd,X8,hrw,hs,k0,k1,rfl⟩:=hS;cases e
   refine ai (ng 2 (y:=.lst []) (bc.qA `aE rfl) λf2=>?_);refine bG (N1:=λZ=>∃e3 e4 fp,Z=[.im (ae au) (ba ts),.ob (aF a (gU s0) (bw ns (Ya ns ts k).2 c)),.ob (fV (.lst (ba (Ya ns ts k).1)) fp),e3,e4]) (bO (r:=au) (λi Z=>∃e3 e4 fp,Z=[.im (ae au) (ba ts),.ob (aF a (gU s0) (bw ns (Ya ns `ar k).2 c)),.ob (fV (.lst (ba (Ya ns `ar k).1)) fp),e3,e4]) (bM `e) (aU 3) ⟨_,_,f2,by rw[TZ,Ya,ba];rfl⟩ (λi x Z hx hΓ=>?_) `R) ?_
   ·let⟨e3,e4,fp,rfl⟩:=hΓ;rw[eP,Sw] at hx;let⟨t,ht,rfl⟩:=U9.mp hx;let tm:=SD ht;let tok:=uO X8 tm;let tdp:=nC tm;let trw:=xl tm;let il:=(Sn.mp ht).1;let tl:=BK X8;let ZJ:Yk ts=Yk `ar+Yp t+Yk (ts.drop (i+1)):=by
     let h1:=ju `ar (ts.drop i);rw[TL,TC il,(Sn.mp ht).2,Yk] at h1;cbv
    let kb:=lg ns `ar k;let Y8:Ya ns (ts.take (i+1)) k=((Ya ns `ar k).1++[(dB ns t (Ya ns `ar k).2).1],(dB ns t (Ya ns `ar k).2).2):=by rw[S9,ht];exact vg ns _ t k
    rw[Y8];let ul:(ba (Ya ns `ar k).1).length<Vn:=by
     have:∀(us:`N)(k:Int),(Ya ns us k).1.length=us.length:=λus=>by
      induction us with
      | nil=>intro k;rw[Ya]
      | cons u us ih=>intro k;rw[Ya];exact congrArg (· + 1) (ih _)
     rw[iK,this,SW];exact UM (show _<=200 by cbv) `c
    dsimp only;generalize Ya ns `ar k=r at kb ul;let⟨us,kk⟩:=r;dsimp only at kb ul ⊢;let app:∀u,ba (us++[u])=ba us++[fI u]:=λu=>by rw[zO,ba,ba]
    rw[app];change WS _ _ [.im (ae au) (ba ts),.ob (aF a (gU s0) (bw ns kk c)),.ob (fV (.lst (ba us)) fp),.im au (fI t),e4] _ _;let b1:∀k:Int,0<=aL ns k/\aL ns k<2147483587:=λk=>mG ns k;refine aj (aZ (ay bS (gW `q) aA) (λh=>?_) (λh1=>?_))
    ·let h:dt t="do":=XW h;cases t with
     | Yq x=>
       rw[Yp] at trw;exact aj (oG 2 (z:=fI (.Yq (Yb (aL ns (kk+1))))) (gK.cast (x:=.lst (dC (.Yq (Yb (aL ns (kk+1)))))) (bc.qA (aQ (r:=au) (aq `bq (aq (EV.pS (aB CN hr (ag (dN 1 (st:=bw ns (kk+1) c) (z:=aL ns (kk+1)) CP hr ax rfl ⟨ns,kk,c,rfl,rfl,hs,`a,`a,rfl⟩) ax) ⟨_,rfl,(b1 _).1,(b1 _).2,rfl⟩)) aN)) (by show 2<=Vn;decide)) rfl) (dg _).symm) rfl rfl ul λfp'=>⟨_,e4,fp',by rw[dB];rfl⟩)
     | _=>exact XS h (by simp only[dt];decide)
    let h1:¬dt t="do":=XX h1;refine aj (aZ (ay bS (gW `q) aA) (λh=>?_) (λh2=>?_))
    ·let h:dt t="if":=XW h;cases t with
     | ifs x A B=>
       simp only[bU] at tok;rw[eM] at tdp;rw[Yp] at trw ZJ;let kA:=lg ns A kk;refine ai (ng 4 (kD 1 (st:=bw ns (Ya ns A kk).2 c) (z:=.lst (ba (Ya ns A kk).1)) ih hr (jV `q (xs:=ba A) rfl) rfl ⟨ns,A,kk,c,lo,m,lp,rfl,rfl,`a,tok.2.1,`a,hs,`a,`a,rfl⟩ pZ (lZ _)) λf4=>?_);rw[dB];generalize Ya ns A kk=rA at kA;let⟨A',kA'⟩:=rA;dsimp only at kA ⊢;change WS _ _ [.im (ae au) (ba ts),.ob (aF a (gU s0) (bw ns kA' c)),.ob (fV (.lst (ba us)) fp),.im au (fI (.ifs x A B)),.ob (fV (.lst (ba A')) f4)] _ _;exact aj (oG 2 (z:=fI (.ifs (Yb (aL ns (kA'+1))) A' (Ya ns B (kA'+1)).1)) (gK.cast (x:=.lst (dC (.ifs (Yb (aL ns (kA'+1))) A' (Ya ns B (kA'+1)).1))) (Bz 4 `bq (EV.pS (aB CN hr (ag (dN 1 (st:=bw ns (kA'+1) c) (z:=aL ns (kA'+1)) CP hr ax rfl ⟨ns,kA',c,rfl,rfl,hs,`a,`a,rfl⟩) ax) ⟨_,rfl,(b1 _).1,(b1 _).2,rfl⟩)) (kD 1 (st:=bw ns (Ya ns B (kA'+1)).2 c) (z:=.lst (ba (Ya ns B (kA'+1)).1)) ih hr (jV `q (xs:=ba B) rfl) rfl ⟨ns,B,kA'+1,c,lo,m,lp,rfl,rfl,`a,tok.2.2,`a,hs,`a,`a,rfl⟩ pZ (lZ _)) rfl rfl rfl rfl) (dg _).symm) rfl rfl ul λfp'=>⟨_,.no,fp',rfl⟩)
     | _=>exact XS h (by simp only[dt];decide)
    let h2:¬dt t="if":=XX h2;refine aj (aZ (ay bS (gW `q) aA) (λh=>?_) (λh3=>?_))
    ·let h:dt t="while":=XW h;cases t with
     | X9 x A=>
       simp only[bU] at tok;rw[eM] at tdp;rw[Yp] at trw ZJ;rw[dB];exact aj (oG 2 (z:=fI (.X9 (Yb (aL ns (kk+1))) (Ya ns A (kk+1)).1)) (gK.cast (x:=.lst (dC (.X9 (Yb (aL ns (kk+1))) (Ya ns A (kk+1)).1))) (Dn `bq (EV.pS (aB CN hr (ag (dN 1 (st:=bw ns (kk+1) c) (z:=aL ns (kk+1)) CP hr ax rfl ⟨ns,kk,c,rfl,rfl,hs,`a,`a,rfl⟩) ax) ⟨_,rfl,(b1 _).1,(b1 _).2,rfl⟩)) (kD 1 (st:=bw ns (Ya ns A (kk+1)).2 c) (z:=.lst (ba (Ya ns A (kk+1)).1)) ih hr (jV `q (xs:=ba A) rfl) rfl ⟨ns,A,kk+1,c,lo,m,true,rfl,rfl,`a,tok.2,`a,hs,`a,`a,rfl⟩ pZ (lZ _)) rfl rfl) (dg _).symm) rfl rfl ul λfp'=>⟨_,e4,fp',rfl⟩)
     | _=>exact XS h (by simp only[dt];decide)
    let h3:¬dt t="while":=XX h3;let ew:dB ns t kk=(t,kk)/\(dC t).all jQ=true:=by
     cases t with
     | Yq x=>exact XS rfl h1
     | ifs x a b=>exact XS rfl h2
     | X9 x a=>exact XS rfl h3
     | call j=>exact⟨by rw[dB],rfl⟩
     | leave=>exact⟨by rw[dB],rfl⟩
     | back=>exact⟨by rw[dB],rfl⟩
    rw[ew.1,dg];exact aj (oG 2 (bc.qA (qO M.list (EV.lP `q)) ew.2) rfl rfl ul λfp'=>⟨_,e4,fp',rfl⟩)
   ·let⟨e3,e4,fp,rfl⟩:=hΓ;rw[iK,Td];exact⟨e3,e4,fp,rfl⟩
   rintro _ ⟨e3,e4,fp,rfl⟩;exact aj (iT 1 (tY 2 rfl) rfl ⟨rfl,rfl⟩)
theorem Md (M:`aY)(CG:∀r0:Rep RS,(∀{K:Xt}{R:Hp}{v:V}{y:RS},r0.R K R v y->ck.R K R v y)->aD P w K mg base "_law_pull" 2 (fR (oa r0 ah) tP K))(CN:`aw)(F:dw K "_law_renamed" "_law_renamed" Hj f fd)(hm:mg "_law_renamed"∣.ref f)(hb:be K fd ["_law_items","_law_pen"] [])(s0:Addr):aD P w K mg base "_law_renamed" 8 (vX (gU s0) (JM 5) K):=NY M (CG _ λh=>h.2) CN F hm hb 5
theorem qY {n:Nat}:∀{xs:`aP},(∀x∈xs,x.deep<=n)->PV.jL xs<=n
 | [],_=>by rw[PV.jL];exact UL _
 | x::xs,h=>by
   rw[PV.jL];let h1:=h x Sz;let h2:=qY (xs:=xs) λy hy=>h y (Sv _ hy);cbv
theorem ot (n:Int):(PV.int n).deep<=0:=by simp[PV.deep]
theorem xO (x:Str):(PV.str x).deep<=0:=by simp[PV.deep]
theorem lE {f:α->PV}(h:∀x,(f x).deep<=n):(PV.lst (xs.map f)).deep<=n+1:=by
 rw[PV.deep];exact Nat.add_le_add_right (qY λy hy=>by let⟨x,_,rfl⟩:=SU.mp hy;exact h x) 1
theorem lI {xs:`aP}(h:∀x∈xs,x.deep<=n):(PV.tup xs).deep<=n+1:=by
 rw[PV.deep];exact Nat.add_le_add_right (qY h) 1
theorem uD {x:PV}{m:Nat}(h:x.deep<=n)(hm:n<=m):x.deep<=m:=UK h hm
theorem FU (v:gq):(AO v).deep<=3:=lI (n:=2) λx hx=>by
 obtain rfl | hx:=SF.mp hx
 ·exact uD (lE ot) `c
 ·rw[Su.mp hx];exact lE (n:=1) λr=>lI (n:=0) λy hy=>by
   simp only[SF,Tc,or_false] at hy;rcases hy with rfl | rfl | rfl | rfl<;>exact ot _
theorem Jl (x:Wk):(yO x).deep<=3:=lI (n:=2) λy hy=>by
 simp only[SF,Tc,or_false] at hy;obtain rfl | rfl | rfl:=hy
 ·exact uD (lE ot) `c
 ·exact uD (xO _) `c
 ·exact lE (n:=1) λt=>lI (n:=0) λy hy=>by
   simp only[SF,Tc,or_false] at hy;rcases hy with rfl | rfl<;>exact ot _
theorem Jg (xs:List (Str×Str)):(PV.lst (xs.map gb)).deep<=2:=lE (n:=1) λt=>lI (n:=0) λy hy=>by
 simp only[SF,Tc,or_false] at hy;rcases hy with rfl | rfl<;>exact xO _
theorem IT (h:`aJ)(hj:j<Ls.length){r:nB}(hr:r∈bX Ls j)(hc:r.1="call"):0<=r.2.2.2.2/\r.2.2.2.2<(X0.length:Int):=by
 let⟨z,hz,ez⟩:=qm h hj;rw[← lT h hz] at hr;let⟨r0,h0,rfl⟩:=SU.mp hr;let hc:r0.2.2.1="call":=hc;let hm:=(nM h).cl r0 (qr h hz h0) hc;let hpn:(bJ X0 Ls).parts.map (·.1)=X0:=pV h;rw[hpn] at hm;have:=(Sn.mp (nj hm).1).1;show 0<=(if r0.2.2.1="call" then(YO X0 r0.2.2.2:Int) else -1)/\(if r0.2.2.1="call" then(YO X0 r0.2.2.2:Int) else -1)<_;rw[XU hc];cbv
theorem IE (h:`aJ):(je X0 Ls).length<=30:=by
 rw[← ua h,Ss];exact(nJ h).2.rl
noncomputable def Zy (X0:RU)(Ls:`A)(i:Nat):List (Str×Str):=(SQ i).flatMap λj=>(bX Ls j).map (oA X0)
theorem HK (X0:RU)(Ls:`A)(hi:i<=Ls.length):(Zy X0 Ls i).length<=(je X0 Ls).length:=by
 unfold Zy je;obtain⟨d,hd⟩:∃d,Ls.length=i+d:=⟨Ls.length-i,`a⟩;rw[hd,List.range_add,T4,Sx];cbv
variable {C:Addr}
section
variable {D:Addr}
abbrev P6:Stmt:=top vI
abbrev nNS:RU:=["_law_names_here","_law_mapped_here","_law_told","_law_rows_here","_law_known","_law_word","_law_name_here","_law_one","_law_other","_law_calls"]
abbrev pNS:RU:=["_law_names_here","_law_mapped_here"]
noncomputable def P0:c9:=λK ps T=>∃(X0:RU)(Ls:`A),ps=[⟨ae ak,X0⟩,⟨ae gF,iq Ls⟩]/\cv X0 Ls/\T=cq K (ae au) (· =(je X0 Ls).map gb)
theorem Oe (Df:Def K mg "_law_names" P6 pNS):aD P w K mg base "_law_names" 1 (aP P0 K):=by
 refine bP (N:=nNS) (k:=0) Df `n;let⟨X0,Ls,rfl,hP,rfl⟩:=hS;let n30:=IE hP;refine ai (cF 2 (r:=au) (ys:=[]) `aE ?_);refine bG (N1:=λZ=>∃e3 e4 e5 e6 e7 e8 e9,Z=[.im (ae ak) X0,.im (ae gF) (iq Ls),.mu au ((je X0 Ls).map gb),e3,e4,e5,e6,e7,e8,e9]) (bO (r:=gF) (λi Z=>∃e3 e4 e5 e6 e7 e8 e9,Z=[.im (ae ak) X0,.im (ae gF) (iq Ls),.mu au ((Zy X0 Ls i).map gb),e3,e4,e5,e6,e7,e8,e9]) (bM `g) (eQ 3 4) ⟨_,_,_,_,_,_,_,rfl⟩ (λi y Z hy hΓ=>?_) `R) ?_
 ·let⟨e3,e4,e5,e6,e7,e8,e9,rfl⟩:=hΓ;unfold iq at hy;rw[Sw] at hy;let⟨j,hj,rfl⟩:=U9.mp hy;let il:i<Ls.length:=by have:=(Sn.mp hj).1;rwa [Te] at this
  let ej:j=i:=by rw[Ti il] at hj;exact(Option.some.inj hj).symm
  subst ej;let nx:Zy X0 Ls (j+1)=Zy X0 Ls j++(bX Ls j).map (oA X0):=by
   unfold Zy;rw[Ua,T4,Uw]
  let n30':(Zy X0 Ls j).length+(bX Ls j).length<=30:=by
   have:=HK X0 Ls (i:=j+1) il;rw[nx,Sx,Ss] at this;cbv
  rw[nx];generalize Zy X0 Ls j=ys at n30';change WS _ _ [.im (ae ak) X0,.im (ae gF) (iq Ls),.mu au (ys.map gb),.im (ae pG) (bX Ls j),.im h9 (iV Ls j),e5,e6,e7,e8,e9] _ _;refine aj (bO (r:=pG) (λk Z=>∃e5 e6 e7 e8 e9,Z=[.im (ae ak) X0,.im (ae gF) (iq Ls),.mu au ((ys++((bX Ls j).take k).map (oA X0)).map gb),.im (ae pG) (bX Ls j),.im h9 (iV Ls j),e5,e6,e7,e8,e9]) (bM `q) (G7 5 6 7 8 9) ⟨_,_,_,_,_,by rw[TZ,Uk,S3]⟩ (λk r Z Y7 hΓ=>?_) `R)
  ·let⟨e5,e6,e7,e8,e9,rfl⟩:=hΓ;let kl:=(Sn.mp Y7).1;let cx:=IT hP il (SD Y7);let nx:(ys++((bX Ls j).take (k+1)).map (oA X0)).map gb=(ys++((bX Ls j).take k).map (oA X0)).map gb++[gb (oA X0 r)]:=by
    rw[S9,Y7];simp only[SN,SR,Option.toList,Ta,Uk]
   rw[nx];let yl:((ys++((bX Ls j).take k).map (oA X0)).map gb).length<=30:=by
    rw[Ss,Sx,Ss,SW];cbv
   generalize (ys++((bX Ls j).take k).map (oA X0)).map gb=us at yl;let⟨wd,nm,o1,o2,cl⟩:=r;change WS _ _ [.im (ae ak) X0,.im (ae gF) (iq Ls),.mu au us,.im (ae pG) (bX Ls j),.im h9 (iV Ls j),.im ak wd,.im ak nm,aE o1,aE o2,aE cl] _ _;refine bG (N1:=λZ=>Z=[.im (ae ak) X0,.im (ae gF) (iq Ls),.mu au us,.im (ae pG) (bX Ls j),.im h9 (iV Ls j),.im ak wd,.im ak (if wd="call" then X0.getD cl.toNat "" else nm),aE o1,aE o2,aE cl]) (aZ (ay bS `Y aA) (λh=>?_) `Q) ?_
   ·let h:wd="call":=XW h;let⟨c0,c1⟩:=cx h;refine aj (bo 6 (r:=ak) (y:=X0.getD cl.toNat "") (a9 `e (aa 9 rfl) (bb (xs:=X0) (i:=cl) "" c0 c1)) ?_);rw[XU h];rfl
   ·let h:¬wd="call":=XX h;rw[XT h]
   rintro _ rfl;exact aj (eU 2 (r:=au) (y:=gb (oA X0 (wd,nm,o1,o2,cl))) (gB (aq (EV.pS `Y) (aq (EV.pS `au) aN)) (by show 2<=Vn;decide)) rfl rfl (UM yl `c) ⟨_,_,_,_,_,rfl⟩)
  ·let⟨e5,e6,e7,e8,e9,rfl⟩:=hΓ;rw[Td];exact⟨_,_,_,_,_,_,_,rfl⟩
 ·let⟨e3,e4,e5,e6,e7,e8,e9,rfl⟩:=hΓ;rw[show(iq Ls).length=Ls.length by unfold iq;rw[Ss,Te]];exact⟨_,_,_,_,_,_,_,rfl⟩
 rintro _ ⟨e3,e4,e5,e6,e7,e8,e9,rfl⟩;refine WS.freeze 2 rfl (aM (by rw[Ss];cbv)) ?_;exact aj (aY `s rfl)
abbrev KN:Stmt:=top yJ
noncomputable def Gm:c9:=λK ps T=>∃(x:Str)(S:`M)(Ld:`bn),ps=[⟨ak,x⟩]/\rq x S/\oF S Ld/\Good (Yj S Ld)/\T=cq K (ae au) (· =((Yj S Ld).rows.map λr=>(r.2.2.1,r.2.2.2)).map gb)
noncomputable def Rn:PV->PV
 | .tup [_,_,a,b]=>.tup [a,b]
 | x=>x
theorem Nt (HD:bL K D gf)(CN:aD P w K mg base "need_program" 6 (aP (Mq C D) K))(Df:Def K mg "names_of" KN ["text"]):aD P w K mg base "names_of" 7 (aP Gm K):=by
 let Zs:S6 [("row":Str)]:=`c
 refine bP (N:=["text"]) (k:=6) Df `t;let⟨x,S,Ld,rfl,hx,hk,hG,rfl⟩:=hS;change WS _ _ [.im ak x] _ _;refine aj (aY (bc.im (cI (own:=["row"]) (fr:=[]) (ix:=[]) (ra:=au) (rb:=au) (p:=λ_=>true) (f:=Rn) (bQ (so:=ao KN) (N0:=["text"]) rfl rfl `X `b) (bM (sj (C:=C) HD (aB CN hr `bb ⟨x,S,Ld,rfl,hx,hk,hG,rfl⟩)))
  `D `U `aG (λC' s H ex o ho _=>by
   let⟨r,_,rfl⟩:=SU.mp ho;exact gB (aq (dv `e ac rfl) (aq (dv `e ac rfl) aN)) (by show 2<=Vn;decide)))) ?_)
 rw[Ts.mpr λ_ _=>rfl,Tp,Tp];rfl
end
theorem u5 {v:gq}{ans:RS}{n:Int}(h:n<=2000):(g9 v ans n.toNat st0).1.length<=100000:=by
 let⟨ex,h1,h2⟩:=xt (v:=v) (ans:=ans) n.toNat st0;rw[h1,Sx];show 0+ex.length<=100000;cbv
theorem Lf (xs:List (Str×Str)):oM (.lst (xs.map gb))=true:=by
 rw[oM];refine y9 λx hx=>?_;let⟨y,_,rfl⟩:=SU.mp hx;simp[gb,oM,nS]
abbrev oV:Stmt:=top LU
abbrev Pt:RU:=["_law_script","_law_names_here","_law_lists","_law_pen","_law_others","_law_called","_law_k","_law_name_here","_law_letter","_law_one","_law_other","_law_answers_here","_law_bound"]
theorem LB:bD Pt ["_law_script"] (ao oV):=Zf
def wD:c9:=λK ps T=>∃ns:RS,ps=[⟨ck,ns⟩]/\ns.length<=63/\(∀n∈ns,intBits n<=2 ^ 20)/\T=cq K cU (· =true)
abbrev nt (s0:Addr)(ns:RS)(X0:RU)(a:Addr)(ps:List PT)(b:Addr)(k:Int)(c:Addr)(qs:List PT)(r:Ga):Ga:=.im (uq s0 ck) ns:: .im (ae ak) X0:: .ob `F:: .ob (aF b (gU s0) (bw ns k 0)):: .ob (bp c qs)::r
theorem Nd (M:`aY)(CM:aD P w K mg base "_law_mixed" 1 (aP Hr K))(CG:∀r0:Rep RS,(∀{K:Xt}{R:Hp}{v:V}{y:RS},r0.R K R v y->ck.R K R v y)->aD P w K mg base "_law_pull" 2 (fR (oa r0 ah) tP K))(C1:`aw)(CD:aD P w K mg base "_law_drawn" 17 (aP Pz K))(CT:aD P w K mg base "_law_text" 7 (aP Qh K))(CP:aD P w K mg base "_law_mapped" 7 (Ax K))(CS:aD P w K mg base "_law_names" 1 (aP P0 K))(CE:aD P w K mg base "_law_same" 3 (aP (D3 2) K))(CA:aD P w K mg base "_law_answers" 2 (aP Qd K))(CR:∀s0:Addr,aD P w K mg base "_law_renamed" 8 (vX (gU s0) (JM 5) K))(CN:aD P w K mg base "names_of" 7 (aP Gm K))(CW:aD P w K mg base "web_of" 7 (aP C8 K))(CJ:aD P w K mg base "walked" 8 (aP GX K))(F:dw K "law" "law" oV f fd):eZ P w K mg base d7 18 f fd ["_law_script"] (aP wD K):=by
 let nd:=LB.nd;let Zs:S6 [("_law_items":Str),"_law_pen"]:=`c
 let CM:=CM.mono (show 1<=17 by decide);let C1:=C1.mono (show 1<=17 by decide);let CT:=CT.mono (show 7<=17 by decide);let CP:=CP.mono (show 7<=17 by decide);let CS:=CS.mono (show 1<=17 by decide);let CE:=CE.mono (show 3<=17 by decide);let CA:=CA.mono (show 2<=17 by decide);let CN:=CN.mono (show 7<=17 by decide);let CW:=CW.mono (show 7<=17 by decide);let CJ:=CJ.mono (show 8<=17 by decide);refine LO (k:=17) F LB (λqs T ⟨_,e,_⟩=>by rw[e];rfl) `ag;let⟨ns,rfl,h63,ZE,rfl⟩:=hS;let hs:xm ns:=⟨h63,ZE⟩;let hu:∀n:Nat,n<=64->(A.deeper (Vi "law" (ao oV) ⇑s f X6)).units+n<cLine:=λn hn=>UM (UY hn _) hr.units;change WS _ _ [.im ck ns,.no,.no,.no,.no,.no,.no,.no,.no,.no,.no,.no,.no] _ _;refine WS.adr 0 rfl λs0=>?_;let CG:=(CG (uq s0 ck) λh=>h.2).mono (show 2<=17 by decide);let CR:=(CR s0).mono (show 8<=17 by decide);refine ai (Hy 1 2 (r:=ae ak) (P:=λy L=>y=YU ns 0/\L=(Y4 ns 0).map ba) CD hr (ag (EV.adr `e) (ag ac ax)) ⟨ns,0,rfl,hs,Sl _,`c,rfl⟩ `c (λa y ps hy=>?_));let⟨rfl,YX⟩:=hy;let hP:=JC ns 0;generalize YU ns 0=X0 at hP;generalize Y4 ns 0=Ls at hP YX;let lps:ps.length=Ls.length:=by have:=congrArg List.length YX;rwa [Ss,Ss] at this
 let l4:=hP.l4;let lnm:=hP.l;refine ai (cF 3 (r:=gU s0) (ys:=bw ns 220 0) (aQ (aq (EV.inl `e) (aq (EV.inr ac) (aq (EV.inr ac) aN))) (by show 3<=Vn;decide)) ?_);refine WS.box 3 rfl λb=>?_;let kb:=Gx (ns:=ns) (k:=220) hP.rw;refine ai (Ja 4 2 3 1 (own:=["_law_items"]) (fr:=["_law_pen"]) (ix:=[3]) (λi=>bw ns (kR ns Ls 220 i) 0) (λi=>ba (zR ns Ls 220 i)) (λs=>[.no,.ob (aF b (gU s0) s)]) (bf:=λx Z=>Z.set 0 (.im (ae au) x)) (bQ (so:=ao oV) (N0:=Pt) rfl rfl `X `b) rfl (aM `a) rfl `c (bM `s)
  (λj k h1 h2=>?_) rfl (λs=>rfl) `D (λx s=>⟨.inr rfl,.inl rfl,trivial⟩) (λx s=>rfl) (λx s j e hj q=>?_) (λx s s'=>rfl) (λC s H ex i x hx=>?_) (λR R' ws YK n h1 h2=>?_) (λc qs hq=>?_))
 ·let z:∀n:Nat,([3]:List Nat)[n]?∣3->n=0:=λn h=>by cases n with
   | zero=>rfl
   | succ n=>simp at h
  rw[z j h1,z k h2]
 ·match j,hj,q with
  | 0,_,q=>cases q;trivial
  | 1,hj,_=>exact XS rfl hj
  | j+2,_,q=>simp at q
 ·rw[YX,Sw] at hx;let⟨L,hL,rfl⟩:=U9.mp hx;let hm:=SD hL;let r14:=hP.rw L hm;let il:=(Sn.mp hL).1;let kbi:=kb i;exact kD 1 (st:=bw ns (kR ns Ls 220 (i+1)) 0) (z:=.lst (ba (zR ns Ls 220 i))) CR hr `e rfl ⟨ns,L,kR ns Ls 220 i,0,(i:Int),(Ls.length:Int),false,rfl,rfl,Nat.lt_succ_of_le (hP.dp L hm),hP.ok i L hL,`a,hs,`a,`a,by unfold zR;rw[kR,getD_some hL]⟩ pZ (lZ _)
 ·let⟨rfl,_⟩:=uw R' YK h2;exact .cons ⟨rfl,(uw R ws h1).2⟩ (.cons rfl (.cons rfl .nil))
 let hl:=Fg ns Ls 220;let hsh:=IU ns Ls 220;let hq:qs.map (·.1)=(ZM ns Ls 220).map ba:=by rw[hq,lps];unfold ZM;rw[Tp];rfl
 let kk:=kb ps.length;rw[lps] at kk;change WS _ _ (nt s0 ns X0 a ps b (kR ns Ls 220 ps.length) c qs [.no,.no,.no,.no,.no,.no,.no,.no]) _ _;rw[lps];generalize ZM ns Ls 220=Ms at hl hsh hq;generalize kR ns Ls 220 Ls.length=k at kk;refine ai (cF 5 (r:=ak) (ys:=[]) `aE ?_);refine bG (N1:=λZ=>∃e6 e7 e8,Z=nt s0 ns X0 a ps b (k+(Ls.length:Int)) c qs [.mu ak (Yh ns (k-1) Ls.length),e6,e7,e8,.no,.no,.no,.no]) (bO (λi Z=>∃e6 e7 e8,Z=nt s0 ns X0 a ps b (k+(i:Int)) c qs [.mu ak (Yh ns (k-1) i),e6,e7,e8,.no,.no,.no,.no]) (eh M.range (eo M.len `g) ⟨`a,`a⟩) (aU 6) ⟨_,_,_,by rw[show k+((0:Nat):Int)=k from Int.add_zero _];rfl⟩ (λi j Z hj hΓ=>?_) `R) ?_
 ·let⟨e6,e7,e8,rfl⟩:=hΓ;let⟨jl,ej⟩:=gu hj;obtain rfl:j=(i:Int):=`a
  let bd:=mG ns (k+(i:Int)+1);refine ai (bo 7 (y:=Yb (aL ns (k+(i:Int)+1))) (aB C1 hr (ag (dN 3 (st:=bw ns (k+(i:Int)+1) 0) (z:=aL ns (k+(i:Int)+1)) CG hr ax rfl ⟨ns,_,0,rfl,rfl,hs,`a,`a,rfl⟩) ax) ⟨_,rfl,bd.1,bd.2,rfl⟩) ?_);let hx:=fD (aL ns (k+(i:Int)+1));let he:k+(i:Int)+1=k-1+2+(i:Int):=`a
  let ZA:Yh ns (k-1) (i+1)=Yh ns (k-1) i++[qD (Yh ns (k-1) i) (Yb (aL ns (k+(i:Int)+1)))]:=by rw[Yh,he]
  generalize Yb (aL ns (k+(i:Int)+1))=x at hx ZA;let hlen:=jy ns (k-1) i;let Z1:∀n,cD (((fT g6).take n).foldl (gi (Yh ns (k-1) i)) x):=λn=>l6 hx λc hc=>mK (Ui hc);rw[ZA,show k+((i+1:Nat):Int)=k+(i:Int)+1 by push_cast;cbv];generalize Yh ns (k-1) i=nm at hlen Z1;change WS _ _ (nt s0 ns X0 a ps b (k+(i:Int)+1) c qs [.mu ak nm,aE (i:Int),.im ak x,e8,.no,.no,.no,.no]) _ _;refine bG (N1:=λZ=>∃e8,Z=nt s0 ns X0 a ps b (k+(i:Int)+1) c qs [.mu ak nm,aE (i:Int),.im ak (qD nm x),e8,.no,.no,.no,.no]) (bO (λn Z=>∃e8,Z=nt s0 ns X0 a ps b (k+(i:Int)+1) c qs [.mu ak nm,aE (i:Int),.im ak (((fT g6).take n).foldl (gi nm) x),e8,.no,.no,.no,.no]) (xD (x:=g6) aA `b `b) (aU 8) ⟨_,rfl⟩ (λn c' Z hc hΓ=>?_) `R) ?_
  ·let⟨e8,rfl⟩:=hΓ;let hf:=Z1 n;let YJ:((fT g6).take (n+1)).foldl (gi nm) x=gi nm (((fT g6).take n).foldl (gi nm) x) c':=by
    rw[S9,hc,Tu];rfl
   rw[YJ];generalize ((fT g6).take n).foldl (gi nm) x=z at hf;let cl:=(mK (SD hc)).2;change WS _ _ (nt s0 ns X0 a ps b (k+(i:Int)+1) c qs [.mu ak nm,aE (i:Int),.im ak z,.im ak c',.no,.no,.no,.no]) _ _;refine aj (aZ (TV.YY (B5 (i:=5) rfl (aM (by rw[hlen];cbv))) (ay sL (aa 7 rfl) `Y)) (λh=>?_) (λh=>aH ⟨.im ak c',?_⟩))
   ·let h:z∈nm:=XW h;refine aj (bo 7 (y:=gi nm z c') (EV.cast (pY (DU (aa 7 rfl) hf.l8) (aa 8 rfl) (UK (show _<=8 by have:=rF z;cbv) `c)) (by unfold gi;rw[XU h])) ⟨.im ak c',rfl⟩)
   ·let h:¬z∈nm:=XX h;unfold gi;rw[XT h]
  ·let⟨e8,rfl⟩:=hΓ;exact⟨e8,by rw[Td];rfl⟩
  rintro _ ⟨e8,rfl⟩;exact aj (eU 5 (aa 7 rfl) rfl rfl (UM (show _<=10 by rw[hlen];cbv) `c) ⟨aE (i:Int),.im ak (qD nm x),e8,rfl⟩)
 ·let⟨e6,e7,e8,rfl⟩:=hΓ;rw[bt,Sk,lnm];exact⟨e6,e7,e8,rfl⟩
 rintro _ ⟨e6,e7,e8,rfl⟩;let c1:=jy ns (k-1) Ls.length;let hP2:=NT hl hsh hP c1 (wL ns (k-1) _) (ym ns (k-1) _ l4);generalize Yh ns (k-1) Ls.length=called at c1 hP2;refine WS.freeze 5 rfl (aM `a) ?_;let lqs:qs.length=Ls.length:=by have:=congrArg List.length hq;rwa [Ss,Ss,hl] at this
 change WS _ _ (nt s0 ns X0 a ps b (k+(Ls.length:Int)) c qs [.im (ae ak) called,e6,e7,e8,.no,.no,.no,.no]) _ _;refine ai (bo 9 (r:=ak) (y:=Xj " " (gO X0 Ls)) (EV.YY (G8 (i:=2) rfl (aM `a)) (λ_ _ _ _ _ h=>h) (aB CT hr (ag `g (ag (EV.cast `s YX) ax)) ⟨X0,Ls,rfl,hP,rfl⟩)) ?_);refine ai (bo 10 (r:=ak) (y:=Xj " " (gO called Ms)) (EV.YY (G8 (i:=4) rfl (aM `a)) (λ_ _ _ _ _ h=>h) (aB CT hr (ag `Y (ag (EV.cast `af hq) ax)) ⟨called,Ms,rfl,hP2,rfl⟩)) ?_);let⟨hk,hG⟩:=nJ hP;let⟨Z8,hG2⟩:=nJ hP2;let hx:=zq hP;let hx2:=zq hP2;let w1:=Af hP;let w2:=Af hP2;rw[Ma hl hsh] at w2;let N1:Gm K [⟨ak,Xj " " (gO X0 Ls)⟩] (cq K (ae au) (· =(je X0 Ls).map gb)):=⟨_,_,_,rfl,hx,hk,hG,by rw[← ua hP]⟩;let N2:Gm K [⟨ak,Xj " " (gO called Ms)⟩] (cq K (ae au) (· =(je called Ms).map gb)):=⟨_,_,_,rfl,hx2,Z8,hG2,by rw[← ua hP2]⟩;let W1:C8 K [⟨ak,Xj " " (gO X0 Ls)⟩] (cq K lA (· =YG Ls)):=⟨_,_,_,rfl,hx,hk,hG,nM hP,by rw[← w1]⟩;let W2:C8 K [⟨ak,Xj " " (gO called Ms)⟩] (cq K lA (· =YG Ls)):=⟨_,_,_,rfl,hx2,Z8,hG2,nM hP2,by rw[← w2]⟩;let J1:∀(as:RS)(bound:Int),(∀a∈as,a=0∨a=1)->0<=bound->bound<=2000->GX K [⟨ak,Xj " " (gO X0 Ls)⟩,⟨ae ah,as⟩,⟨ah,bound⟩] (cq K au (· =yO (g9 (YG Ls) as bound.toNat st0))):=λas bound h1 h2 h3=>⟨_,as,bound,_,_,rfl,hx,hk,hG,nM hP,G1 hP hG,yY h1,h2,u5 h3,by rw[← w1]⟩;let J2:∀(as:RS)(bound:Int),(∀a∈as,a=0∨a=1)->0<=bound->bound<=2000->GX K [⟨ak,Xj " " (gO called Ms)⟩,⟨ae ah,as⟩,⟨ah,bound⟩] (cq K au (· =yO (g9 (YG Ls) as bound.toNat st0))):=λas bound h1 h2 h3=>⟨_,as,bound,_,_,rfl,hx2,Z8,hG2,nM hP2,G1 hP2 hG2,yY h1,h2,u5 h3,by rw[← w2]⟩;let S1:∀ys:List (Str×Str),D3 2 K [⟨au,.lst (ys.map gb)⟩,⟨au,.lst (ys.map gb)⟩] (cq K cU (· =true)):=λys=>⟨_,rfl,Jg _,Lf _,rfl⟩;clear hx hx2 w1 w2 hk Z8 hG hG2;generalize YG Ls=v at W1 W2 J1 J2;generalize Xj " " (gO X0 Ls)=x1 at N1 W1 J1;generalize Xj " " (gO called Ms)=x2 at N2 W2 J2;change WS _ _ (nt s0 ns X0 a ps b (k+(Ls.length:Int)) c qs [.im (ae ak) called,e6,e7,e8,.im ak x1,.im ak x2,.no,.no]) _ _;refine ai (aZ (ay (B9 (x:=AO v) (.inl ⟨_,rfl⟩) (UM (UY (FU v) _) (hu 3 `c))) (EV.Ml (aB CW hr (ag (aa 9 rfl) ax) W1)) (EV.Ml (aB CW hr (ag (aa 10 rfl) ax) W2))) `aD (λ_=>aH ?_));refine ai (cF 11 (r:=ah) (ys:=ZG ns 420) (yn CA hr (ag (EV.adr `e) (ag ac ax)) ⟨ns,420,rfl,hs,`c,`c,rfl⟩) ?_);let al:=xA ns 420;let ab:=F9 ns 420;refine WS.freeze 11 rfl (aM `a) ?_;generalize ZG ns 420=ans at al ab;change WS _ _ (nt s0 ns X0 a ps b (k+(Ls.length:Int)) c qs [.im (ae ak) called,e6,e7,e8,.im ak x1,.im ak x2,eT ans,.no]) _ _
 refine bG (N1:=λZ=>∃e12,Z=nt s0 ns X0 a ps b (k+(Ls.length:Int)) c qs [.im (ae ak) called,e6,e7,e8,.im ak x1,.im ak x2,eT ans,e12]) (bO (r:=ah) (xs:=[2000,aL ns 419%80]) (λi Z=>∃e12,Z=nt s0 ns X0 a ps b (k+(Ls.length:Int)) c qs [.im (ae ak) called,e6,e7,e8,.im ak x1,.im ak x2,eT ans,e12]) (bM (bc.im (aQ (aq ac (aq (cY (aB CM hr (ag (EV.adr `e) (ag ac ax)) ⟨ns,419,rfl,hs,`c,`c,rfl⟩) ac `c) aN)) (by show 2<=Vn;decide)))) (aU 12) ⟨_,rfl⟩ (λi bd Z hj hΓ=>?_) (λZ hΓ=>hΓ)) ?_
 ·let⟨e12,rfl⟩:=hΓ;let hb:0<=bd/\bd<=2000:=by
   have:=SD hj;simp only[SF,Tc,or_false] at this;obtain rfl | rfl:=this
   ·decide
   ·cbv
  change WS _ _ (nt s0 ns X0 a ps b (k+(Ls.length:Int)) c qs [.im (ae ak) called,e6,e7,e8,.im ak x1,.im ak x2,eT ans,aE bd]) _ _;exact aj (aZ (ay (B9 (x:=yO (g9 v ans bd.toNat st0)) (.inl ⟨_,rfl⟩) (UM (UY (Jl _) _) (hu 3 `c))) (aB CJ hr (ag (aa 9 rfl) (ag (bc.im (qO M.list (aa 11 rfl))) (ag (aa 12 rfl) ax))) (J1 ans bd ab hb.1 hb.2)) (aB CJ hr (ag (aa 10 rfl) (ag (bc.im (qO M.list (aa 11 rfl))) (ag (aa 12 rfl) ax))) (J2 ans bd ab hb.1 hb.2))) (λh=>by cases h) (λ_=>aH ⟨_,rfl⟩))
 rintro _ ⟨e12,rfl⟩;refine ai (aZ (gj (bV (aB CE hr (ag (EV.pL (aB CN hr (ag (aa 9 rfl) ax) N1)) (ag (EV.pL (aB CS hr (ag `g (ag (GR 2 CP hr rfl YX hP) ax)) ⟨X0,Ls,rfl,hP,rfl⟩)) ax)) (S1 _)))) `aD (λ_=>aH ?_));exact aj (aY (aB CE hr (ag (EV.pL (aB CN hr (ag (aa 10 rfl) ax) N2)) (ag (EV.pL (aB CS hr (ag `Y (ag (GR 4 CP hr rfl hq hP2) ax)) ⟨called,Ms,rfl,hP2,rfl⟩)) ax)) (S1 _)) rfl)
variable {l:XM}
section
variable {h:Heap}{P:RZ->Prop}{oc:`aa}{od an:Option Addr}{ZN:Array RX}{doc pm X6 ct:`aa}{t1 t2:Tok}
def Bn (K:Xt)(mg:RQ):Prop:=∃C fi ZV,bL K C i6/\Mk K C fi/\mg "Step"∣.ref C/\dw K "__init__" "Step.__init__" uX fi ZV/\be K ZV wR []
def Bc (K:Xt)(mg:RQ):Prop:=∃C fi ZV,bL K C gf/\Mk K C fi/\mg "Spots"∣.ref C/\dw K "__init__" "Spots.__init__" vm fi ZV/\be K ZV xU []
structure Top (P:Vr)(w:World)(K:Xt)(mg:RQ):Prop where
 M:bW K mg
 M2:lY K mg
 M3:kB mg
 M6:sX mg
 M4:kC mg
 RW:n6 P w K mg "ROW_WORDS" dH
 SC:Bn K mg
 PC:Bc K mg
 MX:Def K mg "_law_mixed" Gh ["_law_script","_law_k"]
 PL:Def K mg "_law_pull" Ly ["_law_pen"]
 NM:Def K mg "_law_name" Qt ["_law_number"]
 PA:Def K mg "_law_passes" Lk ["_law_items"]
 TH:Def K mg "_law_thing" G6 ["_law_pen","_law_depth","_law_loops","_law_calls"]
 LS:Def K mg "_law_list" tE ["_law_pen","_law_depth","_law_loops","_law_calls"]
 DR:Def K mg "_law_drawn" Pf ["_law_script","_law_start"]
 WD:Def K mg "_law_words" Mm ["_law_items","_law_names_here"]
 TX:Def K mg "_law_text" Qo ["_law_names_here","_law_lists"]
 IN:Def K mg "is_name" M7 ["word"]
 NB:Def K mg "name_behind" QG ["words","word"]
 MS:Def K mg "may_stand" PZ ["kind","opened"]
 RD:Def K mg "read" Mz ["text"]
 CS:Def K mg "closing_steps" P4 ["steps"]
 AR:Def K mg "around" Po ["steps","number","kind"]
 LF:Def K mg "leads_from" QJ ["steps","closing","number"]
 LI:Def K mg "leads_in" KO ["steps"]
 PI:Def K mg "parts_in" L5 ["steps"]
 ST:Def K mg "stands_in" QH ["steps","leads"]
 RI:Def K mg "rows_in" Qg ["steps","leads","stands"]
 NW:Def K mg "name_words" K0 ["spots","parts"]
 NA:Def K mg "named_again" Hb ["spots"]
 CA:Def K mg "called_astray" Qn ["spots"]
 CT:Def K mg "come_to" Hi ["spots"]
 NC:Def K mg "not_come_to" BI ["spots"]
 NL:Def K mg "not_called" G3 ["spots"]
 EB:Def K mg "ended_at_begin" KU ["spots"]
 RB:Def K mg "rows_beyond" J5 ["spots"]
 PL2:Def K mg "places_in" JN ["spots","part"]
 PY:Def K mg "places_beyond" Bu ["spots"]
 PB:Def K mg "parts_beyond" PM ["spots"]
 HI:Def K mg "hindrances" Pu ["spots"]
 NP:Def K mg "need_program" QF ["text"]
 NU:Def K mg "_law_numbered" tf ["_law_items","_law_keys"]
 EN:Def K mg "_law_entry" Qj ["_law_items","_law_j","_law_behind","_law_loop"]
 RO:Def K mg "_law_rows" sy ["_law_items","_law_behind","_law_loop","_law_rows_here"]
 MP:Def K mg "_law_mapped" BO ["_law_lists"]
 NS:Def K mg "_law_names" P6 ["_law_names_here","_law_mapped_here"]
 SM:Def K mg "_law_same" Hl ["_law_told","_law_due"]
 NO:Def K mg "names_of" KN ["text"]
 RV:Def K mg "rows_leaving" KD ["web","part"]
 IW:Def K mg "is_whole" Ph ["value"]
 AW:Def K mg "are_whole" B8 ["values"]
 NQ:Def K mg "need_answers" Gu ["answers","bound"]
 AB:Def K mg "at_begin" Qk ["part"]
 GO:Def K mg "go" Gp ["stack","row"]
 PA2:Def K mg "part_at" FC ["spots","number"]
 WO:Def K mg "web_of" z4 ["text"]
 WJ:Def K mg "walked" GL ["text","answers","bound"]
 AN:Def K mg "_law_answers" P7 ["_law_script","_law_k"]
 RN:Def K mg "_law_renamed" Hj ["_law_items","_law_pen"]
theorem KJ {P:Vr}(T:Top P w K mg)(F:dw K "law" "law" oV f fd):eZ P w K mg base d7 18 f fd ["_law_script"] (aP wD K):=by
 let M:=T.M;let M2:=T.M2;let M3:=T.M3;let M6:=T.M6;let M4:=T.M4;let⟨C,fi,ZV,HC,MK,hMg,FI,bi⟩:=T.SC;let⟨D,fj,fdj,HD,MD,hMd,FJ,bj⟩:=T.PC;let GS:A4 P w K mg base C:=⟨HC,⟨fi,ZV,MK,Ou HC FI,bi⟩,hMg⟩;let MX:=NH (P:=P) (w:=w) (base:=base) M T.MX;let PL:=LG (P:=P) (w:=w) (base:=base) MX T.PL;let PG:=PL;let PL:=PG ck λh=>h;let NM:=OS (P:=P) (w:=w) (base:=base) M T.NM;let⟨_,_,F1,m1,b1⟩:=T.PA;let PA:=NF (P:=P) (w:=w) (base:=base) F1 m1 b1 5;let⟨_,_,FTH,mTH,bTH⟩:=T.TH;let⟨_,_,F1,m1,b1⟩:=T.LS;let LS:=Hd (P:=P) (w:=w) (base:=base) M PL NM PA F1 m1 b1 FTH mTH bTH 4;let DR:=NJ (P:=P) (w:=w) (base:=base) M PL NM LS T.DR;let⟨_,_,F1,m1,b1⟩:=T.WD;let WD:=Oq (P:=P) (w:=w) (base:=base) F1 m1 b1 5;let TX:=Nv (P:=P) (w:=w) (base:=base) M WD T.TX;let IN:=Ox (P:=P) (w:=w) (base:=base) M M2 T.IN;let NB:=OC (P:=P) (w:=w) (base:=base) M IN T.NB;let MS:=O5 (P:=P) (w:=w) (base:=base) M2 T.MS;let RD:=Oc (P:=P) (w:=w) (base:=base) M M2 GS MS NB T.RD;let CS:=OQ (P:=P) (w:=w) (base:=base) M M2 HC T.CS;let AR:=OF (P:=P) (w:=w) (base:=base) HC T.AR;let LF:=Nq (P:=P) (w:=w) (base:=base) HC AR T.LF;let LI:=OE (P:=P) (w:=w) (base:=base) M CS LF T.LI;let PI:=Ot (P:=P) (w:=w) (base:=base) M HC CS T.PI;let ST:=OG (P:=P) (w:=w) (base:=base) M HC T.RW T.ST;let RI:=Oj (P:=P) (w:=w) (base:=base) M HC T.RW T.RI;let GP:yv P w K mg base C D:=⟨HD,⟨fj,fdj,MD,M8 HD RD PI LI ST RI FJ,bj⟩,hMd⟩;let NW:=NZ (P:=P) (w:=w) (base:=base) (C:=C) (D:=D) T.NW;let NA:=Oz (P:=P) (w:=w) (base:=base) M HD NW T.NA;let CA:=Pb (P:=P) (w:=w) (base:=base) M HC HD T.CA;let⟨_,_,F1,m1,b1⟩:=T.CT;let CT:=OD (P:=P) (w:=w) (base:=base) (C:=C) M HD F1 m1 b1;let⟨_,_,F1,m1,b1⟩:=T.NC;let NC:=Of (P:=P) (w:=w) (base:=base) M M2 HC HD CT F1 m1 b1;let NL:=OA (P:=P) (w:=w) (base:=base) M HC HD NW T.NL;let EB:=Nc (P:=P) (w:=w) (base:=base) HD NW T.EB;let RB:=NI (P:=P) (w:=w) (base:=base) (C:=C) M3 HD T.RB;let PL2:=Kq (P:=P) (w:=w) (base:=base) (C:=C) M M3 HD T.PL2;let⟨_,_,F1,m1,b1⟩:=T.PY;let PY:=Ng (P:=P) (w:=w) (base:=base) M M3 HD NW CT PL2 F1 m1 b1;let PB:=Np (P:=P) (w:=w) (base:=base) M3 HD NW T.PB;let HI:=N5 (P:=P) (w:=w) (base:=base) NA CA NC NL EB RB PY PB T.HI;let NP:=Oa (P:=P) (w:=w) (base:=base) GP HI T.NP;let⟨_,_,F1,m1,b1⟩:=T.NU;let NU:=G5 (P:=P) (w:=w) (base:=base) F1 m1 b1 4;let EN:=NV (P:=P) (w:=w) (base:=base) M T.EN;let⟨_,_,F1,m1,b1⟩:=T.RO;let RO:=GI (P:=P) (w:=w) (base:=base) M EN F1 m1 b1 4;let⟨_,_,F1,m1,b1⟩:=T.MP;let MP:=OY (P:=P) (w:=w) (base:=base) M NU EN RO F1 m1 b1
 let NS:=Oe (P:=P) (w:=w) (base:=base) T.NS;let⟨_,_,F1,m1,b1⟩:=T.SM;let SM:=Hm (P:=P) (w:=w) (base:=base) M M6 F1 m1 b1 2;let NO:=Nt (P:=P) (w:=w) (base:=base) (C:=C) HD NP T.NO;let RV:=Ni (P:=P) (w:=w) (base:=base) true M T.RV;let IW:=Ow (P:=P) (w:=w) (base:=base) M M4 T.IW;let⟨_,_,F1,m1,b1⟩:=T.AW;let AW:=OL (P:=P) (w:=w) (base:=base) M M4 IW F1 m1 b1;let⟨_,_,F1,m1,b1⟩:=T.NQ;let NQ:=OJ (P:=P) (w:=w) (base:=base) M M4 IW AW F1 m1 b1;let AB:=Nh (P:=P) (w:=w) (base:=base) M3 T.AB;let GO:=Ol (P:=P) (w:=w) (base:=base) M3 M4 AB T.GO;let PA2:=Lb (P:=P) (w:=w) (base:=base) (C:=C) M HD T.PA2;let⟨_,_,F1,m1,b1⟩:=T.WO;let WO:=N9 (P:=P) (w:=w) (base:=base) M M4 HD NP PL2 PA2 F1 m1 b1;let⟨_,_,F1,m1,b1⟩:=T.WJ;let WJ:=O8 (P:=P) (w:=w) (base:=base) M M4 WO NQ RV AB GO F1 m1 b1;let AN:=Nb (P:=P) (w:=w) (base:=base) M MX T.AN;let⟨_,_,F1,m1,b1⟩:=T.RN;let RN:=Md (P:=P) (w:=w) (base:=base) M PG NM F1 m1 b1;exact Nd M MX PG NM DR TX MP NS SM AN RN NO WO WJ F
theorem sM {xs:RU}{g:Addr}{gd:Option Addr}{gn:Nat}{gs:Array RX}{X5:`bL}(KX:K.In h)(G:h.Ns Vq mg)(a:Xu K Vq x∣(some (.ref g)))(l:K.lookup g∣⟨.type "tuple",gd,.seq X5 gn,gs⟩)(z:X5.size<=Vn)(v:Vals (xs.map V.str) X5.toList):uy K mg x xs:=⟨g,_,_,_,Xx KX G a,l,rfl,rfl,z,v⟩
theorem I0 (KX:K.In h)(G:h.Ns Vq mg)(b1:Xu K Vq "len"∣none)(b2:Xu K Vq "min"∣none)(b3:Xu K Vq "range"∣none)(b4:Xu K Vq "int"∣none)(b5:Xu K Vq "list"∣none)(b6:Xu K Vq "zip"∣none)(b7:Xu K Vq "enumerate"∣none)(b8:Xu K Vq "reversed"∣none)(b9:Xu K Vq "any"∣none)(b10:Xu K Vq "all"∣none):bW K mg:=
 ⟨Xv KX G b1,Xv KX G b2,Xv KX G b3,Xv KX G b4,Xv KX G b5,Xv KX G b6,Xv KX G b7,Xv KX G b8,Xv KX G b9,Xv KX G b10⟩
theorem F4 (KX:K.In h)(G:h.Ns Vq mg){s1_1 s1_2 s1_3 s1_4 s1_5 s2_1 s2_2 s2_3 s2_4 s2_5 s2_6 s3_1 s3_2 s3_3 s3_4 s4_1 s4_2:Tok}{g1 g2 g3 g4:Addr}{d1 d2 d3 d4:Option Addr}{n1 n2 n3 n4:Nat}{e1 e2 e3 e4:Array RX}(a1:Xu K Vq "MOST_LETTERS"∣(some (.int 8 t1)))(a2:Xu K Vq "NO_STEP"∣(some (.int (-1) t2)))(c1:Xu K Vq "NAMED"∣(some (.ref g1)))(l1:K.lookup g1∣⟨.type "tuple",d1,.seq #[.str "part" s1_1,.str "do" s1_2,.str "call" s1_3,.str "if" s1_4,.str "while" s1_5] n1,e1⟩)(c2:Xu K Vq "SENTENCES"∣(some (.ref g2)))(l2:K.lookup g2∣⟨.type "tuple",d2,.seq #[.str "do" s2_1,.str "call" s2_2,.str "if" s2_3,.str "while" s2_4,.str "leave" s2_5,.str "back" s2_6] n2,e2⟩)(c3:Xu K Vq "OPENING"∣(some (.ref g3)))(l3:K.lookup g3∣⟨.type "tuple",d3,.seq #[.str "part" s3_1,.str "if" s3_2,.str "else" s3_3,.str "while" s3_4] n3,e3⟩)(c4:Xu K Vq "CLOSING"∣(some (.ref g4)))(l4:K.lookup g4∣⟨.type "tuple",d4,.seq #[.str "else" s4_1,.str "end" s4_2] n4,e4⟩):lY K mg:=
 ⟨⟨_,Xx KX G a1⟩,⟨_,Xx KX G a2⟩,sM KX G c1 l1 (by show 5<=Vn;decide) (.cons ⟨s1_1,rfl⟩ (.cons ⟨s1_2,rfl⟩ (.cons ⟨s1_3,rfl⟩ (.cons ⟨s1_4,rfl⟩ (.cons ⟨s1_5,rfl⟩ (.nil)))))),sM KX G c2 l2 (by show 6<=Vn;decide) (.cons ⟨s2_1,rfl⟩ (.cons ⟨s2_2,rfl⟩ (.cons ⟨s2_3,rfl⟩ (.cons ⟨s2_4,rfl⟩ (.cons ⟨s2_5,rfl⟩ (.cons ⟨s2_6,rfl⟩ (.nil))))))),sM KX G c3 l3 (by show 4<=Vn;decide) (.cons ⟨s3_1,rfl⟩ (.cons ⟨s3_2,rfl⟩ (.cons ⟨s3_3,rfl⟩ (.cons ⟨s3_4,rfl⟩ (.nil))))),sM KX G c4 l4 (by show 2<=Vn;decide) (.cons ⟨s4_1,rfl⟩ (.cons ⟨s4_2,rfl⟩ (.nil)))⟩
theorem Eb (KX:K.In h)(G:h.Ns Vq mg){t3 t4 t5:Tok}(a1:Xu K Vq "BEGIN"∣(some (.int 0 t1)))(a2:Xu K Vq "END"∣(some (.int 1 t2)))(a3:Xu K Vq "MOST_PARTS"∣(some (.int 4 t3)))(a4:Xu K Vq "MOST_PLACES"∣(some (.int 16 t4)))(a5:Xu K Vq "MOST_PROGRAM_ROWS"∣(some (.int 30 t5))):kB mg:=
 ⟨⟨_,Xx KX G a1⟩,⟨_,Xx KX G a2⟩,⟨_,Xx KX G a3⟩,⟨_,Xx KX G a4⟩,⟨_,Xx KX G a5⟩⟩
theorem EW (KX:K.In h)(G:h.Ns Vq mg){t3 t4 t5 t6:Tok}(b1:Xu K Vq "isinstance"∣none)(b2:Xu K Vq "bool"∣none)(b3:Xu K Vq "max"∣none)(a1:Xu K Vq "NO_CALL"∣(some (.int (-1) t1)))(a2:Xu K Vq "FIRST_PART"∣(some (.int 0 t2)))(a3:Xu K Vq "YES"∣(some (.int 1 t3)))(a4:Xu K Vq "ENDED"∣(some (.str "ended" t4)))(a5:Xu K Vq "BOUND"∣(some (.str "bound" t5)))(a6:Xu K Vq "WANTING"∣(some (.str "wanting" t6))):kC mg:=
 ⟨Xv KX G b1,Xv KX G b2,Xv KX G b3,⟨_,Xx KX G a1⟩,⟨_,Xx KX G a2⟩,⟨_,Xx KX G a3⟩,⟨_,Xx KX G a4⟩,⟨_,Xx KX G a5⟩,⟨_,Xx KX G a6⟩⟩
theorem Fs (KX:K.In h)(G:h.Ns Vq mg)(b1:Xu K Vq "isinstance"∣none)(b2:Xu K Vq "bool"∣none)(b3:Xu K Vq "str"∣none)(b4:Xu K Vq "tuple"∣none):sX mg:=⟨Xv KX G b1,Xv KX G b2,Xv KX G b3,Xv KX G b4⟩
theorem al1 (h:∀a,P [a]):∀us:RZ,us.length=1->P us
 | [a],_=>h a
theorem al2 (h:∀a b,P [a,b]):∀us:RZ,us.length=2->P us
 | [a,b],_=>h a b
theorem al3 (h:∀a b c,P [a,b,c]):∀us:RZ,us.length=3->P us
 | [a,b,c],_=>h a b c
theorem al4 (h:∀a b c d,P [a,b,c,d]):∀us:RZ,us.length=4->P us
 | [a,b,c,d],_=>h a b c d
theorem dm {st:Stmt}{ps:RU}{kV:`aa}(KX:K.In h)(G:h.Ns Vq mg)(a:Xu K Vq x∣(some (.ref f)):=by k_is)(l:K.lookup f∣⟨oc,od,.func `aQ,ZN⟩:=by k_is)(c:XD K X6 x=true:=by k_is)(k:Xy K (.ref f)=true:=by k_is)(b:∀(kV doc pm:`aa)(an:Option Addr)(X6 ct:`aa)(us:RZ),us.length=ps.length->bindArgs `aQ ⟨us,[]⟩=pure (ps.zip us):=by first | exact λ_ _ _ _ _ _=>K1.al1 λ_=>rfl | exact λ_ _ _ _ _ _=>K1.al2 λ_ _=>rfl | exact λ_ _ _ _ _ _=>K1.al3 λ_ _ _=>rfl | exact λ_ _ _ _ _ _=>K1.al4 λ_ _ _ _=>rfl):Def K mg x st ps:=JK KX G a l c k b
theorem Hx {P:Vr}(KX:K.In h)(G:h.Ns Vq mg){d v1 v2 v3 v4:Addr}{k1 k2 k3 k4 s1_1 s2_1 s3_1 s3_2 s4_1 s4_2:Tok}{ep n1 n2 n3 n4:Nat}{d1 d2 d3 d4:Option Addr}{l1 l2 l3 l4:Array RX}(a:Xu K Vq "ROW_WORDS"∣(some (.ref d)))(l:K.lookup d∣⟨.type "dict",none,.dict #[⟨Xh w.params "do",.str "do" k1,.ref v1⟩,⟨Xh w.params "call",.str "call" k2,.ref v2⟩,⟨Xh w.params "if",.str "if" k3,.ref v3⟩,⟨Xh w.params "while",.str "while" k4,.ref v4⟩] ep, #[]⟩)(sm:(d==VD)=false)(u1:K.lookup v1∣⟨.type "tuple",d1,.seq #[.str "do" s1_1] n1,l1⟩)(u2:K.lookup v2∣⟨.type "tuple",d2,.seq #[.str "call" s2_1] n2,l2⟩)(u3:K.lookup v3∣⟨.type "tuple",d3,.seq #[.str "yes" s3_1,.str "no" s3_2] n3,l3⟩)(u4:K.lookup v4∣⟨.type "tuple",d4,.seq #[.str "yes" s4_1,.str "no" s4_2] n4,l4⟩):n6 P w K mg "ROW_WORDS" dH:=by
 refine⟨d,_,[((Sum.inr "do":Key),.ref v1),((Sum.inr "call":Key),.ref v2),((Sum.inr "if":Key),.ref v3),((Sum.inr "while":Key),.ref v4)],Xx KX G a,l,⟨_,_,⟨rfl,rfl,rfl⟩,rfl,λe he=>?_,?_,by show S6 [(Sum.inr "do":Key),(Sum.inr "call":Key),(Sum.inr "if":Key),(Sum.inr "while":Key)];decide⟩,sm,?_⟩
 ·simp only[List.mem_toArray,SF,Tc,or_false] at he;obtain rfl | rfl | rfl | rfl:=he
  ·exact⟨Sum.inr "do",d6 P w "do" k1,rfl⟩
  ·exact⟨Sum.inr "call",d6 P w "call" k2,rfl⟩
  ·exact⟨Sum.inr "if",d6 P w "if" k3,rfl⟩
  ·exact⟨Sum.inr "while",d6 P w "while" k4,rfl⟩
 ·exact .cons (d6 P w "do" k1) rfl (.cons (d6 P w "call" k2) rfl (.cons (d6 P w "if" k3) rfl (.cons (d6 P w "while" k4) rfl (.nil))))
 ·exact .cons ⟨rfl,v1,_,_,_,rfl,u1,rfl,rfl,(by show 1<=Vn;decide),.cons ⟨s1_1,rfl⟩ (.nil)⟩ (.cons ⟨rfl,v2,_,_,_,rfl,u2,rfl,rfl,(by show 1<=Vn;decide),.cons ⟨s2_1,rfl⟩ (.nil)⟩ (.cons ⟨rfl,v3,_,_,_,rfl,u3,rfl,rfl,(by show 2<=Vn;decide),.cons ⟨s3_1,rfl⟩ (.cons ⟨s3_2,rfl⟩ (.nil))⟩ (.cons ⟨rfl,v4,_,_,_,rfl,u4,rfl,rfl,(by show 2<=Vn;decide),.cons ⟨s4_1,rfl⟩ (.cons ⟨s4_2,rfl⟩ (.nil))⟩ (.nil))))
theorem step_mk (KX:K.In h)(G:h.Ns Vq mg){kV:`aa}(aC:Xu K Vq "Step"∣(some (.ref C)))(a1:Xw K (.ref C) "__init__"∣(some (.ref f)))(i1:XQ K (.ref f)=true)(l1:K.lookup f∣⟨oc,od,.func (Xz "__init__" "Step.__init__" (fq uX) (bF uX) (ao uX) .none kV doc pm an X6 ct),ZN⟩)(c1:XD K X6 "Step.__init__"=true)(k1:Xy K (.ref f)=true)(pg:XF K C Str.empty=true)(hd:XE K C=true)(po:XG K C=true)(sa:`bH)(mk:XH K C=true)(kc:Xy K (.ref C)=true)(o1:Xw K (.ref C) "kind"∣none)(o2:Xw K (.ref C) "name"∣none)(o3:Xw K (.ref C) "word"∣none)(o4:Xw K (.ref C) "within"∣none):Bn K mg:=by
 refine⟨C,f,_,⟨⟨pg,hd,po,sa⟩,λx hx=>?_⟩,⟨mk,a1,i1,kc⟩,Xx KX G aC,lC (st:=uX) l1 c1 k1,(lC (st:=uX) l1 c1 k1).binds (ps:=wR) λ_ _ _ _ _ _ us hl=>match us,hl with | [_,_,_,_,_],_=>rfl⟩;simp only[i6,SF,Tc,or_false] at hx;obtain rfl | rfl | rfl | rfl:=hx
 ·exact o1
 ·exact o2
 ·exact o3
 ·exact o4
theorem Iu (KX:K.In h)(G:h.Ns Vq mg){kV:`aa}(aC:Xu K Vq "Spots"∣(some (.ref C)))(a1:Xw K (.ref C) "__init__"∣(some (.ref f)))(i1:XQ K (.ref f)=true)(l1:K.lookup f∣⟨oc,od,.func (Xz "__init__" "Spots.__init__" (fq vm) (bF vm) (ao vm) .none kV doc pm an X6 ct),ZN⟩)(c1:XD K X6 "Spots.__init__"=true)(k1:Xy K (.ref f)=true)(pg:XF K C Str.empty=true)(hd:XE K C=true)(po:XG K C=true)(sa:`bH)(mk:XH K C=true)(kc:Xy K (.ref C)=true)(o1:Xw K (.ref C) "steps"∣none)(o2:Xw K (.ref C) "parts"∣none)(o3:Xw K (.ref C) "leads"∣none)(o4:Xw K (.ref C) "stands"∣none)(o5:Xw K (.ref C) "rows"∣none):Bc K mg:=by
 refine⟨C,f,_,⟨⟨pg,hd,po,sa⟩,λx hx=>?_⟩,⟨mk,a1,i1,kc⟩,Xx KX G aC,lC (st:=vm) l1 c1 k1,(lC (st:=vm) l1 c1 k1).binds (ps:=xU) λ_ _ _ _ _ _ us hl=>match us,hl with | [_,_],_=>rfl⟩;simp only[gf,SF,Tc,or_false] at hx;obtain rfl | rfl | rfl | rfl | rfl:=hx
 ·exact o1
 ·exact o2
 ·exact o3
 ·exact o4
 ·exact o5
theorem KL {fa:Addr}{kV:`aa}(KX:K.In h)(G:h.Ns Vq mg)(hfa:mg "law"∣.ref fa)(T:Top l.prog w K mg)(a:Xu K Vq "law"∣(some (.ref f)))(lk:K.lookup f∣⟨oc,od,.func (Xz "law" "law" (fq oV) (bF oV) (ao oV) .none kV doc pm an X6 ct),ZN⟩)(c:XD K X6 "law"=true)(k:Xy K (.ref f)=true):
 ∃fd:Vw,(∀(s:Vo)(v:`aa),Wu s fd ⟨[v],[]⟩ [("_law_script",v)])/\∀base:Heap,K.In base->base.Ns Vq mg->eZ l.prog w K mg base d7 18 fa fd ["_law_script"] (aP wD K):=by
 let e:=hfa.symm.trans (Xx KX G a);cases e
 exact⟨Xz "law" "law" (fq oV) (bF oV) (ao oV) .none kV doc pm an X6 ct,λs v=>.of_eq rfl,λbase _ _=>KJ T (lC lk c k)⟩
theorem walk {q:Vr}{loose:RU}{XP:(RQ)->Heap->Prop}{YP:World->Heap->Prop}{d:DefRec}{K:Params->Xt}(hn:l.most∣63)(hdf:d.params.defaults=[])(hY:∀(w:World)(h:Heap),YP w h->(K w.params).In h)(F:∀(w:World)(mg:RQ)(fa:Addr)(h:Heap),(K w.params).In h->h.Ns Vq mg->mg d.name∣.ref fa->
  ∃fd:Vw,(∀(s:Vo)(u:`aa),Wu s fd ⟨[u],[]⟩ [("_law_script",u)])/\∀base:Heap,(K w.params).In base->base.Ns Vq mg->eZ l.prog w (K w.params) mg base d7 18 fa fd ["_law_script"] (aP wD (K w.params))):
 PySem.W.WalkO q loose XP YP l.row.toRowW d [] (λf vs=>PySem.call f vs):=
 L2.FL (n:=63) (k:=18) (x:="_law_script") (CX:=λ_=>d7) (sp:=λw=>aP wD (K w.params)) hn `c hdf ⟨rfl,`c,`c⟩ hY F
   (λw H a ns hl ZE _ hS=>⟨H,[⟨ck,ns⟩],_,av.refl _,.cons ⟨a,rfl,hS,hl⟩ .nil,⟨ns,rfl,hl,ZE,rfl⟩,λv H' R' _ t=>by let⟨y,hy,rfl⟩:=t;exact hy⟩) λ_ _ _ _ _ z=>z
end
end K1
open PySem PySem.W PyProof.Rows
namespace PySem.W.Fast
def tw14554296259755805895:=0
def tw2854925284139792846:=0
def tw5254608277956669875:=0
def tw2743262044476111234:=0
def tw412170991719315766:=0
def tw12974878261795685449:=0
def tw9159559161963559235:=0
def tw1943573927091638082:=0
def tw3439899558262292183:=0
def tw16050158110351729372:=0
def tw10072491391393504821:=0
def tw8942903461191674606:=0
def tw4596388609067851333:=0
def tw1938383482619661030:=0
def tw5496960358668621748:=0
def tw9413067633714976141:=0
def tw16822699800464602524:=0
def tw6650929524571818880:=0
def tw12959100916530943133:=0
def tw10030867219719880628:=0
def tw16290029061191856954:=0
def tw4368107113849941070:=0
def tw12132692515376009024:=0
def tw338540882409134215:=0
def tw12811231629866028916:=0
def tw3875038761982416953:=0
def tw5652285900126339230:=0
def tw3839513320205931661:=0
def tw2549358643308062206:=0
def tw18337944656839376252:=0
def tw4703716102269057675:=0
def tw2967746539495761083:=0
def tw7256587026857774435:=0
def tw8199177318901099574:=0
def tw8678853801822277260:=0
def tw4956944319056447828:=0
def tw18143367151815105741:=0
def tw18174293727395176171:=0
def tw6082157694982598726:=0
def tw1943857790040388227:=0
def tw12881244156425918974:=0
def tw10074639984165750039:=0
def tw12136607371685077939:=0
def tw14779890718230556081:=0
def tw16701481504458261167:=0
def tw5304624015620367498:=0
def tw13966481715977495083:=0
def tw2547459701988432394:=0
def tw17561252157625143329:=0
def tw1549381925676402824:=0
def tw17166592521413319163:=0
def tw17480087698994595912:=0
def tw3988976373753671203:=0
def tw4576751270644582350:=0
def tw5299312503583288208:=0
def tw17076721129975093487:=0
def tw6229451552169028401:=0
def tw17178259136867800707:=0
def tw10391584717525533077:=0
def tw10505949081192179927:=0
def tw12635657306231360953:=0
def tw17860531078846258942:=0
def tw1408905138218233523:=0
def tw13391495840658863189:=0
def tw12402242864073219648:=0
def tw8276934047314625058:=0
def tw11529567393981729710:=0
def tw17436297978162919438:=0
def tw6193205846118896950:=0
def tw10931377472419352330:=0
def tw7733961993206832432:=0
def tw9038129005501614892:=0
def tw11421437193699854083:=0
def tw4161274460827943870:=0
def tw16350676763347279169:=0
def tw3546382426202065626:=0
def tw1545032005461960000:=0
def tw9910088748241672915:=0
def tw12732250194929770156:=0
def tw2352279117299660899:=0
def tw4037937126894096661:=0
def tw18266792798589285313:=0
def tw15978405290222427983:=0
def tw2902118297618730777:=0
def tw13195477085583786384:=0
def tw8489645502089617522:=0
def tw3713401602600135267:=0
def tw4991680528676947791:=0
def tw13050009385259568754:=0
def tw5328276436188798287:=0
def tw12943245646038443564:=0
def tw11893970983427121650:=0
def tw1379039208463536209:=0
def tw9238641706388138382:=0
def tw4015843593392613762:=0
def tw3121166634621039578:=0
def tw15342080830225559216:=0
def tw7225773022747069443:=0
def tw5378145995047833168:=0
def tw902777264603069904:=0
def tw14649986075797574507:=0
def tw4662550559941538401:=0
def tw6467341740831803920:=0
def tw683301609067319718:=0
def tw12856655506797365021:=0
def tw10879081335492614616:=0
def tw6531947429511945419:=0
def tw13301455001389575177:=0
def tw690687898954446545:=0
def tw2933602700188697914:=0
def tw4794754673896798074:=0
def tw12861136976140308958:=0
def tw14367685662364171250:=0
def tw1326104047510627120:=0
def tw14819728871389243715:=0
def tw15335335640202236757:=0
def tw314247389637880682:=0
def tw14695657057446094124:=0
def tw12858537141486430524:=0
def tw3116125103538014805:=0
def tw4265311139249808353:=0
def tw3952044618210353554:=0
def tw16857726982486290013:=0
def tw3275486636714251178:=0
def tw10273430648996802228:=0
def tw9769024455277520830:=0
def tw1535030173352994941:=0
def tw8017435641562494347:=0
def tw13146103336481614968:=0
def tw11281059145713471068:=0
def tw12682653423191669617:=0
def tw10367176426948281776:=0
def tw7337533057592305465:=0
def tw12321057065892858238:=0
def tw3212304995698907152:=0
def tw6413258605169126152:=0
def tw7386462927153779900:=0
def tw8645296870597644460:=0
def tw10497039861657637150:=0
def tw15290496627899400185:=0
def tw391056171568441456:=0
def tw2901404706557150607:=0
def tw8463759311856868427:=0
def tw15623331168803365082:=0
def tw9133224428730768706:=0
def tw6240794180996092130:=0
def tw4535165602890677730:=0
def tw3842888861793732584:=0
def tw9144107881709772901:=0
def tw8275450546165990766:=0
def tw16052859287214981002:=0
def tw11869919852350653718:=0
def tw8559461776297020042:=0
def tw9662558802524797406:=0
def tw16612870374168063179:=0
def tw13153590083695459066:=0
def tw1311777745987884410:=0
def tw6666227674738516380:=0
def tw3511211577120974213:=0
def tw17700179172334135726:=0
def tw5701467079012991405:=0
def tw9371361778613835125:=0
def tw5254195805384609122:=0
def tw480749695762378268:=0
def tw6710886299681102251:=0
def tw17791350285803802939:=0
def tw3804952254215341167:=0
def tw3262238547151143975:=0
def tw4550155080893590094:=0
def tw7956991818687970533:=0
def tw6464036347717824786:=0
def tw8818776984656943523:=0
def tw15947596509568779234:=0
def tw10610087570664364053:=0
def tw1185345570814302739:=0
def tw11286130032070222885:=0
def tw3640496365111646816:=0
def tw6714259845917301105:=0
def tw6613824274799746231:=0
def tw16822614659272348298:=0
def tw8693656974021505312:=0
def tw15448429858602390543:=0
def tw16866252396475371875:=0
def tw11878715805058209848:=0
def tw5149075671951549397:=0
def tw12960878857822075997:=0
def tw3098521236782900449:=0
def tw8194612468775830840:=0
def tw17109565520576577883:=0
def tw1699643967612858808:=0
def tw11686795116817921507:=0
def tw16961442077349074647:=0
def tw17393115044694228374:=0
def tw8077843053974596566:=0
def tw1033173931568396910:=0
def tw16844424710530964169:=0
def tw9930438510903629649:=0
def tw9031424156310081851:=0
def tw13550821334987956252:=0
def tw11138788934281741931:=0
def tw6833016068270702433:=0
def tw4963423866192730648:=0
def tw105286703621006750:=0
def tw8523476350451306798:=0
def tw2264588248231861835:=0
def tw13040919568492403289:=0
def tw8948334758470847586:=0
def tw448194658130662125:=0
def tw4377600237670996099:=0
def tw2138640665702312931:=0
def tw18029328999193534726:=0
def tw15955085811404076477:=0
def tw12227404555573976527:=0
def tw11479077885517251733:=0
def tw10663340775314106924:=0
def tw10285822995065834822:=0
def tw6065355360890588627:=0
def tw1643076613071667838:=0
def tw15922758779332434875:=0
def tw12146702975538123552:=0
def tw9641672640832159043:=0
def tw8196562571582487470:=0
def tw1884289461460170158:=0
def tw17397839997496441922:=0
def tw16318096371631155028:=0
def tw15513204056726293413:=0
def tw339766095330369950:=0
def tw11285291906151487951:=0
def tw9085427254335267824:=0
def tw8246247408931785208:=0
def tw14899083928455385238:=0
def tw12585669473521632067:=0
def tw9573269036802455067:=0
def tw3807746155088356593:=0
def tw17351671466252852743:=0
def tw10569012962540913934:=0
def tw6659423856977355258:=0
def tw6486003358957272854:=0
def tw3622897890710992355:=0
def tw15805968409984380372:=0
def tw7044037232602857188:=0
def tw15303822425420194908:=0
def tw5065302706427001417:=0
def tw12079519173010731761:=0
def tw7624056757437060053:=0
def tw5988851947898003425:=0
def tw12273725734640957535:=0
def tw8925377953778965900:=0
def tw15109876302122245135:=0
def tw17158850030087912274:=0
def tw12499255583734497457:=0
def tw1172650203182012516:=0
def tw7665770302857089419:=0
def tw8425880583224241329:=0
def tw11549956492907917952:=0
def tw13470318107749734721:=0
def tw3129515373159286503:=0
def tw15671517674974532262:=0
def tw1542610955200773545:=0
def tw10790620636912568436:=0
def tw255775984151140845:=0
def tw1846183139839625074:=0
end PySem.W.Fast
end
set_option maxRecDepth 100000 in
set_option maxHeartbeats 0 in
theorem PySem.Challenge.cw_fewcounters_k70_whole_named_otherwise_holds : PySem.Challenge.rw_fewcounters_k70_whole_named_otherwise.Holds := by
 w_on;o_law;k_head;(case hw=>w_witness2)
 k_fill
 refine K1.walk (l:=PySem.Challenge.rw_fewcounters_k70_whole_named_otherwise) rfl rfl (λw h Y=>PySem.W.kIn_of Y) ?F
 case F=>
  intro w mg fa h KX G hmg;have M:K1.bW (L2.qK KX) mg:=by
   dsimp only[L2.qK];refine' K1.I0 KX G ?b1 ?b2 ?b3 ?b4 ?b5 ?b6 ?b7 ?b8 ?b9 ?b10
   (case b1=>k_is);(case b2=>k_is);(case b3=>k_is);(case b4=>k_is);(case b5=>k_is);(case b6=>k_is);(case b7=>k_is);(case b8=>k_is);(case b9=>k_is);(case b10=>k_is)
  have M2:K1.lY (L2.qK KX) mg:=by
   dsimp only[L2.qK];refine' K1.F4 KX G ?a1 ?a2 ?c1 ?l1 ?c2 ?l2 ?c3 ?l3 ?c4 ?l4
   (case a1=>k_is);(case a2=>k_is);(case c1=>k_is);(case l1=>k_is);(case c2=>k_is);(case l2=>k_is);(case c3=>k_is);(case l3=>k_is);(case c4=>k_is);(case l4=>k_is)
  have M4:K1.kC mg:=by
   refine' K1.EW KX G ?b1 ?b2 ?b3 ?a1 ?a2 ?a3 ?a4 ?a5 ?a6
   (case b1=>k_is);(case b2=>k_is);(case b3=>k_is);(case a1=>k_is);(case a2=>k_is);(case a3=>k_is);(case a4=>k_is);(case a5=>k_is);(case a6=>k_is)
  have M6:K1.sX mg:=by
   refine' K1.Fs KX G ?b1 ?b2 ?b3 ?b4
   (case b1=>k_is);(case b2=>k_is);(case b3=>k_is);(case b4=>k_is)
  have M3:K1.kB mg:=by
   refine' K1.Eb KX G ?a1 ?a2 ?a3 ?a4 ?a5
   (case a1=>k_is);(case a2=>k_is);(case a3=>k_is);(case a4=>k_is);(case a5=>k_is)
  have DRW:Fc.n6 (PySem.Challenge.rw_fewcounters_k70_whole_named_otherwise).prog w (L2.qK KX) mg "ROW_WORDS" K1.dH:=by
   dsimp only[L2.qK];refine' K1.Hx KX G ?a ?l ?sm ?u1 ?u2 ?u3 ?u4
   (case a=>k_is);(case l=>k_is);(case sm=>rfl);(case u1=>k_is);(case u2=>k_is);(case u3=>k_is);(case u4=>k_is)
  have DSC:K1.Bn (L2.qK KX) mg:=by
   dsimp only[L2.qK];refine' K1.step_mk KX G ?aC ?a1 ?i1 ?l1 ?c1 ?k1 ?pg ?hd ?po ?sa ?mk ?kc ?o1 ?o2 ?o3 ?o4
   (case aC=>k_is);(case a1=>k_is);(case i1=>k_is);(case l1=>k_is);(case c1=>k_is);(case k1=>k_is);(case pg=>k_is);(case hd=>k_is);(case po=>k_is);(case sa=>k_is);(case mk=>k_is);(case kc=>k_is);(case o1=>k_is);(case o2=>k_is);(case o3=>k_is);(case o4=>k_is)
  have DPC:K1.Bc (L2.qK KX) mg:=by
   dsimp only[L2.qK];refine' K1.Iu KX G ?aC ?a1 ?i1 ?l1 ?c1 ?k1 ?pg ?hd ?po ?sa ?mk ?kc ?o1 ?o2 ?o3 ?o4 ?o5
   (case aC=>k_is);(case a1=>k_is);(case i1=>k_is);(case l1=>k_is);(case c1=>k_is);(case k1=>k_is);(case pg=>k_is);(case hd=>k_is);(case po=>k_is);(case sa=>k_is);(case mk=>k_is);(case kc=>k_is);(case o1=>k_is);(case o2=>k_is);(case o3=>k_is);(case o4=>k_is);(case o5=>k_is)
  refine' K1.KL KX G hmg ⟨M,M2,M3,M6,M4,DRW,DSC,DPC,by exact K1.dm KX G,by exact K1.dm KX G,by exact K1.dm KX G,by exact K1.dm KX G,by exact K1.dm KX G,by exact K1.dm KX G,by exact K1.dm KX G,by exact K1.dm KX G,by exact K1.dm KX G,by exact K1.dm KX G,by exact K1.dm KX G,by exact K1.dm KX G,by exact K1.dm KX G,by exact K1.dm KX G,by exact K1.dm KX G,by exact K1.dm KX G,by exact K1.dm KX G,by exact K1.dm KX G,by exact K1.dm KX G,by exact K1.dm KX G,by exact K1.dm KX G,by exact K1.dm KX G,by exact K1.dm KX G,by exact K1.dm KX G,by exact K1.dm KX G,by exact K1.dm KX G,by exact K1.dm KX G,by exact K1.dm KX G,by exact K1.dm KX G,by exact K1.dm KX G,by exact K1.dm KX G,by exact K1.dm KX G,by exact K1.dm KX G,by exact K1.dm KX G,by exact K1.dm KX G,by exact K1.dm KX G,by exact K1.dm KX G,by exact K1.dm KX G,by exact K1.dm KX G,by exact K1.dm KX G,by exact K1.dm KX G,by exact K1.dm KX G,by exact K1.dm KX G,by exact K1.dm KX G,by exact K1.dm KX G,by exact K1.dm KX G,by exact K1.dm KX G,by exact K1.dm KX G,by exact K1.dm KX G,by exact K1.dm KX G,by exact K1.dm KX G⟩ ?qa ?qb ?qc ?qd
  (case qa=>k_is);(case qb=>k_is);(case qc=>k_is);(case qd=>k_is)
