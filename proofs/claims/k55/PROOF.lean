import PyProof.Rows.All
import Wide.All
import OpenK.AllK
import Wide.FinOn
import Lean
import PyProof.EqAt
import PyProof.EqKinds
import PyProof.TupleCall
import PyProof.NeKinds
import PyProof.WalksEnum
import PyProof.EnumMake
import PySem.Challenge.RW_fewcounters_k55_whole_runs_and_stretches
import PyProof.SumWalkG
import PyProof.SeqI3
import KE.KTryMore
import PyProof.NsDelKeeps
import PyProof.Rows.TupIter
import KE.KRevIter
import PyProof.ListRange
import PyProof.ZipIter
set_option Elab.async false
set_option linter.all false
set_option maxRecDepth 100000
open List(mem_singleton getElem?_eq_getElem length_map mem_append length_append mem_cons mem_cons_of_mem getD_eq_getElem?_getD mem_cons_self mem_of_getElem? mem_map mem_append_right mem_append_left mem_filter nodup_cons length_cons size_toArray getElem_mem getElem?_map map_cons map_append append_nil getElem?_append_right mem_iff_getElem? length_take length_set append_assoc getElem?_append_left getElem?_set_ne length_filter_le take_succ flatMap_append getElem?_set_self take_length filter_eq_self map_congr_left not_mem_nil getElem?_eq_none mem_flatMap flatMap_cons length_singleton map_map filter_cons_of_neg mem_range getElem_inj replicate_succ lookup_cons filter_cons_of_pos sum_cons countP_cons length_replicate find?_cons cons_append all_eq_true getLast?_concat flatten_cons length_dropLast mem_iff_getElem ext_getElem? mem_reverse drop_eq_getElem_cons dropLast_concat_getLast nodup_append reverse_append getElem?_replicate any_cons nodup_nil reverse_cons length_drop mem_replicate length_pos_iff mem_or_eq_of_mem_set drop_length dropLast_concat pairwise_append countP_append flatMap_singleton filterMap_cons mem_filterMap map_nil set_set any_eq_true getElem?_range filter_append filter_cons take_succ_cons mem_of_mem_take map_id' append_inj' perm_append_comm of_mem_zip all_cons eraseIdxIfInBounds_toArray length_nil any_map take_of_length_le length_pos_of_mem map_id take_zero sum_append ne_nil_of_mem filter_congr append_of_mem pairwise_singleton idxOf_lt_length_of_mem getElem?_take flatMap_nil)
abbrev Dg0(x:PySem.Str):Prop:=(x==("__debug__":PySem.Str))=false
abbrev Cd0(x:PySem.Str):Prop:=(x==("__classdict__":PySem.Str))=false
def vA1:Lean.Syntax:=Lean.Unhygienic.run `(Lean.Parser.Tactic.tacticSeq|first | exact Or.inl rfl | exact Or.inr (Or.inl rfl) | exact Or.inr (Or.inr rfl))
def vA2:Lean.Syntax:=Lean.Unhygienic.run `(Lean.Parser.Tactic.tacticSeq|first | exact Or.inl rfl | exact Or.inr rfl)
def vA3:Lean.Syntax:=Lean.Unhygienic.run `(Lean.Parser.Tactic.tacticSeq|first | exact .inl rfl | exact .inr rfl)
namespace L2
open PySem PySem.Spec PyProof.Rows
section
variable {a b:Addr}
abbrev Key:=Sum Int Str
def kC:Key->Value->Bool
 | .inl k,v=>Value.isInt k v
 | .inr x,v=>Value.isStrOf x v
def Fz (w:World):Key->Int
 | .inl k=>hashInt k
 | .inr x=>hashStr w x
theorem cV:∀{k:Key} {v:Value},kC k v=true->(∃i t,k=Sum.inl i/\v=Value.int i t)∨(∃x t,k=Sum.inr x/\v=Value.str x t)
 | .inl i,v,h=>by
   obtain ⟨t,e⟩:=Value.isInt_shape (k:=i) (v:=v) h
   exact .inl ⟨i,t,rfl,e⟩
 | .inr x,v,h=>by
   obtain ⟨t,e⟩:=Value.isStrOf_shape (x:=x) (v:=v) h
   exact .inr ⟨x,t,rfl,e⟩
theorem tq (i:Int)(t:Tok):kC (.inl i) (.int i t)=true:=by simp [kC,Value.isInt]
theorem vp (x:Str)(t:Tok):kC (.inr x) (.str x t)=true:=by simp [kC,Value.isStrOf]
theorem A1 (a b:Int):decide ((Sum.inl a:Key)=Sum.inl b)=(a==b):=by
 by_cases e:a=b
 ·subst e;simp
 ·have h:¬(Sum.inl a:Key)=Sum.inl b:=λq=>e (Sum.inl.inj q)
  rw [decide_eq_false h]
  exact (beq_eq_false_iff_ne.mpr e).symm
theorem BM (a b:Str):decide ((Sum.inr a:Key)=Sum.inr b)=decide (a=b):=by
 by_cases e:a=b
 ·subst e;simp
 ·have h:¬(Sum.inr a:Key)=Sum.inr b:=λq=>e (Sum.inr.inj q)
  rw [decide_eq_false h,decide_eq_false e]
theorem Bz (a:Int)(b:Str):decide ((Sum.inl a:Key)=Sum.inr b)=false:=decide_eq_false (λq=>nomatch q)
theorem zX (a:Str)(b:Int):decide ((Sum.inr a:Key)=Sum.inl b)=false:=decide_eq_false (λq=>nomatch q)
def cz (prog:Program)(w:World):PySem.KeyKind prog w Key where
 is:=kC
 hash:=Fz w
 inj:=λv a b ha hb=>by
  rcases cV ha with ⟨i,t,rfl,rfl⟩ | ⟨x,t,rfl,rfl⟩
  ·rcases cV hb with ⟨j,u,rfl,e⟩ | ⟨y,u,rfl,e⟩
   ·injection e with e1 _;rw [e1]
   ·exact nomatch e
  ·rcases cV hb with ⟨j,u,rfl,e⟩ | ⟨y,u,rfl,e⟩
   ·exact nomatch e
   ·injection e with e1 _;rw [e1]
 byValue:=λk v h=>by
  rcases cV h with ⟨i,t,rfl,rfl⟩ | ⟨x,t,rfl,rfl⟩<;>rfl
 pyHash:=λhv h=>by
  rcases cV hv with ⟨i,t,rfl,rfl⟩ | ⟨x,t,rfl,rfl⟩
  ·exact wpAny_pyHash_int h
  ·exact wpAny_pyHash_str h
 eqBool:=λhu hv h=>by
  rcases cV hu with ⟨i,t,rfl,rfl⟩ | ⟨x,t,rfl,rfl⟩
  ·rcases cV hv with ⟨j,u,rfl,rfl⟩ | ⟨y,u,rfl,rfl⟩
   ·rw [A1] at h;exact wpAny_eqBool_int h
   ·rw [Bz] at h;exact SeqAt.EqAt.int_str i t y u _ _ _ _ h
  ·rcases cV hv with ⟨j,u,rfl,rfl⟩ | ⟨y,u,rfl,rfl⟩
   ·rw [zX] at h;exact SeqAt.EqAt.str_int x t j u _ _ _ _ h
   ·rw [BM] at h;exact wpAny_eqBool_str h
 «strs»:=λk x t v h=>by
  rcases cV h with ⟨i,u,rfl,e⟩ | ⟨y,u,rfl,e⟩
  ·exact nomatch e
  ·injection e with e1 _
   subst e1
   cases v<;>rfl
theorem pN (prog:Program)(w:World)(i:Int)(t:Tok):(cz prog w).is (.inl i) (.int i t)=true:=tq i t
theorem pX (prog:Program)(w:World)(x:Str)(t:Tok):(cz prog w).is (.inr x) (.str x t)=true:=vp x t
inductive V where
 | non | bl (b:Bool) | int (i:Int) | str (x:Str) | byt (b:Array UInt8) | flt (b:UInt64) | ref (a:Addr) | ty (n:String)
 deriving DecidableEq
def RelV:V->Value->Prop
 | .non,u=>u=Value.none
 | .bl b,u=>u=Value.bool b
 | .int i,u=>∃t,u=Value.int i t
 | .str x,u=>∃t,u=Value.str x t
 | .byt b,u=>∃t,u=Value.bytes b t
 | .flt b,u=>∃t,u=Value.float b t
 | .ref a,u=>u=Value.ref a
 | .ty n,u=>u=Value.type n
abbrev aK:List V->List Value->Prop:=Paired RelV
theorem aK.length {xs:List V}{us:List Value}(r:aK xs us):xs.length=us.length:=Paired.length r
theorem aK.get:∀{xs:List V} {us:List Value} {i:Nat} {x:V},aK xs us->xs[i]?=some x->∃u,us[i]?=some u/\RelV x u
 | _,_,_,_,.nil,e=>by simp at e
 | _,_,0,_,.cons r _,e=>by simp at e;subst e;exact ⟨_,rfl,r⟩
 | _,_,i + 1,x,.cons _ t,e=>by
   obtain ⟨u,h1,h2⟩:=aK.get (i:=i) (x:=x) t (by simpa using e)
   exact ⟨u,by simpa using h1,h2⟩
theorem aK.set {x:V}{u:Value}(r:RelV x u):∀{xs:List V} {us:List Value} (i:Nat),aK xs us->aK (xs.set i x) (us.set i u)
 | _,_,_,.nil=>.nil
 | _,_,0,.cons _ t=>.cons r t
 | _,_,i + 1,.cons q t=>.cons q (aK.set r i t)
theorem aK.append:∀{xs ys:List V} {us ws:List Value},aK xs us->aK ys ws->aK (xs++ys) (us++ws)
 | _,_,_,_,.nil,s=>s
 | _,_,_,_,.cons r t,s=>.cons r (aK.append t s)
theorem aK.take:∀{xs:List V} {us:List Value} (n:Nat),aK xs us->aK (xs.take n) (us.take n)
 | _,_,0,_=>.nil
 | _,_,_ + 1,.nil=>.nil
 | _,_,n + 1,.cons r t=>.cons r (aK.take n t)
theorem aK.drop:∀{xs:List V} {us:List Value} (n:Nat),aK xs us->aK (xs.drop n) (us.drop n)
 | _,_,0,r=>r
 | _,_,_ + 1,.nil=>.nil
 | _,_,n + 1,.cons _ t=>aK.drop n t
def gf:Option V->Option Value->Prop
 | some v,some u=>RelV v u
 | none,none=>True
 | _,_=>False
def KV {κ:Type}:List (κ×V)->List (κ×Value)->Prop:=Paired λ(p:κ×V) (q:κ×Value)=>p.1=q.1/\RelV p.2 q.2
def kV:Key->V
 | .inl i=>.int i
 | .inr x=>.str x
inductive HO where
 /-- a list -/
 | lst (xs:List V)
 /-- a tuple (never changes) -/
 | tup (xs:List V)
 /-- a dict whose keys are ints and texts;one whose keys are tuples of ints and texts (the empty one is both) -/
 | dK (kvs:List (Key×V)) | dT (kvs:List (List Key×V))
 /-- a set of ints:its members,its size -/
 | set (S:Int->Bool) (n:Nat)
 /-- an instance of the class at C,its dict at dx,its attributes -/
 | ins (C dx:Addr) (fs:List (Str×V))
 /-- the dict of the instance at x -/
 | own (x:Addr)
 /-- the dict of an exception -/
 | xd (fs:List (Str×V))
 /-- a bound method,f of x -/
 | met (f x:Addr)
 /-- a range object lo,lo + 1,.. below hi -/
 | rng (lo hi:Int)
 /-- a thing that is known to the object (the script;a dict while a loop walks it):read,never written while it is so -/
 | frz (o:Obj) (u:HO)
 /-- a code object's table -/
 | tbl (ps:Array Value)
 /-- any other thing,by what is true of its one object (a def of one's own:SetO a S n:=HO.ext λh=>..) -/
 | ext (φ:Heap->Prop)
abbrev Hp:=Addr->Option HO
def upd (H:Hp)(a:Addr)(o:HO):Hp:=λb=>if b=a then some o else H b
theorem au {H:Hp}{o:HO}:upd H a o a=some o:=by unfold upd;rw [if_pos rfl]
theorem aA {H:Hp}{o:HO}(h:b≠a):upd H a o b=H b:=by unfold upd;rw [if_neg h]
theorem yY {H:Hp}{o u:HO}:upd (upd H a o) a u=upd H a u:=by
 funext b;unfold upd;split<;>rfl
theorem Dc {H:Hp}{o u:HO}(h:H a=some o)(h':H b=some u)(d:o≠u):a≠b:=by
 intro e;subst e;rw [h] at h';exact d (Option.some.inj h')
theorem cD {H:Hp}{o:HO}(h:H a=some o)(h':H b=none):a≠b:=by
 intro e;subst e;rw [h] at h';cases h'
end
section
variable (P:Program)(w:World)
def cq (H:Hp)(h:Heap)(a:Addr):HO->Prop
 | .lst xs=>xs.length<=sizeLine/\∃(its:List Value) (n:Nat),aK xs its/\h.get? a=some {cls:=.type "list",data:=.seq its.toArray n}
 | .tup xs=>xs.length<=sizeLine/\∃its:List Value,aK xs its/\IsTup h a its.toArray
 | .dK kvs=>kvs.length<=sizeLine/\(a==sysModules)=false/\∃vs,KV kvs vs/\h.DictOf (cz P w) a vs
 | .dT kvs=>kvs.length<=sizeLine/\(a==sysModules)=false/\∃xs:List (List Key×Addr×Value),
  Paired (λ(p:List Key×V) (q:List Key×Addr×Value)=>p.1=q.1/\H q.2.1=some (.tup (p.1.map kV))/\RelV p.2 q.2.2) kvs xs/\
  ∃o es ep,h.get? a=some o/\o.ExactDict/\o.data= .dict es ep/\es.toList=xs.map (entryOfKey (tupleKind (cz P w)))/\(xs.map (·.1)).Nodup
 | .set S n=>h.SetOf (intKind P w) a S n
 | .ins C dx fs=>H dx=some (.own a)/\fs.length<=1000/\dx≠a/\h.get? a=some (PySem.W.instObj C dx)/\
  ∃mA,h.Ns1 dx mA/\(∀f,gf (fs.lookup f) (mA f))/\PySem.Within mA (fs.map (·.1))
 | .own _=>∃o,h.get? a=some o
 | .xd fs=>∃mA,h.Ns1 a mA/\∀f,gf (fs.lookup f) (mA f)
 | .rng lo hi=>∃t u v,h.get? a=some {cls:=.type "range",data:=.fields #[.int lo t,.int hi u,.int 1 v]}
 | .frz o u=>h.get? a=some o/\cq H h a u
 | .tbl ps=>h.get? a=some {cls:=.none,data:=.fields ps}
 | .met f x=>h.get? a=some (PySem.W.methodObj (.ref f) (.ref x))
 | .ext φ=>φ h/\(∃o,h.get? a=some o)/\∀h1 h2:Heap,φ h1->(∀o,h1.get? a=some o->h2.get? a=some o)->φ h2
def c9 (H:Hp)(h:Heap):Prop:=∀a o,H a=some o->cq P w H h a o
end
section
variable {P:Program}{w:World}{H H':Hp}{h h':Heap}{a:Addr}{o:HO}
theorem cq.lt (x:cq P w H h a o):a < h.objs.size:=by
 cases o with
 | lst xs=>obtain ⟨_,_,_,_,e⟩:=x;exact Heap.lt_size e
 | tup xs=>obtain ⟨_,_,_,p⟩:=x;exact p.lt
 | dK kvs=>obtain ⟨_,_,_,_,o,_,_,e,_⟩:=x;exact Heap.lt_size e
 | dT kvs=>obtain ⟨_,_,_,_,o,_,_,e,_⟩:=x;exact Heap.lt_size e
 | set S n=>obtain ⟨o,_,_,_,e,_⟩:=x;exact Heap.lt_size e
 | ins C dx fs=>obtain ⟨_,_,_,e,_⟩:=x;exact Heap.lt_size e
 | own y=>obtain ⟨_,e⟩:=x;exact Heap.lt_size e
 | xd fs=>obtain ⟨_,⟨_,_,_,e,_⟩,_⟩:=x;exact Heap.lt_size e
 | rng lo hi=>obtain ⟨_,_,_,e⟩:=x;exact Heap.lt_size e
 | frz ob u=>obtain ⟨e,_⟩:=x;exact Heap.lt_size e
 | tbl ps=>exact Heap.lt_size (show h.get? a=some _ from x)
 | met f y=>exact Heap.lt_size (show h.get? a=some _ from x)
 | ext φ=>obtain ⟨_,⟨_,e⟩,_⟩:=x;exact Heap.lt_size e
theorem Paired.vP {α β:Type}{F G:α->β->Prop}:∀{l₁:List α} {l₂:List β},Paired F l₁ l₂->(∀a b,F a b->G a b)->Paired G l₁ l₂
 | _,_,.nil,_=>.nil
 | _,_,.cons r t,f=>.cons (f _ _ r) (Paired.vP t f)
theorem cq.jU (x:cq P w H h a o)(k:∀b u,(b=a∨H b=some (.own a))->h.get? b=some u->h'.get? b=some u)
 (ho:∀b,H b=some (.own a)->H' b=some (.own a)) (ht:∀b xs,H b=some (.tup xs)->H' b=some (.tup xs)):cq P w H' h' a o:=by
 induction o with
 | lst xs=>obtain ⟨z,its,n,r,e⟩:=x;exact ⟨z,its,n,r,k _ _ (.inl rfl) e⟩
 | tup xs=>obtain ⟨z,its,r,ob,e,c⟩:=x;exact ⟨z,its,r,ob,k _ _ (.inl rfl) e,c⟩
 | dK kvs=>obtain ⟨z,y,vs,r,ob,es,ep,e,c⟩:=x;exact ⟨z,y,vs,r,ob,es,ep,k _ _ (.inl rfl) e,c⟩
 | dT kvs=>
   obtain ⟨z,y,xs,r,ob,es,ep,e,c⟩:=x
   exact ⟨z,y,xs,Paired.vP r λp q z=>⟨z.1,ht _ _ z.2.1,z.2.2⟩,ob,es,ep,k _ _ (.inl rfl) e,c⟩
 | set S n=>obtain ⟨ob,es,ep,t,e,c⟩:=x;exact ⟨ob,es,ep,t,k _ _ (.inl rfl) e,c⟩
 | ins C dx fs=>
   obtain ⟨d,z,ne,e,mA,⟨od,es,ep,e2,c⟩,r⟩:=x
   exact ⟨ho _ d,z,ne,k _ _ (.inl rfl) e,mA,⟨od,es,ep,k _ _ (.inr d) e2,c⟩,r⟩
 | own y=>obtain ⟨ob,e⟩:=x;exact ⟨ob,k _ _ (.inl rfl) e⟩
 | xd fs=>obtain ⟨mA,⟨od,es,ep,e,c⟩,r⟩:=x;exact ⟨mA,⟨od,es,ep,k _ _ (.inl rfl) e,c⟩,r⟩
 | rng lo hi=>obtain ⟨t,u,v,e⟩:=x;exact ⟨t,u,v,k _ _ (.inl rfl) e⟩
 | frz ob u ih=>obtain ⟨e,q⟩:=x;exact ⟨k _ _ (.inl rfl) e,ih q⟩
 | tbl ps=>
   have e:h.get? a=some {cls:=.none,data:=.fields ps}:=x
   show h'.get? a=some {cls:=.none,data:=.fields ps}
   exact k a _ (.inl rfl) e
 | met f y=>
   have e:h.get? a=some (PySem.W.methodObj (.ref f) (.ref y)):=x
   show h'.get? a=some (PySem.W.methodObj (.ref f) (.ref y))
   exact k a _ (.inl rfl) e
 | ext φ=>obtain ⟨p,⟨o,e⟩,st⟩:=x;exact ⟨st _ _ p λo q=>k _ _ (.inl rfl) q,⟨o,k _ _ (.inl rfl) e⟩,st⟩
theorem c9.lt (x:c9 P w H h)(e:H a=some o):a < h.objs.size:=(x a o e).lt
theorem c9.fresh (x:c9 P w H h)(e:h.objs.size<=a):H a=none:=by
 cases q:H a with
 | none=>rfl
 | some u=>exact absurd (Nat.lt_of_lt_of_le (x.lt q) e) (Nat.lt_irrefl _)
theorem c9.kept (x:c9 P w H h)(k:∀b u,h.get? b=some u->h'.get? b=some u):c9 P w H h':=λa o e=>
 (x a o e).jU (λb u _ q=>k b u q) (λ_ q=>q) λ_ _ q=>q
theorem c9.laid (x:c9 P w H h)(k:∀b u,h.get? b=some u->h'.get? b=some u)(hp:h.objs.size<=a)(new:cq P w (upd H a o) h' a o):c9 P w (upd H a o) h':=λb u e=>by
 have hn:=x.fresh hp
 by_cases hb:b=a
 ·subst hb;rw [au] at e;cases e;exact new
 ·rw [aA hb] at e
  exact (x b u e).jU (λc v _ q=>k c v q) (λc q=>by rw [aA (cD q hn)];exact q) λc xs q=>by rw [aA (cD q hn)];exact q
end
def Rd (H:Hp)(a:Addr)(u:HO):Prop:=H a=some u∨∃o,H a=some (.frz o u)
theorem Rd.ok {P:Program}{w:World}{H:Hp}{h:Heap}{a:Addr}{u:HO}(r:Rd H a u)(x:c9 P w H h):cq P w H h a u:=by
 rcases r with r | ⟨o,r⟩
 ·exact x a u r
 ·obtain ⟨_,q⟩:=x a _ r
  exact q
def vt:Option HO->Prop
 | some (.lst _)=>True
 | some (.dK _)=>True
 | some (.dT _)=>True
 | some (.set _ _)=>True
 | some (.ins _ _ _)=>True
 | some (.ext _)=>True
 | _=>False
section
variable {P:Program}{w:World}{H:Hp}{h h':Heap}{x e:Addr}{o':HO}
theorem c9.write (ok:c9 P w H h)(mu:vt (H x))(he:e=x∨H e=some (.own x))(k:∀b u,b≠e->h.get? b=some u->h'.get? b=some u)(heo:∃u,h'.get? e=some u)
 (new:cq P w (upd H x o') h' x o'):c9 P w (upd H x o') h':=λb u q=>by
 have nown:∀c y,H c=some (.own y)->c≠x:=λc y r z=>by subst z;rw [r] at mu;exact mu
 have ntup:∀c xs,H c=some (.tup xs)->c≠x:=λc xs r z=>by subst z;rw [r] at mu;exact mu
 by_cases hb:b=x
 ·subst hb;rw [au] at q;cases q;exact new
 ·rw [aA hb] at q
  by_cases hbe:b=e
  ·have q':H b=some (.own x):=by
    rcases he with z | z
    ·exact absurd (hbe.trans z) hb
    ·rw [hbe];exact z
   rw [q] at q';cases q'
   obtain ⟨v,hv⟩:=heo
   exact ⟨v,by rw [hbe];exact hv⟩
  ·refine (ok b u q).jU (λc v hc r=>k c v ?_ r) (λc r=>by rw [aA (nown c b r)];exact r) λc xs r=>by rw [aA (ntup c xs r)];exact r
   rcases hc with rfl | hc
   ·exact hbe
   ·rintro rfl
    rcases he with z | z
    ·exact nown c b hc z
    ·rw [hc] at z;cases z;exact hb rfl
end
structure Un (fs ex:List Addr) (H H':Hp) (h h':Heap):Prop where
 keep:∀b o,h.get? b=some o->H b=none->b∉fs->b∉ex->h'.get? b=some o
 slot:∀b o,h.get? b=some o->H b=none->b∈fs->b∉ex->∃sl,h'.get? b=some {o with slots:=sl}
 free:∀b o,h.get? b=some o->H b=none->b∉ex->H' b=none
 there:∀b o,h.get? b=some o->b∉ex->∃o',h'.get? b=some o'
 tups:∀b xs,H b=some (.tup xs)->H' b=some (.tup xs)
 frzs:∀b o u,H b=some (.frz o u)->H' b=some (.frz o u)
 tbls:∀b ps,H b=some (.tbl ps)->∃more,H' b=some (.tbl (ps++more))
section
variable {fs fs' ex ex':List Addr}{H H1 H2:Hp}{h h1 h2 h':Heap}{a x e:Addr}{o:HO}
theorem Un.any (u:Un fs ex H H1 h h1){b:Addr}{ob:Obj}(q:h.get? b=some ob)(n:H b=none)(hx:b∉ex):∃sl,h1.get? b=some {ob with slots:=sl}:=by
 by_cases hb:b∈fs
 ·exact u.slot b ob q n hb hx
 ·exact ⟨ob.slots,u.keep b ob q n hb hx⟩
theorem Un.kept (k:∀b u,h.get? b=some u->h'.get? b=some u):Un fs ex H H h h':=
 ⟨λb ob q _ _ _=>k b ob q,λb ob q _ _ _=>⟨ob.slots,k b ob q⟩,λ_ _ _ n _=>n,λb ob q _=>⟨ob,k b ob q⟩,λ_ _ q=>q,λ_ _ _ q=>q,λ_ ps q=>⟨#[],by rw [q];simp⟩⟩
theorem Un.refl:Un fs ex H H h h:=Un.kept λ_ _ q=>q
theorem Un.laid (k:∀b u,h.get? b=some u->h'.get? b=some u)(hp:h.objs.size<=a)(hn:H a=none):Un fs ex H (upd H a o) h h' where
 keep:=λb u q _ _ _=>k b u q
 slot:=λb u q _ _ _=>⟨u.slots,k b u q⟩
 free:=λb u q n _=>by rw [aA (Nat.ne_of_lt (Nat.lt_of_lt_of_le (Heap.lt_size q) hp))];exact n
 there:=λb u q _=>⟨u,k b u q⟩
 tups:=λb xs q=>by rw [aA (cD q hn)];exact q
 frzs:=λb u xs q=>by rw [aA (cD q hn)];exact q
 tbls:=λb ps q=>⟨#[],by rw [aA (cD q hn),q];simp⟩
theorem Un.write (mu:vt (H x))(he:e=x∨H e=some (.own x))(k:∀b u,b≠e->h.get? b=some u->h'.get? b=some u)(heo:∃u,h'.get? e=some u):Un fs ex H (upd H x o) h h':=by
 have hx:∀b,H b=none->b≠x:=λb n z=>by subst z;rw [n] at mu;exact mu
 have hb:∀b,H b=none->b≠e:=λb n z=>by
  subst z
  rcases he with r | r
  ·exact hx b n r
  ·rw [n] at r;cases r
 have hm:∀b u,H b=some u->¬vt (some u)->b≠x:=λb u q nm z=>by subst z;rw [q] at mu;exact nm mu
 refine ⟨λb u q n _ _=>k b u (hb b n) q,λb u q n _ _=>⟨u.slots,k b u (hb b n) q⟩,λb u q n _=>by rw [aA (hx b n)];exact n,λb u q _=>?_,
  λb xs q=>by rw [aA (hm b _ q λz=>z)];exact q,λb u xs q=>by rw [aA (hm b _ q λz=>z)];exact q,λb ps q=>⟨#[],by rw [aA (hm b _ q λz=>z),q];simp⟩⟩
 by_cases hbe:b=e
 ·subst hbe;exact heo
 ·exact ⟨u,k b u hbe q⟩
end
def xA (h:Heap)(H:Hp):List Addr:=(List.range h.objs.size).filter λa=>(H a).isSome
def jB (h:Heap)(H:Hp):Heap:=PySem.W.hideAll h (xA h H)
theorem tH (h:Heap)(H:Hp):(jB h H).objs.size=h.objs.size:=PySem.W.hideAll_size _ _
theorem wc {h:Heap}{H:Hp}{b:Addr}{o:Obj}(e:h.get? b=some o)(n:H b=none):(jB h H).get? b=some o:=
 PySem.W.hideAll_get _ e λhm=>by
  have q:(H b).isSome=true:=(mem_filter.mp hm).2
  rw [n] at q;simp at q
theorem zj {h:Heap}{H:Hp}{b:Addr}{o:Obj}(e:(jB h H).get? b=some o):h.get? b=some o/\H b=none:=by
 have e':h.get? b=some o:=PySem.W.of_hideAll (xA h H) e
 refine ⟨e',?_⟩
 cases q:H b with
 | none=>rfl
 | some x=>
   have hm:b∈xA h H:=mem_filter.mpr ⟨mem_range.mpr (Heap.lt_size e'),by simp [q]⟩
   have z:(jB h H).get? b=none:=PySem.W.hideAll_none (xA h H) hm
   rw [z] at e;cases e
structure Mod (K:PySem.W.Frag) (mg:Str->Option Value) (base:Heap):Prop where
 kin:K.In base
 glob:base.Ns mainGlobals mg
 blt:∃mb,base.Ns builtinsNs mb/\∀x:Str,x≠"__name__"->mb x=bootBuiltins x
 nolimit:base.NoLimit
structure Cx where
 prog:Program
 w:World
 K:PySem.W.Frag
 mg:Str->Option Value
 base:Heap
 A:Around
 N:List Str
 s₀:Shared
 H₀:Hp
 env:Env
 outer:List Env
 stack:List Env
 ex:List Addr
 fn:Str->Bool
 calm:Bool
 pn:List (Addr×Obj)
 xe:Value->Shared->Prop
def i7 (l:List Env):List Addr:=l.filterMap (·.frame)
abbrev Cx.fs (X:Cx):List Addr:=i7 X.outer
def bS (sc:Scope)(x:Str):Prop:=sc.names.lookup x=some .local∨sc.names.lookup x=some .cell∨sc.names.lookup x=some .free
def Loc (sc:Scope)(x:Str):Prop:=sc.names.lookup x=some .local∨sc.names.lookup x=some .cell
def FO (env:Env)(h:Heap)(m:Str->Option Value)(x:Str)(u:Value):Prop:=
 (env.kindOf x=some .local/\m x=some u)∨((env.kindOf x=some .cell∨env.kindOf x=some .free)/\∃c,env.cells.lookup x=some c/\h.IsCell c (some u))
structure Cx.Ok (X:Cx):Prop where
 mod:Mod X.K X.mg X.base
 kind:X.env.scope.kind= .function
 glob:X.env.globals=mainGlobals
 blt:X.env.builtins=builtinsNs
 above:X.s₀.heap.objs.size<=X.env.locals
 inj:∀x y c,X.env.cells.lookup x=some c->X.env.cells.lookup y=some c->x=y
 has:∀x,(X.env.kindOf x=some .cell∨X.env.kindOf x=some .free)->∃c,X.env.cells.lookup x=some c
 cab:∀x c,X.fn x=true->X.env.cells.lookup x=some c->X.s₀.heap.objs.size<=c
 hd:X.calm=true->X.A.handled=none
 frames:X.A.frames=some X.stack
 stk:X.stack=X.outer∨(X.stack=X.env::X.outer/\X.env.frame=some X.env.locals)
 exf:∀b∈X.ex,b≠X.env.locals/\∀x c,X.env.cells.lookup x=some c->c≠b
 bs:∀b o,X.base.get? b=some o->X.s₀.heap.get? b=some o/\X.H₀ b=none
 bsz:X.base.objs.size<=X.s₀.heap.objs.size
 noex:∀b o,X.base.get? b=some o->b∉X.ex
 exfs:∀b∈X.ex,b∉X.fs
 funs:X.s₀.heap.FunFrames X.base X.outer
 frf:∀b∈X.fs,X.H₀ b=none
structure Inv (X:Cx) (pins:List (Addr×Obj)) (σ:List (Option V)) (H:Hp) (s:Shared):Prop where
 ok:X.Ok
 os:s.os=X.s₀.os
 bare:AllBare s.gens
 base:Un X.fs X.ex X.H₀ H X.s₀.heap s.heap
 loc:∃m,s.heap.Ns X.env.locals m/\∀(i:Nat) (x:Str) (v:V),X.N[i]?=some x->σ[i]?=some (some v)->bS X.env.scope x->∃u,RelV v u/\FO X.env s.heap m x u
 cell:∀x c,X.env.cells.lookup x=some c->∃v,s.heap.IsCell c v
 free:H X.env.locals=none
 freeC:∀x c,X.env.cells.lookup x=some c->H c=none
 pin:∀p∈X.pn++pins,s.heap.get? p.1=some p.2/\H p.1=none/\p.1≠X.env.locals/\p.1∉X.fs/\∀v,p.2.data≠ .cell v
 hok:c9 X.prog X.w H s.heap
 len:σ.length=X.N.length
section
variable {X:Cx}{pins:List (Addr×Obj)}{σ:List (Option V)}{H H':Hp}{s:Shared}{h':Heap}
variable {t':Nat}{ch:List Addr}{x:Str}{i:Nat}
theorem Cx.Ok.FD (ok:X.Ok){b:Addr}{o:Obj}(e:X.base.get? b=some o):b∉X.fs:=λhb=>by
 have:=(ok.funs.mem hb).1
 rw [e] at this;cases this
theorem Inv.bs (I:Inv X pins σ H s):∀b o,X.base.get? b=some o->s.heap.get? b=some o/\H b=none:=λb o e=>
 ⟨I.base.keep b o (I.ok.bs b o e).1 (I.ok.bs b o e).2 (I.ok.FD e) (I.ok.noex b o e),I.base.free b o (I.ok.bs b o e).1 (I.ok.bs b o e).2 (I.ok.noex b o e)⟩
theorem Inv.bk (I:Inv X pins σ H s):∀b o,X.base.get? b=some o->s.heap.get? b=some o:=λb o e=>(I.bs b o e).1
theorem Inv.mod (I:Inv X pins σ H s):Mod X.K X.mg X.base:=I.ok.mod
theorem Inv.gD (I:Inv X pins σ H s):X.K.In s.heap:=I.ok.mod.kin.keeps I.bk
theorem Inv.lt (I:Inv X pins σ H s):X.env.locals < s.heap.objs.size:=let ⟨_,hn,_⟩:=I.loc;hn.lt
theorem Inv.sz (I:Inv X pins σ H s):X.s₀.heap.objs.size<=s.heap.objs.size:=Nat.le_trans I.ok.above (Nat.le_of_lt I.lt)
theorem Inv.FJ (I:Inv X pins σ H s){a:Addr}(h:s.heap.objs.size<=a):a∉X.fs:=λhb=>by
 obtain ⟨_,o,ho,_⟩:=I.ok.funs.mem hb
 exact absurd (Nat.lt_of_lt_of_le (Heap.lt_size ho) (Nat.le_trans I.sz h)) (Nat.lt_irrefl _)
theorem Inv.cne (I:Inv X pins σ H s):∀x c,X.env.cells.lookup x=some c->c≠X.env.locals:=λx c e z=>by
 obtain ⟨v,o,ho,hd⟩:=I.cell x c e
 obtain ⟨m,⟨o',es,ep,ho',hd',_⟩,_⟩:=I.loc
 rw [z,ho'] at ho;cases ho;rw [hd'] at hd;cases hd
theorem Inv.funs (I:Inv X pins σ H s):s.heap.FunFrames X.base X.outer:=by
 have all:∀(l:List Env),(∀b∈i7 l,b∈X.fs)->X.s₀.heap.FunFrames X.base l->s.heap.FunFrames X.base l:=by
  intro l
  induction l with
  | nil=>intro _ _;trivial
  | cons env r ih=>
    intro hs hl
    obtain ⟨hk,⟨L,o,hf,hn,ho,hd⟩,hr⟩:=hl
    have hL:L∈X.fs:=hs L (by unfold i7;rw [filterMap_cons,hf];exact mem_cons_self)
    obtain ⟨sl,e⟩:=I.base.slot L o ho (I.ok.frf L hL) hL λz=>I.ok.exfs L z hL
    exact ⟨hk,⟨L,_,hf,hn,e,hd⟩,ih (λb hb=>hs b (by unfold i7;rw [filterMap_cons,hf];exact mem_cons_of_mem _ hb)) hr⟩
 exact all X.outer (λ_ hb=>hb) I.ok.funs
theorem Inv.stack (I:Inv X pins σ H s):s.heap.FunFrames X.base X.stack:=by
 rcases I.ok.stk with e | ⟨e,hf⟩
 ·rw [e];exact I.funs
 ·rw [e]
  obtain ⟨m,hn,_⟩:=I.loc
  refine .cons (by rw [I.ok.kind];decide) hf hn ?_ I.funs
  exact Heap.get?_none_of_le (Nat.le_trans I.ok.bsz I.ok.above)
theorem Inv.pJ (I:Inv X pins σ H s):∀b∈i7 X.stack,b∈X.env.locals::X.fs:=λb hb=>by
 rcases I.ok.stk with e | ⟨e,hf⟩
 ·rw [e] at hb;exact mem_cons_of_mem _ hb
 ·rw [e] at hb
  unfold i7 at hb
  rw [filterMap_cons,hf] at hb
  exact hb
theorem Inv.qv (I:Inv X pins σ H s):∀b∈i7 X.stack,H b=none:=λb hb=>by
 rcases mem_cons.mp (I.pJ b hb) with e | hb
 ·rw [e];exact I.free
 ·obtain ⟨_,o,ho,_⟩:=I.ok.funs.mem hb
  exact I.base.free b o ho (I.ok.frf b hb) λz=>I.ok.exfs b z hb
theorem Inv.step {g':Array GenState}{d':Drawn}(I:Inv X pins σ H s)
 (hch:∀b∈ch,(b∈X.ex∨X.s₀.heap.objs.size<=b)/\b≠X.env.locals/\(∀x c,X.env.cells.lookup x=some c->c≠b)/\∀p∈X.pn++pins,p.1≠b)
 (keep:∀b o,b≠X.env.locals->b∉X.fs->b∉ch->s.heap.get? b=some o->H b=none->h'.get? b=some o)
 (slot:∀b o,b≠X.env.locals->b∈X.fs->b∉ch->s.heap.get? b=some o->H b=none->∃sl,h'.get? b=some {o with slots:=sl}) (free:∀b o,b∉ch->s.heap.get? b=some o->H b=none->H' b=none)
 (there:∀b o,b∉ch->s.heap.get? b=some o->∃o',h'.get? b=some o')
 (tups:∀b xs,H b=some (.tup xs)->H' b=some (.tup xs)) (frzs:∀b o u,H b=some (.frz o u)->H' b=some (.frz o u)) (tbls:∀b ps,H b=some (.tbl ps)->∃more,H' b=some (.tbl (ps++more)))
 (ns:∀m,s.heap.Ns X.env.locals m->h'.Ns X.env.locals m) (hok:c9 X.prog X.w H' h') (hg:AllBare g'):
 Inv X pins σ H' {s with heap:=h',gens:=g',drawn:=d',toks:=t'}:=by
 have neL:∀b o,X.s₀.heap.get? b=some o->b≠X.env.locals:=λb o e=>Nat.ne_of_lt (Nat.lt_of_lt_of_le (Heap.lt_size e) I.ok.above)
 have neC:∀b o,X.s₀.heap.get? b=some o->b∉X.ex->b∉ch:=λb o e hx hb=>by
  rcases (hch b hb).1 with z | z
  ·exact hx z
  ·exact absurd (Nat.lt_of_lt_of_le (Heap.lt_size e) z) (Nat.lt_irrefl _)
 have cellK:∀x c,X.env.cells.lookup x=some c->∀v,s.heap.IsCell c v->h'.IsCell c v:=λx c e v ⟨o,ho,hd⟩=>by
  have nch:c∉ch:=λz=>(hch c z).2.2.1 x c e rfl
  by_cases hc:c∈X.fs
  ·obtain ⟨sl,q⟩:=slot c o (I.cne x c e) hc nch ho (I.freeC x c e)
   exact ⟨_,q,hd⟩
  ·exact ⟨o,keep c o (I.cne x c e) hc nch ho (I.freeC x c e),hd⟩
 refine ⟨I.ok,I.os,hg,⟨λb o e n hb hx=>?_,λb o e n hb hx=>?_,λb o e n hx=>?_,λb o e hx=>?_,λb xs e=>tups b xs (I.base.tups b xs e),λb o xs e=>frzs b o xs (I.base.frzs b o xs e),λb ps e=>?_⟩,?_,λx c e=>?_,?_,λx c e=>?_,λp hp=>?_,hok,I.len⟩
 ·exact keep b o (neL b o e) hb (neC b o e hx) (I.base.keep b o e n hb hx) (I.base.free b o e n hx)
 ·obtain ⟨sl,e1⟩:=I.base.slot b o e n hb hx
  obtain ⟨sl',e2⟩:=slot b _ (neL b o e) hb (neC b o e hx) e1 (I.base.free b o e n hx)
  exact ⟨sl',e2⟩
 ·obtain ⟨o',e1⟩:=I.base.there b o e hx
  exact free b o' (neC b o e hx) e1 (I.base.free b o e n hx)
 ·obtain ⟨o',e1⟩:=I.base.there b o e hx
  exact there b o' (neC b o e hx) e1
 ·obtain ⟨m1,e1⟩:=I.base.tbls b ps e
  obtain ⟨m2,e2⟩:=tbls b _ e1
  exact ⟨m1++m2,by rw [e2,Array.append_assoc]⟩
 ·obtain ⟨m,hn,hl⟩:=I.loc
  refine ⟨m,ns m hn,λi x v e1 e2 e3=>?_⟩
  obtain ⟨u,r,l⟩:=hl i x v e1 e2 e3
  refine ⟨u,r,?_⟩
  rcases l with l | ⟨k,c,e,z⟩
  ·exact .inl l
  ·exact .inr ⟨k,c,e,cellK x c e _ z⟩
 ·obtain ⟨v,z⟩:=I.cell x c e
  exact ⟨v,cellK x c e v z⟩
 ·obtain ⟨m,⟨o,_,_,ho,_⟩,_⟩:=I.loc
  exact free _ o (λz=>(hch _ z).2.1 rfl) ho I.free
 ·obtain ⟨v,o,ho,hd⟩:=I.cell x c e
  exact free c o (λz=>(hch c z).2.2.1 x c e rfl) ho (I.freeC x c e)
 ·obtain ⟨e,n,ne,nf,d⟩:=I.pin p hp
  have nch:p.1∉ch:=λz=>(hch p.1 z).2.2.2 p hp rfl
  exact ⟨keep p.1 p.2 ne nf nch e n,free p.1 p.2 nch e n,ne,nf,d⟩
theorem Inv.un (I:Inv X pins σ H s)(u:Un X.fs [] H H' s.heap h')(hok:c9 X.prog X.w H' h'):Inv X pins σ H' {s with heap:=h',toks:=t'}:=by
 obtain ⟨m,⟨o,es,ep,ho,r⟩,_⟩:=id I.loc
 obtain ⟨sl,hL⟩:=u.any ho I.free (by simp)
 exact I.step (g':=s.gens) (d':=s.drawn) (ch:=[]) (λ_ z=>nomatch z) (λb o _ hb _ e n=>u.keep b o e n hb (by simp)) (λb o _ hb _ e n=>u.slot b o e n hb (by simp)) (λb o _ e n=>u.free b o e n (by simp)) (λb o _ e=>u.there b o e (by simp)) u.tups u.frzs u.tbls (λm' hm=>by
  obtain ⟨o',es',ep',ho',r'⟩:=hm
  rw [ho] at ho';cases ho'
  exact ⟨_,es',ep',hL,r'⟩) hok I.bare
theorem Inv.call {g':Array GenState}{d':Drawn}(I:Inv X pins σ H s)(u:Un (i7 X.stack) ch H H' s.heap h')(hok:c9 X.prog X.w H' h')(hg:AllBare g')
 (hch:∀b∈ch,(b∈X.ex∨X.s₀.heap.objs.size<=b)/\b≠X.env.locals/\(∀x c,X.env.cells.lookup x=some c->c≠b)/\∀p∈X.pn++pins,p.1≠b):
 Inv X pins σ H' {s with heap:=h',gens:=g',drawn:=d',toks:=t'}:=by
 obtain ⟨m,⟨o,es,ep,ho,r⟩,_⟩:=id I.loc
 obtain ⟨sl,hL⟩:=u.any ho I.free λz=>(hch _ z).2.1 rfl
 exact I.step (ch:=ch) hch (λb o hL hb hc e n=>u.keep b o e n (λz=>(mem_cons.mp (I.pJ b z)).elim hL hb) hc) (λb o _ _ hc e n=>u.any e n hc) (λb o hc e n=>u.free b o e n hc) (λb o hc e=>u.there b o e hc) u.tups u.frzs u.tbls (λm' hm=>by
  obtain ⟨o',es',ep',ho',r'⟩:=hm
  rw [ho] at ho';cases ho'
  exact ⟨_,es',ep',hL,r'⟩) hok hg
theorem Inv.turned {it:Addr}(I:Inv X pins σ H s)(k:∀b o,b≠it->s.heap.get? b=some o->h'.get? b=some o)(hn:H it=none)(hL:it≠X.env.locals)
 (h1:it∈X.ex∨X.s₀.heap.objs.size<=it) (h2:∀x c,X.env.cells.lookup x=some c->c≠it) (h3:∀p∈X.pn++pins,p.1≠it):Inv X pins σ H {s with heap:=h',toks:=t'}:=by
 have nit:∀b u,H b=some u->b≠it:=λb u e z=>by rw [z,hn] at e;cases e
 refine I.step (g':=s.gens) (d':=s.drawn) (ch:=[it]) (λb hb=>?_) (λb o _ _ hc e _=>k b o (λz=>hc (by simp [z])) e) (λb o _ _ hc e _=>⟨o.slots,k b o (λz=>hc (by simp [z])) e⟩) (λ_ _ _ _ n=>n)
  (λb o hc e=>⟨o,k b o (λz=>hc (by simp [z])) e⟩) (λ_ _ e=>e) (λ_ _ _ e=>e) (λb ps e=>⟨#[],by rw [e];simp⟩) (λm hm=>?_) (λb u e=>?_) I.bare
 ·have e:b=it:=by simpa using hb
  subst e
  exact ⟨h1,hL,h2,h3⟩
 ·obtain ⟨o,es,ep,ho,r⟩:=hm
  exact ⟨o,es,ep,k _ o (Ne.symm hL) ho,r⟩
 ·refine (I.hok b u e).jU (λc v hc q=>k c v ?_ q) (λ_ q=>q) λ_ _ q=>q
  rcases hc with z | z
  ·rw [z];exact nit b u e
  ·exact nit c _ z
theorem Inv.tok (I:Inv X pins σ H s)(t:Nat):Inv X pins σ H {s with toks:=t}:=I.un (h':=s.heap) (t':=t) Un.refl I.hok
theorem Inv.kept (I:Inv X pins σ H s)(k:∀b u,s.heap.get? b=some u->h'.get? b=some u):Inv X pins σ H {s with heap:=h',toks:=t'}:=I.un (Un.kept k) (I.hok.kept k)
theorem Inv.laid {a:Addr}{o:HO}(I:Inv X pins σ H s)(k:∀b u,s.heap.get? b=some u->h'.get? b=some u)(hp:s.heap.objs.size<=a)(new:cq X.prog X.w (upd H a o) h' a o):
 Inv X pins σ (upd H a o) {s with heap:=h',toks:=t'}:=I.un (Un.laid k hp (I.hok.fresh hp)) (I.hok.laid k hp new)
theorem Inv.write {x e:Addr}{o:HO}(I:Inv X pins σ H s)(mu:vt (H x))(he:e=x∨H e=some (.own x))(k:∀b u,b≠e->s.heap.get? b=some u->h'.get? b=some u)(heo:∃u,h'.get? e=some u)
 (new:cq X.prog X.w (upd H x o) h' x o):Inv X pins σ (upd H x o) {s with heap:=h',toks:=t'}:=I.un (Un.write mu he k heo) (I.hok.write mu he k heo new)
theorem Inv.gZ {pins':List (Addr×Obj)}(I:Inv X pins σ H s)(h:∀p∈pins',s.heap.get? p.1=some p.2/\H p.1=none/\p.1≠X.env.locals/\p.1∉X.fs/\∀v,p.2.data≠ .cell v):Inv X pins' σ H s:=
 ⟨I.ok,I.os,I.bare,I.base,I.loc,I.cell,I.free,I.freeC,λp hp=>(mem_append.mp hp).elim (λz=>I.pin p (mem_append_left _ z)) (h p),I.hok,I.len⟩
theorem oZ {N:List Str}(hN:N.Nodup){j:Nat}(a:N[i]?=some x)(b:N[j]?=some x):i=j:=by
 obtain ⟨h1,e1⟩:=List.getElem?_eq_some_iff.mp a
 obtain ⟨h2,e2⟩:=List.getElem?_eq_some_iff.mp b
 exact (getElem_inj hN).mp (e1.trans e2.symm)
theorem nh {M:Model}{A:Around}{E:Value->Shared->Prop}{v:V}{u:Value}{Q:Unit->Shared->Prop}(I:Inv X pins σ H s)(hN:X.N.Nodup)(hi:X.N[i]?=some x)(hx:Loc X.env.scope x)(r:RelV v u)
 (h:∀s',Inv X pins (σ.set i (some v)) H s'->(∃a,Heap.SameBut a s.heap s'.heap/\(a=X.env.locals∨X.env.cells.lookup x=some a))->Q () s') (hf:X.fn x=true∨X.env.scope.names.lookup x=some .local:=by first | exact .inl rfl | exact .inr rfl | assumption):wpAny M A (storeName X.env x u) Q E s:=by
 obtain ⟨m,hn,hl⟩:=id I.loc
 have hcls:(X.env.scope.kind== .class ||(X.env.scope.kind== .module&&X.env.locals != X.env.globals))=false:=by rw [I.ok.kind];rfl
 have hiσ:i < σ.length:=by rw [I.len];exact (List.getElem?_eq_some_iff.mp hi).1
 have cne:=I.cne
 have tracked:∀{a:Addr} {h':Heap},(∃o,s.heap.get? a=some o/\H a=none)->Heap.SameBut a s.heap h'->c9 X.prog X.w H h':=λ{a h'} ha hs b ob e=>by
  obtain ⟨_,_,hfree⟩:=ha
  refine (I.hok b ob e).jU (λc w' hc q=>(hs.2 c ?_).trans q) (λ_ q=>q) λ_ _ q=>q
  rintro rfl
  rcases hc with rfl | hc
  ·rw [hfree] at e;cases e
  ·rw [hfree] at hc;cases hc
 rcases hx with hk | hk
 ·refine wpAny_storeName_local hk hn (λh' hn' hs=>?_) hcls
  obtain ⟨oL,_,_,hoL,_⟩:=id hn
  refine h _ ⟨I.ok,I.os,I.bare,⟨λb o e n hb hx=>?_,λb o e n hb hx=>?_,I.base.free,λb o e hx=>?_,I.base.tups,I.base.frzs,I.base.tbls⟩,⟨_,hn',λj y v' e1 e2 e3=>?_⟩,λy c e=>?_,I.free,I.freeC,λp hp=>?_,tracked ⟨oL,hoL,I.free⟩ hs,by simpa using I.len⟩ ⟨_,hs,.inl rfl⟩
  ·exact (hs.2 b (Nat.ne_of_lt (Nat.lt_of_lt_of_le (Heap.lt_size e) I.ok.above))).trans (I.base.keep b o e n hb hx)
  ·obtain ⟨sl,e1⟩:=I.base.slot b o e n hb hx
   exact ⟨sl,(hs.2 b (Nat.ne_of_lt (Nat.lt_of_lt_of_le (Heap.lt_size e) I.ok.above))).trans e1⟩
  ·obtain ⟨o',e1⟩:=I.base.there b o e hx
   exact ⟨o',(hs.2 b (Nat.ne_of_lt (Nat.lt_of_lt_of_le (Heap.lt_size e) I.ok.above))).trans e1⟩
  ·by_cases hj:j=i
   ·subst hj
    rw [hi] at e1;cases e1
    rw [getElem?_set_self hiσ] at e2
    cases e2
    exact ⟨u,r,.inl ⟨hk,by simp⟩⟩
   ·rw [getElem?_set_ne (Ne.symm hj)] at e2
    obtain ⟨u',r',q⟩:=hl j y v' e1 e2 e3
    refine ⟨u',r',?_⟩
    rcases q with ⟨k,e⟩ | ⟨k,c,e,z⟩
    ·refine .inl ⟨k,?_⟩
     have:y≠x:=λe=>hj (oZ hN e1 (e▸hi))
     simp [this,e]
    ·exact .inr ⟨k,c,e,z.sameBut hs (cne y c e)⟩
  ·obtain ⟨w',z⟩:=I.cell y c e
   exact ⟨w',z.sameBut hs (cne y c e)⟩
  ·obtain ⟨e,n,ne,nf,d⟩:=I.pin p hp
   exact ⟨(hs.2 p.1 ne).trans e,n,ne,nf,d⟩
 ·have hfn:X.fn x=true:=by
   rcases hf with z | z
   ·exact z
   ·rw [z] at hk;cases hk
  obtain ⟨c,hc⟩:=I.ok.has x (.inl hk)
  obtain ⟨w',z⟩:=I.cell x c hc
  refine wpAny_storeName_cell I.ok.kind hk hc z (λh' hc' hs=>?_)
  obtain ⟨oc,hoc,hocd⟩:=id z
  refine h {s with heap:=h'} ⟨I.ok,I.os,I.bare,⟨λb o e n hb hx=>?_,λb o e n hb hx=>?_,I.base.free,λb o e hx=>?_,I.base.tups,I.base.frzs,I.base.tbls⟩,⟨m,hn.sameBut hs (Ne.symm (cne x c hc)),λj y v' e1 e2 e3=>?_⟩,λy c' e=>?_,I.free,I.freeC,λp hp=>?_,tracked ⟨oc,hoc,I.freeC x c hc⟩ hs,by simpa using I.len⟩ ⟨c,hs,.inr hc⟩
  ·exact (hs.2 b (Nat.ne_of_lt (Nat.lt_of_lt_of_le (Heap.lt_size e) (I.ok.cab x c hfn hc)))).trans (I.base.keep b o e n hb hx)
  ·obtain ⟨sl,e1⟩:=I.base.slot b o e n hb hx
   exact ⟨sl,(hs.2 b (Nat.ne_of_lt (Nat.lt_of_lt_of_le (Heap.lt_size e) (I.ok.cab x c hfn hc)))).trans e1⟩
  ·obtain ⟨o',e1⟩:=I.base.there b o e hx
   exact ⟨o',(hs.2 b (Nat.ne_of_lt (Nat.lt_of_lt_of_le (Heap.lt_size e) (I.ok.cab x c hfn hc)))).trans e1⟩
  ·by_cases hj:j=i
   ·subst hj
    rw [hi] at e1;cases e1
    rw [getElem?_set_self hiσ] at e2
    cases e2
    exact ⟨u,r,.inr ⟨.inl hk,c,hc,hc'⟩⟩
   ·rw [getElem?_set_ne (Ne.symm hj)] at e2
    obtain ⟨u',r',q⟩:=hl j y v' e1 e2 e3
    refine ⟨u',r',?_⟩
    rcases q with q | ⟨k,c',e,z'⟩
    ·exact .inl q
    ·refine .inr ⟨k,c',e,z'.sameBut hs ?_⟩
     rintro rfl
     exact hj (oZ hN e1 (I.ok.inj _ _ _ e hc▸hi))
  ·by_cases hcc:c'=c
   ·subst hcc;exact ⟨_,hc'⟩
   ·obtain ⟨w2,z2⟩:=I.cell y c' e
    exact ⟨w2,z2.sameBut hs hcc⟩
  ·obtain ⟨e,n,ne,nf,d⟩:=I.pin p hp
   refine ⟨(hs.2 p.1 ?_).trans e,n,ne,nf,d⟩
   intro q
   rw [q,hoc] at e
   have q':oc=p.2:=Option.some.inj e
   exact d w' (by rw [← q'];exact hocd)
theorem lA {M:Model}{A:Around}{E:Value->Shared->Prop}{v:V}{u:Value}{Q:Unit->Shared->Prop}(I:Inv X pins σ H s)(hN:X.N.Nodup)(hi:X.N[i]?=some x)(hx:Loc X.env.scope x)(r:RelV v u)
 (h:∀s',Inv X pins (σ.set i (some v)) H s'->Q () s') (hf:X.fn x=true∨X.env.scope.names.lookup x=some .local:=by first | exact .inl rfl | exact .inr rfl | assumption):wpAny M A (storeName X.env x u) Q E s:=
 nh I hN hi hx r (λs' I' _=>h s' I') hf
theorem Inv.Cw {s':Shared}(I:Inv X pins σ H s)(ho:s'.os=s.os)(u:Un (i7 X.stack) ch H H' s.heap s'.heap)(hok:c9 X.prog X.w H' s'.heap)(hg:AllBare s'.gens)
 (hch:∀b∈ch,(b∈X.ex∨X.s₀.heap.objs.size<=b)/\b≠X.env.locals/\(∀x c,X.env.cells.lookup x=some c->c≠b)/\∀p∈X.pn++pins,p.1≠b):Inv X pins σ H' s':=by
 obtain ⟨h',g',d',t',o'⟩:=s'
 have e:o'=s.os:=ho
 subst e
 exact I.call (g':=g') (t':=t') (d':=d') u hok hg hch
end
abbrev XK:=Value->Option Addr->Hp->Prop
abbrev St:=List (Option V)
abbrev VK:=V->Hp->Prop
abbrev TE:=St->Hp->VK->Prop
abbrev TT:=St->Hp->(Bool->Hp->Prop)->Prop
abbrev TA:=St->Hp->(List V->Hp->Prop)->Prop
structure Ends where
 nx:St->Hp->Prop
 rt:VK
 bk:St->Hp->Prop:=λ_ _=>False
 ct:St->Hp->Prop:=λ_ _=>False
abbrev TS:=Ends->St->Hp->Prop
def EP (X:Cx)(pins:List (Addr×Obj))(σ:St)(Q:VK)(u:Value)(s':Shared):Prop:=∃v H',Inv X pins σ H' s'/\RelV v u/\Q v H'
def TP (X:Cx)(pins:List (Addr×Obj))(σ:St)(Q:Bool->Hp->Prop)(b:Bool)(s':Shared):Prop:=∃H',Inv X pins σ H' s'/\Q b H'
def AP (X:Cx)(pins:List (Addr×Obj))(σ:St)(Q:List V->Hp->Prop)(us:List Value)(s':Shared):Prop:=∃vs H',Inv X pins σ H' s'/\aK vs us/\Q vs H'
def SP (X:Cx)(pins:List (Addr×Obj))(D:Ends)(f:Flow)(s':Shared):Prop:=
 match f with
 | .next=>∃σ' H',Inv X pins σ' H' s'/\D.nx σ' H'
 | .brk=>∃σ' H',Inv X pins σ' H' s'/\D.bk σ' H'
 | .cont=>∃σ' H',Inv X pins σ' H' s'/\D.ct σ' H'
 | .ret u=>∃v σ' H',Inv X pins σ' H' s'/\RelV v u/\D.rt v H'
def PE (X:Cx)(e:Expr)(t:TE):Prop:=
 ∀(pins:List (Addr×Obj)) (s:Shared) (σ:St) (H:Hp) (Q:VK),Inv X pins σ H s->t σ H Q->wpAny (model X.prog X.w) X.A (eval e X.env) (EP X pins σ Q) X.xe s
def PT (X:Cx)(e:Expr)(t:TT):Prop:=
 ∀(pins:List (Addr×Obj)) (s:Shared) (σ:St) (H:Hp) (Q:Bool->Hp->Prop),Inv X pins σ H s->t σ H Q->wpAny (model X.prog X.w) X.A (isTrue e X.env (eval e X.env)) (TP X pins σ Q) X.xe s
def PW (X:Cx)(e:Expr)(t:TT):Prop:=
 ∀(whole:Sem Value) (pins:List (Addr×Obj)) (s:Shared) (σ:St) (H:Hp) (Q:Bool->Hp->Prop),Inv X pins σ H s->t σ H Q->wpAny (model X.prog X.w) X.A (isTrue e X.env whole) (TP X pins σ Q) X.xe s
theorem PW.pt {X:Cx}{e:Expr}{t:TT}(h:PW X e t):PT X e t:=h _
def PA (X:Cx)(es:List Expr)(t:TA):Prop:=
 ∀(pos:Pos) (pins:List (Addr×Obj)) (s:Shared) (σ:St) (H:Hp) (Q:List V->Hp->Prop),Inv X pins σ H s->t σ H Q->wpAny (model X.prog X.w) X.A (spliced (backTo pos (starEach es X.env))) (AP X pins σ Q) X.xe s
def PS (X:Cx)(st:Stmt)(t:TS):Prop:=
 ∀(pins:List (Addr×Obj)) (s:Shared) (σ:St) (H:Hp) (D:Ends),Inv X pins σ H s->t D σ H->wpAny (model X.prog X.w) X.A (exec st X.env) (SP X pins D) X.xe s
def hZ (X:Cx)(st:List Stmt)(t:TS):Prop:=
 ∀(pins:List (Addr×Obj)) (s:Shared) (σ:St) (H:Hp) (D:Ends),Inv X pins σ H s->t D σ H->wpAny (model X.prog X.w) X.A (execs st X.env) (SP X pins D) X.xe s
theorem aP {α:Type}{t:Sem α}{Q Q':α->Shared->Prop}{M:Model}{A:Around}{E:Value->Shared->Prop}{s:Shared}(h:wpAny M A t Q E s)(hQ:∀a s,Q a s->Q' a s):wpAny M A t Q' E s:=wpAny_mono h hQ λ_ _ x=>x
section
variable {X:Cx}
def FM (i:Nat):TE:=λσ H Q=>∃v,σ[i]?=some (some v)/\Q v H
def tC (v:V):TE:=λ_ H Q=>Q v H
theorem aX {i:Nat}{x:Str}{pos:Pos}(hN:X.N[i]?=some x)(hv:bS X.env.scope x)(hd:Dg0 x:=by decide)(hcd:Cd0 x:=by decide):PE X (.Name x pos) (FM i):=by
 intro pins s σ H Q I h
 obtain ⟨v,e,h⟩:=h
 obtain ⟨m,hn,hl⟩:=I.loc
 obtain ⟨u,r,l⟩:=hl i x v hN e hv
 have fin:EP X pins σ Q u s:=⟨v,H,I,r,h⟩
 rcases l with ⟨hk,hm⟩ | ⟨hk,c,hc,hcell⟩
 ·exact wpAny_Name (wpAny_loadName_local I.ok.kind hk hn hm fin) hd
 ·rcases hk with hk | hk
  ·exact wpAny_Name (wpAny_loadName_cell I.ok.kind hk hc hcell fin) hd
  ·exact wpAny_Name (wpAny_loadName_free I.ok.kind hk hc hcell fin hcd) hd
theorem d8 {i j pos}:PE X (.Constant (.int i) j pos) (tC (.int i)):=λ_ _ _ H _ I h=>wpAny_Constant_int ⟨.int i,H,I.tok _,⟨_,rfl⟩,h⟩
theorem rM {b j pos}:PE X (.Constant (.bool b) j pos) (tC (.bl b)):=λ_ _ _ H _ I h=>Constant_bool ⟨.bl b,H,I,rfl,h⟩
theorem AH {j pos}:PE X (.Constant .none j pos) (tC .non):=λ_ _ _ H _ I h=>Constant_none ⟨.non,H,I,rfl,h⟩
def Gl (X:Cx)(x:Str):Prop:=X.env.kindOf x=some .globalImplicit
theorem qW {E:Value->Shared->Prop}{pins:List (Addr×Obj)}{s:Shared}{σ:St}{H:Hp}{x:Str}{u:Value}{pos:Pos}{Q:Value->Shared->Prop}(I:Inv X pins σ H s)(hg:Gl X x)(hm:X.mg x=some u)(h:Q u s)
 (hd:Dg0 x:=by decide):wpAny (model X.prog X.w) X.A (eval (.Name x pos) X.env) Q E s:=
 Calls.Name_function_global I.ok.kind hg (Calls.loadGlobal_global (by rw [I.ok.glob];exact I.mod.glob.keeps I.bk) hm h) hd
theorem h7 {E:Value->Shared->Prop}{pins:List (Addr×Obj)}{s:Shared}{σ:St}{H:Hp}{x:Str}{u:Value}{pos:Pos}{Q:Value->Shared->Prop}(I:Inv X pins σ H s)(hg:Gl X x)(hm:X.mg x=none)(hv:bootBuiltins x=some u)(h:Q u s)
 (hn:x≠"__name__":=by decide) (hd:Dg0 x:=by decide):wpAny (model X.prog X.w) X.A (eval (.Name x pos) X.env) Q E s:=by
 obtain ⟨mb,h1,h2⟩:=I.mod.blt
 exact Calls.Name_function_global I.ok.kind hg (Calls.loadGlobal_builtin (by rw [I.ok.glob];exact I.mod.glob.keeps I.bk) hm (by rw [I.ok.blt];exact h1.keeps I.bk) ((h2 x hn).trans hv) h) hd
theorem qm {x:Str}{v:V}{u:Value}{pos:Pos}(hg:Gl X x)(hm:X.mg x=some u)(r:RelV v u)(hd:Dg0 x:=by decide):PE X (.Name x pos) (tC v):=
 λ_ _ _ H _ I h=>qW I hg hm ⟨v,H,I,r,h⟩ hd
theorem yu {x:Str}{v:V}{u:Value}{pos:Pos}(hg:Gl X x)(hm:X.mg x=none)(hv:bootBuiltins x=some u)(r:RelV v u)(hn:x≠"__name__":=by decide)(hd:Dg0 x:=by decide):PE X (.Name x pos) (tC v):=
 λ_ _ _ H _ I h=>h7 I hg hm hv ⟨v,H,I,r,h⟩ hn hd
variable {a b:Expr}{ta tb:TE}{pos:Pos}
def PC (X:Cx)(op:CmpOp)(a b:Expr)(t:TE):Prop:=
 ∀(pins:List (Addr×Obj)) (s:Shared) (σ:St) (H:Hp) (Q:VK),Inv X pins σ H s->t σ H Q->
  wpAny (model X.prog X.w) X.A (eval a X.env) (λv s₁=>wpAny (model X.prog X.w) X.A (eval b X.env) (λu s₂=>wpAny (model X.prog X.w) X.A (compareOp op v u) (EP X pins σ Q) X.xe s₂) X.xe s₁) X.xe s
def tB (t:TE):TT:=λσ H Q=>t σ H λx H1=>∃c,x= .bl c/\Q c H1
theorem Br {op:CmpOp}{t:TE}(h:PC X op a b t)(h1:behindInMarks op b=false:=by first | exact nobehind _ (by decide) (by decide) | rfl):PE X (.Compare a [op] [b] pos) t:=λpins s σ H Q I hw=>wpAny_Compare1 (h pins s σ H Q I hw) h1
theorem vi {op:CmpOp}{t:TE}(h:PC X op a b t)(h1:behindInMarks op b=false:=by first | exact nobehind _ (by decide) (by decide) | rfl):PT X (.Compare a [op] [b] pos) (tB t):=by
 intro pins s σ H Q I hw
 refine wpAny_isTrue_Compare1 (aP (h pins s σ H _ I hw) λv s1 h1=>aP h1 λu s2 h2=>aP h2 λc s3 ⟨x,H1,I1,r1,q1⟩=>?_) h1
 obtain ⟨d,rfl,q⟩:=q1
 cases r1
 exact wpAny_truthy_bool ⟨H1,I1,q⟩
theorem BP {e:Expr}{t:TE}(h:PE X e t)(he:∀whole,isTrue e X.env whole=(do let v ← whole;standAt e.pos;holding [v] (truthy v)):=by intro _;rfl):PT X e (tB t):=by
 intro pins s σ H Q I hw
 refine isTrue_plain (aP (h pins s σ H _ I hw) λv s1 ⟨x,H1,I1,r1,q1⟩=>?_) (he _)
 obtain ⟨d,rfl,q⟩:=q1
 cases r1
 exact wpAny_truthy_bool ⟨H1,I1,q⟩
variable {tA tB':TT}{rest:List Expr}
def Fs (t u:TT):TT:=λσ H Q=>t σ H λc H1=>if c=true then u σ H1 Q else Q false H1
def tOr (t u:TT):TT:=λσ H Q=>t σ H λc H1=>if c=true then Q true H1 else u σ H1 Q
def FG (t:TT):TT:=λσ H Q=>t σ H λc H1=>Q (!c) H1
theorem rq (ha:PT X a tA):PW X (.BoolOp .And [a] pos) tA:=by
 intro wh pins s σ H Q I h
 refine isTrue_and (aP (ha pins s σ H Q I h) λc s1 e=>?_)
 cases c with
 | true=>exact isTrue_and_nil e
 | false=>exact e
theorem Ab (ha:PT X a tA):PW X (.BoolOp .Or [a] pos) tA:=by
 intro wh pins s σ H Q I h
 refine isTrue_or (aP (ha pins s σ H Q I h) λc s1 e=>?_)
 cases c with
 | false=>exact isTrue_or_nil e
 | true=>exact e
theorem tN (ha:PT X a tA)(hb:PW X (.BoolOp .And (b::rest) pos) tB'):PW X (.BoolOp .And (a::b::rest) pos) (Fs tA tB'):=by
 intro wh pins s σ H Q I h
 refine isTrue_and (aP (ha pins s σ H _ I h) λc s1 ⟨H1,I1,q1⟩=>?_)
 cases c with
 | true=>exact hb wh pins s1 σ H1 Q I1 q1
 | false=>exact ⟨H1,I1,q1⟩
theorem Dy (ha:PT X a tA)(hb:PW X (.BoolOp .Or (b::rest) pos) tB'):PW X (.BoolOp .Or (a::b::rest) pos) (tOr tA tB'):=by
 intro wh pins s σ H Q I h
 refine isTrue_or (aP (ha pins s σ H _ I h) λc s1 ⟨H1,I1,q1⟩=>?_)
 cases c with
 | true=>exact ⟨H1,I1,q1⟩
 | false=>exact hb wh pins s1 σ H1 Q I1 q1
theorem BA (ha:PT X a tA):PT X (.UnaryOp .Not a pos) (FG tA):=by
 intro pins s σ H Q I h
 exact isTrue_not (ha pins s σ H (λc H1=>Q (!c) H1) I h)
def Dm (ta tb:TE):TE:=λσ H Q=>ta σ H λx H1=>∃c,x= .bl c/\if c=true then tb σ H1 Q else Q (.bl false) H1
def Fh (ta tb:TE):TE:=λσ H Q=>ta σ H λx H1=>∃c,x= .bl c/\if c=true then Q (.bl true) H1 else tb σ H1 Q
def Da (ta:TE):TE:=λσ H Q=>ta σ H λx H1=>∃c,x= .bl c/\Q (.bl (!c)) H1
theorem B2 {op}{t:TE}(h:PE X a t):PE X (.BoolOp op [a] pos) t:=λpins s σ H Q I hw=>BoolOp_one (h pins s σ H Q I hw)
theorem zM (ha:PE X a ta)(hb:PE X (.BoolOp .And (b::rest) pos) tb):PE X (.BoolOp .And (a::b::rest) pos) (Dm ta tb):=by
 intro pins s σ H Q I h
 refine BoolOp_and (aP (ha pins s σ H _ I h) λv s1 ⟨x,H1,I1,r1,q1⟩=>?_)
 obtain ⟨c,rfl,q1⟩:=q1
 cases r1
 refine wpAny_truthy_bool ?_
 cases c with
 | true=>exact hb pins s1 σ H1 Q I1 q1
 | false=>exact ⟨.bl false,H1,I1,rfl,q1⟩
theorem DA (ha:PE X a ta)(hb:PE X (.BoolOp .Or (b::rest) pos) tb):PE X (.BoolOp .Or (a::b::rest) pos) (Fh ta tb):=by
 intro pins s σ H Q I h
 refine BoolOp_or (aP (ha pins s σ H _ I h) λv s1 ⟨x,H1,I1,r1,q1⟩=>?_)
 obtain ⟨c,rfl,q1⟩:=q1
 cases r1
 refine wpAny_truthy_bool ?_
 cases c with
 | false=>exact hb pins s1 σ H1 Q I1 q1
 | true=>exact ⟨.bl true,H1,I1,rfl,q1⟩
theorem AN (ha:PE X a ta):PE X (.UnaryOp .Not a pos) (Da ta):=by
 intro pins s σ H Q I h
 refine UnaryOp_ (aP (ha pins s σ H _ I h) λv s1 ⟨x,H1,I1,r1,q1⟩=>?_)
 obtain ⟨c,rfl,q1⟩:=q1
 cases r1
 exact not_of (wpAny_truthy_bool ⟨.bl (!c),H1,I1,rfl,q1⟩)
def tIf (t:TT)(ta tb:TE):TE:=λσ H Q=>t σ H λc H1=>if c=true then ta σ H1 Q else tb σ H1 Q
theorem w9 {c:Expr}(hc:PT X c tA)(ha:PE X a ta)(hb:PE X b tb):PE X (.IfExp c a b pos) (tIf tA ta tb):=by
 intro pins s σ H Q I h
 refine wpAny_IfExp (aP (hc pins s σ H _ I h) λd s1 ⟨H1,I1,q1⟩=>?_)
 cases d with
 | true=>exact ha pins s1 σ H1 Q I1 q1
 | false=>exact hb pins s1 σ H1 Q I1 q1
end
def aM (K:PySem.W.Frag)(H:Hp)(a:Addr)(xs:List V):Prop:=
 Rd H a (.lst xs)∨
  ∃(o:Obj) (its:Array Value) (n:Nat),K.lookup a=some o/\o.cls= .type "list"/\o.dict=none/\o.data= .seq its n/\its.size<=sizeLine/\aK xs its.toList
def dm (K:PySem.W.Frag)(H:Hp)(a:Addr)(xs:List V):Prop:=
 Rd H a (.tup xs)∨
  ∃(o:Obj) (its:Array Value) (n:Nat),K.lookup a=some o/\o.cls= .type "tuple"/\o.data= .seq its n/\its.size<=sizeLine/\aK xs its.toList
def FL:Value->Option V
 | .none=>some .non
 | .bool b=>some (.bl b)
 | .int i _=>some (.int i)
 | .str x _=>some (.str x)
 | .bytes b _=>some (.byt b)
 | .float b _=>some (.flt b)
 | .ref a=>some (.ref a)
 | .type n=>some (.ty n)
 | _=>none
theorem RelV.abs {x:V}{u:Value}(r:RelV x u):FL u=some x:=by
 cases x with
 | non=>cases r;rfl
 | bl _=>cases r;rfl
 | int _=>obtain ⟨t,rfl⟩:=r;rfl
 | str _=>obtain ⟨t,rfl⟩:=r;rfl
 | byt _=>obtain ⟨t,rfl⟩:=r;rfl
 | flt _=>obtain ⟨t,rfl⟩:=r;rfl
 | ref _=>cases r;rfl
 | ty _=>cases r;rfl
theorem RelV.inj {x y:V}{u:Value}(r:RelV x u)(q:RelV y u):x=y:=Option.some.inj (r.abs.symm.trans q.abs)
theorem aK.inj:∀{xs ys:List V} {us:List Value},aK xs us->aK ys us->xs=ys
 | _,_,_,.nil,.nil=>rfl
 | _,_,_,.cons r t,.cons r' t'=>by rw [r.inj r',aK.inj t t']
section
variable {X:Cx}{pins:List (Addr×Obj)}{σ:St}{H:Hp}{s:Shared}{a:Addr}{xs ys:List V}
theorem aM.of {K:PySem.W.Frag}(h:H a=some (.lst xs)):aM K H a xs:=.inl (.inl h)
theorem dm.of {K:PySem.W.Frag}(h:H a=some (.tup xs)):dm K H a xs:=.inl (.inl h)
theorem Inv.list (I:Inv X pins σ H s)(h:aM X.K H a xs):∃its:List Value,aK xs its/\PlainL s.heap a its.toArray/\xs.length<=sizeLine:=by
 rcases h with h | ⟨o,its,n,hk,hc,hd,hs,hz,r⟩
 ·obtain ⟨z,its,n,r,e⟩:=h.ok I.hok
  exact ⟨its,r,⟨_,n,e,rfl,rfl,rfl⟩,z⟩
 ·refine ⟨its.toList,r,⟨o,n,I.gD a o hk,hc,hd,by simpa using hs⟩,?_⟩
  have e:=r.length
  simp only [Array.length_toList] at e
  omega
theorem Inv.tuple (I:Inv X pins σ H s)(h:dm X.K H a xs):∃its:List Value,aK xs its/\IsTup s.heap a its.toArray/\xs.length<=sizeLine:=by
 rcases h with h | ⟨o,its,n,hk,hc,hs,hz,r⟩
 ·obtain ⟨z,its,r,p⟩:=h.ok I.hok
  exact ⟨its,r,p,z⟩
 ·refine ⟨its.toList,r,⟨o,I.gD a o hk,hc,n,by simpa using hs⟩,?_⟩
  have e:=r.length
  simp only [Array.length_toList] at e
  omega
theorem Inv.jn (I:Inv X pins σ H s)(h:aM X.K H a xs)(h':aM X.K H a ys):xs=ys:=by
 obtain ⟨its,r,⟨o,n,e,_,_,d⟩,_⟩:=I.list h
 obtain ⟨its',r',⟨o',n',e',_,_,d'⟩,_⟩:=I.list h'
 rw [e] at e';cases e'
 rw [d] at d'
 injection d' with d1 _
 have:its=its':=by simpa using congrArg Array.toList d1
 subst this
 exact r.inj r'
theorem Inv.tT (I:Inv X pins σ H s)(h:dm X.K H a xs)(h':dm X.K H a ys):xs=ys:=by
 obtain ⟨its,r,⟨o,e,_,n,d⟩,_⟩:=I.tuple h
 obtain ⟨its',r',⟨o',e',_,n',d'⟩,_⟩:=I.tuple h'
 rw [e] at e';cases e'
 rw [d] at d'
 injection d' with d1 _
 have:its=its':=by simpa using congrArg Array.toList d1
 subst this
 exact r.inj r'
end
abbrev Cx.iK (X:Cx)(E:Value->Shared->Prop):Cx:={X with xe:=E}
abbrev Cx.gN (X:Cx):Cx:=X.iK λ_ _=>False
theorem Cx.Ok.iK {X:Cx}(ok:X.Ok)(E:Value->Shared->Prop):(X.iK E).Ok:=
 ⟨ok.mod,ok.kind,ok.glob,ok.blt,ok.above,ok.inj,ok.has,ok.cab,ok.hd,ok.frames,ok.stk,ok.exf,ok.bs,ok.bsz,ok.noex,ok.exfs,ok.funs,ok.frf⟩
theorem Cx.Ok.gE {X:Cx}{E:Value->Shared->Prop}(ok:(X.iK E).Ok):X.Ok:=
 ⟨ok.mod,ok.kind,ok.glob,ok.blt,ok.above,ok.inj,ok.has,ok.cab,ok.hd,ok.frames,ok.stk,ok.exf,ok.bs,ok.bsz,ok.noex,ok.exfs,ok.funs,ok.frf⟩
section
variable {X:Cx}{pins:List (Addr×Obj)}{σ:St}{H:Hp}{s:Shared}{E:Value->Shared->Prop}
theorem Inv.iK (I:Inv X pins σ H s)(E:Value->Shared->Prop):Inv (X.iK E) pins σ H s:=⟨I.ok.iK E,I.os,I.bare,I.base,I.loc,I.cell,I.free,I.freeC,I.pin,I.hok,I.len⟩
theorem Inv.gE (I:Inv (X.iK E) pins σ H s):Inv X pins σ H s:=⟨I.ok.gE,I.os,I.bare,I.base,I.loc,I.cell,I.free,I.freeC,I.pin,I.hok,I.len⟩
theorem SP.gE {D:Ends}{f:Flow}{s':Shared}(h:SP (X.iK E) pins D f s'):SP X pins D f s':=by
 cases f with
 | next=>obtain ⟨σ',H',I,q⟩:=h;exact ⟨σ',H',I.gE,q⟩
 | brk=>obtain ⟨σ',H',I,q⟩:=h;exact ⟨σ',H',I.gE,q⟩
 | cont=>obtain ⟨σ',H',I,q⟩:=h;exact ⟨σ',H',I.gE,q⟩
 | ret u=>obtain ⟨v,σ',H',I,r,q⟩:=h;exact ⟨v,σ',H',I.gE,r,q⟩
theorem hZ.gN {st:List Stmt}{t:TS}(h:hZ X.gN st t):hZ X st t:=λpins s σ H D I hw=>
 wpAny_mono (h pins s σ H D (I.iK _) hw) (λ_ _ q=>q.gE) λ_ _ z=>False.elim z
end
section
variable {X:Cx}{st:Stmt}{rest:List Stmt}{t u:TS}{e:Expr}{te:TE}{pos:Pos}
def D0:TS:=λD σ H=>D.nx σ H
def Ft (t u:TS):TS:=λD σ H=>t {D with nx:=u D} σ H
theorem yq:hZ X [] D0:=λ_ _ σ H _ I h=>wpAny_execs_nil ⟨σ,H,I,h⟩
theorem la (h1:PS X st t)(h2:hZ X rest u):hZ X (st::rest) (Ft t u):=by
 intro pins s σ H D I h
 refine wpAny_execs_cons (aP (h1 pins s σ H {D with nx:=u D} I h) λf s1 q=>?_)
 cases f with
 | next=>
   obtain ⟨σ',H',I',q⟩:=q
   exact h2 pins s1 σ' H' D I' q
 | ret v=>exact q
 | brk=>exact q
 | cont=>exact q
theorem qf (h1:PS X st t):hZ X [st] t:=by
 intro pins s σ H D I h
 refine wpAny_execs_cons (aP (h1 pins s σ H D I h) λf s1 q=>?_)
 cases f with
 | next=>exact wpAny_execs_nil q
 | ret v=>exact q
 | brk=>exact q
 | cont=>exact q
def DX:TS:=λD σ H=>D.ct σ H
theorem pU:PS X (.Continue pos) DX:=λ_ _ σ H _ I h=>wpAny_Continue ⟨σ,H,I,h⟩
theorem Inv.quiet {pins:List (Addr×Obj)}{σ:St}{H:Hp}{s:Shared}(I:Inv X pins σ H s):interactive X.env=false:=by simp [interactive,I.ok.kind]
def DW (te:TE):TS:=λD σ H=>te σ H λ_ H1=>D.nx σ H1
theorem dR (he:PE X e te)(hs:swapsWith e none pos.line X.env=pure false:=by rfl):PS X (.Expr e pos) (DW te):=by
 intro pins s σ H D I h
 exact wpAny_Expr_any (aP (he pins s σ H _ I h) λv s1 ⟨x,H1,I1,r1,q1⟩=>⟨σ,H1,I1,q1⟩) I.quiet hs
def FB (te:TE):TS:=λD σ H=>te σ H D.rt
theorem fg (he:PE X e te):PS X (.Return (some e) pos) (FB te):=by
 intro pins s σ H D I h
 exact wpAny_Return_some (aP (he pins s σ H _ I h) λv s1 ⟨x,H1,I1,r1,q1⟩=>⟨x,σ,H1,I1,r1,q1⟩)
def FE (c:TT)(t u:TS):TS:=λD σ H=>c σ H λb H1=>if b=true then t D σ H1 else u D σ H1
theorem xS {c:Expr}{a b:List Stmt}{tc:TT}(hc:PT X c tc)(ha:hZ X a t)(hb:hZ X b u):PS X (.If c a b pos) (FE tc t u):=by
 intro pins s σ H D I h
 refine wpAny_If (aP (hc pins s σ H _ I h) λd s1 ⟨H1,I1,q1⟩=>?_)
 cases d with
 | true=>exact ha pins s1 σ H1 D I1 q1
 | false=>exact hb pins s1 σ H1 D I1 q1
end
abbrev TG:=V->St->Hp->(St->Hp->Prop)->Prop
abbrev lR:=List V->St->Hp->(St->Hp->Prop)->Prop
def PG (X:Cx)(target:Expr)(t:TG):Prop:=
 ∀(pins:List (Addr×Obj)) (s:Shared) (σ:St) (H:Hp) (v:V) (u:Value) (Q:St->Hp->Prop),Inv X pins σ H s->RelV v u->t v σ H Q->
  wpAny (model X.prog X.w) X.A (assign target X.env u) (λ_ s'=>∃σ' H',Inv X pins σ' H' s'/\Q σ' H') X.xe s
def u4 (X:Cx)(ts:List Expr)(t:lR):Prop:=
 ∀(pins:List (Addr×Obj)) (s:Shared) (σ:St) (H:Hp) (vs:List V) (us:List Value) (Q:St->Hp->Prop),Inv X pins σ H s->aK vs us->t vs σ H Q->
  wpAny (model X.prog X.w) X.A (assignInOrder ((assignEach ts X.env).map (·.2)) us) (λ_ s'=>∃σ' H',Inv X pins σ' H' s'/\Q σ' H') X.xe s
abbrev o8:=V->V->V->Hp->(Hp->Prop)->Prop
def wZ (X:Cx)(t:o8):Prop:=
 ∀(pins:List (Addr×Obj)) (s:Shared) (σ:St) (H:Hp) (o i v:V) (ov iv u:Value) (Q:Hp->Prop),Inv X pins σ H s->RelV o ov->RelV i iv->RelV v u->t o i v H Q->
  wpAny (model X.prog X.w) X.A (setItem ov iv u) (λ_ s'=>∃H',Inv X pins σ H' s'/\Q H') X.xe s
abbrev rn:=V->V->Hp->VK->Prop
def yg (X:Cx)(op:Operator)(t:rn):Prop:=
 ∀(pins:List (Addr×Obj)) (s:Shared) (σ:St) (H:Hp) (x y:V) (v u:Value) (Q:VK),Inv X pins σ H s->RelV x v->RelV y u->t x y H Q->
  wpAny (model X.prog X.w) X.A (inplaceOp op v u) (EP X pins σ Q) X.xe s
section
variable {X:Cx}{pos:Pos}
variable {e:Expr}{te:TE}{i:Nat}{x:Str}
def nP (i:Nat):TG:=λv σ H Q=>Q (σ.set i (some v)) H
theorem dO (hN:X.N.Nodup)(hi:X.N[i]?=some x)(hx:Loc X.env.scope x)(hf:X.fn x=true∨X.env.scope.names.lookup x=some .local:=by first | exact .inl rfl | exact .inr rfl | assumption):PG X (.Name x pos) (nP i):=by
 intro pins s σ H v u Q I r h
 exact wpAny_assign_Name (lA I hN hi hx r (λs' I'=>⟨_,H,I',h⟩) hf)
def Ff:lR:=λvs σ H Q=>vs=[]/\Q σ H
def DN (t:TG)(u:lR):lR:=λvs σ H Q=>∃v r,vs=v::r/\t v σ H λσ' H'=>u r σ' H' Q
theorem kg:u4 X [] Ff:=by
 intro pins s σ H vs us Q I r h
 obtain ⟨e,h⟩:=h
 subst e
 cases r
 exact assignInOrder_nil ⟨σ,H,I,h⟩
theorem dv {es:List Expr}{t:TG}{u:lR}(h1:PG X e t)(h2:u4 X es u)
 (hs:(assignEach (e::es) X.env).map (·.2)=assign e X.env::(assignEach es X.env).map (·.2):=by rfl):u4 X (e::es) (DN t u):=by
 intro pins s σ H vs us Q I r h
 obtain ⟨v,vr,e1,h⟩:=h
 subst e1
 cases r with
 | cons r rr=>
   rw [hs]
   refine assignInOrder_cons (aP (h1 pins s σ H _ _ _ I r h) λ_ s1 ⟨σ1,H1,I1,q1⟩=>?_)
   exact h2 pins s1 σ1 H1 _ _ Q I1 rr q1
def FK (K:PySem.W.Frag)(n:Nat)(t:lR):TG:=λv σ H Q=>∃a xs,v= .ref a/\dm K H a xs/\xs.length=n/\t xs σ H Q
theorem vk {es:List Expr}{k:Nat}{t:lR}{n:Nat}(hc:X.calm=true)(h:u4 X es t)
 (hn:(assignEach es X.env).length=n:=by rfl) (hst:(assignEach es X.env).findIdx? (·.1)=none:=by rfl):PG X (.Tuple es k pos) (FK X.K n t):=by
 intro pins s σ H v u Q I r hw
 obtain ⟨a,xs,e1,hq,hl,hw⟩:=hw
 subst e1
 cases r
 obtain ⟨its,rv,ht,hz⟩:=I.tuple hq
 refine assign_Tuple_tuple (I.ok.hd hc) ht (by simp [hn,← hl,rv.length]) hst λh' hx=>?_
 have I1:Inv X pins σ H {s with heap:=h'}:=I.kept (t':=s.toks) λb o e=>hx b o (Nat.ne_of_lt (Heap.lt_size e)) e
 exact h pins _ σ H xs _ Q I1 (by simpa using rv) hw
def Fl (to ti:TE)(t:o8):TG:=λv σ H Q=>to σ H λo H1=>ti σ H1 λi H2=>t o i v H2 λH3=>Q σ H3
theorem jX {o i:Expr}{to ti:TE}{t:o8}(ho:PE X o to)(hi:PE X i ti)(hs:wZ X t)
 (ha:∀v,assign (.Subscript o i pos) X.env v=(do
  let ov ← holding [v] (eval o X.env)
  let iv ← holding [v,ov] (eval i X.env)
  standAt pos
  holding [v,ov,iv] (setItem ov iv v)
  release [v,ov,iv] []):=by intro _;rfl):PG X (.Subscript o i pos) (Fl to ti t):=by
 intro pins s σ H v u Q I r h
 rw [ha]
 refine wpAny_bind (wpAny_holding (aP (ho pins s σ H _ I h) λov s1 ⟨x,H1,I1,r1,q1⟩=>?_))
 refine wpAny_bind (wpAny_holding (aP (hi pins s1 σ H1 _ I1 q1) λiv s2 ⟨y,H2,I2,r2,q2⟩=>?_))
 refine wpAny_bind (wpAny_standAt (wpAny_bind (wpAny_holding (aP (hs pins s2 σ H2 x y v ov iv u _ I2 r1 r2 r q2) λ_ s3 ⟨H3,I3,q3⟩=>?_))))
 exact wpAny_release ⟨σ,H3,I3,q3⟩
def xf (te:TE)(g:TG):TS:=λD σ H=>te σ H λx H1=>g x σ H1 D.nx
theorem gG {tg:Expr}{g:TG}(he:PE X e te)(hg:PG X tg g)(hs:swapsWithSole [tg] e pos.line X.env=pure false:=by rfl)(hw:swappedStores [tg] e X.env=pure none:=by rfl)
 (h1:(assignEach [tg] X.env).map (·.2)=[assign tg X.env]:=by rfl):PS X (.Assign [tg] e pos) (xf te g):=by
 intro pins s σ H D I h
 refine wpAny_Assign_stores (aP (he pins s σ H _ I h) λv s1 ⟨x,H1,I1,r1,q1⟩=>?_) hs hw
 rw [h1]
 exact aP (hg pins s1 σ H1 x v _ I1 r1 q1) λ_ s2 q=>q
theorem d6 {pos':Pos}(hN:X.N.Nodup)(hi:X.N[i]?=some x)(hx:Loc X.env.scope x)(he:PE X e te)(hs:swapsWith e (some (.Name x pos')) pos.line X.env=pure false:=by rfl)(hf:X.fn x=true∨X.env.scope.names.lookup x=some .local:=by first | exact .inl rfl | exact .inr rfl | assumption):
 PS X (.Assign [.Name x pos'] e pos) (xf te (nP i)):=by
 intro pins s σ H D I h
 refine wpAny_Assign_Name (aP (he pins s σ H _ I h) λv s1 ⟨y,H1,I1,r1,q1⟩=>?_) hs
 exact lA I1 hN hi hx r1 (λs2 I2=>⟨_,H1,I2,q1⟩) hf
def Fy (i:Nat)(te:TE)(ti:rn):TS:=λD σ H=>∃x,σ[i]?=some (some x)/\te σ H λy H1=>ti x y H1 λz H2=>D.nx (σ.set i (some z)) H2
theorem uS {op:Operator}{ti:rn}{pos':Pos}(hN:X.N.Nodup)(hi:X.N[i]?=some x)(hx:Loc X.env.scope x)(he:PE X e te)(ho:yg X op ti)(hf:X.fn x=true∨X.env.scope.names.lookup x=some .local:=by first | exact .inl rfl | exact .inr rfl | assumption):
 PS X (.AugAssign (.Name x pos') op e pos) (Fy i te ti):=by
 intro pins s σ H D I h
 obtain ⟨v,e1,h⟩:=h
 obtain ⟨m,hn,hl⟩:=I.loc
 have vis:bS X.env.scope x:=by rcases hx with k | k;exact .inl k;exact .inr (.inl k)
 obtain ⟨u,r,l⟩:=hl i x v hi e1 vis
 refine wpAny_AugAssign_Name ?_
 have go:wpAny (model X.prog X.w) X.A (eval e X.env) (λw s₂=>wpAny (model X.prog X.w) X.A (inplaceOp op u w) (λr s₃=>wpAny (model X.prog X.w) X.A (storeName X.env x r) (λ_=>SP X pins D .next) X.xe s₃) X.xe s₂) X.xe s:=by
  refine aP (he pins s σ H _ I h) λw s1 ⟨y,H1,I1,r1,q1⟩=>?_
  refine aP (ho pins s1 σ H1 v y u w _ I1 r r1 q1) λz s2 ⟨zv,H2,I2,r2,q2⟩=>?_
  exact lA I2 hN hi hx r2 (λs3 I3=>⟨_,H2,I3,q2⟩) hf
 rcases l with ⟨hk,hm⟩ | ⟨hk,c,hc,hcell⟩
 ·exact wpAny_loadName_local I.ok.kind hk hn hm go
 ·rcases hk with hk | hk
  ·exact wpAny_loadName_cell I.ok.kind hk hc hcell go
  ·rcases hx with k | k
   ·have:X.env.scope.names.lookup x=some .free:=hk
    rw [k] at this;cases this
   ·have:X.env.scope.names.lookup x=some .free:=hk
    rw [k] at this;cases this
def D7 (to ti te:TE)(tget:V->V->Hp->VK->Prop)(tip:rn)(tset:o8):TS:=λD σ H=>to σ H λo H1=>ti σ H1 λi H2=>tget o i H2 λx H3=>te σ H3 λy H4=>tip x y H4 λz H5=>tset o i z H5 λH6=>D.nx σ H6
def Bl (X:Cx)(t:V->V->Hp->VK->Prop):Prop:=
 ∀(pins:List (Addr×Obj)) (s:Shared) (σ:St) (H:Hp) (o i:V) (ov iv:Value) (Q:VK),Inv X pins σ H s->RelV o ov->RelV i iv->t o i H Q->
  wpAny (model X.prog X.w) X.A (getItem ov iv) (EP X pins σ Q) X.xe s
theorem yO {o i:Expr}{to ti:TE}{tget:V->V->Hp->VK->Prop}{tip:rn}{tset:o8}{op:Operator}{tpos:Pos}(ho:PE X o to)(hi:PE X i ti)(hg:Bl X tget)(he:PE X e te)(hp:yg X op tip)(hs:wZ X tset)
 (ha:∀ov iv new,augStore i ov iv new=(do holding [new,ov,iv] (setItem ov iv new);release [new,ov,iv] [];pure .next):=by intros;rfl):PS X (.AugAssign (.Subscript o i tpos) op e pos) (D7 to ti te tget tip tset):=by
 intro pins s σ H D I h
 refine wpAny_AugAssign_SubscriptAny (aP (ho pins s σ H _ I h) λov s1 ⟨x1,H1,I1,r1,q1⟩=>?_) ha
 refine aP (hi pins s1 σ H1 _ I1 q1) λiv s2 ⟨x2,H2,I2,r2,q2⟩=>?_
 refine aP (hg pins s2 σ H2 x1 x2 ov iv _ I2 r1 r2 q2) λold s3 ⟨x3,H3,I3,r3,q3⟩=>?_
 refine aP (he pins s3 σ H3 _ I3 q3) λv s4 ⟨x4,H4,I4,r4,q4⟩=>?_
 refine aP (hp pins s4 σ H4 x3 x4 old v _ I4 r3 r4 q4) λnew s5 ⟨x5,H5,I5,r5,q5⟩=>?_
 exact aP (hs pins s5 σ H5 x1 x2 x5 ov iv new _ I5 r1 r2 r5 q5) λ_ s6 ⟨H6,I6,q6⟩=>⟨σ,H6,I6,q6⟩
def Ez (f:Int->Int->Int):rn:=λx y H Q=>∃i j,x= .int i/\y= .int j/\Q (.int (f i j)) H
theorem tf:yg X .Add (Ez λi j=>i + j):=by
 intro pins s σ H x y v u Q I r1 r2 h
 obtain ⟨i,j,e1,e2,q⟩:=h
 subst e1;subst e2
 obtain ⟨t,rfl⟩:=r1
 obtain ⟨t',rfl⟩:=r2
 exact iadd_int ⟨.int _,H,I.tok _,⟨_,rfl⟩,q⟩
theorem AE:yg X .Sub (Ez λi j=>i - j):=by
 intro pins s σ H x y v u Q I r1 r2 h
 obtain ⟨i,j,e1,e2,q⟩:=h
 subst e1;subst e2
 obtain ⟨t,rfl⟩:=r1
 obtain ⟨t',rfl⟩:=r2
 exact isub_int ⟨.int _,H,I.tok _,⟨_,rfl⟩,q⟩
end
section
variable {X:Cx}{pos:Pos}
def Be (c:TT)(tb:TS):TS:=λD σ H=>∃W:Nat->St->Hp->Prop,(∃m,W m σ H)/\∀m σ H,W m σ H->
 c σ H λb H1=>if b=true then∃N:St->Hp->Prop,(∀σ' H',N σ' H'->∃m',m' < m/\W m' σ' H')/\tb {D with nx:=N,ct:=N,bk:=D.nx} σ H1 else D.nx σ H1
theorem nX {c:Expr}{body:List Stmt}{tc:TT}{tb:TS}(hp:PassesOwn (model X.prog X.w) X.A X.env X.xe)(hc:PT X c tc)(hb:hZ X body tb):PS X (.While c body [] pos) (Be tc tb):=by
 intro pins s σ H D I h
 obtain ⟨W,⟨m0,w0⟩,turn⟩:=h
 refine wpAny_While (codeAny_whileLoop (λn s'=>∃σ' H',Inv X pins σ' H' s'/\W n σ' H') ?_ m0 ⟨σ,H,I,w0⟩)
 rintro n s1 ⟨σ1,H1,I1,w1⟩
 refine wpAny_passesOwn hp (aP (hc pins s1 σ1 H1 _ I1 (turn n σ1 H1 w1)) λb s2 ⟨H2,I2,q2⟩=>?_)
 cases b with
 | true=>
   obtain ⟨N,hN,q2⟩:=q2
   rw [if_pos rfl]
   refine wpAny_passesOwn hp (aP (hb pins s2 σ1 H2 _ I2 q2) λf s3 q3=>?_)
   cases f with
   | next=>
     obtain ⟨σ3,H3,I3,n3⟩:=q3
     obtain ⟨m',hm,w3⟩:=hN σ3 H3 n3
     exact ⟨m',hm,σ3,H3,I3,w3⟩
   | cont=>
     obtain ⟨σ3,H3,I3,n3⟩:=q3
     obtain ⟨m',hm,w3⟩:=hN σ3 H3 n3
     exact ⟨m',hm,σ3,H3,I3,w3⟩
   | brk=>exact q3
   | ret v=>exact q3
 | false=>
   rw [if_neg Bool.false_ne_true]
   exact wpAny_execs_nil ⟨σ1,H2,I2,q2⟩
end
section
variable {tg:Expr}{P:Program}{w:World}{K:PySem.W.Frag}
structure It where
 go:Nat->Hp->Prop
 yld:Nat->Hp->V->Hp->Prop
 stop:Nat->Hp->Prop
def iJ (X:Cx)(pins:List (Addr×Obj))(H:Hp)(b:Addr):Prop:=
 H b=none/\b≠X.env.locals/\b∉X.fs/\(b∈X.ex∨X.s₀.heap.objs.size<=b)/\(∀x c,X.env.cells.lookup x=some c->c≠b)/\∀p∈X.pn++pins,p.1≠b
theorem Inv.ka {X:Cx}{pins:List (Addr×Obj)}{σ:St}{H H':Hp}{s:Shared}{b:Addr}(I:Inv X pins σ H s)(hb:s.heap.objs.size<=b)(hn:H' b=none):iJ X pins H' b:=by
 refine ⟨hn,Nat.ne_of_gt (Nat.lt_of_lt_of_le I.lt hb),I.FJ hb,.inr (Nat.le_trans I.sz hb),λx c e z=>?_,λp hp z=>?_⟩
 ·obtain ⟨v,q⟩:=I.cell x c e
  exact absurd (Nat.lt_of_lt_of_le q.lt (by rw [z];exact hb)) (Nat.lt_irrefl _)
 ·exact absurd (Nat.lt_of_lt_of_le (Heap.lt_size (I.pin p hp).1) (by rw [z];exact hb)) (Nat.lt_irrefl _)
structure Turn (P:Program) (w:World) (K:PySem.W.Frag) (tg:Expr) (J:It) (fp:List Addr) (it:Addr) (tn:Nat->Heap->Prop):Prop where
 mem:it∈fp
 obj:∀i h,tn i h->∀b∈fp,∃o,h.get? b=some o/\∀v,o.data≠ .cell v
 keep:∀i h h',tn i h->(∀b∈fp,∀o,h.get? b=some o->h'.get? b=some o)->tn i h'
 item:∀(X:Cx),X.prog=P->X.w=w->X.K=K->X.calm=true->∀(i:Nat) (pins:List (Addr×Obj)) (s:Shared) (σ:St) (H:Hp) (E:Value->Shared->Prop),Inv X pins σ H s->(∀b∈fp,iJ X pins H b)->tn i s.heap->J.go i H->
  wpAny (model P w) X.A (pyNext (.ref it)) (λr s1=>∃u,r=some u/\
   wpAny (model P w) X.A (letOwnedTupleGo tg (.ref it) u) (λ_ s2=>∃x H',Inv X pins σ H' s2/\RelV x u/\J.yld i H x H'/\tn (i + 1) s2.heap/\∀b∈fp,H' b=none) E s1) E s
 done:∀(X:Cx),X.prog=P->X.w=w->X.K=K->X.calm=true->∀(i:Nat) (pins:List (Addr×Obj)) (s:Shared) (σ:St) (H:Hp) (E:Value->Shared->Prop),Inv X pins σ H s->(∀b∈fp,iJ X pins H b)->tn i s.heap->J.stop i H->
  wpAny (model P w) X.A (pyNext (.ref it)) (λr s1=>r=none/\Inv X pins σ H s1) E s
 self:∀(A:Around) (i:Nat) (s:Shared) (Q:Value->Shared->Prop) (E:Value->Shared->Prop),tn i s.heap->Q (.ref it) s->wpAny (model P w) A (pyIter (.ref it)) Q E s
abbrev TI:=St->Hp->(It->Hp->Prop)->Prop
def Ex (X:Cx)(pins:List (Addr×Obj))(σ:St)(tg:Expr)(R:It->Hp->Prop)(itv:Value)(s2:Shared):Prop:=
 ∃(it:Addr) (fp:List Addr) (tn:Nat->Heap->Prop) (J:It) (H':Hp),itv= .ref it/\Inv X pins σ H' s2/\Turn X.prog X.w X.K tg J fp it tn/\tn 0 s2.heap/\(∀b∈fp,iJ X pins H' b)/\R J H'
def PI (X:Cx)(tg iter:Expr)(wi:TI):Prop:=
 ∀(pins:List (Addr×Obj)) (s:Shared) (σ:St) (H:Hp) (R:It->Hp->Prop),Inv X pins σ H s->wi σ H R->
  wpAny (model X.prog X.w) X.A (eval iter X.env) (λv s1=>wpAny (model X.prog X.w) X.A (pyIter v) (Ex X pins σ tg R) X.xe s1) X.xe s
theorem rA {M:Model}{A:Around}{E:Value->Shared->Prop}{s:Shared}{it:Addr}{u:Value}{o:Obj}{n:String}{vs:Array Value}{Q:Unit->Shared->Prop}(ho:s.heap.get? it=some o)(hc:o.cls= .type n)(hd:o.data= .fields vs)
 (hn:["enumerate","zip","dict_itemiterator","dict_reverseitemiterator","odict_iterator","itertools.zip_longest","itertools.pairwise"].contains n=false) (hQ:Q () s):wpAny M A (letOwnedTupleGo tg (.ref it) u) Q E s:=by
 unfold letOwnedTupleGo
 cases tg<;>first
  | exact wpAny_pure hQ
  | (cases u<;>first
   | exact wpAny_pure hQ
   | (refine wpAny_bind (wpAny_load ho ?_)
      rw [hc,hd]
      show wpAny M A (if (["enumerate","zip","dict_itemiterator","dict_reverseitemiterator","odict_iterator","itertools.zip_longest","itertools.pairwise"].contains n&&vs[0]?==some (rawInt _))=true then _ else _) Q E s
      rw [if_neg (by intro h;rw [hn,Bool.false_and] at h;cases h)]
      exact wpAny_pure hQ))
def Ey (K:PySem.W.Frag)(a:Addr):It:=
 ⟨λi H=>∃xs x,aM K H a xs/\xs[i]?=some x,λi H x H'=>H'=H/\∀xs,aM K H a xs->xs[i]?=some x,λi H=>∃xs,aM K H a xs/\xs.length<=i⟩
def EC (K:PySem.W.Frag)(a:Addr):It:=
 ⟨λi H=>∃xs x,dm K H a xs/\xs[i]?=some x,λi H x H'=>H'=H/\∀xs,dm K H a xs->xs[i]?=some x,λi H=>∃xs,dm K H a xs/\xs.length<=i⟩
def tZ (lo:Int)(n:Nat):It:=⟨λi _=>i < n,λi H x H'=>H'=H/\x= .int (lo + i),λi _=>n<=i⟩
theorem uB (a it:Addr):Turn P w K tg (Ey K a) [it] it (λi h=>h.IsListIter it a i) where
 mem:=by simp
 obj:=λi h st b hb=>by
  have e:b=it:=by simpa using hb
  subst e
  obtain ⟨o,e,c,d⟩:=st
  exact ⟨o,e,λv z=>by rw [d] at z;cases z⟩
 keep:=λi h h' st k=>st.at λo e=>k it (by simp) o e
 item:=by
  intro X hP hw hK hc i pins s σ H E I hf st hg
  subst hP hw hK
  obtain ⟨xs,x,hq,hx⟩:=hg
  obtain ⟨its,rv,p,hz⟩:=I.list hq
  obtain ⟨u,hu,ru⟩:=rv.get hx
  obtain ⟨f0,f1,f2,f3,f4,f5⟩:=hf it (by simp)
  refine wpAny_pyNext_list_item st p.isList (x:=u) (by simpa using hu) λh' st' sb=>?_
  have I1:Inv X pins σ H {s with heap:=h'}:=I.turned (t':=s.toks) (λb o hb e=>(sb.2 b hb).trans e) f0 f1 f3 f4 f5
  obtain ⟨o,e,c,d⟩:=id st'
  exact ⟨u,rfl,rA (s:={s with heap:=h'}) e c d (by decide) ⟨x,H,I1,ru,⟨rfl,λys hy=>by rw [I.jn hy hq];exact hx⟩,st',λb hb=>(hf b hb).1⟩⟩
 done:=by
  intro X hP hw hK hc i pins s σ H E I hf st hg
  subst hP hw hK
  obtain ⟨xs,hq,hx⟩:=hg
  obtain ⟨its,rv,p,hz⟩:=I.list hq
  obtain ⟨f0,f1,f2,f3,f4,f5⟩:=hf it (by simp)
  have hl:=rv.length
  exact wpAny_pyNext_list_end (I.ok.hd hc) st p.isList (by simp;omega) λh' eb=>⟨rfl,I.turned (t':=s.toks) (λb o hb e=>eb b o hb e) f0 f1 f3 f4 f5⟩
 self:=λ_ _ _ _ _ st h=>wpAny_pyIter_listiter st h
theorem rL (a it:Addr):Turn P w K tg (EC K a) [it] it (λi h=>h.IsTupleIter it a i) where
 mem:=by simp
 obj:=λi h st b hb=>by
  have e:b=it:=by simpa using hb
  subst e
  obtain ⟨o,e,c,d⟩:=st
  exact ⟨o,e,λv z=>by rw [d] at z;cases z⟩
 keep:=λi h h' st k=>st.at λo e=>k it (by simp) o e
 item:=by
  intro X hP hw hK hc i pins s σ H E I hf st hg
  subst hP hw hK
  obtain ⟨xs,x,hq,hx⟩:=hg
  obtain ⟨its,rv,p,hz⟩:=I.tuple hq
  obtain ⟨u,hu,ru⟩:=rv.get hx
  obtain ⟨f0,f1,f2,f3,f4,f5⟩:=hf it (by simp)
  refine wpAny_pyNext_tuple_item st (show s.heap.IsTuple a its.toArray from p) (x:=u) (by simpa using hu) λh' st' sb=>?_
  have I1:Inv X pins σ H {s with heap:=h'}:=I.turned (t':=s.toks) (λb o hb e=>(sb.2 b hb).trans e) f0 f1 f3 f4 f5
  obtain ⟨o,e,c,d⟩:=id st'
  exact ⟨u,rfl,rA (s:={s with heap:=h'}) e c d (by decide) ⟨x,H,I1,ru,⟨rfl,λys hy=>by rw [I.tT hy hq];exact hx⟩,st',λb hb=>(hf b hb).1⟩⟩
 done:=by
  intro X hP hw hK hc i pins s σ H E I hf st hg
  subst hP hw hK
  obtain ⟨xs,hq,hx⟩:=hg
  obtain ⟨its,rv,p,hz⟩:=I.tuple hq
  obtain ⟨f0,f1,f2,f3,f4,f5⟩:=hf it (by simp)
  have hl:=rv.length
  exact wpAny_pyNext_tuple_end (I.ok.hd hc) st (show s.heap.IsTuple a its.toArray from p) (by simp;omega) λh' eb=>⟨rfl,I.turned (t':=s.toks) (λb o hb e=>eb b o hb e) f0 f1 f3 f4 f5⟩
 self:=λ_ _ _ _ _ st h=>wpAny_pyIter_tupleiter st h
theorem se (it:Addr)(lo:Int)(n:Nat):Turn P w K tg (tZ lo n) [it] it (λi h=>IsRangeIter h it (lo + (i:Nat) * 1) ((n:Int) - (i:Nat)) 1) where
 mem:=by simp
 obj:=λi h st b hb=>by
  have e:b=it:=by simpa using hb
  subst e
  exact ⟨_,st,λv z=>by
   have z':Data.fields _=Data.cell v:=z
   cases z'⟩
 keep:=λi h h' st k=>k it (by simp) _ st
 item:=by
  intro X hP hw hK hc i pins s σ H E I hf st hg
  subst hP hw hK
  obtain ⟨f0,f1,f2,f3,f4,f5⟩:=hf it (by simp)
  have W:=Walks.range (prog:=X.prog) (w:=X.w) (I.ok.hd hc) it lo 1 n
  refine W.item i s _ _ hg st λv h' tk hv st' kk=>?_
  obtain ⟨t,rfl⟩:=hv
  have I1:Inv X pins σ H {s with heap:=h',toks:=tk}:=I.turned (λb o hb e=>kk b o (by simpa using hb) e) f0 f1 f3 f4 f5
  refine ⟨_,rfl,rA (s:={s with heap:=h',toks:=tk}) (n:="range_iterator") st' rfl rfl (by decide) ⟨.int (lo + i),H,I1,⟨t,?_⟩,⟨rfl,rfl⟩,st',λb hb=>(hf b hb).1⟩⟩
  rw [Int.mul_one]
 done:=by
  intro X hP hw hK hc i pins s σ H E I hf st hg
  subst hP hw hK
  obtain ⟨f0,f1,f2,f3,f4,f5⟩:=hf it (by simp)
  exact wpAny_pyNext_range_end (I.ok.hd hc) st (by have:n<=i:=hg;omega) λh' eb=>⟨rfl,I.turned (t':=s.toks) (λb o hb e=>eb b o hb e) f0 f1 f3 f4 f5⟩
 self:=λ_ _ _ _ _ st h=>wpAny_pyIter_rangeiter st h
end
section
variable {X:Cx}{tg:Expr}
variable {pins:List (Addr×Obj)}{σ:St}{H:Hp}{s:Shared}
def Cy (K:PySem.W.Frag)(tl:TE):TI:=λσ H R=>tl σ H λx H1=>∃a,x= .ref a/\(∃xs,aM K H1 a xs)/\R (Ey K a) H1
def Fq (K:PySem.W.Frag)(tl:TE):TI:=λσ H R=>tl σ H λx H1=>∃a,x= .ref a/\(∃xs,dm K H1 a xs)/\R (EC K a) H1
theorem qd {l:Expr}{tl:TE}(hl:PE X l tl):PI X tg l (Cy X.K tl):=by
 intro pins s σ H R I h
 refine aP (hl pins s σ H _ I h) λv s1 ⟨x,H1,I1,r1,q1⟩=>?_
 obtain ⟨a,e,⟨xs,hq⟩,q⟩:=q1
 subst e
 cases r1
 obtain ⟨its,rv,p,hz⟩:=I1.list hq
 refine wpAny_pyIter_list p.isList ?_
 refine ⟨s1.heap.objs.size,[s1.heap.objs.size],_,_,H1,rfl,I1.kept (t':=s1.toks) λb o e=>Heap.get?_push_of_some _ e,uB a _,⟨_,Heap.get?_push_size _ rfl,rfl,rfl⟩,λb hb=>?_,q⟩
 have e:b=s1.heap.objs.size:=by simpa using hb
 subst e
 exact I1.ka (Nat.le_refl _) (I1.hok.fresh (Nat.le_refl _))
theorem Au {l:Expr}{tl:TE}(hl:PE X l tl):PI X tg l (Fq X.K tl):=by
 intro pins s σ H R I h
 refine aP (hl pins s σ H _ I h) λv s1 ⟨x,H1,I1,r1,q1⟩=>?_
 obtain ⟨a,e,⟨xs,hq⟩,q⟩:=q1
 subst e
 cases r1
 obtain ⟨its,rv,p,hz⟩:=I1.tuple hq
 refine wpAny_pyIter_tuple (show s1.heap.IsTuple a its.toArray from p) ?_
 refine ⟨s1.heap.objs.size,[s1.heap.objs.size],_,_,H1,rfl,I1.kept (t':=s1.toks) λb o e=>Heap.get?_push_of_some _ e,rL a _,⟨_,Heap.get?_push_size _ rfl,rfl,rfl⟩,λb hb=>?_,q⟩
 have e:b=s1.heap.objs.size:=by simpa using hb
 subst e
 exact I1.ka (Nat.le_refl _) (I1.hok.fresh (Nat.le_refl _))
theorem nZ {R:It->Hp->Prop}{E:Value->Shared->Prop}{lo hi:Int}{t u v:Tok}{tk:Nat}(I:Inv X pins σ H s)(h1: -(2 ^ 62)<=lo)(h2:lo < 2 ^ 62)(h3: -(2 ^ 62)<=hi)(h4:hi < 2 ^ 62)
 (q:R (tZ lo (hi - lo).toNat) H):wpAny (model X.prog X.w) X.A (pyIter (.ref s.heap.objs.size)) (Ex X pins σ tg R) E {s with heap:=s.heap.push {cls:=.type "range",data:=.fields #[.int lo t,.int hi u,.int 1 v]},toks:=tk}:=by
 refine wpAny_pyIter_range (IsRange.new ..) (small_one h1 h2 h3 h4) ?_
 have I1:Inv X pins σ H {s with heap:=s.heap.push {cls:=.type "range",data:=.fields #[.int lo t,.int hi u,.int 1 v]},toks:=tk}:=I.kept λb o e=>Heap.get?_push_of_some _ e
 refine ⟨(s.heap.push {cls:=.type "range",data:=.fields #[.int lo t,.int hi u,.int 1 v]}).objs.size,[(s.heap.push {cls:=.type "range",data:=.fields #[.int lo t,.int hi u,.int 1 v]}).objs.size],_,_,H,rfl,
  I1.kept (t':=tk) λb o e=>Heap.get?_push_of_some _ e,se _ lo (hi - lo).toNat,?_,λb hb=>?_,q⟩
 ·have e1:lo + ((0:Nat):Int) * 1=lo:=by simp
  have e2:(((hi - lo).toNat:Nat):Int) - ((0:Nat):Int)=Builtin.Range.rangeSize lo hi 1:=by rw [rangeSize_one];split<;>omega
  show IsRangeIter _ _ (lo + ((0:Nat):Int) * 1) ((((hi - lo).toNat:Nat):Int) - ((0:Nat):Int)) 1
  rw [e1,e2]
  exact Heap.get?_push_size _ rfl
 ·have e:b=(s.heap.push {cls:=.type "range",data:=.fields #[.int lo t,.int hi u,.int 1 v]}).objs.size:=by simpa using hb
  subst e
  exact I1.ka (Nat.le_refl _) (I1.hok.fresh (Nat.le_refl _))
def DS (ta:TA):TI:=λσ H R=>ta σ H λvs H1=>∃j:Int,vs=[.int j]/\ -(2 ^ 62)<=j/\j < 2 ^ 62/\R (tZ 0 j.toNat) H1
def Ca (ta:TA):TI:=λσ H R=>ta σ H λvs H1=>∃i j:Int,vs=[.int i,.int j]/\(-(2 ^ 62)<=i/\i < 2 ^ 62/\ -(2 ^ 62)<=j/\j < 2 ^ 62)/\R (tZ i (j - i).toNat) H1
theorem uT {a:Expr}{ta:TA}{p pos:Pos}(hg:Gl X "range")(hm:X.mg "range"=none)(ha:PA X [a] ta)(hs:starEach [a] X.env=[(false,eval a X.env)]:=by rfl):PI X tg (.Call (.Name "range" p) [a] [] pos) (DS ta):=by
 intro pins s σ H R I h
 refine Call_ (h7 I hg hm boot_range (PyProof.Rows.callWith_type1 (aP (ha pos pins s σ H _ I h) λus s1 ⟨vs,H1,I1,r1,q1⟩=>?_) hs rfl))
 obtain ⟨j,e,q1,q2,q⟩:=q1
 subst e
 cases r1 with
 | cons r rr=>
   cases rr
   obtain ⟨t,rfl⟩:=r
   exact call_range_1 (nZ I1 (by omega) (by omega) q1 q2 (by simpa using q))
theorem uU {a b:Expr}{ta:TA}{p pos:Pos}(hg:Gl X "range")(hm:X.mg "range"=none)(ha:PA X [a,b] ta)(hs:starEach [a,b] X.env=[(false,eval a X.env),(false,eval b X.env)]:=by rfl)(hs2:starEach [b] X.env=[(false,eval b X.env)]:=by rfl):
 PI X tg (.Call (.Name "range" p) [a,b] [] pos) (Ca ta):=by
 intro pins s σ H R I h
 refine Call_ (h7 I hg hm boot_range (PyProof.Rows.callWith_type1 (aP (ha pos pins s σ H _ I h) λus s1 ⟨vs,H1,I1,r1,q1⟩=>?_) (by rw [hs,hs2]) (by rw [hs2];rfl)))
 obtain ⟨i,j,e,⟨q1,q2,q3,q4⟩,q⟩:=q1
 subst e
 cases r1 with
 | cons r rr=>
   cases rr with
   | cons r' rr=>
     cases rr
     obtain ⟨t,rfl⟩:=r
     obtain ⟨t',rfl⟩:=r'
     exact call_range_2 (nZ I1 q1 q2 q3 q4 q)
def FP (wi:TI)(g:TG)(tb:TS):TS:=λD σ H=>wi σ H λJ H1=>∃W:Nat->Nat->St->Hp->Prop,(∃m,W 0 m σ H1)/\∀i m σ H,W i m σ H->
 (J.stop i H/\D.nx σ H)∨(J.go i H/\∃N:St->Hp->Prop,(∀σ' H',N σ' H'->∃m',m' < m/\W (i + 1) m' σ' H')/\∀x H',J.yld i H x H'->g x σ H' λσ2 H2=>tb {D with nx:=N,ct:=N,bk:=D.nx} σ2 H2)
def jb (fp:List Addr)(h:Heap):List (Addr×Obj):=fp.filterMap λb=>(h.get? b).map λo=>(b,o)
theorem gW {fp:List Addr}{h:Heap}{b:Addr}{o:Obj}(hb:b∈fp)(e:h.get? b=some o):(b,o)∈jb fp h:=mem_filterMap.mpr ⟨b,hb,by rw [e];rfl⟩
theorem tw {fp:List Addr}{h:Heap}{p:Addr×Obj}(hp:p∈jb fp h):p.1∈fp/\h.get? p.1=some p.2:=by
 obtain ⟨b,hb,e⟩:=mem_filterMap.mp hp
 cases q:h.get? b with
 | none=>rw [q] at e;cases e
 | some o=>
   rw [q] at e
   have e':(b,o)=p:=Option.some.inj e
   subst e'
   exact ⟨hb,q⟩
theorem Inv.pinned {fp:List Addr}(I:Inv X pins σ H s)(hf:∀b∈fp,iJ X pins H b)(ho:∀b∈fp,∃o,s.heap.get? b=some o/\∀v,o.data≠ .cell v):Inv X (pins++jb fp s.heap) σ H s:=
 I.gZ λp hp=>(mem_append.mp hp).elim (λz=>I.pin p (mem_append_right _ z)) λz=>by
   obtain ⟨hb,e⟩:=tw z
   obtain ⟨f0,f1,f2,_⟩:=hf p.1 hb
   obtain ⟨o,e',d⟩:=ho p.1 hb
   rw [e] at e';cases e'
   exact ⟨e,f0,f1,f2,d⟩
theorem Inv.lg {pl:List (Addr×Obj)}(I:Inv X (pins++pl) σ H s):Inv X pins σ H s:=I.gZ λp hp=>I.pin p (mem_append_right _ (mem_append_left _ hp))
theorem ue {iter:Expr}{body:List Stmt}{wi:TI}{g:TG}{tb:TS}{pos:Pos}(hp:PassesOwn (model X.prog X.w) X.A X.env X.xe)(hc:X.calm=true)(hi:PI X tg iter wi)(hg:PG X tg g)(hb:hZ X body tb)
 (hs:∀x,foldedSetIterable iter X.env x=pure x:=by intro _;rfl):PS X (.For tg iter body [] pos) (FP wi g tb):=by
 intro pins s σ H D I h
 refine wpAny_For (aP (hi pins s σ H _ I h) λv s1 h1=>aP h1 λitv s2 h2=>?_) hs
 obtain ⟨it,fp,tn,J,H2,e,I2,T,st2,f2,W,⟨m0,w0⟩,turn⟩:=h2
 subst e
 -- what stays true of the iterator's objects through the loop
 have stat:∀{H':Hp},(∀b∈fp,H' b=none)->∀b∈fp,iJ X pins H' b:=λhn b hb=>⟨hn b hb,(f2 b hb).2⟩
 refine codeAny_forLoop_any (λn s'=>∃i σ' H',Inv X pins σ' H' s'/\tn i s'.heap/\(∀b∈fp,H' b=none)/\W i n σ' H') ?_ m0 ⟨0,σ,H2,I2,st2,λb hb=>(f2 b hb).1,w0⟩
 rintro n s3 ⟨i,σ3,H3,I3,st3,fr3,w3⟩
 rcases turn i n σ3 H3 w3 with ⟨stop,qn⟩ | ⟨go,N,hN,step⟩
 ·refine wpAny_passesOwn hp (aP (T.done X rfl rfl rfl hc i pins s3 σ3 H3 X.xe I3 (stat fr3) st3 stop) λr s4 ⟨hr,I4⟩=>?_)
  subst hr
  exact wpAny_execs_nil ⟨σ3,H3,I4,qn⟩
 ·refine wpAny_passesOwn hp (aP (T.item X rfl rfl rfl hc i pins s3 σ3 H3 X.xe I3 (stat fr3) st3 go) λr s4 ⟨u,hr,h4⟩=>?_)
  subst hr
  refine wpAny_passesOwn hp (aP h4 λ_ s5 ⟨x,H5,I5,r5,y5,st5,fr5⟩=>?_)
  have I5':=I5.pinned (stat fr5) (T.obj _ _ st5)
  refine wpAny_passesOwn hp (aP (hg _ s5 σ3 H5 x u _ I5' r5 (step x H5 y5)) λ_ s6 ⟨σ6,H6,I6,q6⟩=>?_)
  refine wpAny_passesOwn hp (aP (hb _ s6 σ6 H6 _ I6 q6) λf s7 q7=>?_)
  have again:∀{σ7:St} {H7:Hp},Inv X (pins++jb fp s5.heap) σ7 H7 s7->N σ7 H7->∃m,m < n/\∃i σ' H',Inv X pins σ' H' s7/\tn i s7.heap/\(∀b∈fp,H' b=none)/\W i m σ' H':=λ{σ7 H7} I7 n7=>by
   obtain ⟨m',hm,w7⟩:=hN σ7 H7 n7
   refine ⟨m',hm,i + 1,σ7,H7,I7.lg,T.keep _ _ _ st5 λb hb o e=>(I7.pin (b,o) (mem_append_right _ (mem_append_right _ (gW hb e)))).1,λb hb=>?_,w7⟩
   obtain ⟨o,e,d⟩:=T.obj _ _ st5 b hb
   exact (I7.pin (b,o) (mem_append_right _ (mem_append_right _ (gW hb e)))).2.1
  cases f with
  | next=>obtain ⟨σ7,H7,I7,n7⟩:=q7;exact again I7 n7
  | cont=>obtain ⟨σ7,H7,I7,n7⟩:=q7;exact again I7 n7
  | brk=>obtain ⟨σ7,H7,I7,q7⟩:=q7;exact ⟨σ7,H7,I7.lg,q7⟩
  | ret v=>obtain ⟨x7,σ7,H7,I7,r7,q7⟩:=q7;exact ⟨x7,σ7,H7,I7.lg,r7,q7⟩
end
abbrev R2:=V->V->Hp->VK->Prop
def dg (X:Cx)(f:Value->Value->Sem Value)(r:R2):Prop:=
 ∀(pins:List (Addr×Obj)) (s:Shared) (σ:St) (H:Hp) (x y:V) (v u:Value) (Q:VK),Inv X pins σ H s->RelV x v->RelV y u->r x y H Q->
  wpAny (model X.prog X.w) X.A (f v u) (EP X pins σ Q) X.xe s
def zC (X:Cx)(f:Value->Sem Value)(r:V->Hp->VK->Prop):Prop:=
 ∀(pins:List (Addr×Obj)) (s:Shared) (σ:St) (H:Hp) (x:V) (v:Value) (Q:VK),Inv X pins σ H s->RelV x v->r x H Q->
  wpAny (model X.prog X.w) X.A (f v) (EP X pins σ Q) X.xe s
def dD (X:Cx)(f:Value)(r:List V->Hp->VK->Prop):Prop:=
 ∀(pins:List (Addr×Obj)) (s:Shared) (σ:St) (H:Hp) (xs:List V) (us:List Value) (Q:VK),Inv X pins σ H s->aK xs us->r xs H Q->
  wpAny (model X.prog X.w) X.A (call f us) (EP X pins σ Q) X.xe s
def Fo (X:Cx)(r:V->Hp->(Bool->Hp->Prop)->Prop):Prop:=
 ∀(pins:List (Addr×Obj)) (s:Shared) (σ:St) (H:Hp) (x:V) (v:Value) (Q:Bool->Hp->Prop),Inv X pins σ H s->RelV x v->r x H Q->
  wpAny (model X.prog X.w) X.A (truthy v) (TP X pins σ Q) X.xe s
def xq (r:R2)(ta tb:TE):TE:=λσ H Q=>ta σ H λx H1=>tb σ H1 λy H2=>r x y H2 Q
def tUn (r:V->Hp->VK->Prop)(ta:TE):TE:=λσ H Q=>ta σ H λx H1=>r x H1 Q
def rI (C:Int->Int->Prop)(g:Int->Int->V):R2:=λx y H Q=>∃i j,x= .int i/\y= .int j/\C i j/\Q (g i j) H
def mV (g:Int->Int->V):R2:=λx y H Q=>∃i j,x= .int i/\y= .int j/\Q (g i j) H
def rU (g:Int->V):V->Hp->VK->Prop:=λx H Q=>∃i,x= .int i/\Q (g i) H
section
variable {X:Cx}{a b c:Expr}{ta tb tc:TE}{pos:Pos}
variable {f:Value->Value->Sem Value}
theorem vE (ha:PE X a ta)(hb:PE X b tb){pins:List (Addr×Obj)}{s:Shared}{σ:St}{H:Hp}{R:V->V->Hp->Prop}(I:Inv X pins σ H s)
 (h:ta σ H λx H1=>tb σ H1 λy H2=>R x y H2) {Q:Value->Shared->Prop}
 (hf:∀v u s2 x y H2,Inv X pins σ H2 s2->RelV x v->RelV y u->R x y H2->wpAny (model X.prog X.w) X.A (f v u) Q X.xe s2):
 wpAny (model X.prog X.w) X.A (eval a X.env) (λv s₁=>wpAny (model X.prog X.w) X.A (eval b X.env) (λu s₂=>wpAny (model X.prog X.w) X.A (f v u) Q X.xe s₂) X.xe s₁) X.xe s:=by
 refine aP (ha pins s σ H _ I h) λv s1 ⟨x,H1,I1,r1,q1⟩=>?_
 refine aP (hb pins s1 σ H1 _ I1 q1) λu s2 ⟨y,H2,I2,r2,q2⟩=>?_
 exact hf v u s2 x y H2 I2 r1 r2 q2
theorem l9 {op:Operator}{r:R2}(ho:dg X (binaryOp op) r)(ha:PE X a ta)(hb:PE X b tb):PE X (.BinOp a op b pos) (xq r ta tb):=by
 intro pins s σ H Q I h
 exact wpAny_BinOp (vE ha hb I h λv u s2 x y H2 I2 rx ry q=>ho pins s2 σ H2 x y v u Q I2 rx ry q)
theorem DI {op:UnaryOp}{r:V->Hp->VK->Prop}(ho:zC X (unaryOp op) r)(ha:PE X a ta):PE X (.UnaryOp op a pos) (tUn r ta):=by
 intro pins s σ H Q I h
 exact UnaryOp_ (aP (ha pins s σ H _ I h) λv s1 ⟨x,H1,I1,r1,q1⟩=>ho pins s1 σ H1 x v Q I1 r1 q1)
theorem uV {C:Int->Int->Prop}{g:Int->Int->Int}
 (rule:∀(i j:Int) (t u:Tok) (s:Shared) (Q:Value->Shared->Prop) (E:Value->Shared->Prop),C i j->Q (.int (g i j) s.toks) {s with toks:=s.toks + 1}->wpAny (model X.prog X.w) X.A (f (.int i t) (.int j u)) Q E s):
 dg X f (rI C λi j=>.int (g i j)):=by
 intro pins s σ H x y v u Q I rx ry h
 obtain ⟨i,j,rfl,rfl,hc,q⟩:=h
 obtain ⟨t,rfl⟩:=rx
 obtain ⟨t',rfl⟩:=ry
 exact rule i j t t' s _ _ hc ⟨.int (g i j),H,I.tok _,⟨_,rfl⟩,q⟩
theorem Ay {g:Int->Int->Int}
 (rule:∀(i j:Int) (t u:Tok) (s:Shared) (Q:Value->Shared->Prop) (E:Value->Shared->Prop),Q (.int (g i j) s.toks) {s with toks:=s.toks + 1}->wpAny (model X.prog X.w) X.A (f (.int i t) (.int j u)) Q E s):
 dg X f (mV λi j=>.int (g i j)):=by
 intro pins s σ H x y v u Q I rx ry h
 obtain ⟨i,j,rfl,rfl,q⟩:=h
 obtain ⟨t,rfl⟩:=rx
 obtain ⟨t',rfl⟩:=ry
 exact rule i j t t' s _ _ ⟨.int (g i j),H,I.tok _,⟨_,rfl⟩,q⟩
theorem sd {g:Int->Int->Bool}
 (rule:∀(i j:Int) (t u:Tok) (s:Shared) (Q:Value->Shared->Prop) (E:Value->Shared->Prop),Q (.bool (g i j)) s->wpAny (model X.prog X.w) X.A (f (.int i t) (.int j u)) Q E s):
 dg X f (mV λi j=>.bl (g i j)):=by
 intro pins s σ H x y v u Q I rx ry h
 obtain ⟨i,j,rfl,rfl,q⟩:=h
 obtain ⟨t,rfl⟩:=rx
 obtain ⟨t',rfl⟩:=ry
 exact rule i j t t' s _ _ ⟨.bl (g i j),H,I,rfl,q⟩
def BT (i j:Int):Prop:=0 < j/\j < 1073741824
def Bw (i j:Int):Prop:=0<=j/\j<=1000000/\i.natAbs < 2 ^ 64
def sr (i j:Int):Prop:=(-(2 ^ 64) < i/\i < 2 ^ 64)∨(-(2 ^ 64) < j/\j < 2 ^ 64)
theorem sr.ok {i j:Int}(h:sr i j):IntMulOk i j:=by
 rcases h with ⟨h1,h2⟩ | ⟨h1,h2⟩
 ·exact .of_left (intBits_le_64 h1 h2)
 ·exact .of_right (intBits_le_64 h1 h2)
theorem Av:dg X (binaryOp .Add) (mV λi j=>.int (i + j)):=Ay λ_ _ _ _ _ _ _ q=>add_int q
theorem AV:dg X (binaryOp .Sub) (mV λi j=>.int (i - j)):=Ay λ_ _ _ _ _ _ _ q=>sub_int q
theorem An:dg X (binaryOp .Mult) (rI sr λi j=>.int (i * j)):=uV λ_ _ _ _ _ _ _ hc q=>mul_int q hc.ok
theorem yZ:dg X (binaryOp .FloorDiv) (rI BT λi j=>.int (i / j)):=uV λi j _ _ _ _ _ hc q=>by
 have h1:(0:Int) < j:=hc.1
 have h2:j < 1073741824:=hc.2
 exact floordiv_int (by omega) (by rw [Int.fdiv_eq_ediv_of_nonneg i (by omega)];exact q) (.inl (PyProof.noPylong_small (by omega)))
theorem AZ:dg X (binaryOp .Mod) (rI (λ_ j=>0 < j) λi j=>.int (i % j)):=uV λi j _ _ _ _ _ hc q=>by
 have h1:(0:Int) < j:=hc
 exact mod_int' (by omega) (by rw [Int.fmod_eq_emod_of_nonneg i (by omega)];exact q)
theorem Ae:dg X (binaryOp .Pow) (rI Bw λi j=>.int (i ^ j.toNat)):=uV λ_ _ _ _ _ _ _ hc q=>pow_int_small hc.1 hc.2.1 hc.2.2 q
theorem unI {f:Value->Sem Value}{g:Int->Int}
 (rule:∀(i:Int) (t:Tok) (s:Shared) (Q:Value->Shared->Prop) (E:Value->Shared->Prop),Q (.int (g i) s.toks) {s with toks:=s.toks + 1}->wpAny (model X.prog X.w) X.A (f (.int i t)) Q E s):
 zC X f (rU λi=>.int (g i)):=by
 intro pins s σ H x v Q I rx h
 obtain ⟨i,rfl,q⟩:=h
 obtain ⟨t,rfl⟩:=rx
 exact rule i t s _ _ ⟨.int (g i),H,I.tok _,⟨_,rfl⟩,q⟩
theorem zt:zC X (unaryOp .USub) (rU λi=>.int (-i)):=unI λ_ _ _ _ _ q=>neg_int q
end
def zF:V->V->Bool
 | .non,.non=>true | .non,.int _=>true | .int _,.non=>true | .non,.bl _=>true | .bl _,.non=>true | .non,.str _=>true | .str _,.non=>true
 | .int _,.int _=>true | .bl _,.bl _=>true | .str _,.str _=>true | .byt _,.byt _=>true
 | .int _,.str _=>true | .str _,.int _=>true | .bl _,.str _=>true | .str _,.bl _=>true
 | _,_=>false
def rEq:R2:=λx y H Q=>zF x y=true/\Q (.bl (decide (x=y))) H
def rNe:R2:=λx y H Q=>zF x y=true/\Q (.bl (!decide (x=y))) H
theorem kG {i j:Int}:decide (V.int i=V.int j)=(i==j):=by
 rw [Bool.eq_iff_iff]
 simp
theorem u6 {i j:Bool}:decide (V.bl i=V.bl j)=(i==j):=by
 rw [Bool.eq_iff_iff]
 simp
theorem qh {i j:Str}:decide (V.str i=V.str j)=(i==j):=by
 rw [Bool.eq_iff_iff]
 simp
theorem qJ {i j:Array UInt8}:decide (V.byt i=V.byt j)=(i.toList==j.toList):=by
 rw [Bool.eq_iff_iff]
 cases i
 cases j
 simp
section
variable {X:Cx}{a b c:Expr}{ta tb tc:TE}{pos:Pos}
variable {op:CmpOp}{r:R2}
theorem bH {pins:List (Addr×Obj)}{σ:St}{H:Hp}{s:Shared}{Q:VK}{k k':Bool}(I:Inv X pins σ H s)(q:Q (.bl k) H)(e:k=k'):EP X pins σ Q (.bool k') s:=by
 subst e
 exact ⟨.bl k,H,I,rfl,q⟩
theorem DP:dg X (compareOp .Eq) rEq:=by
 intro pins s σ H x y v u Q I rx ry h
 obtain ⟨hs,q⟩:=h
 cases x with
 | non=>
   cases rx
   cases y with
   | non=>cases ry;exact PySem.EqNone.eq_none_none (bH I q (by simp))
   | bl j=>cases ry;exact PySem.EqNone.eq_none_bool (bH I q (by simp))
   | int j=>obtain ⟨t',rfl⟩:=ry;exact PySem.EqNone.eq_none_int (bH I q (by simp))
   | str j=>obtain ⟨t',rfl⟩:=ry;exact PySem.EqNone.eq_none_str (bH I q (by simp))
   | _=>exact absurd (show false=true from hs) Bool.false_ne_true
 | bl i=>
   cases rx
   cases y with
   | non=>cases ry;exact PySem.EqNone.eq_bool_none (bH I q (by simp))
   | bl j=>cases ry;exact eq_bool (bH I q u6)
   | str j=>obtain ⟨t',rfl⟩:=ry;exact PySem.EqMixed.eq_bool_str (bH I q (by simp))
   | _=>exact absurd (show false=true from hs) Bool.false_ne_true
 | int i=>
   obtain ⟨t,rfl⟩:=rx
   cases y with
   | non=>cases ry;exact PySem.EqNone.eq_int_none (bH I q (by simp))
   | int j=>obtain ⟨t',rfl⟩:=ry;exact eq_int (bH I q kG)
   | str j=>obtain ⟨t',rfl⟩:=ry;exact PySem.EqMixed.eq_int_str (bH I q (by simp))
   | _=>exact absurd (show false=true from hs) Bool.false_ne_true
 | str i=>
   obtain ⟨t,rfl⟩:=rx
   cases y with
   | non=>cases ry;exact PySem.EqNone.eq_str_none (bH I q (by simp))
   | bl j=>cases ry;exact PySem.EqMixed.eq_str_bool (bH I q (by simp))
   | int j=>obtain ⟨t',rfl⟩:=ry;exact PySem.EqMixed.eq_str_int (bH I q (by simp))
   | str j=>obtain ⟨t',rfl⟩:=ry;exact eq_str (bH I q qh)
   | _=>exact absurd (show false=true from hs) Bool.false_ne_true
 | byt i=>
   obtain ⟨t,rfl⟩:=rx
   cases y with
   | byt j=>obtain ⟨t',rfl⟩:=ry;exact PySem.W.eq_bytes (bH I q qJ)
   | _=>exact absurd (show false=true from hs) Bool.false_ne_true
 | _=>cases y<;>exact absurd (show false=true from hs) Bool.false_ne_true
theorem DM:dg X (compareOp .NotEq) rNe:=by
 intro pins s σ H x y v u Q I rx ry h
 obtain ⟨hs,q⟩:=h
 cases x with
 | non=>
   cases rx
   cases y with
   | non=>cases ry;exact PySem.EqNone.ne_none_none (bH I q (by simp))
   | bl j=>cases ry;exact PySem.EqNone.ne_none_bool (bH I q (by simp))
   | int j=>obtain ⟨t',rfl⟩:=ry;exact PySem.EqNone.ne_none_int (bH I q (by simp))
   | str j=>obtain ⟨t',rfl⟩:=ry;exact PySem.EqNone.ne_none_str (bH I q (by simp))
   | _=>exact absurd (show false=true from hs) Bool.false_ne_true
 | bl i=>
   cases rx
   cases y with
   | non=>cases ry;exact PySem.EqNone.ne_bool_none (bH I q (by simp))
   | bl j=>cases ry;exact ne_bool (bH I q (congrArg not u6))
   | str j=>obtain ⟨t',rfl⟩:=ry;exact PySem.EqMixed.ne_bool_str (bH I q (by simp))
   | _=>exact absurd (show false=true from hs) Bool.false_ne_true
 | int i=>
   obtain ⟨t,rfl⟩:=rx
   cases y with
   | non=>cases ry;exact PySem.EqNone.ne_int_none (bH I q (by simp))
   | int j=>obtain ⟨t',rfl⟩:=ry;exact ne_int (bH I q (congrArg not kG))
   | str j=>obtain ⟨t',rfl⟩:=ry;exact PySem.EqMixed.ne_int_str (bH I q (by simp))
   | _=>exact absurd (show false=true from hs) Bool.false_ne_true
 | str i=>
   obtain ⟨t,rfl⟩:=rx
   cases y with
   | non=>cases ry;exact PySem.EqNone.ne_str_none (bH I q (by simp))
   | bl j=>cases ry;exact PySem.EqMixed.ne_str_bool (bH I q (by simp))
   | int j=>obtain ⟨t',rfl⟩:=ry;exact PySem.EqMixed.ne_str_int (bH I q (by simp))
   | str j=>obtain ⟨t',rfl⟩:=ry;exact ne_str (bH I q (congrArg not qh))
   | _=>exact absurd (show false=true from hs) Bool.false_ne_true
 | byt i=>
   obtain ⟨t,rfl⟩:=rx
   cases y with
   | byt j=>obtain ⟨t',rfl⟩:=ry;exact PySem.W.ne_bytes (bH I q (congrArg not qJ))
   | _=>exact absurd (show false=true from hs) Bool.false_ne_true
 | _=>cases y<;>exact absurd (show false=true from hs) Bool.false_ne_true
theorem DQ:dg X (compareOp .Lt) (mV λi j=>.bl (decide (i < j))):=sd λ_ _ _ _ _ _ _ q=>lt_int q
theorem De:dg X (compareOp .LtE) (mV λi j=>.bl (decide (i<=j))):=sd λ_ _ _ _ _ _ _ q=>le_int q
theorem DF:dg X (compareOp .Gt) (mV λi j=>.bl (decide (j < i))):=sd λ_ _ _ _ _ _ _ q=>gt_int q
theorem Dr:dg X (compareOp .GtE) (mV λi j=>.bl (decide (j<=i))):=sd λ_ _ _ _ _ _ _ q=>ge_int q
theorem pG (b:Expr)(h:op≠ .In:=by decide)(h2:op≠ .NotIn:=by decide):behindInMarks op b=false:=by
 have e1:(op==CmpOp.In)=false:=by cases op<;>first | rfl | exact absurd rfl h
 have e2:(op==CmpOp.NotIn)=false:=by cases op<;>first | rfl | exact absurd rfl h2
 cases b<;>simp [behindInMarks,e1,e2]
theorem y4 (ho:dg X (compareOp op) r)(ha:PE X a ta)(hb:PE X b tb)(hm:behindInMarks op b=false):PE X (.Compare a [op] [b] pos) (xq r ta tb):=by
 intro pins s σ H Q I h
 exact wpAny_Compare1 (vE ha hb I h λv u s2 x y H2 I2 rx ry q=>ho pins s2 σ H2 x y v u Q I2 rx ry q) hm
def xG (t:TE):TT:=λσ H Q=>t σ H λx H'=>∃k,x= .bl k/\Q k H'
theorem zc (ho:dg X (compareOp op) r)(ha:PE X a ta)(hb:PE X b tb)(hm:behindInMarks op b=false):PT X (.Compare a [op] [b] pos) (xG (xq r ta tb)):=by
 intro pins s σ H Q I h
 refine wpAny_isTrue_Compare1 (aP (ha pins s σ H _ I h) λv s1 ⟨x,H1,I1,r1,q1⟩=>aP (hb pins s1 σ H1 _ I1 q1) λu s2 ⟨y,H2,I2,r2,q2⟩=>
  aP (ho pins s2 σ H2 x y v u _ I2 r1 r2 q2) λc s3 ⟨z,H3,I3,r3,k,e,q3⟩=>?_) hm
 subst e
 cases r3
 exact wpAny_truthy_bool ⟨H3,I3,q3⟩
def uZ (r r':R2)(ta tb tc:TE):TE:=λσ H Q=>ta σ H λx H1=>tb σ H1 λy H2=>r x y H2 λz H3=>∃k,z= .bl k/\
 (if k=true then tc σ H3 λw' H4=>r' y w' H4 Q else Q (.bl false) H3)
theorem wJ {op':CmpOp}{r':R2}(ho:dg X (compareOp op) r)(ho':dg X (compareOp op') r')(ha:PE X a ta)(hb:PE X b tb)(hc:PE X c tc)
 (hm:lastMarks [op,op'] [b,c]=false:=by with_unfolding_all rfl):PE X (.Compare a [op,op'] [b,c] pos) (uZ r r' ta tb tc):=by
 intro pins s σ H Q I h
 refine Compare_chain (aP (ha pins s σ H _ I h) λv s1 ⟨x,H1,I1,r1,q1⟩=>chain_link (aP (hb pins s1 σ H1 _ I1 q1) λu s2 ⟨y,H2,I2,r2,q2⟩=>
  aP (ho pins s2 σ H2 x y v u _ I2 r1 r2 q2) λd s3 ⟨z,H3,I3,r3,k,e,q3⟩=>?_)) hm
 subst e
 cases r3
 refine wpAny_truthy_bool ?_
 cases k with
 | false=>exact ite_ff ⟨.bl false,H3,I3,rfl,q3⟩
 | true=>exact ite_tt (chain_last (aP (hc pins s3 σ H3 _ I3 q3) λw' s4 ⟨z',H4,I4,r4,q4⟩=>ho' pins s4 σ H4 y z' u w' Q I4 r2 r4 q4))
theorem wg {op':CmpOp}{r':R2}(ho:dg X (compareOp op) r)(ho':dg X (compareOp op') r')(ha:PE X a ta)(hb:PE X b tb)(hc:PE X c tc)
 (hm:lastMarks [op,op'] [b,c]=false:=by with_unfolding_all rfl):PT X (.Compare a [op,op'] [b,c] pos) (xG (uZ r r' ta tb tc)):=by
 intro pins s σ H Q I h
 refine isTrue_chain (aP (ha pins s σ H _ I h) λv s1 ⟨x,H1,I1,r1,q1⟩=>test_link (aP (hb pins s1 σ H1 _ I1 q1) λu s2 ⟨y,H2,I2,r2,q2⟩=>
  aP (ho pins s2 σ H2 x y v u _ I2 r1 r2 q2) λd s3 ⟨z,H3,I3,r3,k,e,q3⟩=>?_)) hm
 subst e
 cases r3
 refine wpAny_truthy_bool ?_
 cases k with
 | false=>
   obtain ⟨k',e',q'⟩:=q3
   cases e'
   exact ite_ff ⟨H3,I3,q'⟩
 | true=>
   refine ite_tt (test_last (aP (hc pins s3 σ H3 _ I3 q3) λw' s4 ⟨z',H4,I4,r4,q4⟩=>aP (ho' pins s4 σ H4 y z' u w' _ I4 r2 r4 q4) λd' s5 ⟨z2,H5,I5,r5,k2,e2,q5⟩=>?_))
   subst e2
   cases r5
   exact wpAny_truthy_bool ⟨H5,I5,q5⟩
def BD (K:PySem.W.Frag)(x:V)(H:Hp)(k:Bool):Prop:=
 match x with
 | .non=>k=false
 | .bl b=>k=b
 | .int i=>k=(i != 0)
 | .str y=>y.length<=sizeLine/\k=((y.length:Int) != 0)
 | .byt y=>y.size<=sizeLine/\k=((y.size:Int) != 0)
 | .ref p=>(∃xs,aM K H p xs/\k= !xs.isEmpty)∨(∃xs,dm K H p xs/\k= !xs.isEmpty)∨∃kvs,H p=some (.dK kvs)/\k= !kvs.isEmpty
 | _=>False
theorem sy {κ:Type}{kvs:List (κ×V)}{vs:List (κ×Value)}(r:KV kvs vs):(!vs.isEmpty)= !kvs.isEmpty:=by
 cases r<;>rfl
theorem lK {xs:List V}{its:List Value}(r:aK xs its):(!its.toArray.isEmpty)= !xs.isEmpty:=by
 cases r<;>simp
theorem jd:(sizeLine:Nat) < 2 ^ 63:=by rw [sizeLine_eq];decide
theorem A0:Fo X (λx H Q=>∃k,BD X.K x H k/\Q k H):=by
 intro pins s σ H x v Q I rx h
 obtain ⟨k,e,q⟩:=h
 have hl:=jd
 have hs:sizeLine=16777216:=sizeLine_eq
 cases x with
 | non=>
   cases rx
   have e':k=false:=e
   subst e'
   exact truthy_none ⟨H,I,q⟩
 | bl b=>
   cases rx
   have e':k=b:=e
   subst e'
   exact wpAny_truthy_bool ⟨H,I,q⟩
 | int i=>
   obtain ⟨t,rfl⟩:=rx
   have e':k=(i != 0):=e
   subst e'
   exact PySem.P.truthy_int ⟨H,I,q⟩
 | str y=>
   obtain ⟨t,rfl⟩:=rx
   obtain ⟨hy,e'⟩:y.length<=sizeLine/\k=((y.length:Int) != 0):=e
   subst e'
   exact PySem.P.truthy_str (by omega) ⟨H,I.tok _,q⟩
 | byt y=>
   obtain ⟨t,rfl⟩:=rx
   obtain ⟨hy,e'⟩:y.size<=sizeLine/\k=((y.size:Int) != 0):=e
   subst e'
   exact PySem.W.truthy_bytes (by omega) ⟨H,I.tok _,q⟩
 | ref p=>
   cases rx
   have e':(∃xs,aM X.K H p xs/\k= !xs.isEmpty)∨(∃xs,dm X.K H p xs/\k= !xs.isEmpty)∨∃kvs,H p=some (.dK kvs)/\k= !kvs.isEmpty:=e
   rcases e' with ⟨xs,hx,e'⟩ | ⟨xs,hx,e'⟩ | ⟨kvs,hx,e'⟩
   ·subst e'
    obtain ⟨its,r,pl,hz⟩:=I.list hx
    have hlen:=r.length
    exact wpAny_truthy_list pl.isList (by simp only [size_toArray];omega) ⟨H,I.tok _,by rw [lK r];exact q⟩
   ·subst e'
    obtain ⟨its,r,pl,hz⟩:=I.tuple hx
    have hlen:=r.length
    exact truthy_tuple pl (by simp only [size_toArray];omega) ⟨H,I.tok _,by rw [lK r];exact q⟩
   ·subst e'
    obtain ⟨hz,hS,vs,r,m⟩:kvs.length<=sizeLine/\(p==sysModules)=false/\∃vs,KV kvs vs/\s.heap.DictOf (cz X.prog X.w) p vs:=I.hok p _ hx
    have hlen:kvs.length=vs.length:=Paired.length r
    exact wpAny_truthy_dict hS m (by omega) ⟨H,I.tok _,by rw [sy r];exact q⟩
 | _=>exact (show False from e).elim
theorem k6 (ha:PE X a ta)(he:∀whole,isTrue a X.env whole=(do let v ← whole;standAt a.pos;holding [v] (truthy v))):
 PT X a (λσ H Q=>ta σ H λx H'=>∃k,BD X.K x H' k/\Q k H'):=by
 intro pins s σ H Q I h
 exact isTrue_plain (aP (ha pins s σ H _ I h) λv s1 ⟨x,H1,I1,r1,q1⟩=>A0 pins s1 σ H1 x v Q I1 r1 q1) (he _)
theorem vals1 {x:V}{us:List Value}(r:aK [x] us):∃u,us=[u]/\RelV x u:=by
 cases r with
 | cons r1 r2=>cases r2;exact ⟨_,rfl,r1⟩
theorem vals2 {x y:V}{us:List Value}(r:aK [x,y] us):∃u w',us=[u,w']/\RelV x u/\RelV y w':=by
 cases r with
 | cons r1 r2=>
   cases r2 with
   | cons r3 r4=>cases r4;exact ⟨_,_,rfl,r1,r3⟩
theorem ui (hc:X.calm=true):dD X (.builtin "min") (λxs H Q=>∃i j,xs=[.int i,.int j]/\Q (.int (if j < i then j else i)) H):=by
 intro pins s σ H xs us Q I r h
 obtain ⟨i,j,rfl,q⟩:=h
 obtain ⟨u,w',rfl,⟨t,rfl⟩,⟨t',rfl⟩⟩:=vals2 r
 refine min_two_ints (I.ok.hd hc) λh' tk k=>⟨_,H,I.kept k,?_,q⟩
 by_cases hj:j < i
 ·rw [if_pos hj,if_pos hj];exact ⟨_,rfl⟩
 ·rw [if_neg hj,if_neg hj];exact ⟨_,rfl⟩
end
structure wG (h:Heap) (x dx C:Addr) (mA:Str->Option Value):Prop where
 obj:h.get? x=some (PySem.W.instObj C dx)
 ns:h.Ns1 dx mA
 ne:dx≠x
theorem vw {h:Heap}{dx:Addr}{mA:Str->Option Value}(n:h.Ns1 dx mA):∃od,h.get? dx=some od/\∀name,PySem.W.lookIn name od=some (mA name):=by
 obtain ⟨o,es,ep,ho,hd,hk,_,hm⟩:=n
 refine ⟨o,ho,λname=>?_⟩
 have e:=hm name
 unfold nsFind findBy at e
 rw [← Array.find?_toList] at e
 unfold PySem.W.lookIn
 rw [hd]
 dsimp only
 split
 ·rename_i y q
  rw [q] at e
  exact congrArg some e
 ·rename_i q
  rw [q] at e
  have a:es.toList.any (·.refKey)=false:=by
   rw [List.any_eq_false]
   intro y hy
   obtain ⟨z,t,hkey⟩:=hk y (Array.mem_toList_iff.mp hy)
   simp [DictEntry.refKey,hkey]
  have a':¬es.toList.any (·.refKey)=true:=by rw [a];exact Bool.false_ne_true
  rw [if_neg a']
  exact congrArg some e
theorem wG.look {h:Heap}{x dx C:Addr}{mA:Str->Option Value}(I:wG h x dx C mA):∃od,PySem.W.InstAt h x (PySem.W.instObj C dx) C (some od)/\∀name,PySem.W.lookIn name od=some (mA name):=
 let ⟨od,ho,hl⟩:=vw I.ns
 ⟨od,⟨I.obj,rfl,rfl,ho⟩,hl⟩
section
variable {prog:Program}{w:World}{A:Around}{E:Value->Shared->Prop}{s:Shared}{K:PySem.W.Frag}{x dx C f:Addr}{mA:Str->Option Value}{name:Str}{v:Value}
end
theorem gf.qp {v:V}{o:Option Value}(r:gf (some v) o):∃u,o=some u/\RelV v u:=by
 cases o with
 | none=>exact (show False from r).elim
 | some u=>exact ⟨u,rfl,r⟩
section
variable {P:Program}{w:World}{H H':Hp}{h h':Heap}{a C dx:Addr}{fs fs':List (Str×V)}
theorem yP (hok:c9 P w H h)(e:H a=some (.ins C dx fs)):∃mA,wG h a dx C mA/\(∀f,gf (fs.lookup f) (mA f))/\PySem.Within mA (fs.map (·.1))/\fs.length<=1000/\H dx=some (.own a):=by
 obtain ⟨d,z,ne,ob,mA,n,r,q⟩:=(show cq P w H h a (.ins C dx fs) from hok a _ e)
 exact ⟨mA,⟨ob,n,ne⟩,r,q,z,d⟩
end
structure zA (K:PySem.W.Frag) (C:Addr):Prop where
 pg:PySem.W.plainGet K C Str.empty=true
 hd:PySem.W.hasDictIn K C=true
 po:PySem.W.plainOver K C=true
 sa:PySem.W.findIn K (.ref C) "__setattr__"=some (some (.builtin "object.__setattr__"))
theorem zA.get {K:PySem.W.Frag}{C:Addr}(c:zA K C)(f:Str):PySem.W.plainGet K C f=true:=c.pg
section
variable {X:Cx}{pins:List (Addr×Obj)}{σ:St}{H:Hp}{s:Shared}{a C dx:Addr}{fs:List (Str×V)}{f:Str}{v:V}{A:Around}{E:Value->Shared->Prop}
end
section
variable {X:Cx}{o e value:Expr}{f:Str}{pos pos' tpos:Pos}{ta tv:TE}
end
section
variable {X:Cx}{pins:List (Addr×Obj)}{σ:St}{H:Hp}{s:Shared}{A:Around}{E:Value->Shared->Prop}{Q:Value->Shared->Prop}{c:Value}{b:Bool}
inductive ei (K:PySem.W.Frag) (H:Hp):V->Value->Prop where
 | non:ei K H .non (.type "NoneType")
 | bl (x:Bool):ei K H (.bl x) (.type "bool")
 | int (i:Int):ei K H (.int i) (.type "int")
 | str (x:Str):ei K H (.str x) (.type "str")
 | flt (x:UInt64):ei K H (.flt x) (.type "float")
 | lst {a:Addr} {xs:List V} (e:H a=some (.lst xs)):ei K H (.ref a) (.type "list")
 | frz {a:Addr} {o:Obj} {xs:List V} (e:H a=some (.frz o (.lst xs))):ei K H (.ref a) (.type "list")
 | tup {a:Addr} {xs:List V} (e:H a=some (.tup xs)):ei K H (.ref a) (.type "tuple")
 | dK {a:Addr} {kvs:List (Key×V)} (e:H a=some (.dK kvs)):ei K H (.ref a) (.type "dict")
 | dT {a:Addr} {kvs:List (List Key×V)} (e:H a=some (.dT kvs)):ei K H (.ref a) (.type "dict")
 | ins {a C dx:Addr} {fs:List (Str×V)} (e:H a=some (.ins C dx fs)) (cl:zA K C) (ha:PySem.W.findIn K (.ref C) "__class__"=some (some (.builtin "object.__class__")))
  (hn:PySem.W.specialIn K (.builtin "object.__class__") "__get__"=some (some (.builtin "getset_descriptor.__get__"))) (htk:PySem.W.takesIn K (.builtin "object.__class__")=some true)
  (hm:PySem.W.mroIn K C (.type "object")=some true):ei K H (.ref a) (.ref C)
theorem uD {x:V}{u t:Value}(I:Inv X pins σ H s)(rx:RelV x u)(ty:ei X.K H x t)(e:PySem.W.kitOne X.K t c=some b)(h:∀tk,Q (.bool b) {s with toks:=tk}):
 wpAny (model X.prog X.w) A (call (.builtin "isinstance") [u,c]) Q E s:=by
 cases ty with
 | non=>cases (show u=Value.none from rx);exact PySem.W.kia_one PySem.W.kitx_none I.gD True.intro e (λz=>nomatch z) h
 | bl y=>cases (show u=Value.bool y from rx);exact PySem.W.kia_one PySem.W.kitx_bool I.gD True.intro e (λz=>nomatch z) h
 | int i=>obtain ⟨t,q⟩:=(show∃t,u=Value.int i t from rx);cases q;exact PySem.W.kia_one PySem.W.kitx_int I.gD True.intro e (λz=>nomatch z) h
 | str y=>obtain ⟨t,q⟩:=(show∃t,u=Value.str y t from rx);cases q;exact PySem.W.kia_one PySem.W.kitx_str I.gD True.intro e (λz=>nomatch z) h
 | flt y=>obtain ⟨t,q⟩:=(show∃t,u=Value.float y t from rx);cases q;exact PySem.W.kia_one PySem.W.kitx_float I.gD True.intro e (λz=>nomatch z) h
 | @lst a xs ea=>
   cases (show u=Value.ref a from rx)
   obtain ⟨_,_,n,_,h1⟩:=(show cq X.prog X.w H s.heap a (.lst xs) from I.hok a _ ea)
   exact PySem.W.kia_one PySem.W.kitx_list I.gD ⟨_,h1,rfl⟩ e (λz=>nomatch z) h
 | @frz a ob xs ea=>
   cases (show u=Value.ref a from rx)
   obtain ⟨_,_,_,n,_,h1⟩:=(show cq X.prog X.w H s.heap a (.frz ob (.lst xs)) from I.hok a _ ea)
   exact PySem.W.kia_one PySem.W.kitx_list I.gD ⟨_,h1,rfl⟩ e (λz=>nomatch z) h
 | @tup a xs ea=>
   cases (show u=Value.ref a from rx)
   obtain ⟨_,_,_,p⟩:=(show cq X.prog X.w H s.heap a (.tup xs) from I.hok a _ ea)
   obtain ⟨o,h1,h2,_⟩:=p
   exact PySem.W.kia_one PySem.W.kitx_tuple I.gD ⟨o,h1,h2⟩ e (λz=>nomatch z) h
 | @dK a kvs ea=>
   cases (show u=Value.ref a from rx)
   obtain ⟨_,_,vs,_,p⟩:=(show cq X.prog X.w H s.heap a (.dK kvs) from I.hok a _ ea)
   obtain ⟨o,es,ep,h1,h2,_⟩:=p
   exact PySem.W.kia_one PySem.W.kitx_dict I.gD ⟨o,h1,h2.1⟩ e (λz=>nomatch z) h
 | @dT a kvs ea=>
   cases (show u=Value.ref a from rx)
   obtain ⟨_,_,xs,_,o,es,ep,h1,h2,_⟩:=(show cq X.prog X.w H s.heap a (.dT kvs) from I.hok a _ ea)
   exact PySem.W.kia_one PySem.W.kitx_dict I.gD ⟨o,h1,h2.1⟩ e (λz=>nomatch z) h
 | @ins a C dx fs ea cl ha hn htk hm=>
   cases (show u=Value.ref a from rx)
   obtain ⟨mA,O,_⟩:=yP I.hok ea
   obtain ⟨od,J,_⟩:=O.look
   exact PySem.W.kia_one (PySem.W.kitx_own (cl.get _) cl.hd ha hn htk hm) I.gD J e (λz=>nomatch z) h
end
section
variable {A:Around}
structure bU (k:Nat) (A:Around):Prop where
 hd:A.handled=none
 dp:A.depth + 3 * k + 5 < recursionLimit
 un:A.units + 16 * k + 200 < cLine
theorem bU.mono {j k:Nat}(r:bU k A)(h:j<=k):bU j A:=⟨r.hd,by have:=r.dp;omega,by have:=r.un;omega⟩
theorem bU.deeper {k:Nat}(r:bU (k + 1) A)(env:Env):bU k (A.deeper env):=
 ⟨r.hd,by have:=r.dp;show A.depth + 1 + 3 * k + 5 < _;omega,by have:=r.un;show A.units + 3 + 16 * k + 200 < _;omega⟩
theorem bU.depth {k:Nat}(r:bU k A):A.depth < recursionLimit:=by have:=r.dp;omega
theorem bU.units {k:Nat}(r:bU k A):A.units + 64 < cLine:=by have:=r.un;omega
def Fw:TA:=λ_ H Q=>Q [] H
def DY (ta:TE)(tr:TA):TA:=λσ H Q=>ta σ H λx H1=>tr σ H1 λxs H2=>Q (x::xs) H2
end
section
variable {X:Cx}{e:Expr}{es:List Expr}{te:TE}{t:TA}{pos:Pos}
theorem bz:PA X [] Fw:=λ_ _ _ _ H Q I h=>Calls.spliced_nil ⟨[],H,I,.nil,h⟩
theorem aL (ha:PE X e te)(hr:PA X es t)(hs:starEach (e::es) X.env=(false,eval e X.env)::starEach es X.env:=by rfl):PA X (e::es) (DY te t):=by
 intro pos pins s σ H Q I h
 rw [hs]
 show wpAny _ _ (spliced ((false,eval e X.env)::backTo pos (starEach es X.env))) _ _ s
 refine Calls.spliced_cons (aP (ha pins s σ H _ I h) λu s1 ⟨x,H1,I1,r1,q1⟩=>?_)
 exact aP (hr pos pins s1 σ H1 _ I1 q1) λus s2 ⟨xs,H2,I2,r2,q2⟩=>⟨x::xs,H2,I2,.cons r1 r2,q2⟩
def Fv (t:TA):TE:=λσ H Q=>t σ H λxs H1=>xs.length<=sizeLine/\∀p,H1 p=none->Q (.ref p) (upd H1 p (.tup xs))
def Fu (t:TA):TE:=λσ H Q=>t σ H λxs H1=>xs.length<=sizeLine/\∀p,H1 p=none->Q (.ref p) (upd H1 p (.lst xs))
theorem iR {x1}(h:PA X es t):PE X (.Tuple es x1 pos) (Fv t):=by
 intro pins s σ H Q I hq
 refine wpAny_Tuple_spliced (aP (h pos pins s σ H _ I hq) λus s1 ⟨xs,H1,I1,r,z,q⟩=>⟨by rw [← r.length];exact z,?_⟩)
 have hf:H1 s1.heap.objs.size=none:=I1.hok.fresh (Nat.le_refl _)
 refine ⟨.ref s1.heap.objs.size,upd H1 s1.heap.objs.size (.tup xs),I1.laid (t':=s1.toks) (λb u e=>Heap.get?_push_of_some _ e) (Nat.le_refl _) ?_,rfl,q _ hf⟩
 exact ⟨z,us,r,⟨_,Heap.get?_push_size _ rfl,rfl,_,rfl⟩⟩
theorem jO (h:PA X es t):PE X (.List es pos) (Fu t):=by
 intro pins s σ H Q I hq
 refine wpAny_List_spliced (aP (h pos pins s σ H _ I hq) λus s1 ⟨xs,H1,I1,r,z,q⟩=>⟨by rw [← r.length];exact z,?_⟩)
 have hf:H1 s1.heap.objs.size=none:=I1.hok.fresh (Nat.le_refl _)
 refine ⟨.ref s1.heap.objs.size,upd H1 s1.heap.objs.size (.lst xs),I1.laid (t':=s1.toks) (λb u e=>Heap.get?_push_of_some _ e) (Nat.le_refl _) ?_,rfl,q _ hf⟩
 exact ⟨z,us,0,r,Heap.get?_push_size _ rfl⟩
end
abbrev Sp:=List V->Hp->VK->XK->Prop
abbrev jD:=List Env->Hp->Shared->XK->Value->Shared->Prop
structure sF (P:Program) (w:World) (K:PySem.W.Frag) (mg:Str->Option Value) (base:Heap) (A:Around) (outer:List Env) (s:Shared) (H:Hp):Prop where
 frames:A.frames=some outer
 mod:Mod K mg base
 bs:∀b o,base.get? b=some o->s.heap.get? b=some o/\H b=none
 bsz:base.objs.size<=s.heap.objs.size
 funs:s.heap.FunFrames base outer
 frf:∀b∈i7 outer,H b=none
 hok:c9 P w H s.heap
 bare:AllBare s.gens
def CE (outer:List Env)(P:Program)(w:World)(H:Hp)(s:Shared)(Q:VK)(u:Value)(s':Shared):Prop:=
 ∃v H',s'.os=s.os/\AllBare s'.gens/\Un (i7 outer) [] H H' s.heap s'.heap/\c9 P w H' s'.heap/\RelV v u/\Q v H'
def CR (CX:jD)(outer:List Env)(P:Program)(w:World)(H:Hp)(s:Shared)(Q:VK)(E:XK)(r:Result)(s':Shared):Prop:=
 match r with
 | .ok (.ret u)=>CE outer P w H s Q u s'
 | .ok _=>False
 | .error e=>CX outer H s E e s'
structure fu (P:Program) (w:World) (K:PySem.W.Frag) (mg:Str->Option Value) (base:Heap) (CX:jD) (k:Nat) (f:Addr) (fd:FuncData) (ps:List Str) (sp:Sp):Prop where
 len:∀vs H Q E,sp vs H Q E->vs.length=ps.length
 run:∀(A:Around) (outer:List Env) (s:Shared) (H:Hp) (args:Args) (us:List Value) (vs:List V) (Q:VK) (E:XK),bU k A->sF P w K mg base A outer s H->BindsTo s fd args (ps.zip us)->aK vs us->sp vs H Q E->
  codeAny (model P w) A (.call (.ref f) args) (CR CX outer P w H s Q E) s
theorem fu.mono {P:Program}{w:World}{K:PySem.W.Frag}{mg:Str->Option Value}{base:Heap}{CX:jD}{j k:Nat}{f:Addr}{fd:FuncData}{ps:List Str}{sp:Sp}(F:fu P w K mg base CX j f fd ps sp)(h:j<=k):
 fu P w K mg base CX k f fd ps sp:=⟨F.len,λA outer s H args us vs Q E hr=>F.run A outer s H args us vs Q E (hr.mono h)⟩
section
variable {X:Cx}{pins:List (Addr×Obj)}{σ:St}{H:Hp}{s s':Shared}
theorem Inv.Fk (I:Inv X pins σ H s):sF X.prog X.w X.K X.mg X.base X.A X.stack s H:=
 ⟨I.ok.frames,I.ok.mod,I.bs,Nat.le_trans I.ok.bsz I.sz,I.stack,I.qv,I.hok,I.bare⟩
theorem Inv.after {Q:VK}{u:Value}(I:Inv X pins σ H s)(h:CE X.stack X.prog X.w H s Q u s'):EP X pins σ Q u s':=by
 obtain ⟨v,H',os,bare,un,hok,r,q⟩:=h
 obtain ⟨hh,g,d,t,os'⟩:=s'
 obtain rfl:os'=s.os:=os
 exact ⟨v,H',I.call (h':=hh) (g':=g) (d':=d) (t':=t) (ch:=[]) un hok bare (λb z=>absurd z (by simp)),r,q⟩
end
def DU (sp:Sp)(dvs:List V)(E:XK)(t:TA):TE:=λσ H Q=>t σ H λvs H1=>sp (vs++dvs) H1 Q E
def Binds (K:PySem.W.Frag)(fd:FuncData)(ps:List Str)(ds:List Value):Prop:=
 ∀(s:Shared) (us:List Value),K.In s.heap->(us++ds).length=ps.length->BindsTo s fd ⟨us,[]⟩ (ps.zip (us++ds))
theorem Binds.all {K:PySem.W.Frag}{fd:FuncData}{ps:List Str}(h:∀us:List Value,us.length=ps.length->bindArgs fd ⟨us,[]⟩=pure (ps.zip us)):Binds K fd ps []:=λs us _ hl=>by
 rw [append_nil] at hl ⊢
 exact .of_eq (h us hl)
def Passes (CX:jD)(X:Cx)(E:XK):Prop:=∀(pins:List (Addr×Obj)) (σ:St) (H:Hp) (s:Shared) (e:Value) (s':Shared),Inv X pins σ H s->CX X.stack H s E e s'->X.xe e s'
section
variable {X:Cx}{CX:jD}{k:Nat}{f C:Addr}{fd:FuncData}{ps:List Str}{sp:Sp}{dvs:List V}{ds:List Value}{E:XK}{x m:Str}{p pos apos:Pos}{e o:Expr}{es:List Expr}{ta:TE}{t:TA}
theorem Ax {pins:List (Addr×Obj)}{σ:St}{H:Hp}{s:Shared}{Q:VK}{us:List Value}{vs:List V}(F:fu X.prog X.w X.K X.mg X.base CX k f fd ps sp)(hr:bU k X.A)(hb:Binds X.K fd ps ds)(hd:aK dvs ds)(hx:Passes CX X E)
 (I:Inv X pins σ H s) (r:aK vs us) (h:sp (vs++dvs) H Q E):wpAny (model X.prog X.w) X.A (call (.ref f) us) (EP X pins σ Q) X.xe s:=by
 have r2:aK (vs++dvs) (us++ds):=r.append hd
 have hl:(us++ds).length=ps.length:=by rw [← r2.length];exact F.len _ _ _ _ h
 refine wpAny_call (codeAny_mono (F.run X.A X.stack s H ⟨us,[]⟩ (us++ds) (vs++dvs) Q E hr I.Fk (hb s us I.gD hl) r2 h) λr s' hq=>?_)
 cases r with
 | error e=>exact hx pins σ H s e s' I hq
 | ok fl=>
   cases fl with
   | ret u=>exact I.after hq
   | next=>exact False.elim hq
   | brk=>exact False.elim hq
   | cont=>exact False.elim hq
theorem kB (F:fu X.prog X.w X.K X.mg X.base CX k f fd ps sp)(hr:bU k X.A)(hg:Gl X x)(hm:X.mg x=some (.ref f))(hk:PySem.W.keepIn X.K (.ref f)=true)(hb:Binds X.K fd ps ds)(hd:aK dvs ds)(hx:Passes CX X E)
 (ha:PA X (e::es) t) (hdb:Dg0 x:=by decide) (he:starEach (e::es) X.env=(false,eval e X.env)::starEach es X.env:=by rfl) (hpl:(backTo pos (starEach es X.env)).any (·.1)=false:=by rfl):
 PE X (.Call (.Name x p) (e::es) [] pos) (DU sp dvs E t):=by
 intro pins s σ H Q I h
 refine wpAny_Call_Name_kw (qW I hg hm ?_ hdb)
 refine PySem.W.callWith_K (h₀:=X.base) I.ok.mod.kin hk (aP (ha pos pins s σ H _ I h) λus s1 ⟨vs,H1,I1,r,q⟩=>⟨I1.gD,?_⟩) he hpl
 exact Ax F hr hb hd hx I1 r q
end
section
variable {X:Cx}{CX:jD}{k:Nat}{f C:Addr}{fd:FuncData}{ps ks:List Str}{sp:Sp}{E:XK}{x m:Str}{p pos apos kpos:Pos}{e o:Expr}{es:List Expr}{kws:List Keyword}{te ta:TE}{t tk:TA}{nm:Option Str}
variable {g:List Value->List Value->List Value}{gV:List V->List V->List V}
end
structure aB (N P:List Str) (sc:Scope):Prop where
 kind:sc.kind= .function
 co:sc.isCoroutine=false
 gen:sc.isGenerator=false
 nd:N.Nodup
 pre:N.take P.length=P
 par:∀x∈P,sc.names.lookup x=some .local∨sc.names.lookup x=some .cell
 nofree:∀y∈sc.names,y.2≠ .free
theorem fS0{N P:List Str}{sc:Scope}(a:sc.kind=.function:=by rfl)(b:sc.isCoroutine=false:=by rfl)(c:sc.isGenerator=false:=by rfl)(d:N.Nodup:=by decide +kernel)(e:N.take P.length=P:=by rfl)(f:∀x∈P,sc.names.lookup x=some .local∨sc.names.lookup x=some .cell:=by decide +kernel)(g:∀y∈sc.names,y.2≠.free:=by decide +kernel):aB N P sc:=⟨a,b,c,d,e,f,g⟩
theorem nr {kindOf:Str->Option NameKind}{x:Str}:∀{binds:List (Str×Value)} {m:Str->Option Value},(∀v,(x,v)∉binds)->bindL kindOf binds m x=m x
 | [],_,_=>rfl
 | (n,v)::r,m,h=>by
   unfold bindL
   rw [nr λw hw=>h w (mem_cons_of_mem _ hw)]
   split
   ·have:x≠n:=by rintro rfl;exact h v mem_cons_self
    simp [this]
   ·rfl
theorem m9 {kindOf:Str->Option NameKind}{x:Str}:∀{binds:List (Str×Value)} {m:Str->Option Value},(∀v,(x,v)∉binds)->bindC kindOf binds m x=m x
 | [],_,_=>rfl
 | (n,v)::r,m,h=>by
   unfold bindC
   rw [m9 λw hw=>h w (mem_cons_of_mem _ hw)]
   split
   ·rfl
   ·have:x≠n:=by rintro rfl;exact h v mem_cons_self
    simp [this]
theorem nt {kindOf:Str->Option NameKind}{x:Str}{v:Value}:∀{P:List Str} {vs:List Value} {i:Nat} {m:Str->Option Value},P.Nodup->P[i]?=some x->vs[i]?=some v->kindOf x=some .local->
 bindL kindOf (P.zip vs) m x=some v
 | [],_,_,_,_,h,_,_=>by simp at h
 | _::_,[],_,_,_,_,h,_=>by simp at h
 | p::P,w::vs,0,m,nd,h1,h2,hk=>by
   simp at h1 h2;subst h1;subst h2
   show bindL kindOf ((p,w)::P.zip vs) m p=_
   unfold bindL
   rw [nr λv hv=>(nodup_cons.mp nd).1 (of_mem_zip hv).1,if_pos hk]
   simp
 | p::P,w::vs,i + 1,m,nd,h1,h2,hk=>by
   show bindL kindOf ((p,w)::P.zip vs) m x=_
   unfold bindL
   exact nt (i:=i) (nodup_cons.mp nd).2 (by simpa using h1) (by simpa using h2) hk
theorem m5 {kindOf:Str->Option NameKind}{x:Str}{v:Value}:∀{P:List Str} {vs:List Value} {i:Nat} {m:Str->Option Value},P.Nodup->P[i]?=some x->vs[i]?=some v->kindOf x≠some .local->
 bindC kindOf (P.zip vs) m x=some v
 | [],_,_,_,_,h,_,_=>by simp at h
 | _::_,[],_,_,_,_,h,_=>by simp at h
 | p::P,w::vs,0,m,nd,h1,h2,hk=>by
   simp at h1 h2;subst h1;subst h2
   show bindC kindOf ((p,w)::P.zip vs) m p=_
   unfold bindC
   rw [m9 λv hv=>(nodup_cons.mp nd).1 (of_mem_zip hv).1,if_neg hk]
   simp
 | p::P,w::vs,i + 1,m,nd,h1,h2,hk=>by
   show bindC kindOf ((p,w)::P.zip vs) m x=_
   unfold bindC
   exact m5 (i:=i) (nodup_cons.mp nd).2 (by simpa using h1) (by simpa using h2) hk
def start (N:List Str)(vs:List V):St:=vs.map some++List.replicate (N.length - vs.length) none
def eh (CX:jD)(P:Program)(w:World)(K:PySem.W.Frag)(mg:Str->Option Value)(base:Heap)(N:List Str)(qual:Str)(scope:Scope)(f:Addr)(cd:Value)(A:Around)(outer:List Env)(s:Shared)(H:Hp)(E:XK):Cx where
 prog:=P
 w:=w
 K:=K
 mg:=mg
 base:=base
 A:=A.deeper (envOfC qual scope s.heap.objs.size f cd)
 N:=N
 s₀:=s
 H₀:=H
 env:=envOfC qual scope s.heap.objs.size f cd
 outer:=outer
 stack:=envOfC qual scope s.heap.objs.size f cd::outer
 ex:=[]
 calm:=true
 fn:=λ_=>true
 pn:=[]
 xe:=λe s'=>wpAny (model P w) (A.deeper (envOfC qual scope s.heap.objs.size f cd)) (leaving (envOfC qual scope s.heap.objs.size f cd) e) (λ_ s''=>CX outer H s E e s'') (λe' s''=>CX outer H s E e' s'') s'
theorem aT {sc:Scope}{n:Nat}{x:Str}(h:sc.names.lookup x=some .cell):∃c,(cellsFrom n sc.names []).lookup x=some c:=by
 have q:=PySem.W.cellsFrom_some sc.names n [] (.inl h)
 exact Option.isSome_iff_exists.mp q
theorem u8 {CX:jD}{P:Program}{w:World}{K:PySem.W.Frag}{mg:Str->Option Value}{base:Heap}{N ps:List Str}{qual:Str}{scope:Scope}{f:Addr}{cd:Value}{A:Around}{outer:List Env}{s s1:Shared}{H:Hp}{E:XK}{us:List Value}{vs:List V}
 (S:aB N ps scope) (hd:A.handled=none) (e0:sF P w K mg base A outer s H) (hl:vs.length=ps.length) (r:aK vs us)
 (x:InCallC s s.heap.objs.size (bindL (envOfC qual scope s.heap.objs.size f cd).kindOf (ps.zip us) λ_=>none) (cellsFrom (s.heap.objs.size + 1) scope.names []) (bindC (envOfC qual scope s.heap.objs.size f cd).kindOf (ps.zip us) λ_=>none) s1):
 Inv (eh CX P w K mg base N qual scope f cd A outer s H E) [] (start N vs) H s1:=by
 have hpl:ps.length<=N.length:=by have:=congrArg List.length S.pre;rw [length_take] at this;omega
 obtain ⟨h1,tk,rfl,hk⟩:=x.done
 have noA:∀b:Addr,b∉(eh CX P w K mg base N qual scope f cd A outer s H E).ex:=λb z=>absurd (show b∈([]:List Addr) from z) (by simp)
 refine ⟨⟨e0.mod,S.kind,rfl,rfl,Nat.le_refl _,λy z c h1 h2=>?_,λy hy=>?_,λy c _ h=>?_,λ_=>hd,Around.frames_deeper e0.frames,.inr ⟨rfl,rfl⟩,λb z=>absurd z (noA b),e0.bs,e0.bsz,λb _ _=>noA b,λb z=>absurd z (noA b),e0.funs,e0.frf⟩,
  rfl,e0.bare,Un.kept hk,⟨_,x.toInCall.ns,λi y v h1 h2 h3=>?_⟩,λy c h=>⟨_,x.cell y c h⟩,e0.hok.fresh (Nat.le_refl _),λy c h=>?_,λp hp=>absurd (show p∈([]:List (Addr×Obj)) from hp) (by simp),e0.hok.kept hk,?_⟩
 ·exact name_of_addr x.apart (PySem.mem_of_lookup h1) (PySem.mem_of_lookup h2)
 ·have hy:scope.names.lookup y=some .cell∨scope.names.lookup y=some .free:=hy
  rcases hy with hy | hy
  ·exact aT hy
  ·exact absurd rfl (S.nofree _ (PySem.mem_of_lookup hy))
 ·exact Nat.le_of_lt (x.above y c (PySem.mem_of_lookup h))
 ·have hi:i < vs.length:=by
   unfold start at h2
   by_cases hi:i < vs.length
   ·exact hi
   ·rw [getElem?_append_right (by simpa using hi)] at h2
    rw [getElem?_replicate] at h2
    split at h2<;>cases h2
  have ha:vs[i]?=some v:=by
   unfold start at h2
   rw [getElem?_append_left (by simpa using hi),getElem?_map] at h2
   cases e:vs[i]? with
   | none=>rw [e] at h2;cases h2
   | some a=>rw [e] at h2;cases h2;rfl
  obtain ⟨u,hu,rv⟩:=r.get ha
  have hp:ps[i]?=some y:=by
   rw [← S.pre,List.getElem?_take_of_lt (by omega)];exact h1
  have ndP:ps.Nodup:=by rw [← S.pre];exact S.nd.sublist (List.take_sublist _ _)
  refine ⟨u,rv,?_⟩
  rcases S.par y (mem_of_getElem? hp) with k | k
  ·exact .inl ⟨k,nt ndP hp hu k⟩
  ·obtain ⟨c,e⟩:=aT (n:=s.heap.objs.size + 1) k
   refine .inr ⟨.inl k,c,e,?_⟩
   have q:=x.cell y c e
   rw [m5 ndP hp hu (by show scope.names.lookup y≠_;rw [k];decide)] at q
   exact q
 ·exact e0.hok.fresh (Nat.le_of_lt (x.above y c (PySem.mem_of_lookup h)))
 ·unfold start
  show _=N.length
  rw [length_append,length_map,length_replicate]
  omega
theorem C8 {CX:jD}{P:Program}{w:World}{K:PySem.W.Frag}{mg:Str->Option Value}{base:Heap}{k:Nat}{f:Addr}{name qual:Str}{params:Arguments}{body:List Stmt}{scope:Scope}{dV kV doc pm cdv ct oc:Value}{an od:Option Addr}
 {osl:Array (Option Value)} {N ps:List Str} {sp:Sp} (lk:K.lookup f=some ⟨oc,od,.func (PySem.W.fnOf name qual params body scope dV kV doc pm an cdv ct),osl⟩) (hcd:PySem.W.codeIn K cdv qual=true) (S:aB N ps scope)
 (len:∀vs H Q E,sp vs H Q E->vs.length=ps.length)
 (hbody:∀(A:Around) (outer:List Env) (s:Shared) (H:Hp) (vs:List V) (Q:VK) (E:XK),bU k (A.deeper (envOfC qual scope s.heap.objs.size f cdv))->sp vs H Q E->
  ∃t,hZ (eh CX P w K mg base N qual scope f cdv A outer s H E) body t/\t {nx:=λ_ H'=>Q .non H',rt:=Q} (start N vs) H):
 fu P w K mg base CX (k + 1) f (PySem.W.fnOf name qual params body scope dV kV doc pm an cdv ct) ps sp:=by
 refine ⟨len,λA outer s H args us vs Q E hr e0 hb r hsp=>?_⟩
 have hl:=len _ _ _ _ hsp
 have KX:K.In s.heap:=e0.mod.kin.keeps λb o e=>(e0.bs b o e).1
 have lim:s.heap.NoLimit:=e0.mod.nolimit.keeps λb o e=>(e0.bs b o e).1
 have hkind:∀y∈ps.zip us,scope.names.lookup y.1=some .local∨(scope.names.lookup y.1=some .cell/\((cellsFrom (s.heap.objs.size + 1) scope.names []).lookup y.1).isSome=true):=λ⟨n,v⟩ hy=>by
  rcases S.par n (of_mem_zip hy).1 with q | q
  ·exact .inl q
  ·exact .inr ⟨q,PySem.W.cellsFrom_some _ _ _ (.inl q)⟩
 refine codeAny_call_function hr.depth (KX _ _ lk) rfl S.co S.gen rfl (PySem.W.codeRec_of KX hcd) (hb _ _ _ _ ?_)
 refine wpAny_newFunctionEnv_cells S.kind hkind λenv he s1 x=>?_
 subst he
 refine ⟨lim.keeps x.toInCall.keep,codeAny_func ?_⟩
 obtain ⟨t,ht,hq⟩:=hbody A outer s H vs Q E (hr.deeper _) hsp
 have I:Inv (eh CX P w K mg base N qual scope f cdv A outer s H E) [] (start N vs) H s1:=u8 S hr.hd e0 hl r x
 refine wpAny_mono (ht [] s1 (start N vs) H _ I hq) (λfl s' hs=>?_) λe s' hs=>hs
 have fin:∀{σ':St} {H':Hp} {v:V} {u:Value},Inv (eh CX P w K mg base N qual scope f cdv A outer s H E) [] σ' H' s'->RelV v u->Q v H'->CE outer P w H s Q u s':=
  λ{σ' H' v u} J rv q=>⟨v,H',J.os,J.bare,J.base,J.hok,rv,q⟩
 cases fl with
 | ret u=>
   obtain ⟨v,σ',H',J,rv,q⟩:=hs
   exact fin J rv q
 | next=>
   obtain ⟨σ',H',J,q⟩:=hs
   exact fin (v:=V.non) (u:=Value.none) J rfl q
 | brk=>
   obtain ⟨_,_,_,q⟩:=hs
   exact False.elim q
 | cont=>
   obtain ⟨_,_,_,q⟩:=hs
   exact False.elim q
section
variable {X:Cx}{x:Str}{p pos:Pos}{e:Expr}{es:List Expr}{t:TA}{id T:String}{r:List V->Hp->VK->Prop}
def EZ (r:List V->Hp->VK->Prop)(t:TA):TE:=λσ H Q=>t σ H λvs H1=>r vs H1 Q
theorem dA (hc:dD X (.builtin id) r)(hg:Gl X x)(hm:X.mg x=none)(hv:bootBuiltins x=some (.builtin id))(ha:PA X (e::es) t)(hn:x≠"__name__":=by decide)(hdb:Dg0 x:=by decide)
 (he:starEach (e::es) X.env=(false,eval e X.env)::starEach es X.env:=by rfl) (hpl:(backTo pos (starEach es X.env)).any (·.1)=false:=by rfl):PE X (.Call (.Name x p) (e::es) [] pos) (EZ r t):=by
 intro pins s σ H Q I h
 refine wpAny_Call_Name_kw (h7 I hg hm hv ?_ hn hdb)
 exact PyProof.Rows.callWith_builtin1 (aP (ha pos pins s σ H _ I h) λus s1 ⟨vs,H1,I1,r1,q1⟩=>hc pins s1 σ H1 vs us Q I1 r1 q1) he hpl
theorem gJ (hc:dD X (.type T) r)(hg:Gl X x)(hm:X.mg x=none)(hv:bootBuiltins x=some (.type T))(ha:PA X (e::es) t)(hn:x≠"__name__":=by decide)(hdb:Dg0 x:=by decide)
 (he:starEach (e::es) X.env=(false,eval e X.env)::starEach es X.env:=by rfl) (hpl:(backTo pos (starEach es X.env)).any (·.1)=false:=by rfl):PE X (.Call (.Name x p) (e::es) [] pos) (EZ r t):=by
 intro pins s σ H Q I h
 refine wpAny_Call_Name_kw (h7 I hg hm hv ?_ hn hdb)
 exact PyProof.Rows.callWith_type1 (aP (ha pos pins s σ H _ I h) λus s1 ⟨vs,H1,I1,r1,q1⟩=>hc pins s1 σ H1 vs us Q I1 r1 q1) he hpl
end
end L2
namespace HT
open PySem PyProof.Rows
section
open PySem.SeqAt
open PySem.AutoSeq1 (wpAny_loadPart')
open PySem.MeetsSeq PySem.MeetsSeq2 PySem.MeetsSeq3
end
section
variable {prog:Program}{w:World}{A:Around}{E:Value->Shared->Prop}{s:Shared}
def sIx (n d:Nat):Option Int->Nat
 | none=>d
 | some v=>if v < 0 then (v + (n:Int)).toNat else min v.toNat n
theorem Bk (n d:Nat)(hd:d<=n)(o:Option Int):sIx n d o<=n:=by
 cases o with
 | none=>exact hd
 | some v=>
   show (if v < 0 then (v + (n:Int)).toNat else min v.toNat n)<=n
   by_cases hv:v < 0
   ·rw [if_pos hv];omega
   ·rw [if_neg hv];exact Nat.min_le_right _ _
theorem qU (v:Int)(n d:Nat):(if v < 0 then max (v + (n:Int)) 0 else min v (n:Int))=((sIx n d (some v):Nat):Int):=by
 show (if v < 0 then max (v + (n:Int)) 0 else min v (n:Int))=(((if v < 0 then (v + (n:Int)).toNat else min v.toNat n):Nat):Int)
 by_cases hv:v < 0
 ·simp only [if_pos hv];omega
 ·simp only [if_neg hv];omega
theorem rN (lo hi:Option Int)(n:Nat):Builtin.Slice.sliceAdjust lo hi 1 (n:Int)=(((sIx n 0 lo:Nat):Int),((sIx n n hi:Nat):Int)):=by
 have h1:¬((1:Int) < 0):=by omega
 unfold Builtin.Slice.sliceAdjust
 simp only [h1,if_false]
 refine Prod.ext ?_ ?_
 ·cases lo with
  | none=>rfl
  | some v=>exact qU v n 0
 ·cases hi with
  | none=>rfl
  | some v=>exact qU v n n
theorem rY (i j:Nat):Builtin.Slice.slicePlaces (i:Int) (j:Int) 1=j - i:=by
 unfold Builtin.Slice.slicePlaces
 have h1:(1:Int) > 0:=by omega
 simp only [h1,if_true,Int.ediv_one]
 split<;>omega
theorem lV {v:Value}{o:Option Int}{Q:Option Int->Shared->Prop}(p:IsPart v o)(h:Q o s):wpAny (model prog w) A (Builtin.Slice.slicePartIndex v) Q E s:=by
 cases p with
 | none=>exact slicePart_none h
 | int i t=>exact slicePart_int h
theorem k7 {sl:Addr}{vl vu:Value}{lo hi:Option Int}{n:Nat}{Q:Int×Int×Nat->Shared->Prop}(hs:s.heap.IsSliceOf sl vl vu .none)(pl:IsPart vl lo)(pu:IsPart vu hi)
 (h:Q (((sIx n 0 lo:Nat):Int),1,sIx n n hi - sIx n 0 lo) s):wpAny (model prog w) A (Builtin.Slice.sliceApplied (.ref sl) (pure (n:Int))) Q E s:=by
 obtain ⟨os,hos,hcs,hds⟩:=id hs
 unfold Builtin.Slice.sliceApplied Builtin.Slice.sliceFields
 refine wpAny_bind (wpAny_bind (wpAny_field hos hds (x:=vl) rfl (wpAny_bind (wpAny_field hos hds (x:=vu) rfl (wpAny_bind (wpAny_field hos hds (x:=.none) rfl (wpAny_pure ?_)))))))
 refine wpAny_bind (slicePart_none ?_)
 show wpAny _ _ (if ((1:Int)==0)=true then _ else _) _ _ s
 rw [if_neg (by decide)]
 refine wpAny_bind (lV pl (wpAny_bind (lV pu (wpAny_bind (wpAny_pure ?_)))))
 show wpAny _ _ (match Builtin.Slice.sliceAdjust lo hi 1 (n:Int) with | (lo,hi)=>pure (lo,(1:Int),Builtin.Slice.slicePlaces lo hi 1)) _ _ s
 rw [rN lo hi n]
 show wpAny _ _ (pure (((sIx n 0 lo:Nat):Int),(1:Int),Builtin.Slice.slicePlaces ((sIx n 0 lo:Nat):Int) ((sIx n n hi:Nat):Int) 1)) _ _ s
 rw [rY]
 exact wpAny_pure h
theorem we (xs:Array Value)(i k:Nat):((List.range k).filterMap λ(m:Nat)=>xs[((i:Int) + (m:Int) * 1).toNat]?).toArray=((xs.toList.drop i).take k).toArray:=by
 have e:(λ(m:Nat)=>xs[((i:Int) + (m:Int) * 1).toNat]?)=λm=>xs[i + m]?:=by
  funext m
  have:((i:Int) + (m:Int) * 1).toNat=i + m:=by omega
  rw [this]
 rw [e]
 have:=pick_run xs i k
 rw [List.filterMap_map] at this
 have e2:((λx=>xs[x]?) ∘ λx=>i + x)=λm=>xs[i + m]?:=rfl
 rw [e2] at this
 rw [this]
theorem kJ {t sl:Addr}{items:Array Value}{vl vu:Value}{lo hi:Option Int}{Q:Value->Shared->Prop}(ht:IsTup s.heap t items)(hs:s.heap.IsSliceOf sl vl vu .none)(pl:IsPart vl lo)(pu:IsPart vu hi)
 (hw:¬(sIx items.size 0 lo=0/\sIx items.size items.size hi=items.size))
 (h:Q (.ref s.heap.objs.size) {s with heap:=s.heap.push {cls:=.type "tuple",data:=.seq ((items.toList.drop (sIx items.size 0 lo)).take (sIx items.size items.size hi - sIx items.size 0 lo)).toArray}})
 (hsz:items.size<=sizeLine):wpAny (model prog w) A (getItem (.ref t) (.ref sl)) Q E s:=by
 have htake:sizeOk (.seq ((items.toList.drop (sIx items.size 0 lo)).take (sIx items.size items.size hi - sIx items.size 0 lo)).toArray):=by
  show ((items.toList.drop (sIx items.size 0 lo)).take (sIx items.size items.size hi - sIx items.size 0 lo)).toArray.size<=sizeLine
  rw [size_toArray,length_take,length_drop,Array.length_toList]
  omega
 have hj:sIx items.size items.size hi<=items.size:=Bk _ _ (Nat.le_refl _) hi
 obtain ⟨os,hos,hcs,hds⟩:=id hs
 have hTs:s.TypeIs (.ref sl) "slice":=⟨os,hos,hcs⟩
 unfold getItem
 try with_reducible refine wpAny_holding ?_
 first | refine wpAny_bind (wpAny_pure ?_) | skip
 refine wpAny_bind (wpAny_sequenceKey ht.typeIs (by decide) ?_)
 refine wpAny_bind (wpAny_callSpecial?_slot (name:=Str.ofString "__getitem__") ht.typeIs PyProof.Rows.slot_tuple_getitem
  (wpAny_call_entry PyProof.Rows.slot_tuple_getitem ht.typeIs entry_tuple_getitem ?_ (args_tuple_getitem _ _)))
 show wpAny _ _ (Builtin.Tuple.tupleItemsOf (.ref t) >>=_) _ _ s
 refine wpAny_bind (tupleItemsOf_ ht ?_)
 refine wpAny_bind (wpAny_typeOf hTs ?_)
 rw [if_pos (by decide)]
 refine wpAny_bind (k7 hs pl pu ?_)
 have hno:¬((((sIx items.size 0 lo:Nat):Int)==0&&(1:Int)==1&&(sIx items.size items.size hi - sIx items.size 0 lo)==items.size)=true):=by
  intro q
  rw [Bool.and_eq_true,Bool.and_eq_true] at q
  have q1:((sIx items.size 0 lo:Nat):Int)=0:=eq_of_beq q.1.1
  have q2:sIx items.size items.size hi - sIx items.size 0 lo=items.size:=eq_of_beq q.2
  exact hw ⟨by omega,by omega⟩
 show wpAny _ _ (if (((sIx items.size 0 lo:Nat):Int)==0&&(1:Int)==1&&(sIx items.size items.size hi - sIx items.size 0 lo)==items.size)=true then _ else _) _ _ s
 rw [if_neg hno,we]
 first
  | exact wpAny_bind (m:=Builtin.Tuple.tupleExact _) (wpAny_newObj_type (wpAny_pure ⟨_,rfl,wpAny_pure h⟩) htake)
  | exact wpAny_bind (m:=Builtin.Tuple.tupleExact _) (wpAny_newObj_type (wpAny_bind (wpAny_pure (wpAny_pure ⟨_,rfl,wpAny_pure h⟩))) htake)
  | exact wpAny_bind (wpAny_bind (m:=Builtin.Tuple.tupleExact _) (wpAny_newObj_type (wpAny_pure (wpAny_pure ⟨_,rfl,wpAny_pure h⟩)) htake))
  | exact wpAny_bind (wpAny_bind (m:=Builtin.Tuple.tupleExact _) (wpAny_newObj_type (wpAny_pure ⟨_,rfl,wpAny_pure h⟩) htake))
end
end HT
namespace L2
open PySem PySem.Spec PyProof.Rows
abbrev TO:=St->Hp->(Option Int->Hp->Prop)->Prop
def PO (X:Cx)(e:Option Expr)(t:TO):Prop:=
 ∀(pins:List (Addr×Obj)) (s:Shared) (σ:St) (H:Hp) (Q:Option Int->Hp->Prop),Inv X pins σ H s->t σ H Q->
  wpAny (model X.prog X.w) X.A (evalPart e X.env) (λu s'=>∃o H',Inv X pins σ H' s'/\IsPart u o/\Q o H') X.xe s
def yj:TO:=λ_ H Q=>Q none H
def Cd (t:TE):TO:=λσ H Q=>t σ H λx H1=>∃i,x= .int i/\Q (some i) H1
theorem intsAre_of {ns:List Int}:∀{us:List Value},aK (ns.map V.int) us->IntsAre us ns:=by
 induction ns with
 | nil=>intro us r;rw [map_nil] at r;cases r;exact .nil
 | cons n ns ih=>
   intro us r
   rw [map_cons] at r
   cases r with
   | cons r1 r2=>
     obtain ⟨t,e⟩:=r1
     subst e
     exact .cons n t (ih r2)
section
variable {X:Cx}{e:Expr}{te:TE}{lo hi:Option Expr}{tl th:TO}{pos p2:Pos}
theorem qH:PO X none yj:=by
 intro pins s σ H Q I h
 rw [evalPart_none]
 exact wpAny_pure ⟨none,H,I,.none,h⟩
theorem rf (h:PE X e te):PO X (some e) (Cd te):=by
 intro pins s σ H Q I hw
 rw [evalPart_some]
 refine aP (h pins s σ H _ I hw) λu s1 ⟨x,H1,I1,r1,q1⟩=>?_
 obtain ⟨i,rfl,q⟩:=q1
 obtain ⟨t,rfl⟩:=r1
 exact ⟨some i,H1,I1,.int i t,q⟩
def BQ (X:Cx)(r:V->Option Int->Option Int->Hp->VK->Prop):Prop:=
 ∀(pins:List (Addr×Obj)) (s:Shared) (σ:St) (H:Hp) (x:V) (v vl vu:Value) (lo hi:Option Int) (sl:Addr) (Q:VK),Inv X pins σ H s->RelV x v->s.heap.IsSliceOf sl vl vu .none->IsPart vl lo->IsPart vu hi->r x lo hi H Q->
  ∃T id,typeLookup (.type T) "__getitem__"=pure (some (.builtin id))/\s.TypeIs v T/\wpAny (model X.prog X.w) X.A (getItem v (.ref sl)) (EP X pins σ Q) X.xe s
def tSl (r:V->Option Int->Option Int->Hp->VK->Prop)(te:TE)(tl th:TO):TE:=λσ H Q=>te σ H λx H1=>tl σ H1 λl H2=>th σ H2 λu H3=>r x l u H3 Q
theorem lr {r:V->Option Int->Option Int->Hp->VK->Prop}(hr:BQ X r)(he:PE X e te)(hl:PO X lo tl)(hu:PO X hi th):PE X (.Subscript e (.Slice lo hi none p2) pos) (tSl r te tl th):=by
 intro pins s σ H Q I h
 refine Subscript_ (aP (he pins s σ H _ I h) λv s1 ⟨x,H1,I1,r1,q1⟩=>?_)
 refine wpAny_Slice (aP (hl pins s1 σ H1 _ I1 q1) λvl s2 ⟨l,H2,I2,pl,q2⟩=>aP (hu pins s2 σ H2 _ I2 q2) λvu s3 ⟨u,H3,I3,pu,q3⟩=>?_)
 rw [evalPart_none]
 refine wpAny_pure ?_
 have I4:Inv X pins σ H3 {s3 with heap:=s3.heap.push {cls:=.type "slice",data:=.fields #[vl,vu,.none]}}:=I3.kept (t':=s3.toks) λb ob q=>Heap.get?_push_of_some _ q
 obtain ⟨T,id,hT,ht,hg⟩:=hr pins {s3 with heap:=s3.heap.push {cls:=.type "slice",data:=.fields #[vl,vu,.none]}} σ H3 x v vl vu l u s3.heap.objs.size Q I4 r1 (Heap.IsSliceOf.new ..) pl pu q3
 show wpAny (model X.prog X.w) X.A (subscriptTail e (.Slice lo hi none p2) v (.ref s3.heap.objs.size)) (EP X pins σ Q) X.xe {s3 with heap:=s3.heap.push {cls:=.type "slice",data:=.fields #[vl,vu,.none]}}
 exact tail_any (ops:=[.ref s3.heap.objs.size,v]) ht hT hg (by with_unfolding_all rfl)
def jV (xs:List V)(lo hi:Option Int):List V:=(xs.drop (HT.sIx xs.length 0 lo)).take (HT.sIx xs.length xs.length hi - HT.sIx xs.length 0 lo)
theorem kR (xs:List V)(lo hi:Option Int):(jV xs lo hi).length<=xs.length:=by
 unfold jV
 rw [length_take,length_drop]
 omega
def FC (K:PySem.W.Frag):V->Option Int->Option Int->Hp->VK->Prop:=λx lo hi H Q=>∃a xs,x= .ref a/\dm K H a xs/\
 ¬(HT.sIx xs.length 0 lo=0/\HT.sIx xs.length xs.length hi=xs.length)/\∀p,H p=none->Q (.ref p) (upd H p (.tup (jV xs lo hi)))
theorem zU:BQ X (FC X.K):=by
 intro pins s σ H x v vl vu lo hi sl Q I rx hs pl pu h
 obtain ⟨a,xs,rfl,hx,hw,q⟩:=h
 cases rx
 obtain ⟨its,r,ht,hz⟩:=I.tuple hx
 have hlen:its.toArray.size=xs.length:=by rw [size_toArray];exact r.length.symm
 refine ⟨"tuple",_,PyProof.Rows.slot_tuple_getitem.lookup,ht.typeIs,?_⟩
 refine HT.kJ ht hs pl pu (by rw [hlen];exact hw) ?_ (by rw [hlen];exact hz)
 rw [hlen]
 refine ⟨.ref s.heap.objs.size,_,I.laid (t':=s.toks) (o:=.tup (jV xs lo hi)) (λb ob q=>Heap.get?_push_of_some _ q) (Nat.le_refl _) ?_,rfl,q _ (I.hok.fresh (Nat.le_refl _))⟩
 exact ⟨Nat.le_trans (kR xs lo hi) hz,_,(r.drop (HT.sIx xs.length 0 lo)).take (HT.sIx xs.length xs.length hi - HT.sIx xs.length 0 lo),IsTup.new _ _⟩
end
section
variable {α:Type}
def dP (n:Nat)(i:Int):Option Nat:=if 0<=i then (if i < n then some i.toNat else none) else if -(n:Int)<=i then some (i + n).toNat else none
def cN (xs:List α)(i:Int):Option α:=(dP xs.length i).bind λj=>xs[j]?
theorem mG {n:Nat}{i:Int}{j:Nat}(h:dP n i=some j):seqIndex? i n=some j/\j < n/\ -(n:Int)<=i/\i < n:=by
 unfold dP at h
 by_cases h0:0<=i
 ·rw [if_pos h0] at h
  by_cases h1:i < n
  ·rw [if_pos h1] at h
   have e:i.toNat=j:=Option.some.inj h
   exact ⟨by rw [seqIndex_of h0 h1,e],by omega,by omega,h1⟩
  ·rw [if_neg h1] at h;cases h
 ·rw [if_neg h0] at h
  by_cases h1: -(n:Int)<=i
  ·rw [if_pos h1] at h
   have e:(i + n).toNat=j:=Option.some.inj h
   exact ⟨by rw [seqIndex_neg (by omega) h1,e],by omega,h1,by omega⟩
  ·rw [if_neg h1] at h;cases h
theorem mN {xs:List α}{i:Int}{v:α}(h:cN xs i=some v):∃j,seqIndex? i xs.length=some j/\xs[j]?=some v/\j < xs.length/\ -(xs.length:Int)<=i/\i < xs.length:=by
 unfold cN at h
 cases e:dP xs.length i with
 | none=>rw [e] at h;cases h
 | some j=>
   rw [e] at h
   obtain ⟨h1,h2,h3,h4⟩:=mG e
   exact ⟨j,h1,h,h2,h3,h4⟩
theorem zm {xs:List α}{j:Nat}{v:α}(h:xs[j]?=some v):cN xs (j:Int)=some v:=by
 have hj:j < xs.length:=(List.getElem?_eq_some_iff.mp h).1
 have e:dP xs.length (j:Int)=some j:=by
  unfold dP
  rw [if_pos (by omega),if_pos (by omega)];simp
 unfold cN;rw [e];exact h
def ee (b:Expr):Prop:=∀o i,subscripted b false o i=operate [o,i] (getItem o i)
def Bv (X:Cx)(r:R2):Prop:=
 ∀(value slice:Expr) (pins:List (Addr×Obj)) (s:Shared) (σ:St) (H:Hp) (x y:V) (v u:Value) (Q:VK),Inv X pins σ H s->RelV x v->RelV y u->r x y H Q->
  subscripted slice false v u=operate [v,u] (getItem v u)->wpAny (model X.prog X.w) X.A (subscriptTail value slice v u) (EP X pins σ Q) X.xe s
def BU (X:Cx)(id:String)(r:V->List V->Hp->VK->Prop):Prop:=
 ∀(pins:List (Addr×Obj)) (s:Shared) (σ:St) (H:Hp) (x:V) (xs:List V) (v:Value) (us:List Value) (Q:VK),Inv X pins σ H s->RelV x v->aK xs us->r x xs H Q->
  wpAny (model X.prog X.w) X.A (call (.builtin id) (v::us)) (EP X pins σ Q) X.xe s
end
section
variable {X:Cx}{a b:Expr}{ta tb:TE}{pos:Pos}
theorem gx {r:R2}(hr:Bv X r)(ha:PE X a ta)(hb:PE X b tb)(hs:ee b):PE X (.Subscript a b pos) (xq r ta tb):=by
 intro pins s σ H Q I h
 exact Subscript_ (vE ha hb I h λv u s2 x y H2 I2 rx ry q=>hr a b pins s2 σ H2 x y v u Q I2 rx ry q (hs _ _))
def FA (K:PySem.W.Frag):R2:=λx y H Q=>∃p xs i v,x= .ref p/\y= .int i/\aM K H p xs/\cN xs i=some v/\Q v H
def Fj (K:PySem.W.Frag):R2:=λx y H Q=>∃p xs i v,x= .ref p/\y= .int i/\dm K H p xs/\cN xs i=some v/\Q v H
theorem fF:Bv X (FA X.K):=by
 intro value slice pins s σ H x y v u Q I rx ry h hs
 obtain ⟨p,xs,i,z,rfl,rfl,hq,he,q⟩:=h
 cases rx
 obtain ⟨t,rfl⟩:=ry
 obtain ⟨its,r,pl,hz⟩:=I.list hq
 obtain ⟨j,h1,h2,h3,h4,h5⟩:=mN he
 obtain ⟨w,ew,rw'⟩:=r.get h2
 have hl:=r.length
 have hn:=jd
 have fin:EP X pins σ Q w s:=⟨z,H,I,rw',q⟩
 by_cases h0:0<=i
 ·have hj:i.toNat=j:=by
   rw [seqIndex_of h0 h5] at h1
   exact Option.some.inj h1
  exact item_listR pl.isList h0 (by omega) (by rw [hj];simpa using ew) fin hs
 ·have hj:(i + (its.toArray.size:Int)).toNat=j:=by
   rw [seqIndex_neg (by omega) h4] at h1
   rw [size_toArray,← hl]
   exact Option.some.inj h1
  exact subscriptTail_builtinR (x:=w) pl.isList.typeIs slot_list_getitem.lookup
   (wpAny_getItem_list_neg (Q:=λr s'=>r=w/\EP X pins σ Q r s') pl.isList (by omega) (by rw [size_toArray]<;>omega) (by omega) (by rw [hj];simpa using ew) ⟨rfl,fin⟩) hs
theorem uc:Bv X (Fj X.K):=by
 intro value slice pins s σ H x y v u Q I rx ry h hs
 obtain ⟨p,xs,i,z,rfl,rfl,hq,he,q⟩:=h
 cases rx
 obtain ⟨t,rfl⟩:=ry
 obtain ⟨its,r,pl,hz⟩:=I.tuple hq
 obtain ⟨j,h1,h2,h3,h4,h5⟩:=mN he
 obtain ⟨w,ew,rw'⟩:=r.get h2
 have hl:=r.length
 have hn:=jd
 have fin:EP X pins σ Q w s:=⟨z,H,I,rw',q⟩
 exact subscriptTail_builtinR (x:=w) pl.typeIs slot_tuple_getitem.lookup
  (getItem_tuple (j:=j) (Q:=λr s'=>r=w/\EP X pins σ Q r s') pl (by omega) (by omega) (by rw [size_toArray,← hl];exact h1) (by simpa using ew) ⟨rfl,fin⟩) hs
theorem sx (its:List Value)(n j:Nat)(u:Value):Obj.mapSeq (·.setIfInBounds j u) {cls:=.type "list",data:=.seq its.toArray n}={cls:=.type "list",data:=.seq (its.set j u).toArray n}:=by
 simp [Obj.mapSeq]
theorem Inv.lst {pins:List (Addr×Obj)}{σ:St}{H:Hp}{s:Shared}{p:Addr}{xs:List V}(I:Inv X pins σ H s)(h:H p=some (.lst xs)):
 ∃(its:List Value) (n:Nat),aK xs its/\s.heap.get? p=some {cls:=.type "list",data:=.seq its.toArray n}/\xs.length<=sizeLine:=by
 obtain ⟨z,its,n,r,e⟩:=I.hok p _ h
 exact ⟨its,n,r,e,z⟩
theorem Inv.BF {pins:List (Addr×Obj)}{σ:St}{H:Hp}{s:Shared}{p:Addr}{xs ys:List V}{its its':List Value}{n n':Nat}{f:Obj->Obj}(I:Inv X pins σ H s)(h:H p=some (.lst xs))
 (ho:s.heap.get? p=some {cls:=.type "list",data:=.seq its.toArray n}) (hf:f {cls:=.type "list",data:=.seq its.toArray n}={cls:=.type "list",data:=.seq its'.toArray n'}) (r:aK ys its') (hz:ys.length<=sizeLine) (t:Nat):
 Inv X pins σ (upd H p (.lst ys)) {s with heap:=s.heap.update p f,toks:=t}:=by
 have e:(s.heap.update p f).get? p=some {cls:=.type "list",data:=.seq its'.toArray n'}:=by
  rw [Heap.get?_update_self f ho (by rw [hf]<;>rfl),hf]
 refine I.write (x:=p) (e:=p) (by rw [h];trivial) (.inl rfl) (λb u hb q=>(Heap.get?_update_other _ _ (Ne.symm hb)).trans q) ⟨_,e⟩ ?_
 exact ⟨hz,its',n',r,e⟩
def D4:V->V->V->Hp->(Hp->Prop)->Prop:=λo i v H Q=>∃p xs k j,o= .ref p/\i= .int k/\H p=some (.lst xs)/\dP xs.length k=some j/\Q (upd H p (.lst (xs.set j v)))
theorem set_list:wZ X D4:=by
 intro pins s σ H o i v ov iv u Q I ro ri rv h
 obtain ⟨p,xs,k,j,rfl,rfl,hp,hj,q⟩:=h
 cases ro
 obtain ⟨t,rfl⟩:=ri
 obtain ⟨its,n,r,ho,hz⟩:=I.lst hp
 obtain ⟨h1,h2,h3,h4⟩:=mG hj
 have hl:=r.length
 have hn:=jd
 have I':Inv X pins σ (upd H p (.lst (xs.set j v))) {s with heap:=s.heap.update p (Obj.mapSeq (·.setIfInBounds j u))}:=
  I.BF hp ho (sx its n j u) (r.set rv j) (by rw [length_set];exact hz) s.toks
 by_cases h0:0<=k
 ·have hk:k.toNat=j:=by
   rw [seqIndex_of h0 h4] at h1
   exact Option.some.inj h1
  exact PySem.W.ki_setAt ho h0 (by omega) (by rw [size_toArray,← hl];exact h4) (by rw [hk];exact ⟨_,I',q⟩)
 ·have hk:(k + (its.toArray.size:Int)).toNat=j:=by
   rw [seqIndex_neg (by omega) h3] at h1
   rw [size_toArray,← hl]
   exact Option.some.inj h1
  exact PySem.W.ki_setBack ho (by omega) (by rw [size_toArray,← hl];exact h3) (by omega) (by rw [hk];exact ⟨_,I',q⟩)
theorem o9 (lo hi:Option Int)(n:Nat):(sliceBounds lo hi none n).1=((HT.sIx n 0 lo:Nat):Int)/\(sliceBounds lo hi none n).2.1=((HT.sIx n n hi:Nat):Int)/\(sliceBounds lo hi none n).2.2=1:=by
 refine ⟨?_,?_,rfl⟩
 ·cases lo with
  | none=>simp [sliceBounds,HT.sIx]
  | some i=>
    simp only [sliceBounds,HT.sIx,Option.getD_none,show (1:Int) > 0 by decide,if_true]
    by_cases h:i < 0
    ·simp only [h,if_true]<;>omega
    ·simp only [h,if_false]<;>omega
 ·cases hi with
  | none=>simp [sliceBounds,HT.sIx]
  | some i=>
    simp only [sliceBounds,HT.sIx,Option.getD_none,show (1:Int) > 0 by decide,if_true]
    by_cases h:i < 0
    ·simp only [h,if_true]<;>omega
    ·simp only [h,if_false]<;>omega
theorem nF (its:List Value)(lo hi:Option Int):slicePick its.toArray lo hi none=((its.drop (HT.sIx its.length 0 lo)).take (HT.sIx its.length its.length hi - HT.sIx its.length 0 lo)).toArray:=by
 obtain ⟨h1,h2,h3⟩:=o9 lo hi its.toArray.size
 unfold slicePick
 rw [h1,h2,h3]
 simp only [sliceRange_one,pick_run,size_toArray]<;>rfl
def Fg (K:PySem.W.Frag):V->Option Int->Option Int->Hp->VK->Prop:=λx lo hi H Q=>∃a xs,x= .ref a/\aM K H a xs/\∀p,H p=none->Q (.ref p) (upd H p (.lst (jV xs lo hi)))
theorem qi:BQ X (Fg X.K):=by
 intro pins s σ H x v vl vu lo hi sl Q I rx hs pl pu h
 obtain ⟨a,xs,rfl,hx,q⟩:=h
 cases rx
 obtain ⟨its,r,ht,hz⟩:=I.list hx
 have hlen:=r.length
 refine ⟨"list",_,slot_list_getitem.lookup,ht.isList.typeIs,?_⟩
 refine wpAny_getItem_list_slice ht.isList hs pl pu .none (by simp) ?_ (by rw [size_toArray]<;>omega)
 rw [nF,← hlen]
 refine ⟨.ref s.heap.objs.size,_,I.laid (t':=s.toks) (o:=.lst (jV xs lo hi)) (λb ob q=>Heap.get?_push_of_some _ q) (Nat.le_refl _) ?_,rfl,q _ (I.hok.fresh (Nat.le_refl _))⟩
 exact ⟨Nat.le_trans (kR xs lo hi) hz,_,0,(r.drop (HT.sIx xs.length 0 lo)).take (HT.sIx xs.length xs.length hi - HT.sIx xs.length 0 lo),Heap.get?_push_size _ rfl⟩
def gQ:V->Bool
 | .non=>true
 | .bl _=>true
 | .int _=>true
 | .str _=>true
 | _=>false
def mi:V->V->Bool
 | .non,.non=>true
 | .bl a,.bl b=>a==b
 | .bl a,.int b=>(if a then 1 else 0)==b
 | .int a,.bl b=>a==(if b then 1 else 0)
 | .int a,.int b=>a==b
 | .str a,.str b=>a==b
 | _,_=>false
theorem zT {A:Around}{s:Shared}{y x:V}{u v:Value}(ry:RelV y u)(rx:RelV x v)(fy:gQ y=true)(fx:gQ x=true):SeqAt.EqAt A s u v (mi y x):=by
 cases y with
 | non=>
   cases ry
   cases x with
   | non=>cases rx;exact SeqAt.EqAt.same _
   | bl b=>cases rx;exact SeqAt.EqAt.none_bool b
   | int b=>obtain ⟨t,rfl⟩:=rx;exact SeqAt.EqAt.none_int b t
   | str b=>obtain ⟨t,rfl⟩:=rx;exact SeqAt.EqAt.none_str b t
   | _=>exact absurd (show false=true from fx) Bool.false_ne_true
 | bl a=>
   cases ry
   cases x with
   | non=>cases rx;exact SeqAt.EqAt.bool_none a
   | bl b=>cases rx;exact SeqAt.EqAt.bool_bool a b
   | int b=>obtain ⟨t,rfl⟩:=rx;exact SeqAt.EqAt.bool_int a b t
   | str b=>obtain ⟨t,rfl⟩:=rx;exact SeqAt.EqAt.bool_str a b t
   | _=>exact absurd (show false=true from fx) Bool.false_ne_true
 | int a=>
   obtain ⟨t',rfl⟩:=ry
   cases x with
   | non=>cases rx;exact SeqAt.EqAt.int_none a t'
   | bl b=>cases rx;exact SeqAt.EqAt.int_bool a t' b
   | int b=>obtain ⟨t,rfl⟩:=rx;exact SeqAt.EqAt.int_int a t' b t
   | str b=>obtain ⟨t,rfl⟩:=rx;exact SeqAt.EqAt.int_str a t' b t
   | _=>exact absurd (show false=true from fx) Bool.false_ne_true
 | str a=>
   obtain ⟨t',rfl⟩:=ry
   cases x with
   | non=>cases rx;exact SeqAt.EqAt.str_none a t'
   | bl b=>cases rx;exact SeqAt.EqAt.str_bool a t' b
   | int b=>obtain ⟨t,rfl⟩:=rx;exact SeqAt.EqAt.str_int a t' b t
   | str b=>obtain ⟨t,rfl⟩:=rx;exact SeqAt.EqAt.str_str a t' b t
   | _=>exact absurd (show false=true from fx) Bool.false_ne_true
 | _=>exact absurd (show false=true from fy) Bool.false_ne_true
def h9 (x:V)(u:Value):Bool:=match u with
 | .none=>mi .non x
 | .bool b=>mi (.bl b) x
 | .int i _=>mi (.int i) x
 | .str z _=>mi (.str z) x
 | _=>false
theorem uf {x y:V}{u:Value}(r:RelV y u)(f:gQ y=true):h9 x u=mi y x:=by
 cases y with
 | non=>cases r;rfl
 | bl b=>cases r;rfl
 | int i=>obtain ⟨t,rfl⟩:=r;rfl
 | str z=>obtain ⟨t,rfl⟩:=r;rfl
 | _=>exact absurd (show false=true from f) Bool.false_ne_true
theorem jc {x:V}:∀{xs:List V} {us:List Value},aK xs us->xs.all gQ=true->us.any (h9 x)=xs.any λy=>mi y x
 | _,_,.nil,_=>rfl
 | y::xs,u::us,.cons r t,f=>by
   rw [all_cons,Bool.and_eq_true] at f
   rw [any_cons,any_cons,uf r f.1,jc t f.2]
theorem ib {A:Around}{s:Shared}{x:V}{v:Value}(rx:RelV x v)(fx:gQ x=true):∀{xs:List V} {us:List Value},aK xs us->xs.all gQ=true->∀u∈us,SeqAt.EqAt A s u v (h9 x u)
 | _,_,.nil,_=>λu hu=>by cases hu
 | y::xs,u::us,.cons r t,f=>λu' hu=>by
   rw [all_cons,Bool.and_eq_true] at f
   rcases mem_cons.mp hu with rfl | hu
   ·rw [uf r f.1];exact zT r rx f.1 fx
   ·exact ib rx fx t f.2 u' hu
def xO (x:V)(xs:List V):Bool:=xs.any λy=>mi y x
def Fa (K:PySem.W.Frag)(neg:Bool):R2:=λx y H Q=>∃p xs,y= .ref p/\(aM K H p xs∨dm K H p xs)/\gQ x=true/\xs.all gQ=true/\Q (.bl (if neg then !xO x xs else xO x xs)) H
theorem vb:dg X (compareOp .In) (Fa X.K false):=by
 intro pins s σ H x y v u Q I rx ry h
 obtain ⟨p,xs,rfl,hq,fx,fs,q⟩:=h
 cases ry
 rcases hq with hq | hq
 ·obtain ⟨its,r,pl,hz⟩:=I.list hq
  refine SeqAt.in_listAt (h9 x) pl.isList (λw hw=>ib rx fx r fs w (by simpa using hw)) ⟨.bl _,H,I,rfl,?_⟩
  rw [show its.toArray.any (h9 x)=its.any (h9 x) by simp,jc r fs]
  exact q
 ·obtain ⟨its,r,pl,hz⟩:=I.tuple hq
  refine SeqAt.in_tupleAt (h9 x) pl (λw hw=>ib rx fx r fs w (by simpa using hw)) ⟨.bl _,H,I,rfl,?_⟩
  rw [show its.toArray.any (h9 x)=its.any (h9 x) by simp,jc r fs]
  exact q
theorem oY:dg X (compareOp .NotIn) (Fa X.K true):=by
 intro pins s σ H x y v u Q I rx ry h
 obtain ⟨p,xs,rfl,hq,fx,fs,q⟩:=h
 cases ry
 rcases hq with hq | hq
 ·obtain ⟨its,r,pl,hz⟩:=I.list hq
  refine SeqAt.notIn_listAt (h9 x) pl.isList (λw hw=>ib rx fx r fs w (by simpa using hw)) ⟨.bl _,H,I,rfl,?_⟩
  rw [show its.toArray.any (h9 x)=its.any (h9 x) by simp,jc r fs]
  exact q
 ·obtain ⟨its,r,pl,hz⟩:=I.tuple hq
  refine SeqAt.notIn_tupleAt (h9 x) pl (λw hw=>ib rx fx r fs w (by simpa using hw)) ⟨.bl _,H,I,rfl,?_⟩
  rw [show its.toArray.any (h9 x)=its.any (h9 x) by simp,jc r fs]
  exact q
theorem eE:dD X (.builtin "len") (λxs H Q=>∃p ys,xs=[.ref p]/\(aM X.K H p ys∨dm X.K H p ys)/\Q (.int ys.length) H):=by
 intro pins s σ H xs us Q I r h
 obtain ⟨p,ys,rfl,hq,q⟩:=h
 obtain ⟨u,rfl,rx⟩:=vals1 r
 cases rx
 have hn:=jd
 rcases hq with hq | hq
 ·obtain ⟨its,r',pl,hz⟩:=I.list hq
  have hlen:=r'.length
  exact Calls.call_len_list pl.isList (by simp only [size_toArray]<;>omega) ⟨.int ys.length,H,I.tok _,⟨s.toks + 1,by rw [size_toArray,hlen]⟩,q⟩
 ·obtain ⟨its,r',pl,hz⟩:=I.tuple hq
  have hlen:=r'.length
  exact len_tuple pl (by simp only [size_toArray]<;>omega) ⟨.int ys.length,H,I.tok _,⟨s.toks + 1,by rw [size_toArray,hlen]⟩,q⟩
theorem jW:dD X (.type "list") (λxs H Q=>∃p ys,xs=[.ref p]/\(aM X.K H p ys∨dm X.K H p ys)/\∀l,H l=none->Q (.ref l) (upd H l (.lst ys))):=by
 intro pins s σ H xs us Q I r h
 obtain ⟨p,ys,rfl,hq,q⟩:=h
 obtain ⟨u,rfl,rx⟩:=vals1 r
 cases rx
 have fin:∀(its:List Value),aK ys its->ys.length<=sizeLine->∀(h':Heap) (c':Nat),(∀b o',s.heap.get? b=some o'->h'.get? b=some o')->
  h'.get? s.heap.objs.size=some {cls:=.type "list",dict:=none,data:=.seq its.toArray c',slots:= #[]}->EP X pins σ Q (.ref s.heap.objs.size) {s with heap:=h'}:=λits r' hz h' c' kp e=>
  ⟨.ref s.heap.objs.size,_,I.laid (t':=s.toks) kp (Nat.le_refl _) (show cq X.prog X.w _ h' _ (.lst ys) from ⟨hz,its,c',r',e⟩),rfl,q _ (I.hok.fresh (Nat.le_refl _))⟩
 rcases hq with hq | hq
 ·obtain ⟨its,r',pl,hz⟩:=I.list hq
  have hlen:=r'.length
  obtain ⟨o,ho,hc,n,hd⟩:=pl.isList
  exact call_list_seq p (.inl rfl) ho hc hd (λh' c' kp e=>fin its r' hz h' c' kp e) (by simp only [size_toArray]<;>omega)
 ·obtain ⟨its,r',pl,hz⟩:=I.tuple hq
  have hlen:=r'.length
  obtain ⟨o,ho,hc,n,hd⟩:=pl
  exact call_list_seq p (.inr rfl) ho hc hd (λh' c' kp e=>fin its r' hz h' c' kp e) (by simp only [size_toArray]<;>omega)
theorem nI:dD X (.type "tuple") (λxs H Q=>∃p ys,xs=[.ref p]/\((aM X.K H p ys/\∀l,H l=none->Q (.ref l) (upd H l (.tup ys)))∨(dm X.K H p ys/\Q (.ref p) H))):=by
 intro pins s σ H xs us Q I r h
 obtain ⟨p,ys,rfl,h⟩:=h
 obtain ⟨u,rfl,rx⟩:=vals1 r
 cases rx
 rcases h with ⟨hq,q⟩ | ⟨hq,q⟩
 ·obtain ⟨its,r',pl,hz⟩:=I.list hq
  have hlen:=r'.length
  refine call_tuple_list pl.isList (λh' kp=>?_) (by simp only [size_toArray]<;>omega)
  have I1:Inv X pins σ H {s with heap:=h'}:=I.kept (t':=s.toks) kp
  have I2:Inv X pins σ (upd H h'.objs.size (.tup ys)) {s with heap:=h'.push {cls:=.type "tuple",data:=.seq its.toArray}}:=
   I1.laid (t':=s.toks) (λb o e=>Heap.get?_push_of_some _ e) (Nat.le_refl _) (show cq X.prog X.w _ _ _ (.tup ys) from ⟨hz,its,r',IsTup.new _ _⟩)
  exact ⟨.ref h'.objs.size,_,I2,rfl,q _ (I1.hok.fresh (Nat.le_refl _))⟩
 ·obtain ⟨its,r',pl,hz⟩:=I.tuple hq
  exact call_tuple_same pl ⟨.ref p,H,I,rfl,q⟩
def zQ (K:PySem.W.Frag)(T:String)(x:V)(H:Hp):Prop:=match x with
 | .str _=>T="str"
 | .int _=>T="int"
 | .ref p=>(T="list"/\∃xs,aM K H p xs)∨(T="tuple"/\∃o,K.lookup p=some o/\o.cls= .type "tuple"/\o.dict=none)∨
  (T="dict"/\((∃kvs,H p=some (.dK kvs))∨∃kvs,H p=some (.dT kvs)))∨(T="set"/\∃S n,H p=some (.set S n))
 | _=>False
theorem ud {pins:List (Addr×Obj)}{σ:St}{H:Hp}{s:Shared}{T:String}{x:V}{v:Value}(I:Inv X pins σ H s)(r:RelV x v)(ty:zQ X.K T x H):
 s.TypeIs v T/\∀a,v= .ref a->∃ob,s.heap.get? a=some ob/\ob.dict=none:=by
 cases x with
 | str z=>
   obtain ⟨t,rfl⟩:=r
   cases (show T="str" from ty)
   exact ⟨typeIs_str s z t,λ_ e=>nomatch e⟩
 | int i=>
   obtain ⟨t,rfl⟩:=r
   cases (show T="int" from ty)
   exact ⟨typeIs_int s i t,λ_ e=>nomatch e⟩
 | ref p=>
   cases r
   rcases ty with ⟨rfl,xs,hq⟩ | ⟨rfl,o,hk,hc,hd⟩ | ⟨rfl,hk⟩ | ⟨rfl,S,n,hk⟩
   ·obtain ⟨its,_,pl,_⟩:=I.list hq
    refine ⟨pl.isList.typeIs,λa e=>?_⟩
    cases e
    obtain ⟨o,n,e,c,hd,_⟩:=pl
    exact ⟨o,e,hd⟩
   ·refine ⟨⟨o,I.gD p o hk,hc⟩,λa e=>?_⟩
    cases e
    exact ⟨o,I.gD _ o hk,hd⟩
   ·have z:∃o,s.heap.get? p=some o/\o.ExactDict:=by
     rcases hk with ⟨kvs,hk⟩ | ⟨kvs,hk⟩
     ·obtain ⟨_,_,_,_,o,_,_,e,ex,_⟩:=I.hok p _ hk
      exact ⟨o,e,ex⟩
     ·obtain ⟨_,_,_,_,o,_,_,e,ex,_⟩:=I.hok p _ hk
      exact ⟨o,e,ex⟩
    obtain ⟨o,e,ex⟩:=z
    refine ⟨⟨o,e,ex.1⟩,λa e2=>?_⟩
    cases e2
    exact ⟨o,e,ex.2.1⟩
   ·obtain ⟨o,_,_,_,e,ex,_⟩:=I.hok p _ hk
    refine ⟨⟨o,e,ex.1⟩,λa e2=>?_⟩
    cases e2
    exact ⟨o,e,ex.2.1⟩
 | _=>exact False.elim ty
def Fe (K:PySem.W.Frag)(T:String)(r:V->List V->Hp->VK->Prop)(to:TE):TE:=λσ H Q=>to σ H λx H1=>zQ K T x H1/\r x [] H1 Q
def tBM (K:PySem.W.Frag)(T:String)(r:V->List V->Hp->VK->Prop)(to:TE)(t:TA):TE:=λσ H Q=>to σ H λx H1=>zQ K T x H1/\t σ H1 λxs H2=>r x xs H2 Q
variable {o e:Expr}{es:List Expr}{to:TE}{t:TA}{name:Str}{apos cpos:Pos}{T id:String}{r:V->List V->Hp->VK->Prop}
theorem tE (pa:PlainAttrs T)(slot:Slot T name id)(hty:typeOf (.builtin id)=pure (.type "method_descriptor"))(hm:BU X id r)(ho:PE X o to)
 (hbase:attributeBase o name X.env (eval o X.env)=eval o X.env:=by rfl) (hline:(apos.endLine==cpos.line)=true:=by rfl):PE X (.Call (.Attribute o name apos) [] [] cpos) (Fe X.K T r to):=by
 intro pins s σ H Q I h
 refine wpAny_Call_method0_late hbase hline (aP (ho pins s σ H _ I h) λv s1 ⟨x,H1,I1,r1,ty,q1⟩=>?_)
 obtain ⟨h1,h2⟩:=ud I1 r1 ty
 exact ⟨T,id,pa,slot,hty,h1,h2,Calls.callWith_builtin rfl (PySem.evalArgs_none (hm pins s1 σ H1 x [] v [] Q I1 r1 .nil q1))⟩
theorem fN (pa:PlainAttrs T)(slot:Slot T name id)(hty:typeOf (.builtin id)=pure (.type "method_descriptor"))(hm:BU X id r)(ho:PE X o to)(ha:PA X (e::es) t)
 (hbase:attributeBase o name X.env (eval o X.env)=eval o X.env:=by rfl)
 (hfew:((backTo cpos (starEach (e::es) X.env)).all (λx=> !x.1)&&(backToKw cpos (keywordEach [] X.env)).all (λx=>x.1.isSome)
  &&decide ((e::es).length + ([]:List Keyword).length + (if ([]:List Keyword).isEmpty then 0 else 1) < 30))=true:=by rfl)
 (hline:(apos.endLine==cpos.line)=true:=by rfl) (hs:starEach (e::es) X.env=(false,eval e X.env)::starEach es X.env:=by rfl) (hplain:(backTo cpos (starEach es X.env)).any (·.1)=false:=by rfl):
 PE X (.Call (.Attribute o name apos) (e::es) [] cpos) (tBM X.K T r to t):=by
 intro pins s σ H Q I h
 refine wpAny_Call_method_late hbase hfew hline rfl (aP (ho pins s σ H _ I h) λv s1 ⟨x,H1,I1,r1,ty,q1⟩=>?_)
 obtain ⟨h1,h2⟩:=ud I1 r1 ty
 refine ⟨T,id,pa,slot,hty,h1,h2,?_⟩
 have hA:=ha cpos pins s1 σ H1 _ I1 q1
 rw [hs] at hA ⊢
 refine Calls.callWith_builtin (by show (false ||(backTo cpos (starEach es X.env)).any (·.1))=false;rw [hplain]<;>rfl) (Calls.evalArgs_plain ?_)
 exact aP hA λus s2 ⟨vs,H2,I2,r2,q2⟩=>hm pins s2 σ H2 x vs v us Q I2 r1 r2 q2
end
def tG (X:Cx)(id:String)(r:V->List V->Hp->VK->Prop):Prop:=
 ∀(pins:List (Addr×Obj)) (s:Shared) (σ:St) (H:Hp) (x:V) (xs:List V) (v:Value) (us:List Value) (Q:VK),Inv X pins σ H s->RelV x v->aK xs us->r x xs H Q->
  wpAny (model X.prog X.w) X.A (call (.builtin id) (v::us)) (EP X pins σ Q) X.xe s
theorem aK.one:∀{x:V} {us:List Value},aK [x] us->∃u,us=[u]/\RelV x u
 | _,_,.cons r .nil=>⟨_,rfl,r⟩
theorem aK.zero:∀{us:List Value},aK [] us->us=[]
 | _,.nil=>rfl
theorem aK.dropLast {xs:List V}{us:List Value}(h:aK xs us):aK xs.dropLast us.dropLast:=by
 induction h with
 | nil=>exact .nil
 | cons r t ih=>
   cases t with
   | nil=>exact .nil
   | cons q t'=>exact .cons r ih
theorem aK.eraseIdx:∀{xs:List V} {us:List Value} (i:Nat),aK xs us->aK (xs.eraseIdx i) (us.eraseIdx i)
 | _,_,_,.nil=>.nil
 | _,_,0,.cons _ t=>t
 | _,_,i + 1,.cons r t=>.cons r (aK.eraseIdx i t)
theorem aK.rep {xs:List V}{us:List Value}(h:aK xs us):∀k:Nat,aK (List.replicate k xs).flatten (List.replicate k us).flatten
 | 0=>.nil
 | k + 1=>by
   rw [replicate_succ,replicate_succ,flatten_cons,flatten_cons]
   exact aK.append h (aK.rep h k)
theorem rP {α:Type}(l:List α):l.eraseIdx (l.length - 1)=l.dropLast:=by
 induction l with
 | nil=>rfl
 | cons a r ih=>
   cases r with
   | nil=>rfl
   | cons b r=>
     have e:(a::b::r).length - 1=((b::r).length - 1) + 1:=by
      have h1:(a::b::r).length=r.length + 2:=rfl
      have h2:(b::r).length=r.length + 1:=rfl
      omega
     rw [e,List.eraseIdx_cons_succ,ih]
     all_goals rfl
theorem ny {α:Type}:∀(l:List α) (i:Nat),(l.eraseIdx i).length<=l.length
 | [],_=>Nat.le_refl _
 | _::_,0=>Nat.le_succ _
 | _::r,i + 1=>Nat.succ_le_succ (ny r i)
theorem foldl_rep (its:List Value):∀(k:Nat) (acc:List Value),
 List.foldl (λx1 x2=>x1++x2) acc.toArray (List.replicate k its.toArray)=(acc++(List.replicate k its).flatten).toArray
 | 0,acc=>by simp
 | k + 1,acc=>by
   have e:acc.toArray++its.toArray=(acc++its).toArray:=by simp
   have e2:(acc++its)++(List.replicate k its).flatten=acc++(List.replicate (k + 1) its).flatten:=by
    rw [replicate_succ,flatten_cons,append_assoc]
   rw [← e2,← foldl_rep its k (acc++its),← e,replicate_succ,List.foldl_cons]
section
variable {X:Cx}{pins:List (Addr×Obj)}{σ:St}{H:Hp}{s:Shared}{l b:Addr}{xs ys zs:List V}
theorem Inv.ot {its its':List Value}{n:Nat}{f:Array Value->Array Value}{t':Nat}(I:Inv X pins σ H s)(hH:H l=some (.lst xs))
 (e:s.heap.get? l=some {cls:=.type "list",data:=.seq its.toArray n}) (hf:f its.toArray=its'.toArray) (hv:aK ys its') (hz:ys.length<=sizeLine):
 Inv X pins σ (upd H l (.lst ys)) {s with heap:=s.heap.update l (Obj.mapSeq f),toks:=t'}:=by
 have q:=PySem.IsL.update e f
 rw [hf] at q
 refine I.write (x:=l) (e:=l) (by rw [hH];exact trivial) (.inl rfl) (λb' u hb hu=>(Heap.get?_update_other s.heap (Obj.mapSeq f) (Ne.symm hb)).trans hu) ⟨_,q⟩ ?_
 exact ⟨hz,its',_,hv,q⟩
theorem Inv.Ar {its:List Value}{t':Nat}(I:Inv X pins σ H s)(hv:aK ys its)(hz:ys.length<=sizeLine):
 Inv X pins σ (upd H s.heap.objs.size (.lst ys)) {s with heap:=s.heap.push {cls:=.type "list",data:=.seq its.toArray},toks:=t'}:=
 I.laid (λ_ _ q=>Heap.get?_push_of_some _ q) (Nat.le_refl _) ⟨hz,its,0,hv,Heap.get?_push_size _ rfl⟩
theorem Inv.fresh (I:Inv X pins σ H s):H s.heap.objs.size=none:=I.hok.fresh (Nat.le_refl _)
theorem Inv.jg (I:Inv X pins σ H s)(hH:H l=some (.lst xs)):xs.length<=sizeLine/\∃(its:List Value) (n:Nat),aK xs its/\xs.length=its.length/\s.heap.get? l=some {cls:=.type "list",data:=.seq its.toArray n}:=by
 obtain ⟨z,its,n,r,e⟩:=I.hok l _ hH
 exact ⟨z,its,n,r,r.length,e⟩
theorem wL {n:Nat}(h:n<=sizeLine):Builtin.List.listTooLong n=false:=by
 unfold Builtin.List.listTooLong
 exact decide_eq_false (by omega)
end
section
variable {X:Cx}
def ze:V->List V->Hp->VK->Prop:=λx vs H Q=>∃l xs y,x= .ref l/\vs=[y]/\H l=some (.lst xs)/\xs.length < sizeLine/\Q .non (upd H l (.lst (xs++[y])))
theorem eA:tG X "list.append" ze:=by
 intro pins s σ H x vs v us Q I rx rv h
 obtain ⟨l,xs,y,rfl,rfl,hH,hz,q⟩:=h
 cases rx
 obtain ⟨u,rfl,ru⟩:=rv.one
 obtain ⟨z,its,n,r,hl,e⟩:=I.jg hH
 refine call_meets F.slot_list_append ⟨_,e,rfl⟩ F.entry_list_append (F.args_list_append_2 _ _) (PySem.list_append l its.toArray n u (by rw [size_toArray];omega)) ⟨e,?_⟩
 refine ⟨.non,_,I.ot (its':=its++[u]) hH e (by simp) (r.append (.cons ru .nil)) ?_,rfl,q⟩
 rw [length_append,length_singleton]
 omega
def Fn:V->List V->Hp->VK->Prop:=λx vs H Q=>∃l xs y,x= .ref l/\vs=[]/\H l=some (.lst xs)/\xs[xs.length - 1]?=some y/\Q y (upd H l (.lst xs.dropLast))
theorem tR:tG X "list.pop" Fn:=by
 intro pins s σ H x vs v us Q I rx rv h
 obtain ⟨l,xs,y,rfl,rfl,hH,hy,q⟩:=h
 cases rx
 have hus:=rv.zero
 subst hus
 obtain ⟨z,its,n,r,hl,e⟩:=I.jg hH
 obtain ⟨u,hu,ru⟩:=r.get hy
 have hy':its.toArray[its.toArray.size - 1]?=some u:=by
  show its.toArray[its.length - 1]?=some u
  rw [← Array.getElem?_toList,← hl]
  exact hu
 refine call_meets F.slot_list_pop ⟨_,e,rfl⟩ F.entry_list_pop (F.args_list_pop_1 _) (MeetsSeq.list_pop_last l its.toArray n u hy' (by rw [size_toArray];omega)) ⟨e,?_⟩
 refine ⟨y,_,I.ot (its':=its.dropLast) hH e ?_ r.dropLast ?_,ru,q⟩
 ·show its.toArray.eraseIdxIfInBounds (its.toArray.size - 1)=its.dropLast.toArray
  rw [size_toArray,eraseIdxIfInBounds_toArray,rP]
 ·rw [length_dropLast]
  omega
def BN:V->List V->Hp->VK->Prop:=λx vs H Q=>∃l xs i k y,x= .ref l/\vs=[.int i]/\H l=some (.lst xs)/\ -(2 ^ 63)<=i/\i < 2 ^ 63/\seqIndex? i xs.length=some k/\xs[k]?=some y/\Q y (upd H l (.lst (xs.eraseIdx k)))
theorem wH:tG X "list.pop" BN:=by
 intro pins s σ H x vs v us Q I rx rv h
 obtain ⟨l,xs,i,k,y,rfl,rfl,hH,h1,h2,hk,hy,q⟩:=h
 cases rx
 obtain ⟨u,rfl,ru⟩:=rv.one
 obtain ⟨t,rfl⟩:=ru
 obtain ⟨z,its,n,r,hl,e⟩:=I.jg hH
 obtain ⟨w,hw,rw'⟩:=r.get hy
 refine call_meets F.slot_list_pop ⟨_,e,rfl⟩ F.entry_list_pop (F.args_list_pop_2 _ _)
  (MeetsSeq.list_pop_at l its.toArray n i t k w (fitsIndex_both h1 h2) (by rw [size_toArray,← hl];exact hk) (by rw [← Array.getElem?_toList];exact hw) (by rw [size_toArray];omega)) ⟨e,?_⟩
 refine ⟨y,_,I.ot (its':=its.eraseIdx k) hH e ?_ (r.eraseIdx k) ?_,rw',q⟩
 ·show its.toArray.eraseIdxIfInBounds k=(its.eraseIdx k).toArray
  rw [eraseIdxIfInBounds_toArray]
 ·have:=ny xs k
  omega
def A7:R2:=λx y H Q=>∃l b xs zs,x= .ref l/\y= .ref b/\H l=some (.lst xs)/\H b=some (.lst zs)/\xs.length + zs.length<=sizeLine/\∀p,H p=none->Q (.ref p) (upd H p (.lst (xs++zs)))
theorem oK:dg X (binaryOp .Add) A7:=by
 intro pins s σ H x y v u Q I rx ry h
 obtain ⟨l,b,xs,zs,rfl,rfl,hH,hB,hz,q⟩:=h
 cases rx
 cases ry
 obtain ⟨z,its,n,r,hl,e⟩:=I.jg hH
 obtain ⟨z2,its2,n2,r2,hl2,e2⟩:=I.jg hB
 refine PySem.P.add_list e e2 ?_ (by rw [size_toArray,size_toArray];omega)
 have ea:its.toArray++its2.toArray=(its++its2).toArray:=by simp
 rw [ea]
 exact ⟨.ref _,_,I.Ar (t':=s.toks) (r.append r2) (by rw [length_append];omega),rfl,q _ I.fresh⟩
def FF:R2:=λx y H Q=>∃l k xs,x= .ref l/\y= .int k/\H l=some (.lst xs)/\ -(2 ^ 63)<=k/\k < 2 ^ 63/\xs.length * k.toNat<=sizeLine/\
 ∀p,H p=none->Q (.ref p) (upd H p (.lst (List.replicate k.toNat xs).flatten))
theorem qQ {α:Type}(xs:List α)(k:Nat):(List.replicate k xs).flatten.length=k * xs.length:=by
 induction k with
 | zero=>simp
 | succ k ih=>rw [replicate_succ,flatten_cons,length_append,ih,Nat.succ_mul,Nat.add_comm]
theorem A2:dg X (binaryOp .Mult) FF:=by
 intro pins s σ H x y v u Q I rx ry h
 obtain ⟨l,k,xs,rfl,rfl,hH,h1,h2,hz,q⟩:=h
 cases rx
 obtain ⟨t,rfl⟩:=ry
 obtain ⟨z,its,n,r,hl,e⟩:=I.jg hH
 have hlen:its.toArray.size * k.toNat<=sizeLine:=by rw [size_toArray,← hl];exact hz
 have hcap:¬its.toArray.size * k.toNat > (2 ^ 63 - 1) / 8:=by
  have:(sizeLine:Nat)<=(2 ^ 63 - 1) / 8:=by decide
  omega
 have hfit:¬(!Builtin.List.listFitsIndex k)=true:=by
  rw [fitsIndex_both h1 h2]
  exact Bool.false_ne_true
 have hlong:¬Builtin.List.listTooLong (its.toArray.size * k.toNat)=true:=by
  rw [wL hlen]
  exact Bool.false_ne_true
 have hnew:List.foldl (λx1 x2=>x1++x2) #[] (List.replicate (if its.toArray.isEmpty=true then 0 else k.toNat) its.toArray)=(List.replicate k.toNat its).flatten.toArray:=by
  have f0:∀m:Nat,List.foldl (λx1 x2=>x1++x2) #[] (List.replicate m its.toArray)=(List.replicate m its).flatten.toArray:=λm=>by
   have:=foldl_rep its m []
   rw [List.nil_append] at this
   exact this
  rw [f0]
  cases its with
  | nil=>simp
  | cons a r'=>rw [if_neg (by simp)]
 refine wpAny_binaryOp_repeat_ref (T:="list") (U:="int") (by decide) ⟨_,e,rfl⟩ (λs'=>typeIs_int s' k t) noFill_list_mul F.fills_int_mul F.slot_int_rmul repeat_list F.slot_int_index.lookup
  (call_meets F.slot_int_rmul (typeIs_int s k t) F.entry_int_rmul (F.args_int_rmul_2 _ _) (int___rmul___int_list k t l its.toArray n)
   ⟨e,rfl,⟨_,e,rfl⟩,call_meets F.slot_list_mul ⟨_,e,rfl⟩ F.entry_list_mul (F.args_list_mul_2 _ _) (AutoListH.list___mul___list_int_3 l its.toArray n k t hfit hcap hlong) ⟨e,?_⟩⟩)
 rw [hnew]
 exact ⟨.ref _,_,I.Ar (t':=s.toks) (r.rep k.toNat) (by rw [qQ,Nat.mul_comm];exact hz),rfl,q _ I.fresh⟩
end
section
variable {prog:Program}{w:World}{A:Around}{E:Value->Shared->Prop}{s:Shared}
end
section
variable {X:Cx}
end
section
variable {κ:Type} [DecidableEq κ]
variable {kvs:List (κ×V)}{vs:List (κ×Value)}
def cR (kvs:List (κ×V))(k:κ):Option V:=(kvs.find? λkv=>decide (kv.1=k)).map (·.2)
def putK (kvs:List (κ×V))(k:κ)(v:V):List (κ×V):=
 if (kvs.any λkv=>decide (kv.1=k))=true then kvs.map (λkv=>if kv.1=k then (kv.1,v) else kv) else kvs++[(k,v)]
theorem c5 {p:κ×V}{r:List (κ×V)}{k:κ}(e:p.1=k):cR (p::r) k=some p.2:=by simp [cR,find?_cons,e]
theorem c6 {p:κ×V}{r:List (κ×V)}{k:κ}(e:¬p.1=k):cR (p::r) k=cR r k:=by simp [cR,find?_cons,e]
theorem fC (k:κ):∀kvs:List (κ×V),(kvs.any λkv=>decide (kv.1=k))=(cR kvs k).isSome
 | []=>rfl
 | p::r=>by
   rw [any_cons]
   by_cases e:p.1=k
   ·simp only [c5 e,decide_eq_true e,Bool.true_or,Option.isSome_some]
   ·rw [c6 e,decide_eq_false e,Bool.false_or];exact fC k r
theorem pw (k j:κ)(y:V):∀kvs:List (κ×V),cR (kvs.map λkv=>if kv.1=k then (kv.1,y) else kv) j=(cR kvs j).map λx=>if j=k then y else x
 | []=>rfl
 | p::r=>by
   have ih:=pw k j y r
   rw [map_cons]
   by_cases h:p.1=k
   ·rw [if_pos h]
    by_cases e:p.1=j
    ·rw [c5 (p:=(p.1,y)) e,c5 e,Option.map_some,if_pos (e.symm.trans h)]
    ·rw [c6 (p:=(p.1,y)) e,c6 e,ih]
   ·rw [if_neg h]
    by_cases e:p.1=j
    ·rw [c5 (p:=p) e,c5 e,Option.map_some,if_neg (λz=>h (e.trans z))]
    ·rw [c6 (p:=p) e,c6 e,ih]
theorem nD (k j:κ)(y:V):∀kvs:List (κ×V),cR kvs k=none->cR (kvs++[(k,y)]) j=if j=k then some y else cR kvs j
 | [],_=>by
   by_cases e:k=j
   ·rw [if_pos e.symm];exact c5 (p:=(k,y)) e
   ·rw [if_neg (λz=>e z.symm)];exact c6 (p:=(k,y)) e
 | p::r,hn=>by
   rw [cons_append]
   have hk:¬p.1=k:=λz=>by rw [c5 z] at hn;cases hn
   rw [c6 hk] at hn
   have ih:=nD k j y r hn
   by_cases e:p.1=j
   ·rw [c5 e,c5 e,if_neg (λz=>hk (e.trans z))]
   ·rw [c6 e,c6 e,ih]
theorem vL (kvs:List (κ×V))(k j:κ)(y:V):cR (putK kvs k y) j=if j=k then some y else cR kvs j:=by
 unfold putK
 by_cases a:(kvs.any λkv=>decide (kv.1=k))=true
 ·rw [if_pos a,pw]
  rw [fC] at a
  by_cases e:j=k
  ·obtain ⟨x,hx⟩:=Option.isSome_iff_exists.mp a
   rw [if_pos e,e,hx,Option.map_some,if_pos rfl]
  ·rw [if_neg e]
   cases cR kvs j with
   | none=>rfl
   | some x=>rw [Option.map_some,if_neg e]
 ·rw [if_neg a]
  refine nD k j y kvs ?_
  rw [fC] at a
  cases q:cR kvs k with
  | none=>rfl
  | some x=>rw [q] at a;exact (a rfl).elim
theorem iL (kvs:List (κ×V))(k:κ)(v:V):(putK kvs k v).length<=kvs.length + 1:=by
 unfold putK
 split
 ·rw [length_map];omega
 ·rw [length_append,length_cons,length_nil];omega
theorem vH {k:κ}(v:V)(h:cR kvs k=none):putK kvs k v=kvs++[(k,v)]:=by
 unfold putK
 rw [fC,h]
 exact if_neg (by decide)
theorem gf.gB {o:Option V}{u:Option Value}(r:gf o u):o.isSome=u.isSome:=by
 cases o with
 | none=>cases u with
   | none=>rfl
   | some _=>exact (show False from r).elim
 | some _=>cases u with
   | none=>exact (show False from r).elim
   | some _=>rfl
theorem gf.getD {o:Option V}{u:Option Value}{d:V}{d':Value}(r:gf o u)(rd:RelV d d'):RelV (o.getD d) (u.getD d'):=by
 cases o with
 | none=>cases u with
   | none=>exact rd
   | some _=>exact (show False from r).elim
 | some _=>cases u with
   | none=>exact (show False from r).elim
   | some _=>exact r
theorem KV.val (r:KV kvs vs)(k:κ):gf (cR kvs k) (valueAt vs k):=by
 unfold KV at r
 induction r with
 | nil=>exact True.intro
 | @cons p q ps qs h t ih=>
   obtain ⟨h1,h2⟩:=h
   by_cases e:p.1=k
   ·have e':q.1=k:=h1.symm.trans e
    have b:valueAt (q::qs) k=some q.2:=by simp [valueAt,find?_cons,e']
    rw [c5 e,b];exact h2
   ·have e':¬q.1=k:=λz=>e (h1.trans z)
    have b:valueAt (q::qs) k=valueAt qs k:=by simp [valueAt,find?_cons,e']
    rw [c6 e,b];exact ih
theorem KV.any (r:KV kvs vs)(k:κ):(kvs.any λkv=>decide (kv.1=k))=vs.any λkv=>decide (kv.1=k):=by
 unfold KV at r
 induction r with
 | nil=>rfl
 | cons h t ih=>rw [any_cons,any_cons,ih,h.1]
theorem KV.wz (r:KV kvs vs)(k:κ){y:V}{u:Value}(ry:RelV y u):
 KV (kvs.map λkv=>if kv.1=k then (kv.1,y) else kv) (vs.map λkv=>if kv.1=k then (kv.1,u) else kv):=by
 unfold KV at r ⊢
 induction r with
 | nil=>exact .nil
 | @cons p q ps qs h t ih=>
   rw [map_cons,map_cons]
   refine .cons ?_ ih
   obtain ⟨h1,h2⟩:=h
   by_cases e:p.1=k
   ·rw [if_pos e,if_pos (h1.symm.trans e)];exact ⟨h1,ry⟩
   ·rw [if_neg e,if_neg (λz=>e (h1.trans z))];exact ⟨h1,h2⟩
theorem KV.put (r:KV kvs vs)(k:κ){y:V}{u:Value}(ry:RelV y u):KV (putK kvs k y) (stored vs k u):=by
 unfold putK stored
 rw [r.any k]
 by_cases e:(vs.any λkv=>decide (kv.1=k))=true
 ·rw [if_pos e,if_pos e];exact r.wz k ry
 ·rw [if_neg e,if_neg e];exact Paired.snoc r ⟨rfl,ry⟩
theorem KV.length (r:KV kvs vs):kvs.length=vs.length:=Paired.length r
end
section
variable {H:Hp}{kvs:List (List Key×V)}{xs:List (List Key×Addr×Value)}{u:Value}
theorem ji {P:Program}{w:World}{k:Key}(r:RelV (kV k) u):(cz P w).is k u=true:=by
 cases k with
 | inl i=>obtain ⟨t,e⟩:=(show∃t,u=Value.int i t from r);subst e;exact pN P w i t
 | inr x=>obtain ⟨t,e⟩:=(show∃t,u=Value.str x t from r);subst e;exact pX P w x t
theorem mS {P:Program}{w:World}:∀{ks:List Key} {us:List Value},aK (ks.map kV) us->ItemsAre (cz P w) ks us
 | [],_,r=>by rw [map_nil] at r;cases r;exact .nil
 | k::ks,_,r=>by
   rw [map_cons] at r
   cases r with
   | cons h t=>exact .cons (ji h) (mS t)
abbrev KT (H:Hp):List (List Key×V)->List (List Key×Addr×Value)->Prop:=Paired λp q=>p.1=q.1/\H q.2.1=some (.tup (p.1.map kV))/\RelV p.2 q.2.2
theorem KT.val (r:KT H kvs xs)(k:List Key):gf (cR kvs k) ((atKey xs k).map (·.2)):=by
 induction r with
 | nil=>exact True.intro
 | @cons p q ps qs h t ih=>
   obtain ⟨h1,_,h2⟩:=h
   by_cases e:p.1=k
   ·have e':q.1=k:=h1.symm.trans e
    have b:atKey (q::qs) k=some q.2:=by simp [atKey,find?_cons,e']
    rw [c5 e,b];exact h2
   ·have e':¬q.1=k:=λz=>e (h1.trans z)
    have b:atKey (q::qs) k=atKey qs k:=by simp [atKey,find?_cons,e']
    rw [c6 e,b];exact ih
theorem KT.wz (r:KT H kvs xs)(k:List Key){y:V}(ry:RelV y u):
 KT H (kvs.map λkv=>if kv.1=k then (kv.1,y) else kv) (xs.map (putAt k u)):=by
 induction r with
 | nil=>exact .nil
 | @cons p q ps qs h t ih=>
   rw [map_cons,map_cons]
   refine .cons ?_ ih
   obtain ⟨h1,h2,h3⟩:=h
   unfold putAt
   by_cases e:p.1=k
   ·rw [if_pos e,if_pos (h1.symm.trans e)];exact ⟨h1,h2,ry⟩
   ·rw [if_neg e,if_neg (λz=>e (h1.trans z))];exact ⟨h1,h2,h3⟩
theorem KT.put (r:KT H kvs xs)(k:List Key){b:Addr}{y:V}(hb:H b=some (.tup (k.map kV)))(ry:RelV y u):
 KT H (putK kvs k y) (storedH xs k b u):=by
 have e:(kvs.any λkv=>decide (kv.1=k))=(atKey xs k).isSome:=by
  rw [fC,(r.val k).gB,Option.isSome_map]
 unfold putK storedH
 rw [e]
 by_cases q:(atKey xs k).isSome=true
 ·rw [if_pos q,if_pos q];exact r.wz k ry
 ·rw [if_neg q,if_neg q];exact Paired.snoc r ⟨rfl,hb,ry⟩
theorem KT.keeps {H':Hp}(r:KT H kvs xs)(ht:∀b ys,H b=some (.tup ys)->H' b=some (.tup ys)):KT H' kvs xs:=
 Paired.vP r λ_ _ z=>⟨z.1,ht _ _ z.2.1,z.2.2⟩
end
section
variable {P:Program}{w:World}{H:Hp}{h:Heap}{a:Addr}
theorem x9 {u:HO}(ok:c9 P w H h)(e:Rd H a u):cq P w H h a u:=e.ok ok
theorem iz {kvs:List (Key×V)}(ok:c9 P w H h)(e:Rd H a (.dK kvs)):kvs.length<=sizeLine/\(a==sysModules)=false/\∃vs,KV kvs vs/\h.DictOf (cz P w) a vs:=
 show cq P w H h a (.dK kvs) from x9 ok e
theorem xD {kvs:List (Key×V)}(ok:c9 P w H h)(e:H a=some (.dK kvs)):kvs.length<=sizeLine/\(a==sysModules)=false/\∃vs,KV kvs vs/\h.DictOf (cz P w) a vs:=iz ok (.inl e)
theorem iV {ks:List Key}(ok:c9 P w H h)(e:H a=some (.tup (ks.map kV))):(tupleKind (cz P w)).is h ks a:=by
 obtain ⟨_,its,r,o,h1,h2,n,h3⟩:=(show cq P w H h a (.tup (ks.map kV)) from ok a _ e)
 exact ⟨o,its.toArray,n,h1,h2,h3,by simpa using mS r⟩
theorem jx {kvs:List (List Key×V)}(ok:c9 P w H h)(e:Rd H a (.dT kvs)):kvs.length<=sizeLine/\(a==sysModules)=false/\
 ∃xs,KT H kvs xs/\h.DictOfH (tupleKind (cz P w)) a xs:=by
 obtain ⟨z,y,xs,r,o,es,ep,h1,h2,h3,h4,h5⟩:=(show cq P w H h a (.dT kvs) from x9 ok e)
 refine ⟨z,y,xs,r,o,es,ep,h1,h2,h3,h4,λx hx=>?_,h5⟩
 have all:∀{l:List (List Key×V)} {m:List (List Key×Addr×Value)},KT H l m->∀x∈m,(tupleKind (cz P w)).is h x.1 x.2.1:=by
  intro l m q
  induction q with
  | nil=>intro x hx;exact nomatch hx
  | @cons p q ps qs hq t ih=>
    intro x hx
    rcases mem_cons.mp hx with e | hx
    ·subst e
     exact iV ok (by rw [← hq.1];exact hq.2.1)
    ·exact ih x hx
 exact all r x hx
theorem DV {kvs:List (List Key×V)}(ok:c9 P w H h)(e:H a=some (.dT kvs)):kvs.length<=sizeLine/\(a==sysModules)=false/\
 ∃xs,KT H kvs xs/\h.DictOfH (tupleKind (cz P w)) a xs:=jx ok (.inl e)
end
def ef (H:Hp)(a:Addr)(y:V)(r:Option V):Prop:=
 (∃kvs k,Rd H a (.dK kvs)/\y=kV k/\r=cR kvs k)∨∃kvs k b,Rd H a (.dT kvs)/\y= .ref b/\H b=some (.tup (k.map kV))/\r=cR kvs k
def mM (H:Hp)(a:Addr)(y v:V)(H':Hp):Prop:=
 (∃kvs k,H a=some (.dK kvs)/\y=kV k/\kvs.length < sizeLine/\H'=upd H a (.dK (putK kvs k v)))∨
 ∃kvs k b,H a=some (.dT kvs)/\y= .ref b/\H b=some (.tup (k.map kV))/\kvs.length < sizeLine/\H'=upd H a (.dT (putK kvs k v))
theorem ef.k {H:Hp}{a:Addr}{kvs:List (Key×V)}{k:Key}(e:H a=some (.dK kvs)):ef H a (kV k) (cR kvs k):=.inl ⟨kvs,k,.inl e,rfl,rfl⟩
theorem mM.k {H:Hp}{a:Addr}{kvs:List (Key×V)}{k:Key}{v:V}(e:H a=some (.dK kvs))(hl:kvs.length < sizeLine):mM H a (kV k) v (upd H a (.dK (putK kvs k v))):=.inl ⟨kvs,k,e,rfl,hl,rfl⟩
section
variable {X:Cx}{pins:List (Addr×Obj)}{σ:St}{H:Hp}{s:Shared}{a:Addr}{y v:V}{u r:Value}{o:Option V}{A:Around}{E:Value->Shared->Prop}
variable {Q:Value->Shared->Prop}
theorem Inv.big (I:Inv X pins σ H s):sysModules < s.heap.objs.size:=by
 have h:mainGlobals < s.heap.objs.size:=(I.mod.glob.keeps I.bk).lt
 exact Nat.lt_trans (by decide) h
theorem uH (hu:A.units + 1 < cLine)(I:Inv X pins σ H s)(g:ef H a y (some v))(ry:RelV y u)(h:∀w' s',Inv X pins σ H s'->RelV v w'->Q w' s'):
 wpAny (model X.prog X.w) A (getItem (.ref a) u) Q E s:=by
 rcases g with ⟨kvs,k,e,ey,l⟩ | ⟨kvs,k,b,e,ey,eb,l⟩
 ·subst ey
  obtain ⟨z,hd,vs,rel,dd⟩:=iz I.hok e
  obtain ⟨w',hw,rw'⟩:=gf.qp (v:=v) (o:=valueAt vs k) (by rw [l];exact rel.val k)
  exact wpAny_getItem_of (ji ry) dd.mapOf hw (h w' _ (I.tok _) rw')
 ·subst ey
  cases (show u=Value.ref b from ry)
  obtain ⟨z,hd,xs,rel,dd⟩:=jx I.hok e
  obtain ⟨w',hw,rw'⟩:=gf.qp (v:=v) (o:=(atKey xs k).map (·.2)) (by rw [l];exact rel.val k)
  obtain ⟨p,hp,hp2⟩:=Option.map_eq_some_iff.mp hw
  refine wpAny_getItem_heap (tupleKind_room_in1 hu) (iV I.hok eb) dd hp ?_
  rw [hp2]
  exact h w' _ (I.tok _) rw'
theorem FH (hu:A.units + 1 < cLine)(I:Inv X pins σ H s)(g:ef H a y o)(ry:RelV y u)(h:∀s',Inv X pins σ H s'->Q (.bool o.isSome) s'):
 wpAny (model X.prog X.w) A (compareOp .In u (.ref a)) Q E s:=by
 rcases g with ⟨kvs,k,e,ey,l⟩ | ⟨kvs,k,b,e,ey,eb,l⟩
 ·subst ey
  obtain ⟨z,hd,vs,rel,dd⟩:=iz I.hok e
  refine wpAny_in_of (ji ry) hd dd.mapOf ?_
  rw [← (rel.val k).gB,← l]
  exact h _ (I.tok _)
 ·subst ey
  cases (show u=Value.ref b from ry)
  obtain ⟨z,hd,xs,rel,dd⟩:=jx I.hok e
  refine wpAny_in_heap (tupleKind_room_in1 hu) (iV I.hok eb) hd dd ?_
  have q:=(rel.val k).gB
  rw [Option.isSome_map] at q
  rw [← q,← l]
  exact h _ (I.tok _)
theorem yU (hu:A.units + 1 < cLine)(I:Inv X pins σ H s)(g:ef H a y o)(ry:RelV y u)(h:∀s',Inv X pins σ H s'->Q (.bool (!o.isSome)) s'):
 wpAny (model X.prog X.w) A (compareOp .NotIn u (.ref a)) Q E s:=by
 rcases g with ⟨kvs,k,e,ey,l⟩ | ⟨kvs,k,b,e,ey,eb,l⟩
 ·subst ey
  obtain ⟨z,hd,vs,rel,dd⟩:=iz I.hok e
  refine wpAny_notIn_of (ji ry) hd dd.mapOf ?_
  rw [← (rel.val k).gB,← l]
  exact h _ (I.tok _)
 ·subst ey
  cases (show u=Value.ref b from ry)
  obtain ⟨z,hd,xs,rel,dd⟩:=jx I.hok e
  refine wpAny_notIn_heap (tupleKind_room_in1 hu) (iV I.hok eb) hd dd ?_
  have q:=(rel.val k).gB
  rw [Option.isSome_map] at q
  rw [← q,← l]
  exact h _ (I.tok _)
theorem mr {h':Heap}{t':Nat}{ob:HO}(I:Inv X pins σ H s)(mu:vt (H a))(hs:Heap.SameBut a s.heap h')(he:∃q,h'.get? a=some q)(new:cq X.prog X.w (upd H a ob) h' a ob):
 Inv X pins σ (upd H a ob) {s with heap:=h',toks:=t'}:=
 I.write (x:=a) (e:=a) mu (.inl rfl) (λb q hb z=>(hs.2 b hb).trans z) he new
theorem uQ {P:Program}{w:World}{H':Hp}{h':Heap}{kvs:List (Key×V)}{vs:List (Key×Value)}(z:kvs.length<=sizeLine)(hd:(a==sysModules)=false)(rel:KV kvs vs)(dd:h'.DictOf (cz P w) a vs):
 cq P w H' h' a (.dK kvs):=⟨z,hd,vs,rel,dd⟩
theorem ua {H':Hp}{Q:Unit->Shared->Prop}(hu:A.units + 1 < cLine)(I:Inv X pins σ H s)(g:mM H a y v H')(ry:RelV y u)(rv:RelV v r)(h:∀s',Inv X pins σ H' s'->Q () s'):
 wpAny (model X.prog X.w) A (setItem (.ref a) u r) Q E s:=by
 rcases g with ⟨kvs,k,e,ey,l,eH⟩ | ⟨kvs,k,b,e,ey,eb,l,eH⟩
 ·subst ey eH
  obtain ⟨z,hd,vs,rel,dd⟩:=xD I.hok e
  have hz:vs.length<=sizeLine:=by rw [← rel.length];exact z
  have hl:(putK kvs k v).length<=sizeLine:=by have:=iL kvs k v;omega
  refine wpAny_setItem_pairs (hsz:=hz) (ji ry) dd λh' dd' hs=>h _ ?_
  have he:∃q,h'.get? a=some q:=let ⟨q,_,_,hq,_⟩:=dd';⟨q,hq⟩
  exact mr I (by rw [e];exact True.intro) hs he (uQ hl hd (rel.put k rv) dd')
 ·subst ey eH
  cases (show u=Value.ref b from ry)
  obtain ⟨z,hd,xs,rel,dd⟩:=DV I.hok e
  have hz:xs.length<=sizeLine:=by rw [← Paired.length rel];exact z
  have hl:(putK kvs k v).length<=sizeLine:=by have:=iL kvs k v;omega
  refine wpAny_setItem_heap (hsz:=hz) (tupleKind_room_in1 hu) (iV I.hok eb) dd λh' dd' hs=>h _ ?_
  obtain ⟨q,es,ep,hq,h2,h3,h4,_,h5⟩:=dd'
  refine mr I (by rw [e];exact True.intro) hs ⟨q,hq⟩ ⟨hl,hd,_,(rel.put k eb rv).keeps λc ys ec=>?_,q,es,ep,hq,h2,h3,h4,h5⟩
  rw [aA (Dc ec e (λz=>nomatch z))]
  exact ec
end
section
variable {X:Cx}{pins:List (Addr×Obj)}{σ:St}{H:Hp}{s:Shared}{a:Addr}{kvs:List (Key×V)}{k:Key}{u:Value}{A:Around}{E:Value->Shared->Prop}
theorem C9 {Q:Value->Shared->Prop}(I:Inv X pins σ H s)(e:Rd H a (.dK kvs))(h:∀t s',Inv X pins σ H s'->Q (.int kvs.length t) s'):wpAny (model X.prog X.w) A (call (.builtin "len") [.ref a]) Q E s:=by
 obtain ⟨z,hd,vs,rel,dd⟩:=iz I.hok e
 refine call_len_dict hd dd (by rw [← rel.length];rw [sizeLine_eq] at z;omega) ?_
 rw [← rel.length]
 exact h _ _ (I.tok _)
end
def pv (i:Expr):Prop:=∀ov iv,subscripted i false ov iv=operate [ov,iv] (getItem ov iv)
theorem yF {prog:Program}{w:World}{A:Around}{E:Value->Shared->Prop}{s:Shared}{env:Env}{value slice:Expr}{pos:Pos}{T id:String}{Q:Value->Shared->Prop}
 (hl:typeLookup (.type T) "__getitem__"=pure (some (.builtin id))) (hs:pv slice)
 (h:wpAny (model prog w) A (eval value env) (λo s₁=>wpAny (model prog w) A (eval slice env) (λi s₂=>s₂.TypeIs o T/\wpAny (model prog w) A (getItem o i) Q E s₂) E s₁) E s):
 wpAny (model prog w) A (eval (.Subscript value slice pos) env) Q E s:=by
 refine Subscript_ (wpAny_mono h (λo s₁ h₁=>wpAny_mono h₁ (λi s₂ h₂=>?_) λ_ _ x=>x) λ_ _ x=>x)
 obtain ⟨hT,h₂⟩:=h₂
 unfold subscriptTail
 refine wpAny_bind ?_
 rw [getitemInPython_of_ne hT.not_modules]
 refine wpAny_bind (wpAny_specialOf hT hl ?_)
 have fin:wpAny (model prog w) A (subscripted slice false o i) (λr s₃=>wpAny (model prog w) A (letTemporaryGo value o r >>=λ_=>pure r) Q E s₃) E s₂:=by
  rw [hs o i]
  exact wpAny_operating (wpAny_mono h₂ (λr s₃ h₃=>wpAny_bind (wpAny_letTemporaryGo (wpAny_pure h₃))) λ_ _ x=>x)
 first
  | exact wpAny_pure (wpAny_bind fin)
  | exact wpAny_bind (wpAny_pure (wpAny_bind fin))
  | exact wpAny_bind fin
theorem pT {X:Cx}{pins:List (Addr×Obj)}{σ:St}{H:Hp}{s:Shared}{a:Addr}{y:V}{o:Option V}(I:Inv X pins σ H s)(g:ef H a y o):s.TypeIs (.ref a) "dict":=by
 rcases g with ⟨kvs,k,e,_,_⟩ | ⟨kvs,k,b,e,_,_,_⟩
 ·obtain ⟨_,_,vs,_,dd⟩:=iz I.hok e
  exact dd.typeIs
 ·obtain ⟨_,_,xs,_,dd⟩:=jx I.hok e
  exact dd.typeIs
def DD (td ty:TE):TE:=λσ H Q=>td σ H λx H1=>ty σ H1 λy H2=>∃a v,x= .ref a/\ef H2 a y (some v)/\Q v H2
def Fi (ty td:TE):TE:=λσ H Q=>ty σ H λy H1=>td σ H1 λx H2=>∃a o,x= .ref a/\ef H2 a y o/\Q (.bl o.isSome) H2
def yV (ty td:TE):TE:=λσ H Q=>ty σ H λy H1=>td σ H1 λx H2=>∃a o,x= .ref a/\ef H2 a y o/\Q (.bl (!o.isSome)) H2
def Ck (td ty tv:TE):TS:=λD σ H=>tv σ H λv H1=>td σ H1 λx H2=>ty σ H2 λy H3=>∃a H4,x= .ref a/\mM H3 a y v H4/\D.nx σ H4
section
variable {X:Cx}{o i e value:Expr}{pos pos' tpos:Pos}{td ty tv:TE}
theorem mE (hu:X.A.units + 1 < cLine)(ho:PE X o td)(hi:PE X i ty)(hs:pv i):PE X (.Subscript o i pos) (DD td ty):=by
 intro pins s σ H Q I h
 refine yF PySem.F.slot_dict_getitem.lookup hs (aP (ho pins s σ H _ I h) λu s1 ⟨x,H1,I1,rx,q1⟩=>aP (hi pins s1 σ H1 _ I1 q1) λiv s2 ⟨y,H2,I2,ry,a,v,ex,g,q2⟩=>?_)
 subst ex
 obtain rfl:u=Value.ref a:=rx
 exact ⟨pT I2 g,uH hu I2 g ry λw' s3 I3 rw'=>⟨v,H2,I3,rw',q2⟩⟩
theorem tL (hu:X.A.units + 1 < cLine)(hi:PE X i ty)(ho:PE X o td):PC X .In i o (Fi ty td):=by
 intro pins s σ H Q I h
 refine aP (hi pins s σ H _ I h) λiv s1 ⟨y,H1,I1,ry,q1⟩=>aP (ho pins s1 σ H1 _ I1 q1) λu s2 ⟨x,H2,I2,rx,a,ov,ex,g,q2⟩=>?_
 subst ex
 obtain rfl:u=Value.ref a:=rx
 exact FH hu I2 g ry λs3 I3=>⟨.bl ov.isSome,H2,I3,rfl,q2⟩
theorem sQ (hu:X.A.units + 1 < cLine)(hi:PE X i ty)(ho:PE X o td):PC X .NotIn i o (yV ty td):=by
 intro pins s σ H Q I h
 refine aP (hi pins s σ H _ I h) λiv s1 ⟨y,H1,I1,ry,q1⟩=>aP (ho pins s1 σ H1 _ I1 q1) λu s2 ⟨x,H2,I2,rx,a,ov,ex,g,q2⟩=>?_
 subst ex
 obtain rfl:u=Value.ref a:=rx
 exact yU hu I2 g ry λs3 I3=>⟨.bl (!ov.isSome),H2,I3,rfl,q2⟩
theorem qD (hu:X.A.units + 1 < cLine)(ho:PE X o td)(hi:PE X i ty)(hv:PE X value tv)(hs:swapsWith value (some (.Subscript o i pos')) pos.line X.env=pure false):
 PS X (.Assign [.Subscript o i pos'] value pos) (Ck td ty tv):=by
 intro pins s σ H D I h
 refine wpAny_Assign_Subscript (aP (hv pins s σ H _ I h) λr s1 ⟨v,H1,I1,rv,q1⟩=>aP (ho pins s1 σ H1 _ I1 q1) λu s2 ⟨x,H2,I2,rx,q2⟩=>aP (hi pins s2 σ H2 _ I2 q2) λiv s3 ⟨y,H3,I3,ry,a,H4,ex,g,q3⟩=>?_) hs
 subst ex
 obtain rfl:u=Value.ref a:=rx
 exact ua hu I3 g ry rv λs4 I4=>⟨σ,H4,I4,q3⟩
end
theorem n8 {P:Program}{w:World}{H:Hp}(h:Heap)(hb:sysModules < h.objs.size):cq P w H (h.push {cls:=.type "dict",data:=.dict #[]}) h.objs.size (.dK []):=
 ⟨Nat.zero_le _,beq_eq_false_iff_ne.mpr (Ne.symm (Nat.ne_of_lt hb)),[],.nil,Heap.DictOf.new h⟩
def Ak:TE:=λ_ H Q=>∀p,H p=none->Q (.ref p) (upd H p (.dK []))
section
variable {X:Cx}{pos:Pos}
theorem wk:PE X (.Dict [] [] pos) Ak:=λpins s σ H Q I h=>
 wpAny_Dict_empty ⟨.ref s.heap.objs.size,_,I.laid (a:=s.heap.objs.size) (o:=.dK []) (t':=s.toks) (λ_ _ q=>Heap.get?_push_of_some _ q) (Nat.le_refl _) (n8 s.heap I.big),rfl,h _ (I.hok.fresh (Nat.le_refl _))⟩
end
section
variable {X:Cx}
def nS:List (TE×TE)->St->Hp->(List (V×V)->Hp->Prop)->Prop
 | [],_,H,Q=>Q [] H
 | (tk,tv)::r,σ,H,Q=>tk σ H λx H1=>tv σ H1 λy H2=>nS r σ H2 λps H3=>Q ((x,y)::ps) H3
abbrev VV:List (V×V)->List (Value×Value)->Prop:=Paired λp q=>RelV p.1 q.1/\RelV p.2 q.2
def xI (X:Cx)(pos:Pos)(keys:List (Option Expr))(values:List Expr)(trs:List (TE×TE)):Prop:=
 ∀(pins:List (Addr×Obj)) (s:Shared) (σ:St) (H:Hp) (Q:List (V×V)->Hp->Prop),Inv X pins σ H s->nS trs σ H Q->
  wpAny (model X.prog X.w) X.A (evalPairs (pairTrees keys values X.env pos)) (λvs s'=>∃ps H',Inv X pins σ H' s'/\VV ps vs/\Q ps H') X.xe s
theorem zi {pos:Pos}:xI X pos [] [] []:=λpins s σ H Q I h=>pairTrees_nil_walk ⟨[],H,I,.nil,h⟩
theorem vF {pos:Pos}{k v:Expr}{ks:List (Option Expr)}{vs:List Expr}{tk tv:TE}{trs:List (TE×TE)}(hk:PE X k tk)(hv:PE X v tv)(hr:xI X pos ks vs trs):
 xI X pos (some k::ks) (v::vs) ((tk,tv)::trs):=λpins s σ H Q I h=>
 pairTrees_cons_walk (aP (hk pins s σ H _ I h) λu s1 ⟨x,H1,I1,rx,q1⟩=>aP (hv pins s1 σ H1 _ I1 q1) λw2 s2 ⟨y,H2,I2,ry,q2⟩=>
  aP (hr pins s2 σ H2 _ I2 q2) λws s3 ⟨ps,H3,I3,rel,q3⟩=>⟨(x,y)::ps,H3,I3,.cons ⟨rx,ry⟩ rel,q3⟩)
def iS (kvs more:List (Key×V)):List (Key×V):=more.foldl (λacc kv=>putK acc kv.1 kv.2) kvs
theorem KV.merge:∀{more:List (Key×V)} {rs:List (Key×Value)} {kvs:List (Key×V)} {vs:List (Key×Value)},KV more rs->KV kvs vs->KV (iS kvs more) (merged vs rs):=by
 intro more rs kvs vs r
 unfold KV at r
 induction r generalizing kvs vs with
 | nil=>intro q;exact q
 | @cons p q ps qs h t ih=>
   intro r0
   have e:KV (putK kvs p.1 p.2) (stored vs q.1 q.2):=by
    have:=r0.put p.1 h.2
    rw [← h.1];exact this
   exact ih e
theorem jE:∀(more kvs:List (Key×V)),(iS kvs more).length<=kvs.length + more.length
 | [],kvs=>by show kvs.length<=kvs.length + 0;omega
 | p::r,kvs=>by
   have h1:=jE r (putK kvs p.1 p.2)
   have h2:=iL kvs p.1 p.2
   show (iS (putK kvs p.1 p.2) r).length<=_
   rw [length_cons];omega
theorem lB {P:Program}{w:World}:∀{kvs:List (Key×V)} {ws:List (Value×Value)},VV (kvs.map λkv=>(kV kv.1,kv.2)) ws->∃rs,Carries (cz P w) ws rs/\KV kvs rs
 | [],_,r=>by rw [map_nil] at r;cases r;exact ⟨[],True.intro,.nil⟩
 | p::kvs,_,r=>by
   rw [map_cons] at r
   cases r with
   | @cons a b as bs h t=>
     obtain ⟨rs,c,q⟩:=lB (P:=P) (w:=w) t
     obtain ⟨b1,b2⟩:=b
     exact ⟨(p.1,b2)::rs,⟨ji h.1,rfl,c⟩,.cons ⟨rfl,h.2⟩ q⟩
def C0 (trs:List (TE×TE)):TE:=λσ H Q=>∀p,H p=none->nS trs σ (upd H p (.dK [])) λps H2=>H2 p=some (.dK [])/\∃kvs:List (Key×V),ps=kvs.map (λkv=>(kV kv.1,kv.2))/\kvs.length<=15/\Q (.ref p) (upd H2 p (.dK (iS [] kvs)))
theorem yx {pos:Pos}{keys:List (Option Expr)}{values:List Expr}{trs:List (TE×TE)}(h:xI X pos keys values trs)(hall:keys.all (·.isSome)=true)(hl:keys.length=values.length)(h0:keys≠[])
 (h15:keys.length<=15):PE X (.Dict keys values pos) (C0 trs):=by
 intro pins s σ H Q I q
 have hn:=I.hok.fresh (Nat.le_refl s.heap.objs.size)
 have I1:=I.laid (a:=s.heap.objs.size) (o:=.dK []) (h':=s.heap.push {cls:=.type "dict",data:=.dict #[]}) (t':=s.toks) (λ_ _ q=>Heap.get?_push_of_some _ q) (Nat.le_refl _) (n8 s.heap I.big)
 refine wpAny_Dict_walk (knd:=cz X.prog X.w) hall hl h0 h15 (aP (h pins _ σ _ _ I1 (q _ hn)) λws s2 ⟨ps,H2,I2,rel,e,kvs,ep,lk,q2⟩=>?_)
 subst ep
 obtain ⟨rs,c,rk⟩:=lB (P:=X.prog) (w:=X.w) rel
 obtain ⟨z,hd,vs0,r0,dd⟩:=xD I2.hok e
 cases r0
 refine ⟨rs,c,dd,λh' dd' hs=>⟨.ref s.heap.objs.size,_,?_,rfl,q2⟩⟩
 have hz:(iS [] kvs).length<=sizeLine:=by
  have h1:=jE kvs []
  rw [length_nil] at h1
  rw [sizeLine_eq];omega
 have he:∃q,h'.get? s.heap.objs.size=some q:=let ⟨q,_,_,hq,_⟩:=dd';⟨q,hq⟩
 exact mr I2 (by rw [e];exact True.intro) hs he (uQ hz hd (rk.merge .nil) dd')
structure M2 (X:Cx) (o:Expr) (m:Str) (apos:Pos) (e f:Expr) (cpos:Pos):Prop where
 base:attributeBase o m X.env (eval o X.env)=eval o X.env
 few:((backTo cpos (starEach [e,f] X.env)).all (λx=> !x.1)&&(backToKw cpos (keywordEach [] X.env)).all (λx=>x.1.isSome)
  &&decide (([e,f]:List Expr).length + ([]:List Keyword).length + (if ([]:List Keyword).isEmpty then 0 else 1) < 30))=true
 line:(apos.endLine==cpos.line)=true
 trees:backTo cpos (starEach [e,f] X.env)=[(false,eval e X.env),(false,eval f X.env)]
def Ed (H:Hp)(a:Addr):Prop:=(∃kvs,Rd H a (.dK kvs))∨∃kvs,Rd H a (.dT kvs)
theorem z8 {pins:List (Addr×Obj)}{σ:St}{H:Hp}{s:Shared}{a:Addr}(I:Inv X pins σ H s)(d:Ed H a):
 s.TypeIs (.ref a) "dict"/\(∀b,Value.ref a= .ref b->∃ob,s.heap.get? b=some ob/\ob.dict=none)/\(a==sysModules)=false:=by
 rcases d with ⟨kvs,e⟩ | ⟨kvs,e⟩
 ·obtain ⟨_,hd,vs,_,dd⟩:=iz I.hok e
  refine ⟨dd.typeIs,λb q=>?_,hd⟩
  cases q
  obtain ⟨ob,_,_,h1,h2,_⟩:=dd
  exact ⟨ob,h1,h2.2.1⟩
 ·obtain ⟨_,hd,xs,_,dd⟩:=jx I.hok e
  refine ⟨dd.typeIs,λb q=>?_,hd⟩
  cases q
  obtain ⟨ob,_,_,h1,h2,_⟩:=dd
  exact ⟨ob,h1,h2.2.1⟩
end
section
variable {X:Cx}{pins:List (Addr×Obj)}{σ:St}{H:Hp}{s:Shared}{a:Addr}{y d:V}{u r:Value}{o:Option V}{A:Around}{E:Value->Shared->Prop}
theorem BV {Q:Value->Shared->Prop}(hu:A.units + 1 < cLine)(I:Inv X pins σ H s)(g:ef H a y o)(ry:RelV y u)(rd:RelV d r)(h:∀w' s',Inv X pins σ H s'->RelV (o.getD d) w'->Q w' s'):
 wpAny (model X.prog X.w) A (call (.builtin "dict.get") [.ref a,u,r]) Q E s:=by
 rcases g with ⟨kvs,k,e,ey,l⟩ | ⟨kvs,k,b,e,ey,eb,l⟩
 ·subst ey
  obtain ⟨z,hd,vs,rel,dd⟩:=iz I.hok e
  refine call_meetsIn PySem.F.slot_dict_get dd.typeIs PySem.F.entry_dict_get (PySem.F.args_dict_get_3 _ _ _) (meets_dict_get_default (cz X.prog X.w) a (ji ry) hd r) ⟨_,dd.mapOf,h _ _ (I.tok _) ?_⟩
  rw [l]
  exact (rel.val k).getD rd
 ·subst ey
  cases (show u=Value.ref b from ry)
  obtain ⟨z,hd,xs,rel,dd⟩:=jx I.hok e
  refine call_meetsIn PySem.F.slot_dict_get dd.typeIs PySem.F.entry_dict_get (PySem.F.args_dict_get_3 _ _ _) (meetsH_dict_get_default (tupleKind (cz X.prog X.w)) a b hd r) ⟨tupleKind_room_in1 hu,k,xs,iV I.hok eb,dd,h _ _ (I.tok _) ?_⟩
  rw [l]
  exact (rel.val k).getD rd
end
def B7 (td ty tx:TE):TE:=λσ H Q=>td σ H λx H1=>∃a,x= .ref a/\Ed H1 a/\ty σ H1 λy H2=>tx σ H2 λz H3=>∃o,ef H3 a y o/\Q (o.getD z) H3
section
variable {X:Cx}{o e f:Expr}{apos cpos:Pos}{td ty tx:TE}
theorem wB (hu:X.A.units + 1 < cLine)(ho:PE X o td)(he:PE X e ty)(hf:PE X f tx)(m:M2 X o "get" apos e f cpos):PE X (.Call (.Attribute o "get" apos) [e,f] [] cpos) (B7 td ty tx):=by
 intro pins s σ H Q I h
 refine wpAny_Call_method m.base m.few m.line PySem.F.plainAttrs_dict PySem.F.slot_dict_get PySem.F.type_dict_get (aP (ho pins s σ H _ I h) λu s1 ⟨x,H1,I1,rx,a,ex,d,q1⟩=>?_)
 subst ex
 obtain rfl:u=Value.ref a:=rx
 obtain ⟨t1,t2,_⟩:=z8 I1 d
 refine ⟨t1,t2,?_⟩
 rw [m.trees]
 refine Calls.callWith_builtin rfl (Calls.evalArgs_plain (Calls.spliced_cons (aP (he pins s1 σ H1 _ I1 q1) λiv s2 ⟨y,H2,I2,ry,q2⟩=>
  Calls.spliced_cons (aP (hf pins s2 σ H2 _ I2 q2) λfv s3 ⟨z,H3,I3,rz,ov,g,q3⟩=>Calls.spliced_nil ?_))))
 exact BV hu I3 g ry rz λw' s4 I4 rw'=>⟨_,H3,I4,rw',q3⟩
end
section
variable {X:Cx}{pins:List (Addr×Obj)}{σ:St}{H:Hp}{s:Shared}{a:Addr}{kvs:List (Key×V)}{A:Around}{E:Value->Shared->Prop}
end
section
variable {X:Cx}{pins:List (Addr×Obj)}{σ:St}{H:Hp}{s:Shared}{a:Addr}{y:V}{u:Value}{A:Around}{E:Value->Shared->Prop}
end
end L2
namespace Att
open PySem PySem.W PySem.Calls PyProof.Rows
theorem l6 {P:Params}{h:Heap}:∀(ns:List Int) (vs:List Value),WellAll P h vs (ns.map WData.int)->IntsAre vs ns:=by
 intro ns
 induction ns with
 | nil=>
   intro vs w
   rw [map_nil] at w
   cases w
   exact .nil
 | cons n ns ih=>
   intro vs w
   rw [map_cons] at w
   cases w with
   | cons a b=>
     cases a
     exact .cons _ _ (ih _ b)
theorem uO {l:OpenLaw}{n:Nat}(hn:l.most=some n){P:Params}{h:Heap}{args:List WData}{vals:List Value}
 (hpre:l.row.toRowW.claim.pre args=true) (hwl:WellAll P h vals args):
 ∃a vs ns,vals=[Value.ref a]/\args=[WData.list (ns.map WData.int)]/\h.get? a=some {cls:=.type "list",data:=.seq vs.toArray}/\IntsAre vs ns/\ns.length<=n:=by
 have hsh:WShape.hasAll [] args [.list .int]=true:=(pre_splitW hpre).1
 have hc:l.pre.holds [] {args:=args}=true:=(pre_splitW hpre).2
 obtain ⟨d,r,rfl,h1,h2⟩:=hasAllW_cons hsh
 obtain rfl:=hasAllW_nil h2
 obtain ⟨xs,rfl,h3⟩:=hasW_list h1
 obtain ⟨ns,rfl⟩:=items_int h3
 have hlen:ns.length<=n:=by
  unfold OpenLaw.pre at hc
  have h4:(WTm.not (.lt (.lit (.int (n:Int))) (.len (.arg 0)))).holds [] {args:=[.list (ns.map .int)]}=true:=by
   have h4:=(holds_andW hc).1
   rw [hn] at h4
   exact h4
  have h5:=condW_of h4 (w_not (w_lt w_lit (w_len_list (w_arg rfl))))
  rw [length_map] at h5
  refine Nat.le_of_not_lt λq=>?_
  have q':(n:Int) < ((ns.length:Nat):Int):=by omega
  first
   | (rw [decide_eq_true q'] at h5;exact absurd h5 (by decide))
   | (simp at h5;omega)
 cases hwl with
 | cons w1 w2=>
   cases w2
   cases w1 with
   | list ho hall=>exact ⟨_,_,ns,rfl,rfl,ho,l6 ns _ hall,hlen⟩
theorem uk (l:OpenLaw)(args:List WData):l.row.toRowW.claim.post args (.bool true) args=true:=
 postW_of (r:=l.row.toRowW) (X:=(true==true))
  (show WShape.has [] (.bool true) .bool=true by first | rfl | decide | simp [WShape.has,WShape.arms,WShape.armsAll])
  (show (WTm.eq .res (.lit (.bool true))).value [] {args:=args,res:=some (.bool true),after:=args}=some (.bool (true==true)) from w_eq_bool (w_res rfl) w_lit) rfl
section
variable {prog:Program}{w:World}{A:Around}{E:Value->Shared->Prop}{s:Shared}{K:Frag}
end
end Att
namespace L2
open PySem PySem.Spec PyProof.Rows
theorem jP:∀{vs:List Value} {ns:List Int},IntsAre vs ns->aK (ns.map V.int) vs
 | _,_,.nil=>.nil
 | _,_,.cons n t h=>.cons ⟨t,rfl⟩ (jP h)
def vR (H:Hp):Prop:=∀b,H b=none∨∃o xs,H b=some (.frz o (.lst xs))
theorem xc {P:Program}{w:World}{K:PySem.W.Frag}{mg mb:Str->Option Value}{CX:jD}{k:Nat}{fa a:Addr}{fd:FuncData}{x:Str}{sp:Sp}{s₁:Shared}{vs:List Value}{ns:List Int}
 (KX:K.In s₁.heap) (hns:s₁.heap.Ns mainGlobals mg) (hb:s₁.heap.Ns builtinsNs mb) (hbb:∀x:Str,x≠"__name__"->mb x=bootBuiltins x) (hlim:s₁.heap.NoLimit) (hg:s₁.gens= #[])
 (ha:s₁.heap.get? a=some {cls:=.type "list",data:=.seq vs.toArray}) (hi:IntsAre vs ns) (hl:ns.length<=sizeLine) (hr:bU k callerA)
 (F:∀base:Heap,K.In base->base.Ns mainGlobals mg->fu P w K mg base CX k fa fd [x] sp) (hbind:∀(s:Shared) (u:Value),BindsTo s fd ⟨[u],[]⟩ [(x,u)])
 (hsp:∀H:Hp,vR H->aM K H a (ns.map V.int)->sp [.ref a] H (λv _=>v= .bl true) λ_ _ _=>False)
 (hCX:∀H e s',CX [] H s₁ (λ_ _ _=>False) e s'->False):
 codeAny (model P w) callerA (.call (.ref fa) ⟨[.ref a],[]⟩) (λr s'=>r= .ok (.ret (.bool true))/\OldK s₁.heap s'.heap/\s'.os=s₁.os/\AllBare s'.gens) s₁:=by
 have rv:=jP hi
 have lenV:=hi.length
 -- from an abstract heap in which nothing but the script may be tracked
 have core:∀H:Hp,vR H->aM K H a (ns.map V.int)->c9 P w H s₁.heap->(∀b,H b≠none->b=a)->(H a≠none->K.lookup a=none)->
  codeAny (model P w) callerA (.call (.ref fa) ⟨[.ref a],[]⟩) (λr s'=>r= .ok (.ret (.bool true))/\OldK s₁.heap s'.heap/\s'.os=s₁.os/\AllBare s'.gens) s₁:=by
  intro H hO hS hok hA hK
  have base_of:∀{b:Addr} {o:Obj},s₁.heap.get? b=some o->H b=none->(jB s₁.heap H).get? b=some o:=λe n=>wc e n
  have noA:∀{b:Addr} {o:Obj} {es:Array DictEntry} {ep:Nat},s₁.heap.get? b=some o->o.data= .dict es ep->H b=none:=λ{b o es ep} e d=>by
   cases q:H b with
   | none=>rfl
   | some u=>
     have e':b=a:=hA b (by rw [q];simp)
     subst e'
     rw [ha] at e;cases e
     have d':Data.seq vs.toArray _=Data.dict es ep:=d
     cases d'
  have nsK:∀{b:Addr} {m:Str->Option Value},s₁.heap.Ns b m->(jB s₁.heap H).Ns b m:=λ{b m} ⟨o,es,ep,e,d,r⟩=>⟨o,es,ep,base_of e (noA e d),d,r⟩
  have hKb:K.In (jB s₁.heap H):=λb o e=>base_of (KX b o e) (by
   cases q:H b with
   | none=>rfl
   | some u=>
     have e':b=a:=hA b (by rw [q];simp)
     subst e'
     rw [hK (by rw [q];simp)] at e;cases e)
  have hM:Mod K mg (jB s₁.heap H):=⟨hKb,nsK hns,⟨mb,nsK hb,hbb⟩,let ⟨mc,h1,h2⟩:=hlim;⟨mc,nsK h1,h2⟩⟩
  have e0:sF P w K mg (jB s₁.heap H) callerA [] s₁ H:=⟨rfl,hM,λb o e=>zj e,Nat.le_of_eq (tH _ _),trivial,λb hb=>absurd (show b∈([]:List Addr) from hb) (by simp),hok,.of_eq hg⟩
  refine codeAny_mono ((F _ hKb (nsK hns)).run callerA [] s₁ H ⟨[.ref a],[]⟩ [.ref a] [.ref a] _ _ hr e0 (hbind s₁ (.ref a)) (.cons rfl .nil) (hsp H hO hS)) λr s' h=>?_
  cases r with
  | error e=>exact (hCX H e s' h).elim
  | ok fl=>
    cases fl with
    | next=>exact False.elim h
    | brk=>exact False.elim h
    | cont=>exact False.elim h
    | ret u=>
      obtain ⟨v,H',os,bare,un,hok',r',q⟩:=h
      have q':v= .bl true:=q
      subst q'
      obtain rfl:u=Value.bool true:=r'
      refine ⟨rfl,OldK.of_keep λb o e=>?_,os,bare⟩
      cases q:H b with
      | none=>exact un.keep b o e q (by intro z;exact absurd (show b∈([]:List Addr) from z) (by simp)) (by simp)
      | some u=>
        rcases hO b with z | ⟨ob,xs,z⟩
        ·rw [q] at z;cases z
        ·have z2:=un.frzs b ob _ z
         obtain ⟨e1,_⟩:=hok b _ z
         obtain ⟨e2,_⟩:=hok' b _ z2
         rw [e] at e1;cases e1
         exact e2
 cases hk:K.lookup a with
 | some o=>
   -- the script is one of the module's own objects
   have e:=KX a o hk
   rw [ha] at e
   cases e
   refine core (λ_=>none) (λ_=>.inl rfl) (.inr ⟨_,vs.toArray,_,hk,rfl,rfl,rfl,by rw [size_toArray,lenV];exact hl,by simpa using rv⟩) (λb u z=>by have z':(none:Option HO)=some u:=z;cases z') (λb z=>absurd rfl z) λz=>absurd rfl z
 | none=>
   refine core (λb=>if b=a then some (.frz {cls:=.type "list",data:=.seq vs.toArray} (.lst (ns.map V.int))) else none) (λb=>?_) (.inl (.inr ⟨{cls:=.type "list",data:=.seq vs.toArray},if_pos rfl⟩)) (λb u z=>?_) (λb z=>?_) λ_=>hk
   ·by_cases hb:b=a
    ·exact .inr ⟨_,_,if_pos hb⟩
    ·exact .inl (if_neg hb)
   ·by_cases hb:b=a
    ·have z':=(if_pos hb).symm.trans z
     cases z'
     subst hb
     exact ⟨ha,by rw [length_map];exact hl,vs,_,rv,ha⟩
    ·have z':=(if_neg hb).symm.trans z
     cases z'
   ·by_cases hb:b=a
    ·exact hb
    ·exact absurd (if_neg hb) z
abbrev aV {K:PySem.W.Frag}{h:Heap}(_:K.In h):PySem.W.Frag:=K
def fK (s:Stmt):Arguments:=match s with
 | .FunctionDef _ a _ _ _ _ _ _ _ _=>a
 | _=>{posonlyargs:=[],args:=[],vararg:=none,kwonlyargs:=[],kw_defaults:=[],kwarg:=none,defaults:=[]}
def cg (s:Stmt):List Stmt:=match s with
 | .FunctionDef _ _ b _ _ _ _ _ _ _=>b
 | _=>[]
def ah (s:Stmt):Scope:=match s with
 | .FunctionDef _ _ _ _ _ _ sc _ _ _=>sc
 | _=>{kind:=.function,names:=[],isGenerator:=false,isCoroutine:=false}
abbrev eX:jD:=λ_ _ _ _ _ _=>False
abbrev E0:XK:=λ_ _ _=>False
theorem nM {X:Cx}:Passes eX X E0:=λ_ _ _ _ _ _ _ h=>h.elim
structure bI (K:PySem.W.Frag) (x qual:Str) (st:Stmt) (f:Addr) (fd:FuncData):Prop where
 ex:∃(oc:Value) (od:Option Addr) (kV doc pm:Value) (an:Option Addr) (cdv ct:Value) (osl:Array (Option Value)),
  fd=PySem.W.fnOf x qual (fK st) (cg st) (ah st) .none kV doc pm an cdv ct/\K.lookup f=some ⟨oc,od,.func fd,osl⟩/\PySem.W.codeIn K cdv qual=true
 kp:PySem.W.keepIn K (.ref f)=true
section
variable {P:Program}{w:World}{K:PySem.W.Frag}{mg:Str->Option Value}{base:Heap}
variable {x qual:Str}{st:Stmt}{f:Addr}
theorem bI.ok {fd:FuncData}{N ps:List Str}{k:Nat}{sp:Sp}(F:bI K x qual st f fd)(S:aB N ps (ah st))(len:∀vs H Q E,sp vs H Q E->vs.length=ps.length)
 (hbody:∀(cdv:Value) (A:Around) (outer:List Env) (s:Shared) (H:Hp) (vs:List V) (Q:VK) (E:XK),bU k (A.deeper (envOfC qual (ah st) s.heap.objs.size f cdv))->sp vs H Q E->
  ∃t,hZ (eh eX P w K mg base N qual (ah st) f cdv A outer s H E).gN (cg st) t/\t {nx:=λ_ H'=>Q .non H',rt:=Q} (start N vs) H):fu P w K mg base eX (k + 1) f fd ps sp:=by
 obtain ⟨oc,od,kV,doc,pm,an,cdv,ct,osl,rfl,lk,hcd⟩:=F.ex
 refine C8 lk hcd S len λA outer s H vs Q E hr hsp=>?_
 obtain ⟨t,h,q⟩:=hbody cdv A outer s H vs Q E hr hsp
 exact ⟨t,h.gN,q⟩
theorem bI.binds {fd:FuncData}{ps:List Str}(F:bI K x qual st f fd)
 (h:∀(kV doc pm:Value) (an:Option Addr) (cdv ct:Value) (us:List Value),us.length=ps.length->bindArgs (PySem.W.fnOf x qual (fK st) (cg st) (ah st) .none kV doc pm an cdv ct) ⟨us,[]⟩=pure (ps.zip us)):Binds K fd ps []:=by
 obtain ⟨oc,od,kV,doc,pm,an,cdv,ct,osl,rfl,lk,hcd⟩:=F.ex
 exact .all (h kV doc pm an cdv ct)
theorem oh {oc:Value}{od an:Option Addr}{osl:Array (Option Value)}{kV doc pm cdv ct:Value}(l:K.lookup f=some ⟨oc,od,.func (PySem.W.fnOf x qual (fK st) (cg st) (ah st) .none kV doc pm an cdv ct),osl⟩)
 (c:PySem.W.codeIn K cdv qual=true) (k:PySem.W.keepIn K (.ref f)=true):bI K x qual st f (PySem.W.fnOf x qual (fK st) (cg st) (ah st) .none kV doc pm an cdv ct):=⟨⟨oc,od,kV,doc,pm,an,cdv,ct,osl,rfl,l,c⟩,k⟩
end
theorem xB {A:Around}{k:Nat}(hr:bU k A):A.units + 1 < cLine:=Nat.lt_of_le_of_lt (Nat.add_le_add_left (by decide:1<=64) _) hr.units
section
variable {X:Cx}
end
section
variable {H:Hp}
theorem iN {A B:Prop}(h:B):if false=true then A else B:=by
 rw [if_neg Bool.false_ne_true]
 exact h
theorem iH {A B:Prop}(h:A):if true=true then A else B:=by
 rw [if_pos rfl]
 exact h
def aj (H H':Hp):Prop:=∀b o,H b=some o->H' b=some o
theorem aj.refl (H:Hp):aj H H:=λ_ _ h=>h
theorem aj.trans {H1 H2:Hp}(a:aj H H1)(b:aj H1 H2):aj H H2:=λc o h=>b c o (a c o h)
theorem aj.free {H':Hp}(e:aj H H'){l:Addr}(h:H' l=Option.none):H l=Option.none:=by
 cases q:H l with
 | none=>rfl
 | some o=>
   rw [e l o q] at h
   cases h
theorem aj.seq {K:PySem.W.Frag}{H':Hp}{a:Addr}{xs:List V}(e:aj H H')(h:aM K H a xs):aM K H' a xs:=by
 rcases h with (h | ⟨o,h⟩) | h
 ·exact .inl (.inl (e _ _ h))
 ·exact .inl (.inr ⟨o,e _ _ h⟩)
 ·exact .inr h
end
section
variable {X:Cx}
theorem vo:dD X (.builtin "len") (λxs H Q=>∃a kvs,xs=[V.ref a]/\H a=some (.dK kvs)/\Q (.int kvs.length) H):=by
 intro pins s σ H xs us Q I r h
 obtain ⟨a,kvs,rfl,ha,q⟩:=h
 obtain ⟨u,rfl,ru⟩:=vals1 r
 cases ru
 exact C9 I (.inl ha) λt s' I'=>⟨.int kvs.length,H,I',⟨t,rfl⟩,q⟩
end
section
variable {κ:Type} [DecidableEq κ]
theorem eV:∀{l:List κ} {k:κ},l.Nodup->¬k∈l->(l++[k]).Nodup
 | [],k,_,_=>by simp
 | a::r,k,h,hk=>by
   obtain ⟨h1,h2⟩:=nodup_cons.mp h
   show (a::(r++[k])).Nodup
   refine nodup_cons.mpr ⟨λm=>?_,eV h2 λm=>hk (mem_cons.mpr (Or.inr m))⟩
   rcases mem_append.mp m with q | q
   ·exact h1 q
   ·exact hk (mem_cons.mpr (Or.inl (mem_singleton.mp q).symm))
end
end L2
set_option maxHeartbeats 4000000
namespace L2
open PySem PySem.Spec PyProof.Rows
section
variable {X:Cx}
variable {elt target iter:Expr}{ifs:List Expr}{scope:Scope}{s:Shared}{cl:List (Str×Addr)}{fr:List Str}{ix:List Nat}{wi:TI}{g:TG}{tc:TT}{te:TE}
def aH (X:Cx)(scope:Scope)(cl:List (Str×Addr))(C:Addr)(N':List Str)(s:Shared)(H:Hp)(ex:List Addr):Cx:=
 {X with N:=N',s₀:=s,H₀:=H,env:=compEnvC scope cl C X.env,outer:=X.stack,stack:=X.stack,ex:=ex,fn:=λ_=>false,pn:=[],xe:=λ_ _=>False}
def PF (X:Cx)(ifs:List Expr)(t:TT):Prop:=
 ∀(pins:List (Addr×Obj)) (s:Shared) (σ:St) (H:Hp) (Q:Bool->Hp->Prop),Inv X pins σ H s->t σ H Q->
  wpAny (model X.prog X.w) X.A (forIn ifs true λc r=>if r=true then do let ok ← isTrue c X.env (eval c X.env);pure (ForInStep.yield ok) else pure (ForInStep.yield r)) (TP X pins σ Q) X.xe s
def Fb:TT:=λ_ H Q=>Q true H
theorem zB:PF X [] Fb:=by
 intro pins s σ H Q I h
 exact wpAny_pure ⟨H,I,h⟩
theorem Bi {c:Expr}{t:TT}(hc:PT X c t):PF X [c] t:=by
 intro pins s σ H Q I h
 show wpAny _ _ (forIn [c] true λc r=>_) _ _ s
 rw [List.forIn_cons]
 simp only [if_true,List.forIn_nil]
 refine wpAny_bind (wpAny_bind (wpAny_mono (hc pins s σ H Q I h) (λb s1 h1=>?_) λ_ _ e=>e))
 exact wpAny_pure (wpAny_pure h1)
theorem oD {prog:Program}{w:World}{A:Around}{R:Result->Shared->Prop}{pos:Pos}{it acc:Value}{env:Env}(I:Nat->Shared->Prop)
 (turn:∀n s,I n s->wpAny (model prog w) A (pyNext it) (λr s₁=>match r with
  | none=>R (.ok .next) s₁
  | some v=>wpAny (model prog w) A (letOwnedTupleGo target it v) (λ_ s₁'=>wpAny (model prog w) A (assign target env v) (λ_ s₂=>
   wpAny (model prog w) A (forIn ifs true λc r=>if r=true then do let ok ← isTrue c env (eval c env);pure (ForInStep.yield ok) else pure (ForInStep.yield r)) (λok s₃=>
    if ok=true then wpAny (model prog w) A (eval elt env) (λx s₄=>
     wpAny (model prog w) A (call (.builtin "list.append") [acc,x]) (λ_ s₅=>∃m,m < n/\I m s₅) (λ_ _=>False) s₄) (λ_ _=>False) s₃
    else∃m,m < n/\I m s₃) (λ_ _=>False) s₂) (λ_ _=>False) s₁') (λ_ _=>False) s₁) (λ_ _=>False) s)
 (n:Nat) (h:I n s):
 codeAny (model prog w) A (.compLoop (.ListComp elt [⟨target,iter,ifs,0⟩] scope pos) 0 it acc env) R s:=by
 have no:∀{α:Type} {t:Sem α} {Q:α->Shared->Prop} {E:Value->Shared->Prop} {s:Shared},wpAny (model prog w) A t Q (λ_ _=>False) s->wpAny (model prog w) A t Q E s:=λh=>wpAny_mono h (λ_ _ q=>q) λ_ _ f=>f.elim
 refine codeAny_loop rfl I (λn s hI=>?_) n h
 show wpAny _ A ((compTurn (.ListComp elt [⟨target,iter,ifs,0⟩] scope pos) 0 it acc env).onRaise (λx=>do noteFrame x env;theTreesLotGoes x)) _ _ s
 refine wpAny_noted ?_
 rw [compTurn_list]
 refine wpAny_bind (wpAny_standAt (wpAny_bind (wpAny_mono (no (turn n s hI)) (λr s₁ h₁=>?_) λ_ _ h'=>h')))
 cases r with
 | none=>exact wpAny_pure h₁
 | some v=>
   refine wpAny_bind (wpAny_mono (no h₁) (λ_ s₁' h₁'=>?_) λ_ _ h'=>h')
   refine wpAny_bind (wpAny_mono (no h₁') (λ_ s₂ h₂=>wpAny_bind (wpAny_mono (no h₂) (λok s₃ h₃=>?_) λ_ _ h'=>h')) λ_ _ h'=>h')
   cases ok with
   | false=>exact wpAny_pure ⟨rfl,h₃⟩
   | true=>
     exact wpAny_bind (wpAny_bind (wpAny_mono (no h₃) (λx s₄ h₄=>wpAny_bind (wpAny_mono (no h₄) (λ_ s₅ h₅=>wpAny_pure (wpAny_pure ⟨rfl,h₅⟩)) λ_ _ h'=>h')) λ_ _ h'=>h'))
def rX (wi:TI)(g:TG)(tc:TT)(te:TE)(z:St->St):TE:=λσ H Q=>wi σ H λJ H1=>
 ∃W:Nat->Nat->List V->St->Hp->Prop,(∃m,W 0 m [] (z σ) H1)/\∀i m ys σ' H',W i m ys σ' H'->
  ys.length<=sizeLine/\((J.stop i H'/\∀p,H' p=none->Q (.ref p) (upd H' p (.lst ys)))∨
  (J.go i H'/\∀x H2,J.yld i H' x H2->g x σ' H2 λσ2 H3=>tc σ2 H3 λb H4=>
    if b=true then te σ2 H4 λv H5=>∃m',m' < m/\W (i + 1) m' (ys++[v]) σ2 H5 else∃m',m' < m/\W (i + 1) m' ys σ2 H4))
structure cY (X:Cx) (scope:Scope) (cl:List (Str×Addr)) (own fr:List Str) (ix:List Nat):Prop where
 clos:closureFor scope X.env=pure cl
 cells:∀x c,cl.lookup x=some c->X.env.cells.lookup x=some c
 kind:scope.kind= .function
 ncell:∀y∈scope.names,y.2≠ .cell
 names:∀y∈scope.names,y.2= .local->scope.names.lookup y.1=some .local
 has:∀x,scope.names.lookup x=some .free->∃c,cl.lookup x=some c
 frees:∀x∈fr,scope.names.lookup x=some .free
 len:fr.length=ix.length
 at_:∀(k:Nat) (i:Nat) (x:Str),ix[k]?=some i->fr[k]?=some x->X.N[i]?=some x/\X.env.kindOf x=some .cell
theorem eR {env:Env}:∀{names:List (Str×NameKind)} {x:Str} {k:NameKind},
 (names.map λ(n,k)=>if (k==NameKind.free&&env.scope.kind== .function&&env.kindOf n==some .cell) then (n,NameKind.cell) else (n,k)).lookup x=some k->
 ∃k',names.lookup x=some k'/\(k=k'∨(k'= .free/\k= .cell))
 | [],_,_,h=>by simp at h
 | (n,k)::r,x,kk,h=>by
   have ih:=@eR env r x kk
   replace h:List.lookup x ((if (k==NameKind.free&&env.scope.kind== .function&&env.kindOf n==some .cell)=true then (n,NameKind.cell) else (n,k))::_)=some kk:=h
   by_cases hc:(k==NameKind.free&&env.scope.kind== .function&&env.kindOf n==some .cell)=true
   ·rw [if_pos hc] at h
    cases hx:x==n with
    | true=>
      simp only [lookup_cons,hx,Option.some.injEq] at h ⊢
      have hk:k= .free:=by
       simp only [Bool.and_eq_true] at hc
       exact eq_of_beq hc.1.1
      exact ⟨k,rfl,.inr ⟨hk,h.symm⟩⟩
    | false=>
      simp only [lookup_cons,hx] at h ⊢
      exact ih h
   ·rw [if_neg hc] at h
    cases hx:x==n with
    | true=>
      simp only [lookup_cons,hx,Option.some.injEq] at h ⊢
      exact ⟨k,rfl,.inl h.symm⟩
    | false=>
      simp only [lookup_cons,hx] at h ⊢
      exact ih h
theorem j9 {env:Env}(hf:env.scope.kind= .function):∀{names:List (Str×NameKind)} {x:Str},names.lookup x=some .free->env.kindOf x=some .cell->
 (names.map λ(n,k)=>if (k==NameKind.free&&env.scope.kind== .function&&env.kindOf n==some .cell) then (n,NameKind.cell) else (n,k)).lookup x=some .cell
 | [],_,h,_=>by simp at h
 | (n,k)::r,x,h,hk=>by
   have ih:=@j9 env hf r x
   show List.lookup x ((if (k==NameKind.free&&env.scope.kind== .function&&env.kindOf n==some .cell)=true then (n,NameKind.cell) else (n,k))::_)=_
   cases hx:x==n with
   | true=>
     simp only [lookup_cons,hx,Option.some.injEq] at h
     have e:x=n:=eq_of_beq hx
     subst e
     subst h
     rw [if_pos (by rw [hf,hk];rfl)]
     simp [lookup_cons]
   | false=>
     simp only [lookup_cons,hx] at h
     split
     ·simp only [lookup_cons,hx];exact ih h hk
     ·simp only [lookup_cons,hx];exact ih h hk
def eQ (own:List Str)(ix:List Nat)(σ:St):St:=List.replicate own.length none++ix.map λi=>(σ[i]?).join
structure Off (X:Cx) (pins:List (Addr×Obj)) (H:Hp) (s:Shared) (C:Addr):Prop where
 ns:∃m,s.heap.Ns C m
 free:H C=none
 ne:C≠X.env.locals
 young:X.s₀.heap.objs.size<=C
 cell:∀x c,X.env.cells.lookup x=some c->c≠C
 pin:∀p∈X.pn++pins,p.1≠C
theorem m4 {pos:Pos}{own:List Str}
 {use:Option (Value->Sem Unit)} {Qf:Value->Shared->Prop} {pins:List (Addr×Obj)} {σ:St} {H:Hp} {Q:VK}
 (hc:X.calm=true) (S:cY X scope cl own fr ix) (hi:PI X target iter wi)
 (hb:∀(C:Addr) (s:Shared) (H:Hp) (ex:List Addr),PG (aH X scope cl C (own++fr) s H ex) target g/\PF (aH X scope cl C (own++fr) s H ex) ifs tc/\PE (aH X scope cl C (own++fr) s H ex) elt te)
 (hs:∀x,foldedSetIterable iter X.env x=pure x) (I:Inv X pins σ H s) (h:rX wi g tc te (eQ own ix) σ H Q)
 (hfin:∀(D C:Addr) (H6:Hp) (s6:Shared),Inv X pins σ H6 s6->Off X pins H6 s6 C->Q (.ref D) H6->compPost (model X.prog X.w) X.A X.xe use Qf (.ref D) C (.ok .next) s6):
 wpAny (model X.prog X.w) X.A (comprehension (.ListComp elt [⟨target,iter,ifs,0⟩] scope pos) scope X.env (firstIterPos [⟨target,iter,ifs,0⟩] pos) (newList []) false (eval iter X.env) use) Qf X.xe s:=by
 refine wpAny_comprehension_free (use:=use) rfl hs S.clos S.kind S.names ?_
 refine aP (hi pins s σ H _ I h) λv s1 h1=>aP h1 λitv s2 h2=>?_
 obtain ⟨it,fp,tn,J,H2,rfl,I2,T,st2,f2,W,⟨m0,w0⟩,turn⟩:=h2
 refine wpAny_newObj_type (wpAny_newFunctionEnv S.ncell (by intro y hy;simp at hy) (λh₁ hns₁ hsb₁=>?_) S.kind)
 dsimp only at hns₁ hsb₁ ⊢
 generalize hH3:s2.heap.push {cls:=.type "list",dict:=none,data:=.seq ([]:List Value).toArray}=h3 at hns₁ hsb₁ ⊢
 have hC:h3.objs.size=s2.heap.objs.size + 1:=by rw [← hH3,Heap.size_push]
 have to3:∀b o,s2.heap.get? b=some o->h3.get? b=some o:=λb o e=>by rw [← hH3];exact Heap.get?_push_of_some _ e
 have getD3:h3.get? s2.heap.objs.size=some {cls:=.type "list",data:=.seq ([]:List Value).toArray}:=by rw [← hH3];exact Heap.get?_push_size _ rfl
 have to1:∀b o,h3.get? b=some o->h₁.get? b=some o:=λb o e=>hsb₁.extBut b o (Nat.ne_of_lt (Heap.lt_size e)) (Heap.get?_push_of_some _ e)
 have frD:∀{b:Addr},b∈fp->b≠s2.heap.objs.size:=λ{b} hb z=>by
  obtain ⟨o,e,_⟩:=T.obj 0 _ st2 b hb
  exact absurd (Heap.lt_size e) (by rw [z];exact Nat.lt_irrefl _)
 have frC:∀{b:Addr},b∈fp->b≠h3.objs.size:=λ{b} hb z=>by
  obtain ⟨o,e,_⟩:=T.obj 0 _ st2 b hb
  exact absurd (Heap.lt_size e) (by rw [z,hC];exact Nat.not_lt.mpr (Nat.le_succ _))
 have HD2:H2 s2.heap.objs.size=none:=I2.hok.fresh (Nat.le_refl _)
 -- the block's context
 let X':Cx:=aH X scope cl h3.objs.size (own++fr) {s2 with heap:=h3} H2 (s2.heap.objs.size::fp)
 have ok':X'.Ok:=by
  refine ⟨I2.ok.mod,S.kind,I2.ok.glob,I2.ok.blt,Nat.le_refl _,λx y c e1 e2=>I2.ok.inj x y c (S.cells x c e1) (S.cells y c e2),λx hx=>?_,λx c z=>?_,I2.ok.hd,I2.ok.frames,.inl rfl,λb hb=>?_,λb o e=>?_,?_,λb o e hb=>?_,λb hb z=>?_,?_,I2.qv⟩
  ·have key:scope.names.lookup x=some .free:=by
    have hx:(relabel scope X.env).names.lookup x=some .cell∨(relabel scope X.env).names.lookup x=some .free:=hx
    rcases hx with hx | hx
    ·obtain ⟨k',e,z⟩:=eR hx
     rcases z with z | z
     ·subst z;exact absurd rfl (S.ncell _ (PySem.mem_of_lookup e))
     ·rw [e,z.1]
    ·obtain ⟨k',e,z⟩:=eR hx
     rcases z with z | z
     ·subst z;exact e
     ·cases z.2
   exact S.has x key
  ·cases z
  ·rcases mem_cons.mp hb with rfl | hb
   ·refine ⟨by rw [show X'.env.locals=h3.objs.size from rfl,hC];exact Nat.ne_of_lt (Nat.lt_succ_self _),λx c e z=>?_⟩
    obtain ⟨v',q⟩:=I2.cell x c (S.cells x c e)
    exact absurd q.lt (by rw [z];exact Nat.lt_irrefl _)
   ·exact ⟨frC hb,λx c e=>(f2 b hb).2.2.2.2.1 x c (S.cells x c e)⟩
  ·obtain ⟨e1,e2⟩:=I2.bs b o e
   exact ⟨to3 b o e1,e2⟩
  ·show X.base.objs.size<=h3.objs.size
   have:=I2.ok.bsz;have:=I2.sz
   omega
  ·rcases mem_cons.mp hb with rfl | hb
   ·exact absurd (Heap.lt_size (I2.bs _ o e).1) (Nat.lt_irrefl _)
   ·rcases (f2 b hb).2.2.2.1 with z | z
    ·exact I2.ok.noex b o e z
    ·exact absurd (Nat.lt_of_lt_of_le (Nat.lt_of_lt_of_le (Heap.lt_size e) I2.ok.bsz) z) (Nat.lt_irrefl _)
  ·replace z:b∈i7 X.stack:=z
   rcases mem_cons.mp hb with rfl | hb
   ·obtain ⟨_,o,ho,_⟩:=I2.stack.mem z
    exact absurd (Heap.lt_size ho) (Nat.lt_irrefl _)
   ·rcases mem_cons.mp (I2.pJ b z) with q | q
    ·exact (f2 b hb).2.1 q
    ·exact (f2 b hb).2.2.1 q
  ·exact I2.stack.of_keeps λb o e _=>⟨o,to3 b o e,rfl⟩
 have I4:Inv X' [] (eQ own ix σ) H2 {s2 with heap:=h₁,toks:=s2.toks + ([]:List (Str×Value)).length}:=by
  refine ⟨ok',rfl,I2.bare,Un.kept to1,⟨_,hns₁,λi x v e1 e2 e3=>?_⟩,λx c e=>?_,I2.hok.fresh (by show s2.heap.objs.size<=h3.objs.size;rw [hC];exact Nat.le_succ _),λx c e=>I2.freeC x c (S.cells x c e),λp hp=>absurd (show p∈([]:List (Addr×Obj)) from hp) (by simp),I2.hok.kept λb o e=>to1 b o (to3 b o e),?_⟩
  ·replace e1:(own++fr)[i]?=some x:=e1
   unfold eQ at e2
   by_cases hlt:i < own.length
   ·rw [getElem?_append_left (by simpa using hlt),getElem?_replicate] at e2
    split at e2<;>cases e2
   ·rw [getElem?_append_right (by simpa using hlt)] at e1 e2
    rw [length_replicate,getElem?_map] at e2
    cases ek:ix[i - own.length]? with
    | none=>rw [ek] at e2;cases e2
    | some j=>
      rw [ek] at e2
      obtain ⟨n1,n2⟩:=S.at_ _ j x ek e1
      have e2':σ[j]?=some (some v):=by
       have q:(σ[j]?).join=some v:=Option.some.inj e2
       cases es:σ[j]? with
       | none=>rw [es] at q;cases q
       | some o=>rw [es] at q;exact congrArg some q
      obtain ⟨m,hn,hl⟩:=I2.loc
      obtain ⟨u,r,l⟩:=hl j x v n1 e2' (.inr (.inl n2))
      refine ⟨u,r,?_⟩
      have hfr:scope.names.lookup x=some .free:=S.frees x (mem_of_getElem? e1)
      rcases l with ⟨k,_⟩ | ⟨_,c,hcl,z⟩
      ·rw [n2] at k;cases k
      ·obtain ⟨c',hc'⟩:=S.has x hfr
       have q:=S.cells x c' hc'
       rw [hcl] at q
       cases q
       obtain ⟨oc,ho,hd⟩:=z
       exact .inr ⟨.inl (j9 I2.ok.kind hfr n2),c,hc',oc,to1 _ _ (to3 _ _ ho),hd⟩
  ·obtain ⟨v',oc,ho,hd⟩:=I2.cell x c (S.cells x c e)
   exact ⟨v',oc,to1 _ _ (to3 _ _ ho),hd⟩
  ·show (eQ own ix σ).length=(own++fr).length
   unfold eQ
   rw [length_append,length_append,length_replicate,length_map,S.len]
 obtain ⟨hg,hf,he⟩:=hb h3.objs.size {s2 with heap:=h3} H2 (s2.heap.objs.size::fp)
 have hg:PG X' target g:=hg
 have hf:PF X' ifs tc:=hf
 have he:PE X' elt te:=he
 have locX:X'.env.locals=h3.objs.size:=rfl
 -- D's place
 have Dne:s2.heap.objs.size≠X'.env.locals:=by rw [locX,hC];exact Nat.ne_of_lt (Nat.lt_succ_self _)
 have Dfs:s2.heap.objs.size∉X'.fs:=ok'.exfs _ (mem_cons_self ..)
 have Dcl:∀x c,X'.env.cells.lookup x=some c->c≠s2.heap.objs.size:=λx c e=>(ok'.exf _ (mem_cons_self ..)).2 x c e
 have fpX:∀{pl:List (Addr×Obj)} {H':Hp},(∀p∈pl,p.1=s2.heap.objs.size)->(∀b∈fp,H' b=none)->∀b∈fp,iJ X' pl H' b:=λhp hn b hb=>
  ⟨hn b hb,frC hb,ok'.exfs b (mem_cons_of_mem _ hb),.inl (mem_cons_of_mem _ hb),(ok'.exf b (mem_cons_of_mem _ hb)).2,λp q=>by
   rw [hp p (by simpa [show X'.pn=[] from rfl] using q)];exact Ne.symm (frD hb)⟩
 have pinD:∀{σ':St} {H':Hp} {s':Shared} {o:Obj},Inv X' [] σ' H' s'->s'.heap.get? s2.heap.objs.size=some o->H' s2.heap.objs.size=none->(∀v,o.data≠ .cell v)->Inv X' [(s2.heap.objs.size,o)] σ' H' s':=λI e n d=>
  I.gZ λp hp=>by
    obtain rfl:=mem_singleton.mp hp
    exact ⟨e,n,Dne,Dfs,d⟩
 have loop:codeAny (model X.prog X.w) X.A (.compLoop (.ListComp elt [⟨target,iter,ifs,0⟩] scope pos) 0 (.ref it) (.ref s2.heap.objs.size) X'.env)
  (compPost (model X.prog X.w) X.A X.xe use Qf (.ref s2.heap.objs.size) h3.objs.size) {s2 with heap:=h₁,toks:=s2.toks + ([]:List (Str×Value)).length}:=by
  refine oD (λn s'=>∃i ys its k σ' H',Inv X' [] σ' H' s'/\tn i s'.heap/\(∀b∈fp,H' b=none)/\H' s2.heap.objs.size=none/\aK ys its/\s'.heap.get? s2.heap.objs.size=some {cls:=.type "list",data:=.seq its.toArray k}/\W i n ys σ' H')
   ?_ m0 ⟨0,[],[],0,_,H2,I4,T.keep 0 _ _ st2 λb _ o e=>to1 b o (to3 b o e),λb hb'=>(f2 b hb').1,HD2,.nil,to1 _ _ getD3,w0⟩
  rintro n s5 ⟨i,ys,its,k,σ5,H5,I5,st5,fr5,hD5,vs5,get5,w5⟩
  obtain ⟨hlen,alt⟩:=turn i n ys σ5 H5 w5
  have P5:=pinD I5 get5 hD5 (λv z=>by cases z)
  have okp:∀p∈[(s2.heap.objs.size,({cls:=.type "list",data:=.seq its.toArray k}:Obj))],p.1=s2.heap.objs.size:=λp hp=>by
   rw [mem_singleton.mp hp]
  rcases alt with ⟨stop,q⟩ | ⟨go,step⟩
  ·refine aP (T.done X' rfl rfl rfl hc i _ s5 σ5 H5 _ P5 (fpX okp fr5) st5 stop) λr s6 ⟨hr,I6⟩=>?_
   subst hr
   obtain ⟨m6,hn6,_⟩:=I6.loc
   obtain ⟨get6,_,_,_,_⟩:=I6.pin (s2.heap.objs.size,({cls:=.type "list",data:=.seq its.toArray k}:Obj)) (mem_append_right _ (mem_singleton.mpr rfl))
   have toh:∀b o,b≠h3.objs.size->s6.heap.get? b=some o->s6.heap.get? b=some o:=λb o hb e=>e
   have exn:∀{b:Addr} {o:Obj},s2.heap.get? b=some o->b∉fp->b∉X'.ex:=λ{b o} e hb z=>by
    rcases mem_cons.mp z with z | z
    ·exact absurd (Heap.lt_size e) (by rw [z];exact Nat.lt_irrefl _)
    ·exact hb z
   have neC:∀{b:Addr} {o:Obj},s2.heap.get? b=some o->b≠h3.objs.size:=λ{b o} e z=>by
    have q1:=Heap.lt_size e
    rw [z,hC] at q1
    exact absurd q1 (Nat.not_lt.mpr (Nat.le_succ _))
   have neD:∀{b:Addr} {o:Obj},s2.heap.get? b=some o->b≠s2.heap.objs.size:=λ{b o} e=>Nat.ne_of_lt (Heap.lt_size e)
   have neD':∀{b:Addr} {o:HO},H2 b=some o->b≠s2.heap.objs.size:=λ{b o} e=>cD e HD2
   have U:Un (i7 X.stack) fp H2 (upd H5 s2.heap.objs.size (.lst ys)) s2.heap s6.heap:=by
    refine ⟨λb o e n hb hx=>?_,λb o e n hb hx=>?_,λb o e n hx=>?_,λb o e hx=>?_,λb xs e=>?_,λb o u e=>?_,λb ps e=>?_⟩
    ·exact toh b o (neC e) (I6.base.keep b o (to3 b o e) n hb (exn e hx))
    ·obtain ⟨sl,q1⟩:=I6.base.slot b o (to3 b o e) n hb (exn e hx)
     exact ⟨sl,toh b _ (neC e) q1⟩
    ·rw [aA (neD e)]
     exact I6.base.free b o (to3 b o e) n (exn e hx)
    ·obtain ⟨o',q1⟩:=I6.base.there b o (to3 b o e) (exn e hx)
     exact ⟨o',toh b _ (neC e) q1⟩
    ·rw [aA (neD' e)];exact I6.base.tups b xs e
    ·rw [aA (neD' e)];exact I6.base.frzs b o u e
    ·rw [aA (neD' e)];exact I6.base.tbls b ps e
   have HC:H5 h3.objs.size=none:=I6.free
   have hok:c9 X.prog X.w (upd H5 s2.heap.objs.size (.lst ys)) s6.heap:=λb u e=>by
    by_cases hbD:b=s2.heap.objs.size
    ·subst hbD
     rw [au] at e
     cases e
     exact ⟨hlen,its,k,vs5,toh _ _ (by rw [hC];exact Nat.ne_of_lt (Nat.lt_succ_self _)) get6⟩
    ·rw [aA hbD] at e
     refine (I6.hok b u e).jU (λc o hco q1=>toh c o (λz=>?_) q1) (λc q1=>by rw [aA (cD q1 hD5)];exact q1) λc xs q1=>by rw [aA (cD q1 hD5)];exact q1
     rcases hco with hco | hco
     ·rw [← hco,z,HC] at e;cases e
     ·rw [z,HC] at hco;cases hco
   have fin:=I2.Cw (s':=s6) (ch:=fp) I6.os U hok I6.bare λb hb'=>⟨(f2 b hb').2.2.2.1,(f2 b hb').2.1,(f2 b hb').2.2.2.2.1,(f2 b hb').2.2.2.2.2⟩
   refine hfin _ h3.objs.size _ s6 fin ⟨⟨m6,hn6⟩,?_,?_,?_,λx c e z=>?_,λp hp z=>?_⟩ (q _ hD5)
   ·rw [aA (by rw [hC];exact Nat.ne_of_gt (Nat.lt_succ_self _))];exact HC
   ·intro z
    have:=I2.lt
    rw [← z,hC] at this
    exact absurd this (Nat.not_lt.mpr (Nat.le_succ _))
   ·rw [hC];exact Nat.le_trans I2.sz (Nat.le_succ _)
   ·obtain ⟨v',q1⟩:=I2.cell x c e
    have:=q1.lt
    rw [z,hC] at this
    exact absurd this (Nat.not_lt.mpr (Nat.le_succ _))
   ·have:=Heap.lt_size (I2.pin p hp).1
    rw [z,hC] at this
    exact absurd this (Nat.not_lt.mpr (Nat.le_succ _))
  ·refine aP (T.item X' rfl rfl rfl hc i _ s5 σ5 H5 _ P5 (fpX okp fr5) st5 go) λr s6 ⟨u,hr,h6⟩=>?_
   subst hr
   refine aP h6 λ_ s7 ⟨x,H7,I7,r7,y7,st7,fr7⟩=>?_
   have I7':=I7.pinned (fpX okp fr7) (T.obj _ _ st7)
   refine aP (hg _ s7 σ5 H7 x u _ I7' r7 (step x H7 y7)) λ_ s8 ⟨σ8,H8,I8,q8⟩=>?_
   refine aP (hf _ s8 σ8 H8 _ I8 q8) λb s9 ⟨H9,I9,q9⟩=>?_
   have out:∀{σ':St} {H':Hp} {s':Shared},Inv X' ([(s2.heap.objs.size,({cls:=.type "list",data:=.seq its.toArray k}:Obj))]++jb fp s7.heap) σ' H' s'->
    tn (i + 1) s'.heap/\(∀b∈fp,H' b=none)/\H' s2.heap.objs.size=none/\s'.heap.get? s2.heap.objs.size=some {cls:=.type "list",data:=.seq its.toArray k}:=λI'=>by
    refine ⟨T.keep _ _ _ st7 λb hb' o e=>(I'.pin (b,o) (mem_append_right _ (mem_append_right _ (gW hb' e)))).1,λb hb'=>?_,(I'.pin (s2.heap.objs.size,({cls:=.type "list",data:=.seq its.toArray k}:Obj)) (mem_append_right _ (mem_append_left _ (mem_singleton.mpr rfl)))).2.1,(I'.pin (s2.heap.objs.size,({cls:=.type "list",data:=.seq its.toArray k}:Obj)) (mem_append_right _ (mem_append_left _ (mem_singleton.mpr rfl)))).1⟩
    obtain ⟨o,e,d⟩:=T.obj _ _ st7 b hb'
    exact (I'.pin (b,o) (mem_append_right _ (mem_append_right _ (gW hb' e)))).2.1
   cases b with
   | false=>
     rw [if_neg Bool.false_ne_true] at q9 ⊢
     obtain ⟨m',hm,w'⟩:=q9
     obtain ⟨o1,o2,o3,o4⟩:=out I9
     exact ⟨m',hm,i + 1,ys,its,k,σ8,H9,I9.gZ (λ_ z=>nomatch z),o1,o2,o3,vs5,o4,w'⟩
   | true=>
     rw [if_pos rfl] at q9 ⊢
     refine aP (he _ s9 σ8 H9 _ I9 q9) λuv s10 ⟨v10,H10,I10,r10,q10⟩=>?_
     obtain ⟨m',hm,w'⟩:=q10
     obtain ⟨o1,o2,o3,o4⟩:=out I10
     refine wpAny_list_append_plain ⟨k,o4⟩ (λh' hpl hsb=>?_) (by
      have:=vs5.length
      rw [size_toArray,← this];exact hlen)
     obtain ⟨k',hk'⟩:=hpl
     have I11:Inv X' (jb fp s7.heap) σ8 H10 s10:=I10.gZ λp hp=>I10.pin p (mem_append_right _ (mem_append_right _ hp))
     have I12:Inv X' [] σ8 H10 {s10 with heap:=h'}:=(I10.gZ (λ_ z=>nomatch z):Inv X' [] σ8 H10 s10).turned (t':=s10.toks) (λb o hb' e=>hsb.extBut b o hb' e) o3 Dne (.inl (mem_cons_self ..)) Dcl (λp hp=>absurd (show p∈([]:List (Addr×Obj)) from hp) (by simp))
     refine ⟨m',hm,i + 1,ys++[v10],its++[uv],k',σ8,H10,I12,T.keep _ _ _ o1 λb hb' o e=>hsb.extBut b o (frD hb') e,o2,o3,vs5.append (.cons r10 .nil),?_,w'⟩
     show h'.get? _=_
     rw [hk']
     simp
 exact codeAny_compStart_list loop (T.self X.A 0 _ _ _ (T.keep 0 _ _ st2 λb _ o e=>to1 b o (to3 b o e)) loop)
theorem Off.gone {pins:List (Addr×Obj)}{σ:St}{H:Hp}{C:Addr}{h':Heap}(o:Off X pins H s C)(I:Inv X pins σ H s)(hsb:Heap.SameBut C s.heap h'):Inv X pins σ H {s with heap:=h'}:=
 I.turned (t':=s.toks) (λb u hb e=>hsb.extBut b u hb e) o.free o.ne (.inr o.young) o.cell o.pin
theorem qC {pos:Pos}{own:List Str}
 (hc:X.calm=true) (S:cY X scope cl own fr ix) (hi:PI X target iter wi)
 (hb:∀(C:Addr) (s:Shared) (H:Hp) (ex:List Addr),PG (aH X scope cl C (own++fr) s H ex) target g/\PF (aH X scope cl C (own++fr) s H ex) ifs tc/\PE (aH X scope cl C (own++fr) s H ex) elt te)
 (hs:∀x,foldedSetIterable iter X.env x=pure x:=by intro _;rfl):
 PE X (.ListComp elt [⟨target,iter,ifs,0⟩] scope pos) (rX wi g tc te (eQ own ix)):=by
 intro pins s σ H Q I h
 rw [eval_ListComp]
 refine m4 (use:=none) hc S hi hb hs I h λD C H6 s6 I6 o6 q=>?_
 obtain ⟨m,hn⟩:=o6.ns
 exact ⟨m,hn,λh' hsb=>⟨.ref D,H6,o6.gone I6 hsb,rfl,q⟩⟩
theorem je {i:Nat}{y:Str}{py spos:Pos}{pos:Pos}{own:List Str}
 (hsw:swapsWith (.ListComp elt [⟨target,iter,ifs,0⟩] scope pos) (some (.Name y py)) spos.line X.env=pure true)
 (hN:X.N.Nodup) (hi':X.N[i]?=some y) (hx:Loc X.env.scope y)
 (hc:X.calm=true) (S:cY X scope cl own fr ix) (hi:PI X target iter wi)
 (hb:∀(C:Addr) (s:Shared) (H:Hp) (ex:List Addr),PG (aH X scope cl C (own++fr) s H ex) target g/\PF (aH X scope cl C (own++fr) s H ex) ifs tc/\PE (aH X scope cl C (own++fr) s H ex) elt te)
 (hs:∀x,foldedSetIterable iter X.env x=pure x:=by intro _;rfl)
 (hf:X.fn y=true∨X.env.scope.names.lookup y=some .local:=by first | exact .inl rfl | exact .inr rfl | assumption):
 PS X (.Assign [.Name y py] (.ListComp elt [⟨target,iter,ifs,0⟩] scope pos) spos) (xf (rX wi g tc te (eQ own ix)) (nP i)):=by
 intro pins s σ H D I h
 rw [exec_Assign_Name_used _ _ _ _ hsw]
 refine wpAny_bind (wpAny_standAt (wpAny_bind ?_))
 show wpAny _ _ (do let _ ← comprehension (.ListComp elt [⟨target,iter,ifs,0⟩] scope pos) scope X.env _ (newList []) false (eval iter X.env) (some (assign (.Name y py) X.env))) _ _ s
 refine wpAny_bind (wpAny_mono (m4 (use:=some (assign (.Name y py) X.env)) (Qf:=λ_ s'=>SP X pins D .next s') hc S hi hb hs I h λA C H6 s6 I6 o6 q=>?_) (λ_ s' hq=>wpAny_pure (wpAny_pure hq)) λ_ _ e=>e)
 show wpAny _ _ (assign (.Name y py) X.env (.ref A)) _ _ _
 refine wpAny_assign_Name (nh I6 hN hi' hx (v:=.ref A) rfl (λs7 I7 hw=>?_) hf)
 obtain ⟨c,hsb7,hcc⟩:=hw
 have neC:C≠c:=by
  rcases hcc with rfl | hcc
  ·exact o6.ne
  ·exact Ne.symm (o6.cell y c hcc)
 obtain ⟨m,hn⟩:=o6.ns
 have o7:Off X pins H6 s7 C:=⟨⟨m,hn.sameBut hsb7 neC⟩,o6.free,o6.ne,o6.young,o6.cell,o6.pin⟩
 exact ⟨m,hn.sameBut hsb7 neC,λh' hsb=>⟨_,H6,o7.gone I7 hsb,q⟩⟩
end
end L2
namespace Fc
open PySem PySem.Spec L2
open PyProof.Rows hiding St
section
variable {X:Cx}
variable {e:Expr}{σ:St}{H:Hp}{t:TT}{Q:Bool->Hp->Prop}
def dI (X:Cx)(e:Expr):TE:=λσ H Q=>∀(pins:List (Addr×Obj)) (s:Shared),Inv X pins σ H s->wpAny (model X.prog X.w) X.A (eval e X.env) (EP X pins σ Q) X.xe s
def vT (X:Cx)(e:Expr):TT:=λσ H Q=>∀(pins:List (Addr×Obj)) (s:Shared),Inv X pins σ H s->wpAny (model X.prog X.w) X.A (isTrue e X.env (eval e X.env)) (TP X pins σ Q) X.xe s
def vI (X:Cx)(e:Expr):TT:=λσ H Q=>∀(whole:Sem Value) (pins:List (Addr×Obj)) (s:Shared),Inv X pins σ H s->wpAny (model X.prog X.w) X.A (isTrue e X.env whole) (TP X pins σ Q) X.xe s
def iy (X:Cx)(e:Expr):TG:=λv σ H Q=>∀(pins:List (Addr×Obj)) (s:Shared) (u:Value),Inv X pins σ H s->RelV v u->wpAny (model X.prog X.w) X.A (assign e X.env u) (λ_ s'=>∃σ' H',Inv X pins σ' H' s'/\Q σ' H') X.xe s
def wm (X:Cx)(st:Stmt):TS:=λD σ H=>∀(pins:List (Addr×Obj)) (s:Shared),Inv X pins σ H s->wpAny (model X.prog X.w) X.A (exec st X.env) (SP X pins D) X.xe s
def lN (X:Cx)(st:List Stmt):TS:=λD σ H=>∀(pins:List (Addr×Obj)) (s:Shared),Inv X pins σ H s->wpAny (model X.prog X.w) X.A (execs st X.env) (SP X pins D) X.xe s
def rB (X:Cx)(es:List Expr):TA:=λσ H Q=>∀(pos:Pos) (pins:List (Addr×Obj)) (s:Shared),Inv X pins σ H s->wpAny (model X.prog X.w) X.A (spliced (backTo pos (starEach es X.env))) (AP X pins σ Q) X.xe s
def iP (X:Cx)(ifs:List Expr):TT:=λσ H Q=>∀(pins:List (Addr×Obj)) (s:Shared),Inv X pins σ H s->
 wpAny (model X.prog X.w) X.A (forIn ifs true λc r=>if r=true then do let ok ← isTrue c X.env (eval c X.env);pure (ForInStep.yield ok) else pure (ForInStep.yield r)) (TP X pins σ Q) X.xe s
theorem aE:PE X e (dI X e):=λpins s _ _ _ I h=>h pins s I
theorem i5:PT X e (vT X e):=λpins s _ _ _ I h=>h pins s I
theorem xT:PW X e (vI X e):=λwh pins s _ _ _ I h=>h wh pins s I
theorem xY:PG X e (iy X e):=λpins s _ _ _ u _ I r h=>h pins s u I r
theorem xv {e:Stmt}:PS X e (wm X e):=λpins s _ _ _ I h=>h pins s I
theorem fB {e:List Stmt}:hZ X e (lN X e):=λpins s _ _ _ I h=>h pins s I
theorem jY {e:List Expr}:PA X e (rB X e):=λpos pins s _ _ _ I h=>h pos pins s I
theorem eS {t:TE}(h:PE X e t){Q:VK}(q:t σ H Q):dI X e σ H Q:=λpins s I=>h pins s σ H Q I q
theorem tS (h:PT X e t)(q:t σ H Q):vT X e σ H Q:=λpins s I=>h pins s σ H Q I q
theorem wS (h:PW X e t)(q:t σ H Q):vI X e σ H Q:=λwh pins s I=>h wh pins s σ H Q I q
theorem gS {t:TG}(h:PG X e t){v:V}{Q:St->Hp->Prop}(q:t v σ H Q):iy X e v σ H Q:=λpins s u I r=>h pins s σ H v u Q I r q
theorem sS {e:Stmt}{t:TS}(h:PS X e t){D:Ends}(q:t D σ H):wm X e D σ H:=λpins s I=>h pins s σ H D I q
theorem xP {e:List Stmt}{t:TS}(h:hZ X e t){D:Ends}(q:t D σ H):lN X e D σ H:=λpins s I=>h pins s σ H D I q
theorem aS {e:List Expr}{t:TA}(h:PA X e t){Q:List V->Hp->Prop}(q:t σ H Q):rB X e σ H Q:=λpos pins s I=>h pos pins s σ H Q I q
theorem fS {e:List Expr}(h:PF X e t)(q:t σ H Q):iP X e σ H Q:=λpins s I=>h pins s σ H Q I q
end
section
variable {H R:Hp}{p:Addr}{α:Type}
theorem aj.fresh (h:H p=none)(o:HO):aj H (upd H p o):=λb u q=>by rw [aA (cD q h)];exact q
structure aD (α:Type) where
 R:PySem.W.Frag->Hp->V->α->Prop
 mono:∀{K:PySem.W.Frag} {H H':Hp} {v:V} {x:α},aj H H'->R K H v x->R K H' v x
def ae:aD Int:=⟨λ_ _ v x=>v= .int x,λ_ h=>h⟩
def aW:aD Bool:=⟨λ_ _ v x=>v= .bl x,λ_ h=>h⟩
theorem Paired.map {β:Type}{F G:α->β->Prop}(f:∀a b,F a b->G a b):∀{l:List α} {m:List β},PySem.Paired F l m->PySem.Paired G l m
 | _,_,.nil=>.nil
 | _,_,.cons h t=>.cons (f _ _ h) (Paired.map f t)
def af (r:aD α):aD (List α):=⟨λK H v xs=>∃a vs,v= .ref a/\H a=some (.lst vs)/\PySem.Paired (r.R K H) vs xs/\xs.length<=sizeLine,
 λs ⟨a,vs,e,q,p,z⟩=>⟨a,vs,e,s _ _ q,Paired.map (λ_ _=>r.mono s) p,z⟩⟩
def ik:aD (List Int):=⟨λK H v xs=>∃a,v= .ref a/\aM K H a (xs.map V.int)/\xs.length<=63,λs ⟨a,e,q,z⟩=>⟨a,e,s.seq q,z⟩⟩
def av {β:Type}(r:aD α)(r':aD β):aD (α×β):=⟨λK H v x=>∃a v1 v2,v= .ref a/\H a=some (.tup [v1,v2])/\r.R K H v1 x.1/\r'.R K H v2 x.2,
 λs ⟨a,v1,v2,e,q,h1,h2⟩=>⟨a,v1,v2,e,s _ _ q,r.mono s h1,r'.mono s h2⟩⟩
abbrev Row:=Int×Int×Int×Int
def ax:aD Row:=⟨λK H v x=>∃a,v= .ref a/\H a=some (.tup [.int x.1,.int x.2.1,.int x.2.2.1,.int x.2.2.2]),λs ⟨a,e,q⟩=>⟨a,e,s _ _ q⟩⟩
abbrev aw:=List Int×List Row
def bO:aD aw:=av (af ae) (af ax)
structure Ext (H R H' R':Hp):Prop where
 h:aj H H'
 r:aj R R'
 s:aj R' H'
 old:∀b,H b≠none->R' b=R b
theorem Ext.refl (s:aj R H):Ext H R H R:=⟨aj.refl _,aj.refl _,s,λ_ _=>rfl⟩
theorem aj.some {H':Hp}(s:aj H H'){b:Addr}(h:H b≠none):H' b≠none:=by
 cases q:H b with
 | none=>exact absurd q h
 | some o=>rw [s b o q];exact Option.some_ne_none o
theorem Ext.trans {H1 R1 H2 R2:Hp}(a:Ext H R H1 R1)(b:Ext H1 R1 H2 R2):Ext H R H2 R2:=
 ⟨a.h.trans b.h,a.r.trans b.r,b.s,λc hc=>(b.old c (aj.some a.h hc)).trans (a.old c hc)⟩
theorem Ext.fresh (s:aj R H)(h:H p=none)(o:HO):Ext H R (upd H p o) (upd R p o):=
 ⟨aj.fresh h o,aj.fresh (s.free h) o,λb u q=>by
  by_cases e:b=p
  ·subst e;rw [au] at q ⊢;exact q
  ·rw [aA e] at q ⊢;exact s b u q,λb hb=>aA λe=>hb (e▸h)⟩
theorem Ext.cn (s:aj R H)(h:H p=none)(o:HO):Ext H R (upd H p o) R:=
 ⟨aj.fresh h o,aj.refl _,s.trans (aj.fresh h o),λ_ _=>rfl⟩
structure iA:Type 1 where
 fp:List Addr
 R:PySem.W.Frag->Hp->Hp->V->Prop
 loc:∀{K:PySem.W.Frag} {H R0 H' R':Hp} {v:V},(∀a∈fp,H' a=H a)->aj R0 R'->R K H R0 v->R K H' R' v
 has:∀{K:PySem.W.Frag} {H R0:Hp} {v:V},R K H R0 v->∀a∈fp,H a≠none
inductive Ent:Type 1
 | no
 | im {α:Type} (r:aD α) (x:α)
 | mu {α:Type} (r:aD α) (xs:List α)
 | di (kvs:List (Int×V))
 | ob (B:iA)
def cK (kvs:List (Int×V)):List (Key×V):=kvs.map λp=>(Sum.inl p.1,p.2)
def Ent.ok (K:PySem.W.Frag)(H R:Hp):Ent->Option V->Prop
 | .no,_=>True
 | .im r x,o=>∃v,o=some v/\r.R K R v x
 | .mu r xs,o=>∃a vs,o=some (.ref a)/\H a=some (.lst vs)/\R a=none/\PySem.Paired (r.R K R) vs xs
 | .di kvs,o=>∃a,o=some (.ref a)/\H a=some (.dK (cK kvs))/\R a=none
 | .ob B,o=>(∃v,o=some v/\B.R K H R v)/\∀a∈B.fp,R a=none
def Ent.own:Ent->Bool
 | .mu .. =>true
 | .di .. =>true
 | _=>false
def ku:Option V->List Addr
 | some (.ref a)=>[a]
 | _=>[]
def Ent.fp:Ent->Option V->List Addr
 | .mu ..,o=>ku o
 | .di ..,o=>ku o
 | .ob B,_=>B.fp
 | _,_=>[]
abbrev Ga:=List Ent
structure ao (K:PySem.W.Frag) (σ:St) (H0 R0 H R:Hp) (Γ:Ga):Prop where
 ext:Ext H0 R0 H R
 ent:∀(i:Nat) (e:Ent),Γ[i]?=some e->e.ok K H R (σ[i]?).join
 nw:∀(i:Nat) (e:Ent) (a:Addr),Γ[i]?=some e->a∈e.fp (σ[i]?).join->H0 a=none
 ds:∀(i j:Nat) (e e':Ent) (a:Addr),Γ[i]?=some e->Γ[j]?=some e'->a∈e.fp (σ[i]?).join->a∈e'.fp (σ[j]?).join->i=j
 len:Γ.length=σ.length
end
section
variable {K:PySem.W.Frag}{σ:St}{H0 R0 H R H' R':Hp}{Γ:Ga}{α:Type}{r:aD α}
variable {a:Addr}{o:Option V}{u:HO}{i:Nat}
theorem bT:a∈ku o↔o=some (.ref a):=by
 unfold ku
 split
 ·rw [mem_singleton];constructor
  ·rintro rfl;rfl
  ·intro e;cases e;rfl
 ·rename_i h
  constructor
  ·intro z;cases z
  ·intro e;exact absurd e (h a)
theorem Ent.l5 {e:Ent}(w:e.own=true):a∈e.fp o↔o=some (.ref a):=by
 cases e with
 | no=>cases w
 | im r x=>cases w
 | mu r xs=>exact bT
 | di kvs=>exact bT
 | ob B=>cases w
theorem ao.new (E:ao K σ H0 R0 H R Γ)(i:Nat)(e:Ent)(a:Addr)(h:Γ[i]?=some e)(w:e.own=true)(ha:(σ[i]?).join=some (.ref a)):H0 a=none:=E.nw i e a h ((Ent.l5 w).mpr ha)
theorem Ent.cO {e:Ent}(h:e.ok K H R o)(ha:a∈e.fp o):H a≠none/\R a=none:=by
 cases e with
 | no=>cases ha
 | im r x=>cases ha
 | mu r xs=>
   obtain ⟨b,vs,e,q,n,_⟩:=h
   rw [Ent.fp,bT,e] at ha
   cases ha
   exact ⟨by rw [q];exact Option.some_ne_none _,n⟩
 | di kvs=>
   obtain ⟨b,e,q,n⟩:=h
   rw [Ent.fp,bT,e] at ha
   cases ha
   exact ⟨by rw [q];exact Option.some_ne_none _,n⟩
 | ob B=>obtain ⟨⟨v,e,q⟩,n⟩:=h;exact ⟨B.has q a ha,n a ha⟩
theorem Ent.ok.loc {e:Ent}(h:e.ok K H R o)(hH:∀a∈e.fp o,H' a=H a)(hR:aj R R')(hn:∀a∈e.fp o,R' a=none):e.ok K H' R' o:=by
 cases e with
 | no=>trivial
 | im r y=>obtain ⟨v,e,q⟩:=h;exact ⟨v,e,r.mono hR q⟩
 | mu r xs=>
   obtain ⟨a,vs,e,q,n,p⟩:=h
   have ha:a∈Ent.fp (.mu r xs) o:=bT.mpr e
   exact ⟨a,vs,e,(hH a ha).trans q,hn a ha,Paired.map (λ_ _=>r.mono hR) p⟩
 | di kvs=>
   obtain ⟨a,e,q,n⟩:=h
   have ha:a∈Ent.fp (.di kvs) o:=bT.mpr e
   exact ⟨a,e,(hH a ha).trans q,hn a ha⟩
 | ob B=>obtain ⟨⟨v,e,q⟩,n⟩:=h;exact ⟨⟨v,e,B.loc hH hR q⟩,hn⟩
theorem Ent.ok.grow {e:Ent}(h:e.ok K H R o)(x:Ext H R H' R'):e.ok K H' R' o:=by
 refine h.loc (λa ha=>?_) x.r (λa ha=>?_)
 ·cases q:H a with
  | none=>exact absurd q (Ent.cO h ha).1
  | some u=>exact x.h _ _ q
 ·obtain ⟨h1,h2⟩:=Ent.cO h ha
  exact (x.old a h1).trans h2
theorem ao.grow (E:ao K σ H0 R0 H R Γ)(x:Ext H R H' R'):ao K σ H0 R0 H' R' Γ:=
 ⟨E.ext.trans x,λi e h=>(E.ent i e h).grow x,E.nw,E.ds,E.len⟩
theorem ao.sub (E:ao K σ H0 R0 H R Γ):aj R H:=E.ext.s
def Off (a:Addr)(σ:St)(Γ:Ga):Prop:=∀(i:Nat) (e:Ent),Γ[i]?=some e->a∉e.fp (σ[i]?).join
theorem ao.off (E:ao K σ H0 R0 H R Γ)(h:H a=none):Off a σ Γ:=λi e q w=>(Ent.cO (E.ent i e q) w).1 h
theorem set_at.{v}{β:Type v}{l:List β}{i:Nat}{y:β}{j:Nat}{e:β}(q:(l.set i y)[j]?=some e):(j=i/\e=y/\i < l.length)∨(j≠i/\l[j]?=some e):=by
 by_cases hj:j=i
 ·subst hj
  have hl:j < l.length:=by
   have:=List.getElem?_eq_some_iff.mp q
   simpa using this.1
  rw [getElem?_set_self hl] at q
  exact .inl ⟨rfl,(Option.some.inj q).symm,hl⟩
 ·rw [getElem?_set_ne (Ne.symm hj)] at q
  exact .inr ⟨hj,q⟩
theorem ao.setG (E:ao K σ H0 R0 H R Γ)(i:Nat){v:V}{en:Ent}(ho:en.ok K H R (some v))(h0:∀a∈en.fp (some v),H0 a=none)(hf:∀a∈en.fp (some v),∀(j:Nat) (e:Ent),j≠i->Γ[j]?=some e->a∉e.fp (σ[j]?).join):
 ao K (σ.set i (some v)) H0 R0 H R (Γ.set i en):=by
 have key:∀(j:Nat) (e:Ent),(Γ.set i en)[j]?=some e->(j=i/\e=en/\((σ.set i (some v))[j]?).join=some v)∨(j≠i/\Γ[j]?=some e/\(σ.set i (some v))[j]?=σ[j]?):=λj e q=>by
  rcases set_at q with ⟨rfl,rfl,hl⟩ | ⟨hj,q⟩
  ·exact .inl ⟨rfl,rfl,by rw [getElem?_set_self (by rw [← E.len];exact hl)];rfl⟩
  ·exact .inr ⟨hj,q,getElem?_set_ne (Ne.symm hj)⟩
 refine ⟨E.ext,λj e q=>?_,λj e a q w=>?_,λj k e e' a q q' w w'=>?_,by rw [length_set,length_set];exact E.len⟩
 ·rcases key j e q with ⟨_,rfl,q2⟩ | ⟨_,q1,q2⟩
  ·rw [q2];exact ho
  ·rw [q2];exact E.ent j e q1
 ·rcases key j e q with ⟨_,rfl,q2⟩ | ⟨_,q1,q2⟩
  ·rw [q2] at w;exact h0 a w
  ·rw [q2] at w;exact E.nw j e a q1 w
 ·rcases key j e q with ⟨hj,rfl,q2⟩ | ⟨hj,q1,q2⟩
  ·rcases key k e' q' with ⟨hk,rfl,q2'⟩ | ⟨hk,q1',q2'⟩
   ·rw [hj,hk]
   ·rw [q2] at w;rw [q2'] at w';exact absurd w' (hf a w k e' hk q1')
  ·rcases key k e' q' with ⟨hk,rfl,q2'⟩ | ⟨hk,q1',q2'⟩
   ·rw [q2] at w;rw [q2'] at w';exact absurd w (hf a w' j e hj q1)
   ·rw [q2] at w;rw [q2'] at w';exact E.ds j k e e' a q1 q1' w w'
theorem ao.set (E:ao K σ H0 R0 H R Γ)(i:Nat){v:V}{x:α}(h:r.R K R v x):ao K (σ.set i (some v)) H0 R0 H R (Γ.set i (.im r x)):=
 E.setG i ⟨v,rfl,h⟩ (λa w=>by cases w) λa w=>by cases w
theorem ao.my (E:ao K σ H0 R0 H R Γ)(i:Nat){u:HO}{en:Ent}(ho:en.ok K H R (some (.ref a)))(h0:H0 a=none)(hf:∀(j:Nat) (e:Ent),j≠i->Γ[j]?=some e->a∉e.fp (σ[j]?).join)(hfp:en.fp (some (.ref a))=[a]:=by rfl):
 ao K (σ.set i (some (.ref a))) H0 R0 H R (Γ.set i en):=
 E.setG i ho (λb w=>by rw [hfp,mem_singleton] at w;rw [w];exact h0) λb w=>by rw [hfp,mem_singleton] at w;rw [w];exact hf
theorem ao.hV (E:ao K σ H0 R0 H R Γ){e0 en:Ent}(hi:Γ[i]?=some e0)(ha:a∈e0.fp (σ[i]?).join)(ho:en.ok K (L2.upd H a u) R (σ[i]?).join)
 (hsub:∀b∈en.fp (σ[i]?).join,b∈e0.fp (σ[i]?).join∨(H0 b=none/\Off b σ Γ)):ao K σ H0 R0 (L2.upd H a u) R (Γ.set i en):=by
 have h0:H0 a=none:=E.nw i e0 a hi ha
 have hR:R a=none:=(Ent.cO (E.ent i e0 hi) ha).2
 refine ⟨⟨λb o q=>?_,E.ext.r,λb o q=>?_,E.ext.old⟩,λj e q=>?_,λj e b q w=>?_,λj k e e' b q q' w w'=>?_,by rw [length_set];exact E.len⟩
 ·rw [aA (cD q h0)];exact E.ext.h b o q
 ·rw [aA (cD q hR)];exact E.ext.s b o q
 ·rcases set_at q with ⟨rfl,rfl,_⟩ | ⟨hj,q1⟩
  ·exact ho
  ·refine (E.ent j e q1).loc (λb hb=>aA λz=>hj ?_) (aj.refl _) λb hb=>(Ent.cO (E.ent j e q1) hb).2
   rw [z] at hb
   exact E.ds j i e e0 a q1 hi hb ha
 ·rcases set_at q with ⟨rfl,rfl,_⟩ | ⟨hj,q1⟩
  ·rcases hsub b w with z | z
   ·exact E.nw _ _ b hi z
   ·exact z.1
  ·exact E.nw j e b q1 w
 ·rcases set_at q with ⟨rfl,rfl,_⟩ | ⟨hj,q1⟩
  ·rcases set_at q' with ⟨rfl,rfl,_⟩ | ⟨hk,q1'⟩
   ·rfl
   ·rcases hsub b w with z | z
    ·exact E.ds _ _ _ _ b hi q1' z w'
    ·exact absurd w' (z.2 k e' q1')
  ·rcases set_at q' with ⟨rfl,rfl,_⟩ | ⟨hk,q1'⟩
   ·rcases hsub b w' with z | z
    ·exact E.ds _ _ _ _ b q1 hi w z
    ·exact absurd w (z.2 j e q1)
   ·exact E.ds _ _ _ _ b q1 q1' w w'
theorem ao.upd (E:ao K σ H0 R0 H R Γ){e0 en:Ent}(hi:Γ[i]?=some e0)(w0:e0.own=true)(ha:(σ[i]?).join=some (.ref a))(hR:R a=none)(ho:en.ok K (L2.upd H a u) R (some (.ref a)))(hfp:en.fp (some (.ref a))=[a]:=by rfl):
 ao K σ H0 R0 (L2.upd H a u) R (Γ.set i en):=
 E.hV hi ((Ent.l5 w0).mpr ha) (by rw [ha];exact ho) λb w=>.inl (by rw [ha,hfp,mem_singleton] at w;rw [w];exact (Ent.l5 w0).mpr ha)
theorem ao.lT (E:ao K σ H0 R0 H R Γ)(ha:H a=some u)(hR:R a=none)(h0:H0 a=none)(off:Off a σ Γ):ao K σ H0 R0 H (L2.upd R a u) Γ:=by
 have s2:aj R (L2.upd R a u):=aj.fresh hR _
 refine ⟨⟨E.ext.h,E.ext.r.trans s2,λb o qb=>?_,λb hb=>?_⟩,λi e qe=>?_,E.nw,E.ds,E.len⟩
 ·by_cases hb:b=a
  ·subst hb;rw [au] at qb;cases qb;exact ha
  ·rw [aA hb] at qb;exact E.ext.s b o qb
 ·rw [aA (show b≠a from λe=>hb (by rw [e];exact h0))];exact E.ext.old b hb
 ·refine (E.ent i e qe).loc (λ_ _=>rfl) s2 λb hb=>?_
  rw [aA (show b≠a from λz=>off i e qe (z▸hb))]
  exact (Ent.cO (E.ent i e qe) hb).2
theorem ao.tell (E:ao K σ H0 R0 H R Γ){e0 en:Ent}(hi:Γ[i]?=some e0)(ho:en.ok K H R (σ[i]?).join)(hsub:∀b∈en.fp (σ[i]?).join,b∈e0.fp (σ[i]?).join):ao K σ H0 R0 H R (Γ.set i en):=by
 refine ⟨E.ext,λj e q=>?_,λj e b q w=>?_,λj k e e' b q q' w w'=>?_,by rw [length_set];exact E.len⟩
 ·rcases set_at q with ⟨rfl,rfl,_⟩ | ⟨hj,q1⟩
  ·exact ho
  ·exact E.ent j e q1
 ·rcases set_at q with ⟨rfl,rfl,_⟩ | ⟨hj,q1⟩
  ·exact E.nw _ _ b hi (hsub b w)
  ·exact E.nw j e b q1 w
 ·rcases set_at q with ⟨rfl,rfl,_⟩ | ⟨hj,q1⟩
  ·rcases set_at q' with ⟨rfl,rfl,_⟩ | ⟨hk,q1'⟩
   ·rfl
   ·exact E.ds _ _ _ _ b hi q1' (hsub b w) w'
  ·rcases set_at q' with ⟨rfl,rfl,_⟩ | ⟨hk,q1'⟩
   ·exact E.ds _ _ _ _ b q1 hi w (hsub b w')
   ·exact E.ds _ _ _ _ b q1 q1' w w'
def Wk:Ga->Ga->Prop
 | [],[]=>True
 | e::r,e'::r'=>(e'=e∨e'= .no)/\Wk r r'
 | _,_=>False
theorem Wk.len:∀{Γ Γ':Ga},Wk Γ Γ'->Γ'.length=Γ.length
 | [],[],_=>rfl
 | _::_,_::_,h=>by rw [length_cons,length_cons,Wk.len h.2]
theorem Wk.at:∀{Γ Γ':Ga},Wk Γ Γ'->∀(i:Nat) (e:Ent),Γ'[i]?=some e->e= .no∨Γ[i]?=some e
 | [],[],_,i,e,q=>by simp at q
 | a::_,b::_,h,0,e,q=>by
   simp at q
   rcases h.1 with z | z
   ·right;simp [← q,z]
   ·left;rw [← q,z]
 | a::r,b::r',h,i + 1,e,q=>by
   simp at q
   have:=Wk.at h.2 i e q
   simpa using this
theorem Wk.refl:∀Γ:Ga,Wk Γ Γ
 | []=>trivial
 | _::r=>⟨.inl rfl,Wk.refl r⟩
theorem ao.weak (E:ao K σ H0 R0 H R Γ){Γ':Ga}(w:Wk Γ Γ'):ao K σ H0 R0 H R Γ':=by
 refine ⟨E.ext,λi e q=>?_,λi e a q z=>?_,λi j e e' a q q' z z'=>?_,w.len.trans E.len⟩
 ·rcases w.at i e q with rfl | q
  ·trivial
  ·exact E.ent i e q
 ·rcases w.at i e q with rfl | q
  ·cases z
  ·exact E.nw i e a q z
 ·rcases w.at i e q with rfl | q
  ·cases z
  ·rcases w.at j e' q' with rfl | q'
   ·cases z'
   ·exact E.ds i j e e' a q q' z z'
end
section
variable {X:Cx}{Γ Γ1 Γ2 Γ3:Ga}{α β γ:Type}
variable {e:Expr}{r:aD α}
def EV (X:Cx)(e:Expr)(Γ:Ga){α:Type}(r:aD α)(y:α)(Γ':Ga):Prop:=
 ∀(σ:St) (H0 R0 H R:Hp),ao X.K σ H0 R0 H R Γ->∀Q:VK,(∀v H' R',ao X.K σ H0 R0 H' R' Γ'->aj R R'->r.R X.K R' v y->Q v H')->dI X e σ H Q
def aY (X:Cx)(e:Expr)(Γ:Ga){α:Type}(r:aD α)(ys:List α)(Γ':Ga):Prop:=
 ∀(σ:St) (H0 R0 H R:Hp),ao X.K σ H0 R0 H R Γ->∀Q:VK,(∀a vs H' R',ao X.K σ H0 R0 H' R' Γ'->aj R R'->H' a=some (.lst vs)->R' a=none->H0 a=none->Off a σ Γ'->PySem.Paired (r.R X.K R') vs ys->ys.length<=sizeLine->Q (.ref a) H')->dI X e σ H Q
def TV (X:Cx)(e:Expr)(Γ:Ga)(b:Bool)(Γ':Ga):Prop:=
 ∀(σ:St) (H0 R0 H R:Hp),ao X.K σ H0 R0 H R Γ->∀Q:Bool->Hp->Prop,(∀H' R',ao X.K σ H0 R0 H' R' Γ'->aj R R'->Q b H')->vT X e σ H Q
def TW (X:Cx)(e:Expr)(Γ:Ga)(b:Bool)(Γ':Ga):Prop:=
 ∀(σ:St) (H0 R0 H R:Hp),ao X.K σ H0 R0 H R Γ->∀Q:Bool->Hp->Prop,(∀H' R',ao X.K σ H0 R0 H' R' Γ'->aj R R'->Q b H')->vI X e σ H Q
def TF (X:Cx)(es:List Expr)(Γ:Ga)(b:Bool)(Γ':Ga):Prop:=
 ∀(σ:St) (H0 R0 H R:Hp),ao X.K σ H0 R0 H R Γ->∀Q:Bool->Hp->Prop,(∀H' R',ao X.K σ H0 R0 H' R' Γ'->aj R R'->Q b H')->iP X es σ H Q
def BG (X:Cx)(tg:Expr){α:Type}(r:aD α)(bf:α->Ga->Ga):Prop:=
 ∀(σ:St) (H0 R0 H R:Hp) (Γ:Ga) (v:V) (x:α),ao X.K σ H0 R0 H R Γ->r.R X.K R v x->∀Q:St->Hp->Prop,(∀σ',ao X.K σ' H0 R0 H R (bf x Γ)->Q σ' H)->iy X tg v σ H Q
abbrev RT:=Hp->V->Hp->Hp->Prop
def WS (X:Cx)(sts:List Stmt)(Γ:Ga)(N:Ga->Prop)(T:RT):Prop:=
 ∀(σ:St) (H0 R0 H R:Hp),ao X.K σ H0 R0 H R Γ->∀D:Ends,(∀σ' H' R' Γ',ao X.K σ' H0 R0 H' R' Γ'->aj R R'->N Γ'->D.nx σ' H')->(∀v H' R',Ext H0 R0 H' R'->T H0 v H' R'->D.rt v H')->lN X sts D σ H
def W1 (X:Cx)(st:Stmt)(Γ:Ga)(N:Ga->Prop)(T:RT):Prop:=
 ∀(σ:St) (H0 R0 H R:Hp),ao X.K σ H0 R0 H R Γ->∀D:Ends,(∀σ' H' R' Γ',ao X.K σ' H0 R0 H' R' Γ'->aj R R'->N Γ'->D.nx σ' H')->(∀v H' R',Ext H0 R0 H' R'->T H0 v H' R'->D.rt v H')->wm X st D σ H
def bR (K:PySem.W.Frag){β:Type}(r:aD β)(P:β->Prop):RT:=λ_ v _ R'=>∃y,r.R K R' v y/\P y
def fR (K:PySem.W.Frag){β:Type}(r:aD β)(P:List β->Prop):RT:=λH0 v H' R'=>∃a vs ys,v= .ref a/\H0 a=none/\H' a=some (.lst vs)/\R' a=none/\PySem.Paired (r.R K R') vs ys/\ys.length<=sizeLine/\P ys
theorem aY.im {ys:List α}(h:aY X e Γ r ys Γ1):EV X e Γ (af r) ys Γ1:=by
 intro σ H0 R0 H R E Q q
 refine h σ H0 R0 H R E Q λa vs H' R' E' s1 ha hR h0 off p z=>?_
 have s2:aj R' (upd R' a (.lst vs)):=aj.fresh hR _
 exact q (.ref a) H' (upd R' a (.lst vs)) (E'.lT ha hR h0 off) (s1.trans s2) ⟨a,vs,rfl,au,Paired.map (λ_ _=>r.mono s2) p,z⟩
theorem EV.cast {y y':α}(h:EV X e Γ r y Γ1)(e1:y=y'):EV X e Γ r y' Γ1:=e1▸h
theorem TV.cast {b b':Bool}(h:TV X e Γ b Γ1)(e1:b=b'):TV X e Γ b' Γ1:=e1▸h
theorem aa (i:Nat){x:Str}{pos:Pos}{y:α}(hΓ:Γ[i]?=some (.im r y))(hN:X.N[i]?=some x:=by rfl)(hv:autoParam (bS X.env.scope x) vA1)
 (hd:Dg0 x:=by decide) (hcd:Cd0 x:=by decide):EV X (.Name x pos) Γ r y Γ:=by
 intro σ H0 R0 H R E Q q
 obtain ⟨v,e,h⟩:=E.ent i _ hΓ
 refine eS (aX hN hv hd hcd) ⟨v,?_,q v H R E (aj.refl _) h⟩
 cases es:σ[i]? with
 | none=>rw [es] at e;cases e
 | some o=>rw [es] at e;exact congrArg some e
theorem ar {i:Int}{j:Nat}{pos:Pos}:EV X (.Constant (.int i) j pos) Γ ae i Γ:=λ_ _ _ _ _ E _ q=>eS d8 (q _ _ _ E (aj.refl _) rfl)
theorem cP {b:Bool}{j:Nat}{pos:Pos}:EV X (.Constant (.bool b) j pos) Γ aW b Γ:=λ_ _ _ _ _ E _ q=>eS rM (q _ _ _ E (aj.refl _) rfl)
theorem bE {x:Str}{pos:Pos}{n:Int}{t:Tok}(hm:X.mg x=some (.int n t))(hg:Gl X x:=by rfl)(hd:Dg0 x:=by decide):EV X (.Name x pos) Γ ae n Γ:=
 λ_ _ _ _ _ E _ q=>eS (qm (v:=.int n) hg hm ⟨t,rfl⟩ hd) (q (.int n) _ _ E (aj.refl _) rfl)
theorem jC {op:Operator}{r2:R2}{a b:Expr}{pos:Pos}{ra:aD α}{rb:aD β}{rc:aD γ}{x:α}{y:β}{z:γ}(ho:dg X (binaryOp op) r2)(ha:EV X a Γ ra x Γ1)(hb:EV X b Γ1 rb y Γ2)
 (hz:∀(R:Hp) v u H Q,ra.R X.K R v x->rb.R X.K R u y->(∀w,rc.R X.K R w z->Q w H)->r2 v u H Q):EV X (.BinOp a op b pos) Γ rc z Γ2:=by
 intro σ H0 R0 H R E Q q
 refine eS (l9 ho aE aE) (ha σ H0 R0 H R E _ λv H1 R1 E1 s1 e1=>hb σ H0 R0 H1 R1 E1 _ λu H2 R2 E2 s2 e2=>?_)
 exact hz R2 v u H2 _ (ra.mono s2 e1) e2 λw hw=>q w H2 R2 E2 (s1.trans s2) hw
section
variable {a b c:Expr}{pos:Pos}{x y z:Int}
theorem cu (ha:EV X a Γ ae x Γ1)(hb:EV X b Γ1 ae y Γ2):EV X (.BinOp a .Add b pos) Γ ae (x + y) Γ2:=jC Av ha hb λR v u H Q e1 e2 q=>⟨x,y,e1,e2,q _ rfl⟩
theorem eM (ha:EV X a Γ ae x Γ1)(hb:EV X b Γ1 ae y Γ2):EV X (.BinOp a .Sub b pos) Γ ae (x - y) Γ2:=jC AV ha hb λR v u H Q e1 e2 q=>⟨x,y,e1,e2,q _ rfl⟩
theorem B5 (ha:EV X a Γ ae x Γ1)(hb:EV X b Γ1 ae y Γ2)(h:sr x y):EV X (.BinOp a .Mult b pos) Γ ae (x * y) Γ2:=jC An ha hb λR v u H Q e1 e2 q=>⟨x,y,e1,e2,h,q _ rfl⟩
theorem iX (ha:EV X a Γ ae x Γ1)(hb:EV X b Γ1 ae y Γ2)(h:0 < y):EV X (.BinOp a .Mod b pos) Γ ae (x % y) Γ2:=jC AZ ha hb λR v u H Q e1 e2 q=>⟨x,y,e1,e2,h,q _ rfl⟩
theorem qR (ha:EV X a Γ ae x Γ1)(hb:EV X b Γ1 ae y Γ2)(h:BT x y):EV X (.BinOp a .FloorDiv b pos) Γ ae (x / y) Γ2:=jC yZ ha hb λR v u H Q e1 e2 q=>⟨x,y,e1,e2,h,q _ rfl⟩
theorem z5 (ha:EV X a Γ ae x Γ1)(hb:EV X b Γ1 ae y Γ2)(h:Bw x y):EV X (.BinOp a .Pow b pos) Γ ae (x ^ y.toNat) Γ2:=jC Ae ha hb λR v u H Q e1 e2 q=>⟨x,y,e1,e2,h,q _ rfl⟩
theorem dt (ha:EV X a Γ ae x Γ1):EV X (.UnaryOp .USub a pos) Γ ae (-x) Γ1:=by
 intro σ H0 R0 H R E Q q
 exact eS (DI zt aE) (ha σ H0 R0 H R E _ λv H1 R1 E1 s1 e1=>⟨x,e1,q _ H1 R1 E1 s1 rfl⟩)
end
structure fW (X:Cx) (op:CmpOp) {α β:Type} (ra:aD α) (rb:aD β) (x:α) (y:β) (k:Bool):Prop where
 r2:∃r,dg X (compareOp op) r/\∀(R H:Hp) v u Q,aj R H->ra.R X.K R v x->rb.R X.K R u y->Q (.bl k) H->r v u H Q
theorem d9 {op:CmpOp}{a b:Expr}{pos:Pos}{ra:aD α}{rb:aD β}{x:α}{y:β}{k:Bool}(c:fW X op ra rb x y k)(ha:EV X a Γ ra x Γ1)(hb:EV X b Γ1 rb y Γ2)(hm:behindInMarks op b=false:=by first | exact pG _ | with_unfolding_all rfl):
 EV X (.Compare a [op] [b] pos) Γ aW k Γ2:=by
 obtain ⟨r,ho,hr⟩:=c.r2
 intro σ H0 R0 H R E Q q
 refine eS (y4 ho aE aE hm) (ha σ H0 R0 H R E _ λv H1 R1 E1 s1 e1=>hb σ H0 R0 H1 R1 E1 _ λu H2 R2 E2 s2 e2=>?_)
 exact hr R2 H2 v u _ E2.sub (ra.mono s2 e1) e2 (q _ H2 R2 E2 (s1.trans s2) rfl)
theorem bc {op:CmpOp}{a b:Expr}{pos:Pos}{ra:aD α}{rb:aD β}{x:α}{y:β}{k:Bool}(c:fW X op ra rb x y k)(ha:EV X a Γ ra x Γ1)(hb:EV X b Γ1 rb y Γ2)(hm:behindInMarks op b=false:=by first | exact pG _ | with_unfolding_all rfl):
 TV X (.Compare a [op] [b] pos) Γ k Γ2:=by
 obtain ⟨r,ho,hr⟩:=c.r2
 intro σ H0 R0 H R E Q q
 refine tS (zc ho aE aE hm) (ha σ H0 R0 H R E _ λv H1 R1 E1 s1 e1=>hb σ H0 R0 H1 R1 E1 _ λu H2 R2 E2 s2 e2=>?_)
 exact hr R2 H2 v u _ E2.sub (ra.mono s2 e1) e2 ⟨k,rfl,q H2 R2 E2 (s1.trans s2)⟩
section
variable {x y:Int}
theorem e7:fW X .Lt ae ae x y (decide (x < y)):=⟨_,DQ,λR H v u Q _ e1 e2 q=>⟨x,y,e1,e2,q⟩⟩
theorem gm:fW X .LtE ae ae x y (decide (x<=y)):=⟨_,De,λR H v u Q _ e1 e2 q=>⟨x,y,e1,e2,q⟩⟩
theorem r6:fW X .Gt ae ae x y (decide (y < x)):=⟨_,DF,λR H v u Q _ e1 e2 q=>⟨x,y,e1,e2,q⟩⟩
theorem rH:fW X .GtE ae ae x y (decide (y<=x)):=⟨_,Dr,λR H v u Q _ e1 e2 q=>⟨x,y,e1,e2,q⟩⟩
theorem e6:fW X .Eq ae ae x y (decide (x=y)):=⟨_,DP,λR H v u Q _ e1 e2 q=>by
 cases e1;cases e2
 exact ⟨rfl,by rw [show decide (V.int x=V.int y)=decide (x=y) by rw [kG];exact Bool.beq_eq_decide_eq x y];exact q⟩⟩
theorem jt:fW X .NotEq ae ae x y (!decide (x=y)):=⟨_,DM,λR H v u Q _ e1 e2 q=>by
 cases e1;cases e2
 exact ⟨rfl,by rw [show decide (V.int x=V.int y)=decide (x=y) by rw [kG];exact Bool.beq_eq_decide_eq x y];exact q⟩⟩
end
variable {a:Expr}{x:Bool}{b:Expr}{y:Bool}{rest:List Expr}{c:Expr}
theorem kT (x:Int):∀xs:List Int,xO (.int x) (xs.map V.int)=decide (x∈xs)
 | []=>rfl
 | y::r=>by
   have h:=kT x r
   unfold xO at h ⊢
   rw [map_cons,any_cons,h]
   have e:mi (V.int y) (V.int x)=decide (x=y):=by
    show (y==x)=_
    by_cases h:x=y
    ·subst h;simp
    ·rw [decide_eq_false h];exact beq_eq_false_iff_ne.mpr (Ne.symm h)
   rw [e,Bool.eq_iff_iff];simp
theorem dM {K:PySem.W.Frag}{R:Hp}:∀{vs:List V} {xs:List Int},PySem.Paired (ae.R K R) vs xs->vs=xs.map V.int
 | _,_,.nil=>rfl
 | _,_,.cons h t=>by rw [map_cons,← dM t];exact congrArg (· ::_) h
theorem jK:∀xs:List Int,(xs.map V.int).all gQ=true
 | []=>rfl
 | _::r=>by rw [map_cons,all_cons,jK r];rfl
theorem wY {x:Int}{xs:List Int}:fW X .In ae (af ae) x xs (decide (x∈xs)):=⟨_,vb,λR H v u Q s e1 e2 q=>by
 cases e1
 obtain ⟨a,vs,rfl,hq,p,_⟩:=e2
 have e:=dM p
 subst e
 exact ⟨a,_,rfl,.inl (aM.of (s _ _ hq)),rfl,jK xs,by rw [if_neg Bool.false_ne_true,kT];exact q⟩⟩
theorem y6 {x:Int}{xs:List Int}:fW X .NotIn ae (af ae) x xs (!decide (x∈xs)):=⟨_,oY,λR H v u Q s e1 e2 q=>by
 cases e1
 obtain ⟨a,vs,rfl,hq,p,_⟩:=e2
 have e:=dM p
 subst e
 exact ⟨a,_,rfl,.inl (aM.of (s _ _ hq)),rfl,jK xs,by rw [if_pos rfl,kT];exact q⟩⟩
theorem iw {op op':CmpOp}{pos:Pos}{ra:aD α}{rb:aD β}{rc:aD γ}{x:α}{y:β}{z:γ}{k k':Bool}(c1:fW X op ra rb x y k)(c2:fW X op' rb rc y z k')(ha:EV X a Γ ra x Γ)(hb:EV X b Γ rb y Γ)(hc:EV X c Γ rc z Γ)
 (hm:lastMarks [op,op'] [b,c]=false:=by with_unfolding_all rfl):EV X (.Compare a [op,op'] [b,c] pos) Γ aW (k&&k') Γ:=by
 obtain ⟨r,ho,hr⟩:=c1.r2
 obtain ⟨r',ho',hr'⟩:=c2.r2
 intro σ H0 R0 H R E Q q
 refine eS (wJ ho ho' aE aE aE hm) (ha σ H0 R0 H R E _ λv H1 R1 E1 s1 e1=>hb σ H0 R0 H1 R1 E1 _ λu H2 R2 E2 s2 e2=>?_)
 refine hr R2 H2 v u _ E2.sub (ra.mono s2 e1) e2 ⟨k,rfl,?_⟩
 cases k with
 | false=>exact iN (q _ H2 R2 E2 (s1.trans s2) rfl)
 | true=>exact iH (hc σ H0 R0 H2 R2 E2 _ λw H3 R3 E3 s3 e3=>hr' R3 H3 u w _ E3.sub (rb.mono s3 e2) e3 (q _ H3 R3 E3 (s1.trans (s2.trans s3)) rfl))
theorem h8 {op op':CmpOp}{pos:Pos}{ra:aD α}{rb:aD β}{rc:aD γ}{x:α}{y:β}{z:γ}{k k':Bool}(c1:fW X op ra rb x y k)(c2:fW X op' rb rc y z k')(ha:EV X a Γ ra x Γ)(hb:EV X b Γ rb y Γ)(hc:EV X c Γ rc z Γ)
 (hm:lastMarks [op,op'] [b,c]=false:=by with_unfolding_all rfl):TV X (.Compare a [op,op'] [b,c] pos) Γ (k&&k') Γ:=by
 obtain ⟨r,ho,hr⟩:=c1.r2
 obtain ⟨r',ho',hr'⟩:=c2.r2
 intro σ H0 R0 H R E Q q
 refine tS (wg ho ho' aE aE aE hm) (ha σ H0 R0 H R E _ λv H1 R1 E1 s1 e1=>hb σ H0 R0 H1 R1 E1 _ λu H2 R2 E2 s2 e2=>?_)
 refine hr R2 H2 v u _ E2.sub (ra.mono s2 e1) e2 ⟨k,rfl,?_⟩
 cases k with
 | false=>exact iN ⟨false,rfl,q H2 R2 E2 (s1.trans s2)⟩
 | true=>exact iH (hc σ H0 R0 H2 R2 E2 _ λw H3 R3 E3 s3 e3=>hr' R3 H3 u w _ E3.sub (rb.mono s3 e2) e3 ⟨k',rfl,q H3 R3 E3 (s1.trans (s2.trans s3))⟩)
theorem eG {op:BoolOp}{pos:Pos}{r:aD α}{x:α}(h:EV X a Γ r x Γ1):EV X (.BoolOp op [a] pos) Γ r x Γ1:=λσ H0 R0 H R E Q q=>eS (B2 aE) (h σ H0 R0 H R E Q q)
theorem eF {pos:Pos}(ha:EV X a Γ aW x Γ)(hb:x=true->EV X (.BoolOp .And (b::rest) pos) Γ aW y Γ):EV X (.BoolOp .And (a::b::rest) pos) Γ aW (x&&y) Γ:=by
 intro σ H0 R0 H R E Q q
 refine eS (zM aE aE) (ha σ H0 R0 H R E _ λv H1 R1 E1 s1 e1=>⟨x,e1,?_⟩)
 cases x with
 | false=>exact iN (q _ H1 R1 E1 s1 rfl)
 | true=>exact iH (hb rfl σ H0 R0 H1 R1 E1 _ λw H3 R3 E3 s3 e3=>q w H3 R3 E3 (s1.trans s3) e3)
theorem Du {pos:Pos}(ha:EV X a Γ aW x Γ)(hb:x=false->EV X (.BoolOp .Or (b::rest) pos) Γ aW y Γ):EV X (.BoolOp .Or (a::b::rest) pos) Γ aW (x ||y) Γ:=by
 intro σ H0 R0 H R E Q q
 refine eS (DA aE aE) (ha σ H0 R0 H R E _ λv H1 R1 E1 s1 e1=>⟨x,e1,?_⟩)
 cases x with
 | true=>exact iH (q _ H1 R1 E1 s1 rfl)
 | false=>exact iN (hb rfl σ H0 R0 H1 R1 E1 _ λw H3 R3 E3 s3 e3=>q w H3 R3 E3 (s1.trans s3) e3)
theorem Ai {pos:Pos}(ha:EV X a Γ aW x Γ1):EV X (.UnaryOp .Not a pos) Γ aW (!x) Γ1:=by
 intro σ H0 R0 H R E Q q
 exact eS (AN aE) (ha σ H0 R0 H R E _ λv H1 R1 E1 s1 e1=>⟨x,e1,q _ H1 R1 E1 s1 rfl⟩)
theorem bY {pos:Pos}(ha:TV X a Γ x Γ1):TV X (.UnaryOp .Not a pos) Γ (!x) Γ1:=by
 intro σ H0 R0 H R E Q q
 exact tS (BA i5) (ha σ H0 R0 H R E _ λH1 R1 E1 s1=>q H1 R1 E1 s1)
theorem TW.tv {e:Expr}{b:Bool}(h:TW X e Γ b Γ1):TV X e Γ b Γ1:=λσ H0 R0 H R E Q q=>tS (xT.pt) (h σ H0 R0 H R E Q q)
theorem g5 {pos:Pos}(ha:TV X a Γ x Γ1):TW X (.BoolOp .And [a] pos) Γ x Γ1:=λσ H0 R0 H R E Q q=>wS (rq i5) (ha σ H0 R0 H R E Q q)
theorem ig {pos:Pos}(ha:TV X a Γ x Γ1):TW X (.BoolOp .Or [a] pos) Γ x Γ1:=λσ H0 R0 H R E Q q=>wS (Ab i5) (ha σ H0 R0 H R E Q q)
theorem dN {pos:Pos}(ha:TV X a Γ x Γ)(hb:x=true->TW X (.BoolOp .And (b::rest) pos) Γ y Γ):TW X (.BoolOp .And (a::b::rest) pos) Γ (x&&y) Γ:=by
 intro σ H0 R0 H R E Q q
 refine wS (tN i5 xT) (ha σ H0 R0 H R E _ λH1 R1 E1 s1=>?_)
 cases x with
 | false=>exact iN (q H1 R1 E1 s1)
 | true=>exact iH (hb rfl σ H0 R0 H1 R1 E1 _ λH3 R3 E3 s3=>q H3 R3 E3 (s1.trans s3))
theorem jh {pos:Pos}(ha:TV X a Γ x Γ)(hb:x=false->TW X (.BoolOp .Or (b::rest) pos) Γ y Γ):TW X (.BoolOp .Or (a::b::rest) pos) Γ (x ||y) Γ:=by
 intro σ H0 R0 H R E Q q
 refine wS (Dy i5 xT) (ha σ H0 R0 H R E _ λH1 R1 E1 s1=>?_)
 cases x with
 | true=>exact iH (q H1 R1 E1 s1)
 | false=>exact iN (hb rfl σ H0 R0 H1 R1 E1 _ λH3 R3 E3 s3=>q H3 R3 E3 (s1.trans s3))
theorem bV {k:Bool}(ha:EV X a Γ aW k Γ1)(he:∀whole,isTrue a X.env whole=(do let v ← whole;standAt a.pos;holding [v] (truthy v)):=by intro _;rfl):TV X a Γ k Γ1:=by
 intro σ H0 R0 H R E Q q
 exact tS (BP aE he) (ha σ H0 R0 H R E _ λv H1 R1 E1 s1 e1=>⟨k,e1,q H1 R1 E1 s1⟩)
theorem cf:TF X [] Γ true Γ:=λσ H0 R0 H R E Q q=>fS zB (q H R E (aj.refl _))
theorem fU {b:Bool}(h:TV X c Γ b Γ1):TF X [c] Γ b Γ1:=λσ H0 R0 H R E Q q=>fS (Bi i5) (h σ H0 R0 H R E Q q)
end
section
variable {X:Cx}{Γ Γ1 Γ2 Γ3:Ga}{α β γ δ:Type}
variable {r:aD α}{b:Expr}{i:Int}{es:List Expr}{x:α}{a:Expr}{xs:List α}
structure Pk:Type 1 where
 {α:Type}
 r:aD α
 x:α
inductive gO (K:PySem.W.Frag) (R:Hp):List V->List Pk->Prop
 | nil:gO K R [] []
 | cons {v:V} {vs:List V} {p:Pk} {ps:List Pk}:p.r.R K R v p.x->gO K R vs ps->gO K R (v::vs) (p::ps)
def HA (X:Cx)(es:List Expr)(Γ:Ga)(ps:List Pk)(Γ':Ga):Prop:=
 ∀(σ:St) (H0 R0 H R:Hp),ao X.K σ H0 R0 H R Γ->∀Q:List V->Hp->Prop,(∀vs H' R',ao X.K σ H0 R0 H' R' Γ'->aj R R'->gO X.K R' vs ps->Q vs H')->rB X es σ H Q
theorem aq:HA X [] Γ [] Γ:=λσ H0 R0 H R E Q q=>aS bz (q [] H R E (aj.refl _) .nil)
theorem ag {e:Expr}{ps:List Pk}(he:EV X e Γ r x Γ1)(hr:HA X es Γ1 ps Γ2)(hs:starEach (e::es) X.env=(false,eval e X.env)::starEach es X.env:=by rfl):HA X (e::es) Γ (⟨r,x⟩::ps) Γ2:=by
 intro σ H0 R0 H R E Q q
 refine aS (aL aE jY hs) (he σ H0 R0 H R E _ λv H1 R1 E1 s1 e1=>hr σ H0 R0 H1 R1 E1 _ λvs H2 R2 E2 s2 e2=>?_)
 exact q (v::vs) H2 R2 E2 (s1.trans s2) (.cons (r.mono s2 e1) e2)
def EA (X:Cx)(es:List Expr)(Γ:Ga){α:Type}(r:aD α)(ys:List α)(Γ':Ga):Prop:=
 ∀(σ:St) (H0 R0 H R:Hp),ao X.K σ H0 R0 H R Γ->∀Q:List V->Hp->Prop,(∀vs H' R',ao X.K σ H0 R0 H' R' Γ'->aj R R'->PySem.Paired (r.R X.K R') vs ys->Q vs H')->rB X es σ H Q
theorem bh:EA X [] Γ r [] Γ:=λσ H0 R0 H R E Q q=>aS bz (q [] H R E (aj.refl _) .nil)
theorem aN {e:Expr}{ys:List α}(he:EV X e Γ r x Γ1)(hr:EA X es Γ1 r ys Γ2)(hs:starEach (e::es) X.env=(false,eval e X.env)::starEach es X.env:=by rfl):EA X (e::es) Γ r (x::ys) Γ2:=by
 intro σ H0 R0 H R E Q q
 refine aS (aL aE jY hs) (he σ H0 R0 H R E _ λv H1 R1 E1 s1 e1=>hr σ H0 R0 H1 R1 E1 _ λvs H2 R2 E2 s2 e2=>?_)
 exact q (v::vs) H2 R2 E2 (s1.trans s2) (.cons (r.mono s2 e1) e2)
theorem aO {pos:Pos}{ys:List α}(h:EA X es Γ r ys Γ1)(hz:ys.length<=sizeLine):aY X (.List es pos) Γ r ys Γ1:=by
 intro σ H0 R0 H R E Q q
 refine eS (jO jY) (h σ H0 R0 H R E _ λvs H1 R1 E1 s1 p1=>⟨by rw [p1.length];exact hz,λp hp=>?_⟩)
 exact q p vs _ R1 (E1.grow (Ext.cn E1.sub hp _)) s1 au (E1.sub.free hp) (E1.ext.h.free hp) (E1.off hp) p1 hz
theorem dj {k:Nat}{pos:Pos}{r':aD β}{y:β}(h:HA X [a,b] Γ [⟨r,x⟩,⟨r',y⟩] Γ1):EV X (.Tuple [a,b] k pos) Γ (av r r') (x,y) Γ1:=by
 intro σ H0 R0 H R E Q q
 refine eS (iR jY) (h σ H0 R0 H R E _ λvs H1 R1 E1 s1 p1=>?_)
 obtain ⟨h1,h2⟩:∃v1 v2,vs=[v1,v2]/\r.R X.K R1 v1 x/\r'.R X.K R1 v2 y:=by
  cases p1 with
  | cons a1 t=>cases t with
    | cons a2 t2=>cases t2;exact ⟨_,_,rfl,a1,a2⟩
 obtain ⟨v2,rfl,e1,e2⟩:=h2
 refine ⟨by show 2<=sizeLine;decide,λp hp=>?_⟩
 have s2:aj R1 (upd R1 p (.tup [h1,v2])):=aj.fresh (E1.sub.free hp) _
 exact q _ _ (upd R1 p (.tup [h1,v2])) (E1.grow (Ext.fresh E1.sub hp _)) (s1.trans s2) ⟨p,_,_,rfl,au,r.mono s2 e1,r'.mono s2 e2⟩
theorem AL {c d:Expr}{k:Nat}{pos:Pos}{x y z w:Int}(h:HA X [a,b,c,d] Γ [⟨ae,x⟩,⟨ae,y⟩,⟨ae,z⟩,⟨ae,w⟩] Γ1):EV X (.Tuple [a,b,c,d] k pos) Γ ax (x,y,z,w) Γ1:=by
 intro σ H0 R0 H R E Q q
 refine eS (iR jY) (h σ H0 R0 H R E _ λvs H1 R1 E1 s1 p1=>?_)
 have e:vs=[.int x,.int y,.int z,.int w]:=by
  cases p1 with
  | cons a1 t=>cases t with
    | cons a2 t=>cases t with
      | cons a3 t=>cases t with
        | cons a4 t=>cases t;cases a1;cases a2;cases a3;cases a4;rfl
 subst e
 refine ⟨by show 4<=sizeLine;decide,λp hp=>?_⟩
 exact q _ _ (upd R1 p _) (E1.grow (Ext.fresh E1.sub hp _)) (s1.trans (aj.fresh (E1.sub.free hp) _)) ⟨p,rfl,au⟩
theorem dS {F:α->β->Prop}:∀{vs:List α} {xs:List β},PySem.Paired F vs xs->∀{i:Nat} {y:β},xs[i]?=some y->∃v,vs[i]?=some v/\F v y
 | _,_,.nil,i,y,h=>by simp at h
 | _,_,.cons h t,0,y,e=>by simp at e;subst e;exact ⟨_,rfl,h⟩
 | _,_,.cons h t,i + 1,y,e=>by
   obtain ⟨v,e1,e2⟩:=dS t (i:=i) (y:=y) (by simpa using e)
   exact ⟨v,by simpa using e1,e2⟩
theorem gU {F:α->β->Prop}{vs:List α}{xs:List β}(p:PySem.Paired F vs xs){y:β}(h:cN xs i=some y):∃v,cN vs i=some v/\F v y:=by
 unfold cN at h ⊢
 rw [p.length]
 cases e:dP xs.length i with
 | none=>rw [e] at h;cases h
 | some j=>rw [e] at h;exact dS p h
theorem e9 (h0:0<=i)(h1:i < xs.length):cN xs i=xs[i.toNat]?:=by
 have e:i=((i.toNat:Nat):Int):=by omega
 have hl:i.toNat < xs.length:=by omega
 have q:cN xs ((i.toNat:Nat):Int)=some xs[i.toNat]:=zm (getElem?_eq_getElem hl)
 rw [← e] at q
 rw [q,getElem?_eq_getElem hl]
theorem aJ {pos:Pos}{y:α}(ha:EV X a Γ (af r) xs Γ1)(hb:EV X b Γ1 ae i Γ2)(h:cN xs i=some y)(hs:ee b:=by exact λ_ _=>rfl):EV X (.Subscript a b pos) Γ r y Γ2:=by
 intro σ H0 R0 H R E Q q
 refine eS (gx fF aE aE hs) (ha σ H0 R0 H R E _ λv H1 R1 E1 s1 e1=>hb σ H0 R0 H1 R1 E1 _ λu H2 R2 E2 s2 e2=>?_)
 obtain ⟨p,vs,rfl,ha,pp,z⟩:=(af r).mono s2 e1
 obtain ⟨w,e3,e4⟩:=gU pp h
 exact ⟨p,vs,i,w,rfl,e2,aM.of (E2.sub _ _ ha),e3,q w H2 R2 E2 (s1.trans s2) e4⟩
theorem fc (j:Nat){x:Str}{p1:Pos}{pos:Pos}{y:α}(hb:EV X b Γ ae i Γ1)(hΓ:Γ[j]?=some (.mu r xs))(hΓ1:Γ1[j]?=some (.mu r xs))(h:cN xs i=some y)(hN:X.N[j]?=some x:=by rfl)(hv:autoParam (bS X.env.scope x) vA1)
 (hs:ee b:=by exact λ_ _=>rfl) (hd:Dg0 x:=by decide) (hcd:Cd0 x:=by decide):EV X (.Subscript (.Name x p1) b pos) Γ r y Γ1:=by
 intro σ H0 R0 H R E Q q
 obtain ⟨a,vs,e,_,_,_⟩:=E.ent j _ hΓ
 refine eS (gx fF (aX hN hv hd hcd) aE hs) ⟨.ref a,?_,hb σ H0 R0 H R E _ λu H2 R2 E2 s2 e2=>?_⟩
 ·cases es:σ[j]? with
  | none=>rw [es] at e;cases e
  | some o=>rw [es] at e;exact congrArg some e
 ·obtain ⟨a',vs',e',ha,hR,pp⟩:=E2.ent j _ hΓ1
  rw [e] at e';cases e'
  obtain ⟨w,e3,e4⟩:=gU pp h
  exact ⟨a,vs',i,w,rfl,e2,aM.of ha,e3,q w H2 R2 E2 s2 e4⟩
section
variable {a:Expr}{n:Int}{j:Nat}{p1 pos:Pos}{w:Row}
variable {r:aD α}{r':aD β}
theorem gH {x:α}{y:β}(ha:EV X a Γ r x Γ1)(k:∀(R:Hp) v,r.R X.K R v x->∃p vs w,v= .ref p/\R p=some (.tup vs)/\cN vs n=some w/\r'.R X.K R w y):EV X (.Subscript a (.Constant (.int n) j p1) pos) Γ r' y Γ1:=by
 intro σ H0 R0 H R E Q q
 refine eS (gx uc aE d8 (λ_ _=>rfl)) (ha σ H0 R0 H R E _ λv H1 R1 E1 s1 e1=>?_)
 obtain ⟨p,vs,w,rfl,hp,e3,e4⟩:=k R1 v e1
 exact ⟨p,vs,n,w,rfl,rfl,dm.of (E1.sub _ _ hp),e3,q w H1 R1 E1 s1 e4⟩
theorem eU (ha:EV X a Γ ax w Γ1):EV X (.Subscript a (.Constant (.int 0) j p1) pos) Γ ae w.1 Γ1:=gH ha λR v ⟨p,e,h⟩=>⟨p,_,_,e,h,rfl,rfl⟩
theorem dk (ha:EV X a Γ ax w Γ1):EV X (.Subscript a (.Constant (.int 1) j p1) pos) Γ ae w.2.1 Γ1:=gH ha λR v ⟨p,e,h⟩=>⟨p,_,_,e,h,rfl,rfl⟩
theorem cA (ha:EV X a Γ ax w Γ1):EV X (.Subscript a (.Constant (.int 2) j p1) pos) Γ ae w.2.2.1 Γ1:=gH ha λR v ⟨p,e,h⟩=>⟨p,_,_,e,h,rfl,rfl⟩
theorem dJ (ha:EV X a Γ ax w Γ1):EV X (.Subscript a (.Constant (.int 3) j p1) pos) Γ ae w.2.2.2 Γ1:=gH ha λR v ⟨p,e,h⟩=>⟨p,_,_,e,h,rfl,rfl⟩
theorem d5 {x:α×β}(ha:EV X a Γ (av r r') x Γ1):EV X (.Subscript a (.Constant (.int 0) j p1) pos) Γ r x.1 Γ1:=gH ha λR v ⟨p,v1,v2,e,h,h1,h2⟩=>⟨p,_,v1,e,h,rfl,h1⟩
theorem bb {x:α×β}(ha:EV X a Γ (av r r') x Γ1):EV X (.Subscript a (.Constant (.int 1) j p1) pos) Γ r' x.2 Γ1:=gH ha λR v ⟨p,v1,v2,e,h,h1,h2⟩=>⟨p,_,v2,e,h,rfl,h2⟩
end
variable {a:Expr}{r:aD α}{xs:List α}
def OV (X:Cx)(e:Option Expr)(Γ:Ga)(o:Option Int):Prop:=∃t,PO X e t/\∀(σ:St) (H0 R0 H R:Hp),ao X.K σ H0 R0 H R Γ->∀Q:Option Int->Hp->Prop,(∀H' R',ao X.K σ H0 R0 H' R' Γ->aj R R'->Q o H')->t σ H Q
theorem qw:OV X none Γ none:=⟨_,qH,λσ H0 R0 H R E Q q=>q H R E (aj.refl _)⟩
theorem qN {e:Expr}{i:Int}(h:EV X e Γ ae i Γ):OV X (some e) Γ (some i):=⟨_,rf aE,λσ H0 R0 H R E Q q=>h σ H0 R0 H R E _ λv H1 R1 E1 s1 e1=>⟨i,e1,q H1 R1 E1 s1⟩⟩
def cut (xs:List α)(lo hi:Option Int):List α:=(xs.drop (HT.sIx xs.length 0 lo)).take (HT.sIx xs.length xs.length hi - HT.sIx xs.length 0 lo)
theorem gw {F:α->β->Prop}:∀(n:Nat) {vs:List α} {xs:List β},PySem.Paired F vs xs->PySem.Paired F (vs.drop n) (xs.drop n)
 | 0,_,_,h=>h
 | _ + 1,_,_,.nil=>.nil
 | n + 1,_,_,.cons _ t=>gw n t
theorem fh {F:α->β->Prop}:∀(n:Nat) {vs:List α} {xs:List β},PySem.Paired F vs xs->PySem.Paired F (vs.take n) (xs.take n)
 | 0,_,_,_=>.nil
 | _ + 1,_,_,.nil=>.nil
 | n + 1,_,_,.cons h t=>.cons h (fh n t)
theorem ca {F:α->β->Prop}:∀{vs:List α} {xs:List β} {vs':List α} {xs':List β},PySem.Paired F vs xs->PySem.Paired F vs' xs'->PySem.Paired F (vs++vs') (xs++xs')
 | _,_,_,_,.nil,h=>h
 | _,_,_,_,.cons h t,h'=>.cons h (ca t h')
theorem jk (xs:List α)(lo hi:Option Int):(cut xs lo hi).length<=xs.length:=by
 unfold cut
 rw [length_take,length_drop]
 omega
theorem uJ {lo hi:Option Expr}{p2 pos:Pos}{l h:Option Int}(ha:EV X a Γ (af r) xs Γ)(hl:OV X lo Γ l)(hh:OV X hi Γ h):aY X (.Subscript a (.Slice lo hi none p2) pos) Γ r (cut xs l h) Γ:=by
 intro σ H0 R0 H R E Q q
 obtain ⟨tl,pl,kl⟩:=hl
 obtain ⟨th,ph,kh⟩:=hh
 refine eS (lr qi aE pl ph) (ha σ H0 R0 H R E _ λv H1 R1 E1 s1 e1=>kl σ H0 R0 H1 R1 E1 _ λH2 R2 E2 s2=>kh σ H0 R0 H2 R2 E2 _ λH3 R3 E3 s3=>?_)
 obtain ⟨p,vs,rfl,hp,pp,z⟩:=(af r).mono (s2.trans s3) e1
 refine ⟨p,vs,rfl,aM.of (E3.sub _ _ hp),λd hd=>?_⟩
 refine q d _ _ R3 (E3.grow (Ext.cn E3.sub hd _)) (s1.trans (s2.trans s3)) au (E3.sub.free hd) (E3.ext.h.free hd) (E3.off hd) ?_ (Nat.le_trans (jk _ _ _) z)
 unfold cut jV
 rw [pp.length]
 exact fh _ (gw _ pp)
theorem sB {lo hi:Option Expr}{p2 pos:Pos}{xs:List Int}{l h:Option Int}(ha:EV X a Γ ik xs Γ)(hl:OV X lo Γ l)(hh:OV X hi Γ h):aY X (.Subscript a (.Slice lo hi none p2) pos) Γ ae (cut xs l h) Γ:=by
 intro σ H0 R0 H R E Q q
 obtain ⟨tl,pl,kl⟩:=hl
 obtain ⟨th,ph,kh⟩:=hh
 refine eS (lr qi aE pl ph) (ha σ H0 R0 H R E _ λv H1 R1 E1 s1 e1=>kl σ H0 R0 H1 R1 E1 _ λH2 R2 E2 s2=>kh σ H0 R0 H2 R2 E2 _ λH3 R3 E3 s3=>?_)
 obtain ⟨p,rfl,hp,z⟩:=ik.mono (s2.trans s3) e1
 refine ⟨p,_,rfl,E3.sub.seq hp,λd hd=>?_⟩
 have aints:∀ys:List Int,PySem.Paired (ae.R X.K R3) (ys.map V.int) ys:=λys=>by
  induction ys with
  | nil=>exact .nil
  | cons y r ih=>exact .cons rfl ih
 refine q d _ _ R3 (E3.grow (Ext.cn E3.sub hd _)) (s1.trans (s2.trans s3)) au (E3.sub.free hd) (E3.ext.h.free hd) (E3.off hd) ?_ (Nat.le_trans (jk _ _ _) (Nat.le_trans z (by decide)))
 unfold cut jV
 rw [length_map]
 exact fh _ (gw _ (aints xs))
theorem qc {b:Expr}{pos:Pos}{ys:List α}(ha:EV X a Γ (af r) xs Γ1)(hb:EV X b Γ1 (af r) ys Γ2)(hz:xs.length + ys.length<=sizeLine):aY X (.BinOp a .Add b pos) Γ r (xs++ys) Γ2:=by
 intro σ H0 R0 H R E Q q
 refine eS (l9 oK aE aE) (ha σ H0 R0 H R E _ λv H1 R1 E1 s1 e1=>hb σ H0 R0 H1 R1 E1 _ λu H2 R2 E2 s2 e2=>?_)
 obtain ⟨p,vs,rfl,hp,pp,z⟩:=(af r).mono s2 e1
 obtain ⟨p',ws,rfl,hp',pp',z'⟩:=e2
 refine ⟨p,p',vs,ws,rfl,rfl,E2.sub _ _ hp,E2.sub _ _ hp',by rw [pp.length,pp'.length];exact hz,λd hd=>?_⟩
 exact q d _ _ R2 (E2.grow (Ext.cn E2.sub hd _)) (s1.trans s2) au (E2.sub.free hd) (E2.ext.h.free hd) (E2.off hd) (ca pp pp') (by rw [length_append];exact hz)
theorem lH {F:α->β->Prop}{vs:List α}{xs:List β}(h:PySem.Paired F vs xs):∀k:Nat,PySem.Paired F (List.replicate k vs).flatten (List.replicate k xs).flatten
 | 0=>.nil
 | k + 1=>by rw [replicate_succ,replicate_succ];exact ca h (lH h k)
theorem ky {b:Expr}{pos:Pos}{k:Int}(ha:EV X a Γ (af r) xs Γ1)(hb:EV X b Γ1 ae k Γ2)(h1: -(2 ^ 63)<=k)(h2:k < 2 ^ 63)(hz:xs.length * k.toNat<=sizeLine):aY X (.BinOp a .Mult b pos) Γ r (List.replicate k.toNat xs).flatten Γ2:=by
 intro σ H0 R0 H R E Q q
 refine eS (l9 A2 aE aE) (ha σ H0 R0 H R E _ λv H1 R1 E1 s1 e1=>hb σ H0 R0 H1 R1 E1 _ λu H2 R2 E2 s2 e2=>?_)
 obtain ⟨p,vs,rfl,hp,pp,z⟩:=(af r).mono s2 e1
 refine ⟨p,k,vs,rfl,e2,E2.sub _ _ hp,h1,h2,by rw [pp.length];exact hz,λd hd=>?_⟩
 exact q d _ _ R2 (E2.grow (Ext.cn E2.sub hd _)) (s1.trans s2) au (E2.sub.free hd) (E2.ext.h.free hd) (E2.off hd) (lH pp _) (by rw [qQ,Nat.mul_comm];exact hz)
theorem bQ {p pos:Pos}(hm:X.mg "len"=none)(ha:EV X a Γ (af r) xs Γ1)(hs:starEach [a] X.env=[(false,eval a X.env)]:=by rfl)(hg:Gl X "len":=by rfl):EV X (.Call (.Name "len" p) [a] [] pos) Γ ae (xs.length:Int) Γ1:=by
 intro σ H0 R0 H R E Q q
 refine eS (dA eE hg hm PySem.boot_len (aL aE bz hs) (by decide) (by decide) hs) (ha σ H0 R0 H R E _ λv H1 R1 E1 s1 e1=>?_)
 obtain ⟨p,vs,rfl,hp,pp,z⟩:=e1
 refine ⟨p,vs,rfl,.inl (aM.of (E1.sub _ _ hp)),?_⟩
 rw [pp.length]
 exact q _ H1 R1 E1 s1 rfl
end
section
variable {X:Cx}{Γ Γ1 Γ2 Γ3:Ga}{α β γ δ:Type}{N:Ga->Prop}{T:RT}
variable {r:aD α}{e:Expr}{x:Str}{p1:Pos}{y:α}
theorem Bo {Γ':Ga}(w:Wk Γ Γ')(h:N Γ'):WS X [] Γ N T:=λσ H0 R0 H R E D dn dr=>xP yq (dn σ H R Γ' (E.weak w) (aj.refl _) h)
theorem bu (h:N Γ):WS X [] Γ N T:=Bo (Wk.refl Γ) h
theorem ai {st:Stmt}{rest:List Stmt}(h:W1 X st Γ (λΓ'=>WS X rest Γ' N T) T):WS X (st::rest) Γ N T:=λσ H0 R0 H R E D dn dr=>
 xP (la xv fB) (h σ H0 R0 H R E {D with nx:=lN X rest D} (λσ' H' R' Γ' E' s' h'=>h' σ' H0 R0 H' R' E' D (λσ2 H2 R2 Γ2 E2 s2=>dn σ2 H2 R2 Γ2 E2 (s'.trans s2)) dr) dr)
theorem ak {st:Stmt}(h:W1 X st Γ N T):WS X [st] Γ N T:=λσ H0 R0 H R E D dn dr=>xP (qf xv) (h σ H0 R0 H R E D dn dr)
theorem bg (i:Nat){pos:Pos}(he:EV X e Γ r y Γ1)(h:N (Γ1.set i (.im r y)))(hN:X.N.Nodup:=by first | assumption | decide)(hi:X.N[i]?=some x:=by rfl)(hx:autoParam (Loc X.env.scope x) vA2)
 (hs:swapsWith e (some (.Name x p1)) pos.line X.env=pure false:=by rfl) (hf:autoParam (X.fn x=true∨X.env.scope.names.lookup x=some .local) vA3):W1 X (.Assign [.Name x p1] e pos) Γ N T:=λσ H0 R0 H R E D dn dr=>
 sS (d6 hN hi hx aE hs hf) (he σ H0 R0 H R E _ λv H1 R1 E1 s1 e1=>dn _ H1 R1 _ (E1.set i e1) s1 h)
theorem cG (i:Nat){pos:Pos}{ys:List α}(he:aY X e Γ r ys Γ1)(h:N (Γ1.set i (.mu r ys)))(hN:X.N.Nodup:=by first | assumption | decide)(hi:X.N[i]?=some x:=by rfl)(hx:autoParam (Loc X.env.scope x) vA2)
 (hs:swapsWith e (some (.Name x p1)) pos.line X.env=pure false:=by rfl) (hf:autoParam (X.fn x=true∨X.env.scope.names.lookup x=some .local) vA3):W1 X (.Assign [.Name x p1] e pos) Γ N T:=λσ H0 R0 H R E D dn dr=>
 sS (d6 hN hi hx aE hs hf) (he σ H0 R0 H R E _ λa vs H1 R1 E1 s1 ha hR h0 off p z=>dn _ H1 R1 _ (E1.my (u:=.lst vs) (en:=.mu r ys) i ⟨a,vs,rfl,ha,hR,p⟩ h0 λj e _ q w=>off j e q w) s1 h)
theorem CK {tg:Expr}{pos:Pos}{bf:α->Ga->Ga}(he:EV X e Γ r y Γ1)(hb:BG X tg r bf)(h:N (bf y Γ1))
 (hs:swapsWithSole [tg] e pos.line X.env=pure false:=by rfl) (hw:swappedStores [tg] e X.env=pure none:=by rfl) (h1:(assignEach [tg] X.env).map (·.2)=[assign tg X.env]:=by rfl):W1 X (.Assign [tg] e pos) Γ N T:=λσ H0 R0 H R E D dn dr=>
 sS (gG aE xY hs hw h1) (he σ H0 R0 H R E _ λv H1 R1 E1 s1 e1=>hb σ H0 R0 H1 R1 Γ1 v y E1 e1 _ λσ' E'=>dn σ' H1 R1 _ E' s1 h)
theorem bK {pos:Pos}{P:α->Prop}(he:EV X e Γ r y Γ1)(h:P y):W1 X (.Return (some e) pos) Γ N (bR X.K r P):=λσ H0 R0 H R E D dn dr=>
 sS (fg aE) (he σ H0 R0 H R E _ λv H1 R1 E1 s1 e1=>dr v H1 R1 E1.ext ⟨y,e1,h⟩)
theorem lP {pos:Pos}{P:List α->Prop}{ys:List α}(he:aY X e Γ r ys Γ1)(h:P ys):W1 X (.Return (some e) pos) Γ N (fR X.K r P):=λσ H0 R0 H R E D dn dr=>
 sS (fg aE) (he σ H0 R0 H R E _ λa vs H1 R1 E1 s1 ha hR h0 off p z=>dr _ H1 R1 E1.ext ⟨a,vs,ys,rfl,h0,ha,hR,p,z,h⟩)
theorem bL {c:Expr}{a b:List Stmt}{pos:Pos}{k:Bool}(hc:TV X c Γ k Γ1)(h1:k=true->WS X a Γ1 N T)(h2:k=false->WS X b Γ1 N T):W1 X (.If c a b pos) Γ N T:=λσ H0 R0 H R E D dn dr=>by
 refine sS (xS i5 fB fB) (hc σ H0 R0 H R E _ λH1 R1 E1 s1=>?_)
 cases k with
 | true=>exact iH (h1 rfl σ H0 R0 H1 R1 E1 D (λσ2 H2 R2 Γ2 E2 s2=>dn σ2 H2 R2 Γ2 E2 (s1.trans s2)) dr)
 | false=>exact iN (h2 rfl σ H0 R0 H1 R1 E1 D (λσ2 H2 R2 Γ2 E2 s2=>dn σ2 H2 R2 Γ2 E2 (s1.trans s2)) dr)
theorem aG (i:Nat){pos:Pos}(hN:X.N.Nodup:=by first | assumption | decide)(hi:X.N[i]?=some x:=by rfl)(hx:autoParam (Loc X.env.scope x) vA2)(hf:autoParam (X.fn x=true∨X.env.scope.names.lookup x=some .local) vA3):
 BG X (.Name x pos) r (λy Γ=>Γ.set i (.im r y)):=λσ H0 R0 H R Γ v x E h Q q=>gS (dO hN hi hx hf) (q _ (E.set i h))
theorem fG (i j:Nat){y:Str}{k:Nat}{p2 pos:Pos}{r':aD β}(hc:X.calm=true:=by rfl)(hN:X.N.Nodup:=by first | assumption | decide)(hi:X.N[i]?=some x:=by rfl)(hx:autoParam (Loc X.env.scope x) vA2)(hf:autoParam (X.fn x=true∨X.env.scope.names.lookup x=some .local) vA3)
 (hj:X.N[j]?=some y:=by rfl) (hy:autoParam (Loc X.env.scope y) vA2) (hf':autoParam (X.fn y=true∨X.env.scope.names.lookup y=some .local) vA3):
 BG X (.Tuple [.Name x p1,.Name y p2] k pos) (av r r') (λw Γ=>(Γ.set i (.im r w.1)).set j (.im r' w.2)):=λσ H0 R0 H R Γ v w E h Q q=>by
 obtain ⟨a,v1,v2,rfl,ha,e1,e2⟩:=h
 exact gS (vk hc (dv (dO hN hi hx hf) (dv (dO hN hj hy hf') kg))) ⟨a,_,rfl,dm.of (E.sub _ _ ha),rfl,v1,[v2],rfl,v2,[],rfl,rfl,q _ ((E.set i e1).set j e2)⟩
theorem jw {F:α->β->Prop}:∀{vs:List α} {xs:List β},PySem.Paired F vs xs->∀{i:Nat} {v:α},vs[i]?=some v->∃y,xs[i]?=some y/\F v y
 | _,_,.nil,i,y,h=>by simp at h
 | _,_,.cons h t,0,y,e=>by simp at e;subst e;exact ⟨_,rfl,h⟩
 | _,_,.cons h t,i + 1,y,e=>by
   obtain ⟨v,e1,e2⟩:=jw t (i:=i) (v:=y) (by simpa using e)
   exact ⟨v,by simpa using e1,e2⟩
end
section
variable {X:Cx}{Γ Γ1 Γ2 Γ3:Ga}{α β γ δ:Type}{N:Ga->Prop}{T:RT}
variable {x:Str}{p1:Pos}{r:aD α}{xs:List α}{kvs:List (Int×V)}{v:V}{e:Expr}{y:α}{p2:Pos}
theorem at_of {σ:St}{i:Nat}(e:(σ[i]?).join=some v):σ[i]?=some (some v):=by
 cases es:σ[i]? with
 | none=>rw [es] at e;cases e
 | some o=>rw [es] at e;exact congrArg some e
theorem f7 {c:Expr}{body:List Stmt}{pos:Pos}(I:Nat->Ga->Prop){m0:Nat}(h0:I m0 Γ)
 (hstep:∀(m:Nat) (Γ:Ga),I m Γ->∃(k:Bool) (Γ':Ga),TV X c Γ k Γ'/\(k=true->WS X body Γ' (λΓ''=>∃m',m' < m/\I m' Γ'') T)/\(k=false->N Γ'))
 (hp:PassesOwn (model X.prog X.w) X.A X.env X.xe:=by exact PassesOwn.never):W1 X (.While c body [] pos) Γ N T:=λσ H0 R0 H R E D dn dr=>by
 refine sS (nX hp i5 fB) ?_
 refine ⟨λm σ' H'=>∃R' Γ',ao X.K σ' H0 R0 H' R' Γ'/\aj R R'/\I m Γ',⟨m0,R,Γ,E,aj.refl _,h0⟩,?_⟩
 rintro m σ' H' ⟨R',Γ',E',s',hI⟩
 obtain ⟨k,Γ2,ht,h1,h2⟩:=hstep m Γ' hI
 refine ht σ' H0 R0 H' R' E' _ λH1 R1 E1 s1=>?_
 cases k with
 | true=>
   refine iH ⟨_,λσ2 H2 h=>h,h1 rfl σ' H0 R0 H1 R1 E1 _ (λσ3 H3 R3 Γ3 E3 s3 h3=>?_) dr⟩
   obtain ⟨m',hm,hI'⟩:=h3
   exact ⟨m',hm,R3,Γ3,E3,s'.trans (s1.trans s3),hI'⟩
 | false=>exact iN (dn σ' H1 R1 Γ2 E1 (s'.trans s1) (h2 rfl))
theorem cS (i:Nat){ap cp pos:Pos}(he:EV X e Γ r y Γ1)(hΓ:Γ[i]?=some (.mu r xs))(hΓ1:Γ1[i]?=some (.mu r xs))(hz:xs.length < sizeLine)(h:N (Γ1.set i (.mu r (xs++[y]))))
 (hN:X.N[i]?=some x:=by rfl) (hv:autoParam (bS X.env.scope x) vA1)
 (hd:Dg0 x:=by decide) (hcd:Cd0 x:=by decide)
 (hsw:swapsWith (.Call (.Attribute (.Name x p1) "append" ap) [e] [] cp) none pos.line X.env=pure false:=by rfl)
 (hbase:attributeBase (.Name x p1) "append" X.env (eval (.Name x p1) X.env)=eval (.Name x p1) X.env:=by rfl)
 (hfew:((backTo cp (starEach [e] X.env)).all (λx=> !x.1)&&(backToKw cp (keywordEach [] X.env)).all (λx=>x.1.isSome)
  &&decide ([e].length + ([]:List Keyword).length + (if ([]:List Keyword).isEmpty then 0 else 1) < 30))=true:=by rfl)
 (hline:(ap.endLine==cp.line)=true:=by rfl) (hs:starEach [e] X.env=(false,eval e X.env)::starEach [] X.env:=by rfl):W1 X (.Expr (.Call (.Attribute (.Name x p1) "append" ap) [e] [] cp) pos) Γ N T:=λσ H0 R0 H R E D dn dr=>by
 obtain ⟨a,vs,ea,ha,hR,pp⟩:=E.ent i _ hΓ
 refine sS (dR (fN PySem.F.plainAttrs_list PySem.F.slot_list_append PySem.F.type_list_append eA (aX hN hv hd hcd) (aL aE bz hs) hbase hfew hline hs rfl) hsw) ?_
 refine ⟨.ref a,at_of ea,.inl ⟨rfl,vs,aM.of ha⟩,he σ H0 R0 H R E _ λv H1 R1 E1 s1 e1=>?_⟩
 obtain ⟨a',vs',ea',ha',hR',pp'⟩:=E1.ent i _ hΓ1
 rw [ea] at ea';cases ea'
 refine ⟨a,vs',v,rfl,rfl,ha',by rw [pp'.length];exact hz,?_⟩
 exact dn σ _ R1 _ (E1.upd (en:=.mu r (xs++[y])) hΓ1 rfl ea hR' ⟨a,_,rfl,au,hR',ca pp' (.cons e1 .nil)⟩) s1 h
theorem gX {F:α->β->Prop}{v:α}{y:β}(h:F v y):∀{vs:List α} {xs:List β} (i:Nat),PySem.Paired F vs xs->PySem.Paired F (vs.set i v) (xs.set i y)
 | _,_,_,.nil=>.nil
 | _,_,0,.cons _ t=>.cons h t
 | _,_,i + 1,.cons q t=>.cons q (gX h i t)
theorem rm (i:Nat){b:Expr}{pos:Pos}{k:Int}{j:Nat}(he:EV X e Γ r y Γ1)(hb:EV X b Γ1 ae k Γ2)(hΓ1:Γ1[i]?=some (.mu r xs))(hΓ2:Γ2[i]?=some (.mu r xs))(hj:dP xs.length k=some j)(h:N (Γ2.set i (.mu r (xs.set j y))))
 (hN:X.N[i]?=some x:=by rfl) (hv:autoParam (bS X.env.scope x) vA1)
 (hd:Dg0 x:=by decide) (hcd:Cd0 x:=by decide)
 (ha:∀v,assign (.Subscript (.Name x p1) b p2) X.env v=(do
  let ov ← holding [v] (eval (.Name x p1) X.env)
  let iv ← holding [v,ov] (eval b X.env)
  standAt p2
  holding [v,ov,iv] (setItem ov iv v)
  release [v,ov,iv] []):=by intro _;rfl)
 (hs:swapsWithSole [.Subscript (.Name x p1) b p2] e pos.line X.env=pure false:=by rfl) (hw:swappedStores [.Subscript (.Name x p1) b p2] e X.env=pure none:=by rfl) (h1:(assignEach [.Subscript (.Name x p1) b p2] X.env).map (·.2)=[assign (.Subscript (.Name x p1) b p2) X.env]:=by rfl):
 W1 X (.Assign [.Subscript (.Name x p1) b p2] e pos) Γ N T:=λσ H0 R0 H R E D dn dr=>by
 refine sS (gG aE (jX (aX hN hv hd hcd) aE set_list ha) hs hw h1) (he σ H0 R0 H R E _ λv H1 R1 E1 s1 e1=>?_)
 obtain ⟨a,vs,ea,hp,hR,pp⟩:=E1.ent i _ hΓ1
 refine ⟨.ref a,at_of ea,hb σ H0 R0 H1 R1 E1 _ λu H2 R2 E2 s2 e2=>?_⟩
 obtain ⟨a',vs',ea',ha',hR',pp'⟩:=E2.ent i _ hΓ2
 rw [ea] at ea';cases ea'
 refine ⟨a,vs',k,j,rfl,e2,ha',by rw [pp'.length];exact hj,?_⟩
 exact dn σ _ R2 _ (E2.upd (en:=.mu r (xs.set j y)) hΓ2 rfl ea hR' ⟨a,_,rfl,au,hR',gX (r.mono s2 e1) j pp'⟩) (s1.trans s2) h
theorem md {F:α->β->Prop}{vs:List α}{xs:List β}(p:PySem.Paired F vs xs):PySem.Paired F vs.dropLast xs.dropLast:=by
 rw [List.dropLast_eq_take,List.dropLast_eq_take,p.length]
 exact fh _ p
theorem n9 (i:Nat){ap cp:Pos}(hΓ:Γ[i]?=some (.mu r xs))(hy:xs[xs.length - 1]?=some y)
 (hN:X.N[i]?=some x:=by rfl) (hv:autoParam (bS X.env.scope x) vA1)
 (hd:Dg0 x:=by decide) (hcd:Cd0 x:=by decide)
 (hbase:attributeBase (.Name x p1) "pop" X.env (eval (.Name x p1) X.env)=eval (.Name x p1) X.env:=by rfl) (hline:(ap.endLine==cp.line)=true:=by rfl):
 EV X (.Call (.Attribute (.Name x p1) "pop" ap) [] [] cp) Γ r y (Γ.set i (.mu r xs.dropLast)):=by
 intro σ H0 R0 H R E Q q
 obtain ⟨a,vs,ea,ha,hR,pp⟩:=E.ent i _ hΓ
 obtain ⟨v,hv',hr⟩:=dS pp hy
 refine eS (tE PySem.F.plainAttrs_list PySem.F.slot_list_pop PySem.F.type_list_pop tR (aX hN hv hd hcd) hbase hline) ⟨.ref a,at_of ea,.inl ⟨rfl,vs,aM.of ha⟩,?_⟩
 refine ⟨a,vs,v,rfl,rfl,ha,by rw [pp.length];exact hv',?_⟩
 exact q v _ R (E.upd hΓ rfl ea hR ⟨a,_,rfl,au,hR,md pp⟩) (aj.refl _) hr
theorem lS (i:Nat){pos:Pos}(hΓ:Γ[i]?=some (.mu r xs))(hN:X.N[i]?=some x:=by rfl)(hv:autoParam (bS X.env.scope x) vA1)
 (hd:Dg0 x:=by decide) (hcd:Cd0 x:=by decide)
 (he:∀whole,isTrue (.Name x pos) X.env whole=(do let v ← whole;standAt (Expr.Name x pos).pos;holding [v] (truthy v)):=by intro _;rfl):TV X (.Name x pos) Γ (!xs.isEmpty) Γ:=by
 intro σ H0 R0 H R E Q q
 obtain ⟨a,vs,ea,ha,hR,pp⟩:=E.ent i _ hΓ
 refine tS (k6 (aX hN hv hd hcd) he) ⟨.ref a,at_of ea, !xs.isEmpty,.inl ⟨vs,aM.of ha,?_⟩,q H R E (aj.refl _)⟩
 cases pp<;>rfl
theorem g7 (i:Nat){p pos:Pos}(hm:X.mg "len"=none)(hΓ:Γ[i]?=some (.mu r xs))(hN:X.N[i]?=some x:=by rfl)(hv:autoParam (bS X.env.scope x) vA1)
 (hd:Dg0 x:=by decide) (hcd:Cd0 x:=by decide) (hg:Gl X "len":=by rfl):EV X (.Call (.Name "len" p) [.Name x p1] [] pos) Γ ae (xs.length:Int) Γ:=by
 intro σ H0 R0 H R E Q q
 obtain ⟨a,vs,ea,ha,hR,pp⟩:=E.ent i _ hΓ
 refine eS (dA eE hg hm PySem.boot_len (aL (aX hN hv hd hcd) bz rfl) (by decide) (by decide) rfl) ⟨.ref a,at_of ea,a,vs,rfl,.inl (aM.of ha),?_⟩
 rw [pp.length]
 exact q _ H R E (aj.refl _) rfl
theorem freeze {K:PySem.W.Frag}{σ:St}{H0 R0 H R:Hp}(E:ao K σ H0 R0 H R Γ){i:Nat}(hΓ:Γ[i]?=some (.mu r xs))(hz:xs.length<=sizeLine):∃R' v,ao K σ H0 R0 H R' (Γ.set i (.im (af r) xs))/\aj R R'/\(σ[i]?).join=some v/\(af r).R K R' v xs:=by
 obtain ⟨a,vs,ea,ha,hR,pp⟩:=E.ent i _ hΓ
 have h0:H0 a=none:=E.new i _ a hΓ rfl ea
 have s2:aj R (upd R a (.lst vs)):=aj.fresh hR _
 have rr:(af r).R K (upd R a (.lst vs)) (.ref a) xs:=⟨a,vs,rfl,au,Paired.map (λ_ _=>r.mono s2) pp,hz⟩
 have E1:ao K σ H0 R0 H R (Γ.set i .no):=E.tell hΓ trivial λb w=>by cases w
 have E2:=E1.lT ha hR h0 λj e q w=>by
  rcases set_at q with ⟨rfl,rfl,_⟩ | ⟨hj,q1⟩
  ·cases w
  ·exact hj (E.ds j i e _ a q1 hΓ w ((Ent.l5 (e:=.mu r xs) rfl).mpr ea))
 have hl:i < Γ.length:=(List.getElem?_eq_some_iff.mp hΓ).1
 have E3:=E2.tell (i:=i) (e0:=.no) (en:=.im (af r) xs) (getElem?_set_self hl) ⟨_,ea,rr⟩ λb w=>by cases w
 rw [set_set] at E3
 exact ⟨_,.ref a,E3,s2,ea,rr⟩
theorem WS.freeze (i:Nat){sts:List Stmt}(hΓ:Γ[i]?=some (.mu r xs))(hz:xs.length<=sizeLine)(h:WS X sts (Γ.set i (.im (af r) xs)) N T):WS X sts Γ N T:=λσ H0 R0 H R E D dn dr=>by
 obtain ⟨R',v,E',s',_,_⟩:=Fc.freeze E hΓ hz
 exact h σ H0 R0 H R' E' D (λσ2 H2 R2 Γ2 E2 s2=>dn σ2 H2 R2 Γ2 E2 (s'.trans s2)) dr
def sC:aD (List (Int×V)):=⟨λK H v kvs=>∃a,v= .ref a/\H a=some (.dK (cK kvs)),λs ⟨a,e,q⟩=>⟨a,e,s _ _ q⟩⟩
def gM (kvs:List (Int×V))(k:Int):Bool:=kvs.any λp=>decide (p.1=k)
theorem jM (kvs:List (Int×V))(k:Int):(cR (cK kvs) (Sum.inl k:Key)).isSome=gM kvs k:=by
 rw [← fC]
 unfold cK gM
 rw [any_map]
 congr 1
 funext p
 show decide ((Sum.inl p.1:Key)=Sum.inl k)=decide (p.1=k)
 by_cases h:p.1=k
 ·rw [h];simp
 ·rw [decide_eq_false h,decide_eq_false λz=>h (Sum.inl.inj z)]
def nN (X:Cx)(e:Expr)(Γ:Ga)(k:Int):Prop:=∀(σ:St) (H0 R0 H R:Hp),ao X.K σ H0 R0 H R Γ->∀(H':Hp) (Q:VK),Q (.int k) H'->dI X e σ H' Q
theorem uh {i:Int}{j:Nat}{pos:Pos}:nN X (.Constant (.int i) j pos) Γ i:=λσ H0 R0 H R E H' Q q=>eS d8 q
theorem rG (i:Nat){pos:Pos}{y:Int}(hΓ:Γ[i]?=some (.im ae y))(hN:X.N[i]?=some x:=by rfl)(hv:autoParam (bS X.env.scope x) vA1)
 (hd:Dg0 x:=by decide) (hcd:Cd0 x:=by decide):nN X (.Name x pos) Γ y:=λσ H0 R0 H R E H' Q q=>by
 obtain ⟨v,e,h⟩:=E.ent i _ hΓ
 cases h
 exact eS (aX hN hv hd hcd) ⟨_,at_of e,q⟩
theorem mI (i:Nat){ke ve:Expr}{pos:Pos}{k:Int}(hk:nN X ke Γ k)(hv:PE X ve (tC v))(h:N (Γ.set i (.di [(k,v)])))
 (hN:X.N.Nodup:=by first | assumption | decide) (hi:X.N[i]?=some x:=by rfl) (hx:autoParam (Loc X.env.scope x) vA2)
 (hs:swapsWith (.Dict [some ke] [ve] p2) (some (.Name x p1)) pos.line X.env=pure false:=by rfl) (hf:autoParam (X.fn x=true∨X.env.scope.names.lookup x=some .local) vA3):
 W1 X (.Assign [.Name x p1] (.Dict [some ke] [ve] p2) pos) Γ N T:=λσ H0 R0 H R E D dn dr=>by
 refine sS (d6 hN hi hx (yx (vF aE hv zi) rfl rfl (by simp) (by simp)) hs hf) λp hp=>?_
 refine hk σ H0 R0 H R E _ _ ?_
 refine ⟨au,[(Sum.inl k,v)],rfl,(by show 1<=15;decide),?_⟩
 have E1:=E.grow (Ext.cn E.sub hp (.dK (cK [(k,v)])))
 have e:upd (upd H p (.dK [])) p (.dK (iS [] [(Sum.inl k,v)]))=upd H p (.dK (cK [(k,v)])):=by
  rw [yY];rfl
 rw [e]
 exact dn _ _ R _ (E1.my (u:=.dK (cK [(k,v)])) (en:=.di [(k,v)]) i ⟨p,rfl,au,E.sub.free hp⟩ (E.ext.h.free hp) λj e _ q w=>E.off hp j e q w) (aj.refl _) h
theorem kH (i:Nat)(neg:Bool){pos:Pos}{k:Int}(hu:X.A.units + 1 < cLine)(he:EV X e Γ ae k Γ)(hΓ:Γ[i]?=some (.di kvs))(hN:X.N[i]?=some x:=by rfl)(hv:autoParam (bS X.env.scope x) vA1)
 (hd:Dg0 x:=by decide) (hcd:Cd0 x:=by decide):
 TV X (.Compare e [if neg then .NotIn else .In] [.Name x p1] pos) Γ (if neg then !gM kvs k else gM kvs k) Γ:=by
 intro σ H0 R0 H R E Q q
 cases neg with
 | false=>
   refine tS (vi (tL hu aE (aX hN hv hd hcd)) (by with_unfolding_all rfl)) (he σ H0 R0 H R E _ λv H1 R1 E1 s1 e1=>?_)
   obtain ⟨a,ea,ha,hR⟩:=E1.ent i _ hΓ
   cases e1
   refine ⟨.ref a,at_of ea,a,_,rfl,ef.k (k:=Sum.inl k) ha,_,rfl,?_⟩
   rw [jM]
   exact q H1 R1 E1 s1
 | true=>
   refine tS (vi (sQ hu aE (aX hN hv hd hcd)) (by with_unfolding_all rfl)) (he σ H0 R0 H R E _ λv H1 R1 E1 s1 e1=>?_)
   obtain ⟨a,ea,ha,hR⟩:=E1.ent i _ hΓ
   cases e1
   refine ⟨.ref a,at_of ea,a,_,rfl,ef.k (k:=Sum.inl k) ha,_,rfl,?_⟩
   rw [jM]
   exact q H1 R1 E1 s1
theorem uj (i:Nat){ke ve:Expr}{pos:Pos}{k:Int}(hu:X.A.units + 1 < cLine)(hk:EV X ke Γ ae k Γ)(hv:PE X ve (tC v))(hΓ:Γ[i]?=some (.di kvs))(hn:gM kvs k=false)(hz:kvs.length < sizeLine)(h:N (Γ.set i (.di (kvs++[(k,v)]))))
 (hN:X.N[i]?=some x:=by rfl) (hvi:autoParam (bS X.env.scope x) vA1)
 (hd:Dg0 x:=by decide) (hcd:Cd0 x:=by decide)
 (hs:swapsWith ve (some (.Subscript (.Name x p1) ke p2)) pos.line X.env=pure false:=by rfl):W1 X (.Assign [.Subscript (.Name x p1) ke p2] ve pos) Γ N T:=λσ H0 R0 H R E D dn dr=>by
 refine sS (qD hu (aX hN hvi hd hcd) aE hv hs) ?_
 obtain ⟨a,ea,ha,hR⟩:=E.ent i _ hΓ
 refine ⟨.ref a,at_of ea,hk σ H0 R0 H R E _ λu H1 R1 E1 s1 e1=>?_⟩
 obtain ⟨a',ea',ha',hR'⟩:=E1.ent i _ hΓ
 rw [ea] at ea';cases ea'
 cases e1
 refine ⟨a,_,rfl,mM.k (k:=Sum.inl k) ha' (by unfold cK;rw [length_map];exact hz),?_⟩
 have vn:cR (cK kvs) (Sum.inl k:Key)=none:=by
  have:=jM kvs k
  rw [hn] at this
  cases q:cR (cK kvs) (Sum.inl k:Key) with
  | none=>rfl
  | some z=>rw [q] at this;cases this
 rw [vH v vn]
 have e:cK kvs++[((Sum.inl k:Key),v)]=cK (kvs++[(k,v)]):=by unfold cK;rw [map_append];rfl
 rw [e]
 exact dn σ _ R1 _ (E1.upd (en:=.di (kvs++[(k,v)])) hΓ rfl ea hR' ⟨a,rfl,au,hR'⟩) s1 h
theorem BW (i:Nat){pos:Pos}{P:List (Int×V)->Prop}(hΓ:Γ[i]?=some (.di kvs))(h:P kvs)(hN:X.N[i]?=some x:=by rfl)(hv:autoParam (bS X.env.scope x) vA1)
 (hd:Dg0 x:=by decide) (hcd:Cd0 x:=by decide):W1 X (.Return (some (.Name x p1)) pos) Γ N (bR X.K sC P):=λσ H0 R0 H R E D dn dr=>by
 obtain ⟨a,ea,ha,hR⟩:=E.ent i _ hΓ
 have h0:H0 a=none:=E.new i _ a hΓ rfl ea
 refine sS (fg (aX hN hv hd hcd)) ⟨.ref a,at_of ea,dr _ H (upd R a (.dK (cK kvs))) ⟨E.ext.h,E.ext.r.trans (aj.fresh hR _),λb o qb=>?_,λb hb=>?_⟩ ⟨kvs,⟨a,rfl,au⟩,h⟩⟩
 ·by_cases hb:b=a
  ·subst hb;rw [au] at qb;cases qb;exact ha
  ·rw [aA hb] at qb;exact E.ext.s b o qb
 ·rw [aA (show b≠a from λe=>hb (by rw [e];exact h0))];exact E.ext.old b hb
theorem mD {a:Expr}{p pos:Pos}(hm:X.mg "len"=none)(ha:EV X a Γ sC kvs Γ1)(hs:starEach [a] X.env=[(false,eval a X.env)]:=by rfl)(hg:Gl X "len":=by rfl):EV X (.Call (.Name "len" p) [a] [] pos) Γ ae (kvs.length:Int) Γ1:=by
 intro σ H0 R0 H R E Q q
 refine eS (dA vo hg hm PySem.boot_len (aL aE bz hs) (by decide) (by decide) hs) (ha σ H0 R0 H R E _ λv H1 R1 E1 s1 e1=>?_)
 obtain ⟨p,rfl,hp⟩:=e1
 refine ⟨p,_,rfl,E1.sub _ _ hp,?_⟩
 unfold cK
 rw [length_map]
 exact q _ H1 R1 E1 s1 rfl
theorem fM (i:Nat)(hΓ:Γ[i]?=some (.mu r xs))(hz:xs.length<=sizeLine)(hN:X.N[i]?=some x:=by rfl)(hv:autoParam (bS X.env.scope x) vA1)
 (hd:Dg0 x:=by decide) (hcd:Cd0 x:=by decide):EV X (.Name x p1) Γ (af r) xs (Γ.set i (.im (af r) xs)):=by
 intro σ H0 R0 H R E Q q
 obtain ⟨R',v,E',s',ev,hr⟩:=Fc.freeze E hΓ hz
 exact eS (aX hN hv hd hcd) ⟨v,at_of ev,q v H R' E' s' hr⟩
end
abbrev bX:=PySem.W.Frag->List Pk->RT->Prop
def aF (S:bX)(K:PySem.W.Frag):Sp:=λvs H Q _=>∃R ps T,aj R H/\gO K R vs ps/\S K ps T/\∀v H' R',Ext H R H' R'->T H v H' R'->Q v H'
theorem gO.length {K:PySem.W.Frag}{R:Hp}:∀{vs:List V} {ps:List Pk},gO K R vs ps->vs.length=ps.length
 | _,_,.nil=>rfl
 | _,_,.cons _ t=>by rw [length_cons,length_cons,gO.length t]
structure ay (P:Program) (w:World) (K:PySem.W.Frag) (mg:Str->Option Value) (base:Heap) (x:Str) (k:Nat) (sp:Sp):Prop where
 ex:∃f fd ps,fu P w K mg base eX k f fd ps sp/\mg x=some (.ref f)/\PySem.W.keepIn K (.ref f)=true/\Binds K fd ps []
theorem ay.mono {P:Program}{w:World}{K:PySem.W.Frag}{mg:Str->Option Value}{base:Heap}{x:Str}{j k:Nat}{sp:Sp}(c:ay P w K mg base x j sp)(h:j<=k):ay P w K mg base x k sp:=by
 obtain ⟨f,fd,ps,F,a,b,c⟩:=c.ex
 exact ⟨f,fd,ps,F.mono h,a,b,c⟩
section
variable {X:Cx}{Γ Γ1 Γ2 Γ3:Ga}{α β γ δ:Type}{N:Ga->Prop}{T:RT}
variable {S:bX}{x:Str}{e:Expr}{es:List Expr}{p:Pos}{ps:List Pk}
theorem d4 {k:Nat}{pos:Pos}{Q:VK}{σ:St}{H0 R0 H R:Hp}(C:ay X.prog X.w X.K X.mg X.base x k (aF S X.K))(hr:bU k X.A)(ha:HA X (e::es) Γ ps Γ1)(hS:S X.K ps T)(E:ao X.K σ H0 R0 H R Γ)
 (q:∀H1 R1 v H' R',ao X.K σ H0 R0 H1 R1 Γ1->aj R R1->Ext H1 R1 H' R'->T H1 v H' R'->Q v H')
 (hg:Gl X x) (hdb:(x==("__debug__":Str))=false) (he:starEach (e::es) X.env=(false,eval e X.env)::starEach es X.env) (hpl:(backTo pos (starEach es X.env)).any (·.1)=false):dI X (.Call (.Name x p) (e::es) [] pos) σ H Q:=by
 obtain ⟨f,fd,pn,F,hm,hk,hb⟩:=C.ex
 refine eS (kB F hr hg hm hk hb .nil nM jY hdb he hpl) (ha σ H0 R0 H R E _ λvs H1 R1 E1 s1 p1=>?_)
 refine ⟨R1,ps,T,E1.sub,by rw [append_nil];exact p1,hS,λv H' R' x t=>q H1 R1 v H' R' E1 s1 x t⟩
theorem bA {k:Nat}{pos:Pos}{r:aD α}{y:α}(C:ay X.prog X.w X.K X.mg X.base x k (aF S X.K))(hr:bU k X.A)(ha:HA X (e::es) Γ ps Γ1)(hS:S X.K ps (bR X.K r (· =y)))
 (hg:Gl X x:=by rfl) (hdb:Dg0 x:=by decide) (he:starEach (e::es) X.env=(false,eval e X.env)::starEach es X.env:=by rfl) (hpl:(backTo pos (starEach es X.env)).any (·.1)=false:=by rfl):EV X (.Call (.Name x p) (e::es) [] pos) Γ r y Γ1:=λσ H0 R0 H R E Q q=>
 d4 C hr ha hS E (λH1 R1 v H' R' E1 s1 xx t=>by
  obtain ⟨z,e1,rfl⟩:=t
  exact q v H' R' (E1.grow xx) (s1.trans xx.r) e1) hg hdb he hpl
theorem cT {k:Nat}{pos:Pos}{r:aD α}{ys:List α}(C:ay X.prog X.w X.K X.mg X.base x k (aF S X.K))(hr:bU k X.A)(ha:HA X (e::es) Γ ps Γ1)(hS:S X.K ps (fR X.K r (· =ys)))
 (hg:Gl X x:=by rfl) (hdb:Dg0 x:=by decide) (he:starEach (e::es) X.env=(false,eval e X.env)::starEach es X.env:=by rfl) (hpl:(backTo pos (starEach es X.env)).any (·.1)=false:=by rfl):aY X (.Call (.Name x p) (e::es) [] pos) Γ r ys Γ1:=λσ H0 R0 H R E Q q=>
 d4 C hr ha hS E (λH1 R1 v H' R' E1 s1 xx t=>by
  obtain ⟨a,vs,zs,rfl,h0,h1,h2,p,z,rfl⟩:=t
  exact q a vs H' R' (E1.grow xx) (s1.trans xx.r) h1 h2 (E1.ext.h.free h0) (E1.off h0) p z) hg hdb he hpl
end
def dh (ps:List Pk)(n:Nat):Ga:=ps.map (λp=>Ent.im p.r p.x)++List.replicate (n - ps.length) .no
theorem fH {K:PySem.W.Frag}{R H:Hp}{vs:List V}{ps:List Pk}{N:List Str}(s:aj R H)(p:gO K R vs ps)(hl:ps.length<=N.length):ao K (L2.start N vs) H R H R (dh ps N.length):=by
 have noown:∀(i:Nat) (e:Ent) (o:Option V),(dh ps N.length)[i]?=some e->e.fp o=[]:=λi e o q=>by
  unfold dh at q
  rcases mem_append.mp (mem_of_getElem? q) with z | z
  ·obtain ⟨p,_,rfl⟩:=mem_map.mp z;rfl
  ·obtain ⟨_,rfl⟩:=mem_replicate.mp z;rfl
 refine ⟨Ext.refl s,λi e q=>?_,λi e a q w=>absurd w (by rw [noown i e _ q];exact not_mem_nil),λi j e e' a q _ w=>absurd w (by rw [noown i e _ q];exact not_mem_nil),?_⟩
 ·have hp:=p.length
  unfold dh at q
  unfold L2.start
  by_cases hi:i < ps.length
  ·rw [getElem?_append_left (by simpa using hi),getElem?_map] at q
   rw [getElem?_append_left (by simpa [hp] using hi),getElem?_map]
   have key:∀{vs:List V} {ps:List Pk},gO K R vs ps->∀(i:Nat) (p:Pk),ps[i]?=some p->∃v,vs[i]?=some v/\p.r.R K R v p.x:=by
    intro vs ps h
    induction h with
    | nil=>intro i p e;simp at e
    | cons a b ih=>
      intro i p e
      cases i with
      | zero=>simp at e;subst e;exact ⟨_,rfl,a⟩
      | succ i=>simpa using ih i p (by simpa using e)
   cases e1:ps[i]? with
   | none=>rw [e1] at q;cases q
   | some p1=>
     rw [e1] at q
     cases q
     obtain ⟨v,h1,h2⟩:=key p i p1 e1
     rw [h1]
     exact ⟨v,rfl,h2⟩
  ·rw [getElem?_append_right (by simpa using hi),getElem?_replicate] at q
   split at q
   ·cases q;trivial
   ·cases q
 ·unfold dh L2.start
  rw [length_append,length_append,length_map,length_map,length_replicate,length_replicate,p.length]
section
variable {P:Program}{w:World}{K:PySem.W.Frag}{mg:Str->Option Value}{base:Heap}
theorem bG {S:bX}{x qual:Str}{st:Stmt}{f:Addr}{fd:FuncData}{N ps:List Str}{k:Nat}(F:bI K x qual st f fd)(Sc:aB N ps (ah st))(hm:mg x=some (.ref f))(hb:Binds K fd ps [])(len:∀qs T,S K qs T->qs.length=ps.length)
 (hbody:∀(cdv:Value) (A:Around) (outer:List Env) (s:Shared) (H:Hp) (E:XK) (qs:List Pk) (T:RT),bU k (A.deeper (envOfC qual (ah st) s.heap.objs.size f cdv))->S K qs T->
  WS (eh eX P w K mg base N qual (ah st) f cdv A outer s H E).gN (cg st) (dh qs N.length) (λ_=>False) T):ay P w K mg base x (k + 1) (aF S K):=by
 refine ⟨f,fd,ps,?_,hm,F.kp,hb⟩
 refine F.ok Sc (λvs H Q E h=>?_) (λcdv A outer s H vs Q E hr h=>?_)
 ·obtain ⟨R,qs,T,_,p,hS,_⟩:=h
  rw [p.length];exact len qs T hS
 ·obtain ⟨R,qs,T,sR,p,hS,q⟩:=h
  have hl:qs.length<=N.length:=by
   rw [len qs T hS]
   have:=congrArg List.length Sc.pre
   rw [length_take] at this
   omega
  exact ⟨_,fB,hbody cdv A outer s H E qs T hr hS (L2.start N vs) H R H R (fH sR p hl) {nx:=λ_ H'=>Q .non H',rt:=Q} (λ_ _ _ _ _ _ f=>f.elim) λv H' R' xx t=>q v H' R' xx t⟩
end
section
variable {X:Cx}{Γ Γ1 Γ2 Γ3:Ga}{α β γ δ:Type}{N:Ga->Prop}{T:RT}
variable {a:Expr}{p:Pos}
theorem pz {bs:List Bool}{us:List Value}(r:aK (bs.map V.bl) us){j:Nat}{v:Value}(h:us.toArray[j]?=some v):v= .bool (bs.getD j true):=by
 induction bs generalizing us j with
 | nil=>cases r;simp at h
 | cons b r' ih=>
   cases r with
   | cons h1 t=>
     cases j with
     | zero=>simp at h;rw [← h];exact h1
     | succ j=>exact ih t (by simpa using h)
theorem all_range (bs:List Bool):((List.range bs.length).all λj=>bs.getD j true)=bs.all id:=by
 rw [Bool.eq_iff_iff,all_eq_true,all_eq_true]
 constructor
 ·intro h b hb
  obtain ⟨j,hj,rfl⟩:=mem_iff_getElem.mp hb
  have:=h j (mem_range.mpr hj)
  simpa [getD_eq_getElem?_getD,getElem?_eq_getElem hj] using this
 ·intro h j hj
  have hj:=mem_range.mp hj
  simpa [getD_eq_getElem?_getD,getElem?_eq_getElem hj] using h _ (getElem_mem hj)
theorem any_range (bs:List Bool):((List.range bs.length).any λj=>bs.getD j true)=bs.any id:=by
 rw [Bool.eq_iff_iff,any_eq_true,any_eq_true]
 constructor
 ·rintro ⟨j,hj,h⟩
  have hj:=mem_range.mp hj
  exact ⟨_,getElem_mem hj,by simpa [getD_eq_getElem?_getD,getElem?_eq_getElem hj] using h⟩
 ·rintro ⟨b,hb,h⟩
  obtain ⟨j,hj,rfl⟩:=mem_iff_getElem.mp hb
  exact ⟨j,mem_range.mpr hj,by simpa [getD_eq_getElem?_getD,getElem?_eq_getElem hj] using h⟩
theorem vD (hc:X.calm=true):dD X (.builtin "all") (λxs H Q=>∃(p:Addr) (bs:List Bool),xs=[.ref p]/\aM X.K H p (bs.map V.bl)/\Q (.bl (bs.all id)) H):=by
 intro pins s σ H xs us Q I r h
 obtain ⟨p,bs,rfl,hq,q⟩:=h
 obtain ⟨u,rfl,rx⟩:=vals1 r
 cases rx
 obtain ⟨its,r',pl,hz⟩:=I.list hq
 have hne:p≠s.heap.objs.size:=λe=>by obtain ⟨o,ho,_⟩:=pl.isList;exact absurd (Heap.lt_size ho) (by rw [e];exact Nat.lt_irrefl _)
 refine call_all_walk (wpAny_pyIter_list pl.isList ?_)
 refine ⟨s.heap.objs.size,_,[s.heap.objs.size],its.toArray.size,_,_,λj=>bs.getD j true,rfl,Walks.list (A:=X.A.in1) (show X.A.in1.handled=none from I.ok.hd hc) s.heap.objs.size p hne its.toArray,?_,λj v s Q E hv hQ=>?_,λh' tk hk=>?_⟩
 ·refine ⟨⟨_,Heap.get?_push_size _ rfl,rfl,rfl⟩,?_⟩
  obtain ⟨o,ho,c,n,d⟩:=pl.isList
  exact ⟨o,Heap.get?_push_of_some _ ho,c,n,d⟩
 ·rw [pz r' hv];exact wpAny_truthy_bool hQ
 ·have e:its.toArray.size=bs.length:=by rw [size_toArray,← r'.length,length_map]
  rw [e,all_range]
  exact ⟨.bl _,H,I.kept λb o e=>hk b o (λz=>absurd (Heap.lt_size e) (by rw [mem_singleton.mp z];exact Nat.lt_irrefl _)) (Heap.get?_push_of_some _ e),rfl,q⟩
theorem vN (hc:X.calm=true):dD X (.builtin "any") (λxs H Q=>∃(p:Addr) (bs:List Bool),xs=[.ref p]/\aM X.K H p (bs.map V.bl)/\Q (.bl (bs.any id)) H):=by
 intro pins s σ H xs us Q I r h
 obtain ⟨p,bs,rfl,hq,q⟩:=h
 obtain ⟨u,rfl,rx⟩:=vals1 r
 cases rx
 obtain ⟨its,r',pl,hz⟩:=I.list hq
 have hne:p≠s.heap.objs.size:=λe=>by obtain ⟨o,ho,_⟩:=pl.isList;exact absurd (Heap.lt_size ho) (by rw [e];exact Nat.lt_irrefl _)
 refine call_any_walk (wpAny_pyIter_list pl.isList ?_)
 refine ⟨s.heap.objs.size,_,[s.heap.objs.size],its.toArray.size,_,_,λj=>bs.getD j true,rfl,Walks.list (A:=X.A.in1) (show X.A.in1.handled=none from I.ok.hd hc) s.heap.objs.size p hne its.toArray,?_,λj v s Q E hv hQ=>?_,λh' tk hk=>?_⟩
 ·refine ⟨⟨_,Heap.get?_push_size _ rfl,rfl,rfl⟩,?_⟩
  obtain ⟨o,ho,c,n,d⟩:=pl.isList
  exact ⟨o,Heap.get?_push_of_some _ ho,c,n,d⟩
 ·rw [pz r' hv];exact wpAny_truthy_bool hQ
 ·have e:its.toArray.size=bs.length:=by rw [size_toArray,← r'.length,length_map]
  rw [e,any_range]
  exact ⟨.bl _,H,I.kept λb o e=>hk b o (λz=>absurd (Heap.lt_size e) (by rw [mem_singleton.mp z];exact Nat.lt_irrefl _)) (Heap.get?_push_of_some _ e),rfl,q⟩
theorem lu {K:PySem.W.Frag}{R:Hp}:∀{vs:List V} {xs:List Bool},PySem.Paired (aW.R K R) vs xs->vs=xs.map V.bl
 | _,_,.nil=>rfl
 | _,_,.cons h t=>by rw [map_cons,← lu t];exact congrArg (· ::_) h
theorem nL {x:Str}{id:String}{r:List V->Hp->VK->Prop}{pos:Pos}{ra:aD α}{rb:aD β}{y:α}{z:β}(hc:dD X (.builtin id) r)(hm:X.mg x=none)(hv:bootBuiltins x=some (.builtin id))(ha:EV X a Γ ra y Γ1)
 (h:∀(R H:Hp) v Q,aj R H->ra.R X.K R v y->(∀w,rb.R X.K R w z->Q w H)->r [v] H Q) (hs:starEach [a] X.env=[(false,eval a X.env)]:=by rfl) (hg:Gl X x:=by rfl) (hn:x≠"__name__":=by decide) (hdb:Dg0 x:=by decide):
 EV X (.Call (.Name x p) [a] [] pos) Γ rb z Γ1:=by
 intro σ H0 R0 H R E Q q
 exact eS (dA hc hg hm hv (aL aE bz hs) hn hdb hs) (ha σ H0 R0 H R E _ λv H1 R1 E1 s1 e1=>h R1 H1 v _ E1.sub e1 λw hw=>q w H1 R1 E1 s1 hw)
theorem fe {pos:Pos}{bs:List Bool}(hm:X.mg "all"=none)(ha:EV X a Γ (af aW) bs Γ1)(hs:starEach [a] X.env=[(false,eval a X.env)]:=by rfl)(hc:X.calm=true:=by rfl)(hg:Gl X "all":=by rfl):EV X (.Call (.Name "all" p) [a] [] pos) Γ aW (bs.all id) Γ1:=
 nL (vD hc) hm boot_all ha (λR H v Q s ⟨p,vs,e,hp,pp,_⟩ q=>⟨p,bs,by rw [e],by rw [← lu pp];exact aM.of (s _ _ hp),q _ rfl⟩) hs hg
theorem Aq {pos:Pos}{bs:List Bool}(hm:X.mg "any"=none)(ha:EV X a Γ (af aW) bs Γ1)(hs:starEach [a] X.env=[(false,eval a X.env)]:=by rfl)(hc:X.calm=true:=by rfl)(hg:Gl X "any":=by rfl):EV X (.Call (.Name "any" p) [a] [] pos) Γ aW (bs.any id) Γ1:=
 nL (vN hc) hm boot_any ha (λR H v Q s ⟨p,vs,e,hp,pp,_⟩ q=>⟨p,bs,by rw [e],by rw [← lu pp];exact aM.of (s _ _ hp),q _ rfl⟩) hs hg
theorem oj {pos:Pos}{r:aD α}{xs:List α}(hm:X.mg "list"=none)(ha:EV X a Γ (af r) xs Γ1)(hs:starEach [a] X.env=[(false,eval a X.env)]:=by rfl)(hg:Gl X "list":=by rfl):aY X (.Call (.Name "list" p) [a] [] pos) Γ r xs Γ1:=by
 intro σ H0 R0 H R E Q q
 refine eS (gJ jW hg hm PyProof.Rows.boot_list (aL aE bz hs) (by decide) (by decide) hs) (ha σ H0 R0 H R E _ λv H1 R1 E1 s1 e1=>?_)
 obtain ⟨p,vs,rfl,hp,pp,z⟩:=e1
 exact ⟨p,vs,rfl,.inl (aM.of (E1.sub _ _ hp)),λl hl=>q l vs _ R1 (E1.grow (Ext.cn E1.sub hl _)) s1 au (E1.sub.free hl) (E1.ext.h.free hl) (E1.off hl) pp z⟩
theorem vy (hc:X.calm=true):dD X (.builtin "max") (λxs H Q=>∃(p:Addr) (ns:List Int),xs=[.ref p]/\aM X.K H p (ns.map V.int)/\ns≠[]/\∀M,M∈ns->(∀a∈ns,a<=M)->Q (.int M) H):=by
 intro pins s σ H xs us Q I r h
 obtain ⟨p,ns,rfl,hq,hne,q⟩:=h
 obtain ⟨u,rfl,rx⟩:=vals1 r
 cases rx
 obtain ⟨its,r',pl,hz⟩:=I.list hq
 have hi:=intsAre_of r'
 have hne:0 < ns.length:=length_pos_iff.mpr hne
 have hl:=pl.isList
 obtain ⟨xs,e⟩:=hi.allInts.items
 have hns:ns=xs.toList.map (·.1):=by rw [← hi.numsOf,← nums_intItems,← e]
 have hsz:0 < xs.size:=by
  have h3:=hne;rw [hns,length_map,Array.length_toList] at h3;exact h3
 rw [e] at hl
 refine max_intList (I.ok.hd hc) hl hsz λv h' tk hv hk=>?_
 obtain ⟨t,rfl⟩:=intItems_at hv
 obtain ⟨h1,h2⟩:=argBest_gt (numAt xs) (xs.size - 1)
 refine ⟨.int _,H,I.kept hk,⟨t,rfl⟩,q _ ?_ λa ha=>?_⟩
 ·rw [hns,numAt_eq];exact getD_mem (by rw [length_map,Array.length_toList];omega)
 ·rw [hns] at ha
  obtain ⟨j,hj,rfl⟩:=mem_getD ha
  rw [length_map,Array.length_toList] at hj
  rw [← numAt_eq];exact h2 j (by omega)
def least:List Int->Int
 | []=>0
 | [x]=>x
 | x::y::r=>min x (least (y::r))
def most:List Int->Int
 | []=>0
 | [x]=>x
 | x::y::r=>max x (most (y::r))
theorem ko:∀{ns:List Int} {M:Int},M∈ns->(∀a∈ns,a<=M)->most ns=M:=by
 have key:∀(ns:List Int),ns≠[]->most ns∈ns/\∀a∈ns,a<=most ns:=by
  intro ns
  induction ns with
  | nil=>intro h;exact absurd rfl h
  | cons x r ih=>
    intro _
    cases r with
    | nil=>simp [most]
    | cons y r=>
      obtain ⟨h1,h2⟩:=ih (by simp)
      show max x (most (y::r))∈_/\_
      refine ⟨?_,λa ha=>?_⟩
      ·rcases Int.le_total x (most (y::r)) with h | h
       ·rw [Int.max_eq_right h];exact mem_cons_of_mem _ h1
       ·rw [Int.max_eq_left h];exact mem_cons_self
      ·show a<=max x (most (y::r))
       rcases mem_cons.mp ha with rfl | ha
       ·exact Int.le_max_left _ _
       ·exact Int.le_trans (h2 a ha) (Int.le_max_right _ _)
 intro ns M h1 h2
 obtain ⟨h3,h4⟩:=key ns (λe=>by rw [e] at h1;cases h1)
 exact Int.le_antisymm (h2 _ h3) (h4 M h1)
theorem za {pos:Pos}{ns:List Int}(hm:X.mg "max"=none)(ha:EV X a Γ (af ae) ns Γ1)(hne:ns≠[])(hs:starEach [a] X.env=[(false,eval a X.env)]:=by rfl)(hc:X.calm=true:=by rfl)(hg:Gl X "max":=by rfl):EV X (.Call (.Name "max" p) [a] [] pos) Γ ae (most ns) Γ1:=
 nL (vy hc) hm PyProof.Rows.boot_max ha (λR H v Q s ⟨p,vs,e,hp,pp,_⟩ q=>⟨p,ns,by rw [e],by rw [← dM pp];exact aM.of (s _ _ hp),hne,λM h1 h2=>by rw [← ko h1 h2];exact q _ rfl⟩) hs hg
theorem yQ {b:Expr}{pos:Pos}{x y:Int}(hm:X.mg "min"=none)(ha:HA X [a,b] Γ [⟨ae,x⟩,⟨ae,y⟩] Γ1)(hs:starEach [a,b] X.env=(false,eval a X.env)::starEach [b] X.env:=by rfl)(hc:X.calm=true:=by rfl)(hg:Gl X "min":=by rfl)(hpl:(backTo pos (starEach [b] X.env)).any (·.1)=false:=by rfl):EV X (.Call (.Name "min" p) [a,b] [] pos) Γ ae (if y < x then y else x) Γ1:=by
 intro σ H0 R0 H R E Q q
 refine eS (dA (ui hc) hg hm PyProof.Rows.boot_min jY (by decide) (by decide) hs hpl) (ha σ H0 R0 H R E _ λvs H1 R1 E1 s1 p1=>?_)
 cases p1 with
 | cons a1 t=>cases t with
   | cons a2 t2=>cases t2;cases a1;cases a2;exact ⟨x,y,rfl,q _ H1 R1 E1 s1 rfl⟩
theorem oF:dD X (.builtin "sorted") (λxs H Q=>∃(p:Addr) (ns:List Int),xs=[.ref p]/\aM X.K H p (ns.map V.int)/\ns.length < 64/\∀ms:List Int,ms.Perm ns->ms.Pairwise (· <=·)->∀d,H d=none->Q (.ref d) (upd H d (.lst (ms.map V.int)))):=by
 intro pins s σ H xs us Q I r h
 obtain ⟨p,ns,rfl,hq,h64,q⟩:=h
 obtain ⟨u,rfl,rx⟩:=vals1 r
 cases rx
 obtain ⟨its,r',pl,hz⟩:=I.list hq
 have hl:its.length=ns.length:=by rw [← r'.length,length_map]
 refine sorted_ints pl.isList (intsAre_of r') (by rw [hl];exact h64) λout ms hi hp hs=>?_
 obtain ⟨e,he⟩:=sortedAll_at s.heap its out
 have hn:H (s.heap.objs.size + 1)=none:=I.hok.fresh (Nat.le_succ _)
 have hml:ms.length=ns.length:=hp.length_eq
 exact ⟨.ref _,_,I.laid (a:=s.heap.objs.size + 1) (o:=.lst (ms.map V.int)) (t':=s.toks) (λb o=>sortedAll_old) (Nat.le_succ _) ⟨by rw [length_map,hml];exact Nat.le_trans (Nat.le_of_lt h64) (by decide),out.toList,e,jP hi,by rw [he]⟩,rfl,q ms hp hs _ hn⟩
theorem rW:∀{xs ys:List Int},xs.Perm ys->xs.Pairwise (· <=·)->ys.Pairwise (· <=·)->xs=ys:=by
 intro xs ys p h1 h2
 exact List.Perm.eq_of_pairwise (le:=λa b=>decide (a<=b)) (by intro a b _ _ h h';simp at h h';omega) (h1.imp λh=>by simpa using h) (h2.imp λh=>by simpa using h) p
def fj (xs:List Int):List Int:=xs.mergeSort (λa b=>decide (a<=b))
theorem wo {xs ms:List Int}(p:ms.Perm xs)(h:ms.Pairwise (· <=·)):ms=fj xs:=by
 refine rW (p.trans (List.mergeSort_perm xs _).symm) h ?_
 have:=List.pairwise_mergeSort (le:=λ(a b:Int)=>decide (a<=b)) (by intro a b c;simp;omega) (by intro a b;simp;omega) xs
 exact this.imp λh=>by simpa using h
theorem rD {pos:Pos}{ns:List Int}(hm:X.mg "sorted"=none)(ha:EV X a Γ (af ae) ns Γ1)(h64:ns.length < 64)(hs:starEach [a] X.env=[(false,eval a X.env)]:=by rfl)(hg:Gl X "sorted":=by rfl):aY X (.Call (.Name "sorted" p) [a] [] pos) Γ ae (fj ns) Γ1:=by
 intro σ H0 R0 H R E Q q
 refine eS (dA oF hg hm PyProof.Rows.boot_sorted (aL aE bz hs) (by decide) (by decide) hs) (ha σ H0 R0 H R E _ λv H1 R1 E1 s1 e1=>?_)
 obtain ⟨p,vs,rfl,hp,pp,z⟩:=e1
 refine ⟨p,ns,rfl,by rw [← dM pp];exact aM.of (E1.sub _ _ hp),h64,λms hpm hs d hd=>?_⟩
 have aints:∀ys:List Int,PySem.Paired (ae.R X.K R1) (ys.map V.int) ys:=λys=>by
  induction ys with
  | nil=>exact .nil
  | cons y r ih=>exact .cons rfl ih
 rw [wo hpm hs]
 exact q d _ _ R1 (E1.grow (Ext.cn E1.sub hd _)) s1 au (E1.sub.free hd) (E1.ext.h.free hd) (E1.off hd) (aints _) (by
  have:(fj ns).length=ns.length:=by unfold fj;exact List.length_mergeSort ns
  rw [this];exact z)
end
def Src (K:PySem.W.Frag)(J:It)(R1:Hp){α:Type}(r:aD α)(xs:List α):Prop:=
 ∀(H' R':Hp),aj R1 R'->aj R' H'->∀i:Nat,(∀x,xs[i]?=some x->J.go i H'/\∀v H2,J.yld i H' v H2->∃R2,Ext H' R' H2 R2/\r.R K R2 v x)/\(xs.length<=i->J.stop i H')
section
variable {X:Cx}{Γ Γ1 Γ2 Γ3:Ga}{α β γ δ:Type}{N:Ga->Prop}{T:RT}
variable {tg:Expr}{xs:List α}{iter:Expr}{bf:α->Ga->Ga}{elt:Expr}{ifs:List Expr}{scope:Scope}{cl:List (Str×Addr)}{fr:List Str}{ix:List Nat}{ra:aD α}{rb:aD β}{p:α->Bool}{f:α->β}
def IV (X:Cx)(tg iter:Expr)(Γ:Ga){α:Type}(r:aD α)(xs:List α)(Γ1:Ga):Prop:=
 ∃wi,PI X tg iter wi/\∀(σ:St) (H0 R0 H R:Hp),ao X.K σ H0 R0 H R Γ->∀Rq:It->Hp->Prop,(∀J H1 R1,ao X.K σ H0 R0 H1 R1 Γ1->aj R R1->xs.length<=sizeLine->Src X.K J R1 r xs->Rq J H1)->wi σ H Rq
theorem aR {r:aD α}(h:EV X iter Γ (af r) xs Γ1):IV X tg iter Γ r xs Γ1:=by
 refine ⟨_,qd aE,λσ H0 R0 H R E Rq q=>h σ H0 R0 H R E _ λv H1 R1 E1 s1 e1=>?_⟩
 obtain ⟨a,vs,rfl,ha,pp,z⟩:=e1
 refine ⟨a,rfl,⟨vs,aM.of (E1.sub _ _ ha)⟩,q _ H1 R1 E1 s1 z λH' R' sR sH i=>⟨λx hx=>?_,λhi=>?_⟩⟩
 ·have hq:aM X.K H' a vs:=aM.of (sH _ _ (sR _ _ ha))
  obtain ⟨v,hv,hr⟩:=dS pp hx
  refine ⟨⟨vs,v,hq,hv⟩,λv' H2 hy=>?_⟩
  obtain ⟨rfl,hy⟩:=hy
  have:=hy vs hq
  rw [hv] at this
  cases this
  exact ⟨R',Ext.refl sH,r.mono sR hr⟩
 ·exact ⟨vs,aM.of (sH _ _ (sR _ _ ha)),by rw [pp.length];exact hi⟩
def ups (lo:Int)(n:Nat):List Int:=(List.range n).map λ(k:Nat)=>lo + (k:Int)
theorem aC (lo:Int)(n:Nat):(ups lo n).length=n:=by unfold ups;rw [length_map,List.length_range]
theorem iT {lo:Int}{n i:Nat}{x:Int}(h:(ups lo n)[i]?=some x):i < n/\x=lo + (i:Int):=by
 have hi:i < n:=by have:=(List.getElem?_eq_some_iff.mp h).1;rwa [aC] at this
 refine ⟨hi,?_⟩
 unfold ups at h
 rw [getElem?_map,getElem?_range hi] at h
 exact (Option.some.inj h).symm
theorem qy {K:PySem.W.Frag}{R1:Hp}(lo:Int)(n:Nat):Src K (tZ lo n) R1 ae (ups lo n):=λH' R' sR sH i=>⟨λx hx=>by
 obtain ⟨h1,rfl⟩:=iT hx
 refine ⟨h1,λv H2 hy=>?_⟩
 obtain ⟨rfl,rfl⟩:=hy
 exact ⟨R',Ext.refl sH,rfl⟩,λhi=>by rw [aC] at hi;exact hi⟩
theorem fD {a:Expr}{p1 p2:Pos}{n:Int}(hm:X.mg "range"=none)(ha:EV X a Γ ae n Γ1)(hn: -(2 ^ 62)<=n/\n<=1000000)(hs1:starEach [a] X.env=[(false,eval a X.env)]:=by rfl)(hg:Gl X "range":=by rfl):IV X tg (.Call (.Name "range" p1) [a] [] p2) Γ ae (ups 0 n.toNat) Γ1:=by
 refine ⟨_,uT hg hm (aL aE bz hs1) hs1,λσ H0 R0 H R E Rq q=>ha σ H0 R0 H R E _ λv H1 R1 E1 s1 e1=>?_⟩
 exact ⟨n,by rw [show v=V.int n from e1],hn.1,by omega,q _ H1 R1 E1 s1 (by rw [aC];exact Nat.le_trans (show n.toNat<=1000000 by omega) (by decide)) (qy 0 n.toNat)⟩
theorem nE {a b:Expr}{p1 p2:Pos}{m n:Int}(hm:X.mg "range"=none)(ha:EV X a Γ ae m Γ1)(hb:EV X b Γ1 ae n Γ2)(hn: -1000000<=m/\m<=1000000/\ -1000000<=n/\n<=1000000)
 (hs1:starEach [a,b] X.env=[(false,eval a X.env),(false,eval b X.env)]:=by rfl) (hs2:starEach [b] X.env=[(false,eval b X.env)]:=by rfl) (hg:Gl X "range":=by rfl):IV X tg (.Call (.Name "range" p1) [a,b] [] p2) Γ ae (ups m (n - m).toNat) Γ2:=by
 refine ⟨_,uU hg hm (aL aE (aL aE bz hs2) (by rw [hs1,hs2])) hs1 hs2,λσ H0 R0 H R E Rq q=>ha σ H0 R0 H R E _ λv H1 R1 E1 s1 e1=>hb σ H0 R0 H1 R1 E1 _ λu H2 R2 E2 s2 e2=>?_⟩
 exact ⟨m,n,by rw [show v=V.int m from e1,show u=V.int n from e2],⟨by omega,by omega,by omega,by omega⟩,q _ H2 R2 E2 (s1.trans s2) (by rw [aC];exact Nat.le_trans (show (n - m).toNat<=2000000 by omega) (by decide)) (qy m (n - m).toNat)⟩
theorem cv {body:List Stmt}{pos:Pos}{r:aD α}(I:Nat->Ga->Prop)(hit:IV X tg iter Γ r xs Γ1)(hb:BG X tg r bf)(h0:I 0 Γ1)
 (hstep:∀(i:Nat) (x:α) (Γ:Ga),xs[i]?=some x->I i Γ->WS X body (bf x Γ) (I (i + 1)) T) (hend:∀Γ:Ga,I xs.length Γ->N Γ)
 (hc:X.calm=true:=by rfl) (hp:PassesOwn (model X.prog X.w) X.A X.env X.xe:=by exact PassesOwn.never) (hs:∀x,foldedSetIterable iter X.env x=pure x:=by intro _;rfl):W1 X (.For tg iter body [] pos) Γ N T:=λσ H0 R0 H R E D dn dr=>by
 obtain ⟨wi,hi,hit⟩:=hit
 refine sS (ue hp hc hi xY fB hs) (hit σ H0 R0 H R E _ λJ H1 R1 E1 s1 hz src=>?_)
 refine ⟨λi m σ' H'=>m=xs.length - i/\i<=xs.length/\∃R' Γ',ao X.K σ' H0 R0 H' R' Γ'/\aj R1 R'/\I i Γ',⟨_,rfl,Nat.zero_le _,R1,Γ1,E1,aj.refl _,h0⟩,?_⟩
 rintro i m σ' H' ⟨rfl,hle,R',Γ',E',s',hI⟩
 obtain ⟨sgo,sstop⟩:=src H' R' s' E'.sub i
 by_cases hlt:i < xs.length
 ·obtain ⟨go,yl⟩:=sgo _ (getElem?_eq_getElem hlt)
  refine .inr ⟨go,λσ' H'=>i + 1<=xs.length/\∃R' Γ',ao X.K σ' H0 R0 H' R' Γ'/\aj R1 R'/\I (i + 1) Γ',λσ2 H2 h=>⟨xs.length - (i + 1),by omega,rfl,h.1,h.2⟩,λv H2 hy=>?_⟩
  obtain ⟨R2,x2,hr⟩:=yl v H2 hy
  refine hb σ' H0 R0 H2 R2 Γ' v _ (E'.grow x2) hr _ λσ2 E2=>?_
  exact hstep i _ Γ' (getElem?_eq_getElem hlt) hI σ2 H0 R0 H2 R2 E2 _ (λσ3 H3 R3 Γ3 E3 s3 h3=>⟨hlt,R3,Γ3,E3,s'.trans (x2.r.trans s3),h3⟩) dr
 ·have e:i=xs.length:=by omega
  subst e
  exact .inl ⟨sstop (Nat.le_refl _),dn σ' H' R' Γ' E' (s1.trans s') (hend Γ' hI)⟩
def rF:Option Ent->Ent
 | some (.im r x)=>.im r x
 | _=>.no
def bZ (own:List Str)(ix:List Nat)(Γ:Ga):Ga:=List.replicate own.length .no++ix.map λi=>rF Γ[i]?
theorem lh {K:PySem.W.Frag}{σ:St}{H0 R0 H R:Hp}(E:ao K σ H0 R0 H R Γ)(own:List Str)(ix:List Nat):ao K (eQ own ix σ) H R H R (bZ own ix Γ):=by
 have noown:∀(i:Nat) (e:Ent) (o:Option V),(bZ own ix Γ)[i]?=some e->e.fp o=[]:=λi e o q=>by
  unfold bZ at q
  rcases mem_append.mp (mem_of_getElem? q) with z | z
  ·obtain ⟨_,rfl⟩:=mem_replicate.mp z;rfl
  ·obtain ⟨k,_,rfl⟩:=mem_map.mp z
   unfold rF
   split<;>rfl
 refine ⟨Ext.refl E.sub,λi e q=>?_,λi e a q w=>absurd w (by rw [noown i e _ q];exact not_mem_nil),λi j e e' a q _ w=>absurd w (by rw [noown i e _ q];exact not_mem_nil),by unfold bZ eQ;simp⟩
 unfold bZ at q
 unfold eQ
 by_cases hi:i < own.length
 ·rw [getElem?_append_left (by simpa using hi),getElem?_replicate] at q
  rw [if_pos hi] at q
  cases q;trivial
 ·rw [getElem?_append_right (by simpa using hi),length_replicate,getElem?_map] at q
  rw [getElem?_append_right (by simpa using hi),length_replicate,getElem?_map]
  cases ek:ix[i - own.length]? with
  | none=>rw [ek] at q;cases q
  | some k=>
    rw [ek] at q
    have q':rF Γ[k]?=e:=Option.some.inj q
    subst q'
    show (rF Γ[k]?).ok K H R (σ[k]?).join
    cases eg:Γ[k]? with
    | none=>trivial
    | some e=>
      cases e with
      | im r x=>exact E.ent k _ eg
      | no=>trivial
      | mu r x=>trivial
      | di x=>trivial
      | ob x=>trivial
theorem j4 {own:List Str}{J:It}{σ:St}{H0 R0 H1 R1:Hp}{Q:VK}(E1:ao X.K σ H0 R0 H1 R1 Γ1)(src:Src X.K J R1 ra xs)(hz:xs.length<=sizeLine)
 (hb:∀(C:Addr) (s:Shared) (H:Hp) (ex:List Addr),BG (aH X scope cl C (own++fr) s H ex) tg ra bf) (hw:∀x,Wk (bf x (bZ own ix Γ1)) (bZ own ix Γ1))
 (ht:∀(C:Addr) (s:Shared) (H:Hp) (ex:List Addr) x,x∈xs->TF (aH X scope cl C (own++fr) s H ex) ifs (bf x (bZ own ix Γ1)) (p x) (bf x (bZ own ix Γ1)))
 (he:∀(C:Addr) (s:Shared) (H:Hp) (ex:List Addr) x,x∈xs->p x=true->EV (aH X scope cl C (own++fr) s H ex) elt (bf x (bZ own ix Γ1)) rb (f x) (bf x (bZ own ix Γ1)))
 (q:∀a vs H' R',Ext H1 R1 H' R'->H' a=none->PySem.Paired (rb.R X.K R') vs ((xs.filter p).map f)->Q (.ref a) (upd H' a (.lst vs))):
 ∃W:Nat->Nat->List V->St->Hp->Prop,(∃m,W 0 m [] (eQ own ix σ) H1)/\∀i m ys σ' H',W i m ys σ' H'->
  ys.length<=sizeLine/\((J.stop i H'/\∀p,H' p=none->Q (.ref p) (upd H' p (.lst ys)))∨
  (J.go i H'/\∀x H2,J.yld i H' x H2->(λv σ H Q=>∀C s Hh ex,iy (aH X scope cl C (own++fr) s Hh ex) tg v σ H Q:TG) x σ' H2 λσ2 H3=>(λσ H Q=>∀C s Hh ex,iP (aH X scope cl C (own++fr) s Hh ex) ifs σ H Q:TT) σ2 H3 λb H4=>
    if b=true then (λσ H Q=>∀C s Hh ex,dI (aH X scope cl C (own++fr) s Hh ex) elt σ H Q:TE) σ2 H4 λv H5=>∃m',m' < m/\W (i + 1) m' (ys++[v]) σ2 H5 else∃m',m' < m/\W (i + 1) m' ys σ2 H4)):=by
 refine ⟨λi m ys σ' H'=>m=xs.length - i/\i<=xs.length/\∃R',ao X.K σ' H1 R1 H' R' (bZ own ix Γ1)/\PySem.Paired (rb.R X.K R') ys (((xs.take i).filter p).map f),⟨_,rfl,Nat.zero_le _,R1,lh E1 own ix,.nil⟩,?_⟩
 rintro i m ys σ' H' ⟨rfl,hle,R',E',pp⟩
 have hys:ys.length<=sizeLine:=by
  rw [pp.length,length_map]
  refine Nat.le_trans (length_filter_le _ _) (Nat.le_trans ?_ hz)
  rw [length_take];omega
 obtain ⟨sgo,sstop⟩:=src H' R' E'.ext.r E'.sub i
 refine ⟨hys,?_⟩
 by_cases hlt:i < xs.length
 ·obtain ⟨go,yl⟩:=sgo _ (getElem?_eq_getElem hlt)
  have hmem:xs[i]∈xs:=getElem_mem hlt
  have tk:(xs.take (i + 1))=xs.take i++[xs[i]]:=by rw [take_succ,getElem?_eq_getElem hlt];rfl
  refine .inr ⟨go,λv H2 hy C s Hh ex=>?_⟩
  obtain ⟨R2,x2,hr⟩:=yl v H2 hy
  refine hb C s Hh ex σ' H1 R1 H2 R2 _ v _ (E'.grow x2) hr _ λσ2 E2=>?_
  intro C s Hh ex
  refine ht C s Hh ex _ hmem σ2 H1 R1 H2 R2 E2 _ λH4 R4 E4 s4=>?_
  cases hpx:p xs[i] with
  | false=>
    rw [if_neg Bool.false_ne_true]
    refine ⟨xs.length - (i + 1),by omega,rfl,hlt,R4,E4.weak (hw _),?_⟩
    rw [tk,filter_append,filter_cons,hpx,if_neg Bool.false_ne_true,List.filter_nil,append_nil]
    exact Paired.map (λ_ _=>rb.mono (x2.r.trans s4)) pp
  | true=>
    rw [if_pos rfl]
    intro C s Hh ex
    refine he C s Hh ex _ hmem hpx σ2 H1 R1 H4 R4 E4 _ λw H5 R5 E5 s5 e5=>?_
    refine ⟨xs.length - (i + 1),by omega,rfl,hlt,R5,E5.weak (hw _),?_⟩
    rw [tk,filter_append,filter_cons,hpx,if_pos rfl,List.filter_nil,map_append]
    exact ca (Paired.map (λ_ _=>rb.mono (x2.r.trans (s4.trans s5))) pp) (.cons e5 .nil)
 ·have e:i=xs.length:=by omega
  subst e
  rw [take_length] at pp
  exact .inl ⟨sstop (Nat.le_refl _),λa ha=>q a ys H' R' E'.ext ha pp⟩
theorem bF {pos:Pos}{own:List Str}
 (S:cY X scope cl own fr ix) (hit:IV X tg iter Γ ra xs Γ1)
 (hb:∀(C:Addr) (s:Shared) (H:Hp) (ex:List Addr),BG (aH X scope cl C (own++fr) s H ex) tg ra bf) (hw:∀x,Wk (bf x (bZ own ix Γ1)) (bZ own ix Γ1))
 (ht:∀(C:Addr) (s:Shared) (H:Hp) (ex:List Addr) x,x∈xs->TF (aH X scope cl C (own++fr) s H ex) ifs (bf x (bZ own ix Γ1)) (p x) (bf x (bZ own ix Γ1)))
 (he:∀(C:Addr) (s:Shared) (H:Hp) (ex:List Addr) x,x∈xs->p x=true->EV (aH X scope cl C (own++fr) s H ex) elt (bf x (bZ own ix Γ1)) rb (f x) (bf x (bZ own ix Γ1)))
 (hc:X.calm=true:=by rfl) (hs:∀x,foldedSetIterable iter X.env x=pure x:=by intro _;rfl):aY X (.ListComp elt [⟨tg,iter,ifs,0⟩] scope pos) Γ rb ((xs.filter p).map f) Γ1:=by
 intro σ H0 R0 H R E Q q
 obtain ⟨wi,hi,hit⟩:=hit
 refine eS (qC (g:=λv σ H Q=>∀C s Hh ex,iy (aH X scope cl C (own++fr) s Hh ex) tg v σ H Q) (tc:=λσ H Q=>∀C s Hh ex,iP (aH X scope cl C (own++fr) s Hh ex) ifs σ H Q) (te:=λσ H Q=>∀C s Hh ex,dI (aH X scope cl C (own++fr) s Hh ex) elt σ H Q) hc S hi
  (λC s H ex=>⟨λpins s1 σ H v u Q I r h=>h C s _ ex pins s1 u I r,λpins s1 σ H Q I h=>h C s _ ex pins s1 I,λpins s1 σ H Q I h=>h C s _ ex pins s1 I⟩) hs) ?_
 refine hit σ H0 R0 H R E _ λJ H1 R1 E1 s1 hz src=>j4 E1 src hz hb hw ht he λa vs H' R' xx ha pp=>?_
 have E2:=E1.grow xx
 exact q a vs _ R' (E2.grow (Ext.cn E2.sub ha _)) (s1.trans xx.r) au (E2.sub.free ha) (E2.ext.h.free ha) (E2.off ha) pp (by
  rw [length_map];exact Nat.le_trans (length_filter_le _ _) hz)
theorem ir (i:Nat){y:Str}{py spos:Pos}{pos:Pos}{own:List Str}
 (S:cY X scope cl own fr ix) (hit:IV X tg iter Γ ra xs Γ1)
 (hb:∀(C:Addr) (s:Shared) (H:Hp) (ex:List Addr),BG (aH X scope cl C (own++fr) s H ex) tg ra bf) (hw:∀x,Wk (bf x (bZ own ix Γ1)) (bZ own ix Γ1))
 (ht:∀(C:Addr) (s:Shared) (H:Hp) (ex:List Addr) x,x∈xs->TF (aH X scope cl C (own++fr) s H ex) ifs (bf x (bZ own ix Γ1)) (p x) (bf x (bZ own ix Γ1)))
 (he:∀(C:Addr) (s:Shared) (H:Hp) (ex:List Addr) x,x∈xs->p x=true->EV (aH X scope cl C (own++fr) s H ex) elt (bf x (bZ own ix Γ1)) rb (f x) (bf x (bZ own ix Γ1)))
 (h:N (Γ1.set i (.mu rb ((xs.filter p).map f))))
 (hsw:swapsWith (.ListComp elt [⟨tg,iter,ifs,0⟩] scope pos) (some (.Name y py)) spos.line X.env=pure true:=by rfl)
 (hN:X.N.Nodup:=by first | assumption | decide) (hi':X.N[i]?=some y:=by rfl) (hx:autoParam (Loc X.env.scope y) vA2)
 (hc:X.calm=true:=by rfl) (hs:∀x,foldedSetIterable iter X.env x=pure x:=by intro _;rfl) (hf:autoParam (X.fn y=true∨X.env.scope.names.lookup y=some .local) vA3):
 W1 X (.Assign [.Name y py] (.ListComp elt [⟨tg,iter,ifs,0⟩] scope pos) spos) Γ N T:=λσ H0 R0 H R E D dn dr=>by
 obtain ⟨wi,hi,hit⟩:=hit
 refine sS (je (i:=i) (g:=λv σ H Q=>∀C s Hh ex,iy (aH X scope cl C (own++fr) s Hh ex) tg v σ H Q) (tc:=λσ H Q=>∀C s Hh ex,iP (aH X scope cl C (own++fr) s Hh ex) ifs σ H Q) (te:=λσ H Q=>∀C s Hh ex,dI (aH X scope cl C (own++fr) s Hh ex) elt σ H Q) hsw hN hi' hx hc S hi
  (λC s H ex=>⟨λpins s1 σ H v u Q I r h=>h C s _ ex pins s1 u I r,λpins s1 σ H Q I h=>h C s _ ex pins s1 I,λpins s1 σ H Q I h=>h C s _ ex pins s1 I⟩) hs hf) ?_
 refine hit σ H0 R0 H R E _ λJ H1 R1 E1 s1 hz src=>j4 (Q:=λv H'=>D.nx (σ.set i (some v)) H') E1 src hz hb hw ht he λa vs H' R' xx ha pp=>?_
 have E2:=E1.grow xx
 exact dn _ _ R' _ ((E2.grow (Ext.cn E2.sub ha _)).my (u:=.lst vs) (en:=.mu rb ((xs.filter p).map f)) i ⟨a,vs,rfl,au,E2.sub.free ha,pp⟩ (E2.ext.h.free ha) λj e _ q w=>E2.off ha j e q w) (s1.trans xx.r) h
end
section
variable {X:Cx}{Γ Γ1 Γ2 Γ3:Ga}{α β γ δ:Type}{N:Ga->Prop}{T:RT}
variable {r:aD α}{xs:List α}{pins:List (Addr×Obj)}{σ:St}{H:Hp}{s:Shared}{K:PySem.W.Frag}{n:Nat}{a:Addr}{A:Around}{R:Hp}{ys:List α}{es:List Expr}{tp p:Pos}{b:Addr}
theorem kI {h':Heap}{t':Nat}{fp:List Addr}(I:Inv X pins σ H s)(k:∀b o,b∉fp->s.heap.get? b=some o->h'.get? b=some o)(hf:∀b∈fp,iJ X pins H b):Inv X pins σ H {s with heap:=h',toks:=t'}:=by
 have nit:∀b u,H b=some u->b∉fp:=λb u e z=>by rw [(hf b z).1] at e;cases e
 refine I.step (g':=s.gens) (d':=s.drawn) (ch:=fp) (λb hb=>⟨(hf b hb).2.2.2.1,(hf b hb).2.1,(hf b hb).2.2.2.2.1,(hf b hb).2.2.2.2.2⟩) (λb o _ _ hc e _=>k b o hc e) (λb o _ _ hc e _=>⟨o.slots,k b o hc e⟩) (λ_ _ _ _ n=>n)
  (λb o hc e=>⟨o,k b o hc e⟩) (λ_ _ e=>e) (λ_ _ _ e=>e) (λb ps e=>⟨#[],by rw [e];simp⟩) (λm hm=>?_) (λb u e=>?_) I.bare
 ·obtain ⟨o,es,ep,ho,r⟩:=hm
  exact ⟨o,es,ep,k _ o (λz=>(hf _ z).2.1 rfl) ho,r⟩
 ·refine (I.hok b u e).jU (λc v hc q=>k c v ?_ q) (λ_ q=>q) λ_ _ q=>q
  rcases hc with z | z
  ·rw [z];exact nit b u e
  ·exact nit c _ z
theorem adopt {o:HO}(I:Inv X pins σ H s)(hf:iJ X pins H a)(hy:X.s₀.heap.objs.size<=a)(new:cq X.prog X.w (upd H a o) s.heap a o):Inv X pins σ (upd H a o) s:=by
 have ne:∀{b:Addr} {u:HO},H b=some u->b≠a:=λe=>cD e hf.1
 have ne0:∀{b:Addr} {u:Obj},X.s₀.heap.get? b=some u->b≠a:=λe z=>absurd (Nat.lt_of_lt_of_le (Heap.lt_size e) hy) (by rw [z];exact Nat.lt_irrefl _)
 refine ⟨I.ok,I.os,I.bare,⟨I.base.keep,I.base.slot,λb u e n hx=>by rw [aA (ne0 e)];exact I.base.free b u e n hx,I.base.there,λb xs e=>?_,λb u v e=>?_,λb ps e=>?_⟩,I.loc,I.cell,?_,λx c e=>?_,λp hp=>?_,λb u e=>?_,I.len⟩
 ·have q:=I.base.tups b xs e;rw [aA (ne q)];exact q
 ·have q:=I.base.frzs b u v e;rw [aA (ne q)];exact q
 ·obtain ⟨m,q⟩:=I.base.tbls b ps e;exact ⟨m,by rw [aA (ne q)];exact q⟩
 ·rw [aA (Ne.symm hf.2.1)];exact I.free
 ·rw [aA (hf.2.2.2.2.1 x c e)];exact I.freeC x c e
 ·obtain ⟨e,n,r⟩:=I.pin p hp
  exact ⟨e,by rw [aA (hf.2.2.2.2.2 p hp)];exact n,r⟩
 ·by_cases hb:b=a
  ·subst hb;rw [au] at e;cases e;exact new
  ·rw [aA hb] at e
   exact (I.hok b u e).jU (λc v _ q=>q) (λc q=>by rw [aA (ne q)];exact q) λc xs q=>by rw [aA (ne q)];exact q
def Em (K:PySem.W.Frag)(a:Addr):It:=
 ⟨λi H=>∃xs x,aM K H a xs/\xs[i]?=some x,λi H v H'=>∃p x,H p=none/\v= .ref p/\H'=upd H p (.tup [.int i,x])/\∀xs,aM K H a xs->xs[i]?=some x,λi H=>∃xs,aM K H a xs/\xs.length<=i⟩
theorem u7 {P:Program}{w:World}{k:Nat}(a e it:Addr)(hei:e≠it):Turn P w K (.Tuple es k tp) (Em K a) [e,it] e (λi h=>(∃old,IsEnum h e it i old)/\h.IsListIter it a i) where
 mem:=by simp
 obj:=λi h st b hb=>by
  obtain ⟨⟨old,he⟩,o,ho,hc,hd⟩:=st
  rcases mem_cons.mp hb with rfl | hb
  ·exact ⟨_,he,λv z=>by cases z⟩
  ·have e2:b=it:=by simpa using hb
   subst e2
   exact ⟨o,ho,λv z=>by rw [hd] at z;cases z⟩
 keep:=λi h h' st kk=>⟨st.1.elim λold he=>⟨old,kk e (by simp) _ he⟩,st.2.at λo x=>kk it (by simp) o x⟩
 item:=by
  intro X hP hw hK hc i pins s σ H E I hf st hg
  subst hP hw hK
  obtain ⟨⟨old,he⟩,hit⟩:=st
  obtain ⟨xs,x,hq,hx⟩:=hg
  obtain ⟨its,r,pl,hz⟩:=I.list hq
  obtain ⟨u,hu,rx⟩:=r.get hx
  have hn:H s.heap.objs.size=none:=I.hok.fresh (Nat.le_refl _)
  refine wpAny_pyNext_enum_item he hit pl.isList (x:=u) (by simpa using hu) hei λh' ho hit' hT hsz hk=>?_
  refine ⟨_,rfl,?_⟩
  refine wpAny_letOwnedTupleGo_enum (s:={s with heap:=h',toks:=s.toks + 1}) ho λh2 he2 hs2=>?_
  have hk2:∀b o,b∉[e,it]->s.heap.get? b=some o->h2.get? b=some o:=λb o hb q=>by
   have hbe:b≠e:=λz=>hb (by simp [z])
   exact hs2.extBut b o hbe (hk b o hbe (λz=>hb (by simp [z])) q)
  have I1:Inv X pins σ H {s with heap:=h2,toks:=s.toks + 1}:=kI I hk2 hf
  have hel:e≠s.heap.objs.size:=Nat.ne_of_lt (Heap.lt_size he)
  have hT2:h2.get? s.heap.objs.size=some {cls:=.type "tuple",data:=.seq #[.int i s.toks,u]}:=(hs2.2 _ (Ne.symm hel)).trans hT
  have I2:Inv X pins σ (upd H s.heap.objs.size (.tup [.int i,x])) {s with heap:=h2,toks:=s.toks + 1}:=
   adopt I1 (I.ka (Nat.le_refl _) hn) (I.sz) ⟨by show 2<=sizeLine;decide,[.int i s.toks,u],.cons ⟨_,rfl⟩ (.cons rx .nil),⟨_,hT2,rfl,_,rfl⟩⟩
  refine ⟨.ref s.heap.objs.size,_,I2,rfl,⟨s.heap.objs.size,x,hn,rfl,rfl,λys hy=>?_⟩,⟨⟨u,by simpa using he2⟩,hit'.at λo y=>(hs2.2 it (Ne.symm hei)).trans y⟩,λb hb=>?_⟩
  ·rw [I.jn hy hq];exact hx
  ·have hlt:b < s.heap.objs.size:=by
    rcases mem_cons.mp hb with rfl | hb
    ·exact Heap.lt_size he
    ·have e2:b=it:=by simpa using hb
     subst e2
     obtain ⟨o,ho,_⟩:=hit
     exact Heap.lt_size ho
   rw [aA (Nat.ne_of_lt hlt)]
   exact (hf b hb).1
 done:=by
  intro X hP hw hK hc i pins s σ H E I hf st hg
  subst hP hw hK
  obtain ⟨⟨old,he⟩,hit⟩:=st
  obtain ⟨xs,hq,hx⟩:=hg
  obtain ⟨its,r,pl,hz⟩:=I.list hq
  refine wpAny_pyNext_enum_end (I.ok.hd hc) he hit pl.isList (by have:=r.length;simp;omega) λh' hk=>⟨rfl,?_⟩
  exact kI (t':=s.toks) I (λb o hb q=>hk b o (λz=>hb (by simp [z])) q) hf
 self:=λ_ _ _ _ _ st h=>st.1.elim λold he=>wpAny_pyIter_enum he h
def Ct (K:PySem.W.Frag)(ta:TA):TI:=λσ H R=>ta σ H λvs H1=>∃a xs,vs=[.ref a]/\aM K H1 a xs/\R (Em K a) H1
theorem y9 {a:Expr}{ta:TA}{pos:Pos}{k:Nat}(hg:Gl X "enumerate")(hm:X.mg "enumerate"=none)(ha:PA X [a] ta)(hs:starEach [a] X.env=[(false,eval a X.env)]:=by rfl):PI X (.Tuple es k tp) (.Call (.Name "enumerate" p) [a] [] pos) (Ct X.K ta):=by
 intro pins s σ H R I h
 refine Call_ (h7 I hg hm boot_enumerate (PyProof.Rows.callWith_type1 (aP (ha pos pins s σ H _ I h) λus s1 ⟨vs,H1,I1,r1,q1⟩=>?_) hs rfl))
 obtain ⟨l,xs,e,hq,q⟩:=q1
 subst e
 cases r1 with
 | cons r rr=>
   cases rr
   cases r
   obtain ⟨its,r',pl,hz⟩:=I1.list hq
   refine call_enumerate_list pl.isList λh' he hit hsz hk=>?_
   refine wpAny_pyIter_enum he ?_
   have I2:Inv X pins σ H1 {s1 with heap:=h'}:=I1.kept (t':=s1.toks) hk
   have f0:H1 s1.heap.objs.size=none:=I1.hok.fresh (Nat.le_refl _)
   have f1:H1 (s1.heap.objs.size + 1)=none:=I1.hok.fresh (Nat.le_succ _)
   refine ⟨s1.heap.objs.size + 1,[s1.heap.objs.size + 1,s1.heap.objs.size],_,_,H1,rfl,I2,u7 l (s1.heap.objs.size + 1) s1.heap.objs.size (Nat.ne_of_gt (Nat.lt_succ_self _)),⟨⟨.none,he⟩,hit⟩,λb hb=>?_,q⟩
   rcases mem_cons.mp hb with rfl | hb
   ·exact I1.ka (Nat.le_succ _) f1
   ·have e2:b=s1.heap.objs.size:=by simpa using hb
    subst e2
    exact I1.ka (Nat.le_refl _) f0
def nums (xs:List α):List (Int×α):=(xs.zipIdx).map λp=>((p.2:Int),p.1)
theorem dw (xs:List α):(nums xs).length=xs.length:=by unfold nums;rw [length_map,List.length_zipIdx]
theorem hU {i:Nat}{y:Int×α}(h:(nums xs)[i]?=some y):y.1=(i:Int)/\xs[i]?=some y.2:=by
 unfold nums at h
 rw [getElem?_map,List.getElem?_zipIdx] at h
 cases e:xs[i]? with
 | none=>rw [e] at h;cases h
 | some x=>rw [e] at h;cases h;exact ⟨by simp,rfl⟩
theorem iQ {a:Expr}{pos:Pos}{k:Nat}(hm:X.mg "enumerate"=none)(ha:EV X a Γ (af r) xs Γ1)(hs:starEach [a] X.env=[(false,eval a X.env)]:=by rfl)(hg:Gl X "enumerate":=by rfl):
 IV X (.Tuple es k tp) (.Call (.Name "enumerate" p) [a] [] pos) Γ (av ae r) (nums xs) Γ1:=by
 refine ⟨_,y9 hg hm (aL aE bz hs) hs,λσ H0 R0 H R E Rq q=>ha σ H0 R0 H R E _ λv H1 R1 E1 s1 e1=>?_⟩
 obtain ⟨a,vs,rfl,hp,pp,z⟩:=e1
 refine ⟨a,vs,rfl,aM.of (E1.sub _ _ hp),q _ H1 R1 E1 s1 (by rw [dw];exact z) λH' R' sR sH i=>⟨λy hy=>?_,λhi=>?_⟩⟩
 ·have hq:aM X.K H' a vs:=aM.of (sH _ _ (sR _ _ hp))
  obtain ⟨e1,e2⟩:=hU hy
  obtain ⟨v,hv,hr⟩:=dS pp e2
  refine ⟨⟨vs,v,hq,hv⟩,λv' H2 hyl=>?_⟩
  obtain ⟨p,x,hpn,rfl,rfl,hy⟩:=hyl
  have:=hy vs hq
  rw [hv] at this
  cases this
  have s2:aj R' (upd R' p (.tup [.int i,v])):=aj.fresh (sH.free hpn) _
  exact ⟨upd R' p (.tup [.int i,v]),Ext.fresh sH hpn _,p,_,_,rfl,au,by rw [e1];rfl,r.mono s2 (r.mono sR hr)⟩
 ·exact ⟨vs,aM.of (sH _ _ (sR _ _ hp)),by rw [pp.length,← dw xs];exact hi⟩
theorem pM:dD X (.builtin "isinstance") (λxs H Q=>∃x c t b,xs=[x,.ty c]/\ei X.K H x t/\PySem.W.kitOne X.K t (.type c)=some b/\Q (.bl b) H):=by
 intro pins s σ H xs us Q I r h
 obtain ⟨x,c,t,b,rfl,ty,e,q⟩:=h
 obtain ⟨u,u2,rfl,r1,r2⟩:=vals2 r
 cases (show u2=Value.type c from r2)
 exact uD I r1 ty e λtk=>⟨.bl b,H,I.tok tk,rfl,q⟩
theorem dq {e:Expr}{y:Str}{p2 pos:Pos}{x:α}{c:String}{t:Value}{b:Bool}(hm:X.mg "isinstance"=none)(hmy:X.mg y=none)(hvy:bootBuiltins y=some (.type c))(he:EV X e Γ r x Γ1)
 (ty:∀(R H:Hp) v,aj R H->r.R X.K R v x->ei X.K H v t) (ht:∀K:PySem.W.Frag,PySem.W.kitOne K t (.type c)=some b:=by intro;rfl)
 (hs:starEach [e,.Name y p2] X.env=(false,eval e X.env)::starEach [.Name y p2] X.env:=by rfl) (hg:Gl X "isinstance":=by rfl) (hgy:Gl X y:=by rfl) (hny:y≠"__name__":=by decide) (hdy:Dg0 y:=by decide):EV X (.Call (.Name "isinstance" p) [e,.Name y p2] [] pos) Γ aW b Γ1:=by
 intro σ H0 R0 H R E Q q
 refine eS (dA pM hg hm PyProof.Rows.boot_isinstance (aL aE (aL (yu (v:=.ty c) hgy hmy hvy rfl hny hdy) bz rfl) hs) (by decide) (by decide) hs rfl) (he σ H0 R0 H R E _ λv H1 R1 E1 s1 e1=>?_)
 exact ⟨v,c,t,b,rfl,ty R1 H1 v E1.sub e1,ht _,q _ H1 R1 E1 s1 rfl⟩
theorem ty_int {x:Int}(R H:Hp)(v:V)(_:aj R H)(h:ae.R K R v x):ei K H v (.type "int"):=by cases h;exact .int _
theorem ty_list (R H:Hp)(v:V)(s:aj R H)(h:(af r).R K R v xs):ei K H v (.type "list"):=by obtain ⟨a,vs,rfl,e,_⟩:=h;exact .lst (s _ _ e)
theorem zd {r':aD β}{x:α×β}(R H:Hp)(v:V)(s:aj R H)(h:(av r r').R K R v x):ei K H v (.type "tuple"):=by obtain ⟨a,_,_,rfl,e,_⟩:=h;exact .tup (s _ _ e)
theorem zY {x:Row}(R H:Hp)(v:V)(s:aj R H)(h:ax.R K R v x):ei K H v (.type "tuple"):=by obtain ⟨a,rfl,e⟩:=h;exact .tup (s _ _ e)
structure de (r:aD α) [DecidableEq α] (n:Nat):Prop where
 inj:∀{K:PySem.W.Frag} {R:Hp} {v:V} {x y:α},r.R K R v x->r.R K R v y->x=y
 eq:∀{X:Cx} {pins:List (Addr×Obj)} {σ:St} {H:Hp} {s:Shared} {R:Hp} {A:Around} (I:Inv X pins σ H s) (sub:aj R H) {v u:V} {vv uu:Value} {x y:α},RelV v vv->RelV u uu->r.R X.K R v x->r.R X.K R u y->A.units + n < cLine->SeqAt.EqAt A s vv uu (decide (x=y))
theorem eq_int:de ae 0:=by
 refine ⟨by rintro K R v x y h1 h2;cases h1;cases h2;rfl,?_⟩
 intro X pins σ H s R A I sub v u vv uu x y rv ru h1 h2 hu
 cases h1
 cases h2
 obtain ⟨t,rfl⟩:=rv
 obtain ⟨t',rfl⟩:=ru
 intro prog w E Q hq
 refine wpAny_eqBool_int ?_
 rw [Bool.beq_eq_decide_eq];exact hq
theorem in1_units (A:Around):A.in1.units=A.units + 1:=rfl
theorem mU [DecidableEq α](e:de r n){X:Cx}(I:Inv X pins σ H s)(sub:aj R H)(hu:A.units + n < cLine):
 ∀{vs ws:List V} {us us':List Value} {xs ys:List α},aK vs us->aK ws us'->PySem.Paired (r.R X.K R) vs xs->PySem.Paired (r.R X.K R) ws ys->∀(j:Nat) (h1:j < us.toArray.size) (h2:j < us'.toArray.size),SeqAt.EqAt A s us.toArray[j] us'.toArray[j] (decide (xs[j]?=ys[j]?)):=by
 intro vs ws us us' xs ys hv hw px py j h1 h2
 have h1':j < us.length:=by simpa using h1
 have h2':j < us'.length:=by simpa using h2
 have l1:j < vs.length:=by rw [hv.length];exact h1'
 have l2:j < ws.length:=by rw [hw.length];exact h2'
 obtain ⟨u,e1,r1⟩:=hv.get (getElem?_eq_getElem l1)
 obtain ⟨u',e2,r2⟩:=hw.get (getElem?_eq_getElem l2)
 obtain ⟨x,e3,q1⟩:=jw px (getElem?_eq_getElem l1)
 obtain ⟨y,e4,q2⟩:=jw py (getElem?_eq_getElem l2)
 rw [getElem?_eq_getElem h1'] at e1
 rw [getElem?_eq_getElem h2'] at e2
 have e1:=Option.some.inj e1
 have e2:=Option.some.inj e2
 have key:=e.eq (A:=A) I sub r1 r2 q1 q2 hu
 have d:decide (xs[j]?=ys[j]?)=decide (x=y):=by rw [e3,e4];simp
 rw [d]
 simp only [List.getElem_toArray]
 rw [e1,e2]
 exact key
theorem all_eq [DecidableEq α](h:xs.length=ys.length):((List.range xs.length).all λj=>decide (xs[j]?=ys[j]?))=decide (xs=ys):=by
 rw [Bool.eq_iff_iff,all_eq_true]
 simp only [mem_range,decide_eq_true_eq]
 constructor
 ·intro hh
  refine ext_getElem? λi=>?_
  by_cases hi:i < xs.length
  ·exact hh i hi
  ·have a1:xs[i]?=none:=getElem?_eq_none (by omega)
   have a2:ys[i]?=none:=getElem?_eq_none (by omega)
   rw [a1,a2]
 ·rintro rfl j _;rfl
theorem lO {F:α->β->Prop}(inj:∀v x y,F v x->F v y->x=y):∀{vs:List α} {xs ys:List β},PySem.Paired F vs xs->PySem.Paired F vs ys->xs=ys
 | _,_,_,.nil,.nil=>rfl
 | _,_,_,.cons h t,.cons h' t'=>by rw [inj _ _ _ h h',lO inj t t']
theorem mn [DecidableEq α](e:de r n){X:Cx}(I:Inv X pins σ H s)(sub:aj R H){vs ws:List V}(ha:R a=some (.lst vs))(hb:R b=some (.lst ws))(px:PySem.Paired (r.R X.K R) vs xs)(py:PySem.Paired (r.R X.K R) ws ys)(hu:A.units + (n + 1) < cLine):
 SeqAt.RcAt A s (.ref a) (.ref b) (decide (xs=ys))/\SeqAt.RcNeAt A s (.ref a) (.ref b) (!decide (xs=ys)):=by
 obtain ⟨us,hv,pl,_⟩:=I.list (aM.of (sub _ _ ha))
 obtain ⟨us',hw,pl',_⟩:=I.list (aM.of (sub _ _ hb))
 have lx:us.toArray.size=xs.length:=by rw [size_toArray,← hv.length,px.length]
 have ly:us'.toArray.size=ys.length:=by rw [size_toArray,← hw.length,py.length]
 by_cases hl:xs.length=ys.length
 ·have he:=mU (A:=A.in1) e I sub (by rw [in1_units];omega) hv hw px py
  have r1:=SeqAt.RcAt.lists pl.isList pl'.isList (lx.trans (hl.trans ly.symm)) (by omega) he
  have r2:=SeqAt.RcNeAt.lists pl.isList pl'.isList (lx.trans (hl.trans ly.symm)) (by omega) he
  rw [lx,all_eq hl] at r1 r2
  exact ⟨r1,r2⟩
 ·have hne:(us.toArray.size != us'.toArray.size)=true:=by rw [lx,ly];simpa using hl
  have d:decide (xs=ys)=false:=decide_eq_false λz=>hl (by rw [z])
  rw [d]
  exact ⟨SeqAt.RcAt.lists_lengths pl.isList pl'.isList hne (by omega),SeqAt.RcNeAt.lists_lengths pl.isList pl'.isList hne (by omega)⟩
theorem eq_list [DecidableEq α](e:de r n):de (af r) (n + 1):=by
 have inj:∀{K:PySem.W.Frag} {R:Hp} {v:V} {x y:List α},(af r).R K R v x->(af r).R K R v y->x=y:=by
  rintro K R v x y ⟨a,vs,rfl,h,p,_⟩ ⟨a',vs',e1,h',p',_⟩
  cases e1
  rw [h] at h'
  cases h'
  exact lO (F:=r.R K R) (λ_ _ _ h1 h2=>e.inj h1 h2) p p'
 refine ⟨inj,?_⟩
 intro X pins σ H s R A I sub v u vv uu x y rv ru h1 h2 hu
 have h1':=h1
 have h2':=h2
 obtain ⟨a,vs,rfl,ha,px,_⟩:=h1
 obtain ⟨b,ws,rfl,hb,py,_⟩:=h2
 cases rv
 cases ru
 by_cases hab:a=b
 ·subst hab
  rw [decide_eq_true (inj h1' h2')]
  exact SeqAt.EqAt.same _
 ·exact SeqAt.EqAt.of_refs hab (mn e I sub ha hb px py hu).1
theorem ux {X:Cx}(I:Inv X pins σ H s)(sub:aj R H){vs ws:List V}{k:Nat->Bool}(ha:R a=some (.tup vs))(hb:R b=some (.tup ws))(hl:vs.length=ws.length)(hu:A.units < cLine)
 (he:∀(us us':List Value),aK vs us->aK ws us'->∀(j:Nat) (h1:j < us.toArray.size) (h2:j < us'.toArray.size),SeqAt.EqAt A.in1 s us.toArray[j] us'.toArray[j] (k j)):
 SeqAt.RcAt A s (.ref a) (.ref b) ((List.range vs.length).all k)/\SeqAt.RcNeAt A s (.ref a) (.ref b) (!(List.range vs.length).all k):=by
 obtain ⟨us,hv,pl,_⟩:=I.tuple (dm.of (sub _ _ ha))
 obtain ⟨us',hw,pl',_⟩:=I.tuple (dm.of (sub _ _ hb))
 have lx:us.toArray.size=vs.length:=by rw [size_toArray,← hv.length]
 have ly:us'.toArray.size=vs.length:=by rw [size_toArray,← hw.length,hl]
 have r1:=SeqAt.RcAt.tuples (A:=A) pl pl' hu (he us us' hv hw)
 have r2:=SeqAt.RcNeAt.tuples (A:=A) pl pl' hu (he us us' hv hw)
 rw [lx,ly,Nat.min_self] at r1 r2
 simp only [beq_self_eq_true,Bool.and_true] at r1 r2
 exact ⟨r1,r2⟩
theorem B0 {X:Cx}(I:Inv X pins σ H s)(sub:aj R H){x y:Row}(ha:R a=some (.tup [.int x.1,.int x.2.1,.int x.2.2.1,.int x.2.2.2]))(hb:R b=some (.tup [.int y.1,.int y.2.1,.int y.2.2.1,.int y.2.2.2]))(hu:A.units + 1 < cLine):
 SeqAt.RcAt A s (.ref a) (.ref b) (decide (x=y)):=by
 have aints:∀ys:List Int,PySem.Paired (ae.R X.K R) (ys.map V.int) ys:=λys=>by
  induction ys with
  | nil=>exact .nil
  | cons y r ih=>exact .cons rfl ih
 have r1:=(ux (A:=A) I sub ha hb rfl (by omega) λus us' hv hw=>mU (A:=A.in1) eq_int I sub (by rw [in1_units];omega) hv hw (aints [x.1,x.2.1,x.2.2.1,x.2.2.2]) (aints [y.1,y.2.1,y.2.2.1,y.2.2.2])).1
 have e1:=all_eq (xs:=[x.1,x.2.1,x.2.2.1,x.2.2.2]) (ys:=[y.1,y.2.1,y.2.2.1,y.2.2.2]) rfl
 have e2:decide ([x.1,x.2.1,x.2.2.1,x.2.2.2]=[y.1,y.2.1,y.2.2.1,y.2.2.2])=decide (x=y):=by
  obtain ⟨a1,a2,a3,a4⟩:=x
  obtain ⟨b1,b2,b3,b4⟩:=y
  simp
 rw [e2] at e1
 rw [← e1]
 exact r1
theorem z7:de ax 1:=by
 have inj:∀{K:PySem.W.Frag} {R:Hp} {v:V} {x y:Row},ax.R K R v x->ax.R K R v y->x=y:=by
  rintro K R v x y ⟨a,rfl,h⟩ ⟨a',e1,h'⟩
  cases e1
  rw [h] at h'
  obtain ⟨a1,a2,a3,a4⟩:=x
  obtain ⟨b1,b2,b3,b4⟩:=y
  simp at h'
  simp [h']
 refine ⟨inj,?_⟩
 intro X pins σ H s R A I sub v u vv uu x y rv ru h1 h2 hu
 have h1':=h1
 have h2':=h2
 obtain ⟨a,rfl,ha⟩:=h1
 obtain ⟨b,rfl,hb⟩:=h2
 cases rv
 cases ru
 by_cases hab:a=b
 ·subst hab
  rw [decide_eq_true (inj h1' h2')]
  exact SeqAt.EqAt.same _
 ·exact SeqAt.EqAt.of_refs hab (B0 I sub ha hb hu)
theorem nR [DecidableEq α](e:de r n)(hu:X.A.units + (n + 1) < cLine):fW X .Eq (af r) (af r) xs ys (decide (xs=ys)):=
 ⟨λv u H Q=>∃R,aj R H/\∃xs ys,(af r).R X.K R v xs/\(af r).R X.K R u ys/\Q (.bl (decide (xs=ys))) H,λpins s σ H x y v u Q I rx ry ⟨R,sub,xs,ys,h1,h2,q⟩=>by
  obtain ⟨a,vs,rfl,ha,px,_⟩:=h1
  obtain ⟨b,ws,rfl,hb,py,_⟩:=h2
  cases rx
  cases ry
  exact (mn (A:=X.A) e I sub ha hb px py hu).1 _ _ _ _ ⟨.bl _,H,I,rfl,q⟩,λR H v u Q s h1 h2 q=>⟨R,s,xs,ys,h1,h2,q⟩⟩
theorem yf [DecidableEq α](e:de r n)(hu:X.A.units + (n + 1) < cLine):fW X .NotEq (af r) (af r) xs ys (!decide (xs=ys)):=
 ⟨λv u H Q=>∃R,aj R H/\∃xs ys,(af r).R X.K R v xs/\(af r).R X.K R u ys/\Q (.bl (!decide (xs=ys))) H,λpins s σ H x y v u Q I rx ry ⟨R,sub,xs,ys,h1,h2,q⟩=>by
  obtain ⟨a,vs,rfl,ha,px,_⟩:=h1
  obtain ⟨b,ws,rfl,hb,py,_⟩:=h2
  cases rx
  cases ry
  exact (mn (A:=X.A) e I sub ha hb px py hu).2 _ _ _ _ ⟨.bl _,H,I,rfl,q⟩,λR H v u Q s h1 h2 q=>⟨R,s,xs,ys,h1,h2,q⟩⟩
theorem mC:dD X (.type "range") (λxs H Q=>∃n:Int,xs=[.int n]/\∀p,H p=none->Q (.ref p) (upd H p (.rng 0 n))):=by
 intro pins s σ H xs us Q I r h
 obtain ⟨n,rfl,q⟩:=h
 obtain ⟨u,rfl,t,rfl⟩:=vals1 r
 refine call_range_1 ?_
 exact ⟨.ref s.heap.objs.size,_,I.laid (o:=.rng 0 n) (λb o e=>Heap.get?_push_of_some _ e) (Nat.le_refl _) ⟨_,_,_,Heap.get?_push_size _ rfl⟩,rfl,q _ (I.hok.fresh (Nat.le_refl _))⟩
theorem oH (hc:X.calm=true):dD X (.type "list") (λxs H Q=>∃(p:Addr) (m n:Int),xs=[.ref p]/\H p=some (.rng m n)/\ -1000000<=m/\m<=1000000/\ -1000000<=n/\n<=1000000/\∀d,H d=none->Q (.ref d) (upd H d (.lst ((ups m (n - m).toNat).map V.int)))):=by
 intro pins s σ H xs us Q I r h
 obtain ⟨p,m,n,rfl,hp,m1,m2,n1,n2,q⟩:=h
 obtain ⟨u,rfl,rx⟩:=vals1 r
 cases rx
 obtain ⟨t,t2,t3,ho⟩:=I.hok p _ hp
 have hsz:Builtin.Range.rangeSize m n 1=(((n - m).toNat:Nat):Int):=by rw [rangeSize_one];split<;>omega
 refine call_list_range (I.ok.hd hc) ho (small_one (by omega) (by omega) (by omega) (by omega)) hsz (by omega) λh' tk acc c' hk hS hacc=>?_
 have vals:aK ((ups m (n - m).toNat).map V.int) acc.toList:=by
  have key:∀(k:Nat) (its:List Value) (lo:Int),its.length=k->(∀(j:Nat) v,its[j]?=some v->∃t,v= .int (lo + (j:Int) * 1) t)->aK ((ups lo k).map V.int) its:=by
   intro k
   induction k with
   | zero=>intro its lo hl _;cases its with
     | nil=>exact .nil
     | cons _ _=>cases hl
   | succ k ih=>
     intro its lo hl hv
     cases its with
     | nil=>cases hl
     | cons v r=>
       have e:ups lo (k + 1)=lo::ups (lo + 1) k:=by
        unfold ups
        rw [List.range_succ_eq_map,map_cons,map_map]
        congr 1
        ·simp
        ·apply map_congr_left;intro a _;simp;omega
       rw [e,map_cons]
       obtain ⟨t,e0⟩:=hv 0 v rfl
       refine .cons ⟨t,by rw [e0];simp⟩ (ih r (lo + 1) (by simpa using hl) λj v hj=>?_)
       obtain ⟨t,ej⟩:=hv (j + 1) v (by simpa using hj)
       exact ⟨t,by rw [ej];congr 1;push_cast;omega⟩
  refine key _ _ m (by rw [Array.length_toList];exact hacc.1) λj v hj=>hacc.2 j v (by simpa using hj)
 exact ⟨.ref _,_,I.laid (a:=s.heap.objs.size) (o:=.lst ((ups m (n - m).toNat).map V.int)) hk (Nat.le_refl _) ⟨by rw [length_map,aC];exact Nat.le_trans (show (n - m).toNat<=2000000 by omega) (by decide),acc.toList,c',vals,by rw [hS]⟩,rfl,q _ (I.hok.fresh (Nat.le_refl _))⟩
end
def mj (scope:Scope)(env:Env):List (Str×Addr):=(scope.names.filterMap λp=>if p.2== .free then (env.cells.lookup p.1).map (λc=>(p.1,c)) else none).reverse
theorem lY {env:Env}:∀(names:List (Str×NameKind)) (acc:List (Str×Addr)),(∀y∈names,y.2= .free->∃c,env.cells.lookup y.1=some c)->
 (forIn names acc λ(x:Str×NameKind) (r:List (Str×Addr))=>if (x.2==NameKind.free)=true then do let a ← cellOf env x.1;pure (ForInStep.yield ((x.1,a)::r)) else pure (ForInStep.yield r):Sem (List (Str×Addr)))
  =pure ((names.filterMap λp=>if p.2== .free then (env.cells.lookup p.1).map (λc=>(p.1,c)) else none).reverse++acc)
 | [],acc,_=>rfl
 | (n,k)::r,acc,h=>by
   have ih:=lY (env:=env) r
   rw [List.forIn_cons,filterMap_cons]
   cases hk:(k==NameKind.free) with
   | false=>
     simp only [hk,Bool.false_eq_true,if_false]
     rw [pure_bind]
     exact ih acc λy hy=>h y (mem_cons_of_mem _ hy)
   | true=>
     obtain ⟨c,hc⟩:=h (n,k) mem_cons_self (eq_of_beq hk)
     have hcell:cellOf env n=pure c:=by unfold cellOf;rw [hc]
     simp only [hk,if_true,hc,Option.map_some,hcell]
     rw [pure_bind,pure_bind]
     show forIn r ((n,c)::acc) _=_
     rw [ih ((n,c)::acc) λy hy=>h y (mem_cons_of_mem _ hy)]
     simp
theorem sD {X:Cx}{scope:Scope}{own fr:List Str}{ix:List Nat}(hk:scope.kind= .function)(hn:∀y∈scope.names,y.2≠ .cell)(hl:∀y∈scope.names,y.2= .local->scope.names.lookup y.1=some .local)
 (hc:∀x,X.env.scope.names.lookup x=some .cell->∃c,X.env.cells.lookup x=some c) (hf:∀y∈scope.names,y.2= .free->X.env.scope.names.lookup y.1=some .cell)
 (hfr:∀x∈fr,scope.names.lookup x=some .free) (hlen:fr.length=ix.length) (hat:∀(k i:Nat) (x:Str),ix[k]?=some i->fr[k]?=some x->X.N[i]?=some x):cY X scope (mj scope X.env) own fr ix:=by
 have free:∀y∈scope.names,y.2= .free->∃c,X.env.cells.lookup y.1=some c:=λy hy e=>hc _ (hf y hy e)
 refine ⟨?_,λx c e=>?_,hk,hn,hl,λx e=>?_,hfr,hlen,λk i x e1 e2=>⟨hat k i x e1 e2,hf (x,.free) (PySem.mem_of_lookup (hfr x (mem_of_getElem? e2))) rfl⟩⟩
 ·have:=lY (env:=X.env) scope.names [] free
  rw [append_nil] at this
  have e:closureFor scope X.env=((forIn scope.names [] λ(x:Str×NameKind) (r:List (Str×Addr))=>if (x.2==NameKind.free)=true then do let a ← cellOf X.env x.1;pure (ForInStep.yield ((x.1,a)::r)) else pure (ForInStep.yield r):Sem (List (Str×Addr))) >>=λcs=>pure cs):=rfl
  rw [e,this,pure_bind]
  rfl
 ·have m:=PySem.mem_of_lookup e
  unfold mj at m
  obtain ⟨p,_,hp⟩:=mem_filterMap.mp (mem_reverse.mp m)
  split at hp
  ·cases q:X.env.cells.lookup p.1 with
   | none=>rw [q] at hp;cases hp
   | some c'=>rw [q] at hp;cases hp;exact q
  ·cases hp
 ·have m:=PySem.mem_of_lookup e
  obtain ⟨c,hcc⟩:=free _ m rfl
  have m2:(x,c)∈mj scope X.env:=by
   unfold mj
   refine mem_reverse.mpr (mem_filterMap.mpr ⟨(x,.free),m,?_⟩)
   simp [hcc]
  cases q:(mj scope X.env).lookup x with
  | some c'=>exact ⟨c',rfl⟩
  | none=>
    rw [List.lookup_eq_none_iff] at q
    exact absurd (q _ m2) (by simp)
def tV (scope so:Scope)(N0 fr:List Str)(ix:List Nat):Bool:=
 decide (scope.kind= .function)&&scope.names.all (λy=>decide (y.2≠ .cell)&&(decide (y.2≠ .local) ||decide (scope.names.lookup y.1=some .local))&&(decide (y.2≠ .free) ||decide (so.names.lookup y.1=some .cell)))
  &&fr.all (λx=>decide (scope.names.lookup x=some .free))&&decide (fr.length=ix.length)&&(List.range ix.length).all λk=>match ix[k]?,fr[k]? with | some i,some x=>decide (N0[i]?=some x) | _,_=>true
theorem bj {X:Cx}{scope so:Scope}{N0 own fr:List Str}{ix:List Nat}(hso:X.env.scope=so)(hN0:X.N=N0)(hc:∀x,X.env.scope.names.lookup x=some .cell->∃c,X.env.cells.lookup x=some c)(h:tV scope so N0 fr ix=true):cY X scope (mj scope X.env) own fr ix:=by
 unfold tV at h
 simp only [Bool.and_eq_true,Bool.or_eq_true,decide_eq_true_eq,all_eq_true] at h
 obtain ⟨⟨⟨⟨h1,h2⟩,h3⟩,h4⟩,h5⟩:=h
 refine sD h1 (λy hy=>(h2 y hy).1.1) (λy hy e=>(h2 y hy).1.2.resolve_left λz=>z e) hc (λy hy e=>by rw [hso];exact (h2 y hy).2.resolve_left λz=>z e) h3 h4 λk i x e1 e2=>?_
 have hk:k < ix.length:=(List.getElem?_eq_some_iff.mp e1).1
 have:=h5 k (mem_range.mpr hk)
 rw [e1,e2] at this
 rw [hN0]
 simpa using this
section
variable {X:Cx}{Γ Γ1 Γ2 Γ3:Ga}{α β γ δ:Type}{N:Ga->Prop}{T:RT}
variable {r:aD α}
theorem kj (i:Nat){S:bX}{x y:Str}{k:Nat}{e:Expr}{es:List Expr}{p p1 p2 pos:Pos}{ps:List Pk}{Pd:α->Prop}(C:ay X.prog X.w X.K X.mg X.base x k (aF S X.K))(hr:bU k X.A)(ha:HA X (e::es) Γ ps Γ1)(hS:S X.K ps (bR X.K r Pd))(h:∀z,Pd z->N (Γ1.set i (.im r z)))
 (hg:Gl X x:=by rfl) (hdb:Dg0 x:=by decide) (he:starEach (e::es) X.env=(false,eval e X.env)::starEach es X.env:=by rfl) (hpl:(backTo p2 (starEach es X.env)).any (·.1)=false:=by rfl)
 (hN:X.N.Nodup:=by first | assumption | decide) (hi:X.N[i]?=some y:=by rfl) (hx:autoParam (Loc X.env.scope y) vA2)
 (hs:swapsWith (.Call (.Name x p) (e::es) [] p2) (some (.Name y p1)) pos.line X.env=pure false:=by rfl) (hf:autoParam (X.fn y=true∨X.env.scope.names.lookup y=some .local) vA3):
 W1 X (.Assign [.Name y p1] (.Call (.Name x p) (e::es) [] p2) pos) Γ N T:=λσ H0 R0 H R E D dn dr=>
 sS (d6 hN hi hx aE hs hf) (d4 C hr ha hS E (λH1 R1 v H' R' E1 s1 xx t=>by
  obtain ⟨z,e1,hz⟩:=t
  exact dn _ H' R' _ ((E1.grow xx).set i e1) (s1.trans xx.r) (h z hz)) hg hdb he hpl)
theorem A6 {tg iter:Expr}{w:Row}(h:EV X iter Γ ax w Γ1):IV X tg iter Γ ae [w.1,w.2.1,w.2.2.1,w.2.2.2] Γ1:=by
 refine ⟨_,Au aE,λσ H0 R0 H R E Rq q=>h σ H0 R0 H R E _ λv H1 R1 E1 s1 e1=>?_⟩
 obtain ⟨a,rfl,ha⟩:=e1
 have hq0:∀H' R':Hp,aj R1 R'->aj R' H'->dm X.K H' a [.int w.1,.int w.2.1,.int w.2.2.1,.int w.2.2.2]:=λH' R' sR sH=>dm.of (sH _ _ (sR _ _ ha))
 refine ⟨a,rfl,⟨_,hq0 H1 R1 (aj.refl _) E1.sub⟩,q _ H1 R1 E1 s1 (by show 4<=sizeLine;decide) λH' R' sR sH i=>⟨λx hx=>?_,λhi=>⟨_,hq0 H' R' sR sH,hi⟩⟩⟩
 have e2:([.int w.1,.int w.2.1,.int w.2.2.1,.int w.2.2.2]:List V)[i]?=some (.int x):=by
  have:=congrArg (Option.map V.int) hx
  rw [← getElem?_map] at this
  exact this
 refine ⟨⟨_,_,hq0 H' R' sR sH,e2⟩,λv H2 hy=>?_⟩
 obtain ⟨rfl,hy⟩:=hy
 have:=hy _ (hq0 _ R' sR sH)
 rw [e2] at this
 cases this
 exact ⟨R',Ext.refl sH,rfl⟩
theorem p9 {a:Expr}{p pos:Pos}{x:α}{n:Nat}(hm:X.mg "len"=none)(ha:EV X a Γ r x Γ1)(ht:∀(R:Hp) v,r.R X.K R v x->∃q vs,v= .ref q/\R q=some (.tup vs)/\vs.length=n)(hs:starEach [a] X.env=[(false,eval a X.env)]:=by rfl)(hg:Gl X "len":=by rfl):EV X (.Call (.Name "len" p) [a] [] pos) Γ ae (n:Int) Γ1:=by
 intro σ H0 R0 H R E Q q
 refine eS (dA eE hg hm PySem.boot_len (aL aE bz hs) (by decide) (by decide) hs) (ha σ H0 R0 H R E _ λv H1 R1 E1 s1 e1=>?_)
 obtain ⟨p,vs,rfl,hp,hl⟩:=ht R1 v e1
 refine ⟨p,vs,rfl,.inr (dm.of (E1.sub _ _ hp)),?_⟩
 rw [hl]
 exact q _ H1 R1 E1 s1 rfl
theorem yz {K:PySem.W.Frag}{r':aD β}{x:α×β}(R:Hp)(v:V)(h:(av r r').R K R v x):∃q vs,v= .ref q/\R q=some (.tup vs)/\vs.length=2:=by
 obtain ⟨a,v1,v2,rfl,ha,_⟩:=h
 exact ⟨a,_,rfl,ha,rfl⟩
theorem Bj {K:PySem.W.Frag}{x:Row}(R:Hp)(v:V)(h:ax.R K R v x):∃q vs,v= .ref q/\R q=some (.tup vs)/\vs.length=4:=by
 obtain ⟨a,rfl,ha⟩:=h
 exact ⟨a,_,rfl,ha,rfl⟩
end
inductive Reach (es:List (Int×Int)) (s:Int):Int->Prop
 | base:Reach es s s
 | step {a b:Int}:Reach es s a->(a,b)∈es->Reach es s b
theorem Reach.sub {es:List (Int×Int)}{s:Int}{P:Int->Prop}(h0:P s)(hc:∀a b,P a->(a,b)∈es->P b):∀{k:Int},Reach es s k->P k
 | _,.base=>h0
 | _,.step r m=>hc _ _ (Reach.sub h0 hc r) m
section
variable {X:Cx}{Γ Γ1 Γ2 Γ3:Ga}{α β γ δ:Type}{N:Ga->Prop}{T:RT}
theorem yo:dg X (binaryOp .Mult) (rI IntMulOk λi j=>.int (i * j)):=uV λ_ _ _ _ _ _ _ hc q=>mul_int q hc
theorem iW {a b:Expr}{pos:Pos}{x y:Int}(ha:EV X a Γ ae x Γ1)(hb:EV X b Γ1 ae y Γ2)(h:IntMulOk x y):EV X (.BinOp a .Mult b pos) Γ ae (x * y) Γ2:=jC yo ha hb λR v u H Q e1 e2 q=>⟨x,y,e1,e2,h,q _ rfl⟩
def dQ (a:Addr)(r:aD α)(xs:List α):iA where
 fp:=[a]
 R:=λK H R v=>v= .ref a/\∃vs,H a=some (.lst vs)/\PySem.Paired (r.R K R) vs xs
 loc:=λhH hR ⟨e,vs,h,p⟩=>⟨e,vs,(hH a (mem_singleton.mpr rfl)).trans h,Paired.map (λ_ _=>r.mono hR) p⟩
 has:=λ⟨e,vs,h,p⟩ b hb=>by rw [mem_singleton.mp hb,h];exact Option.some_ne_none _
theorem ja {K:PySem.W.Frag}{H R:Hp}{a:Addr}{r:aD α}{xs:List α}{vs:List V}(h:H a=some (.lst vs))(hR:R a=none)(p:PySem.Paired (r.R K R) vs xs):(Ent.ob (dQ a r xs)).ok K H R (some (.ref a)):=
 ⟨⟨_,rfl,rfl,vs,h,p⟩,λb hb=>by rw [mem_singleton.mp hb];exact hR⟩
theorem gk {K:PySem.W.Frag}{H R:Hp}{a:Addr}{r:aD α}{xs:List α}{o:Option V}(h:(Ent.ob (dQ a r xs)).ok K H R o):o=some (.ref a)/\(∃vs,H a=some (.lst vs)/\PySem.Paired (r.R K R) vs xs)/\R a=none:=by
 obtain ⟨⟨v,rfl,rfl,q⟩,n⟩:=h
 exact ⟨rfl,q,n a (mem_singleton.mpr rfl)⟩
theorem WS.box (i:Nat){sts:List Stmt}{r:aD α}{xs:List α}(hΓ:Γ[i]?=some (.mu r xs))(h:∀a,WS X sts (Γ.set i (.ob (dQ a r xs))) N T):WS X sts Γ N T:=λσ H0 R0 H R E D dn dr=>by
 obtain ⟨a,vs,ea,ha,hR,pp⟩:=E.ent i _ hΓ
 exact h a σ H0 R0 H R (E.tell hΓ (by rw [ea];exact ja ha hR pp) λb w=>by
  rw [show b=a from mem_singleton.mp w];exact bT.mpr ea) D dn dr
theorem EV.box (i:Nat){e:Expr}{a:Addr}{r:aD α}{xs xs':List α}{rr:aD β}{y:β}(h:EV X e (Γ.set i (.mu r xs)) rr y Γ1)(hΓ:Γ[i]?=some (.ob (dQ a r xs)))(hΓ1:Γ1[i]?=some (.mu r xs')):EV X e Γ rr y (Γ1.set i (.ob (dQ a r xs'))):=by
 intro σ H0 R0 H R E Q q
 obtain ⟨ea,⟨vs,ha,pp⟩,hR⟩:=gk (E.ent i _ hΓ)
 refine h σ H0 R0 H R (E.tell hΓ (by rw [ea];exact ⟨a,vs,rfl,ha,hR,pp⟩) λb w=>by rw [bT.mp w] at ea;cases ea;exact mem_singleton.mpr rfl) Q λv H' R' E' s' hr=>q v H' R' ?_ s' hr
 obtain ⟨a',vs',ea',ha',hR',pp'⟩:=E'.ent i _ hΓ1
 rw [ea] at ea';cases ea'
 exact E'.tell hΓ1 (by rw [ea];exact ja ha' hR' pp') λb w=>by rw [show b=a from mem_singleton.mp w];exact bT.mpr ea
theorem TV.box (i:Nat){e:Expr}{a:Addr}{r:aD α}{xs xs':List α}{y:Bool}(h:TV X e (Γ.set i (.mu r xs)) y Γ1)(hΓ:Γ[i]?=some (.ob (dQ a r xs)))(hΓ1:Γ1[i]?=some (.mu r xs')):TV X e Γ y (Γ1.set i (.ob (dQ a r xs'))):=by
 intro σ H0 R0 H R E Q q
 obtain ⟨ea,⟨vs,ha,pp⟩,hR⟩:=gk (E.ent i _ hΓ)
 refine h σ H0 R0 H R (E.tell hΓ (by rw [ea];exact ⟨a,vs,rfl,ha,hR,pp⟩) λb w=>by rw [bT.mp w] at ea;cases ea;exact mem_singleton.mpr rfl) Q λH' R' E' s'=>q H' R' ?_ s'
 obtain ⟨a',vs',ea',ha',hR',pp'⟩:=E'.ent i _ hΓ1
 rw [ea] at ea';cases ea'
 exact E'.tell hΓ1 (by rw [ea];exact ja ha' hR' pp') λb w=>by rw [show b=a from mem_singleton.mp w];exact bT.mpr ea
theorem wj (i:Nat){x:Str}{b e:Expr}{p1 p2 pos:Pos}{a:Addr}{r:aD α}{xs:List α}{y:α}{k:Int}{j:Nat}(he:EV X e Γ r y Γ1)(hb:EV X b Γ1 ae k Γ2)(hΓ1:Γ1[i]?=some (.ob (dQ a r xs)))(hΓ2:Γ2[i]?=some (.ob (dQ a r xs)))(hj:dP xs.length k=some j)(h:N (Γ2.set i (.ob (dQ a r (xs.set j y)))))
 (hN:X.N[i]?=some x:=by rfl) (hv:autoParam (bS X.env.scope x) vA1)
 (hd:Dg0 x:=by decide) (hcd:Cd0 x:=by decide)
 (ha:∀v,assign (.Subscript (.Name x p1) b p2) X.env v=(do
  let ov ← holding [v] (eval (.Name x p1) X.env)
  let iv ← holding [v,ov] (eval b X.env)
  standAt p2
  holding [v,ov,iv] (setItem ov iv v)
  release [v,ov,iv] []):=by intro _;rfl)
 (hs:swapsWithSole [.Subscript (.Name x p1) b p2] e pos.line X.env=pure false:=by rfl) (hw:swappedStores [.Subscript (.Name x p1) b p2] e X.env=pure none:=by rfl) (h1:(assignEach [.Subscript (.Name x p1) b p2] X.env).map (·.2)=[assign (.Subscript (.Name x p1) b p2) X.env]:=by rfl):
 W1 X (.Assign [.Subscript (.Name x p1) b p2] e pos) Γ N T:=λσ H0 R0 H R E D dn dr=>by
 refine sS (gG aE (jX (aX hN hv hd hcd) aE set_list ha) hs hw h1) (he σ H0 R0 H R E _ λv H1 R1 E1 s1 e1=>?_)
 obtain ⟨ea,⟨vs,hp,pp⟩,hR⟩:=gk (E1.ent i _ hΓ1)
 refine ⟨.ref a,at_of ea,hb σ H0 R0 H1 R1 E1 _ λu H2 R2 E2 s2 e2=>?_⟩
 obtain ⟨ea',⟨vs',ha',pp'⟩,hR'⟩:=gk (E2.ent i _ hΓ2)
 refine ⟨a,vs',k,j,rfl,e2,ha',by rw [pp'.length];exact hj,?_⟩
 exact dn σ _ R2 _ (E2.hV (en:=.ob (dQ a r (xs.set j y))) hΓ2 (mem_singleton.mpr rfl) (by rw [ea'];exact ja au hR' (gX (r.mono s2 e1) j pp')) λb w=>.inl w) (s1.trans s2) h
def del (H:Hp)(a:Addr):Hp:=λb=>if b=a then none else H b
theorem oi {H:Hp}{a:Addr}:del H a a=none:=if_pos rfl
theorem jL {H:Hp}{a b:Addr}(h:b≠a):del H a b=H b:=if_neg h
theorem yD {H:Hp}{a:Addr}:aj (del H a) H:=λb o q=>by
 by_cases h:b=a
 ·subst h;rw [oi] at q;cases q
 ·rwa [jL h] at q
theorem ao.D8 {K:PySem.W.Frag}{σ:St}{H0 R0 H R H' R':Hp}(E:ao K σ H0 R0 H R Γ){a:Addr}(off:Off a σ Γ)(h0:H0 a=none)(x:Ext (del H a) R H' R'):ao K σ H0 R0 H' R' Γ:=by
 have ne:∀{b:Addr},H0 b≠none->b≠a:=λh e=>h (e▸h0)
 refine ⟨⟨λb o q=>?_,E.ext.r.trans x.r,x.s,λb hb=>?_⟩,λi e q=>?_,E.nw,E.ds,E.len⟩
 ·exact x.h b o (by rw [jL (ne (by rw [q];exact Option.some_ne_none _))];exact E.ext.h b o q)
 ·refine (x.old b ?_).trans (E.ext.old b hb)
  rw [jL (ne hb)];exact aj.some E.ext.h hb
 ·have h1:=E.ent i e q
  have na:∀b∈e.fp (σ[i]?).join,b≠a:=λb hb z=>off i e q (z▸hb)
  refine h1.loc (λb hb=>?_) x.r λb hb=>?_
  ·cases e2:H b with
   | none=>exact absurd e2 (Ent.cO h1 hb).1
   | some u=>exact x.h b u (by rw [jL (na b hb)];exact e2)
  ·exact (x.old b (by rw [jL (na b hb)];exact (Ent.cO h1 hb).1)).trans (Ent.cO h1 hb).2
theorem ao.iG {K:PySem.W.Frag}{σ:St}{H0 R0 H R:Hp}(E:ao K σ H0 R0 H R Γ){i:Nat}{e0 en:Ent}(hi:Γ[i]?=some e0)(ho:en.ok K H R (σ[i]?).join)(hsub:∀b∈en.fp (σ[i]?).join,H0 b=none/\∀(j:Nat) (e:Ent),j≠i->Γ[j]?=some e->b∉e.fp (σ[j]?).join):ao K σ H0 R0 H R (Γ.set i en):=by
 refine ⟨E.ext,λj e q=>?_,λj e b q w=>?_,λj k e e' b q q' w w'=>?_,by rw [length_set];exact E.len⟩
 ·rcases set_at q with ⟨rfl,rfl,_⟩ | ⟨hj,q1⟩
  ·exact ho
  ·exact E.ent j e q1
 ·rcases set_at q with ⟨rfl,rfl,_⟩ | ⟨hj,q1⟩
  ·exact (hsub b w).1
  ·exact E.nw j e b q1 w
 ·rcases set_at q with ⟨rfl,rfl,_⟩ | ⟨hj,q1⟩
  ·rcases set_at q' with ⟨rfl,rfl,_⟩ | ⟨hk,q1'⟩
   ·rfl
   ·exact absurd w' ((hsub b w).2 k e' hk q1')
  ·rcases set_at q' with ⟨rfl,rfl,_⟩ | ⟨hk,q1'⟩
   ·exact absurd w ((hsub b w').2 j e hj q1)
   ·exact E.ds _ _ _ _ b q1 q1' w w'
abbrev sP (α:Type):=PySem.W.Frag->List α->List Pk->(List α->RT)->Prop
def tQ (r:aD α)(S:sP α)(K:PySem.W.Frag):Sp:=λvs H Q _=>∃R a ws xs vs' ps T,vs= .ref a::vs'/\aj R H/\R a=none/\H a=some (.lst ws)/\PySem.Paired (r.R K R) ws xs/\gO K R vs' ps/\S K xs ps T/\
 ∀v H' R' ws' xs',Ext (del H a) R H' R'->H' a=some (.lst ws')->R' a=none->PySem.Paired (r.R K R') ws' xs'->T xs' (del H a) v H' R'->Q v H'
theorem ub {r:aD α}{S:sP α}{x y:Str}{k:Nat}{es:List Expr}{p p1 pos:Pos}{ps:List Pk}{xs:List α}{TM:List α->RT}{Q:VK}{σ:St}{H0 R0 H R:Hp}(i:Nat)(C:ay X.prog X.w X.K X.mg X.base x k (tQ r S X.K))(hr:bU k X.A)(ha:HA X es Γ ps Γ1)(hΓ:Γ[i]?=some (.mu r xs))(hΓ1:Γ1[i]?=some (.mu r xs))(hS:S X.K xs ps TM)(E:ao X.K σ H0 R0 H R Γ)
 (q:∀H1 v H' R' xs',ao X.K σ H0 R0 H' R' (Γ1.set i (.mu r xs'))->aj R R'->TM xs' H1 v H' R'->Q v H')
 (hg:Gl X x) (hdb:(x==("__debug__":Str))=false) (he:starEach (.Name y p1::es) X.env=(false,eval (.Name y p1) X.env)::starEach es X.env) (hpl:(backTo pos (starEach es X.env)).any (·.1)=false)
 (hN:X.N[i]?=some y) (hv:bS X.env.scope y) (hd:(y==("__debug__":Str))=false) (hcd:(y==("__classdict__":Str))=false):dI X (.Call (.Name x p) (.Name y p1::es) [] pos) σ H Q:=by
 obtain ⟨f,fd,pn,F,hm,hk,hb⟩:=C.ex
 obtain ⟨a,vs,ea,_,_,_⟩:=E.ent i _ hΓ
 refine eS (kB F hr hg hm hk hb .nil nM (aL (aX hN hv hd hcd) jY he) hdb he hpl) ⟨.ref a,at_of ea,ha σ H0 R0 H R E _ λus H1 R1 E1 s1 p1=>?_⟩
 obtain ⟨a',ws,ea',hp,hR,pp⟩:=E1.ent i _ hΓ1
 rw [ea] at ea';cases ea'
 have h0:H0 a=none:=E1.new i _ a hΓ1 rfl ea
 refine ⟨R1,a,ws,xs,us,ps,TM,by rw [append_nil],E1.sub,hR,hp,pp,p1,hS,λv H' R' ws' xs' xx h1 h2 pq t=>q _ v H' R' xs' ?_ (s1.trans xx.r) t⟩
 have apart:∀(j:Nat) (e:Ent),j≠i->Γ1[j]?=some e->a∉e.fp (σ[j]?).join:=λj e hj qj w=>hj (E1.ds j i e _ a qj hΓ1 w (bT.mpr ea))
 have E2:ao X.K σ H0 R0 H1 R1 (Γ1.set i .no):=E1.tell hΓ1 trivial λb w=>by cases w
 have E3:=E2.D8 (a:=a) (λj e qj w=>by
  rcases set_at qj with ⟨rfl,rfl,_⟩ | ⟨hj,q1⟩
  ·cases w
  ·exact apart j e hj q1 w) h0 xx
 have hl:i < Γ1.length:=(List.getElem?_eq_some_iff.mp hΓ1).1
 have E4:=E3.iG (i:=i) (e0:=.no) (en:=.mu r xs') (getElem?_set_self hl) (by rw [ea];exact ⟨a,ws',rfl,h1,h2,pq⟩) λb w=>by
  have eb:b=a:=by rw [bT.mp w] at ea;cases ea;rfl
  subst eb
  exact ⟨h0,λj e hj qj=>apart j e hj (by rwa [getElem?_set_ne (Ne.symm hj)] at qj)⟩
 rw [set_set] at E4
 exact E4
theorem wX (i:Nat){r:aD α}{S:sP α}{x y:Str}{k:Nat}{es:List Expr}{p p1 pos:Pos}{ps:List Pk}{xs st:List α}{rr:aD β}{z:β}(C:ay X.prog X.w X.K X.mg X.base x k (tQ r S X.K))(hr:bU k X.A)(ha:HA X es Γ ps Γ1)(hΓ:Γ[i]?=some (.mu r xs))(hΓ1:Γ1[i]?=some (.mu r xs))(hS:S X.K xs ps (λxs'=>bR X.K rr λw=>xs'=st/\w=z))
 (hg:Gl X x:=by rfl) (hdb:Dg0 x:=by decide) (he:starEach (.Name y p1::es) X.env=(false,eval (.Name y p1) X.env)::starEach es X.env:=by rfl) (hpl:(backTo pos (starEach es X.env)).any (·.1)=false:=by rfl)
 (hN:X.N[i]?=some y:=by rfl) (hv:autoParam (bS X.env.scope y) vA1) (hd:Dg0 y:=by decide) (hcd:Cd0 y:=by decide):
 EV X (.Call (.Name x p) (.Name y p1::es) [] pos) Γ rr z (Γ1.set i (.mu r st)):=λσ H0 R0 H R E Q q=>
 ub i C hr ha hΓ hΓ1 hS E (λH1 v H' R' xs' E' s' t=>by
  obtain ⟨w,e1,rfl,rfl⟩:=t
  exact q v H' R' E' s' e1) hg hdb he hpl hN hv hd hcd
def EB (K:PySem.W.Frag)(a:Addr)(r:aD α)(T:List α->RT):RT:=λH0 v H' R'=>∃ws' xs',H' a=some (.lst ws')/\R' a=none/\PySem.Paired (r.R K R') ws' xs'/\T xs' H0 v H' R'
theorem sG {K:PySem.W.Frag}{R H:Hp}{a:Addr}{r:aD α}{ws:List V}{xs:List α}{vs:List V}{ps:List Pk}{N:List Str}(s:aj R H)(hR:R a=none)(ha:H a=some (.lst ws))(pp:PySem.Paired (r.R K R) ws xs)(p:gO K R vs ps)(hl:ps.length + 1<=N.length):
 ao K (L2.start N (.ref a::vs)) (del H a) R H R (.ob (dQ a r xs)::dh ps (N.length - 1)):=by
 obtain ⟨n0,N',rfl⟩:∃n0 N',N=n0::N':=by cases N with
  | nil=>exact absurd hl (by simp)
  | cons n N'=>exact ⟨n,N',rfl⟩
 have hl':ps.length<=N'.length:=by simpa using hl
 have E0:=fH (N:=N') s p hl'
 have es:L2.start (n0::N') (.ref a::vs)=some (.ref a)::L2.start N' vs:=by unfold L2.start;simp
 rw [es]
 have noown:∀(i:Nat) (e:Ent) (o:Option V),(dh ps N'.length)[i]?=some e->e.fp o=[]:=λi e o q=>by
  unfold dh at q
  rcases mem_append.mp (mem_of_getElem? q) with z | z
  ·obtain ⟨p,_,rfl⟩:=mem_map.mp z;rfl
  ·obtain ⟨_,rfl⟩:=mem_replicate.mp z;rfl
 refine ⟨⟨yD,aj.refl _,s,λ_ _=>rfl⟩,λi e q=>?_,λi e b q w=>?_,λi j e e' b q q' w w'=>?_,?_⟩
 ·cases i with
  | zero=>simp at q;subst q;exact ja ha hR pp
  | succ i=>simp at q;simpa using E0.ent i e q
 ·cases i with
  | zero=>simp at q;subst q;rw [show b=a from mem_singleton.mp w];exact oi
  | succ i=>simp at q;rw [noown i e _ q] at w;cases w
 ·cases i with
  | succ i=>simp at q;rw [noown i e _ q] at w;cases w
  | zero=>
    cases j with
    | zero=>rfl
    | succ j=>simp at q';rw [noown j e' _ q'] at w';cases w'
 ·have:=E0.len
  simp [this]
variable {P:Program}{w:World}{K:PySem.W.Frag}{mg:Str->Option Value}{base:Heap}
end
def cC {α:Type}(k:Nat)(y:α)(xs:List α):List α:=xs.take k++y::xs.drop k
theorem pD {α:Type}{k:Nat}{y:α}{xs:List α}:(cC k y xs).length=xs.length + 1:=by
 unfold cC;rw [length_append,length_cons,length_take,length_drop];omega
section
variable {X:Cx}{Γ Γ1 Γ2 Γ3:Ga}{α β γ δ:Type}{N:Ga->Prop}{T:RT}
variable {as:List Addr}{rs:List Row}{H:Hp}{b:Addr}{r:Row}{a:Addr}{j:Nat}{p1:Pos}{sts:List Stmt}
def yX:V->List V->Hp->VK->Prop:=λx vs H Q=>∃l xs i y,x= .ref l/\vs=[.int i,y]/\H l=some (.lst xs)/\0<=i/\i<=(xs.length:Int)/\xs.length < sizeLine/\Q .non (upd H l (.lst (cC i.toNat y xs)))
theorem uP:tG X "list.insert" yX:=by
 intro pins s σ H x vs v us Q I rx rv h
 obtain ⟨l,xs,i,y,rfl,rfl,hH,h0,h1,hz,q⟩:=h
 cases rx
 obtain ⟨u1,u2,rfl,⟨t,rfl⟩,r2⟩:=vals2 rv
 obtain ⟨z,its,n,r,hl,e⟩:=I.jg hH
 have hfit:Builtin.List.listFitsIndex i=true:=fitsIndex_both (by omega) (by
  have:sizeLine < 2 ^ 63:=by decide
  omega)
 refine call_meets PySem.F.slot_list_insert ⟨_,e,rfl⟩ PySem.F.entry_list_insert (PySem.F.args_list_insert_3 _ _ _) (PySem.AutoSeq1.list_insert_list_int_val_1 l _ n i t u2 (by simp [hfit]) (by rw [size_toArray];omega)) ⟨e,?_⟩
 refine ⟨.non,_,I.ot (its':=cC i.toNat u2 its) hH e ?_ ?_ ?_,rfl,q⟩
 ·have hk:(if i < 0 then (i + ((its.toArray.size:Nat):Int)).toNat else min i.toNat its.toArray.size)=i.toNat:=by
   rw [if_neg (by omega),size_toArray];omega
  dsimp only
  rw [hk]
  unfold cC
  apply Array.ext'
  simp
  exact take_of_length_le (by rw [length_drop];exact Nat.le_refl _)
 ·unfold cC;exact (r.take _).append (.cons r2 (r.drop _))
 ·rw [pD];omega
def jv (r:Row):List V:=[.int r.1,.int r.2.1,.int r.2.2.1,.int r.2.2.2]
def vB:aD Addr:=⟨λ_ _ v a=>v= .ref a,λ_ h=>h⟩
def gR:aD Row:=⟨λ_ H v r=>∃b,v= .ref b/\H b=some (.lst (jv r)),λs ⟨b,e,h⟩=>⟨b,e,s _ _ h⟩⟩
def ck (H:Hp)(as:List Addr)(rs:List Row):Prop:=as.length=rs.length/\∀(i:Nat) (b:Addr) (r:Row),as[i]?=some b->rs[i]?=some r->H b=some (.lst (jv r))
theorem ck.row (h:ck H as rs)(hb:b∈as):∃r,H b=some (.lst (jv r)):=by
 obtain ⟨i,hi,rfl⟩:=mem_iff_getElem.mp hb
 exact ⟨_,h.2 i _ _ (getElem?_eq_getElem hi) (getElem?_eq_getElem (by rw [← h.1];exact hi))⟩
theorem ck.loc {H':Hp}(h:ck H as rs)(e:∀a∈as,H' a=H a):ck H' as rs:=
 ⟨h.1,λi b r h1 h2=>(e b (mem_of_getElem? h1)).trans (h.2 i b r h1 h2)⟩
theorem ck.put (h:ck H as rs)(nd:as.Nodup)(hb:as[j]?=some b):ck (upd H b (.lst (jv r))) as (rs.set j r):=by
 refine ⟨by rw [length_set];exact h.1,λi c q h1 h2=>?_⟩
 by_cases hij:i=j
 ·subst hij
  rw [hb] at h1;cases h1
  have hl:i < rs.length:=by rw [← h.1];exact (List.getElem?_eq_some_iff.mp hb).1
  rw [getElem?_set_self hl] at h2;cases h2
  exact au
 ·rw [getElem?_set_ne (Ne.symm hij)] at h2
  have:c≠b:=λz=>by
   subst z
   have l1:=(List.getElem?_eq_some_iff.mp h1)
   have l2:=(List.getElem?_eq_some_iff.mp hb)
   exact hij ((getElem_inj (h₀:=l1.1) (h₁:=l2.1) nd).mp (l1.2.trans l2.2.symm))
  rw [aA this];exact h.2 i c q h1 h2
def bW (a:Addr)(as:List Addr)(rs:List Row):iA where
 fp:=a::as
 R:=λK H R v=>v= .ref a/\H a=some (.lst (as.map .ref))/\ck H as rs/\(a::as).Nodup
 loc:=λhH hR ⟨e,h1,h2,h3⟩=>⟨e,(hH a mem_cons_self).trans h1,h2.loc λb hb=>hH b (mem_cons_of_mem _ hb),h3⟩
 has:=λ⟨e,h1,h2,h3⟩ b hb=>by
  rcases mem_cons.mp hb with rfl | hb
  ·rw [h1];exact Option.some_ne_none _
  ·obtain ⟨r,hr⟩:=h2.row hb
   rw [hr];exact Option.some_ne_none _
def pE (a:Addr)(as:List Addr)(rs:List Row):iA where
 fp:=as
 R:=λK H R v=>v= .ref a/\R a=some (.lst (as.map .ref))/\ck H as rs/\as.Nodup
 loc:=λhH hR ⟨e,h1,h2,h3⟩=>⟨e,hR _ _ h1,h2.loc λb hb=>hH b hb,h3⟩
 has:=λ⟨e,h1,h2,h3⟩ b hb=>by
  obtain ⟨r,hr⟩:=h2.row hb
  rw [hr];exact Option.some_ne_none _
structure pA (B B':iA) (b:Addr) (r r':Row):Prop where
 mem:b∈B.fp
 fp:B'.fp=B.fp
 get:∀{K:PySem.W.Frag} {H R:Hp} {v:V},B.R K H R v->H b=some (.lst (jv r))
 set:∀{K:PySem.W.Frag} {H R:Hp} {v:V},B.R K H R v->B'.R K (upd H b (.lst (jv r'))) R v
theorem kD {r':Row}(hb:as[j]?=some b)(hr:rs[j]?=some r):pA (bW a as rs) (bW a as (rs.set j r')) b r r' where
 mem:=mem_cons_of_mem _ (mem_of_getElem? hb)
 fp:=rfl
 get:=λh=>h.2.2.1.2 j b r hb hr
 set:=λ⟨e,h1,h2,h3⟩=>by
  obtain ⟨n1,n2⟩:=nodup_cons.mp h3
  exact ⟨e,by rw [aA (show a≠b from λz=>n1 (z▸mem_of_getElem? hb))];exact h1,h2.put n2 hb,h3⟩
theorem uX (i:Nat){o:Expr}{c:Int}{pos:Pos}{B B':iA}{r':Row}{y:Int}(ho:EV X o Γ vB b Γ1)(hΓ1:Γ1[i]?=some (.ob B))(hB:pA B B' b r r')(hy:cN (jv r) c=some (.int y)):EV X (.Subscript o (.Constant (.int c) j p1) pos) Γ ae y Γ1:=by
 intro σ H0 R0 H R E Q q
 refine eS (gx fF aE d8 (λ_ _=>rfl)) (ho σ H0 R0 H R E _ λv H1 R1 E1 s1 e1=>?_)
 cases e1
 obtain ⟨⟨v,ev,hv⟩,_⟩:=E1.ent i _ hΓ1
 exact ⟨b,_,c,_,rfl,rfl,aM.of (hB.get hv),hy,q _ H1 R1 E1 s1 rfl⟩
theorem nV (i:Nat){o e:Expr}{k:Nat}{p2 pos:Pos}{B B':iA}{y:Int}(he:EV X e Γ ae y Γ1)(ho:EV X o Γ1 vB b Γ2)(hΓ2:Γ2[i]?=some (.ob B))(hB:pA B B' b r (r.1,r.2.1,r.2.2.1,y))(h:N (Γ2.set i (.ob B')))
 (ha:∀v,assign (.Subscript o (.Constant (.int 3) k p1) p2) X.env v=(do
  let ov ← holding [v] (eval o X.env)
  let iv ← holding [v,ov] (eval (.Constant (.int 3) k p1) X.env)
  standAt p2
  holding [v,ov,iv] (setItem ov iv v)
  release [v,ov,iv] []):=by intro _;rfl)
 (hs:swapsWithSole [.Subscript o (.Constant (.int 3) k p1) p2] e pos.line X.env=pure false:=by rfl) (hw:swappedStores [.Subscript o (.Constant (.int 3) k p1) p2] e X.env=pure none:=by rfl) (h1:(assignEach [.Subscript o (.Constant (.int 3) k p1) p2] X.env).map (·.2)=[assign (.Subscript o (.Constant (.int 3) k p1) p2) X.env]:=by rfl):
 W1 X (.Assign [.Subscript o (.Constant (.int 3) k p1) p2] e pos) Γ N T:=λσ H0 R0 H R E D dn dr=>by
 refine sS (gG aE (jX aE d8 set_list ha) hs hw h1) (he σ H0 R0 H R E _ λv H1 R1 E1 s1 e1=>ho σ H0 R0 H1 R1 E1 _ λu H2 R2 E2 s2 e2=>?_)
 cases e2
 cases e1
 obtain ⟨⟨v,ev,hv⟩,hn⟩:=E2.ent i _ hΓ2
 refine ⟨b,_,3,3,rfl,rfl,hB.get hv,rfl,?_⟩
 exact dn σ _ R2 _ (E2.hV (u:=.lst (jv (r.1,r.2.1,r.2.2.1,y))) (en:=.ob B') hΓ2 hB.mem ⟨⟨v,ev,hB.set hv⟩,by rw [hB.fp];exact hn⟩ λb' w=>.inl (by rw [Ent.fp,hB.fp] at w;exact w)) (s1.trans s2) h
theorem WS.yM (i:Nat){r:aD α}(hΓ:Γ[i]?=some (.mu r []))(h:∀a,WS X sts (Γ.set i (.ob (bW a [] []))) N T):WS X sts Γ N T:=λσ H0 R0 H R E D dn dr=>by
 obtain ⟨a,vs,ea,ha,hR,pp⟩:=E.ent i _ hΓ
 cases pp
 refine h a σ H0 R0 H R (E.tell hΓ ⟨⟨.ref a,ea,rfl,ha,⟨rfl,λi b r h1=>by simp at h1⟩,by simp⟩,λb hb=>?_⟩ λb w=>?_) D dn dr
 ·rw [show b=a by simpa [bW] using hb];exact hR
 ·rw [show b=a by simpa [Ent.fp,bW] using w];exact bT.mpr ea
theorem r9 (i:Nat){x:Str}{p pos:Pos}(hm:X.mg "len"=none)(hΓ:Γ[i]?=some (.ob (bW a as rs)))(hN:X.N[i]?=some x:=by rfl)(hv:autoParam (bS X.env.scope x) vA1)
 (hd:Dg0 x:=by decide) (hcd:Cd0 x:=by decide) (hg:Gl X "len":=by rfl):EV X (.Call (.Name "len" p) [.Name x p1] [] pos) Γ ae (rs.length:Int) Γ:=by
 intro σ H0 R0 H R E Q q
 obtain ⟨⟨v,ea,rfl,ha,hr,_⟩,hR⟩:=E.ent i _ hΓ
 refine eS (dA eE hg hm PySem.boot_len (aL (aX hN hv hd hcd) bz rfl) (by decide) (by decide) rfl) ⟨.ref a,at_of ea,a,_,rfl,.inl (aM.of ha),?_⟩
 rw [length_map,hr.1]
 exact q _ H R E (aj.refl _) rfl
theorem ao.tm {K:PySem.W.Frag}{σ:St}{H0 R0:Hp}:∀(as:List Addr) {R:Hp},ao K σ H0 R0 H R Γ->(∀b∈as,H b≠none/\H0 b=none/\Off b σ Γ)->∃R',ao K σ H0 R0 H R' Γ/\aj R R'/\∀b∈as,R' b=H b
 | [],R,E,_=>⟨R,E,aj.refl _,λb hb=>by cases hb⟩
 | b::as,R,E,h=>by
   obtain ⟨h1,h2,h3⟩:=h b mem_cons_self
   obtain ⟨u,hu⟩:∃u,H b=some u:=by cases q:H b with
    | none=>exact absurd q h1
    | some u=>exact ⟨u,rfl⟩
   have key:∃R1,ao K σ H0 R0 H R1 Γ/\aj R R1/\R1 b=some u:=by
    cases q:R b with
    | none=>exact ⟨_,E.lT hu q h2 h3,aj.fresh q _,au⟩
    | some u'=>
      have:=E.sub b u' q
      rw [hu] at this
      cases this
      exact ⟨R,E,aj.refl _,q⟩
   obtain ⟨R1,E1,s1,r1⟩:=key
   obtain ⟨R2,E2,s2,r2⟩:=ao.tm as E1 λc hc=>h c (mem_cons_of_mem _ hc)
   refine ⟨R2,E2,s1.trans s2,λc hc=>?_⟩
   rcases mem_cons.mp hc with rfl | hc
   ·rw [s2 _ _ r1,hu]
   ·exact r2 c hc
theorem WS.outer (i:Nat)(hΓ:Γ[i]?=some (.ob (bW a as rs)))(h:WS X sts (Γ.set i (.ob (pE a as rs))) N T):WS X sts Γ N T:=λσ H0 R0 H R E D dn dr=>by
 obtain ⟨⟨v,ea,rfl,ha,hr,nd⟩,hR⟩:=E.ent i _ hΓ
 obtain ⟨n1,n2⟩:=nodup_cons.mp nd
 have hl:i < Γ.length:=(List.getElem?_eq_some_iff.mp hΓ).1
 have apart:∀(j:Nat) (e:Ent),j≠i->Γ[j]?=some e->∀b∈a::as,b∉e.fp (σ[j]?).join:=λj e hj qj b hb w=>hj (E.ds j i e _ b qj hΓ w hb)
 have E1:ao X.K σ H0 R0 H R (Γ.set i .no):=E.tell hΓ trivial λb w=>by cases w
 have E2:=E1.lT ha (hR a mem_cons_self) (E.nw i _ a hΓ mem_cons_self) λj e qj w=>by
  rcases set_at qj with ⟨rfl,rfl,_⟩ | ⟨hj,q1⟩
  ·cases w
  ·exact apart j e hj q1 a mem_cons_self w
 have s2:aj R (upd R a (.lst (as.map .ref))):=aj.fresh (hR a mem_cons_self) _
 have E3:=E2.iG (i:=i) (e0:=.no) (en:=.ob (pE a as rs)) (getElem?_set_self hl) ⟨⟨.ref a,ea,rfl,au,hr,n2⟩,λb hb=>by
  rw [aA (show b≠a from λz=>n1 (z▸hb))];exact hR b (mem_cons_of_mem _ hb)⟩ λb w=>⟨E.nw i _ b hΓ (mem_cons_of_mem _ w),λj e hj qj=>apart j e hj (by rwa [getElem?_set_ne (Ne.symm hj)] at qj) b (mem_cons_of_mem _ w)⟩
 rw [set_set] at E3
 exact h σ H0 R0 H _ E3 D (λσ2 H2 R2 Γ2 E2 s2'=>dn σ2 H2 R2 Γ2 E2 (s2.trans s2')) dr
theorem iM {K:PySem.W.Frag}{H:Hp}:∀{as:List Addr} {rs:List Row},ck H as rs->PySem.Paired (gR.R K H) (as.map .ref) rs
 | [],[],_=>.nil
 | [],_::_,h=>absurd h.1 (by simp)
 | _::_,[],h=>absurd h.1 (by simp)
 | a::as,r::rs,h=>.cons ⟨a,rfl,h.2 0 a r rfl rfl⟩ (iM ⟨by simpa using h.1,λi b q h1 h2=>h.2 (i + 1) b q (by simpa using h1) (by simpa using h2)⟩)
theorem WS.zh (i:Nat)(hΓ:Γ[i]?=some (.ob (pE a as rs)))(hz:rs.length<=sizeLine)(h:WS X sts (Γ.set i (.im (af gR) rs)) N T):WS X sts Γ N T:=λσ H0 R0 H R E D dn dr=>by
 obtain ⟨⟨v,ea,rfl,ha,hr,nd⟩,hR⟩:=E.ent i _ hΓ
 have hl:i < Γ.length:=(List.getElem?_eq_some_iff.mp hΓ).1
 have E1:ao X.K σ H0 R0 H R (Γ.set i .no):=E.tell hΓ trivial λb w=>by cases w
 obtain ⟨R',E2,s',rr⟩:=E1.tm as λb hb=>⟨(Ent.cO (E.ent i _ hΓ) hb).1,E.nw i _ b hΓ hb,λj e qj w=>by
  rcases set_at qj with ⟨rfl,rfl,_⟩ | ⟨hj,q1⟩
  ·cases w
  ·exact hj (E.ds j i e _ b q1 hΓ w hb)⟩
 have hr':ck R' as rs:=hr.loc rr
 have E3:=E2.iG (i:=i) (e0:=.no) (en:=.im (af gR) rs) (getElem?_set_self hl) ⟨.ref a,ea,a,_,rfl,s' _ _ ha,iM hr',hz⟩ λb w=>by cases w
 rw [set_set] at E3
 exact h σ H0 R0 H _ E3 D (λσ2 H2 R2 Γ2 E2 s2'=>dn σ2 H2 R2 Γ2 E2 (s'.trans s2')) dr
def kE:Ent->Ent
 | .im r x=>.im r x
 | _=>.no
theorem ao.frz {K:PySem.W.Frag}{σ:St}{H0 R0 R:Hp}(E:ao K σ H0 R0 H R Γ):ao K σ H H H H (Γ.map kE):=by
 have noown:∀(i:Nat) (e:Ent) (o:Option V),(Γ.map kE)[i]?=some e->e.fp o=[]:=λi e o q=>by
  rw [getElem?_map] at q
  cases h:Γ[i]? with
  | none=>rw [h] at q;cases q
  | some e'=>rw [h] at q;cases q;cases e'<;>rfl
 refine ⟨Ext.refl (aj.refl _),λi e q=>?_,λi e a q w=>absurd w (by rw [noown i e _ q];exact not_mem_nil),λi j e e' a q _ w=>absurd w (by rw [noown i e _ q];exact not_mem_nil),by rw [length_map];exact E.len⟩
 rw [getElem?_map] at q
 cases h:Γ[i]? with
 | none=>rw [h] at q;cases q
 | some e'=>
   rw [h] at q;cases q
   have:=E.ent i e' h
   cases e' with
   | im r x=>obtain ⟨v,e,hr⟩:=this;exact ⟨v,e,r.mono E.sub hr⟩
   | no=>trivial
   | mu r x=>trivial
   | di x=>trivial
   | ob x=>trivial
theorem yT (i:Nat){Γf:Ga}(hF:∀(σ:St) (H0 R0 H R:Hp),ao X.K σ H0 R0 H R Γ->ao X.K σ H H H H Γf){y:Str}{py spos:Pos}{tg elt iter:Expr}{ifs:List Expr}{scope:Scope}{pos:Pos}{cl:List (Str×Addr)}{own fr:List Str}{ix:List Nat}{ra:aD α}{rb:aD β}{xs:List α}{p:α->Bool}{f:α->β}{bf:α->Ga->Ga}
 (flat:∀(K:PySem.W.Frag) (H H':Hp) v y,rb.R K H v y->rb.R K H' v y)
 (S:cY X scope cl own fr ix) (hit:IV X tg iter Γf ra xs Γf)
 (hb:∀(C:Addr) (s:Shared) (H:Hp) (ex:List Addr),BG (aH X scope cl C (own++fr) s H ex) tg ra bf) (hw:∀x,Wk (bf x (bZ own ix Γf)) (bZ own ix Γf))
 (ht:∀(C:Addr) (s:Shared) (H:Hp) (ex:List Addr) x,x∈xs->TF (aH X scope cl C (own++fr) s H ex) ifs (bf x (bZ own ix Γf)) (p x) (bf x (bZ own ix Γf)))
 (he:∀(C:Addr) (s:Shared) (H:Hp) (ex:List Addr) x,x∈xs->p x=true->EV (aH X scope cl C (own++fr) s H ex) elt (bf x (bZ own ix Γf)) rb (f x) (bf x (bZ own ix Γf)))
 (h:N (Γ.set i (.mu rb ((xs.filter p).map f))))
 (hsw:swapsWith (.ListComp elt [⟨tg,iter,ifs,0⟩] scope pos) (some (.Name y py)) spos.line X.env=pure true:=by rfl)
 (hN:X.N.Nodup:=by first | assumption | decide) (hi':X.N[i]?=some y:=by rfl) (hx:autoParam (Loc X.env.scope y) vA2)
 (hc:X.calm=true:=by rfl) (hs:∀x,foldedSetIterable iter X.env x=pure x:=by intro _;rfl) (hf:autoParam (X.fn y=true∨X.env.scope.names.lookup y=some .local) vA3):
 W1 X (.Assign [.Name y py] (.ListComp elt [⟨tg,iter,ifs,0⟩] scope pos) spos) Γ N T:=λσ H0 R0 H R E D dn dr=>by
 obtain ⟨wi,hi,hit⟩:=hit
 refine sS (je (i:=i) (g:=λv σ H Q=>∀C s Hh ex,iy (aH X scope cl C (own++fr) s Hh ex) tg v σ H Q) (tc:=λσ H Q=>∀C s Hh ex,iP (aH X scope cl C (own++fr) s Hh ex) ifs σ H Q) (te:=λσ H Q=>∀C s Hh ex,dI (aH X scope cl C (own++fr) s Hh ex) elt σ H Q) hsw hN hi' hx hc S hi
  (λC s H ex=>⟨λpins s1 σ H v u Q I r h=>h C s _ ex pins s1 u I r,λpins s1 σ H Q I h=>h C s _ ex pins s1 I,λpins s1 σ H Q I h=>h C s _ ex pins s1 I⟩) hs hf) ?_
 refine hit σ H H H H (hF σ H0 R0 H R E) _ λJ H1 R1 E1 s1 hz src=>j4 (Q:=λv H'=>D.nx (σ.set i (some v)) H') E1 src hz hb hw ht he λa vs H' R' xx ha pp=>?_
 have sH:aj H H':=E1.ext.h.trans xx.h
 have E2:=E.grow (H':=H') (R':=R) ⟨sH,aj.refl _,E.sub.trans sH,λ_ _=>rfl⟩
 exact dn _ _ R _ ((E2.grow (Ext.cn E2.sub ha _)).my (u:=.lst vs) (en:=.mu rb ((xs.filter p).map f)) i ⟨a,vs,rfl,au,E2.sub.free ha,Paired.map (λ_ _=>flat X.K R' R _ _) pp⟩ (E2.ext.h.free ha) λj e _ q w=>E2.off ha j e q w) (aj.refl _) h
theorem m8 {a:Expr}{p pos:Pos}(hm:X.mg "tuple"=none)(ha:EV X a Γ gR r Γ1)(hs:starEach [a] X.env=[(false,eval a X.env)]:=by rfl)(hg:Gl X "tuple":=by rfl):EV X (.Call (.Name "tuple" p) [a] [] pos) Γ ax r Γ1:=by
 intro σ H0 R0 H R E Q q
 refine eS (gJ nI hg hm PyProof.Rows.boot_tuple (aL aE bz hs) (by decide) (by decide) hs) (ha σ H0 R0 H R E _ λv H1 R1 E1 s1 e1=>?_)
 obtain ⟨b,rfl,hb⟩:=e1
 refine ⟨b,_,rfl,.inl ⟨aM.of (E1.sub _ _ hb),λl hl=>?_⟩⟩
 exact q _ _ (upd R1 l _) (E1.grow (Ext.fresh E1.sub hl _)) (s1.trans (aj.fresh (E1.sub.free hl) _)) ⟨l,rfl,au⟩
end
end Fc
namespace K1
open PySem
abbrev top (i:Nat):Stmt:=PySem.Challenge.pw_fewcounters_k55_whole_runs_and_stretches.main.body.getD i (.Pass ⟨0,0,0,0⟩)
abbrev pP:Nat:=14
abbrev oO:Nat:=15
abbrev uW:Nat:=16
abbrev lG:Nat:=17
abbrev lE:Nat:=18
abbrev lp:Nat:=19
abbrev lJ:Nat:=20
abbrev nU:Nat:=21
abbrev lQ:Nat:=22
abbrev sj:Nat:=23
abbrev pW:Nat:=24
abbrev r8:Nat:=25
abbrev tK:Nat:=26
abbrev lD:Nat:=27
abbrev tI:Nat:=28
abbrev oR:Nat:=29
abbrev lW:Nat:=30
abbrev pS:Nat:=31
abbrev uz:Nat:=32
abbrev Dj:Nat:=33
abbrev om:Nat:=35
abbrev su:Nat:=36
abbrev pk:Nat:=37
abbrev k5:Nat:=38
abbrev rK:Nat:=39
abbrev uI:Nat:=40
abbrev yv:Nat:=42
abbrev mm:Nat:=43
abbrev pY:Nat:=44
abbrev oQ:Nat:=45
abbrev uN:Nat:=46
abbrev oq:Nat:=47
abbrev u9:Nat:=49
abbrev pO:Nat:=50
abbrev nH:Nat:=51
abbrev jR:Nat:=52
abbrev nJ:Nat:=54
abbrev n4:Nat:=55
abbrev nG:Nat:=56
abbrev ou:Nat:=57
abbrev mO:Nat:=58
abbrev pR:Nat:=59
abbrev oX:Nat:=60
abbrev oy:Nat:=61
abbrev oJ:Nat:=62
abbrev mh:Nat:=63
abbrev pL:Nat:=64
abbrev kU:Nat:=65
abbrev Bp:Nat:=66
end K1
namespace K1
open PySem L2 Fc
open PySem.Spec hiding Row
open PyProof.Rows hiding St
structure bN (mg:Str->Option Value):Prop where
 mostParts:∃t,mg "MOST_PARTS"=some (.int 4 t)
 leastPlaces:∃t,mg "LEAST_PLACES"=some (.int 2 t)
 mostPlaces:∃t,mg "MOST_PLACES"=some (.int 16 t)
 mostRows:∃t,mg "MOST_ROWS"=some (.int 60 t)
 firstPart:∃t,mg "FIRST_PART"=some (.int 0 t)
 begin_:∃t,mg "BEGIN"=some (.int 0 t)
 end_:∃t,mg "END"=some (.int 1 t)
 noCall:∃t,mg "NO_CALL"=some (.int (-1) t)
 len:mg "len"=none
 all:mg "all"=none
 any:mg "any"=none
 range:mg "range"=none
 enumerate:mg "enumerate"=none
 isinstance:mg "isinstance"=none
 int:mg "int"=none
 bool:mg "bool"=none
 list:mg "list"=none
 tuple:mg "tuple"=none
 min:mg "min"=none
 max:mg "max"=none
 sorted:mg "sorted"=none
 sum:mg "sum"=none
 zip:mg "zip"=none
 reversed:mg "reversed"=none
theorem boot_bool:bootBuiltins "bool"=some (.type "bool"):=by decide +kernel
section
variable {P:Program}{w:World}{K:PySem.W.Frag}{mg:Str->Option Value}{base:Heap}{f:Addr}{fd:FuncData}
theorem cw {xs:List Int}{i:Int}(h0:0<=i)(h1:i < xs.length):cN xs i=some (xs.getD i.toNat 0):=by
 rw [e9 h0 h1,getElem?_eq_getElem (by omega),getD_eq_getElem?_getD,getElem?_eq_getElem (by omega)];rfl
abbrev xh:Stmt:=top pP
theorem Ap:aB ["value"] ["value"] (ah xh):=fS0
def uw:bX:=λK ps T=>∃x:Int,ps=[⟨ae,x⟩]/\T=bR K aW (· =true)
theorem DG (M:bN mg)(F:bI K "is_whole" "is_whole" xh f fd)(hm:mg "is_whole"=some (.ref f))(hb:Binds K fd ["value"] []):ay P w K mg base "is_whole" 1 (aF uw K):=by
 have nd:=Ap.nd
 refine bG F Ap hm hb (λqs T ⟨x,e,_⟩=>by rw [e];rfl) (λcdv A outer s H E qs T hr hS=>?_)
 obtain ⟨x,rfl,rfl⟩:=hS
 exact ak (bK (eF (dq M.isinstance M.int PyProof.Rows.boot_int (aa 0 rfl) ty_int) (λ_=>eG (Ai (dq M.isinstance M.bool boot_bool (aa 0 rfl) ty_int)))) rfl)
abbrev p5:Stmt:=top oO
theorem AD:aB ["values"] ["values"] (ah p5):=fS0
def Az:bX:=λK ps T=>((∃ns:List Int,ps=[⟨af ae,ns⟩])∨(∃r:Row,ps=[⟨ax,r⟩]))/\T=bR K aW (· =true)
theorem all_true {α:Type}(xs:List α):((xs.filter λ_=>true).map λ_=>true).all id=true:=by
 rw [all_eq_true];intro b hb
 obtain ⟨_,_,rfl⟩:=mem_map.mp hb;rfl
theorem Dh (M:bN mg)(CI:ay P w K mg base "is_whole" 1 (aF uw K))(F:bI K "are_whole" "are_whole" p5 f fd)(hm:mg "are_whole"=some (.ref f))(hb:Binds K fd ["values"] []):ay P w K mg base "are_whole" 2 (aF Az K):=by
 have nd:=AD.nd
 have ndc:List.Nodup [("value":Str)]:=by decide
 refine bG F AD hm hb (λqs T ⟨e,_⟩=>by rcases e with ⟨_,e⟩ | ⟨_,e⟩<;>(rw [e];rfl)) (λcdv A outer s H E qs T hr hS=>?_)
 obtain ⟨⟨ns,rfl⟩ | ⟨r,rfl⟩,rfl⟩:=hS
 ·exact ak (bK (fe M.all (aY.im (bF (own:=["value"]) (fr:=[]) (ix:=[]) (p:=λ_=>true) (f:=λ_=>true) (bj (so:=ah p5) (N0:=["values"]) rfl rfl (λx h=>aT h) (by decide +kernel)) (aR (aa 0 rfl))
   (λC s H ex=>aG 0) (λx=>⟨.inr rfl,trivial⟩) (λC s H ex x hx=>cf) (λC s H ex x hx _=>bA CI hr (ag (aa 0 rfl) aq) ⟨_,rfl,rfl⟩)))) (all_true ns))
 ·exact ak (bK (fe M.all (aY.im (bF (own:=["value"]) (fr:=[]) (ix:=[]) (p:=λ_=>true) (f:=λ_=>true) (bj (so:=ah p5) (N0:=["values"]) rfl rfl (λx h=>aT h) (by decide +kernel)) (A6 (aa 0 rfl))
   (λC s H ex=>aG 0) (λx=>⟨.inr rfl,trivial⟩) (λC s H ex x hx=>cf) (λC s H ex x hx _=>bA CI hr (ag (aa 0 rfl) aq) ⟨_,rfl,rfl⟩)))) (all_true _))
end
section
variable {P:Program}{w:World}{K:PySem.W.Frag}{mg:Str->Option Value}{base:Heap}{f:Addr}{fd:FuncData}
abbrev xX:Stmt:=top lE
theorem A5:aB ["row"] ["row"] (ah xX):=fS0
def Eo:bX:=λK ps T=>∃r:Row,ps=[⟨ax,r⟩]/\T=bR K aW (· =true)
theorem Dd (M:bN mg)(CA:ay P w K mg base "are_whole" 2 (aF Az K))(F:bI K "has_row_form" "has_row_form" xX f fd)(hm:mg "has_row_form"=some (.ref f))(hb:Binds K fd ["row"] []):ay P w K mg base "has_row_form" 3 (aF Eo K):=by
 have nd:=A5.nd
 refine bG F A5 hm hb (λqs T ⟨x,e,_⟩=>by rw [e];rfl) (λcdv A outer s H E qs T hr hS=>?_)
 obtain ⟨r,rfl,rfl⟩:=hS
 exact ak (bK (eF (dq M.isinstance M.tuple PyProof.Rows.boot_tuple (aa 0 rfl) zY) (λ_=>eF (d9 e6 (p9 M.len (aa 0 rfl) Bj) ar) (λ_=>eG (bA CA hr (ag (aa 0 rfl) aq) ⟨.inr ⟨_,rfl⟩,rfl⟩)))) rfl)
abbrev uC:Stmt:=top lG
theorem Ah:aB ["web","places","rows"] ["web"] (ah uC):=fS0
def EN:bX:=λK ps T=>∃v:aw,ps=[⟨bO,v⟩]/\T=bR K aW (· =true)
theorem Dt (M:bN mg)(CA:ay P w K mg base "are_whole" 2 (aF Az K))(CR:ay P w K mg base "has_row_form" 3 (aF Eo K))(F:bI K "has_web_form" "has_web_form" uC f fd)(hm:mg "has_web_form"=some (.ref f))(hb:Binds K fd ["web"] []):ay P w K mg base "has_web_form" 4 (aF EN K):=by
 have nd:=Ah.nd
 have ndc:List.Nodup [("row":Str)]:=by decide
 refine bG F Ah hm hb (λqs T ⟨x,e,_⟩=>by rw [e];rfl) (λcdv A outer s H E qs T hr hS=>?_)
 obtain ⟨v,rfl,rfl⟩:=hS
 refine ai (bL (TW.tv (jh (bY (bV (dq M.isinstance M.tuple PyProof.Rows.boot_tuple (aa 0 rfl) (zd (r:=af ae) (r':=af ax))))) (λ_=>ig (bc jt (p9 M.len (aa 0 rfl) (yz (r:=af ae) (r':=af ax))) ar)))) (λh=>absurd h (by decide)) (λ_=>bu ?_))
 refine ai (bg 1 (d5 (r:=af ae) (r':=af ax) (aa 0 rfl)) (ai (bg 2 (bb (r:=af ae) (r':=af ax) (aa 0 rfl)) ?_)))
 refine ai (bL (TW.tv (jh (bY (bV (dq M.isinstance M.list PyProof.Rows.boot_list (aa 1 rfl) ty_list))) (λ_=>ig (bY (bV (dq M.isinstance M.list PyProof.Rows.boot_list (aa 2 rfl) ty_list)))))) (λh=>absurd h (by decide)) (λ_=>bu ?_))
 exact ak (bK (eF (bA (CA.mono (by decide:2<=3)) hr (ag (aa 1 rfl) aq) ⟨.inl ⟨_,rfl⟩,rfl⟩) (λ_=>eG (fe M.all (aY.im (bF (own:=["row"]) (fr:=[]) (ix:=[]) (p:=λ_=>true) (f:=λ_=>true) (bj (so:=ah uC) (N0:=["web","places","rows"]) rfl rfl (λx h=>aT h) (by decide +kernel)) (aR (aa 2 rfl))
  (λC s H ex=>aG 0) (λx=>⟨.inr rfl,trivial⟩) (λC s H ex x hx=>cf) (λC s H ex x hx _=>bA CR hr (ag (aa 0 rfl) aq) ⟨_,rfl,rfl⟩)))))) (by rw [all_true];rfl))
abbrev ur:Stmt:=top lp
theorem Af:aB ["web","places","rows"] ["web"] (ah ur):=fS0
def fo (v:aw):Bool:=
 if !(decide ((1:Int)<=(v.1.length:Int))&&decide ((v.1.length:Int)<=4)) || !(decide ((1:Int)<=(v.2.length:Int))&&decide ((v.2.length:Int)<=60)) then false
 else ((v.1.filter λ_=>true).map λn=>decide ((2:Int)<=n)&&decide (n<=16)).all id
def Ea:bX:=λK ps T=>∃v:aw,ps=[⟨bO,v⟩]/\T=bR K aW (· =fo v)
theorem Df (M:bN mg)(F:bI K "has_web_sizes" "has_web_sizes" ur f fd)(hm:mg "has_web_sizes"=some (.ref f))(hb:Binds K fd ["web"] []):ay P w K mg base "has_web_sizes" 1 (aF Ea K):=by
 have nd:=Af.nd
 have ndc:List.Nodup [("size":Str)]:=by decide
 obtain ⟨t1,h1⟩:=M.mostParts
 obtain ⟨t2,h2⟩:=M.mostRows
 obtain ⟨t3,h3⟩:=M.leastPlaces
 obtain ⟨t4,h4⟩:=M.mostPlaces
 refine bG F Af hm hb (λqs T ⟨x,e,_⟩=>by rw [e];rfl) (λcdv A outer s H E qs T hr hS=>?_)
 obtain ⟨v,rfl,rfl⟩:=hS
 refine ai (bg 1 (d5 (r:=af ae) (r':=af ax) (aa 0 rfl)) (ai (bg 2 (bb (r:=af ae) (r':=af ax) (aa 0 rfl)) ?_)))
 refine ai (bL (TW.tv (jh (bY (h8 gm gm ar (bQ M.len (aa 1 rfl)) (bE h1))) (λ_=>ig (bY (h8 gm gm ar (bQ M.len (aa 2 rfl)) (bE h2)))))) (λh=>?_) (λh=>bu ?_))
 ·exact ak (bK cP (by rw [fo,if_pos h]))
 ·exact ak (bK (fe M.all (aY.im (bF (own:=["size"]) (fr:=[]) (ix:=[]) (p:=λ_=>true) (f:=λn=>decide ((2:Int)<=n)&&decide (n<=16)) (bj (so:=ah ur) (N0:=["web","places","rows"]) rfl rfl (λx h=>aT h) (by decide +kernel)) (aR (aa 1 rfl))
   (λC s H ex=>aG 0) (λx=>⟨.inr rfl,trivial⟩) (λC s H ex x hx=>cf) (λC s H ex x hx _=>iw gm gm (bE h3) (aa 0 rfl) (bE h4))))) (by rw [fo,if_neg (by rw [h];decide)]))
abbrev xE:Stmt:=top lJ
theorem Am:aB ["places","row","part"] ["places","row"] (ah xE):=fS0
def gP (ns:List Int)(r:Row):Bool:=
 if !(decide (0<=r.1)&&decide (r.1 < (ns.length:Int))) then false
 else if !(decide (0<=r.2.1)&&decide (r.2.1 < ns.getD r.1.toNat 0)) || !(decide (0<=r.2.2.1)&&decide (r.2.2.1 < ns.getD r.1.toNat 0)) then false
 else (!decide (r.2.1=1))&&(decide (r.2.2.2= -1) ||(decide (r.1 < r.2.2.2)&&decide (r.2.2.2 < (ns.length:Int))))
def Ep:bX:=λK ps T=>∃ns r,ps=[⟨af ae,ns⟩,⟨ax,r⟩]/\T=bR K aW (· =gP ns r)
theorem Dn (M:bN mg)(F:bI K "leads_within" "leads_within" xE f fd)(hm:mg "leads_within"=some (.ref f))(hb:Binds K fd ["places","row"] []):ay P w K mg base "leads_within" 1 (aF Ep K):=by
 have nd:=Am.nd
 obtain ⟨t1,hEND⟩:=M.end_
 obtain ⟨t2,hNC⟩:=M.noCall
 refine bG F Am hm hb (λqs T ⟨ns,r,e,_⟩=>by rw [e];rfl) (λcdv A outer s H E qs T hr hS=>?_)
 obtain ⟨ns,r,rfl,rfl⟩:=hS
 refine ai (bg 2 (eU (aa 1 rfl)) ?_)
 refine ai (bL (bY (h8 gm e7 ar (aa 2 rfl) (bQ M.len (aa 0 rfl)))) (λh=>?_) (λh=>?_))
 ·exact ak (bK cP (by rw [gP,if_pos h]))
 refine bu ?_
 have h':0<=r.1/\r.1 < (ns.length:Int):=by simpa using h
 have hix:cN ns r.1=some (ns.getD r.1.toNat 0):=cw h'.1 h'.2
 refine ai (bL (TW.tv (jh (bY (h8 gm e7 ar (dk (aa 1 rfl)) (aJ (aa 0 rfl) (aa 2 rfl) hix))) (λ_=>ig (bY (h8 gm e7 ar (cA (aa 1 rfl)) (aJ (aa 0 rfl) (aa 2 rfl) hix)))))) (λh2=>?_) (λh2=>?_))
 ·exact ak (bK cP (by rw [gP,if_neg (by rw [h];decide),if_pos h2]))
 refine bu (ak (bK (eF (d9 jt (dk (aa 1 rfl)) (bE hEND)) (λ_=>eG (Du (d9 e6 (dJ (aa 1 rfl)) (bE hNC)) (λ_=>eG (iw e7 e7 (aa 2 rfl) (dJ (aa 1 rfl)) (bQ M.len (aa 0 rfl))))))) ?_))
 rw [gP,if_neg (by rw [h];decide),if_neg (by rw [h2];decide)]
abbrev va:Stmt:=top nU
theorem AS:aB ["rows","part"] ["rows","part"] (ah va):=fS0
def called (rs:List Row)(p:Int):Bool:=((rs.filter λ_=>true).map λr=>decide (r.2.2.2=p)).any id
def EY:bX:=λK ps T=>∃(rs:List Row) (p:Int),ps=[⟨af ax,rs⟩,⟨ae,p⟩]/\T=bR K aW (· =called rs p)
theorem DK (M:bN mg)(F:bI K "is_called" "is_called" va f fd)(hm:mg "is_called"=some (.ref f))(hb:Binds K fd ["rows","part"] []):ay P w K mg base "is_called" 1 (aF EY K):=by
 have nd:=AS.nd
 have ndc:List.Nodup [("row":Str),"part"]:=by decide
 refine bG F AS hm hb (λqs T ⟨_,_,e,_⟩=>by rw [e];rfl) (λcdv A outer s H E qs T hr hS=>?_)
 obtain ⟨rs,p,rfl,rfl⟩:=hS
 exact ak (bK (Aq M.any (aY.im (bF (own:=["row"]) (fr:=["part"]) (ix:=[1]) (p:=λ_=>true) (f:=λr=>decide (r.2.2.2=p)) (bj (so:=ah va) (N0:=["rows","part"]) rfl rfl (λx h=>aT h) (by decide +kernel)) (aR (aa 0 rfl))
  (λC s H ex=>aG 0) (λx=>⟨.inr rfl,.inl rfl,trivial⟩) (λC s H ex x hx=>cf) (λC s H ex x hx _=>d9 e6 (dJ (aa 0 rfl)) (aa 1 rfl))))) rfl)
end
end K1
namespace Fc
open PySem PySem.Spec L2
open PyProof.Rows hiding St
section
variable {X:Cx}{Γ Γ1 Γ2 Γ3:Ga}{α β γ δ:Type}{N:Ga->Prop}{T:RT}
theorem EV.rep {e:Expr}{r:aD α}{x:α}{r':aD β}{y:β}(h:EV X e Γ r x Γ1)(c:∀(R:Hp) v,r.R X.K R v x->r'.R X.K R v y):EV X e Γ r' y Γ1:=λσ H0 R0 H R E Q q=>h σ H0 R0 H R E Q λv H' R' E' s' e'=>q v H' R' E' s' (c R' v e')
end
section
variable {X:Cx}{Γ Γ1 Γ2 Γ3:Ga}{α β γ δ:Type}{N:Ga->Prop}{T:RT}
theorem paired_ints {K:PySem.W.Frag}{R:Hp}:∀ys:List Int,PySem.Paired (ae.R K R) (ys.map V.int) ys
 | []=>.nil
 | _::r=>.cons rfl (paired_ints r)
theorem nK {a:Expr}{p1 p2 pos pos2:Pos}{n:Int}(hml:X.mg "list"=none)(hmr:X.mg "range"=none)(ha:EV X a Γ ae n Γ1)(hn: -1000000<=n/\n<=1000000)(hs:starEach [a] X.env=[(false,eval a X.env)]:=by rfl)
 (hs2:starEach [.Call (.Name "range" p2) [a] [] pos2] X.env=[(false,eval (.Call (.Name "range" p2) [a] [] pos2) X.env)]:=by rfl) (hc:X.calm=true:=by rfl) (hg:Gl X "list":=by rfl) (hgr:Gl X "range":=by rfl):aY X (.Call (.Name "list" p1) [.Call (.Name "range" p2) [a] [] pos2] [] pos) Γ ae (ups 0 n.toNat) Γ1:=by
 intro σ H0 R0 H R E Q q
 refine eS (gJ (oH hc) hg hml PyProof.Rows.boot_list (aL (gJ mC hgr hmr boot_range (aL aE bz hs) (by decide) (by decide) hs) bz hs2) (by decide) (by decide) hs2) (ha σ H0 R0 H R E _ λv H1 R1 E1 s1 e1=>⟨n,by rw [show v=V.int n from e1],λp hp=>?_⟩)
 refine ⟨p,0,n,rfl,au,by decide,by decide,hn.1,hn.2,λd hd=>?_⟩
 have E2:=E1.grow (Ext.cn E1.sub hp (.rng 0 n))
 rw [Int.sub_zero]
 exact q d _ _ R1 (E2.grow (Ext.cn E2.sub hd _)) s1 au (E2.sub.free hd) (E2.ext.h.free hd) (E2.off hd) (paired_ints _) (by rw [aC];exact Nat.le_trans (show n.toNat<=1000000 by omega) (by decide))
end
end Fc
namespace K1
open PySem L2 Fc
open PySem.Spec hiding Row
open PyProof.Rows hiding St
open PySem.Builtin.Int (intBits)
section
variable {n:Nat}
theorem mQ {a b:Int}{m:Nat}(hb:0 < b)(ha:intBits a<=m):intBits (a / b)<=m:=by
 rw [← Int.fdiv_eq_ediv_of_nonneg a (Int.le_of_lt hb)];exact bits_fdiv ha
theorem j7 {x y:Int}(h0:0<=x)(h1:x < 4294967296):IntMulOk x y:=.of_left (intBits_le_64 (by omega) (by omega))
theorem dH {i:Int}(h0:0<=i)(h1:i < n):dP n i=some i.toNat:=by unfold dP;rw [if_pos h0,if_pos h1]
abbrev dE:aD (Int×Int):=av ae ae
theorem bq {k:Int}:k∈ups 0 n↔0<=k/\k < n:=by
 unfold ups
 rw [mem_map]
 constructor
 ·rintro ⟨j,hj,rfl⟩
  have:=mem_range.mp hj
  omega
 ·rintro ⟨h0,h1⟩
  exact ⟨k.toNat,mem_range.mpr (by omega),by omega⟩
theorem oA (n:Nat):(ups 0 n).Pairwise (· < ·):=by
 unfold ups
 rw [List.pairwise_map]
 exact List.pairwise_lt_range.imp λh=>by omega
theorem du (n:Nat):(ups 0 n).Nodup:=(oA n).imp λh=>by omega
theorem aI (h:n<=1000000):n<=sizeLine:=Nat.le_trans h (by decide)
theorem bJ {α:Type}{xs:List α}{i:Int}(d:α)(h0:0<=i)(h1:i < xs.length):cN xs i=some (xs.getD i.toNat d):=by
 rw [e9 h0 h1,getElem?_eq_getElem (by omega),getD_eq_getElem?_getD,getElem?_eq_getElem (by omega)];rfl
theorem dB {α:Type}{xs:List α}{y:α}(h:xs[xs.length - 1]?=some y):cN xs (-1)=some y:=by
 have hl:0 < xs.length:=by
  have:=(List.getElem?_eq_some_iff.mp h).1
  omega
 unfold cN dP
 rw [if_neg (by omega),if_pos (by omega)]
 show xs[((-1:Int) + (xs.length:Int)).toNat]?=_
 rw [show ((-1:Int) + (xs.length:Int)).toNat=xs.length - 1 by omega];exact h
theorem rep0 (n:Nat):(List.replicate n [(0:Int)]).flatten=List.replicate n 0:=by
 induction n with
 | zero=>rfl
 | succ n ih=>rw [replicate_succ,flatten_cons,ih,replicate_succ];rfl
end
end K1
namespace Fc
open PySem PySem.Spec L2
open PyProof.Rows hiding St
section
variable {X:Cx}{Γ Γ1 Γ2 Γ3:Ga}{α β γ δ:Type}{N:Ga->Prop}{T:RT}
variable {x:Str}{F:List (Int×Int)}{r:aD α}{p1:Pos}{e a:Expr}{r':aD β}{n m:Nat}{p2:Pos}{Γf:Ga}
theorem kP (xs:Array (Int×Tok)):∀n:Nat,preSum (numAt xs) n=((xs.toList.map (·.1)).take n).sum
 | 0=>rfl
 | n + 1=>by
   have e:preSum (numAt xs) (n + 1)=preSum (numAt xs) n + numAt xs n:=rfl
   rw [e,kP xs n,PySem.sum_take_succ,numAt_eq]
theorem uo (hc:X.calm=true):dD X (.builtin "sum") (λxs H Q=>∃(p:Addr) (ns:List Int),xs=[.ref p]/\aM X.K H p (ns.map V.int)/\Q (.int ns.sum) H):=by
 intro pins s σ H xs us Q I r h
 obtain ⟨p,ns,rfl,hq,q⟩:=h
 obtain ⟨u,rfl,rx⟩:=vals1 r
 cases rx
 obtain ⟨its,r',pl,hz⟩:=I.list hq
 have hi:=intsAre_of r'
 have hl:=pl.isList
 obtain ⟨xs,e⟩:=hi.allInts.items
 have hns:ns=xs.toList.map (·.1):=by rw [← hi.numsOf,← nums_intItems,← e]
 rw [e] at hl
 refine call_sum_walkG (iter_intList hl λs₂ e st hfp hlI=>?_)
 subst e
 refine ⟨_,_,_,_,_,_,numAt xs,rfl,Walks.list (A:=X.A.in1) (I.ok.hd hc) _ p hlI (intItems xs),st,hfp,(λ_ _=>intItems_at),λh' tk t' hk=>?_⟩
 have es:preSum (numAt xs) (intItems xs).size=ns.sum:=by
  rw [kP,hns,take_of_length_le]
  simp [intItems]
 rw [es]
 exact ⟨.int _,H,I.kept (old_kept hk),⟨t',rfl⟩,q⟩
theorem tF {p pos:Pos}{ns:List Int}(hm:X.mg "sum"=none)(ha:EV X a Γ (af ae) ns Γ1)(hs:starEach [a] X.env=[(false,eval a X.env)]:=by rfl)(hc:X.calm=true:=by rfl)(hg:Gl X "sum":=by rfl):EV X (.Call (.Name "sum" p) [a] [] pos) Γ ae ns.sum Γ1:=
 nL (uo hc) hm PyProof.Rows.boot_sum ha (λR H v Q s ⟨p,vs,e,hp,pp,_⟩ q=>⟨p,ns,by rw [e],by rw [← dM pp];exact aM.of (s _ _ hp),q _ rfl⟩) hs hg
theorem qX [DecidableEq α] [DecidableEq β](e:de r n)(e':de r' m){X:Cx}{pins:List (Addr×Obj)}{σ:St}{H:Hp}{s:Shared}{R:Hp}{A:Around}(I:Inv X pins σ H s)(sub:aj R H){a b:Addr}{v1 v2 w1 w2:V}{x y:α×β}(ha:R a=some (.tup [v1,v2]))(hb:R b=some (.tup [w1,w2]))
 (p1:r.R X.K R v1 x.1) (p2:r'.R X.K R v2 x.2) (q1:r.R X.K R w1 y.1) (q2:r'.R X.K R w2 y.2) (hu:A.units + (n + 1) < cLine) (hu':A.units + (m + 1) < cLine):
 SeqAt.RcAt A s (.ref a) (.ref b) (decide (x=y))/\SeqAt.RcNeAt A s (.ref a) (.ref b) (!decide (x=y)):=by
 have key:=ux (A:=A) (k:=λj=>if j=0 then decide (x.1=y.1) else decide (x.2=y.2)) I sub ha hb rfl (by omega) λus us' hv hw j h1 h2=>by
  cases hv with
  | cons a1 t=>cases t with
    | cons a2 t=>cases t;cases hw with
      | cons b1 t=>cases t with
        | cons b2 t=>
          cases t
          match j,h1 with
          | 0,_=>exact e.eq (A:=A.in1) I sub a1 b1 p1 q1 (by rw [in1_units];omega)
          | 1,_=>exact e'.eq (A:=A.in1) I sub a2 b2 p2 q2 (by rw [in1_units];omega)
          | j + 2,h=>exact absurd h (by simp)
 have d:(List.range [v1,v2].length).all (λj=>if j=0 then decide (x.1=y.1) else decide (x.2=y.2))=decide (x=y):=by
  obtain ⟨x1,x2⟩:=x
  obtain ⟨y1,y2⟩:=y
  simp [List.range_succ,Bool.eq_iff_iff]
 rw [d] at key
 exact key
theorem qT [DecidableEq α] [DecidableEq β]{k:Nat}(e:de r n)(e':de r' m)(hn:n < k)(hm:m < k):de (av r r') k:=by
 have inj:∀{K:PySem.W.Frag} {R:Hp} {v:V} {x y:α×β},(av r r').R K R v x->(av r r').R K R v y->x=y:=by
  rintro K R v ⟨x1,x2⟩ ⟨y1,y2⟩ ⟨a,v1,v2,rfl,h,p1,p2⟩ ⟨a',w1,w2,e1,h',q1,q2⟩
  cases e1
  rw [h] at h'
  cases h'
  exact Prod.ext (e.inj p1 q1) (e'.inj p2 q2)
 refine ⟨inj,?_⟩
 intro X pins σ H s R A I sub v u vv uu x y rv ru h1 h2 hu
 have h1':=h1
 have h2':=h2
 obtain ⟨a,v1,v2,rfl,ha,p1,p2⟩:=h1
 obtain ⟨b,w1,w2,rfl,hb,q1,q2⟩:=h2
 cases rv
 cases ru
 by_cases hab:a=b
 ·subst hab
  rw [decide_eq_true (inj h1' h2')]
  exact SeqAt.EqAt.same _
 ·exact SeqAt.EqAt.of_refs hab (qX e e' I sub ha hb p1 p2 q1 q2 (by omega) (by omega)).1
theorem rS [DecidableEq α] [DecidableEq β](e:de r n)(e':de r' m)(hu:X.A.units + (n + 1) < cLine)(hu':X.A.units + (m + 1) < cLine){x y:α×β}:fW X .Eq (av r r') (av r r') x y (decide (x=y)):=
 ⟨λv u H Q=>∃R,aj R H/\(av r r').R X.K R v x/\(av r r').R X.K R u y/\Q (.bl (decide (x=y))) H,λpins s σ H v1 u1 v u Q I rx ry ⟨R,sub,h1,h2,q⟩=>by
  obtain ⟨a,v1,v2,rfl,ha,p1,p2⟩:=h1
  obtain ⟨b,w1,w2,rfl,hb,q1,q2⟩:=h2
  cases rx
  cases ry
  exact (qX (A:=X.A) e e' I sub ha hb p1 p2 q1 q2 hu hu').1 _ _ _ _ ⟨.bl _,H,I,rfl,q⟩,λR H v u Q s h1 h2 q=>⟨R,s,h1,h2,q⟩⟩
theorem vQ {pos p4:Pos}{k:Nat}{w:Row}(ha:EV X a Γ ax w Γ):EV X (.Subscript a (.Slice none (some (.Constant (.int 2) k p4)) none p2) pos) Γ (av ae ae) (w.1,w.2.1) Γ:=by
 intro σ H0 R0 H R E Q q
 refine eS (lr zU aE qH (rf d8)) (ha σ H0 R0 H R E _ λv H1 R1 E1 s1 e1=>?_)
 obtain ⟨p,rfl,hp⟩:=e1
 refine ⟨_,rfl,p,_,rfl,dm.of (E1.sub _ _ hp),?_,λd hd=>?_⟩
 ·exact λz=>absurd z.2 (by show¬(HT.sIx 4 4 (some 2)=4);decide)
 ·have s2:aj R1 (upd R1 d (.tup [V.int w.1,V.int w.2.1])):=aj.fresh (E1.sub.free hd) _
  exact q _ _ (upd R1 d (.tup [V.int w.1,V.int w.2.1])) (E1.grow (Ext.fresh E1.sub hd _)) (s1.trans s2) ⟨d,_,_,rfl,au,rfl,rfl⟩
def cQ (F:List (Int×Int)):List (Int×V):=F.map λp=>(p.1,.int p.2)
def aZ (F:List (Int×Int))(k:Int):Option Int:=(F.find? λp=>decide (p.1=k)).map (·.2)
def dz (F:List (Int×Int))(k v:Int):List (Int×Int):=if (aZ F k).isSome then F.map (λp=>if p.1=k then (p.1,v) else p) else F++[(k,v)]
theorem fQ:∀(F:List (Int×Int)) (k:Int),cR (cK (cQ F)) (Sum.inl k:Key)=(aZ F k).map V.int
 | [],_=>rfl
 | p::r,k=>by
   have ih:=fQ r k
   by_cases e:p.1=k
   ·have e':(Sum.inl p.1:Key)=Sum.inl k:=by rw [e]
    have h1:cR (cK (cQ (p::r))) (Sum.inl k:Key)=some (.int p.2):=c5 (p:=((Sum.inl p.1:Key),V.int p.2)) e'
    rw [h1]
    unfold aZ
    rw [find?_cons,decide_eq_true e];rfl
   ·have e':¬(Sum.inl p.1:Key)=Sum.inl k:=λz=>e (Sum.inl.inj z)
    have h1:cR (cK (cQ (p::r))) (Sum.inl k:Key)=cR (cK (cQ r)) (Sum.inl k:Key):=c6 (p:=((Sum.inl p.1:Key),V.int p.2)) e'
    rw [h1,ih]
    unfold aZ
    rw [find?_cons,decide_eq_false e]
theorem uq (F:List (Int×Int))(k v:Int):putK (cK (cQ F)) (Sum.inl k:Key) (.int v)=cK (cQ (dz F k v)):=by
 unfold putK dz
 rw [fC,fQ]
 have e:((aZ F k).map V.int).isSome=(aZ F k).isSome:=by cases aZ F k<;>rfl
 rw [e]
 split
 ·unfold cK cQ
  simp only [map_map]
  apply map_congr_left
  intro p _
  simp only [Function.comp]
  by_cases h:p.1=k
  ·rw [if_pos (by rw [h]),if_pos h]
  ·rw [if_neg (λz=>h (Sum.inl.inj z)),if_neg h]
 ·unfold cK cQ
  rw [map_append,map_append];rfl
theorem fE (F:List (Int×Int))(k:Int):gM (cQ F) k=(aZ F k).isSome:=by
 rw [← jM,fQ];cases aZ F k<;>rfl
def ip:aD (List (Int×Int)):=⟨λ_ H v F=>∃a,v= .ref a/\H a=some (.dK (cK (cQ F))),λs ⟨a,e,q⟩=>⟨a,e,s _ _ q⟩⟩
theorem lX {b:Expr}{pos:Pos}{k y:Int}(hu:X.A.units + 1 < cLine)(ha:EV X a Γ ip F Γ1)(hb:EV X b Γ1 ae k Γ2)(h:aZ F k=some y)(hs:pv b:=by exact λ_ _=>rfl):EV X (.Subscript a b pos) Γ ae y Γ2:=by
 intro σ H0 R0 H R E Q q
 refine eS (mE hu aE aE hs) (ha σ H0 R0 H R E _ λv H1 R1 E1 s1 e1=>hb σ H0 R0 H1 R1 E1 _ λu H2 R2 E2 s2 e2=>?_)
 obtain ⟨p,rfl,hp⟩:=ip.mono s2 e1
 cases e2
 have g:=ef.k (k:=Sum.inl k) (E2.sub _ _ hp)
 rw [fQ,h] at g
 exact ⟨p,_,rfl,g,q _ H2 R2 E2 (s1.trans s2) rfl⟩
theorem kF (i:Nat){b:Expr}{pos:Pos}{k y:Int}(hu:X.A.units + 1 < cLine)(hb:EV X b Γ ae k Γ)(hΓ:Γ[i]?=some (.di (cQ F)))(h:aZ F k=some y)(hN:X.N[i]?=some x:=by rfl)(hv:autoParam (bS X.env.scope x) vA1)
 (hs:pv b:=by exact λ_ _=>rfl) (hd:Dg0 x:=by decide) (hcd:Cd0 x:=by decide):EV X (.Subscript (.Name x p1) b pos) Γ ae y Γ:=by
 intro σ H0 R0 H R E Q q
 obtain ⟨a,ea,ha,hR⟩:=E.ent i _ hΓ
 refine eS (mE hu (aX hN hv hd hcd) aE hs) ⟨.ref a,at_of ea,hb σ H0 R0 H R E _ λu H2 R2 E2 s2 e2=>?_⟩
 obtain ⟨a',ea',ha',hR'⟩:=E2.ent i _ hΓ
 rw [ea] at ea';cases ea'
 cases e2
 have g:=ef.k (k:=Sum.inl k) ha'
 rw [fQ,h] at g
 exact ⟨a,_,rfl,g,q _ H2 R2 E2 s2 rfl⟩
theorem wK (i:Nat){f:Expr}{ap cp:Pos}{k z:Int}(hu:X.A.units + 1 < cLine)(he:EV X e Γ ae k Γ)(hf:EV X f Γ ae z Γ)(hΓ:Γ[i]?=some (.di (cQ F)))(hN:X.N[i]?=some x:=by rfl)(hv:autoParam (bS X.env.scope x) vA1)
 (hd:Dg0 x:=by decide) (hcd:Cd0 x:=by decide) (m:M2 X (.Name x p1) "get" ap e f cp:=by exact ⟨rfl,rfl,rfl,rfl⟩):EV X (.Call (.Attribute (.Name x p1) "get" ap) [e,f] [] cp) Γ ae ((aZ F k).getD z) Γ:=by
 intro σ H0 R0 H R E Q q
 obtain ⟨a,ea,ha,hR⟩:=E.ent i _ hΓ
 refine eS (wB hu (aX hN hv hd hcd) aE aE m) ⟨.ref a,at_of ea,a,rfl,.inl ⟨_,.inl ha⟩,he σ H0 R0 H R E _ λu H2 R2 E2 s2 e2=>hf σ H0 R0 H2 R2 E2 _ λu3 H3 R3 E3 s3 e3=>?_⟩
 obtain ⟨a',ea',ha',hR'⟩:=E3.ent i _ hΓ
 rw [ea] at ea';cases ea'
 cases e2
 cases e3
 have g:=ef.k (k:=Sum.inl k) ha'
 rw [fQ] at g
 refine ⟨_,g,?_⟩
 have e:((aZ F k).map V.int).getD (V.int z)=V.int ((aZ F k).getD z):=by cases aZ F k<;>rfl
 rw [e]
 exact q _ H3 R3 E3 (s2.trans s3) rfl
theorem lU (i:Nat){ke ve:Expr}{pos:Pos}{k v:Int}(hu:X.A.units + 1 < cLine)(hk:EV X ke Γ ae k Γ)(hv':EV X ve Γ ae v Γ)(hΓ:Γ[i]?=some (.di (cQ F)))(hz:F.length < sizeLine)(h:N (Γ.set i (.di (cQ (dz F k v)))))
 (hN:X.N[i]?=some x:=by rfl) (hvi:autoParam (bS X.env.scope x) vA1)
 (hd:Dg0 x:=by decide) (hcd:Cd0 x:=by decide)
 (hs:swapsWith ve (some (.Subscript (.Name x p1) ke p2)) pos.line X.env=pure false:=by rfl):W1 X (.Assign [.Subscript (.Name x p1) ke p2] ve pos) Γ N T:=λσ H0 R0 H R E D dn dr=>by
 refine sS (qD hu (aX hN hvi hd hcd) aE aE hs) (hv' σ H0 R0 H R E _ λu0 H0' R0' E0 s0 e0=>?_)
 obtain ⟨a,ea,ha,hR⟩:=E0.ent i _ hΓ
 refine ⟨.ref a,at_of ea,hk σ H0 R0 H0' R0' E0 _ λu H1 R1 E1 s1 e1=>?_⟩
 obtain ⟨a',ea',ha',hR'⟩:=E1.ent i _ hΓ
 rw [ea] at ea';cases ea'
 cases e1
 cases e0
 refine ⟨a,_,rfl,mM.k (k:=Sum.inl k) ha' (by unfold cK cQ;rw [length_map,length_map];exact hz),?_⟩
 rw [uq]
 exact dn σ _ R1 _ (E1.upd (en:=.di (cQ (dz F k v))) hΓ rfl ea hR' ⟨a,rfl,au,hR'⟩) (s0.trans s1) h
theorem qB (i:Nat){pos:Pos}{P:List (Int×Int)->Prop}(hΓ:Γ[i]?=some (.di (cQ F)))(h:P F)(hN:X.N[i]?=some x:=by rfl)(hv:autoParam (bS X.env.scope x) vA1)
 (hd:Dg0 x:=by decide) (hcd:Cd0 x:=by decide):W1 X (.Return (some (.Name x p1)) pos) Γ N (bR X.K ip P):=λσ H0 R0 H R E D dn dr=>by
 obtain ⟨a,ea,ha,hR⟩:=E.ent i _ hΓ
 have h0:H0 a=none:=E.new i _ a hΓ rfl ea
 refine sS (fg (aX hN hv hd hcd)) ⟨.ref a,at_of ea,dr _ H (upd R a (.dK (cK (cQ F)))) ⟨E.ext.h,E.ext.r.trans (aj.fresh hR _),λb o qb=>?_,λb hb=>?_⟩ ⟨F,⟨a,rfl,au⟩,h⟩⟩
 ·by_cases hb:b=a
  ·subst hb;rw [au] at qb;cases qb;exact ha
  ·rw [aA hb] at qb;exact E.ext.s b o qb
 ·rw [aA (show b≠a from λe=>hb (by rw [e];exact h0))];exact E.ext.old b hb
theorem ao.z3 {K:PySem.W.Frag}{σ:St}{H0 R0 H R H' R':Hp}(E:ao K σ H0 R0 H R Γ)(E':ao K σ H H H' R' Γf):ao K σ H0 R0 H' R Γ:=
 E.grow ⟨E'.ext.h,aj.refl _,E.sub.trans E'.ext.h,λ_ _=>rfl⟩
theorem TV.frz (hF:∀(σ:St) (H0 R0 H R:Hp),ao X.K σ H0 R0 H R Γ->ao X.K σ H H H H Γf){b:Bool}(h:TV X e Γf b Γf):TV X e Γ b Γ:=λσ H0 R0 H R E Q q=>
 h σ H H H H (hF σ H0 R0 H R E) Q λH' R' E' s'=>q H' R (E.z3 E') (aj.refl _)
theorem EV.frz (hF:∀(σ:St) (H0 R0 H R:Hp),ao X.K σ H0 R0 H R Γ->ao X.K σ H H H H Γf){y:α}(flat:∀(K:PySem.W.Frag) (H H':Hp) v y,r.R K H v y->r.R K H' v y)(h:EV X e Γf r y Γf):EV X e Γ r y Γ:=λσ H0 R0 H R E Q q=>
 h σ H H H H (hF σ H0 R0 H R E) Q λv H' R' E' s' e'=>q v H' R (E.z3 E') (aj.refl _) (flat X.K R' R v y e')
def gK:aD Unit:=⟨λ_ _ v _=>v= .non,λ_ h=>h⟩
theorem iU {S:bX}{k:Nat}{es:List Expr}{p pos:Pos}{ps:List Pk}{Pd:Unit->Prop}(C:ay X.prog X.w X.K X.mg X.base x k (aF S X.K))(hr:bU k X.A)(ha:HA X (e::es) Γ ps Γ1)(hS:S X.K ps (bR X.K gK Pd))(h:N Γ1)
 (hg:Gl X x:=by rfl) (hdb:Dg0 x:=by decide) (he:starEach (e::es) X.env=(false,eval e X.env)::starEach es X.env:=by rfl) (hpl:(backTo p2 (starEach es X.env)).any (·.1)=false:=by rfl)
 (hsw:swapsWith (.Call (.Name x p) (e::es) [] p2) none pos.line X.env=pure false:=by rfl):W1 X (.Expr (.Call (.Name x p) (e::es) [] p2) pos) Γ N T:=λσ H0 R0 H R E D dn dr=>
 sS (dR aE hsw) (d4 C hr ha hS E (λH1 R1 v H' R' E1 s1 xx t=>dn σ H' R' _ (E1.grow xx) (s1.trans xx.r) h) hg hdb he hpl)
end
section
variable {P:Program}{w:World}{K:PySem.W.Frag}{mg:Str->Option Value}{base:Heap}{α:Type}
theorem uy {S:bX}{x qual:Str}{st:Stmt}{f:Addr}{fd:FuncData}{N ps:List Str}{k:Nat}(F:bI K x qual st f fd)(Sc:aB N ps (ah st))(hm:mg x=some (.ref f))(hb:Binds K fd ps [])(len:∀qs T,S K qs T->qs.length=ps.length)
 (hbody:∀(cdv:Value) (A:Around) (outer:List Env) (s:Shared) (H:Hp) (E:XK) (qs:List Pk) (T:RT),bU k (A.deeper (envOfC qual (ah st) s.heap.objs.size f cdv))->S K qs T->(∀H0 H' R',T H0 .non H' R')/\
  WS (eh eX P w K mg base N qual (ah st) f cdv A outer s H E).gN (cg st) (dh qs N.length) (λ_=>True) T):ay P w K mg base x (k + 1) (aF S K):=by
 refine ⟨f,fd,ps,?_,hm,F.kp,hb⟩
 refine F.ok Sc (λvs H Q E h=>?_) (λcdv A outer s H vs Q E hr h=>?_)
 ·obtain ⟨R,qs,T,_,p,hS,_⟩:=h
  rw [p.length];exact len qs T hS
 ·obtain ⟨R,qs,T,sR,p,hS,q⟩:=h
  have hl:qs.length<=N.length:=by
   rw [len qs T hS]
   have:=congrArg List.length Sc.pre
   rw [length_take] at this
   omega
  obtain ⟨h1,h2⟩:=hbody cdv A outer s H E qs T hr hS
  exact ⟨_,fB,h2 (L2.start N vs) H R H R (fH sR p hl) {nx:=λ_ H'=>Q .non H',rt:=Q} (λσ' H' R' Γ' E' _ _=>q .non H' R' E'.ext (h1 _ _ _)) λv H' R' xx t=>q v H' R' xx t⟩
end
variable {P:Program}{w:World}{K:PySem.W.Frag}{mg:Str->Option Value}{base:Heap}
theorem BC {S:bX}{x qual:Str}{st:Stmt}{f:Addr}{fd:FuncData}{N ps:List Str}{k:Nat}(F:bI K x qual st f fd)(Sc:aB N ps (ah st))(len:∀qs T,S K qs T->qs.length=ps.length)
 (hbody:∀(cdv:Value) (A:Around) (outer:List Env) (s:Shared) (H:Hp) (E:XK) (qs:List Pk) (T:RT),bU k (A.deeper (envOfC qual (ah st) s.heap.objs.size f cdv))->S K qs T->
  WS (eh eX P w K mg base N qual (ah st) f cdv A outer s H E).gN (cg st) (dh qs N.length) (λ_=>False) T):fu P w K mg base eX (k + 1) f fd ps (aF S K):=by
 refine F.ok Sc (λvs H Q E h=>?_) (λcdv A outer s H vs Q E hr h=>?_)
 ·obtain ⟨R,qs,T,_,p,hS,_⟩:=h
  rw [p.length];exact len qs T hS
 ·obtain ⟨R,qs,T,sR,p,hS,q⟩:=h
  have hl:qs.length<=N.length:=by
   rw [len qs T hS]
   have:=congrArg List.length Sc.pre
   rw [length_take] at this
   omega
  exact ⟨_,fB,hbody cdv A outer s H E qs T hr hS (L2.start N vs) H R H R (fH sR p hl) {nx:=λ_ H'=>Q .non H',rt:=Q} (λ_ _ _ _ _ _ f=>f.elim) λv H' R' xx t=>q v H' R' xx t⟩
def Def (K:PySem.W.Frag)(mg:Str->Option Value)(x:Str)(st:Stmt)(ps:List Str):Prop:=∃f fd,bI K x x st f fd/\mg x=some (.ref f)/\Binds K fd ps []
theorem aU {h:Heap}{x:Str}{st:Stmt}{ps:List Str}{f:Addr}{oc:Value}{od an:Option Addr}{osl:Array (Option Value)}{kV doc pm cdv ct:Value}(KX:K.In h)(G:h.Ns mainGlobals mg)
 (a:PySem.W.nsIn K mainGlobals x=some (some (.ref f))) (l:K.lookup f=some ⟨oc,od,.func (PySem.W.fnOf x x (fK st) (cg st) (ah st) .none kV doc pm an cdv ct),osl⟩) (c:PySem.W.codeIn K cdv x=true) (k:PySem.W.keepIn K (.ref f)=true)
 (b:∀(kV doc pm:Value) (an:Option Addr) (cdv ct:Value) (us:List Value),us.length=ps.length->bindArgs (PySem.W.fnOf x x (fK st) (cg st) (ah st) .none kV doc pm an cdv ct) ⟨us,[]⟩=pure (ps.zip us)):Def K mg x st ps:=
 ⟨f,_,oh l c k,PySem.W.mg_of KX G a,(oh l c k).binds b⟩
open PySem.Builtin.Int (intBits)
theorem pZ {ns:List Int}(h:PySem.W.WData.layableAll [.list (ns.map .int)]=true):∀n∈ns,intBits n<=2 ^ 20:=λn hn=>by
 have h1:=PySem.W.layableW_arg h _ (mem_singleton.mpr rfl)
 have h2:=PySem.W.layableW_item h1 (.int n) (mem_map.mpr ⟨n,hn,rfl⟩)
 exact PySem.PyData.bits_of_layable h2
end Fc
namespace Att
open PySem PySem.W PySem.Calls PyProof.Rows
open PySem.Builtin.Int (intBits)
theorem oV {l:OpenLaw}{n:Nat}{q:Program}{loose:List Str}{XP:(Str->Option Value)->Heap->Prop}{YP:World->Heap->Prop}{d:DefRec}
 (hn:l.most=some n) (hdf:d.params.defaults=[])
 (call:∀(w:World) (s₀ s₁:Shared) (mg mb:Str->Option Value) (fa:Addr) (o:Obj) (pm cd doc:Value) (a:Addr) (vs:List Value) (ns:List Int),
  Ground q loose [] XP w s₀ mg mb s₁.heap->YP w s₁.heap->
  s₁.heap.get? fa=some o->o.data= .func (docDef d.name d.params d.body d.scope pm cd doc)->s₁.heap.CodeRec cd d.name->mg d.name=some (.ref fa)->
  s₁.heap.get? a=some {cls:=.type "list",data:=.seq vs.toArray}->IntsAre vs ns->ns.length<=n->(∀m∈ns,intBits m<=2 ^ 20)->s₁.gens= #[]->
  codeAny (model l.prog w) callerA (.call (.ref fa) ⟨[.ref a],[]⟩) (λr s'=>r= .ok (.ret (.bool true))/\OldK s₁.heap s'.heap/\s'.os=s₁.os/\AllBare s'.gens) s₁):
 WalkO q loose XP YP l.row.toRowW d [] (λf vs=>PySem.call f vs):=by
 intro w s₀ s₁ mg mb G Y fa o pm cd doc dV kV ho hd hcd hD hmg hg args vals as hpre hlay hrd hwl hlo
 obtain rfl:dV= .none:=Dflts.none hD hdf
 obtain rfl:kV= .none:=Dflts.noKw hD
 obtain ⟨a,vs,ns,rfl,rfl,hobj,hints,hlen⟩:=uO hn hpre hwl
 refine enter_call (codeAny_mono (call w s₀ s₁ mg mb fa o pm cd doc a vs ns G Y ho (fd_plain hd) hcd hmg hobj hints hlen (Fc.pZ hlay) hg) λr s' hq=>?_)
 obtain ⟨rfl,h2,h3,h4⟩:=hq
 exact ⟨.inl ⟨.bool true,.bool true,[],rfl,λ_=>rfl,.bool true,uk l _,λ_=>⟨List.Pairwise.nil,λ_ hm=>(nomatch hm)⟩⟩,h2,h3,h4⟩
end Att
namespace L2
open PySem PySem.Spec PyProof.Rows
open PySem.Builtin.Int (intBits)
theorem wF {l:PySem.W.OpenLaw}{n k:Nat}{q:Program}{loose:List Str}{XP:(Str->Option Value)->Heap->Prop}{YP:World->Heap->Prop}{d:DefRec}{K:Params->PySem.W.Frag}{CX:World->jD}{sp:World->Sp}{x:Str}
 (hn:l.most=some n) (hn2:n<=sizeLine) (hdf:d.params.defaults=[]) (hr:bU k callerA)
 (hY:∀(w:World) (h:Heap),YP w h->(K w.params).In h)
 (F:∀(w:World) (mg:Str->Option Value) (fa:Addr) (h:Heap),(K w.params).In h->h.Ns mainGlobals mg->mg d.name=some (.ref fa)->
  ∃fd:FuncData,(∀(s:Shared) (u:Value),BindsTo s fd ⟨[u],[]⟩ [(x,u)])/\
   ∀base:Heap,(K w.params).In base->base.Ns mainGlobals mg->fu l.prog w (K w.params) mg base (CX w) k fa fd [x] (sp w))
 (hsp:∀(w:World) (H:Hp) (a:Addr) (ns:List Int),ns.length<=n->(∀m∈ns,intBits m<=2 ^ 20)->vR H->aM (K w.params) H a (ns.map V.int)->sp w [.ref a] H (λv _=>v= .bl true) λ_ _ _=>False)
 (hCX:∀(w:World) (H:Hp) (s:Shared) (e:Value) (s':Shared),CX w [] H s (λ_ _ _=>False) e s'->False):
 PySem.W.WalkO q loose XP YP l.row.toRowW d [] (λf vs=>PySem.call f vs):=by
 refine Att.oV hn hdf λw s₀ s₁ mg mb fa o pm cd doc a vs ns G Y ho hd hcd hmg hobj hints hlen hbits hg=>?_
 have KX:=hY w _ Y
 obtain ⟨fd,hb,hF⟩:=F w mg fa _ KX G.T.g hmg
 exact xc KX G.T.g G.T.b G.T.builtins G.T.nolimit hg hobj hints (Nat.le_trans hlen hn2) hr hF hb (λH hO hS=>hsp w H a ns hlen hbits hO hS) λH e s'=>hCX w H s₁ e s'
end L2
namespace Fc
open PySem PySem.Spec L2
open PyProof.Rows hiding St
section
variable {X:Cx}{Γ Γ1:Ga}
end
section
variable {P:Program}{w:World}{K:PySem.W.Frag}{mg:Str->Option Value}{base:Heap}
end
section
variable {X:Cx}{pins:List (Addr×Obj)}{σ:St}{H:Hp}{s:Shared}{e:Addr}{o:Obj}
end
end Fc
namespace Fc
open PySem PySem.Spec PySem.W PySem.Calls PySem.Builtin.ObjectAttr PySem.Builtin.Getset_descriptor L2
open PyProof.Rows hiding St
section
variable {K:Frag}{D x:Addr}{prog:Program}{w:World}{A:Around}{E:Value->Shared->Prop}{s:Shared}
end
section
variable {X:Cx}{Γ Γ1:Ga}{ea D:Addr}{oe:Obj}
end
end Fc
namespace Fc
open PySem PySem.Spec L2
open PyProof.Rows hiding St
section
variable {X:Cx}{Γ Γ1 Γ2 Γ3:Ga}{α β γ δ:Type}{N:Ga->Prop}{T:RT}
variable {r:aD α}{xs:List α}{x:Str}
theorem yd (i:Nat){pos:Pos}(hΓ:Γ[i]?=some (.im (af r) xs))(hN:X.N[i]?=some x:=by rfl)(hv:autoParam (bS X.env.scope x) vA1)
 (hd:Dg0 x:=by decide) (hcd:Cd0 x:=by decide)
 (he:∀whole,isTrue (.Name x pos) X.env whole=(do let v ← whole;standAt (Expr.Name x pos).pos;holding [v] (truthy v)):=by intro _;rfl):TV X (.Name x pos) Γ (!xs.isEmpty) Γ:=by
 intro σ H0 R0 H R E Q q
 obtain ⟨v,ea,a,vs,rfl,ha,pp,_⟩:=E.ent i _ hΓ
 refine tS (k6 (aX hN hv hd hcd) he) ⟨.ref a,at_of ea, !xs.isEmpty,.inl ⟨vs,aM.of (E.sub _ _ ha),?_⟩,q H R E (aj.refl _)⟩
 cases pp<;>rfl
theorem uL (i:Nat){e:Expr}{p1 ap cp:Pos}{y:α}(he:EV X e Γ r y Γ1)(hΓ:Γ[i]?=some (.mu r xs))(hΓ1:Γ1[i]?=some (.mu r xs))(hz:xs.length < sizeLine)
 (hN:X.N[i]?=some x:=by rfl) (hv:autoParam (bS X.env.scope x) vA1)
 (hd:Dg0 x:=by decide) (hcd:Cd0 x:=by decide)
 (hbase:attributeBase (.Name x p1) "append" X.env (eval (.Name x p1) X.env)=eval (.Name x p1) X.env:=by rfl)
 (hfew:((backTo cp (starEach [e] X.env)).all (λx=> !x.1)&&(backToKw cp (keywordEach [] X.env)).all (λx=>x.1.isSome)
  &&decide ([e].length + ([]:List Keyword).length + (if ([]:List Keyword).isEmpty then 0 else 1) < 30))=true:=by rfl)
 (hline:(ap.endLine==cp.line)=true:=by rfl) (hs:starEach [e] X.env=(false,eval e X.env)::starEach [] X.env:=by rfl):EV X (.Call (.Attribute (.Name x p1) "append" ap) [e] [] cp) Γ gK () (Γ1.set i (.mu r (xs++[y]))):=λσ H0 R0 H R E Q q=>by
 obtain ⟨a,vs,ea,ha,hR,pp⟩:=E.ent i _ hΓ
 refine eS (fN PySem.F.plainAttrs_list PySem.F.slot_list_append PySem.F.type_list_append eA (aX hN hv hd hcd) (aL aE bz hs) hbase hfew hline hs rfl) ?_
 refine ⟨.ref a,at_of ea,.inl ⟨rfl,vs,aM.of ha⟩,he σ H0 R0 H R E _ λv H1 R1 E1 s1 e1=>?_⟩
 obtain ⟨a',vs',ea',ha',hR',pp'⟩:=E1.ent i _ hΓ1
 rw [ea] at ea';cases ea'
 refine ⟨a,vs',v,rfl,rfl,ha',by rw [pp'.length];exact hz,?_⟩
 exact q _ _ R1 (E1.upd (en:=.mu r (xs++[y])) hΓ1 rfl ea hR' ⟨a,_,rfl,au,hR',ca pp' (.cons e1 .nil)⟩) s1 rfl
theorem pj {i:Nat}(hΓ:Γ[i]?=some (.mu r xs))(hz:xs.length<=sizeLine)(σ:St)(H0 R0 H R:Hp)(E:ao X.K σ H0 R0 H R Γ):ao X.K σ H H H H ((Γ.map kE).set i (.im (af r) xs)):=by
 obtain ⟨a,vs,ea,ha,hR,pp⟩:=E.ent i _ hΓ
 exact E.frz.iG (i:=i) (e0:=.no) (by rw [getElem?_map,hΓ];rfl) ⟨.ref a,ea,a,vs,rfl,ha,Paired.map (λ_ _=>r.mono E.sub) pp,hz⟩ λb w=>by cases w
theorem g9 (i:Nat){p1 pos:Pos}{P:List α->Prop}(hΓ:Γ[i]?=some (.mu r xs))(hz:xs.length<=sizeLine)(h:P xs)(hN:X.N[i]?=some x:=by rfl)(hv:autoParam (bS X.env.scope x) vA1)
 (hd:Dg0 x:=by decide) (hcd:Cd0 x:=by decide):W1 X (.Return (some (.Name x p1)) pos) Γ N (fR X.K r P):=λσ H0 R0 H R E D dn dr=>by
 obtain ⟨a,vs,ea,ha,hR,pp⟩:=E.ent i _ hΓ
 exact sS (fg (aX hN hv hd hcd)) ⟨.ref a,at_of ea,dr _ H R E.ext ⟨a,vs,xs,rfl,E.new i _ a hΓ rfl ea,ha,hR,pp,hz,h⟩⟩
theorem y8 {j:Nat}{pos:Pos}:EV X (.Constant .none j pos) Γ gK () Γ:=λ_ _ _ _ _ E _ q=>eS AH (q _ _ _ E (aj.refl _) rfl)
end
section
variable {X:Cx}{Γ Γ1 Γ2 Γ3:Ga}{α β γ δ:Type}{N:Ga->Prop}{T:RT}
variable {e:Expr}{r:aD α}{r':aD β}
def iO (r:aD α)(r':aD β):aD (α ⊕ β):=⟨λK H v o=>match o with | .inl x=>r.R K H v x | .inr y=>r'.R K H v y,λ{K H H' v o} s h=>by cases o with | inl x=>exact r.mono s h | inr y=>exact r'.mono s h⟩
theorem EV.inl {x:α}(h:EV X e Γ r x Γ1):EV X e Γ (iO r r') (.inl x) Γ1:=EV.rep h λ_ _ q=>q
theorem EV.inr {y:β}(h:EV X e Γ r' y Γ1):EV X e Γ (iO r r') (.inr y) Γ1:=EV.rep h λ_ _ q=>q
theorem EV.uK {x:α}(h:EV X e Γ (iO r r') (.inl x) Γ1):EV X e Γ r x Γ1:=EV.rep h λ_ _ q=>q
theorem EV.Es {y:β}(h:EV X e Γ (iO r r') (.inr y) Γ1):EV X e Γ r' y Γ1:=EV.rep h λ_ _ q=>q
end
theorem B4 {α β γ:Type}{r:aD α}{r':aD β}{rc:aD γ} [DecidableEq α] [DecidableEq β] [DecidableEq γ]{n m k:Nat}(e:de (av r r') n)(e':de (af rc) m)(hn:n<=k)(hm:m<=k):de (iO (av r r') (af rc)) k:=by
 have tl:∀{K:PySem.W.Frag} {R:Hp} {v:V} {x:α×β} {y:List γ},(av r r').R K R v x->(af rc).R K R v y->False:=by
  rintro K R v x y ⟨a,v1,v2,rfl,h,_⟩ ⟨a',vs,e1,h',_⟩
  cases e1
  rw [h] at h';cases h'
 refine ⟨?_,?_⟩
 ·intro K R v x y h1 h2
  cases x with
  | inl x=>cases y with
    | inl y=>exact congrArg _ (e.inj h1 h2)
    | inr y=>exact (tl h1 h2).elim
  | inr x=>cases y with
    | inl y=>exact (tl h2 h1).elim
    | inr y=>exact congrArg _ (e'.inj h1 h2)
 ·intro X pins σ H s R A I sub v u vv uu x y rv ru h1 h2 hu
  have isT:∀{a:Addr} {vs:List V},R a=some (.tup vs)->∃its,s.heap.IsTuple a its:=λ{a vs} ha=>by
   obtain ⟨_,its,_,o,h1,h2,n,h3⟩:=(show cq X.prog X.w H s.heap a (.tup vs) from I.hok a _ (sub _ _ ha))
   exact ⟨_,o,h1,h2,n,h3⟩
  have isL:∀{a:Addr} {vs:List V},R a=some (.lst vs)->∃its,s.heap.IsList a its:=λ{a vs} ha=>by
   obtain ⟨us,hv,pl,_⟩:=I.list (aM.of (sub _ _ ha))
   exact ⟨_,pl.isList⟩
  cases x with
  | inl x=>cases y with
    | inl y=>rw [show decide (Sum.inl (β:=List γ) x=Sum.inl y)=decide (x=y) by simp];exact e.eq I sub rv ru h1 h2 (by omega)
    | inr y=>
      obtain ⟨a,v1,v2,rfl,ha,_⟩:=h1
      obtain ⟨b,vs,rfl,hb,_⟩:=h2
      cases rv
      cases ru
      obtain ⟨_,ta⟩:=isT ha
      obtain ⟨_,lb⟩:=isL hb
      rw [show decide (Sum.inl x=Sum.inr (α:=α×β) y)=false by simp]
      exact SeqAt.EqAt.of_refs (λz=>by rw [z,hb] at ha;cases ha) (SeqAt.RcAt.tuple_list ta lb (by omega))
  | inr x=>cases y with
    | inl y=>
      obtain ⟨b,vs,rfl,hb,_⟩:=h1
      obtain ⟨a,v1,v2,rfl,ha,_⟩:=h2
      cases rv
      cases ru
      obtain ⟨_,ta⟩:=isT ha
      obtain ⟨_,lb⟩:=isL hb
      rw [show decide (Sum.inr (α:=α×β) x=Sum.inl y)=false by simp]
      exact SeqAt.EqAt.of_refs (λz=>by rw [z,ha] at hb;cases hb) (SeqAt.RcAt.list_tuple lb ta (by omega))
    | inr y=>rw [show decide (Sum.inr (α:=α×β) x=Sum.inr y)=decide (x=y) by simp];exact e'.eq I sub rv ru h1 h2 (by omega)
section
variable {X:Cx}{Γ Γ1 Γ2 Γ3:Ga}{α β γ δ:Type}{N:Ga->Prop}{T:RT}
end
section
variable {X:Cx}{Γ Γ1 Γ2 Γ3:Ga}{α β γ δ:Type}{N:Ga->Prop}{T:RT}
def ft (H:Hp)(l:List Addr):Hp:=λb=>if b∈l then none else H b
theorem kz {H:Hp}{l:List Addr}{b:Addr}(h:b∈l):ft H l b=none:=if_pos h
theorem dW {H:Hp}{l:List Addr}{b:Addr}(h:b∉l):ft H l b=H b:=if_neg h
theorem n6 {H:Hp}{l:List Addr}:aj (ft H l) H:=λb o q=>by
 by_cases h:b∈l
 ·rw [kz h] at q;cases q
 ·rwa [dW h] at q
theorem ao.DC {K:PySem.W.Frag}{σ:St}{H0 R0 H R H' R':Hp}{i:Nat}{B B':iA}(E:ao K σ H0 R0 H R Γ)(hΓ:Γ[i]?=some (.ob B))(x:Ext (ft H B.fp) R H' R')(ho:(Ent.ob B').ok K H' R' (σ[i]?).join)(hfp:∀b∈B'.fp,b∈B.fp):ao K σ H0 R0 H' R' (Γ.set i (.ob B')):=by
 have h0:∀b∈B.fp,H0 b=none:=λb hb=>E.nw i _ b hΓ hb
 have out:∀{b:Addr},H0 b≠none->b∉B.fp:=λh e=>h (h0 _ e)
 have apart:∀(j:Nat) (e:Ent),j≠i->Γ[j]?=some e->∀b∈e.fp (σ[j]?).join,b∉B.fp:=λj e hj qj b hb w=>hj (E.ds j i e _ b qj hΓ hb w)
 refine ⟨⟨λb o q=>?_,E.ext.r.trans x.r,x.s,λb hb=>?_⟩,λj e q=>?_,λj e b q w=>?_,λj k e e' b q q' w w'=>?_,by rw [length_set];exact E.len⟩
 ·exact x.h b o (by rw [dW (out (by rw [q];exact Option.some_ne_none _))];exact E.ext.h b o q)
 ·refine (x.old b ?_).trans (E.ext.old b hb)
  rw [dW (out hb)];exact aj.some E.ext.h hb
 ·rcases set_at q with ⟨rfl,rfl,_⟩ | ⟨hj,q1⟩
  ·exact ho
  ·have h1:=E.ent j e q1
   refine h1.loc (λb hb=>?_) x.r λb hb=>?_
   ·cases e2:H b with
    | none=>exact absurd e2 (Ent.cO h1 hb).1
    | some u=>exact x.h b u (by rw [dW (apart j e hj q1 b hb)];exact e2)
   ·exact (x.old b (by rw [dW (apart j e hj q1 b hb)];exact (Ent.cO h1 hb).1)).trans (Ent.cO h1 hb).2
 ·rcases set_at q with ⟨rfl,rfl,_⟩ | ⟨hj,q1⟩
  ·exact h0 b (hfp b w)
  ·exact E.nw j e b q1 w
 ·rcases set_at q with ⟨rfl,rfl,_⟩ | ⟨hj,q1⟩
  ·rcases set_at q' with ⟨rfl,rfl,_⟩ | ⟨hk,q1'⟩
   ·rfl
   ·exact absurd (hfp b w) (apart k e' hk q1' b w')
  ·rcases set_at q' with ⟨rfl,rfl,_⟩ | ⟨hk,q1'⟩
   ·exact absurd (hfp b w') (apart j e hj q1 b w)
   ·exact E.ds _ _ _ _ b q1 q1' w w'
structure gL (P:Type):Type 1 where
 bx:Addr->Addr->P->iA
 fp:∀a b s,(bx a b s).fp=[a,b]
 at_:∀{K H R v a b s},(bx a b s).R K H R v->v= .ref a
abbrev jF (P:Type):=PySem.W.Frag->P->List Pk->(P->RT)->Prop
def eN {P:Type}(B:gL P)(S:jF P)(K:PySem.W.Frag):Sp:=λvs H Q _=>∃R a b s vs' ps T,vs= .ref a::vs'/\aj R H/\(R a=none/\R b=none)/\(B.bx a b s).R K H R (.ref a)/\gO K R vs' ps/\S K s ps T/\
 ∀v H' R' s',Ext (ft H [a,b]) R H' R'->(B.bx a b s').R K H' R' (.ref a)->(R' a=none/\R' b=none)->T s' (ft H [a,b]) v H' R'->Q v H'
theorem fm {P:Type}{B:gL P}{K:PySem.W.Frag}{H R:Hp}{a b:Addr}{s:P}{o:Option V}(h:(Ent.ob (B.bx a b s)).ok K H R o):o=some (.ref a)/\(B.bx a b s).R K H R (.ref a)/\R a=none/\R b=none:=by
 obtain ⟨⟨v,e,hv⟩,hR⟩:=h
 have:=B.at_ hv
 subst this
 exact ⟨e,hv,hR a (by rw [B.fp];simp),hR b (by rw [B.fp];simp)⟩
theorem jf {P:Type}{B:gL P}{K:PySem.W.Frag}{H R:Hp}{a b:Addr}{s:P}(h:(B.bx a b s).R K H R (.ref a))(h1:R a=none)(h2:R b=none):(Ent.ob (B.bx a b s)).ok K H R (some (.ref a)):=
 ⟨⟨_,rfl,h⟩,λc hc=>by
   rw [B.fp] at hc
   rcases mem_cons.mp hc with rfl | hc
   ·exact h1
   ·rw [mem_singleton.mp hc];exact h2⟩
theorem jT {P:Type}{B:gL P}{S:jF P}{x y:Str}{k:Nat}{es:List Expr}{p p1 pos:Pos}{ps:List Pk}{a b:Addr}{s0 s:P}{TM:P->RT}{Q:VK}{σ:St}{H0 R0 H R:Hp}(i:Nat)(C:ay X.prog X.w X.K X.mg X.base x k (eN B S X.K))(hr:bU k X.A)(ha:HA X es Γ ps Γ1)(hΓ:Γ[i]?=some (.ob (B.bx a b s0)))(hΓ1:Γ1[i]?=some (.ob (B.bx a b s)))(hS:S X.K s ps TM)(E:ao X.K σ H0 R0 H R Γ)
 (q:∀H1 R1 v H' R' s',ao X.K σ H0 R0 H1 R1 Γ1->aj R R1->Ext (ft H1 [a,b]) R1 H' R'->ao X.K σ H0 R0 H' R' (Γ1.set i (.ob (B.bx a b s')))->TM s' (ft H1 [a,b]) v H' R'->Q v H')
 (hg:Gl X x) (hdb:(x==("__debug__":Str))=false) (he:starEach (.Name y p1::es) X.env=(false,eval (.Name y p1) X.env)::starEach es X.env) (hpl:(backTo pos (starEach es X.env)).any (·.1)=false)
 (hN:X.N[i]?=some y) (hv:bS X.env.scope y) (hd:(y==("__debug__":Str))=false) (hcd:(y==("__classdict__":Str))=false):dI X (.Call (.Name x p) (.Name y p1::es) [] pos) σ H Q:=by
 obtain ⟨f,fd,pn,F,hm,hk,hb⟩:=C.ex
 obtain ⟨ea,_,_⟩:=fm (E.ent i _ hΓ)
 refine eS (kB F hr hg hm hk hb .nil nM (aL (aX hN hv hd hcd) jY he) hdb he hpl) ⟨.ref a,at_of ea,ha σ H0 R0 H R E _ λus H1 R1 E1 s1 p1=>?_⟩
 obtain ⟨ea1,hB,hRa,hRb⟩:=fm (E1.ent i _ hΓ1)
 refine ⟨R1,a,b,s,us,ps,TM,by rw [append_nil],E1.sub,⟨hRa,hRb⟩,hB,p1,hS,λv H' R' s' xx hB' hR' t=>q H1 R1 v H' R' s' E1 s1 xx ?_ t⟩
 refine E1.DC hΓ1 (by rw [B.fp];exact xx) (by rw [ea1];exact jf hB' hR'.1 hR'.2) λc hc=>?_
 rw [B.fp] at hc ⊢;exact hc
theorem cj (i:Nat){P:Type}{B:gL P}{S:jF P}{x y:Str}{k:Nat}{es:List Expr}{p p1 pos:Pos}{ps:List Pk}{a b:Addr}{s0 s st:P}{rr:aD β}{z:β}(C:ay X.prog X.w X.K X.mg X.base x k (eN B S X.K))(hr:bU k X.A)(ha:HA X es Γ ps Γ1)(hΓ:Γ[i]?=some (.ob (B.bx a b s0)))(hΓ1:Γ1[i]?=some (.ob (B.bx a b s)))(hS:S X.K s ps (λs'=>bR X.K rr λw=>s'=st/\w=z))
 (hg:Gl X x:=by rfl) (hdb:Dg0 x:=by decide) (he:starEach (.Name y p1::es) X.env=(false,eval (.Name y p1) X.env)::starEach es X.env:=by rfl) (hpl:(backTo pos (starEach es X.env)).any (·.1)=false:=by rfl)
 (hN:X.N[i]?=some y:=by rfl) (hv:autoParam (bS X.env.scope y) vA1) (hd:Dg0 y:=by decide) (hcd:Cd0 y:=by decide):
 EV X (.Call (.Name x p) (.Name y p1::es) [] pos) Γ rr z (Γ1.set i (.ob (B.bx a b st))):=λσ H0 R0 H R E Q q=>
 jT i C hr ha hΓ hΓ1 hS E (λH1 R1 v H' R' s' _ s1 xx E' t=>by
  obtain ⟨w,e1,rfl,rfl⟩:=t
  exact q v H' R' E' (s1.trans xx.r) e1) hg hdb he hpl hN hv hd hcd
theorem lj {tg:Expr}(i:Nat){P:Type}{B:gL P}{S:jF P}{x y:Str}{k:Nat}{es:List Expr}{p p1 p2 pos:Pos}{ps:List Pk}{a b:Addr}{s0 s:P}{rr:aD β}{Pd:P->β->Prop}{bf:β->Ga->Ga}(C:ay X.prog X.w X.K X.mg X.base x k (eN B S X.K))(hr:bU k X.A)(ha:HA X es Γ ps Γ1)(hΓ:Γ[i]?=some (.ob (B.bx a b s0)))(hΓ1:Γ1[i]?=some (.ob (B.bx a b s)))(hS:S X.K s ps (λs'=>bR X.K rr (Pd s')))(hb:BG X tg rr bf)(h:∀s' z,Pd s' z->N (bf z (Γ1.set i (.ob (B.bx a b s')))))
 (hg:Gl X x:=by rfl) (hdb:Dg0 x:=by decide) (he:starEach (.Name y p1::es) X.env=(false,eval (.Name y p1) X.env)::starEach es X.env:=by rfl) (hpl:(backTo p2 (starEach es X.env)).any (·.1)=false:=by rfl)
 (hN:X.N[i]?=some y:=by rfl) (hv:autoParam (bS X.env.scope y) vA1) (hd:Dg0 y:=by decide) (hcd:Cd0 y:=by decide)
 (hs:swapsWithSole [tg] (.Call (.Name x p) (.Name y p1::es) [] p2) pos.line X.env=pure false:=by rfl) (hw:swappedStores [tg] (.Call (.Name x p) (.Name y p1::es) [] p2) X.env=pure none:=by rfl) (h1:(assignEach [tg] X.env).map (·.2)=[assign tg X.env]:=by rfl):
 W1 X (.Assign [tg] (.Call (.Name x p) (.Name y p1::es) [] p2) pos) Γ N T:=λσ H0 R0 H R E D dn dr=>
 sS (gG aE xY hs hw h1) (jT i C hr ha hΓ hΓ1 hS E (λH1 R1 v H' R' s' _ s1 xx E' t=>by
  obtain ⟨w,e1,hz⟩:=t
  exact hb σ H0 R0 H' R' _ v w E' e1 _ λσ2 E2=>dn σ2 H' R' _ E2 (s1.trans xx.r) (h s' w hz)) hg hdb he hpl hN hv hd hcd)
def tM (K:PySem.W.Frag){P:Type}(B:gL P)(a b:Addr)(T:P->RT):RT:=λH0 v H' R'=>∃s',(B.bx a b s').R K H' R' (.ref a)/\(R' a=none/\R' b=none)/\T s' H0 v H' R'
theorem ia (i:Nat){P:Type}{B:gL P}{e:Expr}{pos:Pos}{a b:Addr}{s:P}{rr:aD β}{y:β}{Pd:P->β->Prop}(he:EV X e Γ rr y Γ1)(hΓ1:Γ1[i]?=some (.ob (B.bx a b s)))(h:Pd s y):W1 X (.Return (some e) pos) Γ N (tM X.K B a b λs'=>bR X.K rr (Pd s')):=λσ H0 R0 H R E D dn dr=>
 sS (fg aE) (he σ H0 R0 H R E _ λv H1 R1 E1 s1 e1=>by
  obtain ⟨ea,hB,hR⟩:=fm (E1.ent i _ hΓ1)
  exact dr v H1 R1 E1.ext ⟨s,hB,hR,y,e1,h⟩)
theorem rQ {P:Type}{B:gL P}{K:PySem.W.Frag}{R H:Hp}{a b:Addr}{st:P}{vs:List V}{ps:List Pk}{N:List Str}(s:aj R H)(hR:R a=none/\R b=none)(hB:(B.bx a b st).R K H R (.ref a))(p:gO K R vs ps)(hl:ps.length + 1<=N.length):
 ao K (L2.start N (.ref a::vs)) (ft H [a,b]) R H R (.ob (B.bx a b st)::dh ps (N.length - 1)):=by
 obtain ⟨n0,N',rfl⟩:∃n0 N',N=n0::N':=by cases N with
  | nil=>exact absurd hl (by simp)
  | cons n N'=>exact ⟨n,N',rfl⟩
 have hl':ps.length<=N'.length:=by simpa using hl
 have E0:=fH (N:=N') s p hl'
 have es:L2.start (n0::N') (.ref a::vs)=some (.ref a)::L2.start N' vs:=by unfold L2.start;simp
 rw [es]
 have noown:∀(i:Nat) (e:Ent) (o:Option V),(dh ps N'.length)[i]?=some e->e.fp o=[]:=λi e o q=>by
  unfold dh at q
  rcases mem_append.mp (mem_of_getElem? q) with z | z
  ·obtain ⟨p,_,rfl⟩:=mem_map.mp z;rfl
  ·obtain ⟨_,rfl⟩:=mem_replicate.mp z;rfl
 refine ⟨⟨n6,aj.refl _,s,λ_ _=>rfl⟩,λi e q=>?_,λi e c q w=>?_,λi j e e' c q q' w w'=>?_,?_⟩
 ·cases i with
  | zero=>simp at q;subst q;exact jf hB hR.1 hR.2
  | succ i=>simp at q;simpa using E0.ent i e q
 ·cases i with
  | zero=>
    simp at q;subst q
    have w:c∈(B.bx a b st).fp:=w
    rw [B.fp] at w
    exact kz w
  | succ i=>simp at q;rw [noown i e _ q] at w;cases w
 ·cases i with
  | succ i=>simp at q;rw [noown i e _ q] at w;cases w
  | zero=>
    cases j with
    | zero=>rfl
    | succ j=>simp at q';rw [noown j e' _ q'] at w';cases w'
 ·have:=E0.len
  simp [this]
variable {P:Program}{w:World}{K:PySem.W.Frag}{mg:Str->Option Value}{base:Heap}
theorem ie {Q0:Type}{B:gL Q0}{S:jF Q0}{x qual:Str}{st:Stmt}{f:Addr}{fd:FuncData}{N ps:List Str}{k:Nat}(F:bI K x qual st f fd)(Sc:aB N ps (ah st))(hm:mg x=some (.ref f))(hb:Binds K fd ps [])(len:∀s qs T,S K s qs T->qs.length + 1=ps.length)
 (hbody:∀(cdv:Value) (A:Around) (outer:List Env) (s:Shared) (H:Hp) (E:XK) (a b:Addr) (u:Q0) (qs:List Pk) (T:Q0->RT),bU k (A.deeper (envOfC qual (ah st) s.heap.objs.size f cdv))->S K u qs T->
  WS (eh eX P w K mg base N qual (ah st) f cdv A outer s H E).gN (cg st) (.ob (B.bx a b u)::dh qs (N.length - 1)) (λΓ=>∃u',Γ[0]?=some (.ob (B.bx a b u'))/\∀H0 H' R',T u' H0 .non H' R') (tM K B a b T)):ay P w K mg base x (k + 1) (eN B S K):=by
 refine ⟨f,fd,ps,?_,hm,F.kp,hb⟩
 refine F.ok Sc (λvs H Q E h=>?_) (λcdv A outer s H vs Q E hr h=>?_)
 ·obtain ⟨R,a,b,u,vs',qs,T,rfl,_,_,_,p,hS,_⟩:=h
  rw [length_cons,p.length];exact len u qs T hS
 ·obtain ⟨R,a,b,u,vs',qs,T,rfl,sR,hR,hB,p,hS,q⟩:=h
  have hl:qs.length + 1<=N.length:=by
   rw [len u qs T hS]
   have:=congrArg List.length Sc.pre
   rw [length_take] at this
   omega
  refine ⟨_,fB,hbody cdv A outer s H E a b u qs T hr hS (L2.start N (.ref a::vs')) (ft H [a,b]) R H R (rQ sR hR hB p hl) {nx:=λ_ H'=>Q .non H',rt:=Q} (λσ' H' R' Γ' E' _ ⟨u',hΓ,t⟩=>?_) λv H' R' xx t=>?_⟩
  ·obtain ⟨ea,hB',hR'⟩:=fm (E'.ent 0 _ hΓ)
   exact q .non H' R' u' E'.ext hB' hR' (t _ _ _)
  ·obtain ⟨s',h1,h2,h3⟩:=t
   exact q v H' R' s' xx h1 h2 h3
end
section
variable {prog:Program}{w:World}{A:Around}{E:Value->Shared->Prop}{s:Shared}
theorem nu {it t:Addr}{items:Array Value}(hne:t≠it):∀(n i:Nat) (s:Shared) (Q:List Value->Shared->Prop),s.heap.IsListIter it t i->s.heap.IsList t items->i + n<=items.size->
 (∀h',h'.IsListIter it t (i + n)->Heap.SameBut it s.heap h'->Q ((items.toList.drop i).take n) {s with heap:=h'})->wpAny (model prog w) A (draw (.ref it) n) Q E s
 | 0,i,s,Q,hit,_,_,hQ=>by
   show wpAny _ _ (pure []) Q E s
   exact wpAny_pure (by simpa using hQ s.heap hit (Heap.SameBut.refl ..))
 | n + 1,i,s,Q,hit,ht,hle,hQ=>by
   have hlt:i < items.size:=by omega
   show wpAny _ _ (pyNext (.ref it) >>=_) Q E s
   refine wpAny_bind (wpAny_pyNext_list_item hit ht (x:=items[i]) (by simp [hlt]) λh₁ hit₁ hs₁=>?_)
   refine wpAny_bind (wpAny_holding (nu hne n (i + 1) _ _ hit₁ (ht.extBut hs₁.extBut hne) (by omega) λh₂ hit₂ hs₂=>wpAny_pure ?_))
   have hd:items.toList.drop i=items[i]::items.toList.drop (i + 1):=by simp [drop_eq_getElem_cons,hlt]
   have:=hQ h₂ (by rw [show i + (n + 1)=i + 1 + n by omega];exact hit₂) (hs₁.trans hs₂)
   rw [hd,take_succ_cons] at this
   exact this
theorem kW {t:Addr}{items:Array Value}{Q:List Value->Shared->Prop}(hh:A.handled=none)(ht:s.heap.IsList t items)
 (hQ:∀h',Heap.ExtBut s.heap.objs.size s.heap h'->Q items.toList {s with heap:=h'}):wpAny (model prog w) A (unpackItems (.ref t) items.size none) Q E s:=by
 have hlt:t≠s.heap.objs.size:=by obtain ⟨o,ho,_⟩:=ht;exact Nat.ne_of_lt (Heap.lt_size ho)
 unfold unpackItems
 refine wpAny_bind ?_
 ·unfold notIterableAtAll
  refine wpAny_bind (wpAny_specialOf ht.typeIs slot_list_iter.lookup ?_)
  refine wpAny_pure ?_
  simp only [Bool.false_eq_true,if_false]
  refine wpAny_bind (wpAny_holding (wpAny_pyIter_list ht ?_))
  refine wpAny_bind (wpAny_holding (nu hlt items.size 0 _ _ ⟨_,Heap.get?_push_size _ rfl,rfl,rfl⟩ (ht.push _) (by omega) λh₁ hit₁ hs₁=>?_))
  have hall:List.take items.size (List.drop 0 items.toList)=items.toList:=by
   rw [List.drop_zero];exact take_of_length_le (by simp)
  rw [hall]
  rw [if_neg (by simp)]
  have ht₁:h₁.IsList t items:=(ht.push _).extBut hs₁.extBut hlt
  refine wpAny_bind (wpAny_holding (wpAny_pyNext_list_end hh hit₁ ht₁ (by simp) λh₂ he₂=>?_))
  simp only [Option.isSome_none,Bool.false_eq_true,if_false]
  refine wpAny_pure (hQ h₂ λb o hb e=>he₂ b o hb (hs₁.extBut b o hb (Heap.get?_push_of_some _ e)))
theorem kK {env:Env}{elts:List Expr}{x1}{pos:Pos}{t:Addr}{items:Array Value}{Q:Unit->Shared->Prop}(hh:A.handled=none)(ht:s.heap.IsList t items)
 (hn:(assignEach elts env).length=items.size) (hstar:(assignEach elts env).findIdx? (·.1)=none)
 (h:∀h',Heap.ExtBut s.heap.objs.size s.heap h'->wpAny (model prog w) A (assignInOrder ((assignEach elts env).map (·.2)) items.toList) Q E {s with heap:=h'}):
 wpAny (model prog w) A (assign (.Tuple elts x1 pos) env (.ref t)) Q E s:=by
 rw [assign_Tuple]
 refine wpAny_bind (wpAny_standAt ?_)
 unfold unpack
 rw [hn,hstar]
 exact wpAny_bind (wpAny_holding (kW hh ht h))
end
section
variable {X:Cx}{Γ Γ1 Γ2 Γ3:Ga}{α β γ δ:Type}{N:Ga->Prop}{T:RT}
def Fm (K:PySem.W.Frag)(n:Nat)(t:lR):TG:=λv σ H Q=>∃a xs,v= .ref a/\aM K H a xs/\xs.length=n/\t xs σ H Q
theorem tO {es:List Expr}{k:Nat}{pos:Pos}{t:lR}{n:Nat}(hc:X.calm=true)(h:u4 X es t)
 (hn:(assignEach es X.env).length=n:=by rfl) (hst:(assignEach es X.env).findIdx? (·.1)=none:=by rfl):PG X (.Tuple es k pos) (Fm X.K n t):=by
 intro pins s σ H v u Q I r hw
 obtain ⟨a,xs,e1,hq,hl,hw⟩:=hw
 subst e1
 cases r
 obtain ⟨its,rv,pl,hz⟩:=I.list hq
 refine kK (I.ok.hd hc) pl.isList (by simp [hn,← hl,rv.length]) hst λh' hx=>?_
 have I1:Inv X pins σ H {s with heap:=h'}:=I.kept (t':=s.toks) λb o e=>hx b o (Nat.ne_of_lt (Heap.lt_size e)) e
 exact h pins _ σ H xs _ Q I1 (by simpa using rv) hw
def fP (r:aD α):aD (α×α):=⟨λK H v x=>(af r).R K H v [x.1,x.2],λs h=>(af r).mono s h⟩
theorem mw (i j:Nat){x y:Str}{k:Nat}{p1 p2 pos:Pos}{r:aD α}(hc:X.calm=true:=by rfl)(hN:X.N.Nodup:=by first | assumption | decide)(hi:X.N[i]?=some x:=by rfl)(hx:autoParam (Loc X.env.scope x) vA2)(hf:autoParam (X.fn x=true∨X.env.scope.names.lookup x=some .local) vA3)
 (hj:X.N[j]?=some y:=by rfl) (hy:autoParam (Loc X.env.scope y) vA2) (hf':autoParam (X.fn y=true∨X.env.scope.names.lookup y=some .local) vA3):
 BG X (.Tuple [.Name x p1,.Name y p2] k pos) (fP r) (λw Γ=>(Γ.set i (.im r w.1)).set j (.im r w.2)):=λσ H0 R0 H R Γ v w E h Q q=>by
 obtain ⟨a,vs,rfl,ha,pp,_⟩:=h
 obtain ⟨v1,v2,rfl,e1,e2⟩:∃v1 v2,vs=[v1,v2]/\r.R X.K R v1 w.1/\r.R X.K R v2 w.2:=by
  cases pp with
  | cons h1 t=>cases t with
    | cons h2 t=>cases t;exact ⟨_,_,rfl,h1,h2⟩
 exact gS (tO hc (dv (dO hN hi hx hf) (dv (dO hN hj hy hf') kg))) ⟨a,_,rfl,aM.of (E.sub _ _ ha),rfl,v1,[v2],rfl,v2,[],rfl,rfl,q _ ((E.set i e1).set j e2)⟩
end
abbrev Pu:=List Int×Int
def xK (a b:Addr)(s:Pu):iA where
 fp:=[a,b]
 R:=λK H R v=>v= .ref a/\H a=some (.lst [.ref b,.int s.2])/\H b=some (.lst (s.1.map V.int))/\a≠b
 loc:=λhH hR ⟨e,h1,h2,h3⟩=>⟨e,(hH a mem_cons_self).trans h1,(hH b (by simp)).trans h2,h3⟩
 has:=λ⟨e,h1,h2,h3⟩ c hc=>by
  rcases mem_cons.mp hc with rfl | hc
  ·rw [h1];exact Option.some_ne_none _
  ·rw [mem_singleton.mp hc,h2];exact Option.some_ne_none _
def bo:gL Pu:=⟨xK,λ_ _ _=>rfl,λh=>h.1⟩
def rV:aD V:=⟨λ_ _ v x=>v=x,λ_ h=>h⟩
theorem nC {K:PySem.W.Frag}{R:Hp}:∀{vs ys:List V},PySem.Paired (rV.R K R) vs ys->vs=ys
 | _,_,.nil=>rfl
 | _,_,.cons h t=>by rw [show _=_ from h,nC t]
section
variable {X:Cx}{Γ Γ1 Γ2 Γ3:Ga}{α β γ δ:Type}{N:Ga->Prop}{T:RT}
variable {b:Addr}{e:Expr}{y:Str}{p1:Pos}{a:Addr}{s:Pu}{p p2:Pos}{x:Str}{c:Int}
theorem EV.Dg {n:Int}(h:EV X e Γ ae n Γ1):EV X e Γ rV (.int n) Γ1:=EV.rep h λ_ _ q=>q
theorem wd (i:Nat){r:aD α}{xs:List α}(hΓ:Γ[i]?=some (.ob (dQ b r xs)))(hN:X.N[i]?=some x:=by rfl)(hv:autoParam (bS X.env.scope x) vA1)
 (hd:Dg0 x:=by decide) (hcd:Cd0 x:=by decide):EV X (.Name x p) Γ rV (.ref b) Γ:=λσ H0 R0 H R E Q q=>by
 obtain ⟨ea,_⟩:=gk (E.ent i _ hΓ)
 exact eS (aX hN hv hd hcd) ⟨.ref b,at_of ea,q _ H R E (aj.refl _) rfl⟩
def sk (P:Pu->Prop):RT:=λH0 v H' R'=>∃a b s,v= .ref a/\(H0 a=none/\H0 b=none)/\(R' a=none/\R' b=none)/\H' a=some (.lst [.ref b,.int s.2])/\H' b=some (.lst (s.1.map V.int))/\a≠b/\P s
theorem yJ (i:Nat){pos:Pos}{xs:List Int}{t:Int}{P:Pu->Prop}(he:aY X e Γ rV [.ref b,.int t] Γ1)(hΓ1:Γ1[i]?=some (.ob (dQ b ae xs)))(h:P (xs,t)):W1 X (.Return (some e) pos) Γ N (sk P):=λσ H0 R0 H R E D dn dr=>
 sS (fg aE) (he σ H0 R0 H R E _ λa vs H1 R1 E1 s1 ha hR h0 off pp _=>by
  obtain ⟨ea,⟨ws,hb,pb⟩,hRb⟩:=gk (E1.ent i _ hΓ1)
  have:=nC pp
  subst this
  have hne:a≠b:=λz=>off i _ hΓ1 (by rw [z];exact mem_singleton.mpr rfl)
  exact dr _ H1 R1 E1.ext ⟨a,b,(xs,t),rfl,⟨h0,E1.nw i _ b hΓ1 (mem_singleton.mpr rfl)⟩,⟨hR,hRb⟩,ha,by rw [← dM pb];exact hb,hne,h⟩)
theorem wU (i:Nat){S:bX}{k:Nat}{es:List Expr}{pos:Pos}{ps:List Pk}{Pd:Pu->Prop}(C:ay X.prog X.w X.K X.mg X.base x k (aF S X.K))(hr:bU k X.A)(ha:HA X (e::es) Γ ps Γ1)(hS:S X.K ps (sk Pd))(h:∀a b s,Pd s->N (Γ1.set i (.ob (bo.bx a b s))))
 (hg:Gl X x:=by rfl) (hdb:Dg0 x:=by decide) (he:starEach (e::es) X.env=(false,eval e X.env)::starEach es X.env:=by rfl) (hpl:(backTo p2 (starEach es X.env)).any (·.1)=false:=by rfl)
 (hN:X.N.Nodup:=by first | assumption | decide) (hi:X.N[i]?=some y:=by rfl) (hx:autoParam (Loc X.env.scope y) vA2)
 (hs:swapsWith (.Call (.Name x p) (e::es) [] p2) (some (.Name y p1)) pos.line X.env=pure false:=by rfl) (hf:autoParam (X.fn y=true∨X.env.scope.names.lookup y=some .local) vA3):
 W1 X (.Assign [.Name y p1] (.Call (.Name x p) (e::es) [] p2) pos) Γ N T:=λσ H0 R0 H R E D dn dr=>
 sS (d6 hN hi hx aE hs hf) (d4 C hr ha hS E (λH1 R1 v H' R' E1 s1 xx t=>by
  obtain ⟨a,b,s,rfl,hn,hR,h1,h2,h3,h4⟩:=t
  have hm:∀c∈(bo.bx a b s).fp,c=a∨c=b:=λc hc=>by
   rcases mem_cons.mp hc with rfl | hc
   ·exact .inl rfl
   ·exact .inr (mem_singleton.mp hc)
  refine dn _ H' R' _ ((E1.grow xx).setG (en:=.ob (bo.bx a b s)) i (jf (B:=bo) ⟨rfl,h1,h2,h3⟩ hR.1 hR.2) (λc hc=>?_) λc hc j e _ qj w=>?_) (s1.trans xx.r) (h a b s h4)
  ·rcases hm c hc with rfl | rfl
   ·exact E1.ext.h.free hn.1
   ·exact E1.ext.h.free hn.2
  ·rcases hm c hc with rfl | rfl
   ·exact (Ent.cO (E1.ent j e qj) w).1 hn.1
   ·exact (Ent.cO (E1.ent j e qj) w).1 hn.2) hg hdb he hpl)
theorem zg (i j m:Nat){z:Str}{k:Nat}{p3 pos:Pos}(hΓ:Γ[i]?=some (.ob (bo.bx a b s)))(h:N ((Γ.set j (.im rV (.ref b))).set m (.im ae s.2)))
 (hNi:X.N[i]?=some x:=by rfl) (hv:autoParam (bS X.env.scope x) vA1) (hd:Dg0 x:=by decide) (hcd:Cd0 x:=by decide)
 (hc:X.calm=true:=by rfl) (hN:X.N.Nodup:=by first | assumption | decide) (hj:X.N[j]?=some y:=by rfl) (hy:autoParam (Loc X.env.scope y) vA2) (hf:autoParam (X.fn y=true∨X.env.scope.names.lookup y=some .local) vA3)
 (hm:X.N[m]?=some z:=by rfl) (hz:autoParam (Loc X.env.scope z) vA2) (hf':autoParam (X.fn z=true∨X.env.scope.names.lookup z=some .local) vA3)
 (hs:swapsWithSole [.Tuple [.Name y p1,.Name z p2] k p3] (.Name x p) pos.line X.env=pure false:=by rfl) (hw:swappedStores [.Tuple [.Name y p1,.Name z p2] k p3] (.Name x p) X.env=pure none:=by rfl) (h1:(assignEach [.Tuple [.Name y p1,.Name z p2] k p3] X.env).map (·.2)=[assign (.Tuple [.Name y p1,.Name z p2] k p3) X.env]:=by rfl):
 W1 X (.Assign [.Tuple [.Name y p1,.Name z p2] k p3] (.Name x p) pos) Γ N T:=λσ H0 R0 H R E D dn dr=>by
 obtain ⟨ea,⟨_,ha,hb,_⟩,_⟩:=fm (E.ent i _ hΓ)
 refine sS (gG (aX hNi hv hd hcd) (tO hc (dv (dO hN hj hy hf) (dv (dO hN hm hz hf') kg))) hs hw h1) ⟨.ref a,at_of ea,a,_,rfl,aM.of ha,rfl,.ref b,[.int s.2],rfl,.int s.2,[],rfl,rfl,?_⟩
 exact dn _ H R _ ((E.set j (r:=rV) (x:=.ref b) rfl).set m (r:=ae) (x:=s.2) rfl) (aj.refl _) h
theorem wN (i j:Nat){pos:Pos}(hm:X.mg "len"=none)(hΓ:Γ[i]?=some (.ob (bo.bx a b s)))(hj:Γ[j]?=some (.im rV (.ref b)))
 (hN:X.N[j]?=some y:=by rfl) (hv:autoParam (bS X.env.scope y) vA1) (hd:Dg0 y:=by decide) (hcd:Cd0 y:=by decide)
 (hs:starEach [.Name y p1] X.env=[(false,eval (.Name y p1) X.env)]:=by rfl) (hg:Gl X "len":=by rfl):EV X (.Call (.Name "len" p) [.Name y p1] [] pos) Γ ae (s.1.length:Int) Γ:=λσ H0 R0 H R E Q q=>by
 obtain ⟨ea,⟨_,ha,hb,_⟩,_⟩:=fm (E.ent i _ hΓ)
 obtain ⟨v0,e0,hv0⟩:=E.ent j _ hj
 cases hv0
 refine eS (dA eE hg hm PySem.boot_len (aL (aX hN hv hd hcd) bz hs) (by decide) (by decide) hs) ⟨.ref b,at_of e0,b,_,rfl,.inl (aM.of hb),?_⟩
 rw [length_map]
 exact q _ H R E (aj.refl _) rfl
theorem zo (i j:Nat){pos:Pos}{k:Int}(he:EV X e Γ ae k Γ)(hΓ:Γ[i]?=some (.ob (bo.bx a b s)))(hj:Γ[j]?=some (.im rV (.ref b)))(hk:cN s.1 k=some c)
 (hN:X.N[j]?=some y:=by rfl) (hv:autoParam (bS X.env.scope y) vA1) (hd:Dg0 y:=by decide) (hcd:Cd0 y:=by decide) (hsx:ee e:=by exact λ_ _=>rfl):EV X (.Subscript (.Name y p1) e pos) Γ ae c Γ:=λσ H0 R0 H R E Q q=>by
 obtain ⟨v0,e0,hv0⟩:=E.ent j _ hj
 cases hv0
 refine eS (gx fF (aX hN hv hd hcd) aE hsx) ⟨.ref b,at_of e0,he σ H0 R0 H R E _ λu H2 R2 E2 s2 e2=>?_⟩
 obtain ⟨ea,⟨_,ha,hb,_⟩,_⟩:=fm (E2.ent i _ hΓ)
 obtain ⟨w,e3,e4⟩:=gU (paired_ints (K:=X.K) (R:=R2) s.1) hk
 exact ⟨b,_,k,w,rfl,e2,aM.of hb,e3,q w H2 R2 E2 s2 e4⟩
theorem pV (xs:List Int)(j:Nat)(y:Int):(xs.map V.int).set j (.int y)=(xs.set j y).map V.int:=by rw [List.map_set]
theorem sU (i j:Nat){b0:Expr}{pos:Pos}{k:Int}{n:Nat}(he:EV X e Γ ae c Γ)(hb0:EV X b0 Γ ae k Γ)(hΓ:Γ[i]?=some (.ob (bo.bx a b s)))(hj:Γ[j]?=some (.im rV (.ref b)))(hk:dP s.1.length k=some n)(h:N (Γ.set i (.ob (bo.bx a b (s.1.set n c,s.2)))))
 (hN:X.N[j]?=some y:=by rfl) (hv:autoParam (bS X.env.scope y) vA1) (hd:Dg0 y:=by decide) (hcd:Cd0 y:=by decide)
 (ha:∀v,assign (.Subscript (.Name y p1) b0 p2) X.env v=(do
  let ov ← holding [v] (eval (.Name y p1) X.env)
  let iv ← holding [v,ov] (eval b0 X.env)
  standAt p2
  holding [v,ov,iv] (setItem ov iv v)
  release [v,ov,iv] []):=by intro _;rfl)
 (hs:swapsWithSole [.Subscript (.Name y p1) b0 p2] e pos.line X.env=pure false:=by rfl) (hw:swappedStores [.Subscript (.Name y p1) b0 p2] e X.env=pure none:=by rfl) (h1:(assignEach [.Subscript (.Name y p1) b0 p2] X.env).map (·.2)=[assign (.Subscript (.Name y p1) b0 p2) X.env]:=by rfl):
 W1 X (.Assign [.Subscript (.Name y p1) b0 p2] e pos) Γ N T:=λσ H0 R0 H R E D dn dr=>by
 refine sS (gG aE (jX (aX hN hv hd hcd) aE set_list ha) hs hw h1) (he σ H0 R0 H R E _ λv H1 R1 E1 s1 e1=>?_)
 obtain ⟨v0,e0,hv0⟩:=E1.ent j _ hj
 cases hv0
 refine ⟨.ref b,at_of e0,hb0 σ H0 R0 H1 R1 E1 _ λu H2 R2 E2 s2 e2=>?_⟩
 obtain ⟨ea,⟨_,h2,h3,hne⟩,hRa,hRb⟩:=fm (E2.ent i _ hΓ)
 cases e1
 refine ⟨b,_,k,n,rfl,e2,h3,by rw [length_map];exact hk,?_⟩
 rw [pV]
 exact dn σ _ R2 _ (E2.hV (en:=.ob (bo.bx a b (s.1.set n c,s.2))) hΓ (show b∈[a,b] by simp) (by rw [ea];exact jf (B:=bo) ⟨rfl,by rw [aA hne];exact h2,au,hne⟩ hRa hRb) λc w=>.inl w) (s1.trans s2) h
theorem wu (i:Nat){p3 pos:Pos}{kk:Nat}(he:EV X e Γ ae c Γ)(hΓ:Γ[i]?=some (.ob (bo.bx a b s)))(h:N (Γ.set i (.ob (bo.bx a b (s.1,c)))))
 (hN:X.N[i]?=some y:=by rfl) (hv:autoParam (bS X.env.scope y) vA1) (hd:Dg0 y:=by decide) (hcd:Cd0 y:=by decide)
 (ha:∀v,assign (.Subscript (.Name y p1) (.Constant (.int 1) kk p3) p2) X.env v=(do
  let ov ← holding [v] (eval (.Name y p1) X.env)
  let iv ← holding [v,ov] (eval (.Constant (.int 1) kk p3) X.env)
  standAt p2
  holding [v,ov,iv] (setItem ov iv v)
  release [v,ov,iv] []):=by intro _;rfl)
 (hs:swapsWithSole [.Subscript (.Name y p1) (.Constant (.int 1) kk p3) p2] e pos.line X.env=pure false:=by rfl) (hw:swappedStores [.Subscript (.Name y p1) (.Constant (.int 1) kk p3) p2] e X.env=pure none:=by rfl) (h1:(assignEach [.Subscript (.Name y p1) (.Constant (.int 1) kk p3) p2] X.env).map (·.2)=[assign (.Subscript (.Name y p1) (.Constant (.int 1) kk p3) p2) X.env]:=by rfl):
 W1 X (.Assign [.Subscript (.Name y p1) (.Constant (.int 1) kk p3) p2] e pos) Γ N T:=λσ H0 R0 H R E D dn dr=>by
 refine sS (gG aE (jX (aX hN hv hd hcd) d8 set_list ha) hs hw h1) (he σ H0 R0 H R E _ λv H1 R1 E1 s1 e1=>?_)
 obtain ⟨ea,⟨_,h2,h3,hne⟩,hRa,hRb⟩:=fm (E1.ent i _ hΓ)
 cases e1
 refine ⟨.ref a,at_of ea,a,_,1,1,rfl,rfl,h2,rfl,?_⟩
 exact dn σ _ R1 _ (E1.hV (en:=.ob (bo.bx a b (s.1,c))) hΓ (show a∈[a,b] by simp) (by rw [ea];exact jf (B:=bo) ⟨rfl,au,by rw [aA (Ne.symm hne)];exact h3,hne⟩ hRa hRb) λc w=>.inl w) s1 h
end
end Fc
namespace K1
open PySem L2 Fc
open PySem.Spec hiding Row
open PyProof.Rows hiding St
open PySem.Builtin.Int (intBits)
theorem eK {α:Type} [DecidableEq α]:∀{xs ys:List α},xs.Nodup->(∀x∈xs,x∈ys)->xs.length<=ys.length
 | [],_,_,_=>Nat.zero_le _
 | x::xs,ys,h,hs=>by
   obtain ⟨h1,h2⟩:=nodup_cons.mp h
   have hx:x∈ys:=hs x mem_cons_self
   have:=eK (xs:=xs) (ys:=ys.erase x) h2 λy hy=>(List.mem_erase_of_ne (show y≠x from λe=>h1 (e▸hy))).mpr (hs y (mem_cons_of_mem _ hy))
   rw [List.length_erase_of_mem hx] at this
   have:=length_pos_of_mem hx
   rw [length_cons]
   omega
theorem t9 {α:Type} [DecidableEq α]{xs ys:List α}(h:xs.Nodup)(h':ys.Nodup)(e:∀x,x∈xs↔x∈ys):xs.length=ys.length:=
 Nat.le_antisymm (eK h λx hx=>(e x).mp hx) (eK h' λx hx=>(e x).mpr hx)
def kS (ks:List Int):List (Int×V):=ks.map λk=>(k,.bl true)
theorem mK (ks:List Int)(k:Int):gM (kS ks) k=decide (k∈ks):=by
 unfold gM kS
 rw [any_map,Bool.eq_iff_iff,any_eq_true]
 simp
structure oC (es:List (Int×Int)) (s:Int) (ks ws:List Int):Prop where
 nd:ks.Nodup
 re:∀k∈ks,Reach es s k
 st:s∈ks
 wt:∀k∈ws,k∈ks
 bd:∀k∈ks,k∈s::es.map (·.2)
theorem oC.le {es:List (Int×Int)}{s:Int}{ks ws:List Int}(h:oC es s ks ws):ks.length<=es.length + 1:=by
 have:=eK h.nd h.bd
 simpa using this
section
variable {P:Program}{w:World}{K:PySem.W.Frag}{mg:Str->Option Value}{base:Heap}{f:Addr}{fd:FuncData}
abbrev ya:Stmt:=top sj
abbrev nRE:List Str:=["leads","start","found","waiting","place","lead"]
theorem zR:aB nRE ["leads","start"] (ah ya):=fS0
def EF:bX:=λK ps T=>∃(es:List (Int×Int)) (s:Int),ps=[⟨af dE,es⟩,⟨ae,s⟩]/\es.length<=100000/\T=bR K sC λkvs=>(kvs.map (·.1)).Nodup/\∀k,k∈kvs.map (·.1)↔Reach es s k
theorem Dk (F:bI K "reached" "reached" ya f fd)(hm:mg "reached"=some (.ref f))(hb:Binds K fd ["leads","start"] []):ay P w K mg base "reached" 1 (aF EF K):=by
 have nd:=zR.nd
 refine bG F zR hm hb (λqs T ⟨_,_,e,_⟩=>by rw [e];rfl) (λcdv A outer s H E qs T hr hS=>?_)
 obtain ⟨es,s0,rfl,hlen,rfl⟩:=hS
 have hu:=xB hr
 change WS _ _ [.im (af dE) es,.im ae s0,.no,.no,.no,.no] _ _
 refine ai (mI 2 (rG 1 rfl) rM (ai (cG 3 (aO (aN (aa 1 rfl) bh) (by show 1<=sizeLine;decide)) ?_)))
 refine ai (f7 (λm Γ=>∃ks ws v4 v5,Γ=[.im (af dE) es,.im ae s0,.di (kS ks),.mu ae ws,v4,v5]/\oC es s0 ks ws/\m=2 * (es.length + 1 - ks.length) + ws.length/\m<=2 * es.length + 1/\∀k∈ks,k∉ws->∀b,(k,b)∈es->b∈ks) (m0:=2 * (es.length + 1 - 1) + 1)
  ⟨[s0],[s0],.no,.no,rfl,⟨by simp,λk hk=>by rw [mem_singleton.mp hk];exact .base,mem_singleton.mpr rfl,λk hk=>hk,λk hk=>by rw [mem_singleton.mp hk];exact mem_cons_self⟩,rfl,Nat.le_refl _,λk hk hn=>absurd hk hn⟩ ?_)
 rintro m Γ ⟨ks,ws,v4,v5,rfl,hI,rfl,hmb,hcl⟩
 refine ⟨!ws.isEmpty,_,lS 3 rfl,λhne=>?_,λhe=>?_⟩
 ·have hws:ws≠[]:=by intro e;rw [e] at hne;exact absurd hne (by decide)
  have hpos:0 < ws.length:=length_pos_iff.mpr hws
  obtain ⟨p,hp⟩:∃p,ws[ws.length - 1]?=some p:=⟨_,getElem?_eq_getElem (by omega)⟩
  have hpm:p∈ws:=mem_of_getElem? hp
  have hsplit:ws=ws.dropLast++[p]:=by
   have e:=dropLast_concat_getLast hws
   rw [List.getLast_eq_getElem,] at e
   rw [getElem?_eq_getElem (by omega)] at hp
   rw [Option.some.inj hp] at e
   exact e.symm
  have hdl:ws.dropLast.length=ws.length - 1:=length_dropLast
  refine ai (bg 4 (n9 3 rfl hp) ?_)
  refine ak (cv (r:=dE) (λi Γ=>∃ks1 ws1 v5,Γ=[.im (af dE) es,.im ae s0,.di (kS ks1),.mu ae ws1,.im ae p,v5]/\oC es s0 ks1 ws1/\p∈ks1/\2 * (es.length + 1 - ks1.length) + ws1.length < 2 * (es.length + 1 - ks.length) + ws.length/\(∀k∈ks1,k∉ws1->k≠p->∀b,(k,b)∈es->b∈ks1)/\∀(j:Nat) b,j < i->es[j]?=some (p,b)->b∈ks1)
   (aR (aa 0 rfl)) (aG 5) ⟨ks,ws.dropLast,v5,rfl,⟨hI.nd,hI.re,hI.st,λk hk=>hI.wt k (List.dropLast_subset _ hk),hI.bd⟩,hI.wt p hpm,by omega,λk hk hn hkp=>hcl k hk λhw=>?_,λj b hj=>absurd hj (Nat.not_lt_zero _)⟩ ?_ ?_)
  ·rw [hsplit] at hw
   rcases mem_append.mp hw with q | q
   ·exact hn q
   ·exact hkp (mem_singleton.mp q)
  ·rintro i t Γ ht ⟨ks1,ws1,u5,rfl,hJ,hp1,hme,hc1,hc2⟩
   have htm:t∈es:=mem_of_getElem? ht
   refine ak (bL (TW.tv (dN (bc e6 (d5 (aa 5 rfl)) (aa 4 rfl)) (λ_=>g5 (kH 2 true hu (bb (aa 5 rfl)) rfl)))) (λh=>?_) (λh=>bu ?_))
   ·rw [Bool.and_eq_true] at h
    have h1:t.1=p:=of_decide_eq_true h.1
    have h2:t.2∉ks1:=by
     have:=h.2
     rw [if_pos rfl,mK] at this
     simpa using this
    have hJ':oC es s0 (ks1++[t.2]) (ws1++[t.2]):=by
     refine ⟨eV hJ.nd h2,λk hk=>?_,mem_append_left _ hJ.st,λk hk=>?_,λk hk=>?_⟩
     ·rcases mem_append.mp hk with q | q
      ·exact hJ.re k q
      ·rw [mem_singleton.mp q]
       exact .step (hJ.re p hp1) (by rw [← h1];exact htm)
     ·rcases mem_append.mp hk with q | q
      ·exact mem_append_left _ (hJ.wt k q)
      ·exact mem_append_right _ q
     ·rcases mem_append.mp hk with q | q
      ·exact hJ.bd k q
      ·rw [mem_singleton.mp q]
       exact mem_cons_of_mem _ (mem_map.mpr ⟨t,htm,rfl⟩)
    have hle:=hJ'.le
    have hle1:=hJ.le
    rw [length_append,length_singleton] at hle
    refine ai (uj 2 hu (bb (aa 5 rfl)) rM rfl (by rw [mK];exact decide_eq_false h2) (by unfold kS;rw [length_map];exact Nat.lt_of_le_of_lt (show ks1.length<=100001 by omega) (by decide)) ?_)
    have ed:kS ks1++[(t.2,V.bl true)]=kS (ks1++[t.2]):=by unfold kS;rw [map_append];rfl
    rw [ed]
    have hwl:ws1.length<=400000:=by
     omega
    refine ak (cS 3 (bb (aa 5 rfl)) rfl rfl (Nat.lt_of_le_of_lt hwl (by decide)) ?_)
    refine ⟨ks1++[t.2],ws1++[t.2],_,rfl,hJ',mem_append_left _ hp1,?_,λk hk hn hkp b hb=>?_,λj b hj hjb=>?_⟩
    ·rw [length_append,length_append,length_singleton];omega
    ·rcases mem_append.mp hk with q | q
     ·exact mem_append_left _ (hc1 k q (λz=>hn (mem_append_left _ z)) hkp b hb)
     ·exact absurd (mem_append_right _ q) hn
    ·rcases Nat.lt_or_ge j i with q | q
     ·exact mem_append_left _ (hc2 j b q hjb)
     ·have:j=i:=by omega
      subst this
      rw [ht] at hjb
      cases hjb
      exact mem_append_right _ (mem_singleton.mpr rfl)
   ·refine ⟨ks1,ws1,_,rfl,hJ,hp1,hme,hc1,λj b hj hjb=>?_⟩
    rcases Nat.lt_or_ge j i with q | q
    ·exact hc2 j b q hjb
    ·have:j=i:=by omega
     subst this
     rw [ht] at hjb
     cases hjb
     have h':=h
     rw [Bool.and_eq_false_iff] at h'
     rcases h' with z | z
     ·exact absurd rfl (of_decide_eq_false z)
     ·rw [if_pos rfl,mK] at z
      simpa using z
  ·rintro Γ ⟨ks1,ws1,u5,rfl,hJ,hp1,hme,hc1,hc2⟩
   refine ⟨_,hme,ks1,ws1,_,_,rfl,hJ,rfl,by omega,λk hk hn b hb=>?_⟩
   by_cases hkp:k=p
   ·subst hkp
    obtain ⟨j,hj⟩:=mem_iff_getElem?.mp hb
    exact hc2 j b (List.getElem?_eq_some_iff.mp hj).1 hj
   ·exact hc1 k hk hn hkp b hb
 ·have hws:ws=[]:=by
   cases ws with
   | nil=>rfl
   | cons _ _=>simp at he
  subst hws
  refine ak (BW 2 rfl ?_)
  have em:(kS ks).map (·.1)=ks:=by unfold kS;rw [map_map];exact map_id ks
  rw [em]
  exact ⟨hI.nd,λk=>⟨hI.re k,λhk=>Reach.sub (P:=λk=>k∈ks) hI.st (λa b ha hab=>hcl a ha (by simp) b hab) hk⟩⟩
open Classical in
noncomputable def iZ (es:List (Int×Int))(s n:Int):Bool:=decide (∃ks:List Int,ks.Nodup/\(∀k,k∈ks↔Reach es s k)/\(ks.length:Int)=n)
open Classical in
theorem nB {es:List (Int×Int)}{s n:Int}{ks:List Int}(h:ks.Nodup)(e:∀k,k∈ks↔Reach es s k):decide ((ks.length:Int)=n)=iZ es s n:=by
 unfold iZ
 by_cases hn:(ks.length:Int)=n
 ·rw [decide_eq_true hn,decide_eq_true];exact ⟨ks,h,e,hn⟩
 ·rw [decide_eq_false hn,decide_eq_false]
  rintro ⟨ks',h',e',hn'⟩
  exact hn (by rw [← hn',t9 h h' λk=>(e k).trans (e' k).symm])
def fwd (rs:List Row)(p:Int):List (Int×Int):=(rs.filter λr=>decide (r.1=p)).map λr=>(r.2.1,r.2.2.1)
def bwd (rs:List Row)(p:Int):List (Int×Int):=(rs.filter λr=>decide (r.1=p)).map λr=>(r.2.2.1,r.2.1)
noncomputable def nT (rs:List Row)(p n:Int):Bool:=iZ (fwd rs p) 0 n&&iZ (bwd rs p) 1 n
abbrev qq:Stmt:=top lQ
abbrev zJ:List Str:=["rows","part","size","ahead","behind"]
theorem BY:aB zJ ["rows","part","size"] (ah qq):=fS0
def Ek:bX:=λK ps T=>∃(rs:List Row) (p n:Int),ps=[⟨af ax,rs⟩,⟨ae,p⟩,⟨ae,n⟩]/\rs.length<=1000/\T=bR K aW (· =nT rs p n)
theorem DL (M:bN mg)(CR:ay P w K mg base "reached" 1 (aF EF K))(F:bI K "lies_on_ways" "lies_on_ways" qq f fd)(hm:mg "lies_on_ways"=some (.ref f))(hb:Binds K fd ["rows","part","size"] []):ay P w K mg base "lies_on_ways" 2 (aF Ek K):=by
 have nd:=BY.nd
 have ndc:List.Nodup [("row":Str),"part"]:=by decide
 obtain ⟨t1,hB⟩:=M.begin_
 obtain ⟨t2,hE⟩:=M.end_
 refine bG F BY hm hb (λqs T ⟨_,_,_,e,_⟩=>by rw [e];rfl) (λcdv A outer s H E qs T hr hS=>?_)
 obtain ⟨rs,p,n,rfl,hl,rfl⟩:=hS
 change WS _ _ [.im (af ax) rs,.im ae p,.im ae n,.no,.no] _ _
 have lf:∀g:Row->Int×Int,((rs.filter λr=>decide (r.1=p)).map g).length<=100000:=λg=>by
  rw [length_map]
  have:=length_filter_le (λr:Row=>decide (r.1=p)) rs
  omega
 refine ai (kj 3 CR hr (ag (aY.im (bF (own:=["row"]) (fr:=["part"]) (ix:=[1]) (p:=λr=>decide (r.1=p)) (f:=λr=>(r.2.1,r.2.2.1)) (bj (so:=ah qq) (N0:=zJ) rfl rfl (λx h=>aT h) (by decide +kernel)) (aR (aa 0 rfl))
  (λC s H ex=>aG 0) (λx=>⟨.inr rfl,.inl rfl,trivial⟩) (λC s H ex x hx=>fU (bc e6 (eU (aa 0 rfl)) (aa 1 rfl))) (λC s H ex x hx _=>dj (ag (dk (aa 0 rfl)) (ag (cA (aa 0 rfl)) aq))))) (ag (bE hB) aq)) ⟨_,_,rfl,lf _,rfl⟩ ?_)
 rintro kv1 ⟨n1,e1⟩
 refine ai (kj 4 CR hr (ag (aY.im (bF (own:=["row"]) (fr:=["part"]) (ix:=[1]) (p:=λr=>decide (r.1=p)) (f:=λr=>(r.2.2.1,r.2.1)) (bj (so:=ah qq) (N0:=zJ) rfl rfl (λx h=>aT h) (by decide +kernel)) (aR (aa 0 rfl))
  (λC s H ex=>aG 0) (λx=>⟨.inr rfl,.inl rfl,trivial⟩) (λC s H ex x hx=>fU (bc e6 (eU (aa 0 rfl)) (aa 1 rfl))) (λC s H ex x hx _=>dj (ag (cA (aa 0 rfl)) (ag (dk (aa 0 rfl)) aq))))) (ag (bE hE) aq)) ⟨_,_,rfl,lf _,rfl⟩ ?_)
 rintro kv2 ⟨n2,e2⟩
 refine ak (bK (eF (d9 e6 (mD M.len (aa 3 rfl)) (aa 2 rfl)) (λ_=>eG (d9 e6 (mD M.len (aa 4 rfl)) (aa 2 rfl)))) ?_)
 have q1:=nB (n:=n) n1 e1
 have q2:=nB (n:=n) n2 e2
 rw [length_map] at q1 q2
 show (decide ((kv1.length:Int)=n)&&decide ((kv2.length:Int)=n))=nT rs p n
 rw [q1,q2];rfl
abbrev nY:Stmt:=top uW
abbrev xi:List Str:=["web","places","rows"]
theorem BR:aB xi ["web"] (ah nY):=fS0
noncomputable def k8 (v:aw):Bool:=
 if !fo v then false
 else if !((v.2.filter λ_=>true).map (gP v.1)).all id then false
 else if !(((ups (0 + 1) ((v.1.length:Int) - (0 + 1)).toNat).filter λ_=>true).map (called v.2)).all id then false
 else (((nums v.1).filter λ_=>true).map λx=>nT v.2 x.1 x.2).all id
def EL:bX:=λK ps T=>∃v:aw,ps=[⟨bO,v⟩]/\v.1.length<=1000/\v.2.length<=1000/\T=bR K aW (· =k8 v)
theorem Cf (M:bN mg)(C1:ay P w K mg base "has_web_form" 4 (aF EN K))(C2:ay P w K mg base "has_web_sizes" 1 (aF Ea K))(C3:ay P w K mg base "leads_within" 1 (aF Ep K))(C4:ay P w K mg base "is_called" 1 (aF EY K))(C5:ay P w K mg base "lies_on_ways" 2 (aF Ek K))(F:bI K "is_web" "is_web" nY f fd)(hm:mg "is_web"=some (.ref f))(hb:Binds K fd ["web"] []):ay P w K mg base "is_web" 5 (aF EL K):=by
 have nd:=BR.nd
 have C2:=C2.mono (show 1<=4 by decide)
 have C3:=C3.mono (show 1<=4 by decide)
 have C4:=C4.mono (show 1<=4 by decide)
 have C5:=C5.mono (show 2<=4 by decide)
 have nd1:List.Nodup [("row":Str),"places"]:=by decide
 have nd2:List.Nodup [("part":Str),"rows"]:=by decide
 have nd3:List.Nodup [("part":Str),"size","rows"]:=by decide
 obtain ⟨t1,hFP⟩:=M.firstPart
 refine bG F BR hm hb (λqs T ⟨_,e,_⟩=>by rw [e];rfl) (λcdv A outer s H E qs T hr hS=>?_)
 obtain ⟨v,rfl,l1,l2,rfl⟩:=hS
 change WS _ _ [.im bO v,.no,.no] _ _
 refine ai (bL (TW.tv (jh (bY (bV (bA C1 hr (ag (aa 0 rfl) aq) ⟨v,rfl,rfl⟩))) (λ_=>ig (bY (bV (bA C2 hr (ag (aa 0 rfl) aq) ⟨v,rfl,rfl⟩)))))) (λh=>?_) (λh=>bu ?_))
 ·have h:(!fo v)=true:=by simpa using h
  exact ak (bK cP (by rw [k8,if_pos h]))
 have h1:(!fo v)=false:=by simpa using h
 refine ai (bg 1 (d5 (r:=af ae) (r':=af ax) (aa 0 rfl)) (ai (bg 2 (bb (r:=af ae) (r':=af ax) (aa 0 rfl)) ?_)))
 refine ai (bL (bY (bV (fe M.all (aY.im (bF (own:=["row"]) (fr:=["places"]) (ix:=[1]) (p:=λ_=>true) (f:=gP v.1) (bj (so:=ah nY) (N0:=xi) rfl rfl (λx h=>aT h) (by decide +kernel)) (aR (aa 2 rfl))
  (λC s H ex=>aG 0) (λx=>⟨.inr rfl,.inl rfl,trivial⟩) (λC s H ex x hx=>cf) (λC s H ex x hx _=>bA C3 hr (ag (aa 1 rfl) (ag (aa 0 rfl) aq)) ⟨_,_,rfl,rfl⟩)))))) (λh=>?_) (λh=>bu ?_))
 ·exact ak (bK cP (by rw [k8,if_neg (by rw [h1];decide),if_pos h]))
 have h2:=h
 refine ai (bL (bY (bV (fe M.all (aY.im (bF (own:=["part"]) (fr:=["rows"]) (ix:=[2]) (p:=λ_=>true) (f:=called v.2) (bj (so:=ah nY) (N0:=xi) rfl rfl (λx h=>aT h) (by decide +kernel)) (nE M.range (cu (bE hFP) ar) (bQ M.len (aa 1 rfl)) ⟨by decide,by decide,by omega,by omega⟩)
  (λC s H ex=>aG 0) (λx=>⟨.inr rfl,.inl rfl,trivial⟩) (λC s H ex x hx=>cf) (λC s H ex x hx _=>bA C4 hr (ag (aa 1 rfl) (ag (aa 0 rfl) aq)) ⟨_,_,rfl,rfl⟩)))))) (λh=>?_) (λh=>bu ?_))
 ·exact ak (bK cP (by rw [k8,if_neg (by rw [h1];decide),if_neg (by rw [h2];decide),if_pos h]))
 have h3:=h
 refine ak (bK (fe M.all (aY.im (bF (own:=["part","size"]) (fr:=["rows"]) (ix:=[2]) (p:=λ_=>true) (f:=λx=>nT v.2 x.1 x.2) (bj (so:=ah nY) (N0:=xi) rfl rfl (λx h=>aT h) (by decide +kernel)) (iQ M.enumerate (aa 1 rfl))
  (λC s H ex=>fG 0 1) (λx=>⟨.inr rfl,.inr rfl,.inl rfl,trivial⟩) (λC s H ex x hx=>cf) (λC s H ex x hx _=>bA C5 hr (ag (aa 2 rfl) (ag (aa 0 rfl) (ag (aa 1 rfl) aq))) ⟨_,_,_,rfl,l2,rfl⟩)))) ?_)
 rw [k8,if_neg (by rw [h1];decide),if_neg (by rw [h2];decide),if_neg (by rw [h3];decide)]
end
section
variable {n:Int}{s:Pu}
structure cE (n:Int) (s:Pu):Prop where
 ne:1<=s.1.length
 le:s.1.length<=63
 bits:∀c∈s.1,intBits c<=2 ^ 20
 t0:0<=s.2
 t1:s.2<=n
theorem cE.mono {n':Int}(h:cE n s)(hn:n<=n'):cE n' s:=⟨h.ne,h.le,h.bits,h.t0,Int.le_trans h.t1 hn⟩
def sW (s:Pu):Nat:=(s.2 % (s.1.length:Int)).toNat
def gu (s:Pu):Int:=s.1.getD (sW s) 0
def ow (s:Pu):Int:=(gu s * 48271 + s.2 * s.2 * 69621 + 7) % 2147483647
def l7 (s:Pu):Int:=ow s * ow s % 2147483629
def fL (s:Pu)(b:Int):Int:=if 10 ^ 18<=gu s then gu s % b else l7 s * l7 s % 2147483587 % b
def gT (s:Pu)(b:Int):Pu:=if 10 ^ 18<=gu s then (s.1.set (sW s) (gu s / b),s.2 + 1) else (s.1,s.2 + 1)
theorem uG (h:cE n s):sW s < s.1.length:=by
 have h1:=Int.emod_lt_of_pos s.2 (show (0:Int) < (s.1.length:Int) by have:=h.ne;omega)
 have h2:=Int.emod_nonneg s.2 (show (s.1.length:Int)≠0 by have:=h.ne;omega)
 unfold sW;omega
theorem jZ (h:cE n s):gu s∈s.1:=by
 unfold gu
 rw [getD_eq_getElem?_getD,getElem?_eq_getElem (uG h)]
 exact getElem_mem _
end
section
variable {P:Program}{w:World}{K:PySem.W.Frag}{mg:Str->Option Value}{base:Heap}{f:Addr}{fd:FuncData}
abbrev yh:Stmt:=top n4
abbrev nDR:List Str:=["_law_purse_here","_law_out_of","_law_cells","_law_turn","_law_at","_law_cell","_law_number"]
theorem AG:aB nDR ["_law_purse_here","_law_out_of"] (ah yh):=fS0
def mZ:jF Pu:=λK s ps T=>∃b:Int,cE 1000000 s/\ps=[⟨ae,b⟩]/\0 < b/\b < 1073741824/\T=λs'=>bR K ae λy=>s'=gT s b/\y=fL s b
theorem DZ (M:bN mg)(F:bI K "_law_draw" "_law_draw" yh f fd)(hm:mg "_law_draw"=some (.ref f))(hb:Binds K fd ["_law_purse_here","_law_out_of"] []):ay P w K mg base "_law_draw" 1 (eN bo mZ K):=by
 have nd:=AG.nd
 refine ie F AG hm hb (λxs qs T ⟨b,_,e,_⟩=>by rw [e];rfl) (λcdv A outer s H E a b st qs T hr hS=>?_)
 obtain ⟨d,hP,rfl,b0,b1,rfl⟩:=hS
 have al:=uG hP
 have t0:=hP.t0;have t1:=hP.t1;have ne:=hP.ne;have le:=hP.le
 have hbc:=hP.bits _ (jZ hP)
 have m0:=Int.emod_nonneg st.2 (show (st.1.length:Int)≠0 by omega)
 have m1:=Int.emod_lt_of_pos st.2 (show (0:Int) < (st.1.length:Int) by omega)
 change WS _ _ [.ob (bo.bx a b st),.im ae d,.no,.no,.no,.no,.no] _ _
 refine ai (zg 0 2 3 rfl ?_)
 refine ai (bg 4 (iX (aa 3 rfl) (wN 0 2 M.len rfl rfl) (by omega)) ?_)
 refine ai (bg 5 (zo 0 2 (c:=gu st) (aa 4 rfl) rfl rfl (by rw [cw m0 m1];rfl)) ?_)
 refine ai (wu 0 (cu (aa 3 rfl) ar) rfl ?_)
 refine ai (bL (bc rH (aa 5 rfl) (z5 ar ar ⟨by decide,by decide,by decide⟩)) (λh=>?_) (λh=>bu ?_))
 ·have h:(10:Int) ^ 18<=gu st:=of_decide_eq_true h
  refine ai (sU 0 2 (n:=sW st) (qR (aa 5 rfl) (aa 1 rfl) ⟨b0,b1⟩) (aa 4 rfl) rfl rfl (dH m0 m1) ?_)
  refine ak (ia 0 (B:=bo) (iX (aa 5 rfl) (aa 1 rfl) b0) rfl ⟨?_,?_⟩)
  ·rw [gT,if_pos h]
  ·rw [fL,if_pos h]
 ·have h:¬(10:Int) ^ 18<=gu st:=of_decide_eq_false h
  have n0:0<=ow st:=Int.emod_nonneg _ (by decide)
  have n1:ow st < 2147483647:=Int.emod_lt_of_pos _ (by decide)
  have q0:0<=l7 st:=Int.emod_nonneg _ (by decide)
  have q1:l7 st < 2147483629:=Int.emod_lt_of_pos _ (by decide)
  refine ai (bg 6 (EV.cast (y':=ow st) (iX (cu (cu (iW (aa 5 rfl) ar (.of_right (by decide))) (iW (iW (aa 3 rfl) (aa 3 rfl) (j7 t0 (by omega))) ar (.of_right (by decide)))) ar) ar (by decide)) rfl) ?_)
  refine ai (bg 6 (EV.cast (y':=l7 st) (iX (iW (aa 6 rfl) (aa 6 rfl) (j7 n0 (by omega))) ar (by decide)) rfl) ?_)
  refine ak (ia 0 (B:=bo) (iX (iX (iW (aa 6 rfl) (aa 6 rfl) (j7 q0 (by omega))) ar (by decide)) (aa 1 rfl) b0) rfl ⟨?_,?_⟩)
  ·rw [gT,if_neg h]
  ·rw [fL,if_neg h]
theorem c7 {n:Int}{s:Pu}(h:cE n s)(hn:n < 1000000){b:Int}(b0:0 < b)(b1:b < 1073741824):∃y st,0<=y/\y < b/\cE (n + 1) st/\∀K,mZ K s [⟨ae,b⟩] (λs'=>bR K ae λz=>s'=st/\z=y):=by
 have hbc:=h.bits _ (jZ h)
 have t0:=h.t0;have t1:=h.t1;have ne:=h.ne;have le:=h.le
 refine ⟨fL s b,gT s b,?_,?_,?_,λK=>⟨b,h.mono (by omega),rfl,b0,b1,rfl⟩⟩
 ·unfold fL;split<;>exact Int.emod_nonneg _ (by omega)
 ·unfold fL;split<;>exact Int.emod_lt_of_pos _ b0
 ·unfold gT
  split
  ·refine ⟨by rw [length_set];exact ne,by rw [length_set];exact le,λc hc=>?_,by show 0<=s.2 + 1;omega,by show s.2 + 1<=n + 1;omega⟩
   rcases mem_or_eq_of_mem_set hc with z | rfl
   ·exact h.bits c z
   ·exact mQ b0 hbc
  ·exact ⟨ne,le,h.bits,by show 0<=s.2 + 1;omega,by show s.2 + 1<=n + 1;omega⟩
abbrev oN:Stmt:=top nJ
abbrev Et:List Str:=["_law_script","_law_cells"]
theorem Aj:aB Et ["_law_script"] (ah oN):=fS0
def EK:bX:=λK ps T=>∃ns:List Int,ps=[⟨ik,ns⟩]/\ns.length<=63/\(∀n∈ns,intBits n<=2 ^ 20)/\T=sk (cE 0)
theorem yp {α:Type}(xs:List α)(l h:Option Int):∀x∈cut xs l h,x∈xs:=by
 intro x hx
 unfold cut at hx
 first | exact List.mem_of_mem_drop (mem_of_mem_take hx) | exact mem_of_mem_take (List.mem_of_mem_drop hx) | (simp at hx;exact hx)
theorem Cz (F:bI K "_law_purse" "_law_purse" oN f fd)(hm:mg "_law_purse"=some (.ref f))(hb:Binds K fd ["_law_script"] []):ay P w K mg base "_law_purse" 1 (aF EK K):=by
 have nd:=Aj.nd
 refine bG F Aj hm hb (λqs T ⟨_,e,_⟩=>by rw [e];rfl) (λcdv A outer s H E qs T hr hS=>?_)
 obtain ⟨ns,rfl,hl,hbits,rfl⟩:=hS
 have hu:(A.deeper (envOfC "_law_purse" (ah oN) s.heap.objs.size f cdv)).units + 1 < cLine:=Nat.lt_of_le_of_lt (Nat.add_le_add_left (by decide:1<=64) _) hr.units
 change WS _ _ [.im ik ns,.no] _ _
 refine ai (cG 1 (sB (aa 0 rfl) qw (qN ar)) ?_)
 have cl:(cut ns none (some 63)).length<=63:=Nat.le_trans (jk _ _ _) hl
 have cb:∀n∈cut ns none (some 63),intBits n<=2 ^ 20:=λn hn=>hbits n (yp ns none (some 63) n hn)
 generalize cut ns none (some 63)=cs at cl cb
 have fin:∀xs:List Int,1<=xs.length->xs.length<=63->(∀n∈xs,intBits n<=2 ^ 20)->WS (eh eX P w K mg base Et "_law_purse" (ah oN) f cdv A outer s H E).gN ((cg oN).drop 2) [.im ik ns,.mu ae xs] (λ_=>False) (sk (cE 0)):=by
  intro xs h1 h2 h3
  refine WS.box 1 rfl λb=>?_
  exact ak (yJ 1 (aO (aN (wd 1 rfl) (aN (EV.Dg ar) bh)) (by show 2<=sizeLine;decide)) rfl ⟨h1,h2,h3,Int.le_refl _,Int.le_refl _⟩)
 refine ai (bL (TV.frz (pj (i:=1) rfl (aI (by omega))) (bc (nR (r:=ae) eq_int hu) (aa 1 rfl) (aY.im (aO bh (by decide))))) (λh=>?_) (λh=>bu ?_))
 ·refine ak (cG 1 (r:=ae) (aO (aN ar bh) (by show 1<=sizeLine;decide)) ?_)
  exact fin [0] (by simp) (by simp) (by intro n hn;rw [mem_singleton.mp hn];decide)
 ·have h:cs≠[]:=of_decide_eq_false h
  exact fin cs (by cases cs with
   | nil=>exact absurd rfl h
   | cons=>simp) cl cb
end
end K1
namespace Fc
open PySem PySem.Spec L2
open PyProof.Rows hiding St
theorem oE {α β:Type}{F:α->β->Prop}{v:α}{y:β}{vs:List α}{xs:List β}(k:Nat)(h:F v y)(p:PySem.Paired F vs xs):PySem.Paired F (cC k v vs) (cC k y xs):=by
 unfold cC
 exact ca (fh k p) (.cons h (gw k p))
def p8 (k:Int):Value->Bool
 | .int n _=>decide (n=k)
 | _=>false
section
variable {X:Cx}{Γ Γ1 Γ2 Γ3:Ga}{α β γ δ:Type}{N:Ga->Prop}{T:RT}
variable {x:Str}{p1 ap cp:Pos}{e:Expr}
theorem sJ (i:Nat){e1 e2:Expr}{pos:Pos}{r:aD α}{xs:List α}{y:α}{k:Int}(h1:EV X e1 Γ ae k Γ1)(h2:EV X e2 Γ1 r y Γ2)(hΓ:Γ[i]?=some (.mu r xs))(hΓ2:Γ2[i]?=some (.mu r xs))
 (k0:0<=k) (k1:k<=(xs.length:Int)) (hz:xs.length < sizeLine) (h:N (Γ2.set i (.mu r (cC k.toNat y xs))))
 (hN:X.N[i]?=some x:=by rfl) (hv:autoParam (bS X.env.scope x) vA1)
 (hd:Dg0 x:=by decide) (hcd:Cd0 x:=by decide)
 (hsw:swapsWith (.Call (.Attribute (.Name x p1) "insert" ap) [e1,e2] [] cp) none pos.line X.env=pure false:=by rfl)
 (hbase:attributeBase (.Name x p1) "insert" X.env (eval (.Name x p1) X.env)=eval (.Name x p1) X.env:=by rfl)
 (hfew:((backTo cp (starEach [e1,e2] X.env)).all (λx=> !x.1)&&(backToKw cp (keywordEach [] X.env)).all (λx=>x.1.isSome)
  &&decide ([e1,e2].length + ([]:List Keyword).length + (if ([]:List Keyword).isEmpty then 0 else 1) < 30))=true:=by rfl)
 (hline:(ap.endLine==cp.line)=true:=by rfl) (hs:starEach [e1,e2] X.env=(false,eval e1 X.env)::starEach [e2] X.env:=by rfl) (hs2:starEach [e2] X.env=(false,eval e2 X.env)::starEach [] X.env:=by rfl) (hpl:(backTo cp (starEach [e2] X.env)).any (·.1)=false:=by rfl):
 W1 X (.Expr (.Call (.Attribute (.Name x p1) "insert" ap) [e1,e2] [] cp) pos) Γ N T:=λσ H0 R0 H R E D dn dr=>by
 obtain ⟨a,vs,ea,ha,hR,pp⟩:=E.ent i _ hΓ
 refine sS (dR (fN PySem.F.plainAttrs_list PySem.F.slot_list_insert PySem.F.type_list_insert uP (aX hN hv hd hcd) (aL aE (aL aE bz hs2) hs) hbase hfew hline hs hpl) hsw) ?_
 refine ⟨.ref a,at_of ea,.inl ⟨rfl,_,aM.of ha⟩,h1 σ H0 R0 H R E _ λv1 H1 R1 E1 s1 q1=>h2 σ H0 R0 H1 R1 E1 _ λv2 H2 R2 E2 s2 q2=>?_⟩
 cases q1
 obtain ⟨a',vs',ea',ha',hR',pp'⟩:=E2.ent i _ hΓ2
 rw [ea] at ea';cases ea'
 refine ⟨a,vs',k,v2,rfl,rfl,ha',k0,by rw [pp'.length];exact k1,by rw [pp'.length];exact hz,?_⟩
 exact dn σ _ R2 _ (E2.upd (en:=.mu r (cC k.toNat y xs)) hΓ2 rfl ea hR' ⟨a,_,rfl,au,hR',oE _ q2 pp'⟩) (s1.trans s2) h
def Bu:V->List V->Hp->VK->Prop:=λx vs H Q=>∃(l:Addr) (ns:List Int) (k:Int) (j:Nat),x= .ref l/\vs=[.int k]/\H l=some (.lst (ns.map V.int))/\ns[j]?=some k/\(∀m,m < j->ns[m]?≠some k)/\Q (.int (j:Nat)) H
theorem wQ (hu:X.A.units + 1 < cLine):BU X "list.index" Bu:=by
 intro pins s σ H x vs v us Q I rx rv h
 obtain ⟨l,ns,k,j,rfl,rfl,hH,hj,hno,q⟩:=h
 cases rx
 obtain ⟨u,rfl,t,rfl⟩:=rv.one
 obtain ⟨hz,its,m,r1,hl,ho⟩:=I.jg hH
 have jl:j < ns.length:=(List.getElem?_eq_some_iff.mp hj).1
 have hl2:its.length=ns.length:=by rw [← hl,length_map]
 have at_:∀(n:Nat) (h1:n < its.length) (h2:n < ns.length),∃t',its[n]= .int ns[n] t':=λn h1 h2=>by
  obtain ⟨u,e1,t',e2⟩:=r1.get (show (ns.map V.int)[n]?=some (.int ns[n]) by rw [getElem?_map,getElem?_eq_getElem h2];rfl)
  rw [getElem?_eq_getElem h1] at e1
  exact ⟨t',(Option.some.inj e1).trans e2⟩
 refine call_meets PySem.F.slot_list_index ⟨_,ho,rfl⟩ PySem.F.entry_list_index (PySem.F.args_list_index_2 _ _)
  (SeqAt.list_indexAt l its.toArray m _ _ (.int k t) (p8 k) j (by simpa [hl2] using jl) ?_ ?_ ?_) ⟨ho,λw hw=>?_,?_⟩
 ·have:sizeLine < 2 ^ 63 - 1:=by decide
  rw [length_map] at hz
  omega
 ·obtain ⟨t',e⟩:=at_ j (by omega) jl
  show p8 k its[j]=true
  rw [e]
  rw [getElem?_eq_getElem jl] at hj
  exact decide_eq_true (Option.some.inj hj)
 ·intro n hn hnj
  obtain ⟨t',e⟩:=at_ n (by simpa using hn) (by omega)
  show p8 k its[n]=false
  rw [e]
  refine decide_eq_false λz=>hno n hnj ?_
  rw [getElem?_eq_getElem (by omega),z]
 ·have hw:w∈its:=by simpa using hw
  obtain ⟨n,hn,rfl⟩:=mem_iff_getElem.mp hw
  obtain ⟨t',e⟩:=at_ n hn (by omega)
  rw [e]
  intro prog w E Q hq
  refine wpAny_eqBool_int ?_
  rw [Bool.beq_eq_decide_eq];exact hq
 ·exact ⟨.int _,H,I.tok _,⟨_,rfl⟩,q⟩
theorem oS (i:Nat){ns:List Int}{k:Int}{j:Nat}(hu:X.A.units + 1 < cLine)(he:EV X e Γ ae k Γ1)(hΓ:Γ[i]?=some (.mu ae ns))(hΓ1:Γ1[i]?=some (.mu ae ns))(hj:ns[j]?=some k)(hno:∀m,m < j->ns[m]?≠some k)
 (hN:X.N[i]?=some x:=by rfl) (hv:autoParam (bS X.env.scope x) vA1)
 (hd:Dg0 x:=by decide) (hcd:Cd0 x:=by decide)
 (hbase:attributeBase (.Name x p1) "index" X.env (eval (.Name x p1) X.env)=eval (.Name x p1) X.env:=by rfl)
 (hfew:((backTo cp (starEach [e] X.env)).all (λx=> !x.1)&&(backToKw cp (keywordEach [] X.env)).all (λx=>x.1.isSome)
  &&decide ([e].length + ([]:List Keyword).length + (if ([]:List Keyword).isEmpty then 0 else 1) < 30))=true:=by rfl)
 (hline:(ap.endLine==cp.line)=true:=by rfl) (hs:starEach [e] X.env=(false,eval e X.env)::starEach [] X.env:=by rfl):EV X (.Call (.Attribute (.Name x p1) "index" ap) [e] [] cp) Γ ae (j:Nat) Γ1:=λσ H0 R0 H R E Q q=>by
 obtain ⟨a,vs,ea,ha,hR,pp⟩:=E.ent i _ hΓ
 refine eS (fN PySem.F.plainAttrs_list PySem.F.slot_list_index PySem.F.type_list_index (wQ hu) (aX hN hv hd hcd) (aL aE bz hs) hbase hfew hline hs rfl) ?_
 refine ⟨.ref a,at_of ea,.inl ⟨rfl,vs,aM.of ha⟩,he σ H0 R0 H R E _ λv H1 R1 E1 s1 e1=>?_⟩
 obtain ⟨a',vs',ea',ha',hR',pp'⟩:=E1.ent i _ hΓ1
 rw [ea] at ea';cases ea'
 cases e1
 exact ⟨a,ns,k,j,rfl,rfl,by rw [ha',dM pp'],hj,hno,q _ _ _ E1 s1 rfl⟩
def yN:V->List V->Hp->VK->Prop:=λx vs H Q=>∃(l:Addr) (ns:List Int) (k:Int) (j:Nat),x= .ref l/\vs=[.int k]/\H l=some (.lst (ns.map V.int))/\ns[j]?=some k/\(∀m,m < j->ns[m]?≠some k)/\Q .non (upd H l (.lst ((ns.eraseIdx j).map V.int)))
theorem vg:tG X "list.remove" yN:=by
 intro pins s σ H x vs v us Q I rx rv h
 obtain ⟨l,ns,k,j,rfl,rfl,hH,hj,hno,q⟩:=h
 cases rx
 obtain ⟨u,rfl,t,rfl⟩:=rv.one
 obtain ⟨hz,its,m,r1,hl,ho⟩:=I.jg hH
 have jl:j < ns.length:=(List.getElem?_eq_some_iff.mp hj).1
 have hl2:its.length=ns.length:=by rw [← hl,length_map]
 have at_:∀(n:Nat) (h1:n < its.length) (h2:n < ns.length),∃t',its[n]= .int ns[n] t':=λn h1 h2=>by
  obtain ⟨u,e1,t',e2⟩:=r1.get (show (ns.map V.int)[n]?=some (.int ns[n]) by rw [getElem?_map,getElem?_eq_getElem h2];rfl)
  rw [getElem?_eq_getElem h1] at e1
  exact ⟨t',(Option.some.inj e1).trans e2⟩
 refine call_meets PySem.F.slot_list_remove ⟨_,ho,rfl⟩ PySem.F.entry_list_remove (PySem.F.args_list_remove_2 _ _)
  (MeetsSeq.list_remove l its.toArray m (.int k t) (p8 k) (λw hw=>?_) j (by simpa [hl2] using jl) ?_ ?_ (by rw [size_toArray,hl2,← length_map (f:=V.int)];exact hz)) ⟨ho,?_⟩
 ·have hw:w∈its:=by simpa using hw
  obtain ⟨n,hn,rfl⟩:=mem_iff_getElem.mp hw
  obtain ⟨t',e⟩:=at_ n hn (by omega)
  rw [e]
  intro prog w A E s Q hq
  refine wpAny_eqBool_int ?_
  rw [Bool.beq_eq_decide_eq];exact hq
 ·obtain ⟨t',e⟩:=at_ j (by omega) jl
  show p8 k its[j]=true
  rw [e]
  rw [getElem?_eq_getElem jl] at hj
  exact decide_eq_true (Option.some.inj hj)
 ·intro n hn hnj
  obtain ⟨t',e⟩:=at_ n (by simpa using hn) (by omega)
  show p8 k its[n]=false
  rw [e]
  refine decide_eq_false λz=>hno n hnj ?_
  rw [getElem?_eq_getElem (by omega),z]
 ·refine ⟨.non,_,I.ot (its':=its.eraseIdx j) hH ho ?_ ?_ ?_,rfl,q⟩
  ·rw [eraseIdxIfInBounds_toArray]
  ·have key:∀(ns:List Int) (ws:List Value) (j:Nat),aK (ns.map V.int) ws->aK ((ns.eraseIdx j).map V.int) (ws.eraseIdx j):=by
    intro ns
    induction ns with
    | nil=>intro ws j h;cases h;exact .nil
    | cons a ns ih=>
      intro ws j h
      cases h with
      | cons h1 t=>
        cases j with
        | zero=>exact t
        | succ j=>exact .cons h1 (ih _ j t)
   exact key ns its j r1
  ·rw [length_map]
   rw [length_map] at hz
   exact Nat.le_trans (List.length_eraseIdx_le ns j) hz
theorem vZ (i:Nat){pos:Pos}{ns:List Int}{k:Int}{j:Nat}(he:EV X e Γ ae k Γ1)(hΓ:Γ[i]?=some (.mu ae ns))(hΓ1:Γ1[i]?=some (.mu ae ns))(hj:ns[j]?=some k)(hno:∀m,m < j->ns[m]?≠some k)(h:N (Γ1.set i (.mu ae (ns.eraseIdx j))))
 (hN:X.N[i]?=some x:=by rfl) (hv:autoParam (bS X.env.scope x) vA1)
 (hd:Dg0 x:=by decide) (hcd:Cd0 x:=by decide)
 (hsw:swapsWith (.Call (.Attribute (.Name x p1) "remove" ap) [e] [] cp) none pos.line X.env=pure false:=by rfl)
 (hbase:attributeBase (.Name x p1) "remove" X.env (eval (.Name x p1) X.env)=eval (.Name x p1) X.env:=by rfl)
 (hfew:((backTo cp (starEach [e] X.env)).all (λx=> !x.1)&&(backToKw cp (keywordEach [] X.env)).all (λx=>x.1.isSome)
  &&decide ([e].length + ([]:List Keyword).length + (if ([]:List Keyword).isEmpty then 0 else 1) < 30))=true:=by rfl)
 (hline:(ap.endLine==cp.line)=true:=by rfl) (hs:starEach [e] X.env=(false,eval e X.env)::starEach [] X.env:=by rfl):W1 X (.Expr (.Call (.Attribute (.Name x p1) "remove" ap) [e] [] cp) pos) Γ N T:=λσ H0 R0 H R E D dn dr=>by
 obtain ⟨a,vs,ea,ha,hR,pp⟩:=E.ent i _ hΓ
 refine sS (dR (fN PySem.F.plainAttrs_list PySem.F.slot_list_remove PySem.F.type_list_remove vg (aX hN hv hd hcd) (aL aE bz hs) hbase hfew hline hs rfl) hsw) ?_
 refine ⟨.ref a,at_of ea,.inl ⟨rfl,vs,aM.of ha⟩,he σ H0 R0 H R E _ λv H1 R1 E1 s1 e1=>?_⟩
 obtain ⟨a',vs',ea',ha',hR',pp'⟩:=E1.ent i _ hΓ1
 rw [ea] at ea';cases ea'
 cases e1
 refine ⟨a,ns,k,j,rfl,rfl,by rw [ha',dM pp'],hj,hno,?_⟩
 exact dn σ _ R1 _ (E1.upd (en:=.mu ae (ns.eraseIdx j)) hΓ1 rfl ea hR' ⟨a,_,rfl,au,hR',paired_ints _⟩) s1 h
theorem EV.two {r:aD α}{x y:α}(h:EV X e Γ (af r) [x,y] Γ1):EV X e Γ (fP r) (x,y) Γ1:=EV.rep h λ_ _ q=>q
end
section
variable {X:Cx}{Γ Γ1 Γ2 Γ3:Ga}{α β γ δ:Type}{N:Ga->Prop}{T:RT}
theorem yB {a b:Expr}{rest:List Expr}{pos:Pos}{y:Bool}(ha:TV X a Γ true Γ1)(hb:TW X (.BoolOp .And (b::rest) pos) Γ1 y Γ2):TW X (.BoolOp .And (a::b::rest) pos) Γ y Γ2:=λσ H0 R0 H R E Q q=>
 wS (tN i5 xT) (ha σ H0 R0 H R E _ λH1 R1 E1 s1=>ite_tt (hb σ H0 R0 H1 R1 E1 Q λH2 R2 E2 s2=>q H2 R2 E2 (s1.trans s2)))
theorem vM {a:Expr}{pos:Pos}{x:Bool}(ha:TV X a Γ x Γ1):TW X (.BoolOp .And [a] pos) Γ x Γ1:=λσ H0 R0 H R E Q q=>wS (rq i5) (ha σ H0 R0 H R E Q q)
end
end Fc
namespace K1
open PySem L2 Fc
open PySem.Spec hiding Row
open PyProof.Rows hiding St
open PySem.Builtin.Int (intBits)
section
variable {a b n:Int}{ties:List (Int×Int)}
def kL (t:Int×Int):Int×Int:=(t.2,t.1)
theorem fI {es:List (Int×Int)}:(a,b)∈es.map kL↔(b,a)∈es:=by
 rw [mem_map]
 constructor
 ·rintro ⟨⟨x,y⟩,h,e⟩
  simp only [kL,Prod.mk.injEq] at e
  rw [← e.1,← e.2];exact h
 ·intro h;exact ⟨(b,a),h,rfl⟩
structure eo (many:Int) (ties:List (Int×Int)):Prop where
 m2:2<=many
 bd:∀t∈ties,0<=t.1/\t.1 < many/\t.1≠1/\0<=t.2/\t.2 < many
 fw:∀k,0<=k->k < many->Reach ties 0 k
 bw:∀k,0<=k->k < many->Reach (ties.map kL) 1 k
theorem Reach.mono {es es':List (Int×Int)}{s:Int}(h:∀t∈es,t∈es'){k:Int}(r:Reach es s k):Reach es' s k:=Reach.sub .base (λ_ _ ha hab=>.step ha (h _ hab)) r
theorem eo.more (h:eo n ties)(a0:0<=a)(a1:a < n)(an:a≠1)(b0:0<=b)(b1:b < n):eo n (ties++[(a,b)]):=by
 refine ⟨h.m2,λt ht=>?_,λk k0 k1=>Reach.mono (λt ht=>mem_append_left _ ht) (h.fw k k0 k1),λk k0 k1=>Reach.mono (λt ht=>?_) (h.bw k k0 k1)⟩
 ·rcases mem_append.mp ht with z | z
  ·exact h.bd t z
  ·rw [mem_singleton.mp z];exact ⟨a0,a1,an,b0,b1⟩
 ·rw [map_append];exact mem_append_left _ ht
theorem eo.split (h:eo n ties){i:Nat}(hi:ties[i]?=some (a,b)):eo (n + 1) (ties.set i (a,n)++[(n,b)]):=by
 have il:=(List.getElem?_eq_some_iff.mp hi).1
 have hm:=h.m2
 have hab:=h.bd _ (mem_of_getElem? hi)
 have e1:(a,n)∈ties.set i (a,n)++[(n,b)]:=mem_append_left _ (mem_iff_getElem?.mpr ⟨i,getElem?_set_self il⟩)
 have e2:(n,b)∈ties.set i (a,n)++[(n,b)]:=mem_append_right _ (by simp)
 have keep:∀t∈ties,t=(a,b)∨t∈ties.set i (a,n)++[(n,b)]:=λt ht=>by
  obtain ⟨j,hj⟩:=mem_iff_getElem?.mp ht
  by_cases e:i=j
  ·subst e;rw [hi] at hj;cases hj;exact .inl rfl
  ·exact .inr (mem_append_left _ (mem_iff_getElem?.mpr ⟨j,by rw [getElem?_set_ne e];exact hj⟩))
 have fw:∀{k:Int},Reach ties 0 k->Reach (ties.set i (a,n)++[(n,b)]) 0 k:=λr=>Reach.sub .base (λx y hx hxy=>by
  rcases keep _ hxy with z | z
  ·cases z;exact .step (.step hx e1) e2
  ·exact .step hx z) r
 have bw:∀{k:Int},Reach (ties.map kL) 1 k->Reach ((ties.set i (a,n)++[(n,b)]).map kL) 1 k:=λr=>Reach.sub .base (λx y hx hxy=>by
  rcases keep _ (fI.mp hxy) with z | z
  ·cases z;exact .step (.step hx (fI.mpr e2)) (fI.mpr e1)
  ·exact .step hx (fI.mpr z)) r
 refine ⟨by omega,λt ht=>?_,λk k0 k1=>?_,λk k0 k1=>?_⟩
 ·rcases mem_append.mp ht with z | z
  ·rcases mem_or_eq_of_mem_set z with z | z
   ·have:=h.bd t z;omega
   ·rw [z];exact ⟨hab.1,by show a < n + 1;omega,hab.2.2.1,by show 0<=n;omega,by show n < n + 1;omega⟩
  ·rw [mem_singleton.mp z];exact ⟨by show 0<=n;omega,by show n < n + 1;omega,by show n≠1;omega,hab.2.2.2.1,by show b < n + 1;omega⟩
 ·by_cases e:k=n
  ·rw [e];exact .step (fw (h.fw a hab.1 hab.2.1)) e1
  ·exact fw (h.fw k k0 (by omega))
 ·by_cases e:k=n
  ·rw [e];exact .step (bw (h.bw b hab.2.2.2.1 hab.2.2.2.2)) (fI.mpr e2)
  ·exact bw (h.bw k k0 (by omega))
theorem eo.ren (h:eo n ties){g:Int->Int}(gb:∀k,0<=k->k < n->0<=g k/\g k < n)(gs:∀k,0<=k->k < n->∃j,0<=j/\j < n/\g j=k)(g0:g 0=0)(g1:g 1=1)(gi:∀k,0<=k->k < n->g k=1->k=1):eo n (ties.map λ(t:Int×Int)=>(g t.1,g t.2)):=by
 have fw:∀{k:Int},Reach ties 0 k->Reach (ties.map λ(t:Int×Int)=>(g t.1,g t.2)) 0 (g k):=λr=>by
  refine Reach.sub (P:=λk=>Reach (ties.map λ(t:Int×Int)=>(g t.1,g t.2)) 0 (g k)) (by rw [g0];exact .base) (λx y hx hxy=>.step hx (mem_map.mpr ⟨_,hxy,rfl⟩)) r
 have bw:∀{k:Int},Reach (ties.map kL) 1 k->Reach ((ties.map λ(t:Int×Int)=>(g t.1,g t.2)).map kL) 1 (g k):=λr=>by
  refine Reach.sub (P:=λk=>Reach ((ties.map λ(t:Int×Int)=>(g t.1,g t.2)).map kL) 1 (g k)) (by rw [g1];exact .base) (λx y hx hxy=>.step hx (fI.mpr (mem_map.mpr ⟨_,fI.mp hxy,rfl⟩))) r
 refine ⟨h.m2,λt ht=>?_,λk k0 k1=>?_,λk k0 k1=>?_⟩
 ·obtain ⟨u,hu,rfl⟩:=mem_map.mp ht
  have b:=h.bd u hu
  have b1:=gb u.1 b.1 b.2.1
  have b2:=gb u.2 b.2.2.2.1 b.2.2.2.2
  exact ⟨b1.1,b1.2,λe=>b.2.2.1 (gi u.1 b.1 b.2.1 e),b2.1,b2.2⟩
 ·obtain ⟨j,j0,j1,rfl⟩:=gs k k0 k1
  exact fw (h.fw j j0 j1)
 ·obtain ⟨j,j0,j1,rfl⟩:=gs k k0 k1
  exact bw (h.bw j j0 j1)
structure jo (n:Nat) (xs:List Int):Prop where
 len:xs.length=n
 nd:xs.Nodup
 mem:∀k,k∈xs↔0<=k/\k < (n:Int)
theorem js {α:Type}{k:Nat}{y:α}{xs:List α}:(cC k y xs).Perm (y::xs):=by
 unfold cC
 have:=List.perm_middle (a:=y) (l₁:=xs.take k) (l₂:=xs.drop k)
 rwa [List.take_append_drop] at this
theorem jo.ins {n:Nat}{xs:List Int}(h:jo n xs)(k:Nat):jo (n + 1) (cC k (n:Int) xs):=by
 have p:=js (k:=k) (y:=(n:Int)) (xs:=xs)
 refine ⟨by rw [p.length_eq,length_cons,h.len],p.nodup_iff.mpr (nodup_cons.mpr ⟨λz=>by have:=(h.mem _).mp z;omega,h.nd⟩),λj=>?_⟩
 rw [p.mem_iff,mem_cons,h.mem]
 omega
end
section
variable {P:Program}{w:World}{K:PySem.W.Frag}{mg:Str->Option Value}{base:Heap}{f:Addr}{fd:FuncData}
abbrev xH:Stmt:=top nG
abbrev nOR:List Str:=["_law_purse_here","_law_many","_law_found","_law_k"]
theorem zH:aB nOR ["_law_purse_here","_law_many"] (ah xH):=fS0
def cH (s:Pu):Nat->Pu×List Int
 | 0=>(s,[])
 | k + 1=>(gT (cH s k).1 ((k:Int) + 1),cC (fL (cH s k).1 ((k:Int) + 1)).toNat (k:Int) (cH s k).2)
theorem iD {n:Int}{s:Pu}(h:cE n s):∀m:Nat,n + m<=200000->cE (n + m) (cH s m).1/\jo m (cH s m).2
 | 0,_=>⟨h.mono (by omega),rfl,nodup_nil,λk=>by simp [cH]<;>omega⟩
 | k + 1,hk=>by
   have hn0:0<=n:=Int.le_trans h.t0 h.t1
   obtain ⟨h1,h2⟩:=iD h k (by omega)
   refine ⟨?_,h2.ins _⟩
   obtain ⟨y,st,_,_,h3,h4⟩:=c7 h1 (by omega) (b:=(k:Int) + 1) (by omega) (by omega)
   have hbc:=h1.bits _ (jZ h1)
   show cE _ (gT (cH s k).1 ((k:Int) + 1))
   have t0:=h1.t0;have t1:=h1.t1;have ne:=h1.ne;have le:=h1.le
   unfold gT
   split
   ·refine ⟨by rw [length_set];exact ne,by rw [length_set];exact le,λc hc=>?_,by show 0<=(cH s k).1.2 + 1;omega,by show (cH s k).1.2 + 1<=_;omega⟩
    rcases mem_or_eq_of_mem_set hc with z | rfl
    ·exact h1.bits c z
    ·exact mQ (by omega) hbc
   ·exact ⟨ne,le,h1.bits,by show 0<=(cH s k).1.2 + 1;omega,by show (cH s k).1.2 + 1<=_;omega⟩
def xJ:jF Pu:=λK s ps T=>∃(n:Int) (m:Nat),cE n s/\0<=n/\n<=100000/\ps=[⟨ae,(m:Int)⟩]/\m<=100/\T=λs'=>bR K (af ae) λxs=>s'=(cH s m).1/\xs=(cH s m).2
theorem qG {n:Int}{s:Pu}(h:cE n s)(n0:0<=n)(hn:n<=100000){m:Nat}(hm:m<=100):∃xs st,cE (n + m) st/\jo m xs/\∀K,xJ K s [⟨ae,(m:Int)⟩] (λs'=>bR K (af ae) λz=>s'=st/\z=xs):=by
 obtain ⟨h1,h2⟩:=iD h m (by omega)
 exact ⟨_,_,h1,h2,λK=>⟨n,m,h,n0,hn,rfl,hm,rfl⟩⟩
theorem DB (M:bN mg)(CD:ay P w K mg base "_law_draw" 1 (eN bo mZ K))(F:bI K "_law_order" "_law_order" xH f fd)(hm:mg "_law_order"=some (.ref f))(hb:Binds K fd ["_law_purse_here","_law_many"] []):ay P w K mg base "_law_order" 2 (eN bo xJ K):=by
 have nd:=zH.nd
 refine ie F zH hm hb (λxs qs T ⟨_,_,_,_,_,e,_⟩=>by rw [e];rfl) (λcdv A outer s H E a b st qs T hr hS=>?_)
 obtain ⟨n,m,hP,n0,n1,rfl,hm,rfl⟩:=hS
 change WS _ _ [.ob (bo.bx a b st),.im ae (m:Int),.no,.no] _ _
 refine ai (cG 2 (r:=ae) (aO bh (by decide)) ?_)
 refine ai (cv (r:=ae) (λi Γ=>∃v3,Γ=[.ob (bo.bx a b (cH st i).1),.im ae (m:Int),.mu ae (cH st i).2,v3])
  (fD M.range (aa 1 rfl) ⟨by omega,by omega⟩) (aG 3) ⟨_,rfl⟩ ?_ ?_)
 ·rintro i x Γ hx ⟨v3,rfl⟩
  obtain ⟨hi,rfl⟩:=iT hx
  obtain ⟨hP1,hX⟩:=iD hP i (by omega)
  have hl:=hX.len
  have e0:(0:Int) + (i:Int)=(i:Int):=by omega
  have hb1:0<=fL (cH st i).1 ((i:Int) + 1)/\fL (cH st i).1 ((i:Int) + 1) < (i:Int) + 1:=by
   unfold fL;split<;>exact ⟨Int.emod_nonneg _ (by omega),Int.emod_lt_of_pos _ (by omega)⟩
  refine ak (sJ 2 (k:=fL (cH st i).1 ((i:Int) + 1)) (cj 0 (st:=gT (cH st i).1 ((i:Int) + 1)) CD hr (ag (EV.cast (y':=(i:Int) + 1) (cu (aa 3 rfl) ar) (by omega)) aq) rfl rfl ⟨_,hP1.mono (by omega),rfl,by omega,by omega,rfl⟩) (EV.cast (y':=(i:Int)) (aa 3 rfl) e0) rfl rfl hb1.1 (by omega) (Nat.lt_of_le_of_lt (show (cH st i).2.length<=1000 by omega) (by decide)) ?_)
  exact ⟨_,rfl⟩
 ·rintro Γ ⟨v3,rfl⟩
  rw [aC]
  obtain ⟨hP1,hX⟩:=iD hP m (by omega)
  have hl:=hX.len
  rw [show ((m:Int)).toNat=m by omega]
  exact ak (ia 0 (B:=bo) (fM 2 rfl (aI (by omega))) rfl ⟨rfl,rfl⟩)
end
section
variable {i:Nat}{loose:Bool}{od:List Int}{α:Type}{y:α}{xs:List α}{x:Int}
theorem oT {k:Nat}(h:i < k)(hk:k<=xs.length):(cC k y xs)[i]?=xs[i]?:=by
 unfold cC
 rw [getElem?_append_left (by rw [length_take];omega),List.getElem?_take_of_lt h]
theorem n5 {k:Nat}(hk:k<=xs.length):(cC k y xs)[k]?=some y:=by
 unfold cC
 rw [getElem?_append_right (by rw [length_take];omega),length_take,Nat.min_eq_left hk,Nat.sub_self];rfl
theorem pC {k:Nat}(h:k<=i)(hk:k<=xs.length):(cC k y xs)[i + 1]?=xs[i]?:=by
 unfold cC
 rw [getElem?_append_right (by rw [length_take];omega),length_take,Nat.min_eq_left hk,show i + 1 - k=(i - k) + 1 by omega,List.getElem?_cons_succ,List.getElem?_drop]
 congr 1;omega
structure fY (loose:Bool) (od:List Int) (rows:List (Int×Int)):Prop where
 pm:jo od.length od
 l2:2<=od.length
 first:od[0]?=some 0
 last:od[od.length - 1]?=some 1
 good:eo od.length rows
 up:loose=true->∀t∈rows,∃(i j:Nat),od[i]?=some t.1/\od[j]?=some t.2/\i < j
theorem fY.base (loose:Bool):fY loose [0,1] [(0,1)]:=by
 refine ⟨⟨rfl,by decide,λk=>by simp;omega⟩,by decide,rfl,rfl,⟨by decide,λt ht=>?_,λk k0 k1=>?_,λk k0 k1=>?_⟩,λ_ t ht=>?_⟩
 ·rw [mem_singleton.mp ht];decide
 ·have k1:k < 2:=k1
  rcases (show k=0∨k=1 by omega) with rfl | rfl
  ·exact .base
  ·exact .step .base (by simp)
 ·have k1:k < 2:=k1
  rcases (show k=0∨k=1 by omega) with rfl | rfl
  ·exact .step (a:=1) .base (by simp [kL])
  ·exact .base
 ·rw [mem_singleton.mp ht];exact ⟨0,1,rfl,rfl,by decide⟩
theorem fY.ne1 {rows:List (Int×Int)}(h:fY loose od rows)(hi:od[i]?=some x)(hl:i + 1 < od.length):x≠1:=λe=>by
 subst e
 have a:=(List.getElem?_eq_some_iff.mp hi)
 have b:=(List.getElem?_eq_some_iff.mp h.last)
 have:=(getElem_inj (h₀:=a.1) (h₁:=b.1) h.pm.nd).mp (a.2.trans b.2.symm)
 omega
theorem fY.bd {rows:List (Int×Int)}(h:fY loose od rows)(hi:od[i]?=some x):0<=x/\x < (od.length:Int):=(h.pm.mem x).mp (mem_of_getElem? hi)
theorem fY.more {rows:List (Int×Int)}(h:fY loose od rows){j:Nat}{y:Int}(hi:od[i]?=some x)(hj:od[j]?=some y)(hl:i + 1 < od.length)(hij:loose=true->i < j):fY loose od (rows++[(x,y)]):=by
 have bx:=h.bd hi
 have by_:=h.bd hj
 refine ⟨h.pm,h.l2,h.first,h.last,h.good.more bx.1 bx.2 (h.ne1 hi hl) by_.1 by_.2,λe t ht=>?_⟩
 rcases mem_append.mp ht with z | z
 ·exact h.up e t z
 ·rw [mem_singleton.mp z];exact ⟨i,j,hi,hj,hij e⟩
theorem fY.split {loose:Bool}{od:List Int}{rows:List (Int×Int)}(h:fY loose od rows){r q:Nat}{x y:Int}(hr:rows[r]?=some (x,y))(q0:1<=q)(q1:q + 1<=od.length)(hq:loose=true->∃(i j:Nat),od[i]?=some x/\od[j]?=some y/\i < q/\q<=j):
 fY loose (cC q (od.length:Int) od) (rows.set r (x,(od.length:Int))++[((od.length:Int),y)]):=by
 have ln:(cC q (od.length:Int) od).length=od.length + 1:=by rw [js.length_eq];rfl
 have l2:=h.l2
 have sh:∀{i:Nat} {z:Int},od[i]?=some z->(cC q (od.length:Int) od)[if i < q then i else i + 1]?=some z:=λ{i z} hi=>by
  split
  ·rename_i hl;rw [oT hl (by omega)];exact hi
  ·rename_i hl;rw [pC (by omega) (by omega)];exact hi
 refine ⟨by rw [ln];exact h.pm.ins q,by omega,by rw [oT (by omega) (by omega)];exact h.first,?_,by rw [ln];exact h.good.split hr,λe t ht=>?_⟩
 ·rw [ln,show od.length + 1 - 1=(od.length - 1) + 1 by omega,pC (by omega) (by omega)];exact h.last
 ·obtain ⟨i,j,hi,hj,iq,qj⟩:=hq e
  rcases mem_append.mp ht with z | z
  ·rcases mem_or_eq_of_mem_set z with z | z
   ·obtain ⟨i',j',a,b,c⟩:=h.up e t z
    exact ⟨_,_,sh a,sh b,by split<;>split<;>omega⟩
   ·rw [z];exact ⟨_,q,sh hi,n5 (by omega),by rw [if_pos iq];exact iq⟩
  ·rw [mem_singleton.mp z]
   exact ⟨q,_,n5 (by omega),sh hj,by rw [if_neg (by omega)];omega⟩
structure kc (loose:Bool) (m:Nat) (size:Int) (ties:List (Int×Int)):Prop where
 good:eo size ties
 le:size<=16
 len:ties.length=m + 1
 up:loose=true->∃rk:Int->Int,∀t∈ties,rk t.1 < rk t.2
def gC (names:List Int)(k:Int):Int:=names.getD k.toNat 0
theorem fY.fin {rows:List (Int×Int)}(h:fY loose od rows){xs:List Int}(hx:jo (od.length - 2) xs)(h16:od.length<=16){m:Nat}(hm:rows.length=m + 1):kc loose m od.length (rows.map λ(t:Int×Int)=>(gC ([0,1]++xs.map (2 + ·)) t.1,gC ([0,1]++xs.map (2 + ·)) t.2)):=by
 have l2:=h.l2
 have hl:=hx.len
 have n0:gC ([0,1]++xs.map (2 + ·)) 0=0:=rfl
 have n1:gC ([0,1]++xs.map (2 + ·)) 1=1:=rfl
 have n2:∀k:Nat,k < xs.length->gC ([0,1]++xs.map (2 + ·)) ((k:Int) + 2)=2 + xs.getD k 0:=λk hk=>by
  unfold gC
  rw [show ((k:Int) + 2).toNat=k + 2 by omega]
  show ((xs.map (2 + ·)).getD k 0)=_
  rw [getD_eq_getElem?_getD,getD_eq_getElem?_getD,getElem?_map,getElem?_eq_getElem hk];rfl
 have xb:∀k:Nat,k < xs.length->0<=xs.getD k 0/\xs.getD k 0 < ((od.length - 2:Nat):Int):=λk hk=>(hx.mem _).mp (by rw [getD_eq_getElem?_getD,getElem?_eq_getElem hk];exact getElem_mem _)
 have cs:∀k:Int,0<=k->k < (od.length:Int)->k=0∨k=1∨∃j:Nat,j < xs.length/\k=(j:Int) + 2:=λk k0 k1=>by
  rcases (show k=0∨k=1∨2<=k by omega) with z | z | z
  ·exact .inl z
  ·exact .inr (.inl z)
  ·exact .inr (.inr ⟨(k - 2).toNat,by omega,by omega⟩)
 have inj:∀k j:Int,0<=k->k < (od.length:Int)->0<=j->j < (od.length:Int)->gC ([0,1]++xs.map (2 + ·)) k=gC ([0,1]++xs.map (2 + ·)) j->k=j:=by
  intro k j k0 k1 j0 j1 e
  rcases cs k k0 k1 with rfl | rfl | ⟨a,ha,rfl⟩<;>rcases cs j j0 j1 with rfl | rfl | ⟨b,hb,rfl⟩<;>simp only [n0,n1] at e<;>try rfl
  ·exact absurd e (by decide)
  ·rw [n2 b hb] at e;have:=xb b hb;omega
  ·exact absurd e (by decide)
  ·rw [n2 b hb] at e;have:=xb b hb;omega
  ·rw [n2 a ha] at e;have:=xb a ha;omega
  ·rw [n2 a ha] at e;have:=xb a ha;omega
  ·rw [n2 a ha,n2 b hb] at e
   have e:xs.getD a 0=xs.getD b 0:=by omega
   rw [getD_eq_getElem?_getD,getD_eq_getElem?_getD,getElem?_eq_getElem ha,getElem?_eq_getElem hb] at e
   have:=(getElem_inj (h₀:=ha) (h₁:=hb) hx.nd).mp e
   omega
 refine ⟨h.good.ren (λk k0 k1=>?_) (λk k0 k1=>?_) n0 n1 (λk k0 k1 e=>inj k 1 k0 k1 (by omega) (by omega) (by rw [e,n1])),by omega,by rw [length_map];exact hm,λe=>?_⟩
 ·rcases cs k k0 k1 with rfl | rfl | ⟨a,ha,rfl⟩
  ·rw [n0];omega
  ·rw [n1];omega
  ·rw [n2 a ha];have:=xb a ha;omega
 ·rcases cs k k0 k1 with rfl | rfl | ⟨a,ha,rfl⟩
  ·exact ⟨0,by omega,by omega,n0⟩
  ·exact ⟨1,by omega,by omega,n1⟩
  ·have:(a:Int)∈xs:=(hx.mem _).mpr (by omega)
   obtain ⟨j,hj,e⟩:=mem_iff_getElem.mp this
   refine ⟨(j:Int) + 2,by omega,by omega,?_⟩
   rw [n2 j hj,getD_eq_getElem?_getD,getElem?_eq_getElem hj]
   show 2 + xs[j]=_
   omega
 ·classical
  -- the rank of a name:where the place stands in the order
  let g:=gC ([0,1]++xs.map (2 + ·))
  refine ⟨λz=>if hz:∃k:Int,0<=k/\k < (od.length:Int)/\g k=z then ((od.idxOf hz.choose:Nat):Int) else 0,λt ht=>?_⟩
  obtain ⟨u,hu,rfl⟩:=mem_map.mp ht
  have b:=h.good.bd u hu
  obtain ⟨i,j,hi,hj,hij⟩:=h.up e u hu
  have rk:∀k:Int,0<=k->k < (od.length:Int)->∀n:Nat,od[n]?=some k->(if hz:∃k':Int,0<=k'/\k' < (od.length:Int)/\g k'=g k then ((od.idxOf hz.choose:Nat):Int) else 0)=n:=by
   intro k k0 k1 n hn
   have hz:∃k':Int,0<=k'/\k' < (od.length:Int)/\g k'=g k:=⟨k,k0,k1,rfl⟩
   rw [dif_pos hz]
   have hc:=hz.choose_spec
   have:hz.choose=k:=inj _ _ hc.1 hc.2.1 k0 k1 hc.2.2
   rw [this]
   have nl:=(List.getElem?_eq_some_iff.mp hn)
   have:=List.Nodup.idxOf_getElem h.pm.nd n nl.1
   rw [nl.2] at this
   rw [this]
  show (if hz:_ then _ else _) < (if hz:_ then _ else _)
  rw [rk u.1 b.1 b.2.1 i hi,rk u.2 b.2.2.2.1 b.2.2.2.2 j hj]
  omega
end
section
variable {P:Program}{w:World}{K:PySem.W.Frag}{mg:Str->Option Value}{base:Heap}{f:Addr}{fd:FuncData}
abbrev jS:Stmt:=top ou
abbrev vf:List Str:=["_law_purse_here","_law_many","_law_loose","_law_order_here","_law_rows","_law_k","_law_size","_law_at","_law_one","_law_other","_law_low","_law_names"]
theorem Ad:aB vf ["_law_purse_here","_law_many","_law_loose"] (ah jS):=fS0
def Ec:jF Pu:=λK s ps T=>∃(n:Int) (m:Nat) (loose:Bool),cE n s/\n<=10000/\ps=[⟨ae,(m:Int)⟩,⟨aW,loose⟩]/\m<=30/\T=λs'=>bR K (av ae (af (fP ae))) λz=>cE (n + 200) s'/\kc loose m z.1 z.2
theorem D3 (M:bN mg)(CD:ay P w K mg base "_law_draw" 1 (eN bo mZ K))(CO:ay P w K mg base "_law_order" 2 (eN bo xJ K))(F:bI K "_law_part" "_law_part" jS f fd)(hm:mg "_law_part"=some (.ref f))(hb:Binds K fd ["_law_purse_here","_law_many","_law_loose"] []):ay P w K mg base "_law_part" 3 (eN bo Ec K):=by
 have nd:=Ad.nd
 have nd1:List.Nodup [("_law_place":Str)]:=by decide
 have nd2:List.Nodup [("_law_one":Str),"_law_other","_law_names"]:=by decide
 have CD:=CD.mono (show 1<=2 by decide)
 refine ie F Ad hm hb (λxs qs T ⟨_,_,_,_,_,e,_⟩=>by rw [e];rfl) (λcdv A outer s H E a b st qs T hr hS=>?_)
 obtain ⟨n,m,loose,hP,n1,rfl,hm,rfl⟩:=hS
 have hu:(A.deeper (envOfC "_law_part" (ah jS) s.heap.objs.size f cdv)).units + 1 < cLine:=Nat.lt_of_le_of_lt (Nat.add_le_add_left (by decide:1<=64) _) hr.units
 have n0:0<=n:=Int.le_trans hP.t0 hP.t1
 change WS _ _ [.ob (bo.bx a b st),.im ae (m:Int),.im aW loose,.no,.no,.no,.no,.no,.no,.no,.no,.no] _ _
 refine ai (cG 3 (r:=ae) (aO (aN ar (aN ar bh)) (by show 2<=sizeLine;decide)) ?_)
 refine ai (cG 4 (r:=fP ae) (aO (aN (EV.two (aY.im (aO (aN ar (aN ar bh)) (by show 2<=sizeLine;decide)))) bh) (by show 1<=sizeLine;decide)) ?_)
 refine ai (cv (r:=ae) (λi Γ=>∃st od rows v5 v6 v7 v8 v9 v10,Γ=[.ob (bo.bx a b st),.im ae (m:Int),.im aW loose,.mu ae od,.mu (fP ae) rows,v5,v6,v7,v8,v9,v10,.no]/\cE (n + 4 * i) st/\fY loose od rows/\rows.length=i + 1/\od.length<=16)
  (fD M.range (aa 1 rfl) ⟨by omega,by omega⟩) (aG 5) ⟨st,[0,1],[(0,1)],_,_,_,_,_,_,rfl,hP.mono (by omega),fY.base loose,rfl,by decide⟩ ?_ ?_)
 ·rintro i x Γ hx ⟨st,od,rows,v5,v6,v7,v8,v9,v10,rfl,hP,hO,hlen,h16⟩
  obtain ⟨hi,rfl⟩:=iT hx
  have l2:=hO.l2
  have zz:∀{k:Nat},k<=1000->k < sizeLine:=λh=>Nat.lt_of_le_of_lt h (by decide)
  refine ai (bg 6 (g7 3 M.len rfl) ?_)
  have more:∀(st1:Pu),cE (n + 4 * i + 1) st1->WS (eh eX P w K mg base vf "_law_part" (ah jS) f cdv A outer s H E).gN
   (match (cg jS).getD 2 (.Pass ⟨0,0,0,0⟩) with | .For _ _ body _ _=>(match body.getD 1 (.Pass ⟨0,0,0,0⟩) with | .If _ _ els _=>els | _=>[]) | _=>[])
   [.ob (bo.bx a b st1),.im ae (m:Int),.im aW loose,.mu ae od,.mu (fP ae) rows,.im ae (0 + (i:Int)),.im ae (od.length:Int),v7,v8,v9,v10,.no]
   (λΓ=>∃st od rows v5 v6 v7 v8 v9 v10,Γ=[.ob (bo.bx a b st),.im ae (m:Int),.im aW loose,.mu ae od,.mu (fP ae) rows,v5,v6,v7,v8,v9,v10,.no]/\cE (n + 4 * ((i + 1:Nat):Int)) st/\fY loose od rows/\rows.length=i + 1 + 1/\od.length<=16)
   (tM K bo a b λs'=>bR K (av ae (af (fP ae))) λz=>cE (n + 200) s'/\kc loose m z.1 z.2):=by
   intro st1 hP1
   have gt:∀{k:Int},0<=k->k < (od.length:Int)->∃y,od[k.toNat]?=some y:=λk0 k1=>⟨_,getElem?_eq_getElem (by omega)⟩
   refine ak (bL (bV (aa 2 rfl)) (λhl=>?_) (λhl=>?_))
   ·obtain ⟨c,st2,c0,c1,hP2,hS2⟩:=c7 hP1 (by omega) (b:=(od.length:Int) - 1) (by omega) (by omega)
    refine ai (bg 10 (cj 0 CD hr (ag (eM (aa 6 rfl) ar) aq) rfl rfl (hS2 _)) ?_)
    obtain ⟨d,st3,d0,d1,hP3,hS3⟩:=c7 hP2 (by omega) (b:=(od.length:Int) - 1 - c) (by omega) (by omega)
    obtain ⟨y1,h1⟩:=gt c0 (by omega)
    obtain ⟨y2,h2⟩:=gt (k:=c + 1 + d) (by omega) (by omega)
    refine ak (cS 4 (EV.two (aY.im (aO (aN (fc 3 (y:=y1) (aa 10 rfl) rfl rfl (by rw [e9 c0 (by omega)];exact h1)) (aN (fc 3 (y:=y2) (cu (cu (aa 10 rfl) ar) (cj 0 CD hr (ag (eM (eM (aa 6 rfl) ar) (aa 10 rfl)) aq) rfl rfl (hS3 _))) rfl rfl (by rw [e9 (by omega) (by omega)];exact h2)) bh)) (by show 2<=sizeLine;decide)))) rfl rfl (zz (by omega)) ?_)
    exact ⟨st3,_,_,_,_,_,_,_,_,rfl,hP3.mono (by omega),hO.more h1 h2 (by omega) (λ_=>by omega),by rw [length_append];simp;omega,h16⟩
   ·obtain ⟨c,st2,c0,c1,hP2,hS2⟩:=c7 hP1 (by omega) (b:=(od.length:Int) - 1) (by omega) (by omega)
    obtain ⟨d,st3,d0,d1,hP3,hS3⟩:=c7 hP2 (by omega) (b:=(od.length:Int)) (by omega) (by omega)
    obtain ⟨y1,h1⟩:=gt c0 (by omega)
    obtain ⟨y2,h2⟩:=gt d0 d1
    refine ak (cS 4 (EV.two (aY.im (aO (aN (fc 3 (y:=y1) (cj 0 CD hr (ag (eM (aa 6 rfl) ar) aq) rfl rfl (hS2 _)) rfl rfl (by rw [e9 c0 (by omega)];exact h1)) (aN (fc 3 (y:=y2) (cj 0 CD hr (ag (aa 6 rfl) aq) rfl rfl (hS3 _)) rfl rfl (by rw [e9 d0 (by omega)];exact h2)) bh)) (by show 2<=sizeLine;decide)))) rfl rfl (zz (by omega)) ?_)
    exact ⟨st3,_,_,_,_,_,_,_,_,rfl,hP3.mono (by omega),hO.more h1 h2 (by omega) (λe=>by rw [hl] at e;cases e),by rw [length_append];simp;omega,h16⟩
  by_cases hsz:od.length < 16
  ·obtain ⟨c,st1,c0,c1,hP1,hS1⟩:=c7 hP (by omega) (b:=2) (by decide) (by decide)
   refine ak (bL (TW.tv (yB (TV.cast (bc e7 (aa 6 rfl) ar) (decide_eq_true (by omega))) (vM (bc e6 (cj 0 CD hr (ag ar aq) rfl rfl (hS1 _)) ar)))) (λh=>?_) (λh=>more st1 hP1))
   obtain ⟨k,st2,k0,k1,hP2,hS2⟩:=c7 hP1 (by omega) (b:=(rows.length:Int)) (by omega) (by omega)
   refine ai (bg 7 (cj 0 CD hr (ag (g7 4 M.len rfl) aq) rfl rfl (hS2 _)) ?_)
   obtain ⟨t,ht⟩:∃t,rows[k.toNat]?=some t:=⟨_,getElem?_eq_getElem (by omega)⟩
   have at1:cN rows k=some t:=by rw [e9 k0 (by omega),ht]
   refine ai (CK (fc 4 (aa 7 rfl) rfl rfl at1) (mw 8 9) ?_)
   -- what comes of either
   have fin:∀(st3:Pu) (q:Nat) v10',cE (n + 4 * i + 3) st3->1<=q->q + 1<=od.length->(loose=true->∃(i j:Nat),od[i]?=some t.1/\od[j]?=some t.2/\i < q/\q<=j)->WS (eh eX P w K mg base vf "_law_part" (ah jS) f cdv A outer s H E).gN
    (match (cg jS).getD 2 (.Pass ⟨0,0,0,0⟩) with | .For _ _ body _ _=>(match body.getD 1 (.Pass ⟨0,0,0,0⟩) with | .If _ yes _ _=>yes.drop 3 | _=>[]) | _=>[])
    [.ob (bo.bx a b st3),.im ae (m:Int),.im aW loose,.mu ae (cC q (od.length:Int) od),.mu (fP ae) rows,.im ae (0 + (i:Int)),.im ae (od.length:Int),.im ae k,.im ae t.1,.im ae t.2,v10',.no]
    (λΓ=>∃st od rows v5 v6 v7 v8 v9 v10,Γ=[.ob (bo.bx a b st),.im ae (m:Int),.im aW loose,.mu ae od,.mu (fP ae) rows,v5,v6,v7,v8,v9,v10,.no]/\cE (n + 4 * ((i + 1:Nat):Int)) st/\fY loose od rows/\rows.length=i + 1 + 1/\od.length<=16)
    (tM K bo a b λs'=>bR K (av ae (af (fP ae))) λz=>cE (n + 200) s'/\kc loose m z.1 z.2):=by
    intro st3 q v10' hP3 q0 q1 hq
    refine ai (rm 4 (j:=k.toNat) (y:=(t.1,(od.length:Int))) (EV.two (aY.im (aO (aN (aa 8 rfl) (aN (aa 6 rfl) bh)) (by show 2<=sizeLine;decide)))) (aa 7 rfl) rfl rfl (dH k0 (by omega)) ?_)
    refine ak (cS 4 (y:=((od.length:Int),t.2)) (EV.two (aY.im (aO (aN (aa 6 rfl) (aN (aa 9 rfl) bh)) (by show 2<=sizeLine;decide)))) rfl rfl (zz (by rw [length_set];omega)) ?_)
    exact ⟨st3,_,_,_,_,_,_,_,_,rfl,hP3.mono (by omega),hO.split (show rows[k.toNat]?=some (t.1,t.2) from ht) q0 q1 hq,by rw [length_append,length_set];simp;omega,by rw [js.length_eq];simp;omega⟩
   refine ai (bL (bV (aa 2 rfl)) (λhl=>?_) (λhl=>?_))
   ·obtain ⟨i1,j1,a1,a2,a3⟩:=hO.up hl t (mem_of_getElem? ht)
    have no:∀{i1:Nat} {z:Int},od[i1]?=some z->∀m',m' < i1->od[m']?≠some z:=λ{i1 z} hz m' hm' e=>by
     have q1:=List.getElem?_eq_some_iff.mp hz
     have q2:=List.getElem?_eq_some_iff.mp e
     have:=(getElem_inj (h₀:=q2.1) (h₁:=q1.1) hO.pm.nd).mp (q2.2.trans q1.2.symm)
     omega
    have jl:=(List.getElem?_eq_some_iff.mp a2).1
    refine ai (bg 10 (oS 3 hu (aa 8 rfl) rfl rfl a1 (no a1)) ?_)
    obtain ⟨d,st3,d0,d1,hP3,hS3⟩:=c7 hP2 (by omega) (b:=(j1:Int) - (i1:Int)) (by omega) (by omega)
    refine ak (sJ 3 (k:=(i1:Int) + 1 + d) (cu (cu (aa 10 rfl) ar) (cj 0 CD hr (ag (eM (oS 3 hu (aa 9 rfl) rfl rfl a2 (no a2)) (aa 10 rfl)) aq) rfl rfl (hS3 _))) (aa 6 rfl) rfl rfl (by omega) (by omega) (zz (by omega)) ?_)
    exact fin st3 _ _ (hP3.mono (by omega)) (by omega) (by omega) (λ_=>⟨i1,j1,a1,a2,by omega,by omega⟩)
   ·obtain ⟨d,st3,d0,d1,hP3,hS3⟩:=c7 hP2 (by omega) (b:=(od.length:Int) - 1) (by omega) (by omega)
    refine ak (sJ 3 (k:=1 + d) (cu ar (cj 0 CD hr (ag (eM (aa 6 rfl) ar) aq) rfl rfl (hS3 _))) (aa 6 rfl) rfl rfl (by omega) (by omega) (zz (by omega)) ?_)
    exact fin st3 _ _ (hP3.mono (by omega)) (by omega) (by omega) (λe=>by rw [hl] at e;cases e)
  ·refine ak (bL (TW.tv (dN (y:=false) (bc e7 (aa 6 rfl) ar) (λh=>absurd (of_decide_eq_true h) (by omega)))) (λh=>by simp at h) (λh=>more st (hP.mono (by omega))))
 ·rintro Γ ⟨st,od,rows,v5,v6,v7,v8,v9,v10,rfl,hP,hO,hlen,h16⟩
  rw [aC,show ((m:Int)).toNat=m by omega] at hP hlen
  have l2:=hO.l2
  obtain ⟨xs,st1,hP1,hX,hS⟩:=qG hP (by omega) (by omega) (m:=od.length - 2) (by omega)
  have xl:=hX.len
  have ec:((od.length - 2:Nat):Int)=(od.length:Int) - 2:=by omega
  have hid:((xs.filter λ_=>true).map λk=>2 + k)=xs.map (2 + ·):=by rw [filter_eq_self.mpr (by simp)]
  refine ai (bg 11 (EV.cast (y':=[0,1]++xs.map (2 + ·)) (aY.im (qc (aY.im (aO (aN ar (aN ar bh)) (by show 2<=sizeLine;decide))) (aY.im (bF (own:=["_law_place"]) (fr:=[]) (ix:=[]) (ra:=ae) (rb:=ae) (p:=λ_=>true) (f:=λk=>2 + k) (bj (so:=ah jS) (N0:=vf) rfl rfl (λx h=>aT h) (by decide +kernel)) (aR (cj 0 CO hr (ag (EV.cast (eM (g7 3 M.len rfl) ar) ec.symm) aq) rfl rfl (hS _)))
   (λC s H ex=>aG 0) (λx=>⟨.inr rfl,trivial⟩) (λC s H ex x hx=>cf) (λC s H ex x hx _=>cu ar (aa 0 rfl)))) (aI (by rw [length_map,filter_eq_self.mpr (by simp)];show 2 + _<=_;omega)))) (by rw [hid])) ?_)
  have hnl:(([0,1]++xs.map (2 + ·)).length:Int)=od.length:=by rw [length_append,length_map];show ((2 + xs.length:Nat):Int)=_;omega
  have hfin:=hO.fin hX h16 hlen
  have hid2:((rows.filter λ_=>true).map λ(t:Int×Int)=>(gC ([0,1]++xs.map (2 + ·)) t.1,gC ([0,1]++xs.map (2 + ·)) t.2))=rows.map λ(t:Int×Int)=>(gC ([0,1]++xs.map (2 + ·)) t.1,gC ([0,1]++xs.map (2 + ·)) t.2):=by rw [filter_eq_self.mpr (by simp)]
  have hbd:=hO.good.bd
  generalize [0,1]++xs.map (2 + ·)=names at hnl hfin hid2
  refine ak (ia 0 (B:=bo) (y:=((od.length:Int),rows.map λ(t:Int×Int)=>(gC names t.1,gC names t.2))) (dj (ag (g7 3 M.len rfl) (ag (EV.cast (aY.im (bF (own:=["_law_one","_law_other"]) (fr:=["_law_names"]) (ix:=[11]) (ra:=fP ae) (rb:=fP ae) (p:=λ_=>true) (f:=λ(t:Int×Int)=>(gC names t.1,gC names t.2)) (bj (so:=ah jS) (N0:=vf) rfl rfl (λx h=>aT h) (by decide +kernel)) (aR (fM 4 rfl (aI (by omega))))
   (λC s H ex=>mw 0 1) (λx=>⟨.inr rfl,.inr rfl,.inl rfl,trivial⟩) (λC s H ex x hx=>cf) (λC s H ex x hx _=>EV.two (aY.im (aO (aN (aJ (aa 2 rfl) (aa 0 rfl) (cw (hbd x hx).1 (by rw [hnl];exact (hbd x hx).2.1))) (aN (aJ (aa 2 rfl) (aa 1 rfl) (cw (hbd x hx).2.2.2.1 (by rw [hnl];exact (hbd x hx).2.2.2.2))) bh)) (by show 2<=sizeLine;decide)))))) hid2) aq))) rfl ⟨hP1.mono (by omega),hfin⟩)
end
end K1
namespace Fc
open PySem PySem.Spec L2
open PyProof.Rows hiding St
def CJ:Ent->Prop
 | .no=>True
 | .im _ _=>True
 | _=>False
def jy:Ga->Prop
 | []=>True
 | e::r=>CJ e/\jy r
theorem jy.fp:∀{Γ:Ga},jy Γ->∀(i:Nat) (e:Ent),Γ[i]?=some e->∀o,e.fp o=[]
 | e::_,⟨h,_⟩,0,_,q,o=>by
   cases q
   cases e with
   | no=>rfl
   | im _ _=>rfl
   | mu _ _=>exact h.elim
   | di _=>exact h.elim
   | ob _=>exact h.elim
 | _::r,⟨_,h⟩,i + 1,e,q,o=>jy.fp h i e (by simpa using q) o
 | [],_,i,e,q,o=>by simp at q
theorem ao.rebase {K:PySem.W.Frag}{σ:St}{H0 R0 H R:Hp}{Γ:Ga}(E:ao K σ H0 R0 H R Γ)(fl:jy Γ):ao K σ H R H R Γ:=
 ⟨⟨aj.refl _,aj.refl _,E.sub,λ_ _=>rfl⟩,E.ent,(λi e a q w=>by rw [fl.fp i e q] at w;cases w),(λi j e e' a q q' w w'=>by rw [fl.fp i e q] at w;cases w),E.len⟩
def oP (r:Row):List Int:=[r.1,r.2.1,r.2.2.1,r.2.2.2]
section
variable {X:Cx}{Γ Γ1 Γ2 Γ3:Ga}{α β γ δ:Type}{N:Ga->Prop}{T:RT}
variable {as:List Addr}{rs:List Row}{H:Hp}
theorem ck.wD {H':Hp}(h:ck H as rs)(s:aj H H'):ck H' as rs:=⟨h.1,λi b r h1 h2=>s _ _ (h.2 i b r h1 h2)⟩
theorem ck.snoc (h:ck H as rs){b:Addr}{r:Row}(hb:H b=some (.lst (jv r))):ck H (as++[b]) (rs++[r]):=by
 refine ⟨by rw [length_append,length_append,h.1];rfl,λi c q h1 h2=>?_⟩
 rcases Nat.lt_or_ge i as.length with hl | hl
 ·rw [getElem?_append_left hl] at h1
  rw [getElem?_append_left (by rw [← h.1];exact hl)] at h2
  exact h.2 i c q h1 h2
 ·rw [getElem?_append_right hl] at h1
  rw [getElem?_append_right (by rw [← h.1];exact hl)] at h2
  have e:i - as.length=0:=by
   have:=(List.getElem?_eq_some_iff.mp h1).1
   simp at this;omega
  rw [e] at h1
  rw [← h.1,e] at h2
  simp at h1 h2
  rw [← h1,← h2];exact hb
theorem ck.app (h:ck H as rs):∀{bs:List Addr} {qs:List Row},ck H bs qs->ck H (as++bs) (rs++qs):=by
 intro bs qs g
 refine ⟨by rw [length_append,length_append,h.1,g.1],λi c q h1 h2=>?_⟩
 rcases Nat.lt_or_ge i as.length with hl | hl
 ·rw [getElem?_append_left hl] at h1
  rw [getElem?_append_left (by rw [← h.1];exact hl)] at h2
  exact h.2 i c q h1 h2
 ·rw [getElem?_append_right hl] at h1
  rw [getElem?_append_right (by rw [← h.1];exact hl),← h.1] at h2
  exact g.2 _ c q h1 h2
theorem sI {tg elt:Expr}{scope:Scope}{cl:List (Str×Addr)}{own fr:List Str}{ix:List Nat}{ra:aD α}{xs:List α}{f:α->Row}{bf:α->Ga->Ga}{J:It}{σ:St}{H0 R0 H1 R1:Hp}{Q:VK}(E1:ao X.K σ H0 R0 H1 R1 Γ1)(src:Src X.K J R1 ra xs)(hz:xs.length<=sizeLine)
 (hb:∀(C:Addr) (s:Shared) (H:Hp) (ex:List Addr),BG (aH X scope cl C (own++fr) s H ex) tg ra bf) (hw:∀x,Wk (bf x (bZ own ix Γ1)) (bZ own ix Γ1)) (hfl:∀x,jy (bf x (bZ own ix Γ1)))
 (he:∀(C:Addr) (s:Shared) (H:Hp) (ex:List Addr) x,x∈xs->aY (aH X scope cl C (own++fr) s H ex) elt (bf x (bZ own ix Γ1)) ae (oP (f x)) (bf x (bZ own ix Γ1)))
 (q:∀a bs H' R',Ext H1 R1 H' R'->H' a=none->ck H' bs (xs.map f)->bs.Nodup->(∀b∈bs,H1 b=none/\R' b=none)->Q (.ref a) (upd H' a (.lst (bs.map .ref)))):
 ∃W:Nat->Nat->List V->St->Hp->Prop,(∃m,W 0 m [] (eQ own ix σ) H1)/\∀i m ys σ' H',W i m ys σ' H'->
  ys.length<=sizeLine/\((J.stop i H'/\∀p,H' p=none->Q (.ref p) (upd H' p (.lst ys)))∨
  (J.go i H'/\∀x H2,J.yld i H' x H2->(λv σ H Q=>∀C s Hh ex,iy (aH X scope cl C (own++fr) s Hh ex) tg v σ H Q:TG) x σ' H2 λσ2 H3=>(λσ H Q=>∀C s Hh ex,iP (aH X scope cl C (own++fr) s Hh ex) [] σ H Q:TT) σ2 H3 λb H4=>
    if b=true then (λσ H Q=>∀C s Hh ex,dI (aH X scope cl C (own++fr) s Hh ex) elt σ H Q:TE) σ2 H4 λv H5=>∃m',m' < m/\W (i + 1) m' (ys++[v]) σ2 H5 else∃m',m' < m/\W (i + 1) m' ys σ2 H4)):=by
 refine ⟨λi m ys σ' H'=>m=xs.length - i/\i<=xs.length/\∃R' bs,ao X.K σ' H1 R1 H' R' (bZ own ix Γ1)/\ys=bs.map .ref/\ck H' bs ((xs.take i).map f)/\bs.Nodup/\∀b∈bs,H1 b=none/\R' b=none,⟨_,rfl,Nat.zero_le _,R1,[],lh E1 own ix,rfl,⟨rfl,λi b r h1=>by simp at h1⟩,nodup_nil,λb hb=>by cases hb⟩,?_⟩
 rintro i m ys σ' H' ⟨rfl,hle,R',bs,E',rfl,hrs,hnd,hbs⟩
 have hbl:bs.length=i:=by rw [hrs.1,length_map,length_take];omega
 have hys:(bs.map V.ref).length<=sizeLine:=by rw [length_map,hbl];omega
 obtain ⟨sgo,sstop⟩:=src H' R' E'.ext.r E'.sub i
 refine ⟨hys,?_⟩
 by_cases hlt:i < xs.length
 ·obtain ⟨go,yl⟩:=sgo _ (getElem?_eq_getElem hlt)
  have hmem:xs[i]∈xs:=getElem_mem hlt
  have tk:(xs.take (i + 1))=xs.take i++[xs[i]]:=by rw [take_succ,getElem?_eq_getElem hlt];rfl
  refine .inr ⟨go,λv H2 hy C s Hh ex=>?_⟩
  obtain ⟨R2,x2,hr⟩:=yl v H2 hy
  refine hb C s Hh ex σ' H1 R1 H2 R2 _ v _ (E'.grow x2) hr _ λσ2 E2=>?_
  intro C s Hh ex
  refine (cf (X:=aH X scope cl C (own++fr) s Hh ex)) σ2 H2 R2 H2 R2 (E2.rebase (hfl _)) _ λH4 R4 E4 s4=>?_
  rw [if_pos rfl]
  intro C s Hh ex
  refine he C s Hh ex _ hmem σ2 H4 R4 H4 R4 (E4.rebase (hfl _)) _ λa vs H5 R5 E5 s5 ha hR h0 off pp hz'=>?_
  have hv:=dM pp
  subst hv
  have x5:Ext H' R' H5 R5:=x2.trans (E4.ext.trans E5.ext)
  have x25:Ext H2 R2 H5 R5:=E4.ext.trans E5.ext
  have hin:∀b∈bs,H' b≠none:=λb hb=>by
   obtain ⟨r,hr⟩:=hrs.row hb
   rw [hr];exact Option.some_ne_none _
  have hold:∀b∈bs,b≠a:=λb hb e=>by
   have:H4 b≠none:=aj.some (x2.h.trans E4.ext.h) (hin b hb)
   exact this (e▸h0)
  refine ⟨xs.length - (i + 1),by omega,rfl,hlt,R5,bs++[a],(E2.grow x25).weak (hw _),by rw [map_append];rfl,?_,?_,λb hb=>?_⟩
  ·rw [tk,map_append]
   exact (hrs.wD x5.h).snoc ha
  ·exact eV hnd λz=>hold a z rfl
  ·rcases mem_append.mp hb with z | z
   ·exact ⟨(hbs b z).1,(x5.old b (hin b z)).trans (hbs b z).2⟩
   ·rw [mem_singleton.mp z]
    exact ⟨(E'.ext.h.trans (x2.h.trans E4.ext.h)).free h0,hR⟩
 ·have e:i=xs.length:=by omega
  subst e
  rw [take_length] at hrs
  exact .inl ⟨sstop (Nat.le_refl _),λa ha=>q a bs H' R' E'.ext ha hrs hnd hbs⟩
theorem vh (i:Nat){y:Str}{py p1 bp spos:Pos}{tg elt iter:Expr}{scope:Scope}{pos:Pos}{cl:List (Str×Addr)}{own fr:List Str}{ix:List Nat}{ra:aD α}{xs:List α}{f:α->Row}{bf:α->Ga->Ga}{a:Addr}
 (S:cY X scope cl own fr ix) (hit:IV X tg iter Γ ra xs Γ)
 (hb:∀(C:Addr) (s:Shared) (H:Hp) (ex:List Addr),BG (aH X scope cl C (own++fr) s H ex) tg ra bf) (hw:∀x,Wk (bf x (bZ own ix Γ)) (bZ own ix Γ)) (hfl:∀x,jy (bf x (bZ own ix Γ)))
 (he:∀(C:Addr) (s:Shared) (H:Hp) (ex:List Addr) x,x∈xs->aY (aH X scope cl C (own++fr) s H ex) elt (bf x (bZ own ix Γ)) ae (oP (f x)) (bf x (bZ own ix Γ)))
 (hΓ:Γ[i]?=some (.ob (bW a as rs))) (hz:rs.length + xs.length<=sizeLine) (h:∀d bs,N (Γ.set i (.ob (bW d (as++bs) (rs++xs.map f)))))
 (hN:X.N.Nodup:=by first | assumption | decide) (hi':X.N[i]?=some y:=by rfl) (hx:autoParam (Loc X.env.scope y) vA2) (hv:autoParam (bS X.env.scope y) vA1) (hd:Dg0 y:=by decide) (hcd:Cd0 y:=by decide)
 (hsw:swapsWith (.BinOp (.Name y p1) .Add (.ListComp elt [⟨tg,iter,[],0⟩] scope pos) bp) (some (.Name y py)) spos.line X.env=pure false:=by rfl)
 (hc:X.calm=true:=by rfl) (hs:∀x,foldedSetIterable iter X.env x=pure x:=by intro _;rfl) (hf:autoParam (X.fn y=true∨X.env.scope.names.lookup y=some .local) vA3):
 W1 X (.Assign [.Name y py] (.BinOp (.Name y p1) .Add (.ListComp elt [⟨tg,iter,[],0⟩] scope pos) bp) spos) Γ N T:=λσ H0 R0 H R E D dn dr=>by
 obtain ⟨wi,hi,hit⟩:=hit
 obtain ⟨⟨v,ea,rfl,ha,hr,nd⟩,hR⟩:=E.ent i _ hΓ
 refine sS (d6 hN hi' hx (l9 oK (aX hi' hv hd hcd) (qC (g:=λv σ H Q=>∀C s Hh ex,iy (aH X scope cl C (own++fr) s Hh ex) tg v σ H Q) (tc:=λσ H Q=>∀C s Hh ex,iP (aH X scope cl C (own++fr) s Hh ex) [] σ H Q) (te:=λσ H Q=>∀C s Hh ex,dI (aH X scope cl C (own++fr) s Hh ex) elt σ H Q) hc S hi
  (λC s H ex=>⟨λpins s1 σ H v u Q I r h=>h C s _ ex pins s1 u I r,λpins s1 σ H Q I h=>h C s _ ex pins s1 I,λpins s1 σ H Q I h=>h C s _ ex pins s1 I⟩) hs)) hsw hf) ⟨.ref a,at_of ea,?_⟩
 refine hit σ H0 R0 H R E _ λJ H1 R1 E1 s1 hz1 src=>sI (Q:=λy H2=>A7 (V.ref a) y H2 λx H1=>nP i x σ H1 D.nx) E1 src hz1 hb hw hfl he λb bs H' R' xx hb0 hrs hnd hbs=>?_
 have E2:=E1.grow xx
 have E3:=E2.grow (Ext.cn E2.sub hb0 (.lst (bs.map .ref)))
 obtain ⟨⟨v3,ea3,rfl,ha3,hr3,nd3⟩,hR3⟩:=E3.ent i _ hΓ
 have hsb:aj H' (upd H' b (.lst (bs.map .ref))):=aj.fresh hb0 _
 have hlen:as.length=rs.length:=hr3.1
 have hlen2:bs.length=xs.length:=by rw [hrs.1,length_map]
 refine ⟨a,b,as.map .ref,bs.map .ref,rfl,rfl,ha3,au,by rw [length_map,length_map,hlen,hlen2];exact hz,λd hd0=>?_⟩
 have E4:=E3.grow (Ext.cn E3.sub hd0 (.lst (as.map .ref++bs.map .ref)))
 have hsd:aj (upd H' b (.lst (bs.map .ref))) (upd (upd H' b (.lst (bs.map .ref))) d (.lst (as.map .ref++bs.map .ref))):=aj.fresh hd0 _
 have inb:∀c∈bs,H' c≠none:=λc hc=>by
  obtain ⟨r,hr⟩:=hrs.row hc
  rw [hr];exact Option.some_ne_none _
 have ina:∀c∈as,H1 c≠none:=λc hc=>by
  obtain ⟨⟨v,_,_,_,hr1,_⟩,_⟩:=E1.ent i _ hΓ
  obtain ⟨r,hr⟩:=hr1.row hc
  rw [hr];exact Option.some_ne_none _
 have nda:=nodup_cons.mp nd3
 have dne:∀c,upd H' b (.lst (bs.map .ref)) c≠none->c≠d:=λc hc e=>hc (e▸hd0)
 have hd1:H' d=none:=hsb.free hd0
 have r4:∀c∈as++bs,upd H' b (.lst (bs.map .ref)) c≠none:=λc hc=>by
  rcases mem_append.mp hc with z | z
  ·exact aj.some hsb (aj.some xx.h (ina c z))
  ·exact aj.some hsb (inb c z)
 refine dn _ _ R' _ (E4.setG (v:=.ref d) (en:=.ob (bW d (as++bs) (rs++xs.map f))) i ⟨⟨.ref d,rfl,rfl,?_,?_,?_⟩,λc hc=>?_⟩ (λc hc=>?_) λc hc j e hj qj w=>?_) (s1.trans xx.r) (h d bs)
 ·rw [au,map_append]
 ·exact (hr3.wD hsd).app (hrs.wD (hsb.trans hsd))
 ·refine nodup_cons.mpr ⟨λz=>dne d (r4 d z) rfl,?_⟩
  rw [nodup_append]
  refine ⟨nda.2,hnd,λc hc c' hc' e=>?_⟩
  subst e
  exact ina c hc (hbs c hc').1
 ·rcases mem_cons.mp hc with rfl | hc
  ·exact E2.sub.free hd1
  ·rcases mem_append.mp hc with z | z
   ·exact hR3 c (mem_cons_of_mem _ z)
   ·exact (hbs c z).2
 ·have hc:c∈d::(as++bs):=hc
  rcases mem_cons.mp hc with rfl | hc
  ·exact E2.ext.h.free hd1
  ·rcases mem_append.mp hc with z | z
   ·exact E3.nw i _ c hΓ (mem_cons_of_mem _ z)
   ·exact E1.ext.h.free (hbs c z).1
 ·have hc:c∈d::(as++bs):=hc
  rcases mem_cons.mp hc with rfl | hc
  ·exact (Ent.cO (E3.ent j e qj) w).1 hd0
  ·rcases mem_append.mp hc with z | z
   ·exact hj (E3.ds j i e _ c qj hΓ w (mem_cons_of_mem _ z))
   ·exact (Ent.cO (E1.ent j e qj) w).1 (hbs c z).1
end
section
variable {X:Cx}{Γ Γ1 Γ2 Γ3:Ga}{α β γ δ:Type}{N:Ga->Prop}{T:RT}
theorem ao.Bt {K:PySem.W.Frag}{σ:St}{H0 R0 H R H' R':Hp}{i j:Nat}{B C B' C':iA}(hij:i≠j)(E:ao K σ H0 R0 H R Γ)(hΓ:Γ[i]?=some (.ob B))(hΓj:Γ[j]?=some (.ob C))(x:Ext (ft H (B.fp++C.fp)) R H' R')(ho:(Ent.ob B').ok K H' R' (σ[i]?).join)(hoj:(Ent.ob C').ok K H' R' (σ[j]?).join)(hfp:∀b∈B'.fp,b∈B.fp)(hfpj:∀b∈C'.fp,b∈C.fp):ao K σ H0 R0 H' R' ((Γ.set i (.ob B')).set j (.ob C')):=by
 have h0:∀b∈B.fp++C.fp,H0 b=none:=λb hb=>by
  rcases mem_append.mp hb with z | z
  ·exact E.nw i _ b hΓ z
  ·exact E.nw j _ b hΓj z
 have out:∀{b:Addr},H0 b≠none->b∉B.fp++C.fp:=λh e=>h (h0 _ e)
 have apart:∀(k:Nat) (e:Ent),k≠i->k≠j->Γ[k]?=some e->∀b∈e.fp (σ[k]?).join,b∉B.fp++C.fp:=λk e hi hj qk b hb w=>by
  rcases mem_append.mp w with z | z
  ·exact hi (E.ds k i e _ b qk hΓ hb z)
  ·exact hj (E.ds k j e _ b qk hΓj hb z)
 have key:∀(k:Nat) (e:Ent),((Γ.set i (.ob B')).set j (.ob C'))[k]?=some e->(k=j/\e= .ob C')∨(k=i/\e= .ob B')∨(k≠i/\k≠j/\Γ[k]?=some e):=λk e q=>by
  rcases set_at q with ⟨rfl,rfl,_⟩ | ⟨hk,q1⟩
  ·exact .inl ⟨rfl,rfl⟩
  ·rcases set_at q1 with ⟨rfl,rfl,_⟩ | ⟨hk2,q2⟩
   ·exact .inr (.inl ⟨rfl,rfl⟩)
   ·exact .inr (.inr ⟨hk2,hk,q2⟩)
 refine ⟨⟨λb o q=>?_,E.ext.r.trans x.r,x.s,λb hb=>?_⟩,λk e q=>?_,λk e b q w=>?_,λk l e e' b q q' w w'=>?_,by rw [length_set,length_set];exact E.len⟩
 ·exact x.h b o (by rw [dW (out (by rw [q];exact Option.some_ne_none _))];exact E.ext.h b o q)
 ·refine (x.old b ?_).trans (E.ext.old b hb)
  rw [dW (out hb)];exact aj.some E.ext.h hb
 ·rcases key k e q with ⟨rfl,rfl⟩ | ⟨rfl,rfl⟩ | ⟨hi,hj,q1⟩
  ·exact hoj
  ·exact ho
  ·have h1:=E.ent k e q1
   refine h1.loc (λb hb=>?_) x.r λb hb=>?_
   ·cases e2:H b with
    | none=>exact absurd e2 (Ent.cO h1 hb).1
    | some u=>exact x.h b u (by rw [dW (apart k e hi hj q1 b hb)];exact e2)
   ·exact (x.old b (by rw [dW (apart k e hi hj q1 b hb)];exact (Ent.cO h1 hb).1)).trans (Ent.cO h1 hb).2
 ·rcases key k e q with ⟨rfl,rfl⟩ | ⟨rfl,rfl⟩ | ⟨hi,hj,q1⟩
  ·exact h0 b (mem_append_right _ (hfpj b w))
  ·exact h0 b (mem_append_left _ (hfp b w))
  ·exact E.nw k e b q1 w
 ·rcases key k e q with ⟨rfl,rfl⟩ | ⟨rfl,rfl⟩ | ⟨hi,hj,q1⟩<;>rcases key l e' q' with ⟨rfl,rfl⟩ | ⟨rfl,rfl⟩ | ⟨hi',hj',q1'⟩
  ·rfl
  ·exact E.ds _ _ _ _ b hΓj hΓ (hfpj b w) (hfp b w')
  ·exact absurd (mem_append_right _ (hfpj b w)) (apart l e' hi' hj' q1' b w')
  ·exact E.ds _ _ _ _ b hΓ hΓj (hfp b w) (hfpj b w')
  ·rfl
  ·exact absurd (mem_append_left _ (hfp b w)) (apart l e' hi' hj' q1' b w')
  ·exact absurd (mem_append_right _ (hfpj b w')) (apart k e hi hj q1 b w)
  ·exact absurd (mem_append_left _ (hfp b w')) (apart k e hi hj q1 b w)
  ·exact E.ds _ _ _ _ b q1 q1' w w'
abbrev sv:=PySem.W.Frag->Pu->List Row->List Pk->(Pu->List Row->RT)->Prop
def sq (S:sv)(K:PySem.W.Frag):Sp:=λvs H Q _=>∃R a b s c cs rs vs' ps T,vs= .ref a:: .ref c::vs'/\aj R H/\(∀x∈[a,b]++(c::cs),R x=none)/\(xK a b s).R K H R (.ref a)/\(bW c cs rs).R K H R (.ref c)/\(∀x∈[a,b],x∉c::cs)/\gO K R vs' ps/\S K s rs ps T/\
 ∀v H' R' s' rs',Ext (ft H ([a,b]++(c::cs))) R H' R'->(xK a b s').R K H' R' (.ref a)->(bW c cs rs').R K H' R' (.ref c)->(∀x∈[a,b]++(c::cs),R' x=none)->T s' rs' (ft H ([a,b]++(c::cs))) v H' R'->Q v H'
theorem vU (i j:Nat){S:sv}{x y z:Str}{k:Nat}{es:List Expr}{p p1 p2 p3 pos:Pos}{ps:List Pk}{a b c:Addr}{s:Pu}{cs:List Addr}{rs:List Row}{Pd:Pu->List Row->Prop}(C:ay X.prog X.w X.K X.mg X.base x k (sq S X.K))(hr:bU k X.A)(hij:i≠j)(ha:HA X es Γ ps Γ)(hΓ:Γ[i]?=some (.ob (bo.bx a b s)))(hΓj:Γ[j]?=some (.ob (bW c cs rs)))(hS:S X.K s rs ps (λs' rs'=>bR X.K gK λ_=>Pd s' rs'))(h:∀s' rs',Pd s' rs'->N ((Γ.set i (.ob (bo.bx a b s'))).set j (.ob (bW c cs rs'))))
 (hg:Gl X x:=by rfl) (hdb:Dg0 x:=by decide) (he:starEach (.Name y p1:: .Name z p2::es) X.env=(false,eval (.Name y p1) X.env)::starEach (.Name z p2::es) X.env:=by rfl) (he2:starEach (.Name z p2::es) X.env=(false,eval (.Name z p2) X.env)::starEach es X.env:=by rfl) (hpl:(backTo p3 (starEach (.Name z p2::es) X.env)).any (·.1)=false:=by rfl)
 (hN:X.N[i]?=some y:=by rfl) (hv:autoParam (bS X.env.scope y) vA1) (hd:Dg0 y:=by decide) (hcd:Cd0 y:=by decide)
 (hNj:X.N[j]?=some z:=by rfl) (hvj:autoParam (bS X.env.scope z) vA1) (hdj:Dg0 z:=by decide) (hcdj:Cd0 z:=by decide)
 (hsw:swapsWith (.Call (.Name x p) (.Name y p1:: .Name z p2::es) [] p3) none pos.line X.env=pure false:=by rfl):W1 X (.Expr (.Call (.Name x p) (.Name y p1:: .Name z p2::es) [] p3) pos) Γ N T:=λσ H0 R0 H R E D dn dr=>by
 obtain ⟨f,fd,pn,F,hm,hk,hb⟩:=C.ex
 obtain ⟨ea,_,_⟩:=fm (E.ent i _ hΓ)
 obtain ⟨⟨vc,ec,rfl,_,_,_⟩,_⟩:=E.ent j _ hΓj
 refine sS (dR (kB F hr hg hm hk hb .nil nM (aL (aX hN hv hd hcd) (aL (aX hNj hvj hdj hcdj) jY he2) he) hdb he hpl) hsw) ⟨.ref a,at_of ea,.ref c,at_of ec,ha σ H0 R0 H R E _ λus H1 R1 E1 s1 p1=>?_⟩
 obtain ⟨ea1,hB,hRa,hRb⟩:=fm (E1.ent i _ hΓ)
 obtain ⟨⟨vc1,ec1,rfl,hc1,hc2,hc3⟩,hRc⟩:=E1.ent j _ hΓj
 have dis:∀x∈[a,b],x∉c::cs:=λx hx w=>hij (E1.ds i j _ _ x hΓ hΓj hx w)
 refine ⟨R1,a,b,s,c,cs,rs,us,ps,_,by rw [append_nil],E1.sub,λx hx=>?_,hB,⟨rfl,hc1,hc2,hc3⟩,dis,p1,hS,λv H' R' s' rs' xx hB' hC' hR' t=>?_⟩
 ·rcases mem_append.mp hx with w | w
  ·rcases mem_cons.mp w with rfl | w
   ·exact hRa
   ·rw [mem_singleton.mp w];exact hRb
  ·exact hRc x w
 ·obtain ⟨_,_,hP⟩:=t
  refine dn σ H' R' _ (E1.Bt (B':=bo.bx a b s') (C':=bW c cs rs') hij hΓ hΓj xx ?_ ?_ (λc hc=>hc) λc hc=>hc) (s1.trans xx.r) (h s' rs' hP)
  ·rw [ea1];exact jf (B:=bo) hB' (hR' a (by simp)) (hR' b (by simp))
  ·rw [ec1];exact ⟨⟨.ref c,rfl,hC'⟩,λx hx=>hR' x (mem_append_right _ hx)⟩
variable {P:Program}{w:World}{K:PySem.W.Frag}{mg:Str->Option Value}{base:Heap}
theorem pQ {K:PySem.W.Frag}{R H:Hp}{a b c:Addr}{st:Pu}{cs:List Addr}{rs:List Row}{vs:List V}{ps:List Pk}{N:List Str}(s:aj R H)(hR:∀x∈[a,b]++(c::cs),R x=none)(hB:(xK a b st).R K H R (.ref a))(hC:(bW c cs rs).R K H R (.ref c))(dis:∀x∈[a,b],x∉c::cs)(p:gO K R vs ps)(hl:ps.length + 2<=N.length):
 ao K (L2.start N (.ref a:: .ref c::vs)) (ft H ([a,b]++(c::cs))) R H R (.ob (bo.bx a b st):: .ob (bW c cs rs)::dh ps (N.length - 2)):=by
 obtain ⟨n0,n1,N',rfl⟩:∃n0 n1 N',N=n0::n1::N':=by
  match N,hl with
  | [],h=>exact absurd h (by simp)
  | [_],h=>exact absurd h (by simp)
  | n0::n1::N',_=>exact ⟨n0,n1,N',rfl⟩
 have hl':ps.length<=N'.length:=by simpa using hl
 have E0:=fH (N:=N') s p hl'
 have es:L2.start (n0::n1::N') (.ref a:: .ref c::vs)=some (.ref a)::some (.ref c)::L2.start N' vs:=by unfold L2.start;simp
 rw [es]
 have noown:∀(i:Nat) (e:Ent) (o:Option V),(dh ps N'.length)[i]?=some e->e.fp o=[]:=λi e o q=>by
  unfold dh at q
  rcases mem_append.mp (mem_of_getElem? q) with z | z
  ·obtain ⟨p,_,rfl⟩:=mem_map.mp z;rfl
  ·obtain ⟨_,rfl⟩:=mem_replicate.mp z;rfl
 have ha:=hR a (by simp)
 have hb:=hR b (by simp)
 have key:∀(i:Nat) (e:Ent),(Ent.ob (bo.bx a b st)::Ent.ob (bW c cs rs)::dh ps (n0::n1::N').length.pred.pred)[i]?=some e->(i=0/\e= .ob (bo.bx a b st))∨(i=1/\e= .ob (bW c cs rs))∨∃i',i=i' + 2/\(dh ps N'.length)[i']?=some e:=by
  intro i e q
  match i,q with
  | 0,q=>simp at q;exact .inl ⟨rfl,q.symm⟩
  | 1,q=>simp at q;exact .inr (.inl ⟨rfl,q.symm⟩)
  | i + 2,q=>exact .inr (.inr ⟨i,rfl,by simpa using q⟩)
 refine ⟨⟨n6,aj.refl _,s,λ_ _=>rfl⟩,λi e q=>?_,λi e d q w=>?_,λi j e e' d q q' w w'=>?_,?_⟩
 ·rcases key i e q with ⟨rfl,rfl⟩ | ⟨rfl,rfl⟩ | ⟨i',rfl,q1⟩
  ·exact jf (B:=bo) hB ha hb
  ·exact ⟨⟨.ref c,rfl,hC⟩,λx hx=>hR x (mem_append_right _ hx)⟩
  ·simpa using E0.ent i' e q1
 ·rcases key i e q with ⟨rfl,rfl⟩ | ⟨rfl,rfl⟩ | ⟨i',rfl,q1⟩
  ·exact kz (mem_append_left _ w)
  ·exact kz (mem_append_right _ w)
  ·rw [noown i' e _ q1] at w;cases w
 ·rcases key i e q with ⟨rfl,rfl⟩ | ⟨rfl,rfl⟩ | ⟨i',rfl,q1⟩
  ·rcases key j e' q' with ⟨rfl,rfl⟩ | ⟨rfl,rfl⟩ | ⟨j',rfl,q1'⟩
   ·rfl
   ·exact absurd w' (dis d w)
   ·rw [noown j' e' _ q1'] at w';cases w'
  ·rcases key j e' q' with ⟨rfl,rfl⟩ | ⟨rfl,rfl⟩ | ⟨j',rfl,q1'⟩
   ·exact absurd w (dis d w')
   ·rfl
   ·rw [noown j' e' _ q1'] at w';cases w'
  ·rw [noown i' e _ q1] at w;cases w
 ·have:=E0.len
  simp [this]
theorem yK {S:sv}{x qual:Str}{st:Stmt}{f:Addr}{fd:FuncData}{N ps:List Str}{k:Nat}(F:bI K x qual st f fd)(Sc:aB N ps (ah st))(hm:mg x=some (.ref f))(hb:Binds K fd ps [])(len:∀s rs qs T,S K s rs qs T->qs.length + 2=ps.length)
 (hbody:∀(cdv:Value) (A:Around) (outer:List Env) (s:Shared) (H:Hp) (E:XK) (a b c:Addr) (cs:List Addr) (u:Pu) (rs:List Row) (qs:List Pk) (T:Pu->List Row->RT),bU k (A.deeper (envOfC qual (ah st) s.heap.objs.size f cdv))->S K u rs qs T->
  WS (eh eX P w K mg base N qual (ah st) f cdv A outer s H E).gN (cg st) (.ob (bo.bx a b u):: .ob (bW c cs rs)::dh qs (N.length - 2)) (λΓ=>∃u' rs',Γ[0]?=some (.ob (bo.bx a b u'))/\Γ[1]?=some (.ob (bW c cs rs'))/\∀H0 H' R',T u' rs' H0 .non H' R') (λ_ _ _ _=>False)):ay P w K mg base x (k + 1) (sq S K):=by
 refine ⟨f,fd,ps,?_,hm,F.kp,hb⟩
 refine F.ok Sc (λvs H Q E h=>?_) (λcdv A outer s H vs Q E hr h=>?_)
 ·obtain ⟨R,a,b,u,c,cs,rs,vs',qs,T,rfl,_,_,_,_,_,p,hS,_⟩:=h
  rw [length_cons,length_cons,p.length];exact len u rs qs T hS
 ·obtain ⟨R,a,b,u,c,cs,rs,vs',qs,T,rfl,sR,hR,hB,hC,dis,p,hS,q⟩:=h
  have hl:qs.length + 2<=N.length:=by
   rw [len u rs qs T hS]
   have:=congrArg List.length Sc.pre
   rw [length_take] at this
   omega
  refine ⟨_,fB,hbody cdv A outer s H E a b c cs u rs qs T hr hS (L2.start N (.ref a:: .ref c::vs')) (ft H ([a,b]++(c::cs))) R H R (pQ sR hR hB hC dis p hl) {nx:=λ_ H'=>Q .non H',rt:=Q} (λσ' H' R' Γ' E' _ ⟨u',rs',hΓ,hΓ1,t⟩=>?_) λv H' R' xx t=>t.elim⟩
  obtain ⟨ea,hB',hR'⟩:=fm (E'.ent 0 _ hΓ)
  obtain ⟨⟨vc,ec,e2,hc'⟩,hRc⟩:=E'.ent 1 _ hΓ1
  refine q .non H' R' u' rs' E'.ext hB' ⟨rfl,hc'⟩ (λx hx=>?_) (t _ _ _)
  rcases mem_append.mp hx with w | w
  ·rcases mem_cons.mp w with rfl | w
   ·exact hR'.1
   ·rw [mem_singleton.mp w];exact hR'.2
  ·exact hRc x w
theorem ju (i:Nat){x:Str}{e:Expr}{p1 pos:Pos}{a:Addr}{as:List Addr}{rs:List Row}{k:Int}{j:Nat}{b:Addr}(he:EV X e Γ ae k Γ1)(hΓ:Γ[i]?=some (.ob (bW a as rs)))(hΓ1:Γ1[i]?=some (.ob (bW a as rs)))(hk:dP as.length k=some j)(hb:as[j]?=some b)
 (hN:X.N[i]?=some x:=by rfl) (hv:autoParam (bS X.env.scope x) vA1) (hd:Dg0 x:=by decide) (hcd:Cd0 x:=by decide) (hsx:ee e:=by exact λ_ _=>rfl):EV X (.Subscript (.Name x p1) e pos) Γ vB b Γ1:=λσ H0 R0 H R E Q q=>by
 obtain ⟨⟨v,ea,rfl,ha,hr,_⟩,hR⟩:=E.ent i _ hΓ
 refine eS (gx fF (aX hN hv hd hcd) aE hsx) ⟨.ref a,at_of ea,he σ H0 R0 H R E _ λu H2 R2 E2 s2 e2=>?_⟩
 obtain ⟨⟨v,ea2,e3,ha2,hr2,nd⟩,hR2⟩:=E2.ent i _ hΓ1
 refine ⟨a,_,k,.ref b,rfl,e2,aM.of ha2,?_,q _ H2 R2 E2 s2 rfl⟩
 unfold cN
 rw [length_map,hk]
 show (as.map V.ref)[j]?=_
 rw [getElem?_map,hb];rfl
theorem B9 {i j:Nat}{a:Addr}{as:List Addr}{rs:List Row}{xs:List Int}(hij:i≠j)(hΓ:Γ[i]?=some (.ob (bW a as rs)))(hj:Γ[j]?=some (.mu ae xs))(hz:rs.length<=sizeLine)(hzx:xs.length<=sizeLine)(σ:St)(H0 R0 H R:Hp)(E:ao X.K σ H0 R0 H R Γ):ao X.K σ H H H H (((Γ.map kE).set i (.im (af gR) rs)).set j (.im (af ae) xs)):=by
 obtain ⟨⟨v,ea,rfl,ha,hr,nd⟩,hR⟩:=E.ent i _ hΓ
 obtain ⟨b,vs,eb,hb,hRb,pp⟩:=E.ent j _ hj
 have E1:=E.frz.iG (i:=i) (e0:=.no) (en:=.im (af gR) rs) (by rw [getElem?_map,hΓ];rfl) ⟨.ref a,ea,a,_,rfl,ha,iM hr,hz⟩ λb w=>by cases w
 exact E1.iG (i:=j) (e0:=.no) (by rw [getElem?_set_ne hij,getElem?_map,hj];rfl) ⟨.ref b,eb,b,vs,rfl,hb,Paired.map (λ_ _=>ae.mono E.sub) pp,hzx⟩ λb w=>by cases w
theorem vG {a:Expr}{j:Nat}{p1 pos:Pos}{r:Row}(ha:EV X a Γ gR r Γ1):EV X (.Subscript a (.Constant (.int 0) j p1) pos) Γ ae r.1 Γ1:=λσ H0 R0 H R E Q q=>by
 refine eS (gx fF aE d8 (λ_ _=>rfl)) (ha σ H0 R0 H R E _ λv H1 R1 E1 s1 e1=>?_)
 obtain ⟨b,rfl,hb⟩:=e1
 exact ⟨b,_,0,.int r.1,rfl,rfl,aM.of (E1.sub _ _ hb),rfl,q _ H1 R1 E1 s1 rfl⟩
end
end Fc
namespace Fc
open PySem PySem.Spec L2
theorem WS.qM {X:Cx}{Γ:Ga}{N:Ga->Prop}{T:RT}(i:Nat){sts:List Stmt}{a:Addr}{as:List Addr}{rs:List Row}(hΓ:Γ[i]?=some (.ob (bW a as rs)))(h:as.length=rs.length->WS X sts Γ N T):WS X sts Γ N T:=λσ H0 R0 H R E D dn dr=>by
 obtain ⟨⟨v,ea,_,ha,hr,nd⟩,hR⟩:=E.ent i _ hΓ
 exact h hr.1 σ H0 R0 H R E D dn dr
end Fc
namespace K1
open PySem L2 Fc
open PySem.Spec hiding Row
open PyProof.Rows hiding St
open PySem.Builtin.Int (intBits)
abbrev bM:Row:=(0,0,0,0)
theorem c8:∀(l m:List Int),l.Nodup->(∀x∈l,x∈m)->l.length<=m.length
 | [],_,_,_=>Nat.zero_le _
 | a::l,m,nd,h=>by
   obtain ⟨n1,n2⟩:=nodup_cons.mp nd
   have am:=h a mem_cons_self
   have ih:=c8 l (m.erase a) n2 λx hx=>(List.mem_erase_of_ne (show x≠a from λe=>n1 (by rw [← e];exact hx))).mpr (h x (mem_cons_of_mem _ hx))
   have:=List.length_erase_of_mem am
   have:0 < m.length:=length_pos_of_mem am
   rw [length_cons];omega
structure j8 (parts:Int) (rs0 rs:List Row):Prop where
 len:rs.length=rs0.length
 same:∀(k:Nat) (r:Row),rs[k]?=some r->∃r0,rs0[k]?=some r0/\r.1=r0.1/\r.2.1=r0.2.1/\r.2.2.1=r0.2.2.1
 ok:∀r∈rs,r.2.2.2= -1∨(r.1 < r.2.2.2/\r.2.2.2 < parts)
theorem j8.set {parts:Int}{rs0 rs:List Row}(h:j8 parts rs0 rs){k:Nat}{r:Row}(hk:rs[k]?=some r){c:Int}(hc:r.1 < c/\c < parts):j8 parts rs0 (rs.set k (r.1,r.2.1,r.2.2.1,c)):=by
 have kl:=(List.getElem?_eq_some_iff.mp hk).1
 refine ⟨by rw [length_set];exact h.len,λj q hj=>?_,λq hq=>?_⟩
 ·by_cases e:k=j
  ·subst e
   rw [getElem?_set_self kl] at hj;cases hj
   exact h.same k r hk
  ·rw [getElem?_set_ne e] at hj;exact h.same j q hj
 ·rcases mem_or_eq_of_mem_set hq with z | z
  ·exact h.ok q z
  ·rw [z];exact .inr hc
structure wM (parts:Int) (rs0:List Row) (i:Nat) (rs:List Row) (free used:List Int):Prop where
 c:j8 parts rs0 rs
 nd:free.Nodup
 bd:∀k∈free,0<=k/\k < (rs0.length:Int)
 fr:∀k∈free,∀r,rs[k.toNat]?=some r->r.2.2.2= -1
 cov:∀k:Int,0<=k->k < (rs0.length:Int)->k∈free∨k∈used
 ulen:used.length=i
 cl:∀q:Nat,1<=q->q<=i->∃r∈rs,r.2.2.2=(q:Int)
theorem wM.one {parts:Int}{rs0:List Row}{i:Nat}{rs:List Row}{free used:List Int}(h:wM parts rs0 i rs free used)(hp:∀q:Nat,q<=i->∃(k:Nat) (r:Row),rs0[k]?=some r/\r.1=(q:Int)):∃k∈free,∀r,rs[k.toNat]?=some r->r.1 < (i:Int) + 1:=by
 refine Classical.byContradiction λno=>?_
 -- one row of each part,all different
 have reps:∀n:Nat,n<=i + 1->∃l:List Int,l.length=n/\l.Nodup/\∀x∈l,0<=x/\x < (rs0.length:Int)/\∃r,rs0[x.toNat]?=some r/\r.1 < (n:Int):=by
  intro n
  induction n with
  | zero=>intro _;exact ⟨[],rfl,nodup_nil,by simp⟩
  | succ n ih=>
    intro hn
    obtain ⟨l,l1,l2,l3⟩:=ih (by omega)
    obtain ⟨k,r,hk,hr⟩:=hp n (by omega)
    have kl:=(List.getElem?_eq_some_iff.mp hk).1
    refine ⟨(k:Int)::l,by rw [length_cons,l1],nodup_cons.mpr ⟨λz=>?_,l2⟩,λx hx=>?_⟩
    ·obtain ⟨_,_,r',h1,h2⟩:=l3 _ z
     rw [show ((k:Int)).toNat=k by omega,hk] at h1
     cases h1;omega
    ·rcases mem_cons.mp hx with rfl | z
     ·exact ⟨by omega,by omega,r,by rw [show ((k:Int)).toNat=k by omega];exact hk,by omega⟩
     ·obtain ⟨a,b,r',c,d⟩:=l3 x z
      exact ⟨a,b,r',c,by omega⟩
 obtain ⟨l,l1,l2,l3⟩:=reps (i + 1) (Nat.le_refl _)
 have:=c8 l used l2 λx hx=>by
  obtain ⟨a,b,r0,c,d⟩:=l3 x hx
  rcases h.cov x a b with z | z
  ·refine absurd ⟨x,z,λr hr=>?_⟩ no
   obtain ⟨r0',e1,e2,_⟩:=h.c.same _ r hr
   rw [c] at e1;cases e1
   omega
  ·exact z
 rw [l1,h.ulen] at this
 omega
section
variable {P:Program}{w:World}{K:PySem.W.Frag}{mg:Str->Option Value}{base:Heap}{f:Addr}{fd:FuncData}
abbrev sY:Stmt:=top mO
abbrev E8:List Str:=["_law_purse_here","_law_rows","_law_parts","_law_free","_law_part_here","_law_some","_law_k","_law_later","_law_pick"]
theorem zw:aB E8 ["_law_purse_here","_law_rows","_law_parts"] (ah sY):=fS0
structure oM (parts:Int) (rs0 rs:List Row):Prop where
 c:j8 parts rs0 rs
 cl:∀q:Nat,1<=q->(q:Int) < parts->∃r∈rs,r.2.2.2=(q:Int)
def SCL:sv:=λK s rs ps T=>∃(n parts:Int),cE n s/\n<=10000/\ps=[⟨ae,parts⟩]/\1<=parts/\parts<=4/\rs.length<=100/\(∀r∈rs,0<=r.1/\r.1 < parts/\r.2.2.2= -1)/\(∀q:Nat,(q:Int) < parts->∃(k:Nat) (r:Row),rs[k]?=some r/\r.1=(q:Int))/\T=λs' rs'=>bR K gK λ_=>cE (n + 200) s'/\oM parts rs rs'
theorem D2 (M:bN mg)(CD:ay P w K mg base "_law_draw" 1 (eN bo mZ K))(F:bI K "_law_called" "_law_called" sY f fd)(hm:mg "_law_called"=some (.ref f))(hb:Binds K fd ["_law_purse_here","_law_rows","_law_parts"] []):ay P w K mg base "_law_called" 2 (sq SCL K):=by
 have nd:=zw.nd
 have nd1:List.Nodup [("_law_k":Str),"_law_part_here","_law_rows"]:=by decide
 refine yK F zw hm hb (λ_ _ qs T ⟨_,_,_,_,e,_⟩=>by rw [e];rfl) (λcdv A outer s H E a b c cs st rs0 qs T hr hS=>?_)
 obtain ⟨n,parts,hP,n1,rfl,p1,p4,hl,hrow,hpart,rfl⟩:=hS
 have n0:0<=n:=Int.le_trans hP.t0 hP.t1
 change WS _ _ [.ob (bo.bx a b st),.ob (bW c cs rs0),.im ae parts,.no,.no,.no,.no,.no,.no] _ _
 refine ai (cG 3 (nK M.list M.range (r9 1 M.len rfl) ⟨by omega,by omega⟩) ?_)
 have e0:ups 0 ((rs0.length:Int)).toNat=ups 0 rs0.length:=by rw [show ((rs0.length:Int)).toNat=rs0.length by omega]
 rw [e0]
 refine ai (cv (r:=ae) (λi Γ=>∃st rs free used v4 v5 v6,Γ=[.ob (bo.bx a b st),.ob (bW c cs rs),.im ae parts,.mu ae free,v4,v5,v6,.no,.no]/\cE (n + i) st/\wM parts rs0 i rs free used/\free.length<=100)
  (nE M.range ar (aa 2 rfl) ⟨by decide,by decide,by omega,by omega⟩) (aG 4) ⟨st,rs0,ups 0 rs0.length,[],_,_,_,rfl,hP.mono (by omega),⟨⟨rfl,λk r hk=>⟨r,hk,rfl,rfl,rfl⟩,λr hr=>.inl (hrow r hr).2.2⟩,du _,λk hk=>bq.mp hk,λk _ r hr=>(hrow r (mem_of_getElem? hr)).2.2,λk k0 k1=>.inl (bq.mpr ⟨k0,k1⟩),rfl,λq q1 q2=>by omega⟩,by rw [aC];exact hl⟩ ?_ ?_)
 ·rintro i x Γ hx ⟨st,rs,free,used,v4,v5,v6,rfl,hP,hK,hfl⟩
  obtain ⟨hi,ex⟩:=iT hx
  have ex:x=(i:Int) + 1:=by omega
  subst ex
  have il:(i:Int) + 1 < parts:=by omega
  have hrl:=hK.c.len
  refine WS.qM 1 rfl λhcs=>?_
  have rg:∀k∈free,∃r,rs[k.toNat]?=some r:=λk hk=>⟨_,getElem?_eq_getElem (by have:=hK.bd k hk;omega)⟩
  have hkk:∀k∈free,cN rs k=some (rs.getD k.toNat bM):=λk hk=>bJ bM (hK.bd k hk).1 (by have:=hK.bd k hk;omega)
  refine ai (yT 5 (B9 (i:=1) (j:=3) (by decide) rfl rfl (aI (by omega)) (aI (by omega))) (own:=["_law_k"]) (fr:=["_law_part_here","_law_rows"]) (ix:=[4,1]) (ra:=ae) (rb:=ae) (p:=λk=>decide ((rs.getD k.toNat bM).1 < (i:Int) + 1)) (f:=λk=>k) (λ_ _ _ _ _ h=>h) (bj (so:=ah sY) (N0:=E8) rfl rfl (λx h=>aT h) (by decide +kernel)) (aR (aa 3 rfl))
   (λC s H ex=>aG 0) (λx=>⟨.inr rfl,.inl rfl,.inl rfl,trivial⟩) (λC s H ex x hx=>fU (bc e7 (vG (aJ (aa 2 rfl) (aa 0 rfl) (hkk x hx))) (aa 1 rfl))) (λC s H ex x hx _=>aa 0 rfl) ?_)
  have hid:((free.filter λk=>decide ((rs.getD k.toNat bM).1 < (i:Int) + 1)).map λk=>k)=free.filter λk=>decide ((rs.getD k.toNat bM).1 < (i:Int) + 1):=by simp
  rw [hid]
  have hne:free.filter (λk=>decide ((rs.getD k.toNat bM).1 < (i:Int) + 1))≠[]:=λz=>by
   obtain ⟨k,hk,hr⟩:=hK.one λq hq=>hpart q (by omega)
   have:k∈free.filter λk=>decide ((rs.getD k.toNat bM).1 < (i:Int) + 1):=by
    rw [mem_filter]
    refine ⟨hk,decide_eq_true ?_⟩
    obtain ⟨r,er⟩:=rg k hk
    rw [getD_eq_getElem?_getD,er];exact hr r er
   rw [z] at this;cases this
  have hsl:=length_filter_le (λk=>decide ((rs.getD k.toNat bM).1 < (i:Int) + 1)) free
  have hsub:∀k∈free.filter (λk=>decide ((rs.getD k.toNat bM).1 < (i:Int) + 1)),k∈free/\(rs.getD k.toNat bM).1 < (i:Int) + 1:=λk hk=>⟨(mem_filter.mp hk).1,of_decide_eq_true (mem_filter.mp hk).2⟩
  generalize free.filter (λk=>decide ((rs.getD k.toNat bM).1 < (i:Int) + 1))=sm at hne hsl hsub
  have sl:1<=sm.length:=by cases sm with
   | nil=>exact absurd rfl hne
   | cons=>simp
  obtain ⟨y,st1,y0,y1,hP1,hS⟩:=c7 hP (by omega) (b:=(sm.length:Int)) (by omega) (by omega)
  obtain ⟨k,hk⟩:∃k,sm[y.toNat]?=some k:=⟨_,getElem?_eq_getElem (by omega)⟩
  obtain ⟨kf,kp⟩:=hsub k (mem_of_getElem? hk)
  have kb:=hK.bd k kf
  refine ai (bg 6 (fc 5 (y:=k) (cj 0 CD hr (ag (g7 5 M.len rfl) aq) rfl rfl (hS _)) rfl rfl (by rw [e9 y0 (by omega)];exact hk)) ?_)
  obtain ⟨r,er⟩:=rg k kf
  rw [getD_eq_getElem?_getD,er] at kp
  have kp:r.1 < (i:Int) + 1:=kp
  obtain ⟨bk,hbk⟩:∃bk,cs[k.toNat]?=some bk:=⟨_,getElem?_eq_getElem (by omega)⟩
  refine ai (nV 1 (y:=(i:Int) + 1) (aa 4 rfl) (ju 1 (aa 6 rfl) rfl rfl (dH kb.1 (by omega)) hbk) rfl (kD hbk er) ?_)
  obtain ⟨j,hj,hno⟩:∃j:Nat,free[j]?=some k/\∀m,m < j->free[m]?≠some k:=by
   obtain ⟨j,hj⟩:=mem_iff_getElem?.mp kf
   refine ⟨j,hj,λm hm e=>?_⟩
   have q1:=List.getElem?_eq_some_iff.mp hj
   have q2:=List.getElem?_eq_some_iff.mp e
   have:=(getElem_inj (h₀:=q2.1) (h₁:=q1.1) hK.nd).mp (q2.2.trans q1.2.symm)
   omega
  refine ak (vZ 3 (aa 6 rfl) rfl rfl hj hno ?_)
  have jl:=(List.getElem?_eq_some_iff.mp hj)
  have em:∀z,z∈free.eraseIdx j↔z∈free/\z≠k:=λz=>by
   rw [List.mem_eraseIdx_iff_getElem?]
   constructor
   ·rintro ⟨m,m1,m2⟩
    refine ⟨mem_of_getElem? m2,λe=>m1 ?_⟩
    subst e
    have q2:=List.getElem?_eq_some_iff.mp m2
    exact (getElem_inj (h₀:=q2.1) (h₁:=jl.1) hK.nd).mp (q2.2.trans jl.2.symm)
   ·rintro ⟨m1,m2⟩
    obtain ⟨m,hm⟩:=mem_iff_getElem?.mp m1
    refine ⟨m,λe=>m2 ?_,hm⟩
    subst e
    rw [hj] at hm;exact (Option.some.inj hm).symm
  refine ⟨st1,_,free.eraseIdx j,k::used,_,_,_,rfl,hP1.mono (by omega),⟨hK.c.set er ⟨by omega,by omega⟩,hK.nd.sublist (List.eraseIdx_sublist _ _),λz hz=>hK.bd z ((em z).mp hz).1,λz hz q hq=>?_,λz z0 z1=>?_,by rw [length_cons,hK.ulen],λq q1 q2=>?_⟩,Nat.le_trans (List.length_eraseIdx_le _ _) hfl⟩
  ·obtain ⟨zf,zk⟩:=(em z).mp hz
   have zb:=hK.bd z zf
   rw [getElem?_set_ne (by omega)] at hq
   exact hK.fr z zf q hq
  ·rcases hK.cov z z0 z1 with h | h
   ·by_cases e:z=k
    ·exact .inr (by rw [e];simp)
    ·exact .inl ((em z).mpr ⟨h,e⟩)
   ·exact .inr (mem_cons_of_mem _ h)
  ·rcases Nat.lt_or_ge q (i + 1) with h | h
   ·obtain ⟨r',hr',e'⟩:=hK.cl q q1 (by omega)
    obtain ⟨j',hj'⟩:=mem_iff_getElem?.mp hr'
    refine ⟨r',mem_iff_getElem?.mpr ⟨j',?_⟩,e'⟩
    rw [getElem?_set_ne (λz=>?_)];· exact hj'
    subst z
    rw [er] at hj';cases hj'
    have:=hK.fr k kf r er
    omega
   ·have:q=i + 1:=by omega
    subst this
    exact ⟨(r.1,r.2.1,r.2.2.1,(i:Int) + 1),mem_iff_getElem?.mpr ⟨k.toNat,getElem?_set_self (by omega)⟩,by show (i:Int) + 1=_;omega⟩
 ·rintro Γ ⟨st,rs,free,used,v4,v5,v6,rfl,hP,hK,hfl⟩
  rw [aC] at hP hK
  have em:(parts - 1).toNat=(parts - 1).toNat:=rfl
  have hrl:=hK.c.len
  refine ak (cv (r:=ae) (λi Γ=>∃st rs v6 v7 v8,Γ=[.ob (bo.bx a b st),.ob (bW c cs rs),.im ae parts,.im (af ae) free,v4,v5,v6,v7,v8]/\cE (n + 10 + i) st/\oM parts rs0 rs/\∀m k,i<=m->free[m]?=some k->∀r,rs[k.toNat]?=some r->r.2.2.2= -1)
   (aR (fM 3 rfl (aI (by omega)))) (aG 6) ⟨st,rs,_,_,_,rfl,hP.mono (by omega),⟨hK.c,λq q1 q2=>hK.cl q q1 (by omega)⟩,λm k _ hk r hr=>hK.fr k (mem_of_getElem? hk) r hr⟩ ?_ ?_)
  ·rintro i k Γ hk ⟨st,rs,v6,v7,v8,rfl,hP,hC,hfr⟩
   have il:=(List.getElem?_eq_some_iff.mp hk).1
   have kb:=hK.bd k (mem_of_getElem? hk)
   have hl2:=hC.c.len
   refine WS.qM 1 rfl λhcs=>?_
   obtain ⟨r,er⟩:∃r,rs[k.toNat]?=some r:=⟨_,getElem?_eq_getElem (by omega)⟩
   obtain ⟨bk,hbk⟩:∃bk,cs[k.toNat]?=some bk:=⟨_,getElem?_eq_getElem (by omega)⟩
   obtain ⟨r0,er0,e1,_⟩:=hC.c.same _ r er
   have hr0:=hrow r0 (mem_of_getElem? er0)
   have hcol:∀(Γ':Ga) (pos p1 p2 p3:Pos) (jj:Nat),Γ'[6]?=some (.im ae k)->Γ'[1]?=some (.ob (bW c cs rs))->True:=λ_ _ _ _ _ _ _ _=>trivial
   refine ai (bg 7 (eM (eM (aa 2 rfl) ar) (uX 1 (c:=0) (y:=r.1) (ju 1 (aa 6 rfl) rfl rfl (dH kb.1 (by omega)) hbk) rfl (kD (r':=r) hbk er) rfl)) ?_)
   obtain ⟨y,st1,y0,y1,hP1,hS⟩:=c7 hP (by omega) (b:=3 * (parts - 1 - r.1) + 1) (by omega) (by omega)
   refine ai (bg 8 (cj 0 CD hr (ag (cu (B5 ar (aa 7 rfl) (.inl (by decide))) ar) aq) rfl rfl (hS _)) ?_)
   refine ak (bL (bc e7 (aa 8 rfl) (aa 7 rfl)) (λh=>?_) (λh=>bu ?_))
   ·have h:y < parts - 1 - r.1:=of_decide_eq_true h
    refine ak (nV 1 (y:=r.1 + 1 + y) (cu (cu (uX 1 (c:=0) (y:=r.1) (ju 1 (aa 6 rfl) rfl rfl (dH kb.1 (by omega)) hbk) rfl (kD (r':=r) hbk er) rfl) ar) (aa 8 rfl)) (ju 1 (aa 6 rfl) rfl rfl (dH kb.1 (by omega)) hbk) rfl (kD hbk er) ?_)
    refine ⟨st1,_,_,_,_,rfl,hP1.mono (by omega),⟨hC.c.set er ⟨by omega,by omega⟩,λq q1 q2=>?_⟩,λm k' hm hk' r' hr'=>?_⟩
    ·obtain ⟨r',hr',e'⟩:=hC.cl q q1 q2
     obtain ⟨j',hj'⟩:=mem_iff_getElem?.mp hr'
     refine ⟨r',mem_iff_getElem?.mpr ⟨j',?_⟩,e'⟩
     rw [getElem?_set_ne (λz=>?_)];· exact hj'
     subst z
     rw [er] at hj';cases hj'
     have:=hfr i k (Nat.le_refl _) hk r er
     omega
    ·have kb':=hK.bd k' (mem_of_getElem? hk')
     have:k.toNat≠k'.toNat:=λz=>by
      have e:k=k':=by omega
      subst e
      have q1:=List.getElem?_eq_some_iff.mp hk
      have q2:=List.getElem?_eq_some_iff.mp hk'
      have:=(getElem_inj (h₀:=q1.1) (h₁:=q2.1) hK.nd).mp (q1.2.trans q2.2.symm)
      omega
     rw [getElem?_set_ne this] at hr'
     exact hfr m k' (by omega) hk' r' hr'
   ·exact ⟨st1,_,_,_,_,rfl,hP1.mono (by omega),hC,λm k' hm hk' r' hr'=>hfr m k' (by omega) hk' r' hr'⟩
  ·rintro Γ ⟨st,rs,v6,v7,v8,rfl,hP,hC,_⟩
   exact ⟨st,rs,rfl,rfl,λ_ _ _=>⟨(),rfl,hP.mono (by omega),hC⟩⟩
end
section
variable {v:aw}
theorem jG {es es':List (Int×Int)}{s:Int}(h:∀t∈es,t∈es'){k:Int}(r:Reach es s k):Reach es' s k:=Reach.mono h r
structure C7 (k:Nat) (places:List Int) (rs:List Row):Prop where
 len:places.length=k
 part:∀(i:Nat) (m:Int),places[i]?=some m->∃ties,eo m ties/\∀a b,(∃r∈rs,r.1=(i:Int)/\r.2.1=a/\r.2.2.1=b)↔(a,b)∈ties
 row:∀r∈rs,0<=r.1/\r.1 < (k:Int)/\(r.2.2.2= -1∨(r.1 < r.2.2.2/\r.2.2.2 < (k:Int)))
 call:∀i:Nat,0 < i->i < k->∃r∈rs,r.2.2.2=(i:Int)
structure aQ (v:aw):Prop where
 good:C7 v.1.length v.1 v.2
 pl:1<=v.1.length/\v.1.length<=4
 rl:1<=v.2.length/\v.2.length<=60
 sz:∀m∈v.1,2<=m/\m<=16
theorem vW {xs:List Int}{x:Int×Int}:x∈nums xs↔∃i:Nat,x.1=(i:Int)/\xs[i]?=some x.2:=by
 constructor
 ·intro h
  obtain ⟨i,hi⟩:=mem_iff_getElem?.mp h
  exact ⟨i,hU hi⟩
 ·rintro ⟨i,h1,h2⟩
  refine mem_iff_getElem?.mpr ⟨i,?_⟩
  unfold nums
  rw [getElem?_map,List.getElem?_zipIdx,h2]
  obtain ⟨a,b⟩:=x
  simp at h1
  simp [h1]
theorem all_map {α:Type}{xs:List α}{g:α->Bool}:((xs.filter λ_=>true).map g).all id=true↔∀x∈xs,g x=true:=by
 rw [filter_eq_self.mpr (by simp),List.all_map,all_eq_true];rfl
structure vX (ns:List Int) (r:Row):Prop where
 p0:0<=r.1
 p1:r.1 < (ns.length:Int)
 s1:r.2.1≠1
 c0: -1<=r.2.2.2
 c1:r.2.2.2 < (ns.length:Int)
 s0:0<=r.2.1
 e0:0<=r.2.2.1
 sn:r.2.1 < ns.getD r.1.toNat 0
 en:r.2.2.1 < ns.getD r.1.toNat 0
 cp:¬(0<=r.2.2.2/\r.2.2.2<=r.1)
theorem uA {ns:List Int}{r:Row}(q:vX ns r):gP ns r=true:=by
 unfold gP
 have:=q.p0;have:=q.p1;have:=q.s1;have:=q.c0;have:=q.c1;have:=q.s0;have:=q.e0;have h1:=q.sn;have h2:=q.en;have:=q.cp
 rw [getD_eq_getElem?_getD] at h1 h2
 rw [if_neg (by simp;omega),if_neg (by simp [getD_eq_getElem?_getD];omega)]
 simp
 omega
theorem aQ.cL (h:aQ v){r:Row}(hr:r∈v.2):vX v.1 r:=by
 have q:=h.good.row r hr
 obtain ⟨m,hm⟩:∃m,v.1[r.1.toNat]?=some m:=⟨_,getElem?_eq_getElem (by omega)⟩
 obtain ⟨ts,hg,hts⟩:=h.good.part _ _ hm
 have b:=hg.bd (r.2.1,r.2.2.1) ((hts _ _).mp ⟨r,hr,by omega,rfl,rfl⟩)
 have e:v.1.getD r.1.toNat 0=m:=by rw [getD_eq_getElem?_getD,hm];rfl
 refine ⟨q.1,q.2.1,b.2.2.1,by omega,by omega,b.1,b.2.2.2.1,by rw [e];exact b.2.1,by rw [e];exact b.2.2.2.2,by omega⟩
theorem gj {rs:List Row}{p a b:Int}:(a,b)∈fwd rs p↔∃r∈rs,r.1=p/\r.2.1=a/\r.2.2.1=b:=by
 unfold fwd
 simp only [mem_map,mem_filter,decide_eq_true_eq,Prod.mk.injEq]
 constructor
 ·rintro ⟨r,⟨h1,h2⟩,h3,h4⟩;exact ⟨r,h1,h2,h3,h4⟩
 ·rintro ⟨r,h1,h2,h3,h4⟩;exact ⟨r,⟨h1,h2⟩,h3,h4⟩
theorem mx {rs:List Row}{p a b:Int}:(a,b)∈bwd rs p↔∃r∈rs,r.1=p/\r.2.2.1=a/\r.2.1=b:=by
 unfold bwd
 simp only [mem_map,mem_filter,decide_eq_true_eq,Prod.mk.injEq]
 constructor
 ·rintro ⟨r,⟨h1,h2⟩,h3,h4⟩;exact ⟨r,h1,h2,h3,h4⟩
 ·rintro ⟨r,h1,h2,h3,h4⟩;exact ⟨r,⟨h1,h2⟩,h3,h4⟩
theorem aQ.toEnd (h:aQ v){i:Nat}{m:Int}(hi:v.1[i]?=some m){k:Int}(k0:0<=k)(k1:k < m):Reach (bwd v.2 i) 1 k:=by
 obtain ⟨ts,hg,hts⟩:=h.good.part i m hi
 refine jG (λt ht=>?_) (hg.bw k k0 k1)
 obtain ⟨a,b⟩:=t
 obtain ⟨r,hr,e0,e1,e2⟩:=(hts b a).mpr (fI.mp ht)
 exact mx.mpr ⟨r,hr,e0,e2,e1⟩
theorem aQ.jN (h:aQ v){i:Nat}{m:Int}(hi:v.1[i]?=some m){k:Int}(k0:0<=k)(k1:k < m):Reach (fwd v.2 i) 0 k:=by
 obtain ⟨ts,hg,hts⟩:=h.good.part i m hi
 refine jG (λt ht=>?_) (hg.fw k k0 k1)
 obtain ⟨a,b⟩:=t
 obtain ⟨r,hr,e0,e1,e2⟩:=(hts a b).mpr ht
 exact gj.mpr ⟨r,hr,e0,e1,e2⟩
open Classical in
theorem me {es:List (Int×Int)}{s n:Int}(hes:∀a b,(a,b)∈es->0<=b/\b < n)(h0:0<=s)(h1:s < n)(h:∀k,0<=k->k < n->Reach es s k):iZ es s n=true:=by
 unfold iZ
 rw [decide_eq_true_eq]
 refine ⟨ups 0 n.toNat,du _,λk=>⟨λhk=>?_,λhk=>?_⟩,by rw [aC];omega⟩
 ·have:=bq.mp hk
  exact h k (by omega) (by omega)
 ·have:0<=k/\k < n:=by
   cases hk with
   | base=>exact ⟨h0,h1⟩
   | step _ m=>exact hes _ _ m
  exact bq.mpr (by omega)
theorem aQ.Dx {v:aw}(h:aQ v):k8 v=true:=by
 have pl:=h.pl
 have rl:=h.rl
 have hsz:fo v=true:=by
  unfold fo
  rw [if_neg (by simp;omega),all_map]
  intro m hm
  have:=h.sz m hm
  simp;omega
 unfold k8
 rw [if_neg (by rw [hsz];decide)]
 have h2:(List.map (gP v.1) (List.filter (λ_=>true) v.2)).all id=true:=all_map.mpr λr hr=>uA (h.cL hr)
 rw [if_neg (by rw [h2];decide)]
 have h3:(List.map (called v.2) (List.filter (λ_=>true) (ups (0 + 1) ((v.1.length:Int) - (0 + 1)).toNat))).all id=true:=all_map.mpr λp hp=>by
  unfold ups at hp
  obtain ⟨k,hk,rfl⟩:=mem_map.mp hp
  have hk:=mem_range.mp hk
  obtain ⟨r,hr1,hr2⟩:=h.good.call (k + 1) (by omega) (by omega)
  unfold called
  rw [filter_eq_self.mpr (by simp),any_map,any_eq_true]
  exact ⟨r,hr1,by simp [hr2];omega⟩
 rw [if_neg (by rw [h3];decide)]
 refine all_map.mpr λx hx=>?_
 obtain ⟨i,h1,hi⟩:=vW.mp hx
 have nb:=h.sz _ (mem_of_getElem? hi)
 have hd:∀r∈v.2,r.1=(i:Int)->v.1.getD r.1.toNat 0=x.2:=λr hr hp=>by
  rw [hp,getD_eq_getElem?_getD,show ((i:Int)).toNat=i by omega,hi];rfl
 unfold nT
 rw [h1,Bool.and_eq_true]
 refine ⟨me (λa b hab=>?_) (by decide) (by omega) λk k0 k1=>h.jN hi k0 k1,me (λa b hab=>?_) (by decide) (by omega) λk k0 k1=>h.toEnd hi k0 k1⟩
 ·obtain ⟨r,hr,hp,e1,e2⟩:=gj.mp hab
  have q:=h.cL hr
  have q1:=q.en;rw [hd r hr hp] at q1
  rw [← e2];exact ⟨q.e0,q1⟩
 ·obtain ⟨r,hr,hp,e1,e2⟩:=mx.mp hab
  have q:=h.cL hr
  have q1:=q.sn;rw [hd r hr hp] at q1
  rw [← e2];exact ⟨q.s0,q1⟩
def dC (rs:List Row)(p:Nat):Prop:=∃rk:Int->Int,∀r∈rs,r.1=(p:Int)->rk r.2.1 < rk r.2.2.1
structure gy (loose:Bool) (i:Nat) (places:List Int) (rs:List Row):Prop where
 len:places.length=i
 sz:∀m∈places,2<=m/\m<=16
 part:∀(p:Nat) (m:Int),places[p]?=some m->∃ties,eo m ties/\∀a b,(∃r∈rs,r.1=(p:Int)/\r.2.1=a/\r.2.2.1=b)↔(a,b)∈ties
 row:∀r∈rs,0<=r.1/\r.1 < (i:Int)/\r.2.2.2= -1
 has:∀p:Nat,p < i->∃(k:Nat) (r:Row),rs[k]?=some r/\r.1=(p:Int)
 up:loose=true->∀p:Nat,p < i->dC rs p
theorem gy.nil (loose:Bool):gy loose 0 [] []:=⟨rfl,by simp,by simp,by simp,λp h=>by omega,λ_ p h=>by omega⟩
theorem gy.more {loose:Bool}{i m:Nat}{places:List Int}{rs:List Row}(h:gy loose i places rs){size:Int}{ties:List (Int×Int)}(hp:kc loose m size ties):gy loose (i + 1) (places++[size]) (rs++ties.map λ(t:Int×Int)=>((i:Int),t.1,t.2,(-1:Int))):=by
 have hl:=h.len
 have nw:∀r,r∈ties.map (λ(t:Int×Int)=>((i:Int),t.1,t.2,(-1:Int)))↔r.1=(i:Int)/\r.2.2.2= -1/\(r.2.1,r.2.2.1)∈ties:=λr=>by
  rw [mem_map]
  constructor
  ·rintro ⟨t,ht,rfl⟩;exact ⟨rfl,rfl,ht⟩
  ·rintro ⟨a,b,c⟩
   refine ⟨_,c,?_⟩
   obtain ⟨r1,r2,r3,r4⟩:=r
   simp only at a b
   subst a;subst b;rfl
 refine ⟨by rw [length_append,hl];rfl,λz hz=>?_,λp z hz=>?_,λr hr=>?_,λp hp'=>?_,λe p hp'=>?_⟩
 ·rcases mem_append.mp hz with q | q
  ·exact h.sz z q
  ·rw [mem_singleton.mp q];exact ⟨hp.good.m2,hp.le⟩
 ·rcases Nat.lt_or_ge p i with pl | pl
  ·rw [getElem?_append_left (by omega)] at hz
   obtain ⟨ts,g1,g2⟩:=h.part p z hz
   refine ⟨ts,g1,λa b=>?_⟩
   rw [← g2 a b]
   constructor
   ·rintro ⟨r,hr,r1,r2⟩
    rcases mem_append.mp hr with q | q
    ·exact ⟨r,q,r1,r2⟩
    ·have:=((nw r).mp q).1;omega
   ·rintro ⟨r,hr,r1⟩;exact ⟨r,mem_append_left _ hr,r1⟩
  ·have pe:p=i:=by
    have:=(List.getElem?_eq_some_iff.mp hz).1
    rw [length_append,hl] at this
    simp at this;omega
   subst pe
   rw [getElem?_append_right (by omega),hl,Nat.sub_self] at hz
   have hz:size=z:=by simpa using hz
   subst hz
   refine ⟨ties,hp.good,λa b=>?_⟩
   constructor
   ·rintro ⟨r,hr,r1,r2,r3⟩
    rcases mem_append.mp hr with q | q
    ·have:=(h.row r q).2.1;omega
    ·have:=((nw r).mp q).2.2
     rw [r2,r3] at this;exact this
   ·intro hab
    exact ⟨((p:Int),a,b, -1),mem_append_right _ ((nw _).mpr ⟨rfl,rfl,hab⟩),rfl,rfl,rfl⟩
 ·rcases mem_append.mp hr with q | q
  ·have:=h.row r q;exact ⟨this.1,by omega,this.2.2⟩
  ·have:=(nw r).mp q;exact ⟨by omega,by omega,this.2.1⟩
 ·rcases Nat.lt_or_ge p i with pl | pl
  ·obtain ⟨k,r,a,b⟩:=h.has p pl
   exact ⟨k,r,by rw [getElem?_append_left (List.getElem?_eq_some_iff.mp a).1];exact a,b⟩
  ·have pe:p=i:=by omega
   subst pe
   have tl:=hp.len
   have hm:((p:Int),(ties[0]'(by omega)).1,(ties[0]'(by omega)).2,(-1:Int))∈rs++ties.map λ(t:Int×Int)=>((p:Int),t.1,t.2,(-1:Int)):=mem_append_right _ (mem_map.mpr ⟨_,getElem_mem (by omega),rfl⟩)
   obtain ⟨k,hk⟩:=mem_iff_getElem?.mp hm
   exact ⟨k,_,hk,rfl⟩
 ·rcases Nat.lt_or_ge p i with pl | pl
  ·obtain ⟨rk,hrk⟩:=h.up e p pl
   refine ⟨rk,λr hr r1=>?_⟩
   rcases mem_append.mp hr with q | q
   ·exact hrk r q r1
   ·have:=((nw r).mp q).1;omega
  ·have pe:p=i:=by omega
   subst pe
   obtain ⟨rk,hrk⟩:=hp.up e
   refine ⟨rk,λr hr r1=>?_⟩
   rcases mem_append.mp hr with q | q
   ·have:=(h.row r q).2.1;omega
   ·exact hrk _ ((nw r).mp q).2.2
structure AQ (loose:Bool) (v:aw):Prop where
 g:aQ v
 le:v.2.length<=30
 up:loose=true->∀p:Nat,p < v.1.length->dC v.2 p
theorem yw {loose:Bool}{parts:Nat}{places:List Int}{rs0 rs rs':List Row}(h:gy loose parts places rs0)(p1:1<=parts)(p4:parts<=4)(hc:oM (parts:Int) rs0 rs)(hl:rs0.length<=30)(hm:∀r,r∈rs'↔r∈rs)(hl':rs'.length=rs.length):AQ loose (places,rs'):=by
 have hlen:=h.len
 have fw:∀r∈rs,∃r0∈rs0,r.1=r0.1/\r.2.1=r0.2.1/\r.2.2.1=r0.2.2.1:=λr hr=>by
  obtain ⟨k,hk⟩:=mem_iff_getElem?.mp hr
  obtain ⟨r0,a,b⟩:=hc.c.same k r hk
  exact ⟨r0,mem_of_getElem? a,b⟩
 have bw:∀r0∈rs0,∃r∈rs,r.1=r0.1/\r.2.1=r0.2.1/\r.2.2.1=r0.2.2.1:=λr0 hr=>by
  obtain ⟨k,hk⟩:=mem_iff_getElem?.mp hr
  have kl:=(List.getElem?_eq_some_iff.mp hk).1
  have kl2:k < rs.length:=by rw [hc.c.len];exact kl
  obtain ⟨r0',a,b⟩:=hc.c.same k _ (getElem?_eq_getElem kl2)
  rw [hk] at a;cases a
  exact ⟨_,getElem_mem kl2,b⟩
 have n1:1<=rs'.length:=by
  obtain ⟨k,r,a,_⟩:=h.has 0 (by omega)
  have:=(List.getElem?_eq_some_iff.mp a).1
  rw [hl',hc.c.len];omega
 refine ⟨⟨⟨rfl,λi m hi=>?_,λr hr=>?_,λi i0 i1=>?_⟩,by show 1<=places.length/\places.length<=4;omega,by show 1<=rs'.length/\rs'.length<=60;rw [hl',hc.c.len] at *;omega,h.sz⟩,by show rs'.length<=30;rw [hl',hc.c.len];exact hl,λe p hp=>?_⟩
 ·obtain ⟨ties,g1,g2⟩:=h.part i m hi
  refine ⟨ties,g1,λa b=>?_⟩
  rw [← g2 a b]
  constructor
  ·rintro ⟨r,hr,r1,r2,r3⟩
   obtain ⟨r0,h0,e1,e2,e3⟩:=fw r ((hm r).mp hr)
   exact ⟨r0,h0,by omega,by omega,by omega⟩
  ·rintro ⟨r0,h0,r1,r2,r3⟩
   obtain ⟨r,hr,e1,e2,e3⟩:=bw r0 h0
   exact ⟨r,(hm r).mpr hr,by omega,by omega,by omega⟩
 ·have hr:=(hm r).mp hr
  obtain ⟨r0,h0,e1,_⟩:=fw r hr
  have a:=h.row r0 h0
  have b:=hc.c.ok r hr
  show 0<=r.1/\r.1 < (places.length:Int)/\(r.2.2.2= -1∨(r.1 < r.2.2.2/\r.2.2.2 < (places.length:Int)))
  omega
 ·have i1:i < places.length:=i1
  obtain ⟨r,hr,e⟩:=hc.cl i i0 (by omega)
  exact ⟨r,(hm r).mpr hr,e⟩
 ·have hp:p < places.length:=hp
  obtain ⟨rk,hrk⟩:=h.up e p (by omega)
  refine ⟨rk,λr hr r1=>?_⟩
  obtain ⟨r0,h0,e1,e2,e3⟩:=fw r ((hm r).mp hr)
  have:=hrk r0 h0 (by omega)
  rw [e2,e3];exact this
end
section
variable {P:Program}{w:World}{K:PySem.W.Frag}{mg:Str->Option Value}{base:Heap}{f:Addr}{fd:FuncData}
abbrev qu:Stmt:=top pR
abbrev zP:List Str:=["_law_purse_here","_law_loose","_law_parts","_law_left","_law_places","_law_rows","_law_part_here","_law_many","_law_size","_law_told"]
theorem Bd:aB zP ["_law_purse_here","_law_loose"] (ah qu):=fS0
def Eb:jF Pu:=λK s ps T=>∃(n:Int) (loose:Bool),cE n s/\n<=1000/\ps=[⟨aW,loose⟩]/\T=λs'=>bR K bO λv=>cE (n + 2000) s'/\AQ loose v
theorem Cr (M:bN mg)(CD:ay P w K mg base "_law_draw" 1 (eN bo mZ K))(CO:ay P w K mg base "_law_order" 2 (eN bo xJ K))(CP:ay P w K mg base "_law_part" 3 (eN bo Ec K))(CC:ay P w K mg base "_law_called" 2 (sq SCL K))(F:bI K "_law_web" "_law_web" qu f fd)(hm:mg "_law_web"=some (.ref f))(hb:Binds K fd ["_law_purse_here","_law_loose"] []):ay P w K mg base "_law_web" 4 (eN bo Eb K):=by
 have nd:=Bd.nd
 have nd1:List.Nodup [("_law_one":Str),"_law_other","_law_part_here"]:=by decide
 have nd2:List.Nodup [("_law_k":Str),"_law_rows"]:=by decide
 have CD:=CD.mono (show 1<=3 by decide)
 have CO:=CO.mono (show 2<=3 by decide)
 have CC:=CC.mono (show 2<=3 by decide)
 refine ie F Bd hm hb (λxs qs T ⟨_,_,_,_,e,_⟩=>by rw [e];rfl) (λcdv A outer s H E a b st qs T hr hS=>?_)
 obtain ⟨n,loose,hP,n1,rfl,rfl⟩:=hS
 have n0:0<=n:=Int.le_trans hP.t0 hP.t1
 change WS _ _ [.ob (bo.bx a b st),.im aW loose,.no,.no,.no,.no,.no,.no,.no,.no] _ _
 obtain ⟨d,st1,d0,d1,hP1,hS1⟩:=c7 hP (by omega) (b:=4) (by decide) (by decide)
 refine ai (bg 2 (cu ar (cj 0 CD hr (ag ar aq) rfl rfl (hS1 _))) ?_)
 obtain ⟨parts,hparts⟩:∃parts:Nat,1 + d=(parts:Int):=⟨(1 + d).toNat,by omega⟩
 rw [hparts]
 refine ai (bg 3 (eM ar (aa 2 rfl)) ?_)
 refine ai (cG 4 (r:=ae) (aO bh (by decide)) (ai (cG 5 (r:=ae) (aO bh (by decide)) ?_)))
 refine WS.yM 5 rfl λc=>?_
 refine ai (cv (r:=ae) (λi Γ=>∃st left places c cs rs v6 v7 v8 v9,Γ=[.ob (bo.bx a b st),.im aW loose,.im ae (parts:Int),.im ae left,.mu ae places,.ob (bW c cs rs),v6,v7,v8,v9]/\cE (n + 1 + 202 * i) st/\gy loose i places rs/\0<=left/\(rs.length:Int) + left=29 - parts + i)
  (fD M.range (aa 2 rfl) ⟨by omega,by omega⟩) (aG 6) ⟨st1,_,[],c,[],[],_,_,_,_,rfl,hP1.mono (by omega),gy.nil loose,by omega,by simp⟩ ?_ ?_)
 ·rintro i x Γ hx ⟨st,left,places,c,cs,rs,v6,v7,v8,v9,rfl,hP,hW,l0,hl⟩
  obtain ⟨hi,rfl⟩:=iT hx
  have e0:(0:Int) + (i:Int)=(i:Int):=by omega
  rw [e0]
  change WS _ _ [.ob (bo.bx a b st),.im aW loose,.im ae (parts:Int),.im ae left,.mu ae places,.ob (bW c cs rs),.im ae (i:Int),v7,v8,v9] _ _
  obtain ⟨c3,st2,c0,c1,hP2,hS2⟩:=c7 hP (by omega) (b:=3) (by decide) (by decide)
  obtain ⟨q,hq,q0,q1⟩:∃q:Int,cN [(4:Int),8,30] c3=some q/\4<=q/\q<=30:=by
   rcases (show c3=0∨c3=1∨c3=2 by omega) with rfl | rfl | rfl
   ·exact ⟨4,rfl,by decide,by decide⟩
   ·exact ⟨8,rfl,by decide,by decide⟩
   ·exact ⟨30,rfl,by decide,by decide⟩
  obtain ⟨y,st3,y0,y1,hP3,hS3⟩:=c7 hP2 (by omega) (b:=q) (by omega) (by omega)
  refine ai (bg 7 (yQ M.min (ag (aa 3 rfl) (ag (cj 0 CD hr (ag (aJ (aY.im (aO (aN ar (aN ar (aN ar bh))) (by show 3<=sizeLine;decide))) (cj 0 CD hr (ag ar aq) rfl rfl (hS2 _)) hq) aq) rfl rfl (hS3 _)) aq))) ?_)
  obtain ⟨m,hm'⟩:∃m:Nat,(if y < left then y else left)=(m:Int):=⟨(if y < left then y else left).toNat,by split<;>omega⟩
  rw [hm']
  have ml:(m:Int)<=left:=by rw [← hm'];split<;>omega
  refine ai (bg 3 (eM (aa 3 rfl) (aa 7 rfl)) ?_)
  refine ai (lj 0 CP hr (ag (aa 7 rfl) (ag (aa 1 rfl) aq)) rfl rfl ⟨n + 1 + 202 * i + 1 + 1,m,loose,hP3,by omega,rfl,by omega,rfl⟩ (fG 8 9) ?_)
  rintro st4 ⟨size,told⟩ ⟨hP4,hPO⟩
  have tl:told.length=m + 1:=hPO.len
  have wl:=hW.len
  have ple:parts<=4:=by omega
  refine ai (cS 4 (aa 8 rfl) rfl rfl (Nat.lt_of_le_of_lt (show places.length<=100 by omega) (by decide)) ?_)
  refine ak (vh 5 (own:=["_law_one","_law_other"]) (fr:=["_law_part_here"]) (ix:=[6]) (ra:=fP ae) (f:=λ(t:Int×Int)=>((i:Int),t.1,t.2,(-1:Int))) (bj (so:=ah qu) (N0:=zP) rfl rfl (λx h=>aT h) (by decide +kernel)) (aR (aa 9 rfl))
   (λC s H ex=>mw 0 1) (λx=>⟨.inr rfl,.inr rfl,.inl rfl,trivial⟩) (λx=>⟨trivial,trivial,trivial,trivial⟩) (λC s H ex x hx=>aO (aN (aa 2 rfl) (aN (aa 0 rfl) (aN (aa 1 rfl) (aN (dt ar) bh)))) (by show 4<=sizeLine;decide)) rfl (aI (by show rs.length + told.length<=_;omega)) λdd bs=>?_)
  exact ⟨st4,_,_,_,_,_,_,_,_,_,rfl,hP4.mono (by omega),hW.more hPO,by omega,by rw [length_append,length_map];show ((rs.length + told.length:Nat):Int) + _=_;omega⟩
 ·rintro Γ ⟨st,left,places,c,cs,rs,v6,v7,v8,v9,rfl,hP,hW,l0,hl⟩
  rw [aC,show ((parts:Int)).toNat=parts by omega] at hP hW hl
  have wl:=hW.len
  refine ai (vU 0 5 CC hr (by decide) (ag (aa 2 rfl) aq) rfl rfl ⟨n + 1 + 202 * parts,(parts:Int),hP,by omega,rfl,by omega,by omega,by omega,λr hr=>hW.row r hr,λq hq=>hW.has q (by omega),rfl⟩ ?_)
  rintro st1 rs1 ⟨hP1,hC⟩
  have rl:=hC.c.len
  change WS _ _ [.ob (bo.bx a b st1),.im aW loose,.im ae (parts:Int),.im ae left,.mu ae places,.ob (bW c cs rs1),v6,v7,v8,v9] _ _
  refine WS.outer 5 rfl ?_
  refine WS.zh 5 rfl (aI (by omega)) ?_
  change WS _ _ [.ob (bo.bx a b st1),.im aW loose,.im ae (parts:Int),.im ae left,.mu ae places,.im (af gR) rs1,v6,v7,v8,v9] _ _
  obtain ⟨xs,st2,hP2,hX,hS⟩:=qG hP1 (by omega) (by omega) (m:=rs1.length) (by omega)
  have xl:=hX.len
  have hid:((xs.filter λ_=>true).map λk=>rs1.getD k.toNat bM)=xs.map λk=>rs1.getD k.toNat bM:=by rw [filter_eq_self.mpr (by simp)]
  refine ak (ia 0 (B:=bo) (y:=(places,xs.map λk=>rs1.getD k.toNat bM)) (dj (r:=af ae) (r':=af ax) (ag (fM 4 rfl (aI (by omega))) (ag (EV.cast (aY.im (bF (own:=["_law_k"]) (fr:=["_law_rows"]) (ix:=[5]) (ra:=ae) (rb:=ax) (p:=λ_=>true) (f:=λk=>rs1.getD k.toNat bM) (bj (so:=ah qu) (N0:=zP) rfl rfl (λx h=>aT h) (by decide +kernel)) (aR (cj 0 CO hr (ag (bQ M.len (aa 5 rfl)) aq) rfl rfl (hS _)))
   (λC s H ex=>aG 0) (λx=>⟨.inr rfl,.inl rfl,trivial⟩) (λC s H ex x hx=>cf) (λC s H ex x hx _=>m8 M.tuple (aJ (aa 1 rfl) (aa 0 rfl) (bJ bM ((hX.mem x).mp hx).1 ((hX.mem x).mp hx).2))))) hid) aq))) rfl ⟨hP2.mono (by omega),yw hW (by omega) (by omega) hC (by omega) (λr=>?_) (by rw [length_map];exact xl)⟩)
  rw [mem_map]
  constructor
  ·rintro ⟨k,hk,rfl⟩
   have kb:=(hX.mem k).mp hk
   rw [getD_eq_getElem?_getD,getElem?_eq_getElem (by omega)]
   exact getElem_mem _
  ·intro hr'
   obtain ⟨j,hj⟩:=mem_iff_getElem?.mp hr'
   have jl:=(List.getElem?_eq_some_iff.mp hj).1
   exact ⟨(j:Int),(hX.mem _).mpr (by omega),by rw [show ((j:Int)).toNat=j by omega,getD_eq_getElem?_getD,hj];rfl⟩
end
end K1
namespace Fc
open PySem PySem.Spec L2
open PyProof.Rows hiding St
section
variable {X:Cx}{Γ Γ1 Γ2 Γ3:Ga}{α β γ δ:Type}{N:Ga->Prop}{T:RT}
theorem pK {a:Expr}{p pos:Pos}{r:Row}(hm:X.mg "list"=none)(ha:EV X a Γ ax r Γ1)(hs:starEach [a] X.env=[(false,eval a X.env)]:=by rfl)(hg:Gl X "list":=by rfl):aY X (.Call (.Name "list" p) [a] [] pos) Γ ae (oP r) Γ1:=λσ H0 R0 H R E Q q=>by
 refine eS (gJ jW hg hm PyProof.Rows.boot_list (aL aE bz hs) (by decide) (by decide) hs) (ha σ H0 R0 H R E _ λv H1 R1 E1 s1 e1=>?_)
 obtain ⟨b,rfl,hb⟩:=e1
 refine ⟨b,_,rfl,.inr (dm.of (E1.sub _ _ hb)),λl hl=>?_⟩
 exact q l _ _ R1 (E1.grow (Ext.cn E1.sub hl _)) s1 au (E1.sub.free hl) (E1.ext.h.free hl) (E1.off hl) (paired_ints (oP r)) (by show 4<=sizeLine;decide)
theorem EV.FI {e:Expr}{r:Row}(h:EV X e Γ (af ae) (oP r) Γ1):EV X e Γ gR r Γ1:=EV.rep h λK R q=>by
 obtain ⟨b,vs,e,hb,pp,_⟩:=q
 exact ⟨b,e,by rw [hb,dM pp];rfl⟩
end
end Fc
namespace K1
open PySem L2 Fc
open PySem.Spec hiding Row
open PyProof.Rows hiding St
open PySem.Builtin.Int (intBits)
def rowOf (v:aw)(k:Int):Row:=v.2.getD k.toNat bM
section
variable {P:Program}{w:World}{K:PySem.W.Frag}{mg:Str->Option Value}{base:Heap}{f:Addr}{fd:FuncData}
abbrev vz:Stmt:=top oX
theorem A4:aB ["_law_web_here"] ["_law_web_here"] (ah vz):=fS0
def EX:bX:=λK ps T=>∃v:aw,ps=[⟨bO,v⟩]/\T=bR K bO (· =v)
theorem DT (M:bN mg)(F:bI K "_law_copy" "_law_copy" vz f fd)(hm:mg "_law_copy"=some (.ref f))(hb:Binds K fd ["_law_web_here"] []):ay P w K mg base "_law_copy" 1 (aF EX K):=by
 have nd:=A4.nd
 have nd1:List.Nodup [("_law_row":Str)]:=by decide
 refine bG F A4 hm hb (λqs T ⟨_,e,_⟩=>by rw [e];rfl) (λcdv A outer s H E qs T hr hS=>?_)
 obtain ⟨v,rfl,rfl⟩:=hS
 change WS _ _ [.im (av (af ae) (af ax)) v] _ _
 have hid:((v.2.filter λ_=>true).map λr=>r)=v.2:=by rw [filter_eq_self.mpr (by simp)];simp
 exact ak (bK (r:=av (af ae) (af ax)) (dj (ag (aY.im (oj M.list (d5 (r:=af ae) (r':=af ax) (aa 0 rfl)))) (ag (EV.cast (aY.im (bF (own:=["_law_row"]) (fr:=[]) (ix:=[]) (ra:=ax) (rb:=ax) (p:=λ_=>true) (f:=λr=>r) (bj (so:=ah vz) (N0:=["_law_web_here"]) rfl rfl (λx h=>aT h) (by decide +kernel)) (aR (bb (r:=af ae) (r':=af ax) (aa 0 rfl)))
  (λC s H ex=>aG 0) (λx=>⟨.inr rfl,trivial⟩) (λC s H ex x hx=>cf) (λC s H ex x hx _=>m8 M.tuple (EV.FI (aY.im (pK M.list (aa 0 rfl))))))) hid) aq))) rfl)
end
end K1
namespace Fc
open PySem PySem.Spec L2
open PyProof.Rows hiding St
section
variable {X:Cx}{Γ Γ1 Γ2 Γ3:Ga}{α β γ δ:Type}{N:Ga->Prop}{T:RT}
end
end Fc
namespace K1
open PySem L2 Fc
open PySem.Spec hiding Row
open PyProof.Rows hiding St
open PySem.Builtin.Int (intBits)
section
variable {P:Program}{w:World}{K:PySem.W.Frag}{mg:Str->Option Value}{base:Heap}{f:Addr}{fd:FuncData}
abbrev x8:Stmt:=top pW
theorem Bg:aB ["web"] ["web"] (ah x8):=fS0
def xg:bX:=λK ps T=>∃v:aw,ps=[⟨bO,v⟩]/\aQ v/\T=bR K gK (λ_=>True)
theorem DE (CW:ay P w K mg base "is_web" 5 (aF EL K))(F:bI K "need_web" "need_web" x8 f fd)(hm:mg "need_web"=some (.ref f))(hb:Binds K fd ["web"] []):ay P w K mg base "need_web" 6 (aF xg K):=by
 have nd:=Bg.nd
 refine uy F Bg hm hb (λqs T ⟨_,e,_⟩=>by rw [e];rfl) (λcdv A outer s H E qs T hr hS=>?_)
 obtain ⟨v,rfl,hv,rfl⟩:=hS
 have pl:=hv.pl
 have rl:=hv.rl
 refine ⟨λ_ _ _=>⟨(),rfl,trivial⟩,?_⟩
 change WS _ _ [.im bO v] _ _
 refine ak (bL (bY (bV (bA CW hr (ag (aa 0 rfl) aq) ⟨v,rfl,by omega,by omega,rfl⟩))) (λh=>?_) (λh=>bu trivial))
 rw [hv.Dx] at h;exact absurd h (by decide)
end
section
variable {P:Program}{w:World}{K:PySem.W.Frag}{mg:Str->Option Value}{base:Heap}{f:Addr}{fd:FuncData}
abbrev xR:Stmt:=top r8
theorem Bc:aB ["web","part"] ["web","part"] (ah xR):=fS0
def Eu:bX:=λK ps T=>∃(v:aw) (p:Int),ps=[⟨bO,v⟩,⟨ae,p⟩]/\0<=p/\p < (v.1.length:Int)/\T=bR K aW (· =true)
theorem Cv (M:bN mg)(CI:ay P w K mg base "is_whole" 1 (aF uw K))(F:bI K "is_part" "is_part" xR f fd)(hm:mg "is_part"=some (.ref f))(hb:Binds K fd ["web","part"] []):ay P w K mg base "is_part" 2 (aF Eu K):=by
 have nd:=Bc.nd
 refine bG F Bc hm hb (λqs T ⟨_,_,e,_⟩=>by rw [e];rfl) (λcdv A outer s H E qs T hr hS=>?_)
 obtain ⟨v,p,rfl,p0,p1,rfl⟩:=hS
 change WS _ _ [.im (av (af ae) (af ax)) v,.im ae p] _ _
 refine ak (bK (eF (bA CI hr (ag (aa 1 rfl) aq) ⟨p,rfl,rfl⟩) (λ_=>eG (iw gm e7 ar (aa 1 rfl) (bQ M.len (d5 (aa 0 rfl)))))) ?_)
 simp [p0,p1]
abbrev xj:Stmt:=top om
theorem Ag:aB ["web","part"] ["web","part"] (ah xj):=fS0
def By:bX:=λK ps T=>∃(v:aw) (p:Int),ps=[⟨bO,v⟩,⟨ae,p⟩]/\aQ v/\0<=p/\p < (v.1.length:Int)/\T=bR K gK (λ_=>True)
theorem D1 (CN:ay P w K mg base "need_web" 6 (aF xg K))(CI:ay P w K mg base "is_part" 2 (aF Eu K))(F:bI K "need_part" "need_part" xj f fd)(hm:mg "need_part"=some (.ref f))(hb:Binds K fd ["web","part"] []):ay P w K mg base "need_part" 7 (aF By K):=by
 have nd:=Ag.nd
 have CI:=CI.mono (show 2<=6 by decide)
 refine uy F Ag hm hb (λqs T ⟨_,_,e,_⟩=>by rw [e];rfl) (λcdv A outer s H E qs T hr hS=>?_)
 obtain ⟨v,p,rfl,hv,p0,p1,rfl⟩:=hS
 refine ⟨λ_ _ _=>⟨(),rfl,trivial⟩,?_⟩
 change WS _ _ [.im bO v,.im ae p] _ _
 refine ai (iU CN hr (ag (aa 0 rfl) aq) ⟨v,rfl,hv,rfl⟩ ?_)
 refine ak (bL (bY (bV (bA CI hr (ag (aa 0 rfl) (ag (aa 1 rfl) aq)) ⟨v,p,rfl,p0,p1,rfl⟩))) (λh=>?_) (λh=>bu trivial))
 exact absurd h (by decide)
end
section
variable {P:Program}{w:World}{K:PySem.W.Frag}{mg:Str->Option Value}{base:Heap}{f:Addr}{fd:FuncData}
abbrev qF:Stmt:=top oy
abbrev xW:List Str:=["_law_web_here","_law_part_here","_law_place"]
theorem zN:aB xW xW (ah qF):=fS0
def fromF (v:aw)(p q:Int):List Int:=(ups 0 v.2.length).filter λk=>decide (((rowOf v k).1,(rowOf v k).2.1)=(p,q))
def E6:bX:=λK ps T=>∃(v:aw) (p q:Int),ps=[⟨bO,v⟩,⟨ae,p⟩,⟨ae,q⟩]/\v.2.length<=60/\T=bR K (af ae) (· =fromF v p q)
theorem Cu (M:bN mg)(F:bI K "_law_from" "_law_from" qF f fd)(hm:mg "_law_from"=some (.ref f))(hb:Binds K fd xW []):ay P w K mg base "_law_from" 1 (aF E6 K):=by
 have nd:=zN.nd
 have nd1:List.Nodup [("_law_k":Str),"_law_part_here","_law_place","_law_web_here"]:=by decide
 refine bG F zN hm hb (λqs T ⟨_,_,_,e,_⟩=>by rw [e];rfl) (λcdv A outer s H E qs T hr hS=>?_)
 obtain ⟨v,p,q,rfl,rl,rfl⟩:=hS
 have hu:(A.deeper (envOfC "_law_from" (ah qF) s.heap.objs.size f cdv)).units + 1 < cLine:=Nat.lt_of_le_of_lt (Nat.add_le_add_left (by decide:1<=64) _) hr.units
 change WS _ _ [.im (av (af ae) (af ax)) v,.im ae p,.im ae q] _ _
 have el:((v.2.length:Int)).toNat=v.2.length:=by omega
 have hid:(((ups 0 ((v.2.length:Int)).toNat).filter λk=>decide (((rowOf v k).1,(rowOf v k).2.1)=(p,q))).map λk=>k)=fromF v p q:=by rw [el];simp [fromF]
 exact ak (bK (EV.cast (aY.im (bF (own:=["_law_k"]) (fr:=["_law_part_here","_law_place","_law_web_here"]) (ix:=[1,2,0]) (ra:=ae) (rb:=ae) (p:=λk=>decide (((rowOf v k).1,(rowOf v k).2.1)=(p,q))) (f:=λk=>k) (bj (so:=ah qF) (N0:=xW) rfl rfl (λx h=>aT h) (by decide +kernel)) (fD M.range (bQ M.len (bb (aa 0 rfl))) ⟨by omega,by omega⟩)
  (λC s H ex=>aG 0) (λx=>⟨.inr rfl,.inl rfl,.inl rfl,.inl rfl,trivial⟩)
  (λC s H ex x hx=>fU (bc (y:=(p,q)) (rS eq_int eq_int hu hu) (vQ (aJ (bb (aa 3 rfl)) (aa 0 rfl) (bJ bM (by have:=bq.mp hx;omega) (by have:=bq.mp hx;omega)))) (dj (ag (aa 1 rfl) (ag (aa 2 rfl) aq)))))
  (λC s H ex x hx _=>aa 0 rfl))) hid) rfl)
end
theorem Reach.head {es:List (Int×Int)}{a b:Int}(h:(a,b)∈es){k:Int}(r:Reach es b k):Reach es a k:=Reach.sub (.step .base h) (λ_ _ x y=>.step x y) r
open Classical in
noncomputable def eu (es:List (Int×Int))(a:Int):Nat:=((ups 0 16).filter λk=>decide (Reach es a k)).length
open Classical in
theorem qI {es:List (Int×Int)}{a b:Int}(h:(a,b)∈es)(hn:¬Reach es b a)(a0:0<=a)(a1:a < 16):eu es b < eu es a:=by
 unfold eu
 have nd:∀g:Int->Bool,((ups 0 16).filter g).Nodup:=λg=>(du 16).filter g
 have:=eK (xs:=a::(ups 0 16).filter λk=>decide (Reach es b k)) (ys:=(ups 0 16).filter λk=>decide (Reach es a k)) (nodup_cons.mpr ⟨λhm=>hn (of_decide_eq_true (mem_filter.mp hm).2),nd _⟩) λx hx=>by
  rcases mem_cons.mp hx with rfl | hx
  ·exact mem_filter.mpr ⟨bq.mpr ⟨a0,by omega⟩,decide_eq_true .base⟩
  ·obtain ⟨m1,m2⟩:=mem_filter.mp hx
   exact mem_filter.mpr ⟨m1,decide_eq_true (Reach.head h (of_decide_eq_true m2))⟩
 rw [length_cons] at this
 omega
theorem w6 {v:aw}(hv:aQ v){p:Int}(p0:0<=p):dC v.2 p.toNat↔∀t∈fwd v.2 p,¬Reach (fwd v.2 p) t.2 t.1:=by
 have ep:((p.toNat:Nat):Int)=p:=by omega
 constructor
 ·rintro ⟨rk,hrk⟩ ⟨a,b⟩ ht hR
  have up:∀x y,(x,y)∈fwd v.2 p->rk x < rk y:=λx y h=>by
   obtain ⟨r,hr,r1,r2,r3⟩:=gj.mp h
   rw [← r2,← r3];exact hrk r hr (by omega)
  have:rk b<=rk a:=Reach.sub (P:=λk=>rk b<=rk k) (Int.le_refl _) (λx y hx hxy=>Int.le_trans hx (Int.le_of_lt (up x y hxy))) hR
  have:=up a b ht
  omega
 ·intro h
  refine ⟨λq=> -(eu (fwd v.2 p) q:Int),λr hr r1=>?_⟩
  have ht:(r.2.1,r.2.2.1)∈fwd v.2 p:=gj.mpr ⟨r,hr,by omega,rfl,rfl⟩
  have rp:=hv.cL hr
  have s0:=rp.s0;have sn:=rp.sn;have q1:=rp.p1;have q0:=rp.p0
  have sz:=hv.sz (v.1.getD r.1.toNat 0) (by rw [getD_eq_getElem?_getD,getElem?_eq_getElem (by omega)];exact getElem_mem _)
  have:=qI ht (h _ ht) s0 (by omega)
  show -(eu (fwd v.2 p) r.2.1:Int) < -(eu (fwd v.2 p) r.2.2.1:Int)
  omega
section
variable {P:Program}{w:World}{K:PySem.W.Frag}{mg:Str->Option Value}{base:Heap}{f:Addr}{fd:FuncData}
end
end K1
namespace Fc
open PySem PySem.Spec L2
open PyProof.Rows hiding St
section
variable {X:Cx}{Γ Γ1 Γ2 Γ3:Ga}{α β γ δ:Type}{N:Ga->Prop}{T:RT}
theorem wI:Bl X (λx y H Q=>∃p xs i v,x= .ref p/\y= .int i/\0<=i/\aM X.K H p xs/\cN xs i=some v/\Q v H):=by
 intro pins s σ H x y v u Q I rx ry h
 obtain ⟨p,xs,i,z,rfl,rfl,h0,hq,he,q⟩:=h
 cases rx
 obtain ⟨t,rfl⟩:=ry
 obtain ⟨its,r,pl,hz⟩:=I.list hq
 obtain ⟨j,h1,h2,h3,h4,h5⟩:=mN he
 obtain ⟨w,ew,rw'⟩:=r.get h2
 have hl:=r.length
 have hn:=jd
 have hj:i.toNat=j:=by
  rw [seqIndex_of h0 h5] at h1
  exact Option.some.inj h1
 exact wpAny_getItem_list pl.isList h0 (by omega) (by rw [hj];simpa using ew) ⟨z,H,I,rw',q⟩
theorem jA (i:Nat){x:Str}{b e:Expr}{p1 p2 pos:Pos}{c:Int}{xs:List Int}{y k:Int}{j:Nat}(hb:EV X b Γ ae k Γ)(he:EV X e Γ ae c Γ)(hΓ:Γ[i]?=some (.mu ae xs))(k0:0<=k)(hj:dP xs.length k=some j)(hy:cN xs k=some y)(h:N (Γ.set i (.mu ae (xs.set j (y + c)))))
 (hN:X.N[i]?=some x:=by rfl) (hv:autoParam (bS X.env.scope x) vA1)
 (hd:Dg0 x:=by decide) (hcd:Cd0 x:=by decide)
 (ha:∀ov iv new,augStore b ov iv new=(do holding [new,ov,iv] (setItem ov iv new);release [new,ov,iv] [];pure .next):=by intros;rfl):
 W1 X (.AugAssign (.Subscript (.Name x p1) b p2) .Add e pos) Γ N T:=λσ H0 R0 H R E D dn dr=>by
 obtain ⟨a,vs,ea,hp,hR,pp⟩:=E.ent i _ hΓ
 refine sS (yO (aX hN hv hd hcd) aE wI aE tf set_list ha) ⟨.ref a,at_of ea,hb σ H0 R0 H R E _ λu H2 R2 E2 s2 e2=>?_⟩
 obtain ⟨a',vs',ea',ha',hR',pp'⟩:=E2.ent i _ hΓ
 rw [ea] at ea';cases ea'
 obtain ⟨w,e3,e4⟩:=gU pp' hy
 cases (show w=V.int y from e4)
 refine ⟨a,vs',k,.int y,rfl,e2,k0,aM.of ha',e3,he σ H0 R0 H2 R2 E2 _ λu3 H3 R3 E3 s3 e5=>?_⟩
 obtain ⟨a',vs3,ea',ha3,hR3,pp3⟩:=E3.ent i _ hΓ
 rw [ea] at ea';cases ea'
 cases (show u3=V.int c from e5)
 refine ⟨y,c,rfl,rfl,a,vs3,k,j,rfl,e2,ha3,by rw [pp3.length];exact hj,?_⟩
 exact dn σ _ R3 _ (E3.upd (en:=.mu ae (xs.set j (y + c))) hΓ rfl ea hR3 ⟨a,_,rfl,au,hR3,gX (F:=ae.R X.K R3) (v:=.int (y + c)) rfl j pp3⟩) (s2.trans s3) h
end
section
variable {X:Cx}{Γ Γ1 Γ2 Γ3:Ga}{α β γ δ:Type}{N:Ga->Prop}{T:RT}
variable {r:aD α}{as:List Addr}{xss:List (List α)}{x:Str}{p1:Pos}{a:Addr}{H R:Hp}{j:Nat}{K:PySem.W.Frag}{b:Addr}{xs:List α}{p2:Pos}{e:Expr}
def fZ (K:PySem.W.Frag)(r:aD α)(H R:Hp)(as:List Addr)(xss:List (List α)):Prop:=as.length=xss.length/\∀(i:Nat) (b:Addr) (xs:List α),as[i]?=some b->xss[i]?=some xs->∃ws,H b=some (.lst ws)/\PySem.Paired (r.R K R) ws xs
theorem fZ.one (h:fZ K r H R as xss)(hb:b∈as):∃ws,H b=some (.lst ws):=by
 obtain ⟨i,hi,rfl⟩:=mem_iff_getElem.mp hb
 obtain ⟨ws,h1,_⟩:=h.2 i _ _ (getElem?_eq_getElem hi) (getElem?_eq_getElem (by rw [← h.1];exact hi))
 exact ⟨ws,h1⟩
theorem fZ.loc {H' R':Hp}(h:fZ K r H R as xss)(e:∀a∈as,H' a=H a)(s:aj R R'):fZ K r H' R' as xss:=
 ⟨h.1,λi b xs h1 h2=>by
   obtain ⟨ws,q1,q2⟩:=h.2 i b xs h1 h2
   exact ⟨ws,(e b (mem_of_getElem? h1)).trans q1,Paired.map (λ_ _=>r.mono s) q2⟩⟩
theorem fZ.put (h:fZ K r H R as xss)(nd:as.Nodup){ws:List V}(hb:as[j]?=some b)(hp:PySem.Paired (r.R K R) ws xs):fZ K r (upd H b (.lst ws)) R as (xss.set j xs):=by
 refine ⟨by rw [length_set];exact h.1,λi c q h1 h2=>?_⟩
 by_cases hij:i=j
 ·subst hij
  rw [hb] at h1;cases h1
  have hl:i < xss.length:=by rw [← h.1];exact (List.getElem?_eq_some_iff.mp hb).1
  rw [getElem?_set_self hl] at h2;cases h2
  exact ⟨ws,au,hp⟩
 ·rw [getElem?_set_ne (Ne.symm hij)] at h2
  have:c≠b:=λz=>by
   subst z
   have l1:=(List.getElem?_eq_some_iff.mp h1)
   have l2:=(List.getElem?_eq_some_iff.mp hb)
   exact hij ((getElem_inj (h₀:=l1.1) (h₁:=l2.1) nd).mp (l1.2.trans l2.2.symm))
  rw [aA this];exact h.2 i c q h1 h2
theorem fZ.snoc (h:fZ K r H R as xss){ws:List V}(hb:H b=some (.lst ws))(hp:PySem.Paired (r.R K R) ws xs):fZ K r H R (as++[b]) (xss++[xs]):=by
 refine ⟨by rw [length_append,length_append,h.1];rfl,λi c q h1 h2=>?_⟩
 rcases Nat.lt_or_ge i as.length with hl | hl
 ·rw [getElem?_append_left hl] at h1
  rw [getElem?_append_left (by rw [← h.1];exact hl)] at h2
  exact h.2 i c q h1 h2
 ·rw [getElem?_append_right hl] at h1
  rw [getElem?_append_right (by rw [← h.1];exact hl)] at h2
  have e:i - as.length=0:=by
   have:=(List.getElem?_eq_some_iff.mp h1).1
   simp at this;omega
  rw [e] at h1
  rw [← h.1,e] at h2
  simp at h1 h2
  rw [← h1,← h2];exact ⟨ws,hb,hp⟩
def d7 (r:aD α)(a:Addr)(as:List Addr)(xss:List (List α)):iA where
 fp:=a::as
 R:=λK H R v=>v= .ref a/\H a=some (.lst (as.map .ref))/\fZ K r H R as xss/\(a::as).Nodup
 loc:=λhH hR ⟨e,h1,h2,h3⟩=>⟨e,(hH a mem_cons_self).trans h1,h2.loc (λb hb=>hH b (mem_cons_of_mem _ hb)) hR,h3⟩
 has:=λ⟨e,h1,h2,h3⟩ b hb=>by
  rcases mem_cons.mp hb with rfl | hb
  ·rw [h1];exact Option.some_ne_none _
  ·obtain ⟨r,hr⟩:=h2.one hb
   rw [hr];exact Option.some_ne_none _
theorem z4 {k:Int}(hk:dP as.length k=some j)(hb:as[j]?=some b):cN (as.map V.ref) k=some (.ref b):=by
 unfold cN
 rw [length_map,hk]
 show (as.map V.ref)[j]?=_
 rw [getElem?_map,hb];rfl
theorem oG (i:Nat){b:Expr}{k:Int}{σ:St}{H0 R0:Hp}{Q:VK}(hb:EV X b Γ ae k Γ)(hΓ:Γ[i]?=some (.ob (d7 r a as xss)))(hk:dP xss.length k=some j)(E:ao X.K σ H0 R0 H R Γ)
 (q:∀c H' R',ao X.K σ H0 R0 H' R' Γ->aj R R'->as[j]?=some c->Q (.ref c) H')
 (hN:X.N[i]?=some x) (hv:bS X.env.scope x) (hd:(x==("__debug__":Str))=false) (hcd:(x==("__classdict__":Str))=false) (hsx:ee b):dI X (.Subscript (.Name x p1) b p2) σ H Q:=by
 obtain ⟨⟨v,ea,rfl,ha,hr,_⟩,hR⟩:=E.ent i _ hΓ
 refine eS (gx fF (aX hN hv hd hcd) aE hsx) ⟨.ref a,at_of ea,hb σ H0 R0 H R E _ λu H2 R2 E2 s2 e2=>?_⟩
 obtain ⟨⟨v,ea2,e3,ha2,hr2,nd⟩,hR2⟩:=E2.ent i _ hΓ
 have hl:j < as.length:=by rw [hr2.1];exact (mG hk).2.1
 exact ⟨a,_,k,.ref as[j],rfl,e2,aM.of ha2,z4 (by rw [hr2.1];exact hk) (getElem?_eq_getElem hl),q _ H2 R2 E2 s2 (getElem?_eq_getElem hl)⟩
theorem lM (i:Nat){b:Expr}{ap cp pos:Pos}{k:Int}{y:α}(hb:EV X b Γ ae k Γ)(he:EV X e Γ r y Γ)(hΓ:Γ[i]?=some (.ob (d7 r a as xss)))(hk:dP xss.length k=some j)(hx:xss[j]?=some xs)(hz:xs.length < sizeLine)(h:N (Γ.set i (.ob (d7 r a as (xss.set j (xs++[y]))))))
 (hN:X.N[i]?=some x:=by rfl) (hv:autoParam (bS X.env.scope x) vA1)
 (hd:Dg0 x:=by decide) (hcd:Cd0 x:=by decide) (hsx:ee b:=by exact λ_ _=>rfl)
 (hsw:swapsWith (.Call (.Attribute (.Subscript (.Name x p1) b p2) "append" ap) [e] [] cp) none pos.line X.env=pure false:=by rfl)
 (hbase:attributeBase (.Subscript (.Name x p1) b p2) "append" X.env (eval (.Subscript (.Name x p1) b p2) X.env)=eval (.Subscript (.Name x p1) b p2) X.env:=by rfl)
 (hfew:((backTo cp (starEach [e] X.env)).all (λx=> !x.1)&&(backToKw cp (keywordEach [] X.env)).all (λx=>x.1.isSome)
  &&decide ([e].length + ([]:List Keyword).length + (if ([]:List Keyword).isEmpty then 0 else 1) < 30))=true:=by rfl)
 (hline:(ap.endLine==cp.line)=true:=by rfl) (hs:starEach [e] X.env=(false,eval e X.env)::starEach [] X.env:=by rfl):W1 X (.Expr (.Call (.Attribute (.Subscript (.Name x p1) b p2) "append" ap) [e] [] cp) pos) Γ N T:=λσ H0 R0 H R E D dn dr=>by
 refine sS (dR (fN PySem.F.plainAttrs_list PySem.F.slot_list_append PySem.F.type_list_append eA aE (aL aE bz hs) hbase hfew hline hs rfl) hsw) ?_
 refine oG i hb hΓ hk E (λc H1 R1 E1 s1 hc=>?_) hN hv hd hcd hsx
 obtain ⟨⟨v,ea1,rfl,ha1,hr1,nd1⟩,hR1⟩:=E1.ent i _ hΓ
 obtain ⟨ws1,q1,q2⟩:=hr1.2 j c xs hc hx
 refine ⟨.inl ⟨rfl,_,aM.of q1⟩,he σ H0 R0 H1 R1 E1 _ λu H2 R2 E2 s2 e2=>?_⟩
 obtain ⟨⟨v,ea2,rfl,ha2,hr2,nd2⟩,hR2⟩:=E2.ent i _ hΓ
 obtain ⟨ws2,q1,q2⟩:=hr2.2 j c xs hc hx
 obtain ⟨n1,n2⟩:=nodup_cons.mp nd2
 have cm:c∈as:=mem_of_getElem? hc
 refine ⟨c,ws2,u,rfl,rfl,q1,by rw [q2.length];exact hz,?_⟩
 refine dn σ _ R2 _ (E2.hV (en:=.ob (d7 r a as (xss.set j (xs++[y])))) hΓ (mem_cons_of_mem _ cm) ⟨⟨.ref a,ea2,rfl,?_,hr2.put n2 hc (ca q2 (.cons e2 .nil)),nd2⟩,hR2⟩ λc w=>.inl w) (s1.trans s2) h
 rw [aA (show a≠c from λz=>n1 (z▸cm))];exact ha2
theorem Cn (i:Nat){b:Expr}{k:Int}(hb:EV X b Γ ae k Γ)(hΓ:Γ[i]?=some (.ob (d7 r a as xss)))(hk:dP xss.length k=some j)(hx:xss[j]?=some xs)
 (hN:X.N[i]?=some x:=by rfl) (hv:autoParam (bS X.env.scope x) vA1)
 (hd:Dg0 x:=by decide) (hcd:Cd0 x:=by decide) (hsx:ee b:=by exact λ_ _=>rfl)
 (ht:∀whole,isTrue (.Subscript (.Name x p1) b p2) X.env whole=(do let v ← whole;standAt (Expr.Subscript (.Name x p1) b p2).pos;holding [v] (truthy v)):=by intro _;rfl):TV X (.Subscript (.Name x p1) b p2) Γ (!xs.isEmpty) Γ:=λσ H0 R0 H R E Q q=>by
 refine tS (k6 aE ht) ?_
 refine oG i hb hΓ hk E (λc H1 R1 E1 s1 hc=>?_) hN hv hd hcd hsx
 obtain ⟨⟨v,ea2,rfl,ha2,hr2,nd2⟩,hR2⟩:=E1.ent i _ hΓ
 obtain ⟨ws,q1,q2⟩:=hr2.2 j c _ hc hx
 refine ⟨!xs.isEmpty,.inl ⟨ws,aM.of q1,?_⟩,q H1 R1 E1 s1⟩
 cases q2<;>rfl
theorem rT (i:Nat){ap cp pos:Pos}{ys:List α}(he:aY X e Γ r ys Γ1)(hΓ:Γ[i]?=some (.ob (d7 r a as xss)))(hΓ1:Γ1[i]?=some (.ob (d7 r a as xss)))(hz:xss.length < sizeLine)(h:∀b,N (Γ1.set i (.ob (d7 r a (as++[b]) (xss++[ys])))))
 (hN:X.N[i]?=some x:=by rfl) (hv:autoParam (bS X.env.scope x) vA1)
 (hd:Dg0 x:=by decide) (hcd:Cd0 x:=by decide)
 (hsw:swapsWith (.Call (.Attribute (.Name x p1) "append" ap) [e] [] cp) none pos.line X.env=pure false:=by rfl)
 (hbase:attributeBase (.Name x p1) "append" X.env (eval (.Name x p1) X.env)=eval (.Name x p1) X.env:=by rfl)
 (hfew:((backTo cp (starEach [e] X.env)).all (λx=> !x.1)&&(backToKw cp (keywordEach [] X.env)).all (λx=>x.1.isSome)
  &&decide ([e].length + ([]:List Keyword).length + (if ([]:List Keyword).isEmpty then 0 else 1) < 30))=true:=by rfl)
 (hline:(ap.endLine==cp.line)=true:=by rfl) (hs:starEach [e] X.env=(false,eval e X.env)::starEach [] X.env:=by rfl):W1 X (.Expr (.Call (.Attribute (.Name x p1) "append" ap) [e] [] cp) pos) Γ N T:=λσ H0 R0 H R E D dn dr=>by
 obtain ⟨⟨v,ea,rfl,ha,hr,_⟩,hR⟩:=E.ent i _ hΓ
 refine sS (dR (fN PySem.F.plainAttrs_list PySem.F.slot_list_append PySem.F.type_list_append eA (aX hN hv hd hcd) (aL aE bz hs) hbase hfew hline hs rfl) hsw) ?_
 refine ⟨.ref a,at_of ea,.inl ⟨rfl,_,aM.of ha⟩,he σ H0 R0 H R E _ λb vs H2 R2 E2 s2 hb hRb h0b offb pp _=>?_⟩
 obtain ⟨⟨v,ea2,rfl,ha2,hr2,nd2⟩,hR2⟩:=E2.ent i _ hΓ1
 obtain ⟨n1,n2⟩:=nodup_cons.mp nd2
 have hl:as.length=xss.length:=hr2.1
 have bne:b∉a::as:=λz=>offb i _ hΓ1 z
 have bna:b≠a:=λz=>bne (z▸mem_cons_self)
 refine ⟨a,_,.ref b,rfl,rfl,ha2,by rw [length_map,hl];exact hz,?_⟩
 refine dn σ _ R2 _ (E2.hV (en:=.ob (d7 r a (as++[b]) (xss++[ys]))) hΓ1 mem_cons_self ⟨⟨.ref a,ea2,rfl,?_,?_,?_⟩,λc hc=>?_⟩ λc w=>?_) s2 (h b)
 ·rw [au,map_append];rfl
 ·refine (hr2.snoc hb pp).loc (λc hc=>aA λz=>?_) (aj.refl _)
  rw [z] at hc
  rcases mem_append.mp hc with q | q
  ·exact n1 q
  ·exact bna (mem_singleton.mp q).symm
 ·refine nodup_cons.mpr ⟨λz=>?_,eV n2 λz=>bne (mem_cons_of_mem _ z)⟩
  rcases mem_append.mp z with q | q
  ·exact n1 q
  ·exact bna (mem_singleton.mp q).symm
 ·rcases mem_cons.mp hc with rfl | hc
  ·exact hR2 _ mem_cons_self
  ·rcases mem_append.mp hc with q | q
   ·exact hR2 _ (mem_cons_of_mem _ q)
   ·rw [mem_singleton.mp q];exact hRb
 ·rcases mem_cons.mp w with rfl | w
  ·exact .inl mem_cons_self
  ·rcases mem_append.mp w with q | q
   ·exact .inl (mem_cons_of_mem _ q)
   ·rw [mem_singleton.mp q];exact .inr ⟨h0b,offb⟩
def zE (K:PySem.W.Frag)(r:aD α)(P:List (List α)->Prop):RT:=λH0 v H' R'=>∃a as xss,v= .ref a/\(∀b∈a::as,H0 b=none/\R' b=none)/\H' a=some (.lst (as.map .ref))/\fZ K r H' R' as xss/\(a::as).Nodup/\P xss
theorem As (i:Nat){pos:Pos}{P:List (List α)->Prop}(hΓ:Γ[i]?=some (.ob (d7 r a as xss)))(h:P xss)(hN:X.N[i]?=some x:=by rfl)(hv:autoParam (bS X.env.scope x) vA1)
 (hd:Dg0 x:=by decide) (hcd:Cd0 x:=by decide):W1 X (.Return (some (.Name x p1)) pos) Γ N (zE X.K r P):=λσ H0 R0 H R E D dn dr=>by
 obtain ⟨⟨v,ea,rfl,ha,hr,nd⟩,hR⟩:=E.ent i _ hΓ
 exact sS (fg (aX hN hv hd hcd)) ⟨.ref a,at_of ea,dr _ H R E.ext ⟨a,as,xss,rfl,λb hb=>⟨E.nw i _ b hΓ hb,hR b hb⟩,ha,hr,nd,h⟩⟩
theorem yE (i:Nat){S:bX}{y:Str}{k:Nat}{es:List Expr}{p pos:Pos}{ps:List Pk}{Pd:List (List α)->Prop}(C:ay X.prog X.w X.K X.mg X.base x k (aF S X.K))(hr:bU k X.A)(ha:HA X (e::es) Γ ps Γ1)(hS:S X.K ps (zE X.K r Pd))(h:∀a as xss,Pd xss->N (Γ1.set i (.ob (d7 r a as xss))))
 (hg:Gl X x:=by rfl) (hdb:Dg0 x:=by decide) (he:starEach (e::es) X.env=(false,eval e X.env)::starEach es X.env:=by rfl) (hpl:(backTo p2 (starEach es X.env)).any (·.1)=false:=by rfl)
 (hN:X.N.Nodup:=by first | assumption | decide) (hi:X.N[i]?=some y:=by rfl) (hx:autoParam (Loc X.env.scope y) vA2)
 (hs:swapsWith (.Call (.Name x p) (e::es) [] p2) (some (.Name y p1)) pos.line X.env=pure false:=by rfl) (hf:autoParam (X.fn y=true∨X.env.scope.names.lookup y=some .local) vA3):
 W1 X (.Assign [.Name y p1] (.Call (.Name x p) (e::es) [] p2) pos) Γ N T:=λσ H0 R0 H R E D dn dr=>
 sS (d6 hN hi hx aE hs hf) (d4 C hr ha hS E (λH1 R1 v H' R' E1 s1 xx t=>by
  obtain ⟨a,as,xss,rfl,hn,h1,h2,h3,h4⟩:=t
  refine dn _ H' R' _ ((E1.grow xx).setG (en:=.ob (d7 r a as xss)) i ⟨⟨.ref a,rfl,rfl,h1,h2,h3⟩,λb hb=>(hn b hb).2⟩ (λb hb=>E1.ext.h.free (hn b hb).1) λb hb j e _ qj w=>?_) (s1.trans xx.r) (h a as xss h4)
  exact (Ent.cO (E1.ent j e qj) w).1 (hn b hb).1) hg hdb he hpl)
def iI (R H:Hp)(l:List Addr):Hp:=λb=>if b∈l then H b else R b
theorem qA (i:Nat){pos:Pos}{P:List (List α)->Prop}(hΓ:Γ[i]?=some (.ob (d7 r a as xss)))(hz:xss.length<=sizeLine)(hzi:∀xs∈xss,xs.length<=sizeLine)(h:P xss)(hN:X.N[i]?=some x:=by rfl)(hv:autoParam (bS X.env.scope x) vA1)
 (hd:Dg0 x:=by decide) (hcd:Cd0 x:=by decide):W1 X (.Return (some (.Name x p1)) pos) Γ N (fR X.K (af r) P):=λσ H0 R0 H R E D dn dr=>by
 obtain ⟨⟨v,ea,rfl,ha,hr,nd⟩,hR⟩:=E.ent i _ hΓ
 obtain ⟨n1,n2⟩:=nodup_cons.mp nd
 have sR:aj R (iI R H as):=λb o q=>by
  unfold iI
  split
  ·rename_i hb
   rw [hR b (mem_cons_of_mem _ hb)] at q;cases q
  ·exact q
 have sH:aj (iI R H as) H:=λb o q=>by
  unfold iI at q
  split at q
  ·exact q
  ·exact E.sub b o q
 have pr:PySem.Paired ((af r).R X.K (iI R H as)) (as.map .ref) xss:=by
  have key:∀(bs:List Addr) (yss:List (List α)),(∀b∈bs,b∈as)->fZ X.K r H R bs yss->(∀xs∈yss,xs.length<=sizeLine)->PySem.Paired ((af r).R X.K (iI R H as)) (bs.map .ref) yss:=by
   intro bs
   induction bs with
   | nil=>intro yss _ h _;cases yss with
     | nil=>exact .nil
     | cons _ _=>exact absurd h.1 (by simp)
   | cons b bs ih=>intro yss hm h hz;cases yss with
     | nil=>exact absurd h.1 (by simp)
     | cons ys yss=>
       obtain ⟨ws,q1,q2⟩:=h.2 0 b ys rfl rfl
       refine .cons ⟨b,ws,rfl,?_,Paired.map (λ_ _=>r.mono sR) q2,hz ys mem_cons_self⟩ (ih yss (λc hc=>hm c (mem_cons_of_mem _ hc)) ⟨by simpa using h.1,λi c xs h1 h2=>h.2 (i + 1) c xs (by simpa using h1) (by simpa using h2)⟩ λxs hx=>hz xs (mem_cons_of_mem _ hx))
       unfold iI
       rw [if_pos (hm b mem_cons_self)];exact q1
  exact key as xss (λ_ h=>h) hr hzi
 refine sS (fg (aX hN hv hd hcd)) ⟨.ref a,at_of ea,dr _ H (iI R H as) ⟨E.ext.h,E.ext.r.trans sR,sH,λb hb=>?_⟩ ⟨a,_,xss,rfl,E.nw i _ a hΓ mem_cons_self,ha,?_,pr,hz,h⟩⟩
 ·unfold iI
  rw [if_neg λz=>hb (E.nw i _ b hΓ (mem_cons_of_mem _ z))]
  exact E.ext.old b hb
 ·unfold iI
  rw [if_neg n1];exact hR a mem_cons_self
end
def FlE:Ent->Prop
 | .no=>True
 | .im _ _=>True
 | _=>False
def pI:Ga->Prop
 | []=>True
 | e::r=>FlE e/\pI r
theorem pI.fp:∀{Γ:Ga},pI Γ->∀(i:Nat) (e:Ent),Γ[i]?=some e->∀o,e.fp o=[]
 | e::_,⟨h,_⟩,0,_,q,o=>by
   cases q
   cases e with
   | no=>rfl
   | im _ _=>rfl
   | mu _ _=>exact h.elim
   | di _=>exact h.elim
   | ob _=>exact h.elim
 | _::r,⟨_,h⟩,i + 1,e,q,o=>pI.fp h i e (by simpa using q) o
 | [],_,i,e,q,o=>by simp at q
theorem ao.xC {K:PySem.W.Frag}{σ:St}{H0 R0 H R:Hp}{Γ:Ga}(E:ao K σ H0 R0 H R Γ)(fl:pI Γ):ao K σ H R H R Γ:=
 ⟨⟨aj.refl _,aj.refl _,E.sub,λ_ _=>rfl⟩,E.ent,(λi e a q w=>by rw [fl.fp i e q] at w;cases w),(λi j e e' a q q' w w'=>by rw [fl.fp i e q] at w;cases w),E.len⟩
section
variable {X:Cx}{Γ Γ1 Γ2 Γ3:Ga}{α β γ δ:Type}{N:Ga->Prop}{T:RT}
def B1 (X:Cx)(e:Expr)(Γ:Ga){α:Type}(r:aD α)(P:List α->Prop)(Γ':Ga):Prop:=
 ∀(σ:St) (H0 R0 H R:Hp),ao X.K σ H0 R0 H R Γ->∀Q:VK,(∀a vs ys H' R',ao X.K σ H0 R0 H' R' Γ'->aj R R'->H' a=some (.lst vs)->R' a=none->H0 a=none->Off a σ Γ'->PySem.Paired (r.R X.K R') vs ys->ys.length<=sizeLine->P ys->Q (.ref a) H')->dI X e σ H Q
theorem aY.evr {e:Expr}{r:aD α}{ys:List α}{P:List α->Prop}(h:aY X e Γ r ys Γ1)(hp:P ys):B1 X e Γ r P Γ1:=λσ H0 R0 H R E Q q=>h σ H0 R0 H R E Q λa vs H' R' E' s' h1 h2 h3 h4 h5 h6=>q a vs ys H' R' E' s' h1 h2 h3 h4 h5 h6 hp
theorem rE {tg elt:Expr}{scope:Scope}{cl:List (Str×Addr)}{own fr:List Str}{ix:List Nat}{ra:aD α}{rb:aD β}{xs:List α}{P:α->List β->Prop}{bf:α->Ga->Ga}{J:It}{σ:St}{H0 R0 H1 R1:Hp}{Q:VK}(E1:ao X.K σ H0 R0 H1 R1 Γ1)(src:Src X.K J R1 ra xs)(hz:xs.length<=sizeLine)
 (hb:∀(C:Addr) (s:Shared) (H:Hp) (ex:List Addr),BG (aH X scope cl C (own++fr) s H ex) tg ra bf) (hw:∀x,Wk (bf x (bZ own ix Γ1)) (bZ own ix Γ1)) (hfl:∀x,pI (bf x (bZ own ix Γ1)))
 (he:∀(C:Addr) (s:Shared) (H:Hp) (ex:List Addr) x,x∈xs->B1 (aH X scope cl C (own++fr) s H ex) elt (bf x (bZ own ix Γ1)) rb (P x) (bf x (bZ own ix Γ1)))
 (q:∀a bs yss H' R',Ext H1 R1 H' R'->H' a=none->fZ X.K rb H' R' bs yss->bs.Nodup->(∀b∈bs,H1 b=none/\R' b=none)->PySem.Paired P xs yss->(∀ys∈yss,ys.length<=sizeLine)->Q (.ref a) (upd H' a (.lst (bs.map .ref)))):
 ∃W:Nat->Nat->List V->St->Hp->Prop,(∃m,W 0 m [] (eQ own ix σ) H1)/\∀i m ys σ' H',W i m ys σ' H'->
  ys.length<=sizeLine/\((J.stop i H'/\∀p,H' p=none->Q (.ref p) (upd H' p (.lst ys)))∨
  (J.go i H'/\∀x H2,J.yld i H' x H2->(λv σ H Q=>∀C s Hh ex,iy (aH X scope cl C (own++fr) s Hh ex) tg v σ H Q:TG) x σ' H2 λσ2 H3=>(λσ H Q=>∀C s Hh ex,iP (aH X scope cl C (own++fr) s Hh ex) [] σ H Q:TT) σ2 H3 λb H4=>
    if b=true then (λσ H Q=>∀C s Hh ex,dI (aH X scope cl C (own++fr) s Hh ex) elt σ H Q:TE) σ2 H4 λv H5=>∃m',m' < m/\W (i + 1) m' (ys++[v]) σ2 H5 else∃m',m' < m/\W (i + 1) m' ys σ2 H4)):=by
 refine ⟨λi m ys σ' H'=>m=xs.length - i/\i<=xs.length/\∃R' bs yss,ao X.K σ' H1 R1 H' R' (bZ own ix Γ1)/\ys=bs.map .ref/\fZ X.K rb H' R' bs yss/\bs.Nodup/\(∀b∈bs,H1 b=none/\R' b=none)/\PySem.Paired P (xs.take i) yss/\∀ys∈yss,ys.length<=sizeLine,⟨_,rfl,Nat.zero_le _,R1,[],[],lh E1 own ix,rfl,⟨rfl,λi b r h1=>by simp at h1⟩,nodup_nil,(λb hb=>by cases hb),(.nil:PySem.Paired P [] []),(λys hy=>by cases hy)⟩,?_⟩
 rintro i m ys σ' H' ⟨rfl,hle,R',bs,yss,E',rfl,hrs,hnd,hbs,pq,hsz⟩
 have hbl:bs.length=i:=by rw [hrs.1,← pq.length,length_take];omega
 have hys:(bs.map V.ref).length<=sizeLine:=by rw [length_map,hbl];omega
 obtain ⟨sgo,sstop⟩:=src H' R' E'.ext.r E'.sub i
 refine ⟨hys,?_⟩
 by_cases hlt:i < xs.length
 ·obtain ⟨go,yl⟩:=sgo _ (getElem?_eq_getElem hlt)
  have hmem:xs[i]∈xs:=getElem_mem hlt
  have tk:(xs.take (i + 1))=xs.take i++[xs[i]]:=by rw [take_succ,getElem?_eq_getElem hlt];rfl
  refine .inr ⟨go,λv H2 hy C s Hh ex=>?_⟩
  obtain ⟨R2,x2,hr⟩:=yl v H2 hy
  refine hb C s Hh ex σ' H1 R1 H2 R2 _ v _ (E'.grow x2) hr _ λσ2 E2=>?_
  intro C s Hh ex
  refine (cf (X:=aH X scope cl C (own++fr) s Hh ex)) σ2 H2 R2 H2 R2 (E2.xC (hfl _)) _ λH4 R4 E4 s4=>?_
  rw [if_pos rfl]
  intro C s Hh ex
  refine he C s Hh ex _ hmem σ2 H4 R4 H4 R4 (E4.xC (hfl _)) _ λa vs zs H5 R5 E5 s5 ha hR h0 off pp hz' hP=>?_
  have x5:Ext H' R' H5 R5:=x2.trans (E4.ext.trans E5.ext)
  have x25:Ext H2 R2 H5 R5:=E4.ext.trans E5.ext
  have hin:∀b∈bs,H' b≠none:=λb hb=>by
   obtain ⟨r,hr⟩:=hrs.one hb
   rw [hr];exact Option.some_ne_none _
  have hold:∀b∈bs,b≠a:=λb hb e=>by
   have:H4 b≠none:=aj.some (x2.h.trans E4.ext.h) (hin b hb)
   exact this (e▸h0)
  refine ⟨xs.length - (i + 1),by omega,rfl,hlt,R5,bs++[a],yss++[zs],(E2.grow x25).weak (hw _),by rw [map_append];rfl,?_,?_,λb hb=>?_,?_,λys hy=>?_⟩
  ·refine fZ.snoc (fZ.loc hrs (λc hc=>?_) x5.r) ha pp
   cases e:H' c with
   | none=>exact absurd e (hin c hc)
   | some u=>exact x5.h c u e
  ·exact eV hnd λz=>hold a z rfl
  ·rcases mem_append.mp hb with z | z
   ·exact ⟨(hbs b z).1,(x5.old b (hin b z)).trans (hbs b z).2⟩
   ·rw [mem_singleton.mp z]
    exact ⟨(E'.ext.h.trans (x2.h.trans E4.ext.h)).free h0,hR⟩
  ·rw [tk]
   exact ca pq (.cons hP .nil)
  ·rcases mem_append.mp hy with z | z
   ·exact hsz ys z
   ·rw [mem_singleton.mp z];exact hz'
 ·have e:i=xs.length:=by omega
  subst e
  rw [take_length] at pq
  exact .inl ⟨sstop (Nat.le_refl _),λa ha=>q a bs yss H' R' E'.ext ha hrs hnd hbs pq hsz⟩
theorem yr (i:Nat){y:Str}{py spos:Pos}{tg elt iter:Expr}{scope:Scope}{pos:Pos}{cl:List (Str×Addr)}{own fr:List Str}{ix:List Nat}{ra:aD α}{rb:aD β}{xs:List α}{P:α->List β->Prop}{bf:α->Ga->Ga}
 (S:cY X scope cl own fr ix) (hit:IV X tg iter Γ ra xs Γ1)
 (hb:∀(C:Addr) (s:Shared) (H:Hp) (ex:List Addr),BG (aH X scope cl C (own++fr) s H ex) tg ra bf) (hw:∀x,Wk (bf x (bZ own ix Γ1)) (bZ own ix Γ1)) (hfl:∀x,pI (bf x (bZ own ix Γ1)))
 (he:∀(C:Addr) (s:Shared) (H:Hp) (ex:List Addr) x,x∈xs->B1 (aH X scope cl C (own++fr) s H ex) elt (bf x (bZ own ix Γ1)) rb (P x) (bf x (bZ own ix Γ1)))
 (h:∀a bs yss,PySem.Paired P xs yss->(∀ys∈yss,ys.length<=sizeLine)->N (Γ1.set i (.ob (d7 rb a bs yss))))
 (hsw:swapsWith (.ListComp elt [⟨tg,iter,[],0⟩] scope pos) (some (.Name y py)) spos.line X.env=pure true:=by rfl)
 (hN:X.N.Nodup:=by first | assumption | decide) (hi':X.N[i]?=some y:=by rfl) (hx:autoParam (Loc X.env.scope y) vA2)
 (hc:X.calm=true:=by rfl) (hs:∀x,foldedSetIterable iter X.env x=pure x:=by intro _;rfl) (hf:autoParam (X.fn y=true∨X.env.scope.names.lookup y=some .local) vA3):
 W1 X (.Assign [.Name y py] (.ListComp elt [⟨tg,iter,[],0⟩] scope pos) spos) Γ N T:=λσ H0 R0 H R E D dn dr=>by
 obtain ⟨wi,hi,hit⟩:=hit
 refine sS (je (i:=i) (g:=λv σ H Q=>∀C s Hh ex,iy (aH X scope cl C (own++fr) s Hh ex) tg v σ H Q) (tc:=λσ H Q=>∀C s Hh ex,iP (aH X scope cl C (own++fr) s Hh ex) [] σ H Q) (te:=λσ H Q=>∀C s Hh ex,dI (aH X scope cl C (own++fr) s Hh ex) elt σ H Q) hsw hN hi' hx hc S hi
  (λC s H ex=>⟨λpins s1 σ H v u Q I r h=>h C s _ ex pins s1 u I r,λpins s1 σ H Q I h=>h C s _ ex pins s1 I,λpins s1 σ H Q I h=>h C s _ ex pins s1 I⟩) hs hf) ?_
 refine hit σ H0 R0 H R E _ λJ H1 R1 E1 s1 hz src=>rE (Q:=λv H'=>D.nx (σ.set i (some v)) H') E1 src hz hb hw hfl he λa bs yss H' R' xx ha hg hnd hbs pq hsz=>?_
 have E2:=E1.grow xx
 have E3:=E2.grow (Ext.cn E2.sub ha (.lst (bs.map .ref)))
 have inb:∀c∈bs,H' c≠none:=λc hc=>by
  obtain ⟨r,hr⟩:=hg.one hc
  rw [hr];exact Option.some_ne_none _
 have nab:a∉bs:=λz=>inb a z ha
 refine dn _ _ R' _ (E3.setG (en:=.ob (d7 rb a bs yss)) i ⟨⟨.ref a,rfl,rfl,au,hg.loc (λc hc=>aA λz=>nab (z▸hc)) (aj.refl _),nodup_cons.mpr ⟨nab,hnd⟩⟩,λb hb=>?_⟩ (λb hb=>?_) λb hb j e _ qj w=>?_) (s1.trans xx.r) (h a bs yss pq hsz)
 ·rcases mem_cons.mp hb with rfl | hb
  ·exact E2.sub.free ha
  ·exact (hbs b hb).2
 ·rcases mem_cons.mp hb with rfl | hb
  ·exact E2.ext.h.free ha
  ·exact E1.ext.h.free (hbs b hb).1
 ·rcases mem_cons.mp hb with rfl | hb
  ·exact E2.off ha j e qj w
  ·exact (Ent.cO (E1.ent j e qj) w).1 (hbs b hb).1
end
end Fc
namespace K1
open PySem L2 Fc
open PySem.Spec hiding Row
open PyProof.Rows hiding St
open PySem.Builtin.Int (intBits)
section
variable {n:Nat}{v:aw}{p:Int}{i:Nat}
theorem kM {α β:Type}{P:α->List β->Prop}(hp:∀x ys,P x ys->ys=[]):∀{xs:List α} {yss:List (List β)},PySem.Paired P xs yss->yss=List.replicate xs.length []
 | _,_,.nil=>rfl
 | _,_,.cons h t=>by rw [length_cons,replicate_succ,kM hp t,hp _ _ h]
def fO (v:aw)(p:Int)(i:Nat)(q:Int):List Int:=(ups 0 i).filter λk=>decide (((rowOf v k).1,(rowOf v k).2.1)=(p,q))
theorem vY (i:Nat):ups 0 (i + 1)=ups 0 i++[(i:Int)]:=by
 unfold ups
 rw [List.range_succ,map_append]
 simp
theorem l8 (v:aw)(p:Int)(i:Nat)(q:Int):fO v p (i + 1) q=fO v p i q++(if (rowOf v (i:Int)).1=p/\(rowOf v (i:Int)).2.1=q then [(i:Int)] else []):=by
 unfold fO
 rw [vY,filter_append]
 congr 1
 by_cases h:(rowOf v (i:Int)).1=p/\(rowOf v (i:Int)).2.1=q
 ·rw [if_pos h,filter_cons_of_pos (by simp [h.1,h.2])];rfl
 ·rw [if_neg h,filter_cons_of_neg (by simp;exact λa b=>h ⟨a,b⟩)];rfl
def e8 (v:aw)(p:Int)(n i:Nat):List (List Int):=(ups 0 n).map (fO v p i)
def cW (v:aw)(p:Int):List (List Int):=(ups 0 (v.1.getD p.toNat 0).toNat).map (fromF v p)
theorem iu (v:aw)(p:Int)(n i:Nat):(e8 v p n i).length=n:=by unfold e8;rw [length_map,aC]
theorem g8 {j:Nat}(h:j < n):(ups 0 n)[j]?=some (j:Int):=by unfold ups;rw [getElem?_map,getElem?_range h];simp
theorem i6 {j:Nat}(h:j < n):(e8 v p n i)[j]?=some (fO v p i (j:Int)):=by unfold e8;rw [getElem?_map,g8 h];rfl
theorem mW (h:(rowOf v (i:Int)).1≠p):e8 v p n (i + 1)=e8 v p n i:=by
 unfold e8
 refine map_congr_left λq hq=>?_
 rw [l8,if_neg (λz=>h z.1),append_nil]
theorem oU (h:(rowOf v (i:Int)).1=p)(s0:0<=(rowOf v (i:Int)).2.1)(s1:(rowOf v (i:Int)).2.1 < (n:Int)):(e8 v p n i).set (rowOf v (i:Int)).2.1.toNat (fO v p i (rowOf v (i:Int)).2.1++[(i:Int)])=e8 v p n (i + 1):=by
 apply ext_getElem?
 intro j
 by_cases hj:j < n
 ·rw [i6 hj,l8]
  by_cases e:(rowOf v (i:Int)).2.1.toNat=j
  ·subst e
   rw [getElem?_set_self (by rw [iu];exact hj),if_pos ⟨h,by omega⟩]
   rw [show (((rowOf v (i:Int)).2.1.toNat:Nat):Int)=(rowOf v (i:Int)).2.1 by omega]
  ·rw [getElem?_set_ne e,i6 hj,if_neg (λz=>e (by have:=z.2;omega)),append_nil]
 ·rw [getElem?_eq_none (by rw [length_set,iu];omega),getElem?_eq_none (by rw [iu];omega)]
theorem m3 (v:aw)(p:Int)(i:Nat)(q:Int):(fO v p i q).length<=i:=by
 unfold fO
 refine Nat.le_trans (length_filter_le _ _) ?_
 rw [aC];exact Nat.le_refl _
theorem wR {q:Int}(q0:0<=q)(q1:q < v.1.getD p.toNat 0):(cW v p)[q.toNat]?=some (fromF v p q):=by
 have:=i6 (v:=v) (p:=p) (n:=(v.1.getD p.toNat 0).toNat) (i:=v.2.length) (j:=q.toNat) (by omega)
 rw [show ((q.toNat:Nat):Int)=q by omega] at this
 exact this
end
section
variable {P:Program}{w:World}{K:PySem.W.Frag}{mg:Str->Option Value}{base:Heap}{f:Addr}{fd:FuncData}
abbrev um:Stmt:=top lD
abbrev Ej:List Str:=["web","part","leaving","number","row"]
theorem AM:aB Ej ["web","part"] (ah um):=fS0
def uM (fr:Bool):bX:=λK ps T=>∃(v:aw) (p:Int),ps=[⟨bO,v⟩,⟨ae,p⟩]/\aQ v/\0<=p/\p < (v.1.length:Int)/\T=if fr=true then fR K (af ae) (· =cW v p) else zE K ae (· =cW v p)
theorem x6 (fr:Bool)(M:bN mg)(F:bI K "rows_leaving" "rows_leaving" um f fd)(hm:mg "rows_leaving"=some (.ref f))(hb:Binds K fd ["web","part"] []):ay P w K mg base "rows_leaving" 1 (aF (uM fr) K):=by
 have nd:=AM.nd
 have ndc:List.Nodup [("place":Str)]:=by decide
 refine bG F AM hm hb (λqs T ⟨_,_,e,_⟩=>by rw [e];rfl) (λcdv A outer s H E qs T hr hS=>?_)
 obtain ⟨v,p,rfl,hv,p0,p1,rfl⟩:=hS
 have pl:=hv.pl
 have rl:=hv.rl
 have hn:cN v.1 p=some (v.1.getD p.toNat 0):=cw p0 p1
 have nb:=hv.sz (v.1.getD p.toNat 0) (by rw [getD_eq_getElem?_getD,getElem?_eq_getElem (by omega)];exact getElem_mem _)
 generalize hN:v.1.getD p.toNat 0=n at hn nb
 change WS _ _ [.im (av (af ae) (af ax)) v,.im ae p,.no,.no,.no] _ _
 refine ai (yr 2 (own:=["place"]) (fr:=[]) (ix:=[]) (ra:=ae) (rb:=ae) (P:=λ_ ys=>ys=[]) (bj (so:=ah um) (N0:=Ej) rfl rfl (λx h=>aT h) (by decide +kernel)) (fD M.range (aJ (d5 (aa 0 rfl)) (aa 1 rfl) hn) ⟨by omega,by omega⟩)
  (λC s H ex=>aG 0) (λx=>⟨.inr rfl,trivial⟩) (λx=>⟨trivial,trivial⟩) (λC s H ex x hx=>aY.evr (aO bh (by decide)) rfl) λa bs yss pq _=>?_)
 have ey:=kM (λ_ _ h=>h) pq
 rw [aC] at ey
 have e0:List.replicate n.toNat ([]:List Int)=e8 v p n.toNat 0:=by
  unfold e8 fO
  apply ext_getElem?
  intro j
  rw [getElem?_replicate,getElem?_map]
  by_cases hj:j < n.toNat
  ·rw [if_pos hj,g8 hj];rfl
  ·rw [if_neg hj,getElem?_eq_none (by rw [aC];omega)];rfl
 rw [e0] at ey
 subst ey
 refine ai (cv (r:=av ae ax) (λi Γ=>∃v3 v4,Γ=[.im (av (af ae) (af ax)) v,.im ae p,.ob (d7 ae a bs (e8 v p n.toNat i)),v3,v4])
  (iQ M.enumerate (bb (aa 0 rfl))) (fG 3 4) ⟨_,_,rfl⟩ ?_ ?_)
 ·rintro i x Γ hx ⟨v3,v4,rfl⟩
  obtain ⟨e1,e2⟩:=hU hx
  have il:=(List.getElem?_eq_some_iff.mp e2).1
  have er:rowOf v i=x.2:=by unfold rowOf;rw [getD_eq_getElem?_getD,show ((i:Int)).toNat=i by omega,e2];rfl
  refine ak (bL (bc e6 (eU (aa 4 rfl)) (aa 1 rfl)) (λh=>?_) (λh=>bu ?_))
  ·have h:x.2.1=p:=of_decide_eq_true h
   have rp:=hv.cL (mem_of_getElem? e2)
   have q0:=rp.s0
   have q1:=rp.sn
   rw [h,hN] at q1
   have len:=iu v p n.toNat i
   refine ak (lM 2 (dk (aa 4 rfl)) (aa 3 rfl) rfl (dH q0 (by omega)) (i6 (j:=x.2.2.1.toNat) (by omega)) (Nat.lt_of_le_of_lt (Nat.le_trans (m3 v p i _) (show i<=100 by omega)) (by decide)) ?_)
   refine ⟨.im ae x.1,.im ax x.2,?_⟩
   have:=oU (v:=v) (p:=p) (n:=n.toNat) (i:=i) (by rw [er];exact h) (by rw [er];exact q0) (by rw [er];omega)
   rw [er] at this
   rw [e1,show ((x.2.2.1.toNat:Nat):Int)=x.2.2.1 by omega,this]
   rfl
  ·have h:x.2.1≠p:=of_decide_eq_false h
   refine ⟨.im ae x.1,.im ax x.2,?_⟩
   rw [mW (by rw [er];exact h)]
   rfl
 ·rintro Γ ⟨v3,v4,rfl⟩
  rw [dw]
  have e:e8 v p n.toNat v.2.length=cW v p:=by unfold cW;rw [hN];rfl
  rw [e]
  have ll:(cW v p).length<=16:=by rw [← e,iu];omega
  cases fr with
  | false=>exact ak (As 2 rfl rfl)
  | true=>
    refine ak (qA 2 rfl (aI (by omega)) (λxs hx=>?_) rfl)
    rw [← e] at hx
    obtain ⟨q,_,rfl⟩:=mem_map.mp hx
    exact aI (Nat.le_trans (m3 v p _ q) (by omega))
end
end K1
namespace Fc
open PySem PySem.Spec L2
open PyProof.Rows hiding St
section
variable {X:Cx}{Γ Γ1 Γ2 Γ3:Ga}{α β γ δ:Type}{N:Ga->Prop}{T:RT}
end
end Fc
namespace K1
open PySem L2 Fc
open PySem.Spec hiding Row
open PyProof.Rows hiding St
open PySem.Builtin.Int (intBits)
end K1
namespace Fc
open PySem PySem.Spec L2
open PyProof.Rows hiding St
section
variable {X:Cx}{Γ Γ1 Γ2 Γ3:Ga}{α β γ δ:Type}{N:Ga->Prop}{T:RT}
variable {F:List (Int×Int)}
theorem zp {a b:Expr}{pos:Pos}{k:Int}(hu:X.A.units + 1 < cLine)(ha:EV X a Γ ae k Γ1)(hb:EV X b Γ1 ip F Γ2)(hm:behindInMarks .In b=false:=by first | exact pG _ | with_unfolding_all rfl):EV X (.Compare a [.In] [b] pos) Γ aW (aZ F k).isSome Γ2:=by
 intro σ H0 R0 H R E Q q
 refine eS (Br (tL hu aE aE) hm) (ha σ H0 R0 H R E _ λv H1 R1 E1 s1 e1=>hb σ H0 R0 H1 R1 E1 _ λu H2 R2 E2 s2 e2=>?_)
 cases e1
 obtain ⟨p,rfl,hp⟩:=e2
 refine ⟨p,_,rfl,ef.k (k:=Sum.inl k) (E2.sub _ _ hp),?_⟩
 rw [jM,fE]
 exact q _ H2 R2 E2 (s1.trans s2) rfl
theorem o5 {a:Expr}{p pos:Pos}(hm:X.mg "len"=none)(ha:EV X a Γ ip F Γ1)(hs:starEach [a] X.env=[(false,eval a X.env)]:=by rfl)(hg:Gl X "len":=by rfl):EV X (.Call (.Name "len" p) [a] [] pos) Γ ae (F.length:Int) Γ1:=
 EV.cast (mD (kvs:=cQ F) hm (EV.rep ha λ_ _ q=>q) hs hg) (by unfold cQ;rw [length_map])
theorem nO {i:Nat}(hΓ:Γ[i]?=some (.di (cQ F)))(σ:St)(H0 R0 H R:Hp)(E:ao X.K σ H0 R0 H R Γ):ao X.K σ H H H H ((Γ.map kE).set i (.im ip F)):=by
 obtain ⟨a,ea,ha,hR⟩:=E.ent i _ hΓ
 exact E.frz.iG (i:=i) (e0:=.no) (by rw [getElem?_map,hΓ];rfl) ⟨.ref a,ea,a,rfl,ha⟩ λb w=>by cases w
end
end Fc
namespace K1
open PySem L2 Fc
open PySem.Spec hiding Row
open PyProof.Rows hiding St
open PySem.Builtin.Int (intBits)
section
variable {v:aw}{p:Int}{F:List (Int×Int)}{q:Int}
theorem wq {a b:Option Int}(h:a.map V.int=b.map V.int):a=b:=by
 cases a<;>cases b<;>simp at h<;>simp [h]
theorem jm (F:List (Int×Int))(k v j:Int):aZ (dz F k v) j=if j=k then some v else aZ F j:=by
 have h:=vL (cK (cQ F)) (Sum.inl k:Key) (Sum.inl j) (.int v)
 rw [uq,fQ,fQ] at h
 apply wq
 rw [h]
 by_cases e:j=k
 ·rw [if_pos (by rw [e]),if_pos e];rfl
 ·rw [if_neg (λz=>e (Sum.inl.inj z)),if_neg e]
theorem dY {k:Int}:(aZ F k).isSome=true↔k∈F.map (·.1):=by
 unfold aZ
 rw [Option.isSome_map,List.find?_isSome]
 simp only [decide_eq_true_eq,mem_map]
theorem og (rk:Int->Int):∀(l:List Int),l≠[]->∃x∈l,∀y∈l,rk y<=rk x
 | [],h=>absurd rfl h
 | [a],_=>⟨a,by simp,λy hy=>by rw [mem_singleton.mp hy];exact Int.le_refl _⟩
 | a::b::l,_=>by
   obtain ⟨x,hx,h⟩:=og rk (b::l) (by simp)
   by_cases z:rk a<=rk x
   ·exact ⟨x,mem_cons_of_mem _ hx,λy hy=>by
     rcases mem_cons.mp hy with rfl | hy
     ·exact z
     ·exact h y hy⟩
   ·exact ⟨a,mem_cons_self,λy hy=>by
     rcases mem_cons.mp hy with rfl | hy
     ·exact Int.le_refl _
     ·have:=h y hy;omega⟩
def a9 (v:aw)(k:Int):Int:=(rowOf v k).2.2.1
def goal (v:aw)(p q:Int):List Int:=(fromF v p q).map (a9 v)
structure dZ (v:aw) (p:Int) (g:Int->Int):Prop where
 one:g 1=1
 step:∀q,0<=q->q < v.1.getD p.toNat 0->q≠1->g q=((goal v p q).map g).sum
theorem bC {k:Int}(h:k∈fromF v p q):0<=k/\k < (v.2.length:Int)/\(rowOf v k).1=p/\(rowOf v k).2.1=q/\rowOf v k∈v.2:=by
 unfold fromF at h
 obtain ⟨h1,h2⟩:=mem_filter.mp h
 have kb:=bq.mp h1
 have h2:=of_decide_eq_true h2
 refine ⟨kb.1,kb.2,congrArg Prod.fst h2,congrArg Prod.snd h2,?_⟩
 unfold rowOf
 rw [getD_eq_getElem?_getD,getElem?_eq_getElem (by omega)]
 exact getElem_mem _
theorem k9 (hv:aQ v){z:Int}(h:z∈goal v p q):0<=z/\z < v.1.getD p.toNat 0/\q≠1/\∃r∈v.2,r.1=p/\r.2.1=q/\r.2.2.1=z:=by
 obtain ⟨k,hk,rfl⟩:=mem_map.mp h
 obtain ⟨_,_,h1,h2,h3⟩:=bC hk
 have r:=hv.cL h3
 have a:=r.e0;have b:=r.en;have c:=r.s1
 rw [h1] at b
 rw [h2] at c
 exact ⟨a,b,c,_,h3,h1,h2,rfl⟩
theorem dZ.uniq (hv:aQ v)(p0:0<=p)(hr:dC v.2 p.toNat){g g':Int->Int}(h:dZ v p g)(h':dZ v p g'):∀q,0<=q->q < v.1.getD p.toNat 0->g q=g' q:=by
 obtain ⟨rk,hrk⟩:=hr
 intro q q0 q1
 refine Classical.byContradiction λne=>?_
 have hne:((ups 0 (v.1.getD p.toNat 0).toNat).filter λz=>decide (g z≠g' z))≠[]:=λe=>by
  have:q∈(ups 0 (v.1.getD p.toNat 0).toNat).filter λz=>decide (g z≠g' z):=mem_filter.mpr ⟨bq.mpr ⟨q0,by omega⟩,decide_eq_true ne⟩
  rw [e] at this;cases this
 obtain ⟨x,hx,hmax⟩:=og rk _ hne
 obtain ⟨x1,x2⟩:=mem_filter.mp hx
 have xb:=bq.mp x1
 have x2:g x≠g' x:=of_decide_eq_true x2
 have xn:x≠1:=λe=>x2 (by rw [e,h.one,h'.one])
 refine x2 ?_
 rw [h.step x xb.1 (by omega) xn,h'.step x xb.1 (by omega) xn]
 congr 1
 refine map_congr_left λz hz=>Classical.byContradiction λnz=>?_
 obtain ⟨a,b,_,r,r0,r1,r2,r3⟩:=k9 hv hz
 have:=hmax z (mem_filter.mpr ⟨bq.mpr ⟨a,by omega⟩,decide_eq_true nz⟩)
 have:=hrk r r0 (by omega)
 rw [r2,r3] at this
 omega
def gF (F:List (Int×Int))(q:Int):Int:=(aZ F q).getD 0
structure fi (v:aw) (p:Int) (F:List (Int×Int)):Prop where
 one:aZ F 1=some 1
 nd:(F.map (·.1)).Nodup
 bd:∀q∈F.map (·.1),0<=q/\q < v.1.getD p.toNat 0
 ok:∀q,q∈F.map (·.1)->q≠1->(∀z∈goal v p q,z∈F.map (·.1))/\gF F q=((goal v p q).map (gF F)).sum
theorem k4 {k y:Int}(hk:k∉F.map (·.1))(z:Int):aZ (F++[(k,y)]) z=if z=k then some y else aZ F z:=by
 have hn:(aZ F k).isSome=false:=by
  cases e:(aZ F k).isSome with
  | false=>rfl
  | true=>exact absurd (dY.mp e) hk
 have:=jm F k y z
 unfold dz at this
 rw [hn] at this
 simpa using this
theorem fi.add (h:fi v p F)(hq:q∉F.map (·.1))(q0:0<=q)(q1:q < v.1.getD p.toNat 0)(hg:∀z∈goal v p q,z∈F.map (·.1)):fi v p (F++[(q,((goal v p q).map (gF F)).sum)]):=by
 have keep:∀z,z∈F.map (·.1)->gF (F++[(q,((goal v p q).map (gF F)).sum)]) z=gF F z:=λz hz=>by
  unfold gF
  rw [k4 hq,if_neg (show¬z=q from λe=>hq (e▸hz))]
 have one:(1:Int)∈F.map (·.1):=dY.mp (by rw [h.one];rfl)
 have mp:(F++[(q,((goal v p q).map (gF F)).sum)]).map (·.1)=F.map (·.1)++[q]:=by rw [map_append];rfl
 refine ⟨?_,?_,λz hz=>?_,λz hz zn=>?_⟩
 ·rw [k4 hq,if_neg (show¬(1:Int)=q from λe=>hq (e▸one))];exact h.one
 ·rw [mp];exact eV h.nd hq
 ·rw [mp] at hz
  rcases mem_append.mp hz with w | w
  ·exact h.bd z w
  ·rw [mem_singleton.mp w];exact ⟨q0,q1⟩
 ·rw [mp] at hz ⊢
  rcases mem_append.mp hz with w | w
  ·obtain ⟨a,b⟩:=h.ok z w zn
   refine ⟨λy hy=>mem_append_left _ (a y hy),?_⟩
   rw [keep z w,b]
   congr 1
   exact map_congr_left λy hy=>(keep y (a y hy)).symm
  ·rw [mem_singleton.mp w]
   refine ⟨λy hy=>mem_append_left _ (hg y hy),?_⟩
   have e:gF (F++[(q,((goal v p q).map (gF F)).sum)]) q=((goal v p q).map (gF F)).sum:=by unfold gF;rw [k4 hq,if_pos rfl];rfl
   rw [e]
   congr 1
   exact map_congr_left λy hy=>(keep y (hg y hy)).symm
theorem fi.le (h:fi v p F)(hs:0<=v.1.getD p.toNat 0):(F.length:Int)<=v.1.getD p.toNat 0:=by
 have:=c8 (F.map (·.1)) (ups 0 (v.1.getD p.toNat 0).toNat) h.nd λx hx=>bq.mpr (by have:=h.bd x hx;omega)
 rw [length_map,aC] at this
 omega
theorem fi.all (h:fi v p F)(hs:v.1.getD p.toNat 0<=(F.length:Int)):∀q,0<=q->q < v.1.getD p.toNat 0->q∈F.map (·.1):=by
 intro q q0 q1
 refine Classical.byContradiction λno=>?_
 have:=c8 (q::F.map (·.1)) (ups 0 (v.1.getD p.toNat 0).toNat) (nodup_cons.mpr ⟨no,h.nd⟩) λx hx=>by
  rcases mem_cons.mp hx with rfl | hx
  ·exact bq.mpr (by omega)
  ·exact bq.mpr (by have:=h.bd x hx;omega)
 rw [length_cons,length_map,aC] at this
 omega
theorem fi.eq (h:fi v p F)(hs:v.1.getD p.toNat 0<=(F.length:Int)):dZ v p (gF F):=by
 refine ⟨by unfold gF;rw [h.one];rfl,λq q0 q1 qn=>(h.ok q (h.all hs q q0 q1) qn).2⟩
theorem fi.next (hv:aQ v)(p0:0<=p)(hr:dC v.2 p.toNat)(h:fi v p F)(hs:(F.length:Int) < v.1.getD p.toNat 0):∃q,0<=q/\q < v.1.getD p.toNat 0/\q∉F.map (·.1)/\∀z∈goal v p q,z∈F.map (·.1):=by
 obtain ⟨rk,hrk⟩:=hr
 have hne:((ups 0 (v.1.getD p.toNat 0).toNat).filter λz=>decide (z∉F.map (·.1)))≠[]:=λe=>by
  have all:∀z∈ups 0 (v.1.getD p.toNat 0).toNat,z∈F.map (·.1):=λz hz=>Classical.byContradiction λno=>by
   have:z∈(ups 0 (v.1.getD p.toNat 0).toNat).filter λz=>decide (z∉F.map (·.1)):=mem_filter.mpr ⟨hz,decide_eq_true no⟩
   rw [e] at this;cases this
  have:=c8 _ _ (du _) all
  rw [aC,length_map] at this
  omega
 obtain ⟨x,hx,hmax⟩:=og rk _ hne
 obtain ⟨x1,x2⟩:=mem_filter.mp hx
 have xb:=bq.mp x1
 refine ⟨x,xb.1,by omega,of_decide_eq_true x2,λz hz=>Classical.byContradiction λno=>?_⟩
 obtain ⟨a,b,_,r,r0,r1,r2,r3⟩:=k9 hv hz
 have:=hmax z (mem_filter.mpr ⟨bq.mpr ⟨a,by omega⟩,decide_eq_true no⟩)
 have:=hrk r r0 (by omega)
 rw [r2,r3] at this
 omega
end
section
variable {P:Program}{w:World}{K:PySem.W.Frag}{mg:Str->Option Value}{base:Heap}{f:Addr}{fd:FuncData}
def zI:bX:=λK ps T=>∃(v:aw) (p:Int),ps=[⟨bO,v⟩,⟨ae,p⟩]/\aQ v/\0<=p/\p < (v.1.length:Int)/\dC v.2 p.toNat/\T=bR K ip (λF=>fi v p F/\v.1.getD p.toNat 0<=(F.length:Int))
end
def br (v:aw)(p:Int)(g:Int->Int)(k:Int):Int:=if (rowOf v k).1=p then (((fromF v p (rowOf v k).2.1).filter λj=>decide (j < k)).map λj=>g (a9 v j)).sum else 0
def cM (v:aw)(p:Int)(g:Int->Int):List Int:=(ups 0 v.2.length).map (br v p g)
theorem j5 (v:aw)(p q:Int):(fromF v p q).Pairwise (· < ·):=by
 unfold fromF
 exact (oA _).filter _
theorem before {v:aw}{p q:Int}{i:Nat}{k:Int}(h:(fromF v p q)[i]?=some k):(fromF v p q).filter (λj=>decide (j < k))=(fromF v p q).take i:=by
 have hp:=j5 v p q
 generalize fromF v p q=l at h hp
 induction l generalizing i with
 | nil=>simp at h
 | cons a l ih=>
   obtain ⟨h1,h2⟩:=List.pairwise_cons.mp hp
   cases i with
   | zero=>
     have e:a=k:=by simpa using h
     subst e
     rw [take_zero,List.filter_eq_nil_iff]
     intro x hx
     rcases mem_cons.mp hx with rfl | hx
     ·simp
     ·have:=h1 x hx;simp;omega
   | succ i=>
     have h:l[i]?=some k:=by simpa using h
     have:=h1 k (mem_of_getElem? h)
     rw [filter_cons,decide_eq_true (show a < k by omega),if_pos rfl,take_succ_cons,ih h h2]
structure rC (v:aw) (p:Int) (g:Int->Int) (n:Int) (q:Int) (i:Nat) (xs:List Int):Prop where
 len:xs.length=v.2.length
 val:∀k,0<=k->k < (v.2.length:Int)->xs.getD k.toNat 0=if (rowOf v k).1=p/\((rowOf v k).2.1 < n∨((rowOf v k).2.1=q/\k∈(fromF v p q).take i)) then br v p g k else 0
section
variable {P:Program}{w:World}{K:PySem.W.Frag}{mg:Str->Option Value}{base:Heap}{f:Addr}{fd:FuncData}
def Aw:bX:=λK ps T=>∃(v:aw) (p:Int),ps=[⟨bO,v⟩,⟨ae,p⟩]/\aQ v/\0<=p/\p < (v.1.length:Int)/\dC v.2 p.toNat/\T=fR K ae (λws=>∃g,dZ v p g/\ws=cM v p g)
theorem mf {v:aw}(hv:aQ v){p:Int}(p0:0<=p)(p1:p < (v.1.length:Int))(hR:dC v.2 p.toNat){g g':Int->Int}(h:dZ v p g)(h':dZ v p g'):cM v p g=cM v p g':=by
 unfold cM
 refine map_congr_left λk hk=>?_
 unfold br
 split
 ·congr 1
  refine map_congr_left λj hj=>?_
  have hj:=(mem_filter.mp hj).1
  obtain ⟨_,_,jp,_,jr⟩:=bC hj
  have q:=hv.cL jr
  have a:=q.e0;have b:=q.en
  rw [jp] at b
  exact h.uniq hv p0 hR h' _ a b
 ·rfl
theorem m7 {X:Cx}{Γ Γ1:Ga}{N:Ga->Prop}{T:RT}(i:Nat){S:bX}{x y:Str}{k:Nat}{e:Expr}{es:List Expr}{p p1 p2 pos:Pos}{ps:List Pk}{r:aD Int}{Pd:List Int->Prop}(C:ay X.prog X.w X.K X.mg X.base x k (aF S X.K))(hr:bU k X.A)(ha:HA X (e::es) Γ ps Γ1)(hS:S X.K ps (fR X.K r Pd))(h:∀ys,Pd ys->ys.length<=sizeLine->N (Γ1.set i (.mu r ys)))
 (hg:Gl X x:=by rfl) (hdb:Dg0 x:=by decide) (he:starEach (e::es) X.env=(false,eval e X.env)::starEach es X.env:=by rfl) (hpl:(backTo p2 (starEach es X.env)).any (·.1)=false:=by rfl)
 (hN:X.N.Nodup:=by first | assumption | decide) (hi:X.N[i]?=some y:=by rfl) (hx:autoParam (Loc X.env.scope y) vA2)
 (hs:swapsWith (.Call (.Name x p) (e::es) [] p2) (some (.Name y p1)) pos.line X.env=pure false:=by rfl) (hf:autoParam (X.fn y=true∨X.env.scope.names.lookup y=some .local) vA3):
 W1 X (.Assign [.Name y p1] (.Call (.Name x p) (e::es) [] p2) pos) Γ N T:=λσ H0 R0 H R E D dn dr=>
 sS (d6 hN hi hx aE hs hf) (d4 C hr ha hS E (λH1 R1 v H' R' E1 s1 xx t=>by
  obtain ⟨a,vs,ys,rfl,h0,h1,h2,p,z,hP⟩:=t
  have E2:=E1.grow xx
  exact dn _ H' R' _ (E2.setG (v:=.ref a) (en:=.mu r ys) i ⟨a,vs,rfl,h1,h2,p⟩ (λc hc=>by rw [show c=a by have:=bT.mp (show c∈ku (some (.ref a)) from hc);cases this;rfl];exact E1.ext.h.free h0) λc hc j e _ qj w=>by
   have:c=a:=by have:=bT.mp (show c∈ku (some (.ref a)) from hc);cases this;rfl
   subst this
   exact (Ent.cO (E1.ent j e qj) w).1 h0) (s1.trans xx.r) (h ys hP z)) hg hdb he hpl)
theorem rJ {X:Cx}{Γ Γ1:Ga}{S:bX}{x:Str}{k:Nat}{e b:Expr}{es:List Expr}{p p2 pos:Pos}{ps:List Pk}{Pd:List (Int×Int)->Prop}{kk y:Int}(hu:X.A.units + 1 < cLine)(C:ay X.prog X.w X.K X.mg X.base x k (aF S X.K))(hr:bU k X.A)(ha:HA X (e::es) Γ ps Γ1)(hS:S X.K ps (bR X.K ip Pd))(hb:EV X b Γ1 ae kk Γ1)(h:∀F,Pd F->aZ F kk=some y)
 (hg:Gl X x:=by rfl) (hdb:Dg0 x:=by decide) (he:starEach (e::es) X.env=(false,eval e X.env)::starEach es X.env:=by rfl) (hpl:(backTo p2 (starEach es X.env)).any (·.1)=false:=by rfl) (hs:pv b:=by exact λ_ _=>rfl):EV X (.Subscript (.Call (.Name x p) (e::es) [] p2) b pos) Γ ae y Γ1:=λσ H0 R0 H R E Q q=>
 eS (mE hu aE aE hs) (d4 C hr ha hS E (λH1 R1 v H' R' E1 s1 xx t=>by
  obtain ⟨F,e1,hF⟩:=t
  refine hb σ H0 R0 H' R' (E1.grow xx) _ λu H2 R2 E2 s2 e2=>?_
  obtain ⟨a,rfl,hp⟩:=ip.mono s2 e1
  cases e2
  have g:=ef.k (k:=Sum.inl kk) (E2.sub _ _ hp)
  rw [fQ,h F hF] at g
  exact ⟨a,_,rfl,g,q _ H2 R2 E2 (s1.trans (xx.r.trans s2)) rfl⟩) hg hdb he hpl)
end
end K1
namespace Fc
open PySem PySem.Spec L2
open PyProof.Rows hiding St
section
variable {X:Cx}{Γ Γ1 Γ2 Γ3:Ga}{α β γ δ:Type}{N:Ga->Prop}{T:RT}
theorem Ba (i:Nat){x:Str}{e:Expr}{p1 pos:Pos}{a c:Int}(he:EV X e Γ ae c Γ)(hΓ:Γ[i]?=some (.im ae a))(h:N (Γ.set i (.im ae (a + c))))
 (hN:X.N.Nodup:=by first | assumption | decide) (hi:X.N[i]?=some x:=by rfl) (hx:autoParam (Loc X.env.scope x) vA2)
 (hf:autoParam (X.fn x=true∨X.env.scope.names.lookup x=some .local) vA3):
 W1 X (.AugAssign (.Name x p1) .Add e pos) Γ N T:=λσ H0 R0 H R E D dn dr=>by
 obtain ⟨v,ea,hr⟩:=E.ent i _ hΓ
 cases (show v=V.int a from hr)
 refine sS (uS hN hi hx aE tf hf) ⟨.int a,at_of ea,he σ H0 R0 H R E _ λu H2 R2 E2 s2 e2=>?_⟩
 cases (show u=V.int c from e2)
 exact ⟨a,c,rfl,rfl,dn _ H2 R2 _ (E2.set i (r:=ae) (x:=a + c) rfl) s2 h⟩
theorem Ac (i:Nat){x:Str}{e:Expr}{p1 pos:Pos}{a c:Int}(he:EV X e Γ ae c Γ)(hΓ:Γ[i]?=some (.im ae a))(h:N (Γ.set i (.im ae (a - c))))
 (hN:X.N.Nodup:=by first | assumption | decide) (hi:X.N[i]?=some x:=by rfl) (hx:autoParam (Loc X.env.scope x) vA2)
 (hf:autoParam (X.fn x=true∨X.env.scope.names.lookup x=some .local) vA3):
 W1 X (.AugAssign (.Name x p1) .Sub e pos) Γ N T:=λσ H0 R0 H R E D dn dr=>by
 obtain ⟨v,ea,hr⟩:=E.ent i _ hΓ
 cases (show v=V.int a from hr)
 refine sS (uS hN hi hx aE AE hf) ⟨.int a,at_of ea,he σ H0 R0 H R E _ λu H2 R2 E2 s2 e2=>?_⟩
 cases (show u=V.int c from e2)
 exact ⟨a,c,rfl,rfl,dn _ H2 R2 _ (E2.set i (r:=ae) (x:=a - c) rfl) s2 h⟩
end
section
variable {X:Cx}{Γ Γ1 Γ2 Γ3:Ga}{α β γ δ:Type}{N:Ga->Prop}{T:RT}
theorem sf {x:Str}{pos:Pos}{n:Int}{t:Tok}(hm:X.mg x=some (.int n t))(hg:Gl X x:=by rfl)(hd:Dg0 x:=by decide):nN X (.Name x pos) Γ n:=λσ H0 R0 H R E H' Q q=>eS (qm (v:=.int n) hg hm ⟨t,rfl⟩ hd) q
end
end Fc
namespace K1
open PySem L2 Fc
open PySem.Spec hiding Row
open PyProof.Rows hiding St
open PySem.Builtin.Int (intBits)
theorem Dl {v:aw}(hv:aQ v){p:Int}(p0:0<=p)(p1:p < (v.1.length:Int))(hR:dC v.2 p.toNat):∃g,dZ v p g:=by
 have hs:=hv.sz (v.1.getD p.toNat 0) (by rw [getD_eq_getElem?_getD,getElem?_eq_getElem (by omega)];exact getElem_mem _)
 have o0:fi v p [(1,1)]:=⟨rfl,by simp,λq hq=>by (have:q=1:=by simpa using hq);omega,λq hq qn=>absurd (show q=1 by simpa using hq) qn⟩
 have go:∀(m:Nat) (F:List (Int×Int)),fi v p F->m=(v.1.getD p.toNat 0 - (F.length:Int)).toNat->∃g,dZ v p g:=by
  intro m
  induction m with
  | zero=>exact λF h e=>⟨_,h.eq (by omega)⟩
  | succ m ih=>
    intro F h e
    obtain ⟨q,q0,q1,qn,qg⟩:=h.next hv p0 hR (by omega)
    exact ih _ (h.add qn q0 q1 qg) (by rw [length_append,length_singleton];omega)
 exact go _ _ o0 rfl
open Classical in
noncomputable def onG (v:aw)(p:Int):Int->Int:=if h:∃g,dZ v p g then Classical.choose h else λ_=>0
section
variable {v:aw}{p:Int}
theorem i9 (hv:aQ v)(p0:0<=p)(p1:p < (v.1.length:Int))(hR:dC v.2 p.toNat):dZ v p (onG v p):=by
 have h:=Dl hv p0 p1 hR
 unfold onG
 rw [dif_pos h]
 exact Classical.choose_spec h
theorem fi.get (hv:aQ v)(p0:0<=p)(p1:p < (v.1.length:Int))(hR:dC v.2 p.toNat){F:List (Int×Int)}(h1:fi v p F)(h2:v.1.getD p.toNat 0<=(F.length:Int)){q:Int}(q0:0<=q)(q1:q < v.1.getD p.toNat 0):aZ F q=some (onG v p q):=by
 have e:=(h1.eq h2).uniq hv p0 hR (i9 hv p0 p1 hR) q q0 q1
 have:=dY.mpr (h1.all h2 q q0 q1)
 unfold gF at e
 cases e2:aZ F q with
 | none=>rw [e2] at this;cases this
 | some y=>rw [e2] at e;exact congrArg some e
theorem gr:(cW v p).length=(v.1.getD p.toNat 0).toNat:=by unfold cW;rw [length_map,aC]
theorem ug {i:Nat}{x:List Int}(h:(cW v p)[i]?=some x):i < (v.1.getD p.toNat 0).toNat/\x=fromF v p (i:Int):=by
 have il:=(List.getElem?_eq_some_iff.mp h).1
 rw [gr] at il
 unfold cW at h
 rw [getElem?_map,g8 il] at h
 exact ⟨il,(Option.some.inj h).symm⟩
end
section
variable {P:Program}{w:World}{K:PySem.W.Frag}{mg:Str->Option Value}{base:Heap}{f:Addr}{fd:FuncData}
abbrev mR:Stmt:=top su
abbrev yi:List Str:=["web","part","leaving","known","place","numbers","following"]
theorem zK:aB yi ["web","part"] (ah mR):=fS0
theorem Dp (M:bN mg)(CL:ay P w K mg base "rows_leaving" 1 (aF (uM true) K))(F:bI K "ways_on" "ways_on" mR f fd)(hm:mg "ways_on"=some (.ref f))(hb:Binds K fd ["web","part"] []):ay P w K mg base "ways_on" 2 (aF zI K):=by
 have nd:=zK.nd
 have nd1:List.Nodup [("number":Str),"web"]:=by decide
 have nd2:List.Nodup [("to":Str),"known"]:=by decide
 obtain ⟨t2,hEND⟩:=M.end_
 refine bG F zK hm hb (λqs T ⟨_,_,e,_⟩=>by rw [e];rfl) (λcdv A outer s H E qs T hr hS=>?_)
 obtain ⟨v,p,rfl,hv,p0,p1,hR,rfl⟩:=hS
 have hu:(A.deeper (envOfC "ways_on" (ah mR) s.heap.objs.size f cdv)).units + 1 < cLine:=Nat.lt_of_le_of_lt (Nat.add_le_add_left (by decide:1<=64) _) hr.units
 have pl:=hv.pl
 have rl:=hv.rl
 have hs:=hv.sz (v.1.getD p.toNat 0) (by rw [getD_eq_getElem?_getD,getElem?_eq_getElem (by omega)];exact getElem_mem _)
 have ll:=gr (v:=v) (p:=p)
 change WS _ _ [.im (av (af ae) (af ax)) v,.im ae p,.no,.no,.no,.no,.no] _ _
 refine ai (bg 2 (aY.im (cT CL hr (ag (aa 0 rfl) (ag (aa 1 rfl) aq)) ⟨v,p,rfl,hv,p0,p1,rfl⟩)) ?_)
 refine ai (mI 3 (sf hEND) d8 ?_)
 have o0:fi v p [(1,1)]:=⟨rfl,by simp,λq hq=>by (have:q=1:=by simpa using hq);omega,λq hq qn=>absurd (show q=1 by simpa using hq) qn⟩
 refine ai (f7 (λm Γ=>∃F v4 v5 v6,Γ=[.im (av (af ae) (af ax)) v,.im ae p,.im (af (af ae)) (cW v p),.di (cQ F),v4,v5,v6]/\fi v p F/\m=(v.1.getD p.toNat 0 - (F.length:Int)).toNat) ⟨[(1,1)],_,_,_,rfl,o0,rfl⟩ ?_)
 rintro m Γ ⟨F,v4,v5,v6,rfl,hO,rfl⟩
 have hle:=hO.le (by omega)
 refine ⟨_,_,TV.frz (nO (i:=3) rfl) (bc e7 (o5 M.len (aa 3 rfl)) (bQ M.len (aa 2 rfl))),λh=>?_,λh=>?_⟩
 ·have h:(F.length:Int) < v.1.getD p.toNat 0:=by have:=of_decide_eq_true h;omega
  obtain ⟨qs,s0,s1,sn,sg⟩:=hO.next hv p0 hR h
  refine ak (cv (r:=av ae (af ae)) (λi Γ=>∃G v4 v5 v6,Γ=[.im (av (af ae) (af ax)) v,.im ae p,.im (af (af ae)) (cW v p),.di (cQ G),v4,v5,v6]/\fi v p G/\(∀z∈F.map (·.1),z∈G.map (·.1))/\F.length<=G.length/\(qs < (i:Int)->F.length < G.length))
   (iQ M.enumerate (aa 2 rfl)) (fG 4 5) ⟨F,_,_,_,rfl,hO,λz hz=>hz,Nat.le_refl _,λe=>by omega⟩ ?_ ?_)
  ·rintro i x Γ hx ⟨G,v4,v5,v6,rfl,hG,hsub,hfl,hq1⟩
   obtain ⟨e1,e2⟩:=hU hx
   obtain ⟨il,e3⟩:=ug e2
   obtain ⟨q,ns⟩:=x
   have e1:q=(i:Int):=e1
   have e3:ns=fromF v p (i:Int):=e3
   rw [← e1] at e3
   subst e3
   have hid:((((fromF v p q).filter λ_=>true).map λk=>(rowOf v k).2.2.1))=goal v p q:=by rw [filter_eq_self.mpr (by simp)];rfl
   have hk:∀k∈fromF v p q,cN v.2 k=some (rowOf v k):=λk hk=>bJ bM (bC hk).1 (bC hk).2.1
   change WS _ _ [.im (av (af ae) (af ax)) v,.im ae p,.im (af (af ae)) (cW v p),.di (cQ G),.im ae q,.im (af ae) (fromF v p q),v6] _ _
   refine ai (ir 6 (own:=["number"]) (fr:=["web"]) (ix:=[0]) (ra:=ae) (rb:=ae) (p:=λ_=>true) (f:=λk=>(rowOf v k).2.2.1) (bj (so:=ah mR) (N0:=yi) rfl rfl (λx h=>aT h) (by decide +kernel)) (aR (aa 5 rfl))
    (λC s H ex=>aG 0) (λx=>⟨.inr rfl,.inl rfl,trivial⟩) (λC s H ex x hx=>cf) (λC s H ex x hx _=>cA (aJ (bb (aa 1 rfl)) (aa 0 rfl) (hk x hx))) ?_)
   rw [hid]
   have gl:(goal v p q).length<=60:=by
    unfold goal fromF
    rw [length_map]
    refine Nat.le_trans (length_filter_le _ _) ?_
    rw [aC];omega
   refine WS.freeze 6 rfl (aI (by omega)) ?_
   change WS _ _ [.im (av (af ae) (af ax)) v,.im ae p,.im (af (af ae)) (cW v p),.di (cQ G),.im ae q,.im (af ae) (fromF v p q),.im (af ae) (goal v p q)] _ _
   have mem:∀z,(aZ G z).isSome=true↔z∈G.map (·.1):=λz=>dY
   have hglen:=hG.le (by omega)
   refine ak (bL (TW.tv (dN (kH 3 true hu (aa 4 rfl) rfl) (λ_=>g5 (TV.frz (nO (i:=3) rfl) (bV (fe M.all (aY.im (bF (own:=["to"]) (fr:=["known"]) (ix:=[3]) (ra:=ae) (rb:=aW) (p:=λ_=>true) (f:=λz=>(aZ G z).isSome) (bj (so:=ah mR) (N0:=yi) rfl rfl (λx h=>aT h) (by decide +kernel)) (aR (aa 6 rfl))
    (λC s H ex=>aG 0) (λx=>⟨.inr rfl,.inl rfl,trivial⟩) (λC s H ex x hx=>cf) (λC s H ex x hx _=>zp hu (aa 0 rfl) (aa 1 rfl)))))))))) (λh=>?_) (λh=>bu ?_))
   ·obtain ⟨h1,h2⟩:=Bool.and_eq_true_iff.mp h
    have h1:q∉G.map (·.1):=λw=>by
     have:=(mem q).mpr w
     rw [← fE] at this
     simp [this] at h1
    have h2:∀z∈goal v p q,z∈G.map (·.1):=λz hz=>by
     rw [all_eq_true] at h2
     exact (mem z).mp (h2 _ (mem_map.mpr ⟨z,mem_filter.mpr ⟨hz,rfl⟩,rfl⟩))
    have hg2:∀z∈goal v p q,aZ G z=some (gF G z):=λz hz=>by
     have:=(mem z).mpr (h2 z hz)
     unfold gF
     cases e:aZ G z with
     | none=>rw [e] at this;cases this
     | some y=>rfl
    have hid2:(((goal v p q).filter λ_=>true).map λz=>gF G z).sum=((goal v p q).map (gF G)).sum:=by rw [filter_eq_self.mpr (by simp)]
    refine ak (lU 3 hu (aa 4 rfl) (EV.frz (nO (i:=3) rfl) (λ_ _ _ _ _ h=>h) (EV.cast (tF M.sum (aY.im (bF (own:=["to"]) (fr:=["known"]) (ix:=[3]) (ra:=ae) (rb:=ae) (p:=λ_=>true) (f:=λz=>gF G z) (bj (so:=ah mR) (N0:=yi) rfl rfl (λx h=>aT h) (by decide +kernel)) (aR (aa 6 rfl))
     (λC s H ex=>aG 0) (λx=>⟨.inr rfl,.inl rfl,trivial⟩) (λC s H ex x hx=>cf) (λC s H ex x hx _=>lX hu (aa 1 rfl) (aa 0 rfl) (hg2 x hx))))) hid2)) rfl (Nat.lt_of_le_of_lt (show G.length<=1000 by omega) (by decide)) ?_)
    have ep:dz G q ((goal v p q).map (gF G)).sum=G++[(q,((goal v p q).map (gF G)).sum)]:=by
     unfold dz
     rw [if_neg (λe=>h1 ((mem q).mp e))]
    refine ⟨G++[(q,((goal v p q).map (gF G)).sum)],_,_,_,by rw [ep];rfl,hG.add h1 (by omega) (by omega) h2,λz hz=>?_,by rw [length_append];omega,λ_=>by rw [length_append];simp;omega⟩
    rw [map_append];exact mem_append_left _ (hsub z hz)
   ·refine ⟨G,_,_,_,rfl,hG,hsub,hfl,λhlt=>?_⟩
    by_cases e:qs < (i:Int)
    ·exact hq1 e
    ·have eqq:q=qs:=by omega
     subst eqq
     have hin:q∈G.map (·.1):=Classical.byContradiction λno=>by
      have a1:(if true=true then !gM (cQ G) q else gM (cQ G) q)=true:=by
       rw [if_pos rfl,fE]
       cases e2:(aZ G q).isSome with
       | false=>rfl
       | true=>exact absurd ((mem q).mp e2) no
      have a2:((((goal v p q).filter λ_=>true).map λz=>(aZ G z).isSome).all id)=true:=by
       rw [all_eq_true]
       intro y hy
       obtain ⟨z,hz,rfl⟩:=mem_map.mp hy
       exact (mem z).mpr (hsub z (sg z (mem_filter.mp hz).1))
      rw [a1,a2] at h
      exact absurd h (by decide)
     have:=c8 (q::F.map (·.1)) (G.map (·.1)) (nodup_cons.mpr ⟨sn,hO.nd⟩) λx hx=>by
      rcases mem_cons.mp hx with rfl | hx
      ·exact hin
      ·exact hsub x hx
     rw [length_cons,length_map,length_map] at this
     omega
  ·rintro Γ ⟨G,v4,v5,v6,rfl,hG,_,_,hq1⟩
   rw [dw,gr] at hq1
   have:=hq1 (by omega)
   have:=hG.le (by omega)
   exact ⟨_,by omega,G,_,_,_,rfl,hG,rfl⟩
 ·have h:¬(F.length:Int) < v.1.getD p.toNat 0:=by have:=of_decide_eq_false h;omega
  exact ak (qB 3 rfl ⟨hO,by omega⟩)
abbrev sV:Stmt:=top pk
abbrev nWI:List Str:=["web","part","known","told","numbers","total","number"]
theorem z9:aB nWI ["web","part"] (ah sV):=fS0
theorem C6 (M:bN mg)(CN:ay P w K mg base "ways_on" 2 (aF zI K))(CL:ay P w K mg base "rows_leaving" 1 (aF (uM true) K))(F:bI K "worths_in" "worths_in" sV f fd)(hm:mg "worths_in"=some (.ref f))(hb:Binds K fd ["web","part"] []):ay P w K mg base "worths_in" 3 (aF Aw K):=by
 have nd:=z9.nd
 have CN:=CN.mono (show 2<=2 by decide)
 have CL:=CL.mono (show 1<=2 by decide)
 refine bG F z9 hm hb (λqs T ⟨_,_,e,_⟩=>by rw [e];rfl) (λcdv A outer s H E qs T hr hS=>?_)
 obtain ⟨v,p,rfl,hv,p0,p1,hR,rfl⟩:=hS
 have hu:(A.deeper (envOfC "worths_in" (ah sV) s.heap.objs.size f cdv)).units + 1 < cLine:=Nat.lt_of_le_of_lt (Nat.add_le_add_left (by decide:1<=64) _) hr.units
 have pl:=hv.pl
 have rl:=hv.rl
 have hs:=hv.sz (v.1.getD p.toNat 0) (by rw [getD_eq_getElem?_getD,getElem?_eq_getElem (by omega)];exact getElem_mem _)
 have ll:=gr (v:=v) (p:=p)
 change WS _ _ [.im (av (af ae) (af ax)) v,.im ae p,.no,.no,.no,.no,.no] _ _
 refine ai (kj 2 CN hr (ag (aa 0 rfl) (ag (aa 1 rfl) aq)) ⟨v,p,rfl,hv,p0,p1,hR,rfl⟩ ?_)
 rintro D ⟨hD,hDl⟩
 have hE:=i9 hv p0 p1 hR
 have hget:∀z,0<=z->z < v.1.getD p.toNat 0->aZ D z=some (onG v p z):=λz z0 z1=>fi.get hv p0 p1 hR hD hDl z0 z1
 generalize onG v p=g at hE hget
 refine ai (cG 3 (r:=ae) (ky (aY.im (aO (aN ar bh) (by show 1<=sizeLine;decide))) (bQ M.len (bb (aa 0 rfl))) (by omega) (by omega) (aI (by simp;omega))) ?_)
 rw [rep0,show ((v.2.length:Int)).toNat=v.2.length by omega]
 have rp:∀k,0<=k->k < (v.2.length:Int)->vX v.1 (rowOf v k):=λk k0 k1=>hv.cL (by unfold rowOf;rw [getD_eq_getElem?_getD,getElem?_eq_getElem (by omega)];exact getElem_mem _)
 have w0:rC v p g 0 0 0 (List.replicate v.2.length 0):=by
  refine ⟨length_replicate,λk k0 k1=>?_⟩
  rw [getD_eq_getElem?_getD,getElem?_replicate,if_pos (by omega),if_neg]
  ·rfl
  ·rintro ⟨_,z | ⟨_,z⟩⟩
   ·have:=(rp k k0 k1).s0;omega
   ·simp at z
 refine ai (cv (r:=af ae) (λi Γ=>∃xs v4 v5 v6,Γ=[.im (av (af ae) (af ax)) v,.im ae p,.im ip D,.mu ae xs,v4,v5,v6]/\rC v p g (i:Int) 0 0 xs)
  (aR (aY.im (cT CL hr (ag (aa 0 rfl) (ag (aa 1 rfl) aq)) ⟨v,p,rfl,hv,p0,p1,rfl⟩))) (aG 4) ⟨_,_,_,_,rfl,w0⟩ ?_ ?_)
 ·rintro i ns Γ hq ⟨xs,v4,v5,v6,rfl,hW⟩
  obtain ⟨hi,rfl⟩:=ug hq
  refine ai (bg 5 ar ?_)
  refine ak (cv (r:=ae) (λj Γ=>∃xs v6,Γ=[.im (av (af ae) (af ax)) v,.im ae p,.im ip D,.mu ae xs,.im (af ae) (fromF v p (i:Int)),.im ae ((((fromF v p (i:Int)).take j).map λk=>g (a9 v k)).sum),v6]/\rC v p g (i:Int) (i:Int) j xs)
   (aR (aa 4 rfl)) (aG 6) ⟨xs,_,rfl,⟨hW.len,λk k0 k1=>by rw [hW.val k k0 k1];simp⟩⟩ ?_ ?_)
  ·rintro j k Γ hk ⟨xs,v6,rfl,hW⟩
   have km:=mem_of_getElem? hk
   obtain ⟨k0,k1,kp,kq,kr⟩:=bC km
   have hl:=hW.len
   have tk:(fromF v p (i:Int)).take (j + 1)=(fromF v p (i:Int)).take j++[k]:=by rw [take_succ,hk];rfl
   refine ai (rm 3 (aa 5 rfl) (aa 6 rfl) rfl rfl (dH k0 (by omega)) ?_)
   have q:=hv.cL kr
   have e0:=q.e0;have en:=q.en
   rw [kp] at en
   refine ak (Ba 5 (lX hu (aa 2 rfl) (cA (aJ (bb (aa 0 rfl)) (aa 6 rfl) (bJ bM k0 k1))) (hget _ e0 en)) rfl ?_)
   have es:(((fromF v p (i:Int)).take (j + 1)).map λk=>g (a9 v k)).sum=(((fromF v p (i:Int)).take j).map λk=>g (a9 v k)).sum + g (rowOf v k).2.2.1:=by rw [tk,map_append,sum_append];simp [a9]
   refine ⟨xs.set k.toNat ((((fromF v p (i:Int)).take j).map λk=>g (a9 v k)).sum),.im ae k,by rw [es];rfl,by rw [length_set];exact hl,λm m0 m1=>?_⟩
   by_cases e:m=k
   ·subst e
    have hw:br v p g m=(((fromF v p (i:Int)).take j).map λk=>g (a9 v k)).sum:=by
     unfold br
     rw [if_pos kp,kq,before hk]
    rw [getD_eq_getElem?_getD,getElem?_set_self (by omega),if_pos ⟨kp,.inr ⟨kq,by rw [tk];simp⟩⟩,hw];rfl
   ·have:(xs.set k.toNat ((((fromF v p (i:Int)).take j).map λk=>g (a9 v k)).sum)).getD m.toNat 0=xs.getD m.toNat 0:=by
     rw [getD_eq_getElem?_getD,getElem?_set_ne (by omega),← getD_eq_getElem?_getD]
    rw [this,hW.val m m0 m1,tk]
    have:m∈(fromF v p (i:Int)).take j++[k]↔m∈(fromF v p (i:Int)).take j:=by
     rw [mem_append,mem_singleton]
     exact ⟨λz=>z.resolve_right e,.inl⟩
    simp only [this]
  ·rintro Γ ⟨xs,v6,rfl,hW⟩
   refine ⟨xs,_,_,_,rfl,hW.len,λk k0 k1=>?_⟩
   rw [hW.val k k0 k1,take_length]
   have hiff:((rowOf v k).1=p/\((rowOf v k).2.1 < (i:Int)∨((rowOf v k).2.1=(i:Int)/\k∈fromF v p (i:Int))))↔((rowOf v k).1=p/\((rowOf v k).2.1 < ((i + 1:Nat):Int)∨((rowOf v k).2.1=0/\k∈(fromF v p 0).take 0))):=by
    constructor
    ·rintro ⟨a,b | ⟨b,_⟩⟩
     ·exact ⟨a,.inl (by omega)⟩
     ·exact ⟨a,.inl (by omega)⟩
    ·rintro ⟨a,b | ⟨_,b⟩⟩
     ·by_cases z:(rowOf v k).2.1 < (i:Int)
      ·exact ⟨a,.inl z⟩
      ·have e:(rowOf v k).2.1=(i:Int):=by omega
       refine ⟨a,.inr ⟨e,?_⟩⟩
       unfold fromF
       exact mem_filter.mpr ⟨bq.mpr ⟨k0,k1⟩,decide_eq_true (by rw [a,e])⟩
     ·simp at b
   by_cases c:(rowOf v k).1=p/\((rowOf v k).2.1 < (i:Int)∨((rowOf v k).2.1=(i:Int)/\k∈fromF v p (i:Int)))
   ·rw [if_pos c,if_pos (hiff.mp c)]
   ·rw [if_neg c,if_neg (λz=>c (hiff.mpr z))]
 ·rintro Γ ⟨xs,v4,v5,v6,rfl,hW⟩
  rw [gr] at hW
  have hl:=hW.len
  refine ak (g9 3 rfl (aI (by omega)) ⟨g,hE,?_⟩)
  unfold cM
  refine ext_getElem? λm=>?_
  by_cases hm:m < v.2.length
  ·have hu:(ups 0 v.2.length)[m]?=some (m:Int):=g8 hm
   have:=hW.val (m:Int) (by omega) (by omega)
   rw [show ((m:Int)).toNat=m by omega,getD_eq_getElem?_getD,getElem?_eq_getElem (by omega)] at this
   rw [getElem?_map,hu,getElem?_eq_getElem (by omega)]
   have this:xs[m]=_:=this
   rw [this]
   congr 1
   by_cases c:(rowOf v (m:Int)).1=p
   ·have r:=rp (m:Int) (by omega) (by omega)
    have b:=r.sn
    rw [c] at b
    rw [if_pos ⟨c,.inl (by omega)⟩]
   ·rw [if_neg (λz=>c z.1)]
    unfold br
    rw [if_neg c]
  ·rw [getElem?_eq_none (by omega),getElem?_eq_none (by rw [length_map,aC];omega)]
end
end K1
namespace Fc
open PySem PySem.Spec L2
open PyProof.Rows hiding St
section
variable {prog:Program}{w:World}{A:Around}{E:Value->Shared->Prop}{s:Shared}
end
section
variable {X:Cx}{Γ Γ1 Γ2 Γ3:Ga}{α β γ δ:Type}{N:Ga->Prop}{T:RT}
end
end Fc
namespace K1
open PySem L2 Fc
open PySem.Spec hiding Row
open PyProof.Rows hiding St
open PySem.Builtin.Int (intBits)
section
variable {v:aw}{p:Int}
theorem oB:∀(xs:List Int),(∀x∈xs,0<=x)->0<=xs.sum
 | [],_=>by simp
 | x::xs,h=>by
   rw [sum_cons]
   have:=h x mem_cons_self
   have:=oB xs λy hy=>h y (mem_cons_of_mem _ hy)
   omega
theorem step_at (g:Nat->Int)(l:Int):∀n,g 0<=l->l < g n->∃i,i < n/\g i<=l/\l < g (i + 1)
 | 0,h0,h1=>by omega
 | n + 1,h0,h1=>by
   by_cases e:g n<=l
   ·exact ⟨n,by omega,e,h1⟩
   ·obtain ⟨i,h2,h3,h4⟩:=step_at g l n h0 (by omega)
    exact ⟨i,by omega,h3,h4⟩
theorem p7 {g:Nat->Int}{n:Nat}(h:∀i,i < n->g i<=g (i + 1)):∀{i j:Nat},i<=j->j<=n->g i<=g j:=by
 intro i j hij
 induction hij with
 | refl=>intro _;exact Int.le_refl _
 | step _ ih=>intro hj;exact Int.le_trans (ih (by omega)) (h _ (by omega))
theorem kY (hv:aQ v)(p0:0<=p)(hR:dC v.2 p.toNat){r:Row}(hr:r∈v.2)(hp:r.1=p):eu (fwd v.2 p) r.2.2.1 < eu (fwd v.2 p) r.2.1:=by
 have ht:(r.2.1,r.2.2.1)∈fwd v.2 p:=gj.mpr ⟨r,hr,hp,rfl,rfl⟩
 have rp:=hv.cL hr
 have s0:=rp.s0;have sn:=rp.sn;have q1:=rp.p1;have q0:=rp.p0
 have sz:=hv.sz (v.1.getD r.1.toNat 0) (by rw [getD_eq_getElem?_getD,getElem?_eq_getElem (by omega)];exact getElem_mem _)
 exact qI ht ((w6 hv p0).mp hR _ ht) s0 (by omega)
theorem sM {v:aw}(hv:aQ v){p:Int}(p0:0<=p)(hR:dC v.2 p.toNat){g:Int->Int}(hE:dZ v p g):∀(n:Nat) (q:Int),eu (fwd v.2 p) q < n->0<=q->q < v.1.getD p.toNat 0->0<=g q
 | 0,q,h,_,_=>by omega
 | n + 1,q,h,q0,q1=>by
   by_cases e:q=1
   ·rw [e,hE.one];decide
   ·rw [hE.step q q0 q1 e]
    refine oB _ λy hy=>?_
    obtain ⟨z,hz,rfl⟩:=mem_map.mp hy
    obtain ⟨z0,z1,_,r,hr,r1,r2,r3⟩:=k9 hv hz
    have:=kY hv p0 hR hr r1
    rw [r2,r3] at this
    exact sM hv p0 hR hE n z (by omega) z0 z1
theorem eO {g:Int->Int}{k:Int}(k0:0<=k)(k1:k < (v.2.length:Int)):(cM v p g).getD k.toNat 0=br v p g k:=by
 unfold cM
 rw [getD_eq_getElem?_getD,getElem?_map]
 unfold ups
 rw [getElem?_map,getElem?_range (by omega)]
 simp only [Option.map_some,Option.getD_some]
 rw [show (0:Int) + (k.toNat:Int)=k by omega]
def cB (v:aw)(p:Int)(g:Int->Int)(left:Int)(k:Int):Bool:=decide ((cM v p g).getD k.toNat 0<=left)
theorem vS (hv:aQ v)(p0:0<=p)(hR:dC v.2 p.toNat){g:Int->Int}(hE:dZ v p g){q left:Int}(q0:0<=q)(q1:q < v.1.getD p.toNat 0)(qn:q≠1)(l0:0<=left)(l1:left < g q):
 ∃k,k∈fromF v p q/\br v p g k<=left/\left - br v p g k < g (a9 v k)/\k∈(fromF v p q).filter (cB v p g left)/\∀x∈(fromF v p q).filter (cB v p g left),x<=k:=by
 have hg:g q=((fromF v p q).map λk=>g (a9 v k)).sum:=by
  rw [hE.step q q0 q1 qn]
  unfold goal
  rw [map_map];rfl
 have gn:∀k∈fromF v p q,0<=g (a9 v k):=λk hk=>by
  obtain ⟨_,_,h1,h2,h3⟩:=bC hk
  have r:=hv.cL h3
  have a:=r.e0;have b:=r.en
  rw [h1] at b
  exact sM hv p0 hR hE _ _ (Nat.lt_succ_self _) a b
 have tk:∀(i:Nat) (k:Int),(fromF v p q)[i]?=some k->(((fromF v p q).take (i + 1)).map λk=>g (a9 v k)).sum=(((fromF v p q).take i).map λk=>g (a9 v k)).sum + g (a9 v k):=λi k hk=>by
  rw [take_succ,hk,map_append,sum_append];simp
 obtain ⟨j,hj,h1,h2⟩:=step_at (λi=>(((fromF v p q).take i).map λk=>g (a9 v k)).sum) left (fromF v p q).length (by simpa using l0) (by rw [take_length,← hg];exact l1)
 have h1:(((fromF v p q).take j).map λk=>g (a9 v k)).sum<=left:=h1
 have h2:left < (((fromF v p q).take (j + 1)).map λk=>g (a9 v k)).sum:=h2
 obtain ⟨k,hk⟩:∃k,(fromF v p q)[j]?=some k:=⟨_,getElem?_eq_getElem hj⟩
 have wa:∀(i:Nat) (x:Int),(fromF v p q)[i]?=some x->br v p g x=(((fromF v p q).take i).map λk=>g (a9 v k)).sum:=λi x hx=>by
  obtain ⟨_,_,e1,e2,_⟩:=bC (mem_of_getElem? hx)
  unfold br
  rw [if_pos e1,e2,before hx]
 have wf:∀(i:Nat) (x:Int),(fromF v p q)[i]?=some x->(cM v p g).getD x.toNat 0=(((fromF v p q).take i).map λk=>g (a9 v k)).sum:=λi x hx=>by
  obtain ⟨e0,e1,_⟩:=bC (mem_of_getElem? hx)
  rw [eO e0 e1,wa i x hx]
 have h3:=tk j k hk
 refine ⟨k,mem_of_getElem? hk,by rw [wa j k hk];exact h1,by rw [wa j k hk];omega,mem_filter.mpr ⟨mem_of_getElem? hk,?_⟩,λx hx=>?_⟩
 ·unfold cB
  rw [wf j k hk];exact decide_eq_true h1
 ·obtain ⟨hx1,hx2⟩:=mem_filter.mp hx
  obtain ⟨i,hi⟩:=mem_iff_getElem?.mp hx1
  unfold cB at hx2
  have hx2:=of_decide_eq_true hx2
  rw [wf i x hi] at hx2
  have il:=(List.getElem?_eq_some_iff.mp hi).1
  have mono:∀m,m < (fromF v p q).length->(((fromF v p q).take m).map λk=>g (a9 v k)).sum<=(((fromF v p q).take (m + 1)).map λk=>g (a9 v k)).sum:=λm hm=>by
   rw [tk m _ (getElem?_eq_getElem hm)]
   have:=gn _ (getElem_mem hm)
   omega
  have ij:i<=j:=Nat.le_of_not_lt λz=>by
   have:=p7 (g:=λi=>(((fromF v p q).take i).map λk=>g (a9 v k)).sum) mono (i:=j + 1) (j:=i) (by omega) (by omega)
   have this:(((fromF v p q).take (j + 1)).map λk=>g (a9 v k)).sum<=(((fromF v p q).take i).map λk=>g (a9 v k)).sum:=this
   omega
  have hp:=j5 v p q
  rcases Nat.lt_or_ge i j with z | z
  ·have a1:=List.getElem?_eq_some_iff.mp hi
   have a2:=List.getElem?_eq_some_iff.mp hk
   have:=List.pairwise_iff_getElem.mp hp i j a1.1 a2.1 z
   rw [a1.2,a2.2] at this
   omega
  ·have:i=j:=by omega
   subst this
   rw [hk] at hi;cases hi;exact Int.le_refl _
theorem sX (es:List (Int×Int))(a:Int):eu es a<=16:=by
 unfold eu
 refine Nat.le_trans (length_filter_le _ _) ?_
 rw [aC];exact Nat.le_refl _
def eY (v:aw)(p:Int)(g:Int->Int):Nat->Int->Int->List Int
 | 0,_,_=>[]
 | m + 1,q,left=>if q=1 then [] else most ((fromF v p q).filter (cB v p g left))::eY v p g m (a9 v (most ((fromF v p q).filter (cB v p g left)))) (left - br v p g (most ((fromF v p q).filter (cB v p g left))))
end
section
variable {P:Program}{w:World}{K:PySem.W.Frag}{mg:Str->Option Value}{base:Heap}{f:Addr}{fd:FuncData}{C:Addr}
abbrev tD:Stmt:=top uI
abbrev D9:List Str:=["web","known","leaving","number","way","place","left","row"]
theorem zO:aB D9 ["web","known","leaving","number"] (ah tD):=fS0
def ES:bX:=λK ps T=>∃(v:aw) (p:Int) (g:Int->Int) (n:Int),ps=[⟨bO,v⟩,⟨af ae,cM v p g⟩,⟨af (af ae),cW v p⟩,⟨ae,n⟩]/\aQ v/\0<=p/\p < (v.1.length:Int)/\dC v.2 p.toNat/\dZ v p g/\0<=n/\n < g 0/\T=bR K (af ae) (· =eY v p g 17 0 n)
theorem Cj (M:bN mg)(F:bI K "way_by" "way_by" tD f fd)(hm:mg "way_by"=some (.ref f))(hb:Binds K fd ["web","known","leaving","number"] []):ay P w K mg base "way_by" 1 (aF ES K):=by
 have nd:=zO.nd
 have nd1:List.Nodup [("choice":Str),"known","left"]:=by decide
 obtain ⟨t1,hB⟩:=M.begin_
 obtain ⟨t2,hEND⟩:=M.end_
 refine bG F zO hm hb (λqs T ⟨_,_,_,_,e,_⟩=>by rw [e];rfl) (λcdv A outer s H E qs T hr hS=>?_)
 obtain ⟨v,p,g,n,rfl,hv,p0,p1,hR,hE,n0,n1,rfl⟩:=hS
 have rl:=hv.rl
 have hs:=hv.sz (v.1.getD p.toNat 0) (by rw [getD_eq_getElem?_getD,getElem?_eq_getElem (by omega)];exact getElem_mem _)
 have ll:=gr (v:=v) (p:=p)
 have wl:(cM v p g).length=v.2.length:=by unfold cM;rw [length_map,aC]
 change WS _ _ [.im (av (af ae) (af ax)) v,.im (af ae) (cM v p g),.im (af (af ae)) (cW v p),.im ae n,.no,.no,.no,.no] _ _
 refine ai (cG 4 (r:=ae) (aO bh (by decide)) ?_)
 refine ai (bg 5 (bE hB) ?_)
 refine ai (bg 6 (aa 3 rfl) ?_)
 refine ai (f7 (λm Γ=>∃way q left v7,Γ=[.im (av (af ae) (af ax)) v,.im (af ae) (cM v p g),.im (af (af ae)) (cW v p),.im ae n,.mu ae way,.im ae q,.im ae left,v7]/\0<=q/\q < v.1.getD p.toNat 0/\0<=left/\left < g q/\m=eu (fwd v.2 p) q/\way.length + eu (fwd v.2 p) q<=16/\eY v p g 17 0 n=way++eY v p g (17 - way.length) q left) (m0:=eu (fwd v.2 p) 0) ⟨_,_,_,_,rfl,by decide,by omega,n0,n1,rfl,by have:=sX (fwd v.2 p) 0;simpa using this,rfl⟩ ?_)
 rintro m Γ ⟨way,q,left,v7,rfl,q0,q1,l0,l1,rfl,hl,hw⟩
 have ew:eY v p g (17 - way.length) q left=if q=1 then [] else most ((fromF v p q).filter (cB v p g left))::eY v p g (16 - way.length) (a9 v (most ((fromF v p q).filter (cB v p g left)))) (left - br v p g (most ((fromF v p q).filter (cB v p g left)))):=by
  rw [show 17 - way.length=(16 - way.length) + 1 by omega];rfl
 rw [ew] at hw
 refine ⟨_,_,bc jt (aa 5 rfl) (bE hEND),λh=>?_,λh=>?_⟩
 ·have h:q≠1:=by simpa using h
  obtain ⟨k,km,w1,w2,kf,kx⟩:=vS hv p0 hR hE q0 q1 h l0 l1
  obtain ⟨k0,k1,kp,kq,kr⟩:=bC km
  have lat:cN (cW v p) q=some (fromF v p q):=by
   rw [e9 q0 (by omega)]
   unfold cW
   rw [getElem?_map,g8 (by omega)]
   simp only [Option.map_some]
   rw [show ((q.toNat:Nat):Int)=q by omega]
  have w0:0<=br v p g k:=by
   unfold br
   rw [if_pos kp]
   refine oB _ λy hy=>?_
   obtain ⟨j,hj,rfl⟩:=mem_map.mp hy
   rw [kq] at hj
   obtain ⟨_,_,j1,j2,j3⟩:=bC (mem_filter.mp hj).1
   have r:=hv.cL j3
   have a:=r.e0;have b:=r.en
   rw [j1] at b
   exact sM hv p0 hR hE _ _ (Nat.lt_succ_self _) a b
  refine ai (bg 7 (y:=k) (EV.cast (za M.max (aY.im (bF (own:=["choice"]) (fr:=["known","left"]) (ix:=[1,6]) (ra:=ae) (rb:=ae) (p:=cB v p g left) (f:=λx=>x) (bj (so:=ah tD) (N0:=D9) rfl rfl (λx h=>aT h) (by decide +kernel)) (aR (aJ (aa 2 rfl) (aa 5 rfl) lat))
   (λC s H ex=>aG 0) (λx=>⟨.inr rfl,.inl rfl,.inl rfl,trivial⟩) (λC s H ex x hx=>fU (bc gm (aJ (aa 1 rfl) (aa 0 rfl) (by have:=bC hx;exact cw this.1 (by omega))) (aa 2 rfl))) (λC s H ex x hx _=>aa 0 rfl))) (by rw [map_id'];exact ne_nil_of_mem kf)) (by rw [map_id'];exact ko kf kx)) ?_)
  refine ai (Ac 6 (c:=br v p g k) (aJ (aa 1 rfl) (aa 7 rfl) (by rw [cw k0 (by omega),eO k0 k1])) rfl ?_)
  refine ai (cS 4 (aa 7 rfl) rfl rfl (Nat.lt_of_le_of_lt (show way.length<=1000 by omega) (by decide)) ?_)
  refine ak (bg 5 (cA (aJ (y:=rowOf v k) (bb (aa 0 rfl)) (aa 7 rfl) (bJ bM k0 k1))) ?_)
  have cd:=kY hv p0 hR kr kp
  rw [kq] at cd
  have r:=hv.cL kr
  have a:=r.e0;have b:=r.en
  rw [kp] at b
  refine ⟨eu (fwd v.2 p) (rowOf v k).2.2.1,cd,_,_,_,_,rfl,a,b,by omega,w2,rfl,?_,?_⟩
  ·rw [length_append,length_singleton];omega
  ·rw [if_neg h,ko kf kx] at hw
   rw [hw,append_assoc,length_append,length_singleton,show 17 - (way.length + 1)=16 - way.length by omega];rfl
 ·have h:q=1:=by simpa using h
  rw [if_pos h,append_nil] at hw
  exact ak (bK (fM 4 rfl (aI (by omega))) hw.symm)
end
def mT (v:aw)(p q k:Int):Bool:=(decide (0<=k)&&decide (k < (v.2.length:Int)))&&decide (((rowOf v k).1,(rowOf v k).2.1)=(p,q))
def bB (v:aw)(p:Int):Int->List Int->Bool
 | q,[]=>decide (q=1)
 | q,k::ks=>mT v p q k&&bB v p (a9 v k) ks
theorem i8 {v:aw}{p:Int}:∀{xs:List Int} {q:Int},bB v p q xs=true->∀k∈xs,0<=k/\k < (v.2.length:Int)
 | [],_,_,k,hk=>by cases hk
 | x::xs,q,h,k,hk=>by
   rw [bB,Bool.and_eq_true] at h
   rcases mem_cons.mp hk with rfl | hk
   ·have:=Bool.and_eq_true_iff.mp (Bool.and_eq_true_iff.mp h.1).1
    exact ⟨of_decide_eq_true this.1,of_decide_eq_true this.2⟩
   ·exact i8 h.2 k hk
section
variable {P:Program}{w:World}{K:PySem.W.Frag}{mg:Str->Option Value}{base:Heap}{f:Addr}{fd:FuncData}{C:Addr}
abbrev xm:Stmt:=top tK
theorem B6:aB ["web","number"] ["web","number"] (ah xm):=fS0
def Bh:bX:=λK ps T=>∃(v:aw) (k:Int),ps=[⟨bO,v⟩,⟨ae,k⟩]/\T=bR K aW (· =(decide (0<=k)&&decide (k < (v.2.length:Int))))
theorem Cp (M:bN mg)(CI:ay P w K mg base "is_whole" 1 (aF uw K))(F:bI K "is_row" "is_row" xm f fd)(hm:mg "is_row"=some (.ref f))(hb:Binds K fd ["web","number"] []):ay P w K mg base "is_row" 2 (aF Bh K):=by
 have nd:=B6.nd
 refine bG F B6 hm hb (λqs T ⟨_,_,e,_⟩=>by rw [e];rfl) (λcdv A outer s H E qs T hr hS=>?_)
 obtain ⟨v,k,rfl,rfl⟩:=hS
 change WS _ _ [.im (av (af ae) (af ax)) v,.im ae k] _ _
 exact ak (bK (eF (bA CI hr (ag (aa 1 rfl) aq) ⟨k,rfl,rfl⟩) (λ_=>eG (iw gm e7 ar (aa 1 rfl) (bQ M.len (bb (aa 0 rfl)))))) (Bool.true_and _))
abbrev qL:Stmt:=top uz
abbrev nCG:List Str:=["web","stack","number","row"]
theorem sL:aB nCG ["web","stack","number"] (ah qL):=fS0
def AF:bX:=λK ps T=>∃(v:aw) (p q k:Int),ps=[⟨bO,v⟩,⟨af (av ae ae),[(p,q)]⟩,⟨ae,k⟩]/\T=bR K aW (· =mT v p q k)
theorem zu (CI:ay P w K mg base "is_row" 2 (aF Bh K))(F:bI K "can_go" "can_go" qL f fd)(hm:mg "can_go"=some (.ref f))(hb:Binds K fd ["web","stack","number"] []):ay P w K mg base "can_go" 3 (aF AF K):=by
 have nd:=sL.nd
 refine bG F sL hm hb (λqs T ⟨_,_,_,_,e,_⟩=>by rw [e];rfl) (λcdv A outer s H E qs T hr hS=>?_)
 obtain ⟨v,p,q,k,rfl,rfl⟩:=hS
 have hu1:(A.deeper (envOfC "can_go" (ah qL) s.heap.objs.size f cdv)).units + (0 + 1) < cLine:=Nat.lt_of_le_of_lt (Nat.add_le_add_left (by decide:1<=64) _) hr.units
 change WS _ _ [.im (av (af ae) (af ax)) v,.im (af (av ae ae)) [(p,q)],.im ae k,.no] _ _
 refine ai (bL (TW.tv (jh (bY (yd 1 rfl)) λ_=>ig (bY (bV (bA CI hr (ag (aa 0 rfl) (ag (aa 2 rfl) aq)) ⟨v,k,rfl,rfl⟩))))) (λh=>?_) (λh=>bu ?_))
 ·have h:(decide (0<=k)&&decide (k < (v.2.length:Int)))=false:=by
   cases z:(decide (0<=k)&&decide (k < (v.2.length:Int))) with
   | false=>rfl
   | true=>rw [z] at h;simp at h
  refine ak (bK cP ?_)
  unfold mT
  rw [h];rfl
 ·have h:(decide (0<=k)&&decide (k < (v.2.length:Int)))=true:=by simpa using h
  have h':=Bool.and_eq_true_iff.mp h
  refine ai (bg 3 (y:=rowOf v k) (aJ (bb (aa 0 rfl)) (aa 2 rfl) (bJ bM (of_decide_eq_true h'.1) (of_decide_eq_true h'.2))) ?_)
  refine ak (bK (d9 (rS (r:=ae) (r':=ae) eq_int eq_int hu1 hu1) (dj (ag (eU (aa 3 rfl)) (ag (dk (aa 3 rfl)) aq))) (aJ (y:=(p,q)) (aa 1 rfl) (dt ar) rfl)) ?_)
  unfold mT
  rw [h];rfl
abbrev xF:Stmt:=top k5
abbrev nLT:List Str:=["web","part","rows","place","number"]
theorem Bs:aB nLT ["web","part","rows"] (ah xF):=fS0
def EU:bX:=λK ps T=>∃(v:aw) (p:Int) (xs:List Int),ps=[⟨bO,v⟩,⟨ae,p⟩,⟨af ae,xs⟩]/\xs.length<=1000/\T=bR K aW (· =bB v p 0 xs)
theorem B8 (M:bN mg)(CG:ay P w K mg base "can_go" 3 (aF AF K))(F:bI K "leads_through" "leads_through" xF f fd)(hm:mg "leads_through"=some (.ref f))(hb:Binds K fd ["web","part","rows"] []):ay P w K mg base "leads_through" 4 (aF EU K):=by
 have nd:=Bs.nd
 obtain ⟨t1,hB⟩:=M.begin_
 obtain ⟨t2,hEND⟩:=M.end_
 refine bG F Bs hm hb (λqs T ⟨_,_,_,e,_⟩=>by rw [e];rfl) (λcdv A outer s H E qs T hr hS=>?_)
 obtain ⟨v,p,xs,rfl,hl,rfl⟩:=hS
 change WS _ _ [.im (av (af ae) (af ax)) v,.im ae p,.im (af ae) xs,.no,.no] _ _
 refine ai (bL (bY (bV (dq M.isinstance M.list PyProof.Rows.boot_list (aa 2 rfl) ty_list (b:=true)))) (λh=>absurd h (by decide)) (λ_=>bu ?_))
 refine ai (bg 3 (bE hB) ?_)
 refine ai (cv (r:=ae) (λi Γ=>∃q v4,Γ=[.im (av (af ae) (af ax)) v,.im ae p,.im (af ae) xs,.im ae q,v4]/\bB v p 0 xs=bB v p q (xs.drop i)) (aR (aa 2 rfl)) (aG 4) ⟨0,_,rfl,rfl⟩ ?_ ?_)
 ·rintro i k Γ hk ⟨q,v4,rfl,hc⟩
  have hd:xs.drop i=k::xs.drop (i + 1):=by
   obtain ⟨h1,h2⟩:=List.getElem?_eq_some_iff.mp hk
   rw [drop_eq_getElem_cons h1,h2]
  rw [hd,bB] at hc
  refine ai (bL (bY (bV (bA CG hr (ag (aa 0 rfl) (ag (aY.im (aO (r:=av ae ae) (aN (dj (ag (aa 1 rfl) (ag (aa 3 rfl) aq))) bh) (by show 1<=sizeLine;decide))) (ag (aa 4 rfl) aq))) ⟨v,p,q,k,rfl,rfl⟩))) (λh=>?_) (λh=>bu ?_))
  ·have h:mT v p q k=false:=by simpa using h
   refine ak (bK cP ?_)
   rw [hc,h];rfl
  ·have h:mT v p q k=true:=by simpa using h
   have h':=Bool.and_eq_true_iff.mp (Bool.and_eq_true_iff.mp h).1
   refine ak (bg 3 (y:=a9 v k) (cA (aJ (y:=rowOf v k) (bb (aa 0 rfl)) (aa 4 rfl) (bJ bM (of_decide_eq_true h'.1) (of_decide_eq_true h'.2)))) ?_)
   exact ⟨a9 v k,_,rfl,by rw [hc,h];rfl⟩
 ·rintro Γ ⟨q,v4,rfl,hc⟩
  rw [drop_length] at hc
  refine ak (bK (d9 e6 (aa 3 rfl) (bE hEND)) ?_)
  rw [hc,bB]
end
section
variable {v:aw}{p:Int}{F:List (Int×Int)}{q:Int}
theorem yG (hv:aQ v)(p0:0<=p)(p1:p < (v.1.length:Int))(q0:0<=q)(q1:q < v.1.getD p.toNat 0)(qn:q≠1):∃k,(fromF v p q)[0]?=some k:=by
 have hm:v.1[p.toNat]?=some (v.1.getD p.toNat 0):=by rw [getD_eq_getElem?_getD,getElem?_eq_getElem (by omega)];rfl
 have h:=hv.toEnd hm q0 q1
 have:∃r∈v.2,r.1=p/\r.2.1=q:=by
  cases h with
  | base=>exact absurd rfl qn
  | step _ m=>
    unfold bwd at m
    obtain ⟨r,hr,e⟩:=mem_map.mp m
    obtain ⟨h1,h2⟩:=mem_filter.mp hr
    have h2:=of_decide_eq_true h2
    exact ⟨r,h1,by omega,congrArg Prod.snd e⟩
 obtain ⟨r,hr,r1,r2⟩:=this
 obtain ⟨j,hj⟩:=mem_iff_getElem?.mp hr
 have jl:=(List.getElem?_eq_some_iff.mp hj).1
 have er:rowOf v (j:Int)=r:=by unfold rowOf;rw [show ((j:Int)).toNat=j by omega,getD_eq_getElem?_getD,hj];rfl
 have hm:(j:Int)∈fromF v p q:=by
  unfold fromF
  exact mem_filter.mpr ⟨bq.mpr ⟨by omega,by omega⟩,decide_eq_true (by rw [er,r1,r2])⟩
 cases e:fromF v p q with
 | nil=>rw [e] at hm;cases hm
 | cons a l=>exact ⟨a,rfl⟩
theorem dX {k:Int}:mT v p q k=decide (k∈fromF v p q):=by
 unfold mT fromF
 by_cases h:k∈(ups 0 v.2.length).filter λk=>decide (((rowOf v k).1,(rowOf v k).2.1)=(p,q))
 ·rw [decide_eq_true h]
  obtain ⟨h1,h2⟩:=mem_filter.mp h
  have:=bq.mp h1
  rw [h2,decide_eq_true this.1,decide_eq_true (show k < (v.2.length:Int) by omega)];rfl
 ·rw [decide_eq_false h]
  refine Bool.eq_false_iff.mpr λh'=>h ?_
  obtain ⟨a,c⟩:=Bool.and_eq_true_iff.mp h'
  obtain ⟨a,b⟩:=Bool.and_eq_true_iff.mp a
  exact mem_filter.mpr ⟨bq.mpr ⟨of_decide_eq_true a,by have:=of_decide_eq_true b;omega⟩,c⟩
structure eT (v:aw) (p:Int) (F:List (Int×Int)):Prop where
 nd:(F.map (·.1)).Nodup
 one:aZ F 1=some 0
 bd:∀k∈F.map (·.1),0<=k/\k < v.1.getD p.toNat 0
 val:∀k d,aZ F k=some d->0<=d/\d < (F.length:Int)/\(k=1∨∃r∈v.2,r.1=p/\r.2.1=k/\∃d',aZ F r.2.2.1=some d'/\d' < d)
theorem oz (F:List (Int×Int))(k y:Int):(dz F k y).map (·.1)=if (aZ F k).isSome=true then F.map (·.1) else F.map (·.1)++[k]:=by
 unfold dz
 split
 ·rw [map_map]
  refine map_congr_left λx _=>?_
  show (if x.1=k then (x.1,y) else x).1=x.1
  split<;>rfl
 ·rw [map_append];rfl
theorem eT.put (hv:aQ v)(h:eT v p F){r:Row}(hr:r∈v.2)(rp:r.1=p){d:Int}(hd:aZ F r.2.2.1=some d)(hlt:d + 1 < (aZ F r.2.1).getD 99):eT v p (dz F r.2.1 (d + 1)):=by
 have R:=hv.cL hr
 have s1:=R.s1;have s0:=R.s0;have sn:=R.sn
 rw [rp] at sn
 have vd:=h.val _ _ hd
 have hne:r.2.2.1≠r.2.1:=λe=>by rw [← e,hd] at hlt;simp at hlt;omega
 have gp:∀j,aZ (dz F r.2.1 (d + 1)) j=if j=r.2.1 then some (d + 1) else aZ F j:=λj=>jm F _ _ j
 have keys:=oz F r.2.1 (d + 1)
 have len:((dz F r.2.1 (d + 1)).length:Int)=if (aZ F r.2.1).isSome=true then (F.length:Int) else (F.length:Int) + 1:=by
  have:=congrArg List.length keys
  rw [length_map] at this
  rw [this]
  split
  ·rw [length_map]
  ·rw [length_append,length_map];rfl
 refine ⟨?_,?_,λk hk=>?_,λk e he=>?_⟩
 ·rw [keys]
  split
  ·exact h.nd
  ·rename_i z
   exact eV h.nd λw=>z (dY.mpr w)
 ·rw [gp,if_neg (λe=>s1 e.symm)];exact h.one
 ·rw [keys] at hk
  split at hk
  ·exact h.bd k hk
  ·rcases mem_append.mp hk with z | z
   ·exact h.bd k z
   ·rw [mem_singleton.mp z];exact ⟨s0,sn⟩
 ·rw [gp] at he
  have old:∀d0,aZ F r.2.1=some d0->d + 1 < d0:=λd0 hd0=>by rw [hd0] at hlt;exact hlt
  by_cases z:k=r.2.1
  ·rw [if_pos z] at he
   have he:e=d + 1:=(Option.some.inj he).symm
   subst he
   refine ⟨by omega,?_,.inr ⟨r,hr,rp,z.symm,d,by rw [gp,if_neg hne];exact hd,by omega⟩⟩
   rw [len]
   cases e2:aZ F r.2.1 with
   | none=>rw [if_neg (by simp)];omega
   | some d0=>
     have:=old d0 e2
     have:=(h.val _ _ e2).2.1
     rw [if_pos (show (some d0).isSome=true from rfl)];omega
  ·rw [if_neg z] at he
   obtain ⟨a,b,c⟩:=h.val k e he
   refine ⟨a,?_,c.imp id ?_⟩
   ·rw [len];split<;>omega
   ·rintro ⟨r2,hr2,r2p,r2k,d2,hd2,l2⟩
    refine ⟨r2,hr2,r2p,r2k,?_⟩
    rw [gp]
    by_cases y:r2.2.2.1=r.2.1
    ·rw [if_pos y]
     rw [y] at hd2
     have:=old d2 hd2
     exact ⟨d + 1,rfl,by omega⟩
    ·rw [if_neg y];exact ⟨d2,hd2,l2⟩
theorem eT.le (h:eT v p F)(hs:0<=v.1.getD p.toNat 0):(F.length:Int)<=v.1.getD p.toNat 0:=by
 have:=c8 (F.map (·.1)) (ups 0 (v.1.getD p.toNat 0).toNat) h.nd λx hx=>bq.mpr (by have:=h.bd x hx;omega)
 rw [length_map,aC] at this
 omega
theorem eT.get (h:eT v p F)(hs:v.1.getD p.toNat 0<=(F.length:Int))(q0:0<=q)(q1:q < v.1.getD p.toNat 0):aZ F q=some (gF F q):=by
 have hin:q∈F.map (·.1):=Classical.byContradiction λno=>by
  have:=c8 (q::F.map (·.1)) (ups 0 (v.1.getD p.toNat 0).toNat) (nodup_cons.mpr ⟨no,h.nd⟩) λx hx=>by
   rcases mem_cons.mp hx with rfl | hx
   ·exact bq.mpr (by omega)
   ·exact bq.mpr (by have:=h.bd x hx;omega)
  rw [length_cons,length_map,aC] at this
  omega
 have:=dY.mpr hin
 unfold gF
 cases e:aZ F q with
 | none=>rw [e] at this;cases this
 | some y=>rfl
theorem eT.next (hv:aQ v)(p0:0<=p)(p1:p < (v.1.length:Int))(h:eT v p F)(hs:(F.length:Int) < v.1.getD p.toNat 0):∃r∈v.2,r.1=p/\r.2.2.1∈F.map (·.1)/\r.2.1∉F.map (·.1):=by
 refine Classical.byContradiction λno=>?_
 have hm:v.1[p.toNat]?=some (v.1.getD p.toNat 0):=by rw [getD_eq_getElem?_getD,getElem?_eq_getElem (by omega)];rfl
 have one:(1:Int)∈F.map (·.1):=dY.mp (by rw [h.one];rfl)
 have all:∀q,0<=q->q < v.1.getD p.toNat 0->q∈F.map (·.1):=λq q0 q1=>by
  have hr:=hv.toEnd hm q0 q1
  rw [show ((p.toNat:Nat):Int)=p by omega] at hr
  exact Reach.sub (P:=λx=>x∈F.map (·.1)) one (λa b ha hab=>Classical.byContradiction λnb=>by
   obtain ⟨r,r0,r1,r2,r3⟩:=mx.mp hab
   exact no ⟨r,r0,r1,by rw [r2];exact ha,by rw [r3];exact nb⟩) hr
 have:=c8 _ (F.map (·.1)) (du (v.1.getD p.toNat 0).toNat) λq hq=>by have:=bq.mp hq;exact all q this.1 (by omega)
 rw [aC,length_map] at this
 omega
def uE:Stmt->List Stmt
 | .While _ b _ _=>b
 | _=>[]
end
section
variable {P:Program}{w:World}{K:PySem.W.Frag}{mg:Str->Option Value}{base:Heap}{f:Addr}{fd:FuncData}
abbrev uF:Stmt:=top oJ
abbrev nNE:List Str:=["_law_web_here","_law_part_here","_law_near_here","_law_row"]
theorem Bb:aB nNE ["_law_web_here","_law_part_here"] (ah uF):=fS0
def EM:bX:=λK ps T=>∃(v:aw) (p:Int),ps=[⟨bO,v⟩,⟨ae,p⟩]/\aQ v/\0<=p/\p < (v.1.length:Int)/\T=bR K ip (λF=>eT v p F/\v.1.getD p.toNat 0<=(F.length:Int))
theorem CQ (M:bN mg)(F:bI K "_law_near" "_law_near" uF f fd)(hm:mg "_law_near"=some (.ref f))(hb:Binds K fd ["_law_web_here","_law_part_here"] []):ay P w K mg base "_law_near" 1 (aF EM K):=by
 have nd:=Bb.nd
 refine bG F Bb hm hb (λqs T ⟨_,_,e,_⟩=>by rw [e];rfl) (λcdv A outer s H E qs T hr hS=>?_)
 obtain ⟨v,p,rfl,hv,p0,p1,rfl⟩:=hS
 have hu:(A.deeper (envOfC "_law_near" (ah uF) s.heap.objs.size f cdv)).units + 1 < cLine:=Nat.lt_of_le_of_lt (Nat.add_le_add_left (by decide:1<=64) _) hr.units
 have hs:=hv.sz (v.1.getD p.toNat 0) (by rw [getD_eq_getElem?_getD,getElem?_eq_getElem (by omega)];exact getElem_mem _)
 change WS _ _ [.im (av (af ae) (af ax)) v,.im ae p,.no,.no] _ _
 refine ai (mI 2 uh d8 ?_)
 have o0:eT v p [(1,0)]:=by
  refine ⟨by simp,rfl,λq hq=>by (have:q=1:=by simpa using hq);omega,λk d h=>?_⟩
  have:(1:Int)=k/\(0:Int)=d:=by
   unfold aZ at h
   by_cases z:(1:Int)=k
   ·simp [z] at h;exact ⟨z,h⟩
   ·simp [z] at h
  exact ⟨by omega,by rw [← this.2];decide,.inl this.1.symm⟩
 refine ai (f7 (λm Γ=>∃F v3,Γ=[.im (av (af ae) (af ax)) v,.im ae p,.di (cQ F),v3]/\eT v p F/\m=(v.1.getD p.toNat 0 - (F.length:Int)).toNat) ⟨[(1,0)],_,rfl,o0,rfl⟩ ?_)
 rintro m Γ ⟨F,v3,rfl,hO,rfl⟩
 have hle:=hO.le (by omega)
 refine ⟨_,_,TV.frz (nO (i:=2) rfl) (bc e7 (o5 M.len (aa 2 rfl)) (aJ (d5 (aa 0 rfl)) (aa 1 rfl) (cw p0 p1))),λh=>?_,λh=>?_⟩
 ·have h:(F.length:Int) < v.1.getD p.toNat 0:=of_decide_eq_true h
  obtain ⟨rx,rx0,rx1,rx2,rx3⟩:=hO.next hv p0 p1 h
  refine ak (cv (r:=ax) (λi Γ=>∃G v3,Γ=[.im (av (af ae) (af ax)) v,.im ae p,.di (cQ G),v3]/\eT v p G/\(∀z∈F.map (·.1),z∈G.map (·.1))/\F.length<=G.length/\∀r∈v.2.take i,r.1=p->r.2.2.1∈F.map (·.1)->r.2.1∈G.map (·.1))
   (aR (bb (aa 0 rfl))) (aG 3) ⟨F,_,rfl,hO,λz hz=>hz,Nat.le_refl _,λr hr=>by simp at hr⟩ ?_ ?_)
  ·rintro i r Γ hri ⟨G,v3,rfl,hG,hsub,hfl,hdone⟩
   have hrm:=mem_of_getElem? hri
   have tk:v.2.take (i + 1)=v.2.take i++[r]:=by rw [take_succ,hri];rfl
   have hglen:=hG.le (by omega)
   have mem:∀z,(aZ G z).isSome=true↔z∈G.map (·.1):=λz=>dY
   have gsome:∀z,(aZ G z).isSome=true->aZ G z=some (gF G z):=λz hz=>by
    unfold gF
    cases e:aZ G z with
    | none=>rw [e] at hz;cases hz
    | some y=>rfl
   refine ak (bL (TW.tv (dN (bc e6 (eU (aa 3 rfl)) (aa 1 rfl)) (λ_=>dN (kH 2 false hu (cA (aa 3 rfl)) rfl) (λhin=>g5 (bc e7 (cu (kF 2 hu (cA (aa 3 rfl)) rfl (gsome _ (by rw [← fE];exact hin))) ar) (wK 2 hu (dk (aa 3 rfl)) ar rfl)))))) (λh=>?_) (λh=>bu ?_))
   ·obtain ⟨h1,h2⟩:=Bool.and_eq_true_iff.mp h
    obtain ⟨h2,h3⟩:=Bool.and_eq_true_iff.mp h2
    have h1:r.1=p:=of_decide_eq_true h1
    have h2:(aZ G r.2.2.1).isSome=true:=by rw [← fE];exact h2
    have h3:gF G r.2.2.1 + 1 < (aZ G r.2.1).getD 99:=of_decide_eq_true h3
    have hg:=gsome _ h2
    refine ak (lU 2 hu (dk (aa 3 rfl)) (cu (kF 2 hu (cA (aa 3 rfl)) rfl hg) ar) rfl (Nat.lt_of_le_of_lt (show G.length<=1000 by omega) (by decide)) ?_)
    have keys:=oz G r.2.1 (gF G r.2.2.1 + 1)
    have ksub:∀z∈G.map (·.1),z∈(dz G r.2.1 (gF G r.2.2.1 + 1)).map (·.1):=λz hz=>by
     rw [keys];split
     ·exact hz
     ·exact mem_append_left _ hz
    have kin:r.2.1∈(dz G r.2.1 (gF G r.2.2.1 + 1)).map (·.1):=dY.mp (by rw [jm,if_pos rfl];rfl)
    refine ⟨dz G r.2.1 (gF G r.2.2.1 + 1),_,rfl,hG.put hv hrm h1 hg h3,λz hz=>ksub z (hsub z hz),?_,λx hx xp xt=>?_⟩
    ·have:=congrArg List.length keys
     rw [length_map] at this
     rw [this]
     split
     ·rw [length_map];exact hfl
     ·rw [length_append,length_map];omega
    ·rw [tk] at hx
     rcases mem_append.mp hx with z | z
     ·exact ksub _ (hdone x z xp xt)
     ·rw [mem_singleton.mp z];exact kin
   ·refine ⟨G,_,rfl,hG,hsub,hfl,λx hx xp xt=>?_⟩
    rw [tk] at hx
    rcases mem_append.mp hx with z | z
    ·exact hdone x z xp xt
    ·rw [mem_singleton.mp z] at xp xt ⊢
     refine Classical.byContradiction λno=>?_
     have a1:(aZ G r.2.2.1).isSome=true:=(mem _).mpr (hsub _ xt)
     have a2:aZ G r.2.1=none:=by
      cases e:aZ G r.2.1 with
      | none=>rfl
      | some y=>exact absurd ((mem _).mp (by rw [e];rfl)) no
     have a3:=(hG.val _ _ (gsome _ a1)).2.1
     have a4:gM (cQ G) r.2.2.1=true:=by rw [fE];exact a1
     rw [decide_eq_true xp] at h
     have h:(gM (cQ G) r.2.2.1&&decide (gF G r.2.2.1 + 1 < (aZ G r.2.1).getD 99))=false:=h
     rw [a4,a2,decide_eq_true (show gF G r.2.2.1 + 1 < (none:Option Int).getD 99 by show _ < (99:Int);omega)] at h
     exact absurd h (by decide)
  ·rintro Γ ⟨G,v3,rfl,hG,hsub,hfl,hdone⟩
   rw [take_length] at hdone
   have hin:=hdone rx rx0 rx1 rx2
   have:=c8 (rx.2.1::F.map (·.1)) (G.map (·.1)) (nodup_cons.mpr ⟨rx3,hO.nd⟩) λx hx=>by
    rcases mem_cons.mp hx with rfl | hx
    ·exact hin
    ·exact hsub x hx
   rw [length_cons,length_map,length_map] at this
   have:=hG.le (by omega)
   exact ⟨_,by omega,G,_,rfl,hG,rfl⟩
 ·have h:¬(F.length:Int) < v.1.getD p.toNat 0:=of_decide_eq_false h
  exact ak (qB 2 rfl ⟨hO,by omega⟩)
abbrev nq:Stmt:=top mh
abbrev zy:List Str:=["_law_purse_here","_law_web_here","_law_part_here","_law_most","_law_near_here","_law_found","_law_here","_law_some"]
abbrev E9:List Str:=["_law_purse_here","_law_web_here","_law_part_here","_law_most"]
theorem BH:aB zy E9 (ah nq):=fS0
def ER:jF Pu:=λK s ps T=>∃(n:Int) (v:aw) (p most:Int),cE n s/\0<=n/\n<=900000/\ps=[⟨bO,v⟩,⟨ae,p⟩,⟨ae,most⟩]/\aQ v/\0<=p/\p < (v.1.length:Int)/\0<=most/\most<=40/\T=λs'=>bR K (af ae) λxs=>cE (n + (xs.length:Int)) s'/\bB v p 0 xs=true/\(xs.length:Int)<=most + 15
theorem CM (M:bN mg)(CD:ay P w K mg base "_law_draw" 1 (eN bo mZ K))(CF:ay P w K mg base "_law_from" 1 (aF E6 K))(CN:ay P w K mg base "_law_near" 1 (aF EM K))(F:bI K "_law_own_run" "_law_own_run" nq f fd)(hm:mg "_law_own_run"=some (.ref f))(hb:Binds K fd E9 []):ay P w K mg base "_law_own_run" 2 (eN bo ER K):=by
 have nd:=BH.nd
 have nd1:List.Nodup [("_law_k":Str),"_law_here","_law_near_here","_law_web_here"]:=by decide
 refine ie F BH hm hb (λxs qs T ⟨_,_,_,_,_,_,_,e,_⟩=>by rw [e];rfl) (λcdv A outer s H E a b st qs T hr hS=>?_)
 obtain ⟨n,v,p,most,hP,n0,n1,rfl,hv,p0,p1,mo0,mo1,rfl⟩:=hS
 have hu:(A.deeper (envOfC "_law_own_run" (ah nq) s.heap.objs.size f cdv)).units + 1 < cLine:=Nat.lt_of_le_of_lt (Nat.add_le_add_left (by decide:1<=64) _) hr.units
 have rl:=hv.rl
 have hs:=hv.sz (v.1.getD p.toNat 0) (by rw [getD_eq_getElem?_getD,getElem?_eq_getElem (by omega)];exact getElem_mem _)
 change WS _ _ [.ob (bo.bx a b st),.im (av (af ae) (af ax)) v,.im ae p,.im ae most,.no,.no,.no,.no] _ _
 refine ai (kj 4 CN hr (ag (aa 1 rfl) (ag (aa 2 rfl) aq)) ⟨v,p,rfl,hv,p0,p1,rfl⟩ ?_)
 rintro D ⟨hD,hDl⟩
 have hDle:=hD.le (by omega)
 have gv:∀q,0<=q->q < v.1.getD p.toNat 0->0<=gF D q/\gF D q < 16:=λq q0 q1=>by
  have:=hD.val q _ (hD.get hDl q0 q1)
  exact ⟨this.1,by omega⟩
 refine ai (cG 5 (r:=ae) (aO bh (by decide)) (ai (bg 6 ar ?_)))
 refine ai (f7 (λm Γ=>∃st xs here v7,Γ=[.ob (bo.bx a b st),.im (av (af ae) (af ax)) v,.im ae p,.im ae most,.im ip D,.mu ae xs,.im ae here,v7]/\cE (n + (xs.length:Int)) st/\0<=here/\here < v.1.getD p.toNat 0/\(∀ys,bB v p 0 (xs++ys)=bB v p here ys)/\m + xs.length<=816/\m=(most - (xs.length:Int)).toNat * 20 + (gF D here).toNat/\((xs.length:Int)<=most∨(xs.length:Int) + gF D here<=most + 15)) (m0:=most.toNat * 20 + (gF D 0).toNat) ⟨st,[],0,_,rfl,hP.mono (by simp),by decide,by omega,λys=>rfl,by have:=gv 0 (by decide) (by omega);simp;omega,by simp,.inl (by simpa using mo0)⟩ ?_)
 rintro m Γ ⟨st2,xs,here,v7,rfl,hP2,h0,h1,hpath,hmx,hm',hJ⟩
 refine ⟨_,_,bc jt (aa 6 rfl) ar,λh=>?_,λh=>?_⟩
 ·have hn:here≠1:=by simpa using h
  refine ai (bg 7 (bA CF hr (ag (aa 1 rfl) (ag (aa 2 rfl) (ag (aa 6 rfl) aq))) ⟨v,p,here,rfl,rl.2,rfl⟩) ?_)
  have fle:(fromF v p here).length<=60:=by
   unfold fromF
   refine Nat.le_trans (length_filter_le _ _) ?_
   rw [aC];omega
  have gd:∀k∈fromF v p here,0<=a9 v k/\a9 v k < v.1.getD p.toNat 0:=λk hk=>by
   obtain ⟨_,_,kp,_,kr⟩:=bC hk
   have R:=hv.cL kr
   have e0:=R.e0;have en:=R.en
   rw [kp] at en
   exact ⟨e0,en⟩
  have step:∀(ks:List Int),ks≠[]->ks.length<=60->(∀k∈ks,k∈fromF v p here/\((xs.length:Int) < most∨gF D (a9 v k) < gF D here))->WS (eh eX P w K mg base zy "_law_own_run" (ah nq) f cdv A outer s H E).gN ((uE ((cg nq).getD 3 (.Pass ⟨0,0,0,0⟩))).drop 2) [.ob (bo.bx a b st2),.im (av (af ae) (af ax)) v,.im ae p,.im ae most,.im ip D,.mu ae xs,.im ae here,.im (af ae) ks] (λΓ=>∃m',m' < m/\∃st xs here v7,Γ=[.ob (bo.bx a b st),.im (av (af ae) (af ax)) v,.im ae p,.im ae most,.im ip D,.mu ae xs,.im ae here,v7]/\cE (n + (xs.length:Int)) st/\0<=here/\here < v.1.getD p.toNat 0/\(∀ys,bB v p 0 (xs++ys)=bB v p here ys)/\m' + xs.length<=816/\m'=(most - (xs.length:Int)).toNat * 20 + (gF D here).toNat/\((xs.length:Int)<=most∨(xs.length:Int) + gF D here<=most + 15)) (tM K bo a b λs'=>bR K (af ae) λxs=>cE (n + (xs.length:Int)) s'/\bB v p 0 xs=true/\(xs.length:Int)<=most + 15):=by
   intro ks kne kl hks
   have kpos:=length_pos_iff.mpr kne
   obtain ⟨z,st3,z0,z1,hP3,hS3⟩:=c7 hP2 (by omega) (b:=(ks.length:Int)) (by omega) (by omega)
   have hz:cN ks z=some (ks.getD z.toNat 0):=cw z0 z1
   have hzm:=hks (ks.getD z.toNat 0) (by rw [getD_eq_getElem?_getD,getElem?_eq_getElem (by omega)];exact getElem_mem _)
   generalize ks.getD z.toNat 0=c at hz hzm
   obtain ⟨hc,hdec⟩:=hzm
   obtain ⟨c0,c1,_⟩:=bC hc
   obtain ⟨e0,en⟩:=gd c hc
   refine ai (cS 5 (aJ (aa 7 rfl) (cj 0 CD hr (ag (bQ M.len (aa 7 rfl)) aq) rfl rfl (hS3 _)) hz) rfl rfl (Nat.lt_of_le_of_lt (show xs.length<=1000 by omega) (by decide)) ?_)
   refine ak (bg 6 (y:=a9 v c) (cA (aJ (y:=rowOf v c) (bb (aa 1 rfl)) (fc 5 (dt ar) rfl rfl (dB (by simp))) (bJ bM c0 c1))) ?_)
   have ll:(xs++[c]).length=xs.length + 1:=by rw [length_append];rfl
   have g1:=gv _ e0 en
   have g2:=gv _ h0 h1
   refine ⟨(most - ((xs++[c]).length:Int)).toNat * 20 + (gF D (a9 v c)).toNat,?_,st3,xs++[c],a9 v c,_,rfl,hP3.mono (by rw [ll];omega),e0,en,λys=>?_,?_,rfl,?_⟩
   ·rw [ll]
    rcases hdec with z | z
    ·omega
    ·omega
   ·rw [append_assoc,hpath]
    show bB v p here (c::ys)=_
    rw [bB,dX,decide_eq_true hc];rfl
   ·rw [ll]
    rcases hdec with z | z
    ·omega
    ·omega
   ·rw [ll]
    rcases hdec with z | z
    ·exact .inl (by omega)
    ·rcases hJ with y | y
     ·by_cases x:(xs.length:Int) < most
      ·exact .inl (by omega)
      ·exact .inr (by omega)
     ·exact .inr (by omega)
  refine ai (bL (bc rH (g7 5 M.len rfl) (aa 3 rfl)) (λh=>?_) (λh=>bu ?_))
  ·have h:most<=(xs.length:Int):=of_decide_eq_true h
   refine ak (ir 7 (own:=["_law_k"]) (fr:=["_law_here","_law_near_here","_law_web_here"]) (ix:=[6,4,1]) (ra:=ae) (rb:=ae) (p:=λk=>decide (gF D (a9 v k) < gF D here)) (f:=λk=>k) (bj (so:=ah nq) (N0:=zy) rfl rfl (λx h=>aT h) (by decide +kernel)) (aR (aa 7 rfl))
    (λC s H ex=>aG 0) (λx=>⟨.inr rfl,.inl rfl,.inl rfl,.inl rfl,trivial⟩) (λC s H ex x hx=>fU (bc e7 (lX hu (aa 2 rfl) (cA (aJ (y:=rowOf v x) (bb (aa 3 rfl)) (aa 0 rfl) (by have:=bC hx;exact bJ bM this.1 this.2.1))) (hD.get hDl (gd x hx).1 (gd x hx).2)) (lX hu (aa 2 rfl) (aa 1 rfl) (hD.get hDl h0 h1)))) (λC s H ex x hx _=>aa 0 rfl) ?_)
   rw [map_id']
   refine WS.freeze 7 rfl (aI (by have:=length_filter_le (λk=>decide (gF D (a9 v k) < gF D here)) (fromF v p here);omega)) ?_
   refine step _ ?_ (Nat.le_trans (length_filter_le _ _) fle) (λk hk=>⟨(mem_filter.mp hk).1,.inr (of_decide_eq_true (mem_filter.mp hk).2)⟩)
   obtain ⟨_,_,hw⟩:=hD.val here _ (hD.get hDl h0 h1)
   obtain ⟨r,hr,rp,rk,d',hd',dl⟩:=hw.resolve_left hn
   obtain ⟨j,hj⟩:=mem_iff_getElem?.mp hr
   have jl:=(List.getElem?_eq_some_iff.mp hj).1
   have er:rowOf v (j:Int)=r:=by unfold rowOf;rw [show ((j:Int)).toNat=j by omega,getD_eq_getElem?_getD,hj];rfl
   refine ne_nil_of_mem (a:=(j:Int)) (mem_filter.mpr ⟨?_,decide_eq_true ?_⟩)
   ·unfold fromF
    exact mem_filter.mpr ⟨bq.mpr (by omega),decide_eq_true (by rw [er,rp,rk])⟩
   ·unfold a9
    rw [er]
    have:gF D r.2.2.1=d':=by unfold gF;rw [hd'];rfl
    omega
  ·have h:¬most<=(xs.length:Int):=of_decide_eq_false h
   obtain ⟨k0,hk0⟩:=yG hv p0 p1 h0 h1 hn
   exact step _ (ne_nil_of_mem (mem_of_getElem? hk0)) fle (λk hk=>⟨hk,.inl (by omega)⟩)
 ·have he:here=1:=by simpa using h
  have:=hpath []
  rw [append_nil,he,bB] at this
  exact ak (ia 0 (B:=bo) (fM 5 rfl (aI (by omega))) rfl ⟨hP2,this,by have:=gv _ h0 h1;rcases hJ with y | y<;>omega⟩)
end
end K1
namespace Fc
open PySem PySem.Spec L2
open PyProof.Rows hiding St
section
variable {X:Cx}{Γ Γ1 Γ2 Γ3:Ga}{α β γ δ:Type}{N:Ga->Prop}{T:RT}
theorem lI {e:Expr}{pos:Pos}{r:aD α}{y:α}(he:EV X e Γ r y Γ1)(h:N Γ1)(hsw:swapsWith e none pos.line X.env=pure false:=by rfl):W1 X (.Expr e pos) Γ N T:=λσ H0 R0 H R E D dn dr=>
 sS (dR aE hsw) (he σ H0 R0 H R E _ λv H1 R1 E1 s1 e1=>dn σ H1 R1 _ E1 s1 h)
theorem vm (i:Nat){x:Str}{b:Expr}{p1 p2 p3 ap cp:Pos}{c0:Nat}{r:aD α}{a:Addr}{as:List Addr}{xss:List (List α)}{xs:List α}{k:Int}{j:Nat}{z:α}(hb:EV X b Γ ae k Γ)(hΓ:Γ[i]?=some (.ob (d7 r a as xss)))(hk:dP xss.length k=some j)(hx:xss[j]?=some (z::xs))
 (hN:X.N[i]?=some x:=by rfl) (hv:autoParam (bS X.env.scope x) vA1)
 (hd:Dg0 x:=by decide) (hcd:Cd0 x:=by decide) (hsx:ee b:=by exact λ_ _=>rfl)
 (hbase:attributeBase (.Subscript (.Name x p1) b p2) "pop" X.env (eval (.Subscript (.Name x p1) b p2) X.env)=eval (.Subscript (.Name x p1) b p2) X.env:=by rfl)
 (hfew:((backTo cp (starEach [.Constant (.int 0) c0 p3] X.env)).all (λx=> !x.1)&&(backToKw cp (keywordEach [] X.env)).all (λx=>x.1.isSome)
  &&decide ([Expr.Constant (.int 0) c0 p3].length + ([]:List Keyword).length + (if ([]:List Keyword).isEmpty then 0 else 1) < 30))=true:=by rfl)
 (hline:(ap.endLine==cp.line)=true:=by rfl) (hs:starEach [.Constant (.int 0) c0 p3] X.env=(false,eval (.Constant (.int 0) c0 p3) X.env)::starEach [] X.env:=by rfl):EV X (.Call (.Attribute (.Subscript (.Name x p1) b p2) "pop" ap) [.Constant (.int 0) c0 p3] [] cp) Γ r z (Γ.set i (.ob (d7 r a as (xss.set j xs)))):=λσ H0 R0 H R E Q q=>by
 refine eS (fN PySem.F.plainAttrs_list PySem.F.slot_list_pop PySem.F.type_list_pop wH aE (aL d8 bz hs) hbase hfew hline hs rfl) ?_
 refine oG i hb hΓ hk E (λc H1 R1 E1 s1 hc=>?_) hN hv hd hcd hsx
 obtain ⟨⟨v,ea1,rfl,ha1,hr1,nd1⟩,hR1⟩:=E1.ent i _ hΓ
 obtain ⟨ws,q1,q2⟩:=hr1.2 j c _ hc hx
 obtain ⟨n1,n2⟩:=nodup_cons.mp nd1
 have cm:c∈as:=mem_of_getElem? hc
 cases q2 with
 | cons hw ht=>
   rename_i w ws'
   refine ⟨.inl ⟨rfl,_,aM.of q1⟩,c,_,0,0,w,rfl,rfl,q1,by decide,by decide,seqIndex_of (by decide) (by simp),rfl,?_⟩
   refine q w _ R1 (E1.hV (en:=.ob (d7 r a as (xss.set j xs))) hΓ (mem_cons_of_mem _ cm) ⟨⟨.ref a,ea1,rfl,?_,hr1.put n2 hc ht,nd1⟩,hR1⟩ λc w=>.inl w) s1 hw
   rw [aA (show a≠c from λz=>n1 (z▸cm))];exact ha1
def xU (X:Cx)(sts:List Stmt)(Γ:Ga)(N:Ga->Prop)(T:RT):Prop:=
 ∀(σ:St) (H0 R0 H R:Hp),ao X.K σ H0 R0 H R Γ->∀D:Ends,(∀σ' H' R' Γ',ao X.K σ' H0 R0 H' R' Γ'->aj R R'->N Γ'->D.nx σ' H')->(∀σ' H' R' Γ',ao X.K σ' H0 R0 H' R' Γ'->aj R R'->N Γ'->D.ct σ' H')->(∀v H' R',Ext H0 R0 H' R'->T H0 v H' R'->D.rt v H')->lN X sts D σ H
theorem xU.ifc {c:Expr}{s1:Stmt}{p2 pos:Pos}{rest:List Stmt}{k:Bool}(hc:TV X c Γ k Γ1)(h1:k=true->W1 X s1 Γ1 N T)(h2:k=false->WS X rest Γ1 N T):xU X (.If c [s1,.Continue p2] [] pos::rest) Γ N T:=λσ H0 R0 H R E D dn dc dr=>by
 refine xP (la xv fB) (sS (xS i5 (la xv (qf pU)) fB) (hc σ H0 R0 H R E _ λH1 R1 E1 s1'=>?_))
 cases k with
 | true=>exact iH (h1 rfl σ H0 R0 H1 R1 E1 _ (λσ2 H2 R2 Γ2 E2 s2 n2=>dc σ2 H2 R2 Γ2 E2 (s1'.trans s2) n2) dr)
 | false=>exact iN (bu (X:=X) (Γ:=Γ1) (N:=λΓ'=>Γ'=Γ1) (T:=T) rfl σ H0 R0 H1 R1 E1 _ (λσ2 H2 R2 Γ2 E2 s2 n2=>by
  subst n2
  exact h2 rfl σ2 H0 R0 H2 R2 E2 D (λσ3 H3 R3 Γ3 E3 s3 n3=>dn σ3 H3 R3 Γ3 E3 (s1'.trans (s2.trans s3)) n3) dr) dr)
theorem vK {c:Expr}{body:List Stmt}{pos:Pos}(I:Nat->Ga->Prop){m0:Nat}(h0:I m0 Γ)
 (hstep:∀(m:Nat) (Γ:Ga),I m Γ->∃(k:Bool) (Γ':Ga),TV X c Γ k Γ'/\(k=true->xU X body Γ' (λΓ''=>∃m',m' < m/\I m' Γ'') T)/\(k=false->N Γ'))
 (hp:PassesOwn (model X.prog X.w) X.A X.env X.xe:=by exact PassesOwn.never):W1 X (.While c body [] pos) Γ N T:=λσ H0 R0 H R E D dn dr=>by
 refine sS (nX hp i5 fB) ?_
 refine ⟨λm σ' H'=>∃R' Γ',ao X.K σ' H0 R0 H' R' Γ'/\aj R R'/\I m Γ',⟨m0,R,Γ,E,aj.refl _,h0⟩,?_⟩
 rintro m σ' H' ⟨R',Γ',E',s',hI⟩
 obtain ⟨k,Γ2,ht,h1,h2⟩:=hstep m Γ' hI
 refine ht σ' H0 R0 H' R' E' _ λH1 R1 E1 s1=>?_
 cases k with
 | true=>
   refine iH ⟨_,λσ2 H2 h=>h,h1 rfl σ' H0 R0 H1 R1 E1 _ (λσ3 H3 R3 Γ3 E3 s3 h3=>?_) (λσ3 H3 R3 Γ3 E3 s3 h3=>?_) dr⟩
   ·obtain ⟨m',hm,hI'⟩:=h3
    exact ⟨m',hm,R3,Γ3,E3,s'.trans (s1.trans s3),hI'⟩
   ·obtain ⟨m',hm,hI'⟩:=h3
    exact ⟨m',hm,R3,Γ3,E3,s'.trans (s1.trans s3),hI'⟩
 | false=>exact iN (dn σ' H1 R1 Γ2 E1 (s'.trans s1) (h2 rfl))
end
section
variable {X:Cx}{Γ Γ1 Γ2 Γ3:Ga}{α β γ δ:Type}{N:Ga->Prop}{T:RT}
end
section
variable {P:Program}{w:World}{K:PySem.W.Frag}{mg:Str->Option Value}{base:Heap}{α:Type}
end
end Fc
namespace K1
open PySem L2 Fc
open PySem.Spec hiding Row
open PyProof.Rows hiding St
open PySem.Builtin.Int (intBits)
section
variable {l:List Int}{v:aw}{p q:Int}{st ks:List Int}
def dst (v:aw)(k:Int):Int:=(rowOf v k).2.2.1
inductive Go (v:aw) (p:Int):List Int->Int->List Int->List Int->List Int->List Int->List Int->Prop
 | done {st:List Int} {q:Int} {l c:List Int}:Go v p st q [] l c (l++[q]) c
 | cut {st:List Int} {q k:Int} {ks l c l' c':List Int}:dst v k∈st++[q]->Go v p st q ks l (c++[k]) l' c'->Go v p st q (k::ks) l c l' c'
 | look {st:List Int} {q k:Int} {ks l c l' c':List Int}:dst v k∉st++[q]->dst v k∈l->Go v p st q ks l c l' c'->Go v p st q (k::ks) l c l' c'
 | down {st:List Int} {q k:Int} {ks l c l1 c1 l' c':List Int}:dst v k∉st++[q]->dst v k∉l->Go v p (st++[q]) (dst v k) (fromF v p (dst v k)) l c l1 c1->Go v p st q ks l1 c1 l' c'->Go v p st q (k::ks) l c l' c'
theorem Go.det {c l1 c1:List Int}(h:Go v p st q ks l c l1 c1):∀{l2 c2:List Int},Go v p st q ks l c l2 c2->l1=l2/\c1=c2:=by
 induction h with
 | done=>intro l2 c2 h2;cases h2;exact ⟨rfl,rfl⟩
 | cut a _ ih=>
   intro l2 c2 h2
   cases h2 with
   | cut _ b=>exact ih b
   | look x _ _=>exact absurd a x
   | down x _ _ _=>exact absurd a x
 | look a b _ ih=>
   intro l2 c2 h2
   cases h2 with
   | cut x _=>exact absurd x a
   | look _ _ y=>exact ih y
   | down _ x _ _=>exact absurd b x
 | down a b _ _ ih1 ih2=>
   intro l2 c2 h2
   cases h2 with
   | cut x _=>exact absurd x a
   | look _ x _=>exact absurd x b
   | down _ _ y z=>
     obtain ⟨rfl,rfl⟩:=ih1 y
     exact ih2 z
theorem Go.sub {c l1 c1:List Int}(h:Go v p st q ks l c l1 c1):(∀x∈l,x∈l1)/\q∈l1:=by
 induction h with
 | done=>exact ⟨λx hx=>mem_append_left _ hx,by simp⟩
 | cut _ _ ih=>exact ih
 | look _ _ _ ih=>exact ih
 | down _ _ _ _ ih1 ih2=>exact ⟨λx hx=>ih2.1 x (ih1.1 x hx),ih2.2⟩
def oI (w:Int->Nat)(n:Nat)(l st:List Int):Nat:=(((ups 0 n).filter λg=>decide (g∉l/\g∉st)).map w).sum
theorem qa {w:Int->Nat}{P:Int->Prop} [DecidablePred P]{g:Int}:∀{xs:List Int},xs.Nodup->g∈xs->P g->((xs.filter λx=>decide (P x/\x≠g)).map w).sum + w g=((xs.filter λx=>decide (P x)).map w).sum
 | [],_,h,_=>by cases h
 | a::xs,hn,hg,hP=>by
   obtain ⟨n1,n2⟩:=nodup_cons.mp hn
   by_cases e:a=g
   ·subst e
    rw [filter_cons_of_neg (by simp),filter_cons_of_pos (by simpa using hP),map_cons,sum_cons]
    have:(xs.filter λx=>decide (P x/\x≠a))=xs.filter λx=>decide (P x):=by
     apply filter_congr
     intro x hx
     have:x≠a:=λe=>n1 (e▸hx)
     simp [this]
    rw [this];omega
   ·have hg':g∈xs:=by
     rcases mem_cons.mp hg with z | z
     ·exact absurd z.symm e
     ·exact z
    have ih:=qa (w:=w) (P:=P) n2 hg' hP
    by_cases c:P a
    ·rw [filter_cons_of_pos (by simp [c,e]),filter_cons_of_pos (by simpa using c),map_cons,map_cons,sum_cons,sum_cons]
     omega
    ·rw [filter_cons_of_neg (by simp [c]),filter_cons_of_neg (by simpa using c)]
     exact ih
theorem pF {w:Int->Nat}{n:Nat}{g:Int}(g0:0<=g)(g1:g < (n:Int))(hl:g∉l)(hs:g∉st):oI w n l (st++[g]) + w g=oI w n l st:=by
 unfold oI
 rw [← qa (w:=w) (P:=λx=>x∉l/\x∉st) (du n) (bq.mpr ⟨g0,g1⟩) ⟨hl,hs⟩]
 congr 3
 apply filter_congr
 intro x _
 simp [and_assoc]
theorem vC {w:Int->Nat}{n:Nat}{l':List Int}(h:∀x∈l,x∈l'):oI w n l' st<=oI w n l st:=by
 unfold oI
 have:(ups 0 n).filter (λg=>decide (g∉l'/\g∉st))=((ups 0 n).filter λg=>decide (g∉l/\g∉st)).filter λg=>decide (g∉l'):=by
  rw [List.filter_filter]
  apply filter_congr
  intro x _
  simp only [Bool.decide_and]
  by_cases a:x∈l
  ·simp [a,h x a]
  ·simp [a]
 rw [this]
 generalize (ups 0 n).filter (λg=>decide (g∉l/\g∉st))=xs
 induction xs with
 | nil=>simp
 | cons a xs ih=>
   rw [filter_cons]
   split
   ·rw [map_cons,map_cons,sum_cons,sum_cons];omega
   ·rw [map_cons,sum_cons];omega
theorem lq (hv:aQ v){k:Int}(h:k∈fromF v p q):0<=k/\k < (v.2.length:Int)/\0<=dst v k/\dst v k < v.1.getD p.toNat 0:=by
 unfold fromF at h
 obtain ⟨h1,h2⟩:=mem_filter.mp h
 have kb:=bq.mp h1
 have h2:=of_decide_eq_true h2
 have hr:rowOf v k∈v.2:=by
  unfold rowOf
  rw [getD_eq_getElem?_getD,getElem?_eq_getElem (by omega)]
  exact getElem_mem _
 have r:=hv.cL hr
 have a:=r.e0;have b:=r.en
 rw [show (rowOf v k).1=p from congrArg Prod.fst h2] at b
 exact ⟨kb.1,kb.2,a,b⟩
inductive Res (v:aw) (p:Int):List (Int×List Int)->List Int->List Int->List Int->List Int->Prop
 | nil {l c:List Int}:Res v p [] l c l c
 | cons {q:Int} {ks:List Int} {stk:List (Int×List Int)} {l c l1 c1 l' c':List Int}:Go v p ((stk.map (·.1)).reverse) q ks l c l1 c1->Res v p stk l1 c1 l' c'->Res v p ((q,ks)::stk) l c l' c'
def iB (lv:List (List Int)):Nat:=(lv.map List.length).sum
theorem kA:∀{lv:List (List Int)} {j:Nat} {xs ys:List Int},lv[j]?=some xs->iB (lv.set j ys) + xs.length=iB lv + ys.length
 | [],j,_,_,h=>by simp at h
 | a::lv,0,xs,ys,h=>by
   have:a=xs:=by simpa using h
   subst this
   simp [iB];omega
 | a::lv,j + 1,xs,ys,h=>by
   have:=kA (lv:=lv) (j:=j) (xs:=xs) (ys:=ys) (by simpa using h)
   simp [iB] at this ⊢
   omega
theorem qK {v:aw}(hv:aQ v){p:Int}:∀i,i<=v.2.length->iB (e8 v p (v.1.getD p.toNat 0).toNat i)<=i
 | 0,_=>by
   unfold e8 iB
   rw [map_map]
   have:∀xs:List Int,(xs.map (List.length ∘ fO v p 0)).sum=0:=by
    intro xs
    induction xs with
    | nil=>rfl
    | cons a xs ih=>rw [map_cons,sum_cons,ih];rfl
   rw [this];exact Nat.le_refl _
 | i + 1,hi=>by
   have ih:=qK hv (p:=p) i (by omega)
   have hr:rowOf v (i:Int)∈v.2:=by
    unfold rowOf
    rw [getD_eq_getElem?_getD,getElem?_eq_getElem (by omega)]
    exact getElem_mem _
   have rp:=hv.cL hr
   by_cases h:(rowOf v (i:Int)).1=p
   ·have s0:=rp.s0;have sn:=rp.sn
    rw [h] at sn
    rw [← oU h s0 (by omega)]
    have:=kA (ys:=fO v p i (rowOf v (i:Int)).2.1++[(i:Int)]) (i6 (v:=v) (p:=p) (n:=(v.1.getD p.toNat 0).toNat) (i:=i) (j:=(rowOf v (i:Int)).2.1.toNat) (by omega))
    rw [show (((rowOf v (i:Int)).2.1.toNat:Nat):Int)=(rowOf v (i:Int)).2.1 by omega,length_append,length_singleton] at this
    omega
   ·rw [mW h];omega
structure CI (v:aw) (p:Int) (lv:List (List Int)) (stk:List (Int×List Int)) (fake:List Int) (l found:List Int):Prop where
 len:lv.length=(v.1.getD p.toNat 0).toNat
 rng:∀x∈stk.map (·.1),0<=x/\x < v.1.getD p.toNat 0
 nd:(stk.map (·.1)).Nodup
 on:∀x∈stk,lv[x.1.toNat]?=some x.2/\∀k∈x.2,k∈fromF v p x.1
 off:∀g∈l,0<=g/\g < v.1.getD p.toNat 0/\lv[g.toNat]?=some []/\g∉stk.map (·.1)
 new:∀g,0<=g->g < v.1.getD p.toNat 0->g∉l->g∉stk.map (·.1)->lv[g.toNat]?=some (fromF v p g)
 fk:fake=[]∨∃g,fake=[g]/\g∈l
 res:∀l' c',Res v p stk l found l' c'->Res v p [(0,fromF v p 0)] [] [] l' c'
 bd:found.length + iB lv<=60
theorem CI.pop {lv:List (List Int)}{stk:List (Int×List Int)}{found:List Int}(h:CI v p lv ((q,[])::stk) [] l found):CI v p lv stk [] (l++[q]) found:=by
 obtain ⟨n1,n2⟩:=nodup_cons.mp h.nd
 refine ⟨h.len,λx hx=>h.rng x (mem_cons_of_mem _ hx),n2,λx hx=>h.on x (mem_cons_of_mem _ hx),λg hg=>?_,λg g0 g1 gl gs=>?_,.inl rfl,λl' c' hr=>h.res l' c' (.cons .done hr),h.bd⟩
 ·rcases mem_append.mp hg with z | z
  ·obtain ⟨a,b,c,d⟩:=h.off g z
   exact ⟨a,b,c,λw=>d (mem_cons_of_mem _ w)⟩
  ·rw [mem_singleton.mp z]
   have:=h.rng q mem_cons_self
   exact ⟨this.1,this.2,(h.on _ mem_cons_self).1,n1⟩
 ·refine h.new g g0 g1 (λw=>gl (mem_append_left _ w)) λw=>?_
  rcases mem_cons.mp w with z | z
  ·exact gl (mem_append_right _ (mem_singleton.mpr z))
  ·exact gs z
theorem CI.take {lv:List (List Int)}{k:Int}{stk:List (Int×List Int)}{found:List Int}(h:CI v p lv ((q,k::ks)::stk) [] l found):(lv.set q.toNat ks).length=(v.1.getD p.toNat 0).toNat/\(∀x∈(q,ks)::stk,(lv.set q.toNat ks)[x.1.toNat]?=some x.2/\∀k∈x.2,k∈fromF v p x.1)/\(∀g∈l,0<=g/\g < v.1.getD p.toNat 0/\(lv.set q.toNat ks)[g.toNat]?=some []/\g∉((q,ks)::stk).map (·.1))/\
 (∀g,0<=g->g < v.1.getD p.toNat 0->g∉l->g∉((q,ks)::stk).map (·.1)->(lv.set q.toNat ks)[g.toNat]?=some (fromF v p g))/\found.length + 1 + iB (lv.set q.toNat ks)<=60:=by
 obtain ⟨n1,n2⟩:=nodup_cons.mp h.nd
 have hq:=h.rng q mem_cons_self
 have o:=h.on _ mem_cons_self
 have hlv:lv[q.toNat]?=some (k::ks):=o.1
 have il:=(List.getElem?_eq_some_iff.mp hlv).1
 have ne:∀g,0<=g->g≠q->(lv.set q.toNat ks)[g.toNat]?=lv[g.toNat]?:=λg g0 gn=>getElem?_set_ne (by omega)
 refine ⟨by rw [length_set];exact h.len,λx hx=>?_,λg hg=>?_,λg g0 g1 gl gs=>?_,?_⟩
 ·rcases mem_cons.mp hx with rfl | hx
  ·exact ⟨getElem?_set_self il,λj hj=>o.2 j (mem_cons_of_mem _ hj)⟩
  ·have a:=h.on x (mem_cons_of_mem _ hx)
   have b:=h.rng x.1 (mem_cons_of_mem _ (mem_map.mpr ⟨x,hx,rfl⟩))
   rw [ne x.1 b.1 (λe=>n1 (e▸mem_map.mpr ⟨x,hx,rfl⟩))]
   exact a
 ·obtain ⟨a,b,c,d⟩:=h.off g hg
  rw [ne g a (λe=>d (by rw [e];exact mem_cons_self))]
  exact ⟨a,b,c,d⟩
 ·rw [ne g g0 (λe=>gs (by rw [e];exact mem_cons_self))]
  exact h.new g g0 g1 gl gs
 ·have:=kA (ys:=ks) hlv
  have:=h.bd
  simp only [length_cons] at *
  omega
end
section
variable {P:Program}{w:World}{K:PySem.W.Frag}{mg:Str->Option Value}{base:Heap}{f:Addr}{fd:FuncData}
abbrev yc:Stmt:=top yv
abbrev nCU:List Str:=["web","part","left","way","found","number","to"]
theorem BO:aB nCU ["web","part"] (ah yc):=fS0
def xZ:bX:=λK ps T=>∃(v:aw) (p:Int),ps=[⟨bO,v⟩,⟨ae,p⟩]/\aQ v/\0<=p/\p < (v.1.length:Int)/\T=fR K ae (λys=>∃l c,Go v p [] 0 (fromF v p 0) [] [] l c/\ys=fj c)
theorem DH (M:bN mg)(CN:ay P w K mg base "need_part" 7 (aF By K))(CV:ay P w K mg base "rows_leaving" 1 (aF (uM false) K))(F:bI K "cuts" "cuts" yc f fd)(hm:mg "cuts"=some (.ref f))(hb:Binds K fd ["web","part"] []):ay P w K mg base "cuts" 8 (aF xZ K):=by
 have nd:=BO.nd
 have CV:=CV.mono (show 1<=7 by decide)
 obtain ⟨t1,hB⟩:=M.begin_
 refine bG F BO hm hb (λqs T ⟨_,_,e,_⟩=>by rw [e];rfl) (λcdv A outer s H E qs T hr hS=>?_)
 obtain ⟨v,p,rfl,hv,p0,p1,rfl⟩:=hS
 have pl:=hv.pl
 have rl:=hv.rl
 have nb:=hv.sz (v.1.getD p.toNat 0) (by rw [getD_eq_getElem?_getD,getElem?_eq_getElem (by omega)];exact getElem_mem _)
 change WS _ _ [.im (av (af ae) (af ax)) v,.im ae p,.no,.no,.no,.no,.no] _ _
 refine ai (iU CN hr (ag (aa 0 rfl) (ag (aa 1 rfl) aq)) ⟨v,p,rfl,hv,p0,p1,rfl⟩ ?_)
 refine ai (yE 2 CV hr (ag (aa 0 rfl) (ag (aa 1 rfl) aq)) ⟨v,p,rfl,hv,p0,p1,rfl⟩ ?_)
 rintro a as _ rfl
 refine ai (cG 3 (r:=ae) (aO (aN (bE hB) bh) (by show 1<=sizeLine;decide)) ?_)
 refine ai (cG 4 (r:=ae) (aO bh (by decide)) ?_)
 have t0:iB (cW v p)<=60:=by
  have:=qK hv (p:=p) v.2.length (Nat.le_refl _)
  have e:e8 v p (v.1.getD p.toNat 0).toNat v.2.length=cW v p:=rfl
  rw [e] at this
  omega
 have at0:∀g,0<=g->g < v.1.getD p.toNat 0->(cW v p)[g.toNat]?=some (fromF v p g):=λg g0 g1=>wR g0 g1
 have c0:CI v p (cW v p) [(0,fromF v p 0)] [] [] []:=by
  refine ⟨by unfold cW;rw [length_map,aC],λx hx=>?_,by simp,λx hx=>?_,λg hg=>(by cases hg),λg g0 g1 _ _=>at0 g g0 g1,.inl rfl,λl' c' h=>h,by simpa using t0⟩
  ·have:x=0:=by simpa using hx
   omega
  ·rw [mem_singleton.mp hx]
   exact ⟨at0 0 (by decide) (by omega),λk hk=>hk⟩
 refine ai (vK (λm Γ=>∃lv stk fake l found v5 v6,Γ=[.im (av (af ae) (af ax)) v,.im ae p,.ob (d7 ae a as lv),.mu ae ((stk.map (·.1)).reverse++fake),.mu ae found,v5,v6]/\CI v p lv stk fake l found/\m=2 * iB lv + ((stk.map (·.1)).reverse++fake).length/\m<=121) (m0:=2 * iB (cW v p) + 1)
  ⟨cW v p,[(0,fromF v p 0)],[],[],[],_,_,rfl,c0,rfl,by omega⟩ ?_)
 ·rintro m Γ ⟨lv,stk,fake,l,found,v5,v6,rfl,hC,rfl,hmb⟩
  refine ⟨_,_,lS 3 rfl,λhne=>?_,λhe=>?_⟩
  ·-- the place where one is
   have ll:=hC.len
   have main:∀(w:List Int) (t:Int) (xs:List Int),(stk.map (·.1)).reverse++fake=w++[t]->0<=t->t < v.1.getD p.toNat 0->lv[t.toNat]?=some xs->
    ((xs=[]->∃stk' l',CI v p lv stk' [] l' found/\(stk'.map (·.1)).reverse=w)/\(∀k ks,xs=k::ks->0<=k/\k < (v.2.length:Int)/\
      (dst v k∈w++[t]->∃stk' l',CI v p (lv.set t.toNat ks) stk' [] l' (found++[k])/\(stk'.map (·.1)).reverse=w++[t])/\
      (dst v k∉w++[t]->∃stk' fake' l',CI v p (lv.set t.toNat ks) stk' fake' l' found/\(stk'.map (·.1)).reverse++fake'=w++[t]++[dst v k]))):=by
    intro w t xs hw tt0 tt1 hx
    rcases hC.fk with rfl | ⟨g,rfl,hg⟩
    ·rw [append_nil] at hw
     cases stk with
     | nil=>simp at hw
     | cons top stk=>
       obtain ⟨q,ks0⟩:=top
       rw [map_cons,reverse_cons] at hw
       obtain ⟨e1,e2⟩:=append_inj' hw rfl
       have e2:q=t:=by simpa using e2
       subst e2
       have o:=hC.on _ mem_cons_self
       have exs:ks0=xs:=Option.some.inj (o.1.symm.trans hx)
       subst exs
       refine ⟨λz=>?_,λk ks z=>?_⟩
       ·subst z
        exact ⟨stk,_,hC.pop,e1⟩
       ·subst z
        obtain ⟨f1,f2,f3,f4,f5⟩:=hC.take
        have hk:=o.2 k mem_cons_self
        obtain ⟨k0,k1,d0,d1⟩:=lq hv hk
        have hst:((stk.map (·.1)).reverse++[q])=w++[q]:=by rw [e1]
        refine ⟨k0,k1,λz=>⟨(q,ks)::stk,l,⟨f1,hC.rng,hC.nd,f2,f3,f4,.inl rfl,λl' c' hr=>hC.res l' c' ?_,by rw [length_append,length_singleton];omega⟩,by rw [map_cons,reverse_cons,e1]⟩,λz=>?_⟩
        ·cases hr with
         | cons hg hr=>exact .cons (.cut (by rw [hst];exact z) hg) hr
        ·by_cases c:dst v k∈l
         ·refine ⟨(q,ks)::stk,[dst v k],l,⟨f1,hC.rng,hC.nd,f2,f3,f4,.inr ⟨_,rfl,c⟩,λl' c' hr=>hC.res l' c' ?_,by omega⟩,by rw [map_cons,reverse_cons,e1]⟩
          cases hr with
          | cons hg hr=>exact .cons (.look (by rw [hst];exact z) c hg) hr
         ·have ns:dst v k∉((q,ks)::stk).map (·.1):=λy=>z (by rw [← hst];simpa [or_comm] using y)
          refine ⟨(dst v k,fromF v p (dst v k))::(q,ks)::stk,[],l,⟨f1,λx hx=>?_,nodup_cons.mpr ⟨ns,hC.nd⟩,λx hx=>?_,λg hg=>?_,λg g0 g1 gl gs=>f4 g g0 g1 gl λy=>gs (mem_cons_of_mem _ y),.inl rfl,λl' c' hr=>hC.res l' c' ?_,by omega⟩,by rw [append_nil,map_cons,reverse_cons,map_cons,reverse_cons,e1]⟩
          ·rcases mem_cons.mp hx with y | y
           ·rw [y];exact ⟨d0,d1⟩
           ·exact hC.rng x y
          ·rcases mem_cons.mp hx with y | y
           ·rw [y];exact ⟨f4 _ d0 d1 c ns,λj hj=>hj⟩
           ·exact f2 x y
          ·obtain ⟨a1,a2,a3,a4⟩:=f3 g hg
           refine ⟨a1,a2,a3,λy=>?_⟩
           rcases mem_cons.mp y with y | y
           ·exact c ((show g=dst v k from y)▸hg)
           ·exact a4 y
          ·cases hr with
           | cons hg1 hr=>
             cases hr with
             | cons hg2 hr=>
               rw [map_cons,reverse_cons] at hg1
               exact .cons (.down (by rw [hst];exact z) c hg1 hg2) hr
    ·obtain ⟨e1,e2⟩:=append_inj' hw rfl
     have e2:g=t:=by simpa using e2
     subst e2
     obtain ⟨_,_,o3,_⟩:=hC.off g hg
     have exs:([]:List Int)=xs:=Option.some.inj (o3.symm.trans hx)
     subst exs
     refine ⟨λ_=>⟨stk,l,⟨hC.len,hC.rng,hC.nd,hC.on,hC.off,hC.new,.inl rfl,hC.res,hC.bd⟩,e1⟩,λk ks z=>by cases z⟩
   -- the place is there
   have hwne:(stk.map (·.1)).reverse++fake≠[]:=λe=>by rw [e] at hne;exact absurd hne (by decide)
   obtain ⟨w,t,hw⟩:∃w t,(stk.map (·.1)).reverse++fake=w++[t]:=⟨_,_,(dropLast_concat_getLast hwne).symm⟩
   have tr:0<=t/\t < v.1.getD p.toNat 0:=by
    have hm:t∈(stk.map (·.1)).reverse++fake:=by rw [hw];simp
    rcases mem_append.mp hm with z | z
    ·exact hC.rng t (mem_reverse.mp z)
    ·rcases hC.fk with e | ⟨g,e,hg⟩
     ·rw [e] at z;cases z
     ·rw [e] at z
      rw [mem_singleton.mp z]
      exact ⟨(hC.off g hg).1,(hC.off g hg).2.1⟩
   obtain ⟨xs,hx⟩:∃xs,lv[t.toNat]?=some xs:=⟨_,getElem?_eq_getElem (by omega)⟩
   obtain ⟨m1,m2⟩:=main w t xs hw tr.1 tr.2 hx
   have hlast:(w++[t])[(w++[t]).length - 1]?=some t:=by simp
   have hix:dP lv.length t=some t.toNat:=dH tr.1 (by omega)
   have wl:(w++[t]).length<=121:=by rw [← hw];omega
   rw [hw] at hmb ⊢
   refine xU.ifc (bY (Cn 2 (fc 3 (dt ar) rfl rfl (dB hlast)) rfl hix hx)) (λh=>?_) (λh=>?_)
   ·have hxe:xs=[]:=by
     cases xs with
     | nil=>rfl
     | cons _ _=>exact absurd h (by simp)
    obtain ⟨stk',l',hC',ew⟩:=m1 hxe
    refine lI (n9 3 rfl hlast) ?_
    refine ⟨2 * iB lv + w.length,by rw [length_append];simp,lv,stk',[],l',found,v5,v6,?_,hC',by rw [append_nil,ew],by rw [length_append] at hmb;simp at hmb;omega⟩
    rw [dropLast_concat,append_nil,ew];rfl
   ·obtain ⟨k,ks,rfl⟩:∃k ks,xs=k::ks:=by
     cases xs with
     | nil=>exact absurd h (by simp)
     | cons k ks=>exact ⟨k,ks,rfl⟩
    obtain ⟨k0,k1,g1,g2⟩:=m2 k ks rfl
    have ts:=kA (ys:=ks) hx
    rw [length_cons] at ts
    refine ai (bg 5 (vm 2 (fc 3 (dt ar) rfl rfl (dB hlast)) rfl hix hx) ?_)
    refine ai (bg 6 (cA (aJ (bb (aa 0 rfl)) (aa 5 rfl) (bJ bM k0 k1))) ?_)
    change WS _ _ [.im (av (af ae) (af ax)) v,.im ae p,.ob (d7 ae a as (lv.set t.toNat ks)),.mu ae (w++[t]),.mu ae found,.im ae k,.im ae (dst v k)] _ _
    have fb:=hC.bd
    refine ak (bL (TV.frz (pj (i:=3) rfl (aI (by omega))) (bc wY (aa 6 rfl) (aa 3 rfl))) (λh=>?_) (λh=>?_))
    ·obtain ⟨stk',l',hC',ew⟩:=g1 (of_decide_eq_true h)
     refine ak (cS 4 (aa 5 rfl) rfl rfl (Nat.lt_of_le_of_lt (show _<=1000 by omega) (by decide)) ?_)
     refine ⟨2 * iB (lv.set t.toNat ks) + (w++[t]).length,by omega,lv.set t.toNat ks,stk',[],l',found++[k],.im ae k,.im ae (dst v k),?_,hC',by rw [append_nil,ew],by omega⟩
     rw [append_nil,ew];rfl
    ·obtain ⟨stk',fake',l',hC',ew⟩:=g2 (of_decide_eq_false h)
     refine ak (cS 3 (aa 6 rfl) rfl rfl (Nat.lt_of_le_of_lt (show _<=1000 by omega) (by decide)) ?_)
     refine ⟨2 * iB (lv.set t.toNat ks) + (w++[t]++[dst v k]).length,by rw [length_append (as:=w++[t])];simp only [length_singleton];omega,lv.set t.toNat ks,stk',fake',l',found,.im ae k,.im ae (dst v k),?_,hC',by rw [ew],by rw [length_append (as:=w++[t])];simp only [length_singleton];omega⟩
     rw [ew];rfl
  ·have hwe:(stk.map (·.1)).reverse++fake=[]:=by
    cases e:(stk.map (·.1)).reverse++fake with
    | nil=>rfl
    | cons _ _=>rw [e] at he;exact absurd he (by simp)
   have hs:stk=[]:=by
    have:=(List.append_eq_nil_iff.mp hwe).1
    simpa using this
   subst hs
   have hR:=hC.res l found .nil
   have fb:=hC.bd
   refine ak (lP (rD M.sorted (fM 4 rfl (aI (by omega))) (by omega)) ?_)
   cases hR with
   | cons hg hr=>
     cases hr
     exact ⟨_,_,hg,rfl⟩
end
end K1
namespace Fc
open PySem PySem.Spec L2
open PyProof.Rows hiding St
end Fc
namespace K1
open PySem L2 Fc
open PySem.Spec hiding Row
open PyProof.Rows hiding St
open PySem.Builtin.Int (intBits)
section
variable {P:Program}{w:World}{K:PySem.W.Frag}{mg:Str->Option Value}{base:Heap}{f:Addr}{fd:FuncData}
end
section
variable {v:aw}{p:Int}
def src (v:aw)(k:Int):Int:=(rowOf v k).2.1
theorem cF {q k:Int}:k∈fromF v p q↔0<=k/\k < (v.2.length:Int)/\(rowOf v k).1=p/\src v k=q:=by
 unfold fromF src
 rw [mem_filter,bq]
 constructor
 ·rintro ⟨h1,h2⟩
  have h2:=of_decide_eq_true h2
  exact ⟨h1.1,h1.2,congrArg Prod.fst h2,congrArg Prod.snd h2⟩
 ·rintro ⟨h1,h2,h3,h4⟩
  exact ⟨⟨h1,h2⟩,decide_eq_true (by rw [h3,h4])⟩
theorem lZ (v:aw)(p q:Int):(fromF v p q).Nodup:=(du _).filter _
structure GP (v:aw) (p:Int) (st:List Int) (q:Int) (ks l c:List Int):Prop where
 nd:c.Nodup
 ks_:∀k∈ks,k∈fromF v p q
 kn:ks.Nodup
 own:∀k∈c,k∈fromF v p (src v k)/\(src v k∈l∨src v k∈st∨(src v k=q/\k∉ks))
 ql:q∉l
 qs:q∉st
 sl:∀x∈st,x∉l
 pr:∀k∈fromF v p q,k∈ks∨k∈c∨dst v k∈l
 od:∀l1 a l2,l=l1++a::l2->∀k∈fromF v p a,k∈c∨dst v k∈l1
 cs:∀k∈c,dst v k∈l∨dst v k∈st∨dst v k=q
structure GQ (v:aw) (p:Int) (st:List Int) (q:Int) (l c l' c':List Int):Prop where
 nd:c'.Nodup
 own:∀k∈c',k∈fromF v p (src v k)/\(src v k∈l'∨src v k∈st)
 new:∀k∈c',k∈c∨src v k∉st
 ln:∀x∈l',x∈l∨x∉st
 cc:∀k∈c,k∈c'
 od:∀l1 a l2,l'=l1++a::l2->∀k∈fromF v p a,k∈c'∨dst v k∈l1
 cs:∀k∈c',dst v k∈l'∨dst v k∈st
 lst:∃l0,l'=l0++[q]/\q∉l0
theorem Go.post {st:List Int}{q:Int}{ks l c l' c':List Int}(h:Go v p st q ks l c l' c'):GP v p st q ks l c->GQ v p st q l c l' c':=by
 induction h with
 | done=>
   rename_i st q l c
   intro g
   refine ⟨g.nd,λk hk=>?_,λk hk=>.inl hk,λx hx=>?_,λk hk=>hk,λl1 a l2 e k hk=>?_,λk hk=>?_,l,rfl,g.ql⟩
   ·obtain ⟨a,b⟩:=g.own k hk
    refine ⟨a,?_⟩
    rcases b with b | b | b
    ·exact .inl (mem_append_left _ b)
    ·exact .inr b
    ·exact .inl (mem_append_right _ (mem_singleton.mpr b.1))
   ·rcases mem_append.mp hx with z | z
    ·exact .inl z
    ·rw [mem_singleton.mp z];exact .inr g.qs
   ·rcases List.eq_nil_or_concat l2 with rfl | ⟨l2',z,rfl⟩
    ·obtain ⟨e1,e2⟩:=append_inj' e rfl
     have e2:q=a:=by simpa using e2
     subst e2
     subst e1
     rcases g.pr k hk with z | z | z
     ·cases z
     ·exact .inl z
     ·exact .inr z
    ·have e':l++[q]=(l1++a::l2')++[z]:=by rw [e];simp
     obtain ⟨e1,_⟩:=append_inj' e' rfl
     exact g.od l1 a l2' e1 k hk
   ·rcases g.cs k hk with z | z | z
    ·exact .inl (mem_append_left _ z)
    ·exact .inr z
    ·exact .inl (mem_append_right _ (mem_singleton.mpr z))
 | cut a hgo ih=>
   rename_i st q k ks l c l' c'
   intro g
   obtain ⟨n1,n2⟩:=nodup_cons.mp g.kn
   have hkq:=g.ks_ k mem_cons_self
   have hsq:src v k=q:=(cF.mp hkq).2.2.2
   have nkc:k∉c:=λz=>by
    rcases (g.own k z).2 with b | b | b
    ·exact g.ql (hsq▸b)
    ·exact g.qs (hsq▸b)
    ·exact b.2 mem_cons_self
   have r:=ih ⟨eV g.nd nkc,λj hj=>g.ks_ j (mem_cons_of_mem _ hj),n2,λj hj=>?_,g.ql,g.qs,g.sl,λj hj=>?_,λl1 b l2 e j hj=>?_,λj hj=>?_⟩
   ·refine ⟨r.nd,r.own,λj hj=>?_,r.ln,λj hj=>r.cc j (mem_append_left _ hj),r.od,r.cs,r.lst⟩
    rcases r.new j hj with z | z
    ·rcases mem_append.mp z with z | z
     ·exact .inl z
     ·rw [mem_singleton.mp z,hsq];exact .inr g.qs
    ·exact .inr z
   ·rcases mem_append.mp hj with z | z
    ·obtain ⟨x,y⟩:=g.own j z
     refine ⟨x,?_⟩
     rcases y with y | y | y
     ·exact .inl y
     ·exact .inr (.inl y)
     ·exact .inr (.inr ⟨y.1,λw=>y.2 (mem_cons_of_mem _ w)⟩)
    ·rw [mem_singleton.mp z,hsq]
     exact ⟨hkq,.inr (.inr ⟨rfl,n1⟩)⟩
   ·rcases g.pr j hj with z | z | z
    ·rcases mem_cons.mp z with rfl | z
     ·exact .inr (.inl (mem_append_right _ (mem_singleton.mpr rfl)))
     ·exact .inl z
    ·exact .inr (.inl (mem_append_left _ z))
    ·exact .inr (.inr z)
   ·rcases g.od l1 b l2 e j hj with z | z
    ·exact .inl (mem_append_left _ z)
    ·exact .inr z
   ·rcases mem_append.mp hj with z | z
    ·exact g.cs j z
    ·rw [mem_singleton.mp z]
     rcases mem_append.mp a with w | w
     ·exact .inr (.inl w)
     ·exact .inr (.inr (mem_singleton.mp w))
 | look a b hgo ih=>
   rename_i st q k ks l c l' c'
   intro g
   obtain ⟨n1,n2⟩:=nodup_cons.mp g.kn
   refine ih ⟨g.nd,λj hj=>g.ks_ j (mem_cons_of_mem _ hj),n2,λj hj=>?_,g.ql,g.qs,g.sl,λj hj=>?_,g.od,g.cs⟩
   ·obtain ⟨x,y⟩:=g.own j hj
    refine ⟨x,?_⟩
    rcases y with y | y | y
    ·exact .inl y
    ·exact .inr (.inl y)
    ·exact .inr (.inr ⟨y.1,λw=>y.2 (mem_cons_of_mem _ w)⟩)
   ·rcases g.pr j hj with z | z | z
    ·rcases mem_cons.mp z with rfl | z
     ·exact .inr (.inr b)
     ·exact .inl z
    ·exact .inr (.inl z)
    ·exact .inr (.inr z)
 | down a b hg1 hg2 ih1 ih2=>
   rename_i st q k ks l c l1 c1 l' c'
   intro g
   obtain ⟨n1,n2⟩:=nodup_cons.mp g.kn
   have r1:=ih1 ⟨g.nd,λj hj=>hj,lZ v p _,λj hj=>?_,b,a,λx hx=>?_,λj hj=>.inl hj,g.od,λj hj=>?_⟩
   ·have r2:=ih2 ⟨r1.nd,λj hj=>g.ks_ j (mem_cons_of_mem _ hj),n2,λj hj=>?_,λz=>?_,g.qs,λx hx z=>?_,λj hj=>?_,r1.od,λj hj=>?_⟩
    ·refine ⟨r2.nd,r2.own,λj hj=>?_,λx hx=>?_,λj hj=>r2.cc j (r1.cc j hj),r2.od,r2.cs,r2.lst⟩
     ·rcases r2.new j hj with z | z
      ·rcases r1.new j z with z | z
       ·exact .inl z
       ·exact .inr λw=>z (mem_append_left _ w)
      ·exact .inr z
     ·rcases r2.ln x hx with z | z
      ·rcases r1.ln x z with z | z
       ·exact .inl z
       ·exact .inr λw=>z (mem_append_left _ w)
      ·exact .inr z
    ·obtain ⟨x,y⟩:=r1.own j hj
     refine ⟨x,?_⟩
     rcases y with y | y
     ·exact .inl y
     ·rcases mem_append.mp y with y | y
      ·exact .inr (.inl y)
      ·have y:=mem_singleton.mp y
       refine .inr (.inr ⟨y,λw=>?_⟩)
       rcases r1.new j hj with z | z
       ·rcases (g.own j z).2 with u | u | u
        ·exact g.ql (y▸u)
        ·exact g.qs (y▸u)
        ·exact u.2 (mem_cons_of_mem _ w)
       ·exact z (mem_append_right _ (mem_singleton.mpr y))
    ·rcases r1.ln q z with w | w
     ·exact g.ql w
     ·exact w (mem_append_right _ (mem_singleton.mpr rfl))
    ·rcases r1.ln x z with w | w
     ·exact g.sl x hx w
     ·exact w (mem_append_left _ hx)
    ·rcases g.pr j hj with z | z | z
     ·rcases mem_cons.mp z with rfl | z
      ·exact .inr (.inr hg1.sub.2)
      ·exact .inl z
     ·exact .inr (.inl (r1.cc j z))
     ·exact .inr (.inr (hg1.sub.1 _ z))
    ·rcases r1.cs j hj with z | z
     ·exact .inl z
     ·rcases mem_append.mp z with z | z
      ·exact .inr (.inl z)
      ·exact .inr (.inr (mem_singleton.mp z))
   ·obtain ⟨x,y⟩:=g.own j hj
    refine ⟨x,?_⟩
    rcases y with y | y | y
    ·exact .inl y
    ·exact .inr (.inl (mem_append_left _ y))
    ·exact .inr (.inl (mem_append_right _ (mem_singleton.mpr y.1)))
   ·rcases mem_append.mp hx with z | z
    ·exact g.sl x z
    ·rw [mem_singleton.mp z];exact g.ql
   ·rcases g.cs j hj with z | z | z
    ·exact .inl z
    ·exact .inr (.inl (mem_append_left _ z))
    ·exact .inr (.inl (mem_append_right _ (mem_singleton.mpr z)))
structure mH (v:aw) (p:Int) (l c:List Int):Prop where
 nd:c.Nodup
 own:∀k∈c,k∈fromF v p (src v k)
 od:∀l1 a l2,l=l1++a::l2->∀k∈fromF v p a,k∈c∨dst v k∈l1
 all:∀x,0<=x->x < v.1.getD p.toNat 0->x∈l
 lst:∃l0,l=l0++[0]/\(0:Int)∉l0
theorem y3 (hv:aQ v)(p0:0<=p)(p1:p < (v.1.length:Int)){l c:List Int}(h:Go v p [] 0 (fromF v p 0) [] [] l c):mH v p l c:=by
 have g:=h.post ⟨nodup_nil,λk hk=>hk,lZ v p 0,λk hk=>(by cases hk),by simp,by simp,λx hx=>(by cases hx),λk hk=>.inl hk,λl1 a l2 e=>by simp at e,λk hk=>(by cases hk)⟩
 have hm:v.1[p.toNat]?=some (v.1.getD p.toNat 0):=by rw [getD_eq_getElem?_getD,getElem?_eq_getElem (by omega)];rfl
 refine ⟨g.nd,λk hk=>(g.own k hk).1,g.od,λx x0 x1=>?_,g.lst⟩
 refine Reach.sub (P:=λx=>x∈l) h.sub.2 (λa b ha hab=>?_) (hv.jN hm x0 x1)
 obtain ⟨r,hr,r1,r2,r3⟩:=gj.mp hab
 obtain ⟨j,hj⟩:=mem_iff_getElem?.mp hr
 have jl:=(List.getElem?_eq_some_iff.mp hj).1
 have er:rowOf v (j:Int)=r:=by unfold rowOf;rw [show ((j:Int)).toNat=j by omega,getD_eq_getElem?_getD,hj];rfl
 have hk:(j:Int)∈fromF v p a:=cF.mpr ⟨by omega,by omega,by rw [er];omega,by unfold src;rw [er];exact r2⟩
 have hd:dst v (j:Int)=b:=by unfold dst;rw [er];exact r3
 obtain ⟨l1,l2,e⟩:=append_of_mem ha
 rcases g.od l1 a l2 e _ hk with z | z
 ·rcases g.cs _ z with w | w
  ·rw [← hd];exact w
  ·cases w
 ·rw [← hd,e];exact mem_append_left _ z
end
end K1
namespace Fc
open PySem PySem.Spec L2
open PyProof.Rows hiding St
abbrev eW:=Int×Int×Int×Bool
def ic:aD eW:=⟨λ_ H v x=>∃a,v= .ref a/\H a=some (.tup [.int x.1,.int x.2.1,.int x.2.2.1,.bl x.2.2.2]),λs ⟨a,e,q⟩=>⟨a,e,s _ _ q⟩⟩
theorem sK {X:Cx}{scope:Scope}{cl:List (Str×Addr)}{own fr:List Str}{ix:List Nat}(S:cY X scope cl own fr ix){C:Addr}{N':List Str}{s:Shared}{H:Hp}{ex:List Addr}(x:Str)(hx:(aH X scope cl C N' s H ex).env.scope.names.lookup x=some .cell):∃c,(aH X scope cl C N' s H ex).env.cells.lookup x=some c:=by
 have hx:(relabel scope X.env).names.lookup x=some .cell:=hx
 obtain ⟨k',e,z⟩:=eR hx
 rcases z with rfl | ⟨rfl,_⟩
 ·have:∀(l:List (Str×NameKind)),l.lookup x=some .cell->∃y∈l,y.2= .cell:=by
   intro l
   induction l with
   | nil=>intro h;cases h
   | cons a l ih=>
     intro h
     rw [lookup_cons] at h
     split at h
     ·exact ⟨a,mem_cons_self,Option.some.inj h⟩
     ·obtain ⟨y,hy,e⟩:=ih h
      exact ⟨y,mem_cons_of_mem _ hy,e⟩
  obtain ⟨y,hy,e2⟩:=this _ e
  exact absurd e2 (S.ncell y hy)
 ·exact S.has x e
section
variable {X:Cx}{Γ Γ1 Γ2 Γ3:Ga}{α β γ δ:Type}{N:Ga->Prop}{T:RT}
theorem lL {a b c d:Expr}{k:Nat}{pos:Pos}{x y z:Int}{w:Bool}(h:HA X [a,b,c,d] Γ [⟨ae,x⟩,⟨ae,y⟩,⟨ae,z⟩,⟨aW,w⟩] Γ1):EV X (.Tuple [a,b,c,d] k pos) Γ ic (x,y,z,w) Γ1:=by
 intro σ H0 R0 H R E Q q
 refine eS (iR jY) (h σ H0 R0 H R E _ λvs H1 R1 E1 s1 p1=>?_)
 cases p1 with
 | cons a1 t=>cases t with
   | cons a2 t=>cases t with
     | cons a3 t=>cases t with
       | cons a4 t=>
         cases t
         cases a1;cases a2;cases a3;cases a4
         refine ⟨by show 4<=sizeLine;decide,λp hp=>?_⟩
         have s2:aj R1 (upd R1 p (.tup [V.int x,V.int y,V.int z,V.bl w])):=aj.fresh (E1.sub.free hp) _
         exact q _ _ (upd R1 p (.tup [V.int x,V.int y,V.int z,V.bl w])) (E1.grow (Ext.fresh E1.sub hp _)) (s1.trans s2) ⟨p,rfl,au⟩
theorem Ao (i1 i2 i3 i4:Nat){x1 x2 x3 x4:Str}{k:Nat}{p1 p2 p3 p4 pos:Pos}(hc:X.calm=true:=by rfl)(hN:X.N.Nodup:=by first | assumption | decide)
 (h1:X.N[i1]?=some x1:=by rfl) (l1:autoParam (Loc X.env.scope x1) vA2) (f1:autoParam (X.fn x1=true∨X.env.scope.names.lookup x1=some .local) vA3)
 (h2:X.N[i2]?=some x2:=by rfl) (l2:autoParam (Loc X.env.scope x2) vA2) (f2:autoParam (X.fn x2=true∨X.env.scope.names.lookup x2=some .local) vA3)
 (h3:X.N[i3]?=some x3:=by rfl) (l3:autoParam (Loc X.env.scope x3) vA2) (f3:autoParam (X.fn x3=true∨X.env.scope.names.lookup x3=some .local) vA3)
 (h4:X.N[i4]?=some x4:=by rfl) (l4:autoParam (Loc X.env.scope x4) vA2) (f4:autoParam (X.fn x4=true∨X.env.scope.names.lookup x4=some .local) vA3):
 BG X (.Tuple [.Name x1 p1,.Name x2 p2,.Name x3 p3,.Name x4 p4] k pos) ic (λw Γ=>(((Γ.set i1 (.im ae w.1)).set i2 (.im ae w.2.1)).set i3 (.im ae w.2.2.1)).set i4 (.im aW w.2.2.2)):=λσ H0 R0 H R Γ v w E h Q q=>by
 obtain ⟨a,rfl,ha⟩:=h
 exact gS (vk hc (dv (dO hN h1 l1 f1) (dv (dO hN h2 l2 f2) (dv (dO hN h3 l3 f3) (dv (dO hN h4 l4 f4) kg))))) ⟨a,_,rfl,dm.of (E.sub _ _ ha),rfl,_,_,rfl,_,_,rfl,_,_,rfl,_,_,rfl,rfl,q _ ((((E.set i1 rfl).set i2 rfl).set i3 rfl).set i4 rfl)⟩
theorem tu:dg X (compareOp .IsNot) (λx y H Q=>∃a b,x= .bl a/\y= .bl b/\Q (.bl (a != b)) H):=by
 intro pins s σ H x y v u Q I rx ry h
 obtain ⟨a,b,rfl,rfl,q⟩:=h
 cases rx
 cases ry
 exact isnot_bool (bH I q rfl)
theorem xa {x y:Bool}:fW X .IsNot aW aW x y (x != y):=⟨_,tu,λR H v u Q _ e1 e2 q=>⟨x,y,e1,e2,q⟩⟩
def bTL (a b c:Addr)(xs:List Int)(rs:List Row):iA where
 fp:=[a,b,c]
 R:=λK H R v=>v= .ref a/\(a≠b/\a≠c/\b≠c)/\H a=some (.tup [.ref b,.ref c])/\(∃ws,H b=some (.lst ws)/\PySem.Paired (ae.R K R) ws xs)/\∃zs,H c=some (.lst zs)/\PySem.Paired (ax.R K R) zs rs
 loc:=λhH hR ⟨e,n,ha,⟨ws,hb,pb⟩,zs,hc,pc⟩=>⟨e,n,(hH _ (by simp)).trans ha,⟨ws,(hH _ (by simp)).trans hb,Paired.map (λ_ _=>ae.mono hR) pb⟩,zs,(hH _ (by simp)).trans hc,Paired.map (λ_ _=>ax.mono hR) pc⟩
 has:=λ⟨_,_,ha,⟨ws,hb,_⟩,zs,hc,_⟩ x hx=>by
  simp only [mem_cons,not_mem_nil,or_false] at hx
  rcases hx with rfl | rfl | rfl
  ·rw [ha];exact Option.some_ne_none _
  ·rw [hb];exact Option.some_ne_none _
  ·rw [hc];exact Option.some_ne_none _
def zr (K:PySem.W.Frag)(P:List Int->List Row->Prop):RT:=λH0 v H' R'=>∃a b c xs rs,(bTL a b c xs rs).R K H' R' v/\(∀x∈[a,b,c],H0 x=none/\R' x=none)/\P xs rs
theorem yL (i:Nat){e0:Expr}{y:Str}{k:Nat}{p1 p2 pos:Pos}{xs:List Int}{rs:List Row}{P:List Int->List Row->Prop}(h0:aY X e0 Γ ae xs Γ)(hΓ:Γ[i]?=some (.mu ax rs))(h:P xs rs)
 (hN:X.N[i]?=some y:=by rfl) (hv:autoParam (bS X.env.scope y) vA1) (hd:Dg0 y:=by decide) (hcd:Cd0 y:=by decide)
 (s0:starEach [e0,.Name y p1] X.env=(false,eval e0 X.env)::starEach [.Name y p1] X.env:=by rfl) (s1:starEach [.Name y p1] X.env=(false,eval (.Name y p1) X.env)::starEach [] X.env:=by rfl):
 W1 X (.Return (some (.Tuple [e0,.Name y p1] k p2)) pos) Γ N (zr X.K P):=λσ H0 R0 H R E D dn dr=>by
 refine sS (fg (iR (aL aE (aL (aX hN hv hd hcd) bz s1) s0))) ?_
 refine h0 σ H0 R0 H R E _ λb ws H1 R1 E1 s1 hb hRb hb0 off pb _=>?_
 obtain ⟨c,zs,ec,hc,hRc,pc⟩:=E1.ent i _ hΓ
 refine ⟨.ref c,at_of ec,by show 2<=sizeLine;decide,λp hp=>?_⟩
 have hc0:H0 c=none:=E1.nw i _ c hΓ (bT.mpr ec)
 have npb:p≠b:=λe=>by rw [e,hb] at hp;cases hp
 have npc:p≠c:=λe=>by rw [e,hc] at hp;cases hp
 have nbc:b≠c:=λe=>off i _ hΓ (by rw [e];exact bT.mpr ec)
 refine dr _ _ R1 (E1.grow (Ext.cn E1.sub hp (.tup [.ref b,.ref c]))).ext ⟨p,b,c,xs,rs,⟨rfl,⟨npb,npc,nbc⟩,au,⟨ws,by rw [aA (Ne.symm npb)];exact hb,pb⟩,zs,by rw [aA (Ne.symm npc)];exact hc,pc⟩,λx hx=>?_,h⟩
 simp only [mem_cons,not_mem_nil,or_false] at hx
 rcases hx with rfl | rfl | rfl
 ·exact ⟨E1.ext.h.free hp,E1.sub.free hp⟩
 ·exact ⟨hb0,hRb⟩
 ·exact ⟨hc0,hRc⟩
end
end Fc
namespace K1
open PySem L2 Fc
open PySem.Spec hiding Row
open PyProof.Rows hiding St
open PySem.Builtin.Int (intBits)
section
variable {v:aw}{p:Int}
def bP (v:aw)(p:Int)(C:List Int):List Int:=(ups 0 v.2.length).filter λk=>decide ((rowOf v k).1=p)&& !decide (k∈C)
def cU (v:aw)(k:Int):List eW:=(if dst v k=0 then ([]:List eW) else [((0:Int),dst v k,k,false)])++[(src v k,(1:Int),k,true)]
def cy (v:aw)(p:Int)(C:List Int):List eW:=((bP v p C).map λk=>((src v k,dst v k,k,true):eW))++C.flatMap (cU v)
def dF (v:aw)(p:Int)(C:List Int):List Row:=(cy v p C).map λx:eW=>(((0:Int),x.1,x.2.1,(-1:Int)):Row)
def eI (v:aw)(p:Int)(C:List Int):aw:=([v.1.getD p.toNat 0],dF v p C)
theorem c4 {C:List Int}{k:Int}:k∈bP v p C↔k∈fromF v p (src v k)/\k∉C:=by
 unfold bP
 rw [mem_filter,bq,cF]
 simp
 constructor
 ·rintro ⟨⟨a,b⟩,c,d⟩;exact ⟨⟨a,b,c⟩,d⟩
 ·rintro ⟨⟨a,b,c⟩,d⟩;exact ⟨⟨a,b⟩,c,d⟩
theorem fJ {C:List Int}{r:Row}:r∈dF v p C↔(∃k∈bP v p C,r=(0,src v k,dst v k, -1))∨(∃k∈C,dst v k≠0/\r=(0,0,dst v k, -1))∨∃k∈C,r=(0,src v k,1, -1):=by
 unfold dF cy
 rw [map_append,mem_append,map_map,mem_map]
 have e:∀k,∀x,x∈cU v k↔(dst v k≠0/\x=(0,dst v k,k,false))∨x=(src v k,1,k,true):=λk x=>by
  unfold cU
  by_cases z:dst v k=0
  ·simp [z]
  ·simp [z]
 constructor
 ·rintro (⟨k,hk,rfl⟩ | h)
  ·exact .inl ⟨k,hk,rfl⟩
  ·obtain ⟨x,hx,rfl⟩:=mem_map.mp h
   obtain ⟨k,hk,hx⟩:=mem_flatMap.mp hx
   rcases (e k x).mp hx with ⟨z,rfl⟩ | rfl
   ·exact .inr (.inl ⟨k,hk,z,rfl⟩)
   ·exact .inr (.inr ⟨k,hk,rfl⟩)
 ·rintro (⟨k,hk,rfl⟩ | ⟨k,hk,z,rfl⟩ | ⟨k,hk,rfl⟩)
  ·exact .inl ⟨k,hk,rfl⟩
  ·exact .inr (mem_map.mpr ⟨(0,dst v k,k,false),mem_flatMap.mpr ⟨k,hk,(e k _).mpr (.inl ⟨z,rfl⟩)⟩,rfl⟩)
  ·exact .inr (mem_map.mpr ⟨(src v k,1,k,true),mem_flatMap.mpr ⟨k,hk,(e k _).mpr (.inr rfl)⟩,rfl⟩)
theorem gq (hv:aQ v){q k:Int}(h:k∈fromF v p q):0<=q/\q < v.1.getD p.toNat 0/\q≠1/\0<=dst v k/\dst v k < v.1.getD p.toNat 0:=by
 obtain ⟨h1,h2,h3,h4⟩:=cF.mp h
 have hr:rowOf v k∈v.2:=by
  unfold rowOf
  rw [getD_eq_getElem?_getD,getElem?_eq_getElem (by omega)]
  exact getElem_mem _
 have r:=hv.cL hr
 have a:=r.s0;have b:=r.sn;have c:=r.s1;have d:=r.e0;have e:=r.en
 rw [h3] at b e
 unfold src at h4
 rw [h4] at a b c
 exact ⟨a,b,c,d,e⟩
theorem j6 (hv:aQ v){q:Int}(p0:0<=p)(p1:p < (v.1.length:Int))(q0:0<=q)(q1:q < v.1.getD p.toNat 0)(qn:q≠1):∃k,k∈fromF v p q:=by
 have hm:v.1[p.toNat]?=some (v.1.getD p.toNat 0):=by rw [getD_eq_getElem?_getD,getElem?_eq_getElem (by omega)];rfl
 have h:=hv.toEnd hm q0 q1
 have:∃r∈v.2,r.1=p/\r.2.1=q:=by
  cases h with
  | base=>exact absurd rfl qn
  | step _ m=>
    unfold bwd at m
    obtain ⟨r,hr,e⟩:=mem_map.mp m
    obtain ⟨h1,h2⟩:=mem_filter.mp hr
    have h2:=of_decide_eq_true h2
    exact ⟨r,h1,by omega,congrArg Prod.snd e⟩
 obtain ⟨r,hr,r1,r2⟩:=this
 obtain ⟨j,hj⟩:=mem_iff_getElem?.mp hr
 have jl:=(List.getElem?_eq_some_iff.mp hj).1
 have er:rowOf v (j:Int)=r:=by unfold rowOf;rw [show ((j:Int)).toNat=j by omega,getD_eq_getElem?_getD,hj];rfl
 exact ⟨(j:Int),cF.mpr ⟨by omega,by omega,by rw [er];exact r1,by unfold src;rw [er];exact r2⟩⟩
def pos (l:List Int)(x:Int):Nat:=match l with
 | []=>0
 | a::l=>if a=x then 0 else pos l x + 1
theorem mX:∀{l:List Int} {a:Int},a∈l->l=l.take (pos l a)++a::l.drop (pos l a + 1)/\pos l a < l.length
 | [],_,h=>by cases h
 | b::l,a,h=>by
   by_cases e:b=a
   ·subst e
    simp [pos]
   ·have ha:a∈l:=by
     rcases mem_cons.mp h with z | z
     ·exact absurd z.symm e
     ·exact z
    obtain ⟨i1,i2⟩:=mX ha
    have ep:pos (b::l) a=pos l a + 1:=by rw [pos,if_neg e]
    rw [ep]
    refine ⟨?_,by rw [length_cons];omega⟩
    rw [take_succ_cons,List.drop_succ_cons,cons_append,← i1]
theorem vx:∀{l:List Int} {a b:Int},b∈l.take (pos l a)->pos l b < pos l a
 | [],_,_,h=>by simp at h
 | x::l,a,b,h=>by
   by_cases e:x=a
   ·subst e
    simp [pos] at h
   ·have ep:pos (x::l) a=pos l a + 1:=by rw [pos,if_neg e]
    rw [ep] at h ⊢
    rw [take_succ_cons] at h
    by_cases e2:x=b
    ·have:pos (x::l) b=0:=by rw [pos,if_pos e2]
     omega
    ·have hb:b∈l.take (pos l a):=by
      rcases mem_cons.mp h with z | z
      ·exact absurd z.symm e2
      ·exact z
     have:=vx hb
     have:pos (x::l) b=pos l b + 1:=by rw [pos,if_neg e2]
     omega
theorem vA:∀{l:List Int} {x:Int} (r:List Int),x∈l->pos (l++r) x < l.length
 | [],_,_,h=>by cases h
 | a::l,x,r,h=>by
   rw [cons_append,pos,length_cons]
   split
   ·omega
   ·rename_i e
    have hx:x∈l:=by
     rcases mem_cons.mp h with z | z
     ·exact absurd z.symm e
     ·exact z
    have:=vA r hx
    omega
theorem qZ:∀{l:List Int} {x:Int},x∉l->pos (l++[x]) x=l.length
 | [],x,_=>by simp [pos]
 | a::l,x,h=>by
   rw [cons_append,pos,if_neg (λe=>h (by rw [e];exact mem_cons_self)),qZ (λz=>h (mem_cons_of_mem _ z))];rfl
theorem mH.before {l c:List Int}(g:mH v p l c){a k:Int}(ha:a∈l)(hk:k∈fromF v p a)(hc:k∉c):pos l (dst v k) < pos l a:=by
 have e:=(mX ha).1
 rcases g.od _ a _ e k hk with z | z
 ·exact absurd z hc
 ·exact vx z
end
section
variable {v:aw}{p:Int}{l c C:List Int}
theorem wA (hv:aQ v)(p0:0<=p)(p1:p < (v.1.length:Int))(g:mH v p l c)(hC:∀k,k∈C↔k∈c):dC (dF v p C) 0:=by
 refine ⟨λx=>if x=1 then 1 else -(pos l x:Int),λr hr _=>?_⟩
 have one:∀a:Int,a≠1->(if a=1 then (1:Int) else -(pos l a:Int)) < 1:=λa ha=>by rw [if_neg ha];omega
 rcases fJ.mp hr with ⟨k,hk,rfl⟩ | ⟨k,hk,z,rfl⟩ | ⟨k,hk,rfl⟩
 ·obtain ⟨h1,h2⟩:=c4.mp hk
  obtain ⟨a0,a1,an,b0,b1⟩:=gq hv h1
  show (if src v k=1 then (1:Int) else -(pos l (src v k):Int)) < (if dst v k=1 then (1:Int) else -(pos l (dst v k):Int))
  by_cases e:dst v k=1
  ·rw [if_pos e];exact one _ an
  ·rw [if_neg e,if_neg an]
   have:=g.before (g.all _ a0 a1) h1 λz=>h2 ((hC k).mpr z)
   omega
 ·have hkf:=g.own k ((hC k).mp hk)
  obtain ⟨_,_,_,b0,b1⟩:=gq hv hkf
  show (if (0:Int)=1 then (1:Int) else -(pos l (0:Int):Int)) < (if dst v k=1 then (1:Int) else -(pos l (dst v k):Int))
  by_cases e:dst v k=1
  ·rw [if_pos e];exact one 0 (by decide)
  ·rw [if_neg e,if_neg (by decide)]
   obtain ⟨l0,e1,e2⟩:=g.lst
   have hd:=g.all _ b0 b1
   rw [e1] at hd
   have hd:dst v k∈l0:=by
    rcases mem_append.mp hd with w | w
    ·exact w
    ·exact absurd (mem_singleton.mp w) z
   have i1:pos l (dst v k) < l0.length:=by rw [e1];exact vA _ hd
   have i0:pos l 0=l0.length:=by rw [e1];exact qZ e2
   omega
 ·have hkf:=g.own k ((hC k).mp hk)
  obtain ⟨_,_,an,_,_⟩:=gq hv hkf
  show (if src v k=1 then (1:Int) else -(pos l (src v k):Int)) < (if (1:Int)=1 then (1:Int) else _)
  rw [if_pos rfl];exact one _ an
theorem yk (hv:aQ v)(hle:v.2.length<=30)(p0:0<=p)(p1:p < (v.1.length:Int))(g:mH v p l c)(hC:∀k,k∈C↔k∈c)(hn:C.Nodup):aQ (eI v p C):=by
 have nb:=hv.sz (v.1.getD p.toNat 0) (by rw [getD_eq_getElem?_getD,getElem?_eq_getElem (by omega)];exact getElem_mem _)
 have hm:v.1[p.toNat]?=some (v.1.getD p.toNat 0):=by rw [getD_eq_getElem?_getD,getElem?_eq_getElem (by omega)];rfl
 have ep:((p.toNat:Nat):Int)=p:=by omega
 have own:∀k∈C,k∈fromF v p (src v k):=λk hk=>g.own k ((hC k).mp hk)
 -- the rows by their ties
 have T:∀a b,(a,b)∈(dF v p C).map (λr:Row=>(r.2.1,r.2.2.1))↔(∃k∈bP v p C,a=src v k/\b=dst v k)∨(∃k∈C,dst v k≠0/\a=0/\b=dst v k)∨∃k∈C,a=src v k/\b=1:=λa b=>by
  rw [mem_map]
  constructor
  ·rintro ⟨r,hr,e⟩
   have ea:r.2.1=a:=congrArg Prod.fst e
   have eb:r.2.2.1=b:=congrArg Prod.snd e
   rcases fJ.mp hr with ⟨k,hk,rfl⟩ | ⟨k,hk,z,rfl⟩ | ⟨k,hk,rfl⟩
   ·exact .inl ⟨k,hk,ea.symm,eb.symm⟩
   ·exact .inr (.inl ⟨k,hk,z,ea.symm,eb.symm⟩)
   ·exact .inr (.inr ⟨k,hk,ea.symm,eb.symm⟩)
  ·rintro (⟨k,hk,rfl,rfl⟩ | ⟨k,hk,z,rfl,rfl⟩ | ⟨k,hk,rfl,rfl⟩)
   ·exact ⟨_,fJ.mpr (.inl ⟨k,hk,rfl⟩),rfl⟩
   ·exact ⟨_,fJ.mpr (.inr (.inl ⟨k,hk,z,rfl⟩)),rfl⟩
   ·exact ⟨_,fJ.mpr (.inr (.inr ⟨k,hk,rfl⟩)),rfl⟩
 have part0:∀r∈dF v p C,r.1=0/\r.2.2.2= -1:=λr hr=>by
  rcases fJ.mp hr with ⟨k,hk,rfl⟩ | ⟨k,hk,z,rfl⟩ | ⟨k,hk,rfl⟩<;>exact ⟨rfl,rfl⟩
 have M:eo (v.1.getD p.toNat 0) ((dF v p C).map (λr:Row=>(r.2.1,r.2.2.1))):=by
  refine ⟨nb.1,λt ht=>?_,λx x0 x1=>?_,?_⟩
  ·obtain ⟨a,b⟩:=t
   rcases (T a b).mp ht with ⟨k,hk,rfl,rfl⟩ | ⟨k,hk,z,rfl,rfl⟩ | ⟨k,hk,rfl,rfl⟩
   ·obtain ⟨a0,a1,an,b0,b1⟩:=gq hv (c4.mp hk).1
    exact ⟨a0,a1,an,b0,b1⟩
   ·obtain ⟨_,_,_,b0,b1⟩:=gq hv (own k hk)
    exact ⟨Int.le_refl _,by show (0:Int) < _;omega,by show (0:Int)≠1;decide,b0,b1⟩
   ·obtain ⟨a0,a1,an,_,_⟩:=gq hv (own k hk)
    exact ⟨a0,a1,an,by show (0:Int)<=1;decide,by show (1:Int) < _;omega⟩
  ·refine Reach.sub (P:=λx=>Reach _ 0 x) .base (λa b ha hab=>?_) (hv.jN hm x0 x1)
   obtain ⟨r,hr,r1,r2,r3⟩:=gj.mp hab
   obtain ⟨j,hj⟩:=mem_iff_getElem?.mp hr
   have jl:=(List.getElem?_eq_some_iff.mp hj).1
   have er:rowOf v (j:Int)=r:=by unfold rowOf;rw [show ((j:Int)).toNat=j by omega,getD_eq_getElem?_getD,hj];rfl
   have hs:src v (j:Int)=a:=by unfold src;rw [er];exact r2
   have hd:dst v (j:Int)=b:=by unfold dst;rw [er];exact r3
   have hk:(j:Int)∈fromF v p (src v (j:Int)):=cF.mpr ⟨by omega,by omega,by rw [er];omega,rfl⟩
   by_cases z:(j:Int)∈C
   ·by_cases w:b=0
    ·rw [w];exact .base
    ·exact .step .base ((T 0 b).mpr (.inr (.inl ⟨_,z,by rw [hd];exact w,rfl,hd.symm⟩)))
   ·exact .step ha ((T a b).mpr (.inl ⟨_,c4.mpr ⟨hk,z⟩,hs.symm,hd.symm⟩))
  ·have go:∀(m:Nat) (x:Int),pos l x<=m->0<=x->x < v.1.getD p.toNat 0->Reach (((dF v p C).map (λr:Row=>(r.2.1,r.2.2.1))).map kL) 1 x:=by
    intro m
    induction m with
    | zero=>
      intro x hx x0 x1
      by_cases e:x=1
      ·rw [e];exact .base
      ·obtain ⟨k,hk⟩:=j6 hv p0 p1 x0 x1 e
       have hs:=(cF.mp hk).2.2.2
       by_cases z:k∈C
       ·exact .step .base (mem_map.mpr ⟨(x,1),(T x 1).mpr (.inr (.inr ⟨k,z,hs.symm,rfl⟩)),rfl⟩)
       ·have:=g.before (g.all x x0 x1) hk λw=>z ((hC k).mpr w)
        omega
    | succ m ih=>
      intro x hx x0 x1
      by_cases e:x=1
      ·rw [e];exact .base
      ·obtain ⟨k,hk⟩:=j6 hv p0 p1 x0 x1 e
       have hs:=(cF.mp hk).2.2.2
       obtain ⟨_,_,_,b0,b1⟩:=gq hv hk
       by_cases z:k∈C
       ·exact .step .base (mem_map.mpr ⟨(x,1),(T x 1).mpr (.inr (.inr ⟨k,z,hs.symm,rfl⟩)),rfl⟩)
       ·have:=g.before (g.all x x0 x1) hk λw=>z ((hC k).mpr w)
        refine .step (ih (dst v k) (by omega) b0 b1) (mem_map.mpr ⟨(x,dst v k),(T x _).mpr (.inl ⟨k,c4.mpr ⟨by rw [hs];exact hk,z⟩,hs.symm,rfl⟩),rfl⟩)
   exact λx x0 x1=>go _ x (Nat.le_refl _) x0 x1
 have len:(dF v p C).length<=60:=by
  have h1:(bP v p C).length + C.length<=v.2.length:=by
   have:=eK (xs:=bP v p C++C) (ys:=ups 0 v.2.length) (nodup_append.mpr ⟨(du _).filter _,hn,λa ha b hb e=>(c4.mp ha).2 (e▸hb)⟩) λx hx=>by
    rcases mem_append.mp hx with w | w
    ·exact (mem_filter.mp w).1
    ·have:=cF.mp (own x w)
     exact bq.mpr ⟨this.1,this.2.1⟩
   rw [length_append,aC] at this
   exact this
  have h2:∀xs:List Int,(xs.flatMap (cU v)).length<=2 * xs.length:=by
   intro xs
   induction xs with
   | nil=>simp
   | cons a xs ih=>
     rw [flatMap_cons,length_append,length_cons]
     have:(cU v a).length<=2:=by unfold cU;split<;>simp
     omega
  have:=h2 C
  unfold dF cy
  rw [length_map,length_append,length_map]
  omega
 have ne:1<=(dF v p C).length:=by
  obtain ⟨k,hk⟩:=j6 hv p0 p1 (q:=0) (by decide) (by omega) (by decide)
  have hs:=(cF.mp hk).2.2.2
  have:∃r,r∈dF v p C:=by
   by_cases z:k∈C
   ·exact ⟨_,fJ.mpr (.inr (.inr ⟨k,z,rfl⟩))⟩
   ·exact ⟨_,fJ.mpr (.inl ⟨k,c4.mpr ⟨by rw [hs];exact hk,z⟩,rfl⟩)⟩
  obtain ⟨r,hr⟩:=this
  exact length_pos_of_mem hr
 refine ⟨⟨rfl,λi m hi=>?_,λr hr=>?_,λi i0 i1=>?_⟩,⟨Nat.le_refl _,by show 1<=4;decide⟩,⟨ne,len⟩,λm hm=>?_⟩
 ·match i,hi with
  | 0,hi=>
    have em:v.1.getD p.toNat 0=m:=by simpa [eI] using hi
    rw [← em]
    refine ⟨_,M,λa b=>?_⟩
    rw [mem_map]
    constructor
    ·rintro ⟨r,hr,_,rfl,rfl⟩;exact ⟨r,hr,rfl⟩
    ·rintro ⟨r,hr,e⟩;exact ⟨r,hr,(part0 r hr).1,congrArg Prod.fst e,congrArg Prod.snd e⟩
  | i + 1,hi=>simp [eI] at hi
 ·obtain ⟨a,b⟩:=part0 r hr
  exact ⟨by omega,by rw [a];show (0:Int) < 1;decide,.inl b⟩
 ·have:i < 1:=i1
  omega
 ·have:m=v.1.getD p.toNat 0:=by simpa [eI] using hm
  rw [this];exact nb
end
theorem nA {c:List Int}{k:Int}:k∈fj c↔k∈c:=by unfold fj;exact List.mem_mergeSort
theorem kN {c:List Int}(h:c.Nodup):(fj c).Nodup:=by unfold fj;exact (List.mergeSort_perm c _).nodup_iff.mpr h
end K1
namespace Fc
open PySem PySem.Spec L2
open PyProof.Rows hiding St
section
variable {X:Cx}{Γ Γ1 Γ2 Γ3:Ga}{α β γ δ:Type}{N:Ga->Prop}{T:RT}
theorem iE {S:bX}{x:Str}{k:Nat}{e:Expr}{es:List Expr}{p pos:Pos}{ps:List Pk}{r:aD α}{Pd:List α->Prop}{ys:List α}(C:ay X.prog X.w X.K X.mg X.base x k (aF S X.K))(hr:bU k X.A)(ha:HA X (e::es) Γ ps Γ1)(hS:S X.K ps (fR X.K r Pd))(hq:∀zs,Pd zs->zs=ys)
 (hg:Gl X x:=by rfl) (hdb:Dg0 x:=by decide) (he:starEach (e::es) X.env=(false,eval e X.env)::starEach es X.env:=by rfl) (hpl:(backTo pos (starEach es X.env)).any (·.1)=false:=by rfl):aY X (.Call (.Name x p) (e::es) [] pos) Γ r ys Γ1:=λσ H0 R0 H R E Q q=>
 d4 C hr ha hS E (λH1 R1 v H' R' E1 s1 xx t=>by
  obtain ⟨a,vs,zs,rfl,h0,h1,h2,p,z,hz⟩:=t
  have:=hq zs hz
  subst this
  exact q a vs H' R' (E1.grow xx) (s1.trans xx.r) h1 h2 (E1.ext.h.free h0) (E1.off h0) p z) hg hdb he hpl
end
end Fc
namespace K1
open PySem L2 Fc
open PySem.Spec hiding Row
open PyProof.Rows hiding St
open PySem.Builtin.Int (intBits)
theorem Dw {v:aw}(hv:aQ v){p:Int}(hn:v.1.getD p.toNat 0<=16):∀(n:Nat) (ks:List Int) (st:List Int) (q:Int) (l c:List Int),(∀k∈ks,∃q,k∈fromF v p q)->oI (λ_=>1) 16 l (st++[q])<=n->∃l' c',Go v p st q ks l c l' c':=by
 intro n
 induction n with
 | zero=>
   intro ks
   induction ks with
   | nil=>exact λst q l c _ _=>⟨_,_,.done⟩
   | cons k ks ih=>
     intro st q l c hk hw
     by_cases a:dst v k∈st++[q]
     ·obtain ⟨l',c',h⟩:=ih st q l (c++[k]) (λj hj=>hk j (mem_cons_of_mem _ hj)) hw
      exact ⟨l',c',.cut a h⟩
     ·by_cases b:dst v k∈l
      ·obtain ⟨l',c',h⟩:=ih st q l c (λj hj=>hk j (mem_cons_of_mem _ hj)) hw
       exact ⟨l',c',.look a b h⟩
      ·obtain ⟨q',hq'⟩:=hk k mem_cons_self
       obtain ⟨_,_,g0,g1⟩:=lq hv hq'
       have:=pF (w:=λ_=>1) (n:=16) (l:=l) (st:=st++[q]) (g:=dst v k) g0 (by omega) b a
       omega
 | succ n ihn=>
   intro ks
   induction ks with
   | nil=>exact λst q l c _ _=>⟨_,_,.done⟩
   | cons k ks ih=>
     intro st q l c hk hw
     by_cases a:dst v k∈st++[q]
     ·obtain ⟨l',c',h⟩:=ih st q l (c++[k]) (λj hj=>hk j (mem_cons_of_mem _ hj)) hw
      exact ⟨l',c',.cut a h⟩
     ·by_cases b:dst v k∈l
      ·obtain ⟨l',c',h⟩:=ih st q l c (λj hj=>hk j (mem_cons_of_mem _ hj)) hw
       exact ⟨l',c',.look a b h⟩
      ·obtain ⟨q',hq'⟩:=hk k mem_cons_self
       obtain ⟨_,_,g0,g1⟩:=lq hv hq'
       have:=pF (w:=λ_=>1) (n:=16) (l:=l) (st:=st++[q]) (g:=dst v k) g0 (by omega) b a
       obtain ⟨l1,c1,h1⟩:=ihn (fromF v p (dst v k)) (st++[q]) (dst v k) l c (λj hj=>⟨_,hj⟩) (by omega)
       obtain ⟨l',c',h2⟩:=ih st q l1 c1 (λj hj=>hk j (mem_cons_of_mem _ hj)) (Nat.le_trans (vC h1.sub.1) hw)
       exact ⟨l',c',.down a b h1 h2⟩
theorem zL {v:aw}(hv:aQ v){p:Int}(p0:0<=p)(p1:p < (v.1.length:Int)):∃c,∃l,Go v p [] 0 (fromF v p 0) [] [] l c:=by
 have nb:=hv.sz (v.1.getD p.toNat 0) (by rw [getD_eq_getElem?_getD,getElem?_eq_getElem (by omega)];exact getElem_mem _)
 obtain ⟨l,c,h⟩:=Dw hv nb.2 _ (fromF v p 0) [] 0 [] [] (λk hk=>⟨_,hk⟩) (Nat.le_refl _)
 exact ⟨c,l,h⟩
open Classical in
noncomputable def cutC (v:aw)(p:Int):List Int:=if h:∃c,∃l,Go v p [] 0 (fromF v p 0) [] [] l c then fj (Classical.choose h) else []
section
variable {v:aw}{p:Int}
theorem ki {l c:List Int}(h:Go v p [] 0 (fromF v p 0) [] [] l c):fj c=cutC v p:=by
 have he:∃c,∃l,Go v p [] 0 (fromF v p 0) [] [] l c:=⟨c,l,h⟩
 unfold cutC
 rw [dif_pos he]
 obtain ⟨l2,h2⟩:=Classical.choose_spec he
 rw [(h.det h2).2]
theorem gA (hv:aQ v)(p0:0<=p)(p1:p < (v.1.length:Int)):∃l c,mH v p l c/\(∀k,k∈cutC v p↔k∈c)/\(cutC v p).Nodup/\(cutC v p).length<=60:=by
 obtain ⟨c,l,h⟩:=zL hv p0 p1
 have g:=y3 hv p0 p1 h
 rw [← ki h]
 refine ⟨l,c,g,λk=>nA,kN g.nd,?_⟩
 have rl:=hv.rl
 have:=eK (xs:=fj c) (ys:=ups 0 v.2.length) (kN g.nd) λk hk=>by
  have:=cF.mp (g.own k (nA.mp hk))
  exact bq.mpr ⟨this.1,this.2.1⟩
 rw [aC] at this
 omega
theorem qO (hv:aQ v)(p0:0<=p)(p1:p < (v.1.length:Int)){k:Int}(hk:k∈cutC v p):0<=k/\k < (v.2.length:Int):=by
 obtain ⟨l,c,g,hc,_⟩:=gA hv p0 p1
 have:=cF.mp (g.own k ((hc k).mp hk))
 exact ⟨this.1,this.2.1⟩
theorem yW (v:aw):nums v.2=(ups 0 v.2.length).map λk=>(k,rowOf v k):=by
 apply ext_getElem?
 intro i
 by_cases hi:i < v.2.length
 ·have h1:i < (nums v.2).length:=by rw [dw];exact hi
  obtain ⟨y,hy⟩:∃y,(nums v.2)[i]?=some y:=⟨_,getElem?_eq_getElem h1⟩
  obtain ⟨e1,e2⟩:=hU hy
  rw [hy,getElem?_map,g8 hi]
  have er:rowOf v (i:Int)=y.2:=by unfold rowOf;rw [getD_eq_getElem?_getD,show ((i:Int)).toNat=i by omega,e2];rfl
  show some y=some ((i:Int),rowOf v (i:Int))
  rw [er,← e1]
 ·rw [getElem?_eq_none (by rw [dw];omega),getElem?_eq_none (by rw [length_map,aC];omega)]
theorem zl (v:aw)(p:Int)(C:List Int):((nums v.2).filter λx:Int×Row=>decide (x.2.1=p)&& !decide (x.1∈C)).map (λx=>x.1)=bP v p C:=by
 rw [yW,List.filter_map,map_map]
 unfold bP
 exact map_id _
theorem mL {C:List Int}(rl:v.2.length<=60)(hc:C.length<=60):(cy v p C).length<=180:=by
 unfold cy
 rw [length_append,length_map]
 have h1:(bP v p C).length<=60:=by
  unfold bP
  refine Nat.le_trans (length_filter_le _ _) ?_
  rw [aC];exact rl
 have h2:∀xs:List Int,(xs.flatMap (cU v)).length<=2 * xs.length:=by
  intro xs
  induction xs with
  | nil=>simp
  | cons a xs ih=>
    rw [flatMap_cons,length_append,length_cons]
    have:(cU v a).length<=2:=by unfold cU;split<;>simp
    omega
 have:=h2 C
 omega
end
section
variable {P:Program}{w:World}{K:PySem.W.Frag}{mg:Str->Option Value}{base:Heap}{f:Addr}{fd:FuncData}
abbrev qz:Stmt:=top pY
abbrev AY:List Str:=["web","part","found","kept","told","number"]
theorem zW:aB AY ["web","part"] (ah qz):=fS0
def xw:bX:=λK ps T=>∃(v:aw) (p:Int),ps=[⟨bO,v⟩,⟨ae,p⟩]/\aQ v/\0<=p/\p < (v.1.length:Int)/\T=fR K ic (· =cy v p (cutC v p))
theorem Cg (M:bN mg)(CC:ay P w K mg base "cuts" 8 (aF xZ K))(F:bI K "laid_out" "laid_out" qz f fd)(hm:mg "laid_out"=some (.ref f))(hb:Binds K fd ["web","part"] []):ay P w K mg base "laid_out" 9 (aF xw K):=by
 have nd:=zW.nd
 have nd1:List.Nodup [("number":Str),"row","found","part"]:=by decide
 have nd2:List.Nodup [("number":Str),"web"]:=by decide
 obtain ⟨t1,hB⟩:=M.begin_
 obtain ⟨t2,hEND⟩:=M.end_
 refine bG F zW hm hb (λqs T ⟨_,_,e,_⟩=>by rw [e];rfl) (λcdv A outer s H E qs T hr hS=>?_)
 obtain ⟨v,p,rfl,hv,p0,p1,rfl⟩:=hS
 have rl:=hv.rl
 obtain ⟨lx,cx,g,hC,hnd,hlen⟩:=gA hv p0 p1
 have ll:=mL (p:=p) rl.2 hlen
 have hrow:∀k,0<=k/\k < (v.2.length:Int)->cN v.2 k=some (rowOf v k):=λk hk=>bJ bM hk.1 hk.2
 change WS _ _ [.im (av (af ae) (af ax)) v,.im ae p,.no,.no,.no,.no] _ _
 refine ai (bg 2 (aY.im (iE (ys:=cutC v p) CC hr (ag (aa 0 rfl) (ag (aa 1 rfl) aq)) ⟨v,p,rfl,hv,p0,p1,rfl⟩ λzs ⟨l,c,h,e⟩=>by rw [e];exact ki h)) ?_)
 refine ai (ir 3 (own:=["number","row"]) (fr:=["found","part"]) (ix:=[2,1]) (ra:=av ae ax) (rb:=ae) (p:=λx:Int×Row=>decide (x.2.1=p)&& !decide (x.1∈cutC v p)) (f:=λx=>x.1) (bj (so:=ah qz) (N0:=AY) rfl rfl (λx h=>aT h) (by decide +kernel)) (iQ M.enumerate (bb (aa 0 rfl)))
  (λC s H ex=>fG 0 1) (λx=>⟨.inr rfl,.inr rfl,.inl rfl,.inl rfl,trivial⟩) (λC s H ex x hx=>fU (TW.tv (dN (bc e6 (eU (aa 1 rfl)) (aa 3 rfl)) (λ_=>g5 (bc y6 (aa 0 rfl) (aa 2 rfl)))))) (λC s H ex x hx _=>aa 0 rfl) ?_)
 rw [zl v p (cutC v p)]
 refine WS.freeze 3 rfl (aI (by
  have h1:(bP v p (cutC v p)).length<=60:=by
   unfold bP
   refine Nat.le_trans (length_filter_le _ _) ?_
   rw [aC];exact rl.2
  omega)) ?_
 change WS _ _ [.im (av (af ae) (af ax)) v,.im ae p,.im (af ae) (cutC v p),.im (af ae) (bP v p (cutC v p)),.no,.no] _ _
 have kb:∀k∈bP v p (cutC v p),0<=k/\k < (v.2.length:Int):=λk hk=>bq.mp (mem_filter.mp hk).1
 refine ai (ir 4 (own:=["number"]) (fr:=["web"]) (ix:=[0]) (ra:=ae) (rb:=ic) (p:=λ_=>true) (f:=λk=>(src v k,dst v k,k,true)) (bj (so:=ah qz) (N0:=AY) rfl rfl (λx h=>aT h) (by decide +kernel)) (aR (aa 3 rfl))
  (λC s H ex=>aG 0) (λx=>⟨.inr rfl,.inl rfl,trivial⟩) (λC s H ex x hx=>cf) (λC s H ex x hx _=>lL (ag (dk (aJ (bb (aa 1 rfl)) (aa 0 rfl) (hrow x (kb x hx)))) (ag (cA (aJ (bb (aa 1 rfl)) (aa 0 rfl) (hrow x (kb x hx)))) (ag (aa 0 rfl) (ag cP aq))))) ?_)
 have e0:((bP v p (cutC v p)).filter λ_=>true).map (λk=>((src v k,dst v k,k,true):eW))=((bP v p (cutC v p)).map λk=>((src v k,dst v k,k,true):eW))++((cutC v p).take 0).flatMap (cU v):=by rw [filter_eq_self.mpr (by simp)];simp
 have tl:∀i,(((bP v p (cutC v p)).map λk=>((src v k,dst v k,k,true):eW))++((cutC v p).take i).flatMap (cU v)).length<=180:=λi=>by
  have h1:(bP v p (cutC v p)).length<=60:=by
   unfold bP
   refine Nat.le_trans (length_filter_le _ _) ?_
   rw [aC];exact rl.2
  have h2:∀xs:List Int,(xs.flatMap (cU v)).length<=2 * xs.length:=by
   intro xs
   induction xs with
   | nil=>simp
   | cons a xs ih=>
     rw [flatMap_cons,length_append,length_cons]
     have:(cU v a).length<=2:=by unfold cU;split<;>simp
     omega
  have:=h2 ((cutC v p).take i)
  rw [length_take] at this
  rw [length_append,length_map]
  omega
 refine ai (cv (r:=ae) (λi Γ=>∃v5,Γ=[.im (av (af ae) (af ax)) v,.im ae p,.im (af ae) (cutC v p),.im (af ae) (bP v p (cutC v p)),.mu ic (((bP v p (cutC v p)).map λk=>((src v k,dst v k,k,true):eW))++((cutC v p).take i).flatMap (cU v)),v5])
  (aR (aa 2 rfl)) (aG 5) ⟨_,by rw [← e0];rfl⟩ ?_ ?_)
 ·rintro i k Γ hk ⟨v5,rfl⟩
  have kb:=qO hv p0 p1 (mem_of_getElem? hk)
  have tk:(cutC v p).take (i + 1)=(cutC v p).take i++[k]:=by rw [take_succ,hk];rfl
  have t1:=tl i
  have tn:((cutC v p).take (i + 1)).flatMap (cU v)=((cutC v p).take i).flatMap (cU v)++cU v k:=by rw [tk,flatMap_append];simp
  refine ai (bL (bc jt (cA (aJ (bb (aa 0 rfl)) (aa 5 rfl) (hrow k kb))) (bE hB)) (λh=>?_) (λh=>bu ?_))
  ·have h:dst v k≠0:=by
    intro z
    have z:(rowOf v k).2.2.1=0:=z
    rw [z] at h
    exact absurd h (by decide)
   refine ak (cS 4 (lL (ag (bE hB) (ag (cA (aJ (bb (aa 0 rfl)) (aa 5 rfl) (hrow k kb))) (ag (aa 5 rfl) (ag cP aq))))) rfl rfl (Nat.lt_of_le_of_lt (show _<=1000 by omega) (by decide)) ?_)
   refine ak (cS 4 (lL (ag (dk (aJ (bb (aa 0 rfl)) (aa 5 rfl) (hrow k kb))) (ag (bE hEND) (ag (aa 5 rfl) (ag cP aq))))) rfl rfl (Nat.lt_of_le_of_lt (show _<=1000 by rw [length_append,length_singleton];omega) (by decide)) ?_)
   refine ⟨.im ae k,?_⟩
   have ec:cU v k=[((0:Int),dst v k,k,false)]++[(src v k,(1:Int),k,true)]:=by unfold cU;rw [if_neg h]
   rw [tn,ec,← append_assoc,← append_assoc]
   rfl
  ·have h:dst v k=0:=by
    have:=of_decide_eq_true (by simpa using h:decide ((rowOf v k).2.2.1=0)=true)
    exact this
   refine ak (cS 4 (lL (ag (dk (aJ (bb (aa 0 rfl)) (aa 5 rfl) (hrow k kb))) (ag (bE hEND) (ag (aa 5 rfl) (ag cP aq))))) rfl rfl (Nat.lt_of_le_of_lt (show _<=1000 by omega) (by decide)) ?_)
   refine ⟨.im ae k,?_⟩
   have ec:cU v k=[(src v k,(1:Int),k,true)]:=by unfold cU;rw [if_pos h];rfl
   rw [tn,ec,← append_assoc]
   rfl
 ·rintro Γ ⟨v5,rfl⟩
  rw [take_length]
  exact ak (g9 4 rfl (aI (by have:=ll;unfold cy at this;omega)) rfl)
abbrev vj:Stmt:=top mm
abbrev Ef:List Str:=["web","part","rows"]
theorem AK:aB Ef ["web","part"] (ah vj):=fS0
def Bf (fr:Bool):bX:=λK ps T=>∃(v:aw) (p:Int),ps=[⟨bO,v⟩,⟨ae,p⟩]/\aQ v/\0<=p/\p < (v.1.length:Int)/\T=if fr=true then bR K bO (· =eI v p (cutC v p)) else zr K λxs rs=>(xs,rs)=eI v p (cutC v p)
theorem Dz (fr:Bool)(M:bN mg)(CY:ay P w K mg base "laid_out" 9 (aF xw K))(F:bI K "stretch_web" "stretch_web" vj f fd)(hm:mg "stretch_web"=some (.ref f))(hb:Binds K fd ["web","part"] []):ay P w K mg base "stretch_web" 10 (aF (Bf fr) K):=by
 have nd:=AK.nd
 have nd1:List.Nodup [("start":Str),"to","number","goes"]:=by decide
 obtain ⟨t1,hFP⟩:=M.firstPart
 obtain ⟨t2,hNC⟩:=M.noCall
 refine bG F AK hm hb (λqs T ⟨_,_,e,_⟩=>by rw [e];rfl) (λcdv A outer s H E qs T hr hS=>?_)
 obtain ⟨v,p,rfl,hv,p0,p1,rfl⟩:=hS
 have rl:=hv.rl
 obtain ⟨lx,cx,g,hC,hnd,hlen⟩:=gA hv p0 p1
 have ll:=mL (p:=p) rl.2 hlen
 change WS _ _ [.im (av (af ae) (af ax)) v,.im ae p,.no] _ _
 refine ai (ir 2 (own:=["start","to","number","goes"]) (fr:=[]) (ix:=[]) (ra:=ic) (rb:=ax) (p:=λ_=>true) (f:=λx:eW=>(((0:Int),x.1,x.2.1,(-1:Int)):Row)) (bj (so:=ah vj) (N0:=Ef) rfl rfl (λx h=>aT h) (by decide +kernel)) (aR (aY.im (cT CY hr (ag (aa 0 rfl) (ag (aa 1 rfl) aq)) ⟨v,p,rfl,hv,p0,p1,rfl⟩)))
  (λC s H ex=>Ao 0 1 2 3) (λx=>⟨.inr rfl,.inr rfl,.inr rfl,.inr rfl,trivial⟩) (λC s H ex x hx=>cf) (λC s H ex x hx _=>AL (ag (bE hFP) (ag (aa 0 rfl) (ag (aa 1 rfl) (ag (bE hNC) aq))))) ?_)
 have e0:((cy v p (cutC v p)).filter λ_=>true).map (λx:eW=>(((0:Int),x.1,x.2.1,(-1:Int)):Row))=dF v p (cutC v p):=by rw [filter_eq_self.mpr (by simp)];rfl
 rw [e0]
 have sl:(dF v p (cutC v p)).length<=180:=by unfold dF;rw [length_map];exact ll
 cases fr with
 | true=>exact ak (bK (dj (ag (aY.im (aO (aN (aJ (d5 (aa 0 rfl)) (aa 1 rfl) (cw p0 p1)) bh) (by show 1<=sizeLine;decide))) (ag (fM 2 rfl (aI (by omega))) aq))) rfl)
 | false=>exact ak (yL 2 (aO (aN (aJ (d5 (aa 0 rfl)) (aa 1 rfl) (cw p0 p1)) bh) (by show 1<=sizeLine;decide)) rfl rfl)
end
end K1
namespace Fc
open PySem PySem.Spec L2
open PyProof.Rows hiding St
theorem fV {α:Type}{xs:List α}(h:xs≠[]):xs.dropLast++[xs.getLast h]=xs:=dropLast_concat_getLast h
section
variable {X:Cx}{Γ Γ1 Γ2 Γ3:Ga}{α β γ δ:Type}{N:Ga->Prop}{T:RT}
end
section
variable {P:Program}{w:World}{K:PySem.W.Frag}{mg:Str->Option Value}{base:Heap}{α:Type}
theorem ym {r:aD α}{S:sP α}{x qual:Str}{st:Stmt}{f:Addr}{fd:FuncData}{N ps:List Str}{k:Nat}(F:bI K x qual st f fd)(Sc:aB N ps (ah st))(hm:mg x=some (.ref f))(hb:Binds K fd ps [])(len:∀xs qs T,S K xs qs T->qs.length + 1=ps.length)
 (hbody:∀(cdv:Value) (A:Around) (outer:List Env) (s:Shared) (H:Hp) (E:XK) (a:Addr) (xs:List α) (qs:List Pk) (T:List α->RT),bU k (A.deeper (envOfC qual (ah st) s.heap.objs.size f cdv))->S K xs qs T->
  WS (eh eX P w K mg base N qual (ah st) f cdv A outer s H E).gN (cg st) (.ob (dQ a r xs)::dh qs (N.length - 1)) (λΓ=>∃xs',Γ[0]?=some (.ob (dQ a r xs'))/\∀H0 H' R',T xs' H0 .non H' R') (EB K a r T)):ay P w K mg base x (k + 1) (tQ r S K):=by
 refine ⟨f,fd,ps,?_,hm,F.kp,hb⟩
 refine F.ok Sc (λvs H Q E h=>?_) (λcdv A outer s H vs Q E hr h=>?_)
 ·obtain ⟨R,a,ws,xs,vs',qs,T,rfl,_,_,_,_,p,hS,_⟩:=h
  rw [length_cons,p.length];exact len xs qs T hS
 ·obtain ⟨R,a,ws,xs,vs',qs,T,rfl,sR,hR,ha,pp,p,hS,q⟩:=h
  have hl:qs.length + 1<=N.length:=by
   rw [len xs qs T hS]
   have:=congrArg List.length Sc.pre
   rw [length_take] at this
   omega
  refine ⟨_,fB,hbody cdv A outer s H E a xs qs T hr hS (L2.start N (.ref a::vs')) (del H a) R H R (sG sR hR ha pp p hl) {nx:=λ_ H'=>Q .non H',rt:=Q} (λσ' H' R' Γ' E' _ ⟨xs',hΓ,t⟩=>?_) λv H' R' xx t=>?_⟩
  ·obtain ⟨ea,⟨ws',ha',pp'⟩,hR'⟩:=gk (E'.ent 0 _ hΓ)
   exact q .non H' R' ws' xs' E'.ext ha' hR' pp' (t _ _ _)
  ·obtain ⟨ws',xs',h1,h2,h3,h4⟩:=t
   exact q v H' R' ws' xs' xx h1 h2 h3 h4
end
end Fc
namespace K1
open PySem L2 Fc
open PySem.Spec hiding Row
open PyProof.Rows hiding St
open PySem.Builtin.Int (intBits)
section
variable {v:aw}
abbrev df:=List (Int×Int)
def trim (st:df):df:=(st.reverse.dropWhile λt=>decide (t.2=1)).reverse
def push (v:aw)(st:df)(k:Int):df:=if 0<=(rowOf v k).2.2.2 then (st.dropLast++[((rowOf v k).1,(rowOf v k).2.2.1)])++[((rowOf v k).2.2.2,0)] else st.dropLast++[((rowOf v k).1,(rowOf v k).2.2.1)]
def f9 (v:aw)(st:df)(k:Int):df:=trim (push v st k)
theorem pf:trim []=[]:=rfl
theorem kZ {st:df}(h:st≠[])(e:(st.getLast h).2=1):trim st=trim st.dropLast:=by
 have e1:st.reverse=st.getLast h::st.dropLast.reverse:=by
  have:=congrArg List.reverse (fV h)
  rw [← this];simp
 unfold trim
 rw [e1,List.dropWhile_cons,if_pos (decide_eq_true e)]
theorem jI {st:df}(h:st≠[])(e:(st.getLast h).2≠1):trim st=st:=by
 have e1:st.reverse=st.getLast h::st.dropLast.reverse:=by
  have:=congrArg List.reverse (fV h)
  rw [← this];simp
 unfold trim
 rw [e1,List.dropWhile_cons,if_neg (by simpa using e),← e1,List.reverse_reverse]
structure nc (v:aw) (st:df) (k:Int):Prop where
 k0:0<=k
 k1:k < (v.2.length:Int)
 ne:st≠[]
 at_:st.getLast ne=((rowOf v k).1,(rowOf v k).2.1)
inductive Goes (v:aw):List Int->df->Prop
 | nil:Goes v [] [(0,0)]
 | snoc {rows:List Int} {st:df} {k:Int}:Goes v rows st->nc v st k->Goes v (rows++[k]) (f9 v st k)
structure mq (v:aw) (st:df):Prop where
 bd:∀t∈st,0<=t.1/\t.1 < (v.1.length:Int)/\0<=t.2/\t.2 < v.1.getD t.1.toNat 0
 up:st.Pairwise λa b=>a.1 < b.1
 top:∀h:st≠[],(st.getLast h).2≠1
theorem pH:∀(n:Nat) (st:df),st.length=n->∃s',st=trim st++s'/\(∀t∈s',t.2=1)/\∀h:trim st≠[],((trim st).getLast h).2≠1
 | 0,st,hn=>by
   have:st=[]:=List.length_eq_zero_iff.mp hn
   subst this
   rw [pf]
   exact ⟨[],rfl,by simp,λh=>absurd rfl h⟩
 | n + 1,st,hn=>by
   have hne:st≠[]:=λe=>by rw [e] at hn;simp at hn
   by_cases e:(st.getLast hne).2=1
   ·obtain ⟨s',h1,h2,h3⟩:=pH n st.dropLast (by rw [length_dropLast,hn];rfl)
    rw [kZ hne e]
    refine ⟨s'++[st.getLast hne],?_,λt ht=>?_,h3⟩
    ·rw [← append_assoc,← h1];exact (fV hne).symm
    ·rcases mem_append.mp ht with q | q
     ·exact h2 t q
     ·rw [mem_singleton.mp q];exact e
   ·rw [jI hne e]
    exact ⟨[],by simp,by simp,λ_=>e⟩
theorem mq.behind (hv:aQ v){st:df}(h:mq v st){k:Int}(c:nc v st k):mq v (f9 v st k):=by
 have hrm:rowOf v k∈v.2:=by
  unfold rowOf
  have k0:=c.k0;have k1:=c.k1
  rw [getD_eq_getElem?_getD,getElem?_eq_getElem (by omega)]
  exact getElem_mem _
 have q:=hv.cL hrm
 have sp:st=st.dropLast++[((rowOf v k).1,(rowOf v k).2.1)]:=by rw [← c.at_];exact (fV c.ne).symm
 generalize hr:rowOf v k=r at *
 have pd:st.dropLast.Pairwise λa b=>a.1 < b.1:=by
  have:=h.up;rw [sp] at this;exact (pairwise_append.mp this).1
 have lt:∀a∈st.dropLast,a.1 < r.1:=λa ha=>by
  have:=h.up;rw [sp] at this
  exact (pairwise_append.mp this).2.2 a ha _ (mem_singleton.mpr rfl)
 have bd':∀t∈push v st k,0<=t.1/\t.1 < (v.1.length:Int)/\0<=t.2/\t.2 < v.1.getD t.1.toNat 0:=by
  intro t ht
  have old:∀t∈st.dropLast++[(r.1,r.2.2.1)],0<=t.1/\t.1 < (v.1.length:Int)/\0<=t.2/\t.2 < v.1.getD t.1.toNat 0:=λt ht=>by
   rcases mem_append.mp ht with z | z
   ·exact h.bd t (List.dropLast_subset _ z)
   ·rw [mem_singleton.mp z];exact ⟨q.p0,q.p1,q.e0,q.en⟩
  unfold push at ht
  rw [hr] at ht
  split at ht
  ·rename_i hc
   rcases mem_append.mp ht with z | z
   ·exact old t z
   ·rw [mem_singleton.mp z]
    have c1:=q.c1
    refine ⟨hc,c1,Int.le_refl _,?_⟩
    show (0:Int) < v.1.getD r.2.2.2.toNat 0
    have:v.1.getD r.2.2.2.toNat 0∈v.1:=by
     rw [getD_eq_getElem?_getD,getElem?_eq_getElem (by omega)];exact getElem_mem _
    have:=hv.sz _ this
    omega
  ·exact old t ht
 have up':(push v st k).Pairwise λa b=>a.1 < b.1:=by
  have old:(st.dropLast++[(r.1,r.2.2.1)]).Pairwise λa b=>a.1 < b.1:=pairwise_append.mpr ⟨pd,pairwise_singleton _ _,λa ha b hb=>by rw [mem_singleton.mp hb];exact lt a ha⟩
  unfold push
  rw [hr]
  split
  ·rename_i hc
   refine pairwise_append.mpr ⟨old,pairwise_singleton _ _,λa ha b hb=>?_⟩
   rw [mem_singleton.mp hb]
   have cp:=q.cp
   have rc:r.1 < r.2.2.2:=by omega
   rcases mem_append.mp ha with z | z
   ·have:=lt a z;show a.1 < r.2.2.2;omega
   ·rw [mem_singleton.mp z];exact rc
  ·exact old
 obtain ⟨s',h1,h2,h3⟩:=pH _ (push v st k) rfl
 refine ⟨λt ht=>bd' t (by rw [h1];exact mem_append_left _ ht),?_,h3⟩
 rw [h1] at up'
 exact (pairwise_append.mp up').1
theorem Goes.good (hv:aQ v){rows:List Int}{st:df}(h:Goes v rows st):mq v st:=by
 induction h with
 | nil=>
   have pl:=hv.pl
   refine ⟨λt ht=>?_,pairwise_singleton _ _,λh=>by simp⟩
   rw [mem_singleton.mp ht]
   have:v.1.getD 0 0∈v.1:=by
    rw [getD_eq_getElem?_getD,getElem?_eq_getElem (by omega)];exact getElem_mem _
   have:=hv.sz _ this
   exact ⟨Int.le_refl _,by show (0:Int) < _;omega,Int.le_refl _,by show (0:Int) < v.1.getD 0 0;omega⟩
 | snoc _ c ih=>exact ih.behind hv c
theorem mq.len (hv:aQ v){st:df}(h:mq v st):st.length<=4:=by
 have nd:(st.map (·.1)).Nodup:=by
  have:=h.up
  rw [List.Nodup,List.pairwise_map]
  exact this.imp λhh=>by omega
 have:=eK nd (ys:=ups 0 v.1.length) λx hx=>by
  obtain ⟨t,ht,rfl⟩:=mem_map.mp hx
  have:=h.bd t ht
  exact bq.mpr (by omega)
 rw [aC,length_map] at this
 have:=hv.pl
 omega
open Classical in
noncomputable def eZ (v:aw):df->List Int->Option df
 | st,[]=>some st
 | st,k::ks=>if nc v st k then eZ v (f9 v st k) ks else none
end
section
variable {P:Program}{w:World}{K:PySem.W.Frag}{mg:Str->Option Value}{base:Heap}{f:Addr}{fd:FuncData}
abbrev xN:Stmt:=top pS
theorem BB:aB ["part"] ["part"] (ah xN):=fS0
def Bn:bX:=λK ps T=>∃p:Int,ps=[⟨ae,p⟩]/\T=bR K dE (· =(p,0))
theorem Cb (M:bN mg)(F:bI K "at_begin" "at_begin" xN f fd)(hm:mg "at_begin"=some (.ref f))(hb:Binds K fd ["part"] []):ay P w K mg base "at_begin" 1 (aF Bn K):=by
 have nd:=BB.nd
 obtain ⟨t1,hB⟩:=M.begin_
 refine bG F BB hm hb (λqs T ⟨_,e,_⟩=>by rw [e];rfl) (λcdv A outer s H E qs T hr hS=>?_)
 obtain ⟨p,rfl,rfl⟩:=hS
 change WS _ _ [.im ae p] _ _
 exact ak (bK (dj (ag (aa 0 rfl) (ag (bE hB) aq))) rfl)
open Classical in
noncomputable def mJ (v:aw)(st:df)(k:Int):Bool:=decide (nc v st k)
def SCG:bX:=λK ps T=>∃(v:aw) (st:df) (k:Int),ps=[⟨bO,v⟩,⟨af dE,st⟩,⟨ae,k⟩]/\T=bR K aW (· =mJ v st k)
theorem qP {st:df}(h:st≠[]):st[st.length - 1]?=some (st.getLast h):=by rw [List.getLast_eq_getElem];exact getElem?_eq_getElem _
open Classical in
theorem D5 (CI:ay P w K mg base "is_row" 2 (aF Bh K))(F:bI K "can_go" "can_go" qL f fd)(hm:mg "can_go"=some (.ref f))(hb:Binds K fd ["web","stack","number"] []):ay P w K mg base "can_go" 3 (aF SCG K):=by
 have nd:=sL.nd
 refine bG F sL hm hb (λqs T ⟨_,_,_,e,_⟩=>by rw [e];rfl) (λcdv A outer s H E qs T hr hS=>?_)
 obtain ⟨v,st,k,rfl,rfl⟩:=hS
 have hu:=xB hr
 change WS _ _ [.im (av (af ae) (af ax)) v,.im (af dE) st,.im ae k,.no] _ _
 refine ai (bL (TW.tv (jh (bY (yd 1 rfl)) λa1=>ig (bY (bV (bA CI hr (ag (aa 0 rfl) (ag (aa 2 rfl) aq)) ⟨v,k,rfl,rfl⟩))))) (λh=>?_) (λh=>bu ?_))
 ·refine ak (bK cP ?_)
  symm
  unfold mJ
  refine decide_eq_false λc=>?_
  have k0:=c.k0;have k1:=c.k1;have ne:=c.ne
  have ne':st.isEmpty=false:=by cases st with
   | nil=>exact absurd rfl ne
   | cons a b=>rfl
  rw [ne'] at h
  simp at h
  omega
 ·have ne:st≠[]:=λe=>by rw [e] at h;simp at h
  have ne':st.isEmpty=false:=by cases st with
   | nil=>exact absurd rfl ne
   | cons a b=>rfl
  rw [ne'] at h
  simp at h
  obtain ⟨k0,k1⟩:=h
  have hk:cN v.2 k=some (rowOf v k):=bJ bM k0 k1
  refine ai (bg 3 (aJ (bb (aa 0 rfl)) (aa 2 rfl) hk) ?_)
  refine ak (bK (d9 (rS eq_int eq_int hu hu) (dj (ag (eU (aa 3 rfl)) (ag (dk (aa 3 rfl)) aq))) (aJ (aa 1 rfl) (dt ar) (dB (qP ne)))) ?_)
  unfold mJ
  rw [Bool.eq_iff_iff,decide_eq_true_iff,decide_eq_true_iff]
  exact ⟨λe=>⟨k0,k1,ne,e.symm⟩,λc=>c.at_.symm⟩
abbrev p6:Stmt:=top Dj
theorem Bx:aB ["stack","row"] ["stack","row"] (ah p6):=fS0
def kQ (st:df)(r:Row):df:=trim (if r.2.2.2= -1 then st.set (st.length - 1) (r.1,r.2.2.1) else st.set (st.length - 1) (r.1,r.2.2.1)++[(r.2.2.2,0)])
def EI:sP (Int×Int):=λK xs ps T=>∃r:Row,ps=[⟨ax,r⟩]/\xs≠[]/\xs.length<=1000/\T=λxs'=>bR K gK λz=>xs'=kQ xs r/\z=()
theorem Ds (M:bN mg)(CA:ay P w K mg base "at_begin" 1 (aF Bn K))(F:bI K "go" "go" p6 f fd)(hm:mg "go"=some (.ref f))(hb:Binds K fd ["stack","row"] []):ay P w K mg base "go" 2 (tQ dE EI K):=by
 have nd:=Bx.nd
 obtain ⟨t1,hNC⟩:=M.noCall
 obtain ⟨t2,hEND⟩:=M.end_
 refine ym F Bx hm hb (λxs qs T ⟨_,e,_⟩=>by rw [e];rfl) (λcdv A outer s H E a xs qs T hr hS=>?_)
 obtain ⟨r,rfl,ne,hl,rfl⟩:=hS
 change WS _ _ [.ob (dQ a dE xs),.im ax r] _ _
 have hpos:0 < xs.length:=length_pos_iff.mpr ne
 have hix:dP xs.length (-1)=some (xs.length - 1):=by unfold dP;rw [if_neg (by omega),if_pos (by omega)];congr 1;omega
 refine ai (wj 0 (j:=xs.length - 1) (dj (ag (eU (aa 1 rfl)) (ag (cA (aa 1 rfl)) aq))) (dt ar) rfl rfl hix ?_)
 have two:∀s2:df,trim s2=kQ xs r->WS (eh eX P w K mg base ["stack","row"] "go" (ah p6) f cdv A outer s H E).gN ((cg p6).drop 2) [.ob (dQ a dE s2),.im ax r] (λΓ=>∃xs',Γ[0]?=some (.ob (dQ a dE xs'))/\∀H0 H' R',(bR K gK λz=>xs'=kQ xs r/\z=()) H0 .non H' R') (EB K a dE λxs'=>bR K gK λz=>xs'=kQ xs r/\z=()):=by
  intro s2 he
  refine ak (f7 (λm Γ=>∃s3:df,Γ=[.ob (dQ a dE s3),.im ax r]/\m=s3.length/\trim s3=kQ xs r) (m0:=s2.length) ⟨s2,rfl,rfl,he⟩ ?_)
  rintro m Γ ⟨s3,rfl,rfl,ht⟩
  by_cases hne:s3=[]
  ·subst hne
   refine ⟨_,_,TV.box 0 (TW.tv (dN (y:=false) (lS 0 rfl) (λh=>absurd h (by decide)))) rfl rfl,λh=>absurd h (by decide),λ_=>?_⟩
   exact ⟨[],rfl,λ_ _ _=>⟨(),rfl,by rw [← ht,pf],rfl⟩⟩
  ·have hl3:=qP hne
   have ne':s3.isEmpty=false:=by cases s3 with
    | nil=>exact absurd rfl hne
    | cons a b=>rfl
   refine ⟨_,_,TV.box 0 (TW.tv (dN (lS 0 rfl) (λ_=>g5 (bc e6 (bb (fc 0 (dt ar) rfl rfl (dB hl3))) (bE hEND))))) rfl rfl,λh=>?_,λh=>?_⟩
   ·rw [Bool.and_eq_true] at h
    have h1:(s3.getLast hne).2=1:=of_decide_eq_true h.2
    refine ak (lI (EV.box 0 (n9 0 rfl hl3) rfl rfl) ?_)
    exact ⟨s3.dropLast.length,by rw [length_dropLast];have:=length_pos_iff.mpr hne;omega,s3.dropLast,rfl,rfl,by rw [← kZ hne h1];exact ht⟩
   ·rw [ne'] at h
    have h1:(s3.getLast hne).2≠1:=by simpa using h
    rw [jI hne h1] at ht
    exact ⟨s3,rfl,λ_ _ _=>⟨(),rfl,ht,rfl⟩⟩
 refine ai (bL (bc jt (dJ (aa 1 rfl)) (bE hNC)) (λh=>?_) (λh=>bu ?_))
 ·have h:r.2.2.2≠ -1:=by simpa using h
  refine ak (lI (EV.box 0 (uL 0 (bA CA hr (ag (dJ (aa 1 rfl)) aq) ⟨_,rfl,rfl⟩) rfl rfl (Nat.lt_of_le_of_lt (show _<=1001 by rw [length_set];omega) (by decide))) rfl rfl) ?_)
  exact two _ (by rw [kQ,if_neg h])
 ·have h:r.2.2.2= -1:=by simpa using h
  exact two _ (by rw [kQ,if_pos h])
theorem tP {v:aw}(hv:aQ v){st:df}{k:Int}(c:nc v st k):kQ st (rowOf v k)=f9 v st k:=by
 have hrm:rowOf v k∈v.2:=by
  unfold rowOf
  have k0:=c.k0;have k1:=c.k1
  rw [getD_eq_getElem?_getD,getElem?_eq_getElem (by omega)]
  exact getElem_mem _
 have q:=hv.cL hrm
 have hs:∀x,st.set (st.length - 1) x=st.dropLast++[x]:=λx=>by
  have e:=fV c.ne
  have hl:st.dropLast.length=st.length - 1:=length_dropLast
  conv=>lhs;rw [← e]
  rw [List.set_append_right _ _ (by rw [hl];simp),hl]
  simp
 unfold kQ f9 push
 rw [hs]
 have c0:=q.c0
 by_cases hc:(rowOf v k).2.2.2= -1
 ·rw [if_pos hc,if_neg (by omega)]
 ·rw [if_neg hc,if_pos (by omega)]
abbrev ye:Stmt:=top lW
abbrev nSB:List Str:=["web","rows","stack","number"]
theorem A8:aB nSB ["web","rows"] (ah ye):=fS0
def rtS (K:PySem.W.Frag):Option df->RT
 | none=>bR K gK (· =())
 | some st=>fR K dE (· =st)
def Eg:bX:=λK ps T=>∃(v:aw) (rows:List Int),ps=[⟨bO,v⟩,⟨af ae,rows⟩]/\aQ v/\T=rtS K (eZ v [(0,0)] rows)
open Classical in
theorem DO (M:bN mg)(CA:ay P w K mg base "at_begin" 1 (aF Bn K))(CC:ay P w K mg base "can_go" 3 (aF SCG K))(CO:ay P w K mg base "go" 2 (tQ dE EI K))(F:bI K "stack_behind" "stack_behind" ye f fd)(hm:mg "stack_behind"=some (.ref f))(hb:Binds K fd ["web","rows"] []):ay P w K mg base "stack_behind" 4 (aF Eg K):=by
 have nd:=A8.nd
 have CA:=CA.mono (show 1<=3 by decide)
 have CO:=CO.mono (show 2<=3 by decide)
 obtain ⟨t1,hFP⟩:=M.firstPart
 refine bG F A8 hm hb (λqs T ⟨_,_,e,_⟩=>by rw [e];rfl) (λcdv A outer s H E qs T hr hS=>?_)
 obtain ⟨v,rows,rfl,hv,rfl⟩:=hS
 change WS _ _ [.im (av (af ae) (af ax)) v,.im (af ae) rows,.no,.no] _ _
 refine ai (bL (bY (bV (dq M.isinstance M.list PyProof.Rows.boot_list (aa 1 rfl) ty_list))) (λh=>absurd h (by decide)) (λ_=>bu ?_))
 refine ai (cG 2 (r:=dE) (aO (aN (bA CA hr (ag (bE hFP) aq) ⟨_,rfl,rfl⟩) bh) (by show 1<=sizeLine;decide)) ?_)
 refine ai (cv (r:=ae) (λi Γ=>∃st v3,Γ=[.im (av (af ae) (af ax)) v,.im (af ae) rows,.mu dE st,v3]/\Goes v (rows.take i) st/\eZ v [(0,0)] rows=eZ v st (rows.drop i))
  (aR (aa 1 rfl)) (aG 3) ⟨[(0,0)],_,rfl,.nil,rfl⟩ ?_ ?_)
 ·rintro i k Γ hki ⟨st,v3,rfl,hG,hF⟩
  have hil:i < rows.length:=(List.getElem?_eq_some_iff.mp hki).1
  have hdrop:rows.drop i=k::rows.drop (i + 1):=by
   rw [drop_eq_getElem_cons hil]
   congr 1
   rw [getElem?_eq_getElem hil] at hki
   exact Option.some.inj hki
  rw [hdrop] at hF
  have hsg:=hG.good hv
  have hsl:=hsg.len hv
  refine ai (bL (k:= !mJ v st k) (TV.frz (pj (i:=2) rfl (aI (by omega))) (bY (bV (bA CC hr (ag (aa 0 rfl) (ag (aa 2 rfl) (ag (aa 3 rfl) aq))) ⟨v,st,k,rfl,rfl⟩)))) (λh=>?_) (λh=>bu ?_))
  ·have hc:¬nc v st k:=λc=>by rw [mJ,decide_eq_true c] at h;exact absurd h (by decide)
   have e:eZ v [(0,0)] rows=none:=by rw [hF,eZ,if_neg hc]
   rw [e]
   exact ak (bK y8 rfl)
  ·have hc:nc v st k:=by
    refine Classical.byContradiction λc=>?_
    rw [mJ,decide_eq_false c] at h;exact absurd h (by decide)
   have hk:cN v.2 k=some (rowOf v k):=bJ bM hc.k0 hc.k1
   refine ak (lI (wX 2 (st:=kQ st (rowOf v k)) (rr:=gK) (z:=()) CO hr (ag (aJ (bb (aa 0 rfl)) (aa 3 rfl) hk) aq) rfl rfl ⟨_,rfl,hc.ne,by omega,rfl⟩) ?_)
   rw [tP hv hc]
   refine ⟨_,_,rfl,?_,by rw [hF,eZ,if_pos hc]⟩
   rw [take_succ,hki];exact hG.snoc hc
 ·rintro Γ ⟨st,v3,rfl,hG,hF⟩
  have hsl:=(hG.good hv).len hv
  rw [drop_length] at hF
  have e:eZ v [(0,0)] rows=some st:=hF
  rw [e]
  exact ak (g9 2 rfl (aI (by omega)) rfl)
abbrev uY:Stmt:=top oR
theorem zZ:aB ["web","rows"] ["web","rows"] (ah uY):=fS0
def vq:bX:=λK ps T=>∃(v:aw) (rows:List Int),ps=[⟨bO,v⟩,⟨af ae,rows⟩]/\aQ v/\eZ v [(0,0)] rows=some []/\T=bR K aW (· =true)
theorem Cq (CS:ay P w K mg base "stack_behind" 4 (aF Eg K))(F:bI K "is_run_of" "is_run_of" uY f fd)(hm:mg "is_run_of"=some (.ref f))(hb:Binds K fd ["web","rows"] []):ay P w K mg base "is_run_of" 5 (aF vq K):=by
 have nd:=zZ.nd
 refine bG F zZ hm hb (λqs T ⟨_,_,e,_⟩=>by rw [e];rfl) (λcdv A outer s H E qs T hr hS=>?_)
 obtain ⟨v,rows,rfl,hv,e,rfl⟩:=hS
 have hu:(A.deeper (envOfC "is_run_of" (ah uY) s.heap.objs.size f cdv)).units + 2 < cLine:=Nat.lt_of_le_of_lt (Nat.add_le_add_left (by decide:2<=64) _) hr.units
 change WS _ _ [.im (av (af ae) (af ax)) v,.im (af ae) rows] _ _
 exact ak (bK (d9 (nR (r:=dE) (qT (k:=1) eq_int eq_int (by decide) (by decide)) hu) (aY.im (cT CS hr (ag (aa 0 rfl) (ag (aa 1 rfl) aq)) ⟨v,rows,rfl,hv,by rw [e];rfl⟩)) (aY.im (aO (r:=dE) bh (by decide)))) (by simp))
abbrev xV:Stmt:=top tI
theorem zx:aB ["web","rows"] ["web","rows"] (ah xV):=fS0
theorem Cc (CN:ay P w K mg base "need_web" 6 (aF xg K))(CO:ay P w K mg base "is_run_of" 5 (aF vq K))(F:bI K "is_run" "is_run" xV f fd)(hm:mg "is_run"=some (.ref f))(hb:Binds K fd ["web","rows"] []):ay P w K mg base "is_run" 7 (aF vq K):=by
 have nd:=zx.nd
 have CO:=CO.mono (show 5<=6 by decide)
 refine bG F zx hm hb (λqs T ⟨_,_,e,_⟩=>by rw [e];rfl) (λcdv A outer s H E qs T hr hS=>?_)
 obtain ⟨v,rows,rfl,hv,e,rfl⟩:=hS
 change WS _ _ [.im (av (af ae) (af ax)) v,.im (af ae) rows] _ _
 refine ai (iU CN hr (ag (aa 0 rfl) aq) ⟨v,rfl,hv,rfl⟩ ?_)
 exact ak (bK (bA CO hr (ag (aa 0 rfl) (ag (aa 1 rfl) aq)) ⟨v,rows,rfl,hv,e,rfl⟩) rfl)
end
inductive da (v:aw):Int->Int->List Int->Prop
 | done {p:Int}:da v p 1 []
 | step {p q k:Int} {xs:List Int}:k∈fromF v p q->(rowOf v k).2.2.2= -1->da v p (a9 v k) xs->da v p q (k::xs)
 | call {p q k:Int} {ys xs:List Int}:k∈fromF v p q->0<=(rowOf v k).2.2.2->da v (rowOf v k).2.2.2 0 ys->da v p (a9 v k) xs->da v p q (k::(ys++xs))
theorem mY (S:df)(t:Int×Int):trim (S++[t])=if t.2=1 then trim S else S++[t]:=by
 have ne:S++[t]≠[]:=by simp
 have gl:(S++[t]).getLast ne=t:=by simp
 by_cases e:t.2=1
 ·rw [if_pos e,kZ ne (by rw [gl];exact e)];simp
 ·rw [if_neg e,jI ne (by rw [gl];exact e)]
theorem da.walk {v:aw}(hv:aQ v){p q:Int}{xs:List Int}(h:da v p q xs):∀(S:df) (zs:List Int),eZ v (trim (S++[(p,q)])) (xs++zs)=eZ v (trim S) zs:=by
 have can:∀{p q k:Int},k∈fromF v p q->∀S:df,trim (S++[(p,q)])=S++[(p,q)]/\nc v (S++[(p,q)]) k/\f9 v (S++[(p,q)]) k=trim (if 0<=(rowOf v k).2.2.2 then (S++[(p,a9 v k)])++[((rowOf v k).2.2.2,0)] else S++[(p,a9 v k)]):=λ{p q k} hk S=>by
  obtain ⟨k0,k1,kp,kq,kr⟩:=bC hk
  have R:=hv.cL kr
  have s1:=R.s1
  rw [kq] at s1
  refine ⟨by rw [mY,if_neg s1],⟨k0,k1,by simp,by simp [kp,kq]⟩,?_⟩
  unfold f9 push
  rw [kp]
  have:(S++[(p,q)]).dropLast=S:=by simp
  rw [this];rfl
 induction h with
 | done=>intro S zs;rw [mY,if_pos rfl];rfl
 | step hk hc _ ih=>
   intro S zs
   obtain ⟨c1,c2,c3⟩:=can hk S
   rw [c1,cons_append,eZ,if_pos c2,c3,if_neg (by omega)]
   exact ih S zs
 | @call p q k ys xs hk hc _ _ ih1 ih2=>
   intro S zs
   obtain ⟨c1,c2,c3⟩:=can hk S
   rw [c1,cons_append,eZ,if_pos c2,c3,if_pos hc,append_assoc ys xs zs,ih1,ih2]
end K1
namespace Fc
open PySem PySem.Spec PySem.W PySem.Calls L2
open PyProof.Rows hiding St
section
variable {X:Cx}{Γ Γ1 Γ2 Γ3:Ga}{α β γ δ:Type}{N:Ga->Prop}{T:RT}
variable {r:aD α}{P:List α->Ga->Prop}
def EH (X:Cx)(e:Expr)(Γ:Ga){α:Type}(r:aD α)(P:List α->Ga->Prop):Prop:=
 ∀(σ:St) (H0 R0 H R:Hp),ao X.K σ H0 R0 H R Γ->∀Q:VK,(∀a vs ys Γ' H' R',P ys Γ'->ao X.K σ H0 R0 H' R' Γ'->aj R R'->H' a=some (.lst vs)->R' a=none->H0 a=none->Off a σ Γ'->PySem.Paired (r.R X.K R') vs ys->ys.length<=sizeLine->Q (.ref a) H')->dI X e σ H Q
def AU (X:Cx)(e:Expr)(Γ:Ga){α:Type}(r:aD α)(P:α->Ga->Prop):Prop:=
 ∀(σ:St) (H0 R0 H R:Hp),ao X.K σ H0 R0 H R Γ->∀Q:VK,(∀v y Γ' H' R',P y Γ'->ao X.K σ H0 R0 H' R' Γ'->aj R R'->r.R X.K R' v y->Q v H')->dI X e σ H Q
def Ew (X:Cx)(tg iter:Expr)(Γ:Ga){α:Type}(r:aD α)(P:List α->Ga->Prop):Prop:=
 ∃wi,PI X tg iter wi/\∀(σ:St) (H0 R0 H R:Hp),ao X.K σ H0 R0 H R Γ->∀Rq:It->Hp->Prop,(∀J H1 R1 xs Γ1,P xs Γ1->ao X.K σ H0 R0 H1 R1 Γ1->aj R R1->xs.length<=sizeLine->Src X.K J R1 r xs->Rq J H1)->wi σ H Rq
theorem BS {tg iter:Expr}{body:List Stmt}{pos:Pos}{bf:α->Ga->Ga}(I:List α->Nat->Ga->Prop)(hit:Ew X tg iter Γ r P)(hb:BG X tg r bf)(h0:∀xs Γ1,P xs Γ1->I xs 0 Γ1)
 (hstep:∀xs,(∃Γ1,P xs Γ1)->∀(i:Nat) (x:α) (Γ:Ga),xs[i]?=some x->I xs i Γ->WS X body (bf x Γ) (I xs (i + 1)) T) (hend:∀xs,(∃Γ1,P xs Γ1)->∀Γ:Ga,I xs xs.length Γ->N Γ)
 (hc:X.calm=true:=by rfl) (hp:PassesOwn (model X.prog X.w) X.A X.env X.xe:=by exact PassesOwn.never) (hs:∀x,foldedSetIterable iter X.env x=pure x:=by intro _;rfl):W1 X (.For tg iter body [] pos) Γ N T:=λσ H0 R0 H R E D dn dr=>by
 obtain ⟨wi,hi,hit⟩:=hit
 refine sS (ue hp hc hi xY fB hs) (hit σ H0 R0 H R E _ λJ H1 R1 xs Γ1 hP E1 s1 hz src=>?_)
 have hP':∃Γ1,P xs Γ1:=⟨Γ1,hP⟩
 refine ⟨λi m σ' H'=>m=xs.length - i/\i<=xs.length/\∃R' Γ',ao X.K σ' H0 R0 H' R' Γ'/\aj R1 R'/\I xs i Γ',⟨_,rfl,Nat.zero_le _,R1,Γ1,E1,aj.refl _,h0 xs Γ1 hP⟩,?_⟩
 rintro i m σ' H' ⟨rfl,hle,R',Γ',E',s',hI⟩
 obtain ⟨sgo,sstop⟩:=src H' R' s' E'.sub i
 by_cases hlt:i < xs.length
 ·obtain ⟨go,yl⟩:=sgo _ (getElem?_eq_getElem hlt)
  refine .inr ⟨go,λσ' H'=>i + 1<=xs.length/\∃R' Γ',ao X.K σ' H0 R0 H' R' Γ'/\aj R1 R'/\I xs (i + 1) Γ',λσ2 H2 h=>⟨xs.length - (i + 1),by omega,rfl,h.1,h.2⟩,λv H2 hy=>?_⟩
  obtain ⟨R2,x2,hr⟩:=yl v H2 hy
  refine hb σ' H0 R0 H2 R2 Γ' v _ (E'.grow x2) hr _ λσ2 E2=>?_
  exact hstep xs hP' i _ Γ' (getElem?_eq_getElem hlt) hI σ2 H0 R0 H2 R2 E2 _ (λσ3 H3 R3 Γ3 E3 s3 h3=>⟨hlt,R3,Γ3,E3,s'.trans (x2.r.trans s3),h3⟩) dr
 ·have e:i=xs.length:=by omega
  subst e
  exact .inl ⟨sstop (Nat.le_refl _),dn σ' H' R' Γ' E' (s1.trans s') (hend xs hP' Γ' hI)⟩
theorem Cm {tg iter:Expr}(h:AU X iter Γ (af r) P):Ew X tg iter Γ r P:=by
 refine ⟨_,qd aE,λσ H0 R0 H R E Rq q=>h σ H0 R0 H R E _ λv xs Γ1 H1 R1 hP E1 s1 e1=>?_⟩
 obtain ⟨a,vs,rfl,ha,pp,z⟩:=e1
 refine ⟨a,rfl,⟨vs,aM.of (E1.sub _ _ ha)⟩,q _ H1 R1 xs Γ1 hP E1 s1 z λH' R' sR sH i=>⟨λx hx=>?_,λhi=>?_⟩⟩
 ·have hq:aM X.K H' a vs:=aM.of (sH _ _ (sR _ _ ha))
  obtain ⟨v,hv,hr⟩:=dS pp hx
  refine ⟨⟨vs,v,hq,hv⟩,λv' H2 hy=>?_⟩
  obtain ⟨rfl,hy⟩:=hy
  have:=hy vs hq
  rw [hv] at this
  cases this
  exact ⟨R',Ext.refl sH,r.mono sR hr⟩
 ·exact ⟨vs,aM.of (sH _ _ (sR _ _ ha)),by rw [pp.length];exact hi⟩
theorem vO {a b:Expr}{pos:Pos}{xs:List α}(ha:EV X a Γ (af r) xs Γ1)(hb:AU X b Γ1 (af r) P)(hz:∀ys Γ2,P ys Γ2->xs.length + ys.length<=sizeLine):EH X (.BinOp a .Add b pos) Γ r (λzs Γ2=>∃ys,zs=xs++ys/\P ys Γ2):=by
 intro σ H0 R0 H R E Q q
 refine eS (l9 oK aE aE) (ha σ H0 R0 H R E _ λv H1 R1 E1 s1 e1=>hb σ H0 R0 H1 R1 E1 _ λu ys Γ2 H2 R2 hP E2 s2 e2=>?_)
 obtain ⟨p,vs,rfl,hp,pp,z⟩:=(af r).mono s2 e1
 obtain ⟨c,ws,rfl,hc,pp',z'⟩:=e2
 refine ⟨p,c,vs,ws,rfl,rfl,E2.sub _ _ hp,E2.sub _ _ hc,by rw [pp.length,pp'.length];exact hz ys Γ2 hP,λd hd=>?_⟩
 exact q d _ _ Γ2 _ R2 ⟨ys,rfl,hP⟩ (E2.grow (Ext.cn E2.sub hd _)) (s1.trans s2) au (E2.sub.free hd) (E2.ext.h.free hd) (E2.off hd) (ca pp pp') (by rw [length_append];exact hz ys Γ2 hP)
theorem A9 (i:Nat){x:Str}{p1 pos:Pos}{e:Expr}(he:EH X e Γ r P)(h:∀ys Γ',P ys Γ'->ys.length<=sizeLine->N (Γ'.set i (.mu r ys)))(hN:X.N.Nodup:=by first | assumption | decide)(hi:X.N[i]?=some x:=by rfl)(hx:autoParam (Loc X.env.scope x) vA2)
 (hs:swapsWith e (some (.Name x p1)) pos.line X.env=pure false:=by rfl) (hf:autoParam (X.fn x=true∨X.env.scope.names.lookup x=some .local) vA3):W1 X (.Assign [.Name x p1] e pos) Γ N T:=λσ H0 R0 H R E D dn dr=>
 sS (d6 hN hi hx aE hs hf) (he σ H0 R0 H R E _ λa vs ys Γ' H1 R1 hP E1 s1 ha hR h0 off p z=>dn _ H1 R1 _ (E1.my (u:=.lst vs) (en:=.mu r ys) i ⟨a,vs,rfl,ha,hR,p⟩ h0 λj e _ q w=>off j e q w) s1 (h ys Γ' hP z))
theorem ng (i:Nat){P:Type}{B:gL P}{S:jF P}{x y:Str}{k:Nat}{es:List Expr}{p p1 pos:Pos}{ps:List Pk}{a b:Addr}{s0 s:P}{rr:aD β}{Pd:P->β->Prop}{G:β->Ga->Prop}(C:ay X.prog X.w X.K X.mg X.base x k (eN B S X.K))(hr:bU k X.A)(ha:HA X es Γ ps Γ1)(hΓ:Γ[i]?=some (.ob (B.bx a b s0)))(hΓ1:Γ1[i]?=some (.ob (B.bx a b s)))(hS:S X.K s ps (λs'=>bR X.K rr (Pd s')))
 (h:∀s' z,Pd s' z->G z (Γ1.set i (.ob (B.bx a b s'))))
 (hg:Gl X x:=by rfl) (hdb:Dg0 x:=by decide) (he:starEach (.Name y p1::es) X.env=(false,eval (.Name y p1) X.env)::starEach es X.env:=by rfl) (hpl:(backTo pos (starEach es X.env)).any (·.1)=false:=by rfl)
 (hN:X.N[i]?=some y:=by rfl) (hv:autoParam (bS X.env.scope y) vA1) (hd:Dg0 y:=by decide) (hcd:Cd0 y:=by decide):
 AU X (.Call (.Name x p) (.Name y p1::es) [] pos) Γ rr G:=λσ H0 R0 H R E Q q=>
 jT i C hr ha hΓ hΓ1 hS E (λH1 R1 v H' R' s' _ s1 xx E' t=>by
  obtain ⟨z,e1,hz⟩:=t
  exact q v z _ H' R' (h s' z hz) E' (s1.trans xx.r) e1) hg hdb he hpl hN hv hd hcd
end
end Fc
namespace K1
open PySem L2 Fc
open PySem.Spec hiding Row
open PyProof.Rows hiding St
open PySem.Builtin.Int (intBits)
def iC:Nat->Nat
 | 0=>0
 | d + 1=>23 * (1 + iC d)
def mxD:Nat->Nat
 | 0=>0
 | d + 1=>24 + 23 * mxD d
section
variable {P:Program}{w:World}{K:PySem.W.Frag}{mg:Str->Option Value}{base:Heap}{f:Addr}{fd:FuncData}
abbrev xM:Stmt:=top pL
abbrev EG:List Str:=["_law_purse_here","_law_web_here","_law_part_here","_law_left"]
abbrev nRU:List Str:=["_law_purse_here","_law_web_here","_law_part_here","_law_left","_law_found","_law_k"]
theorem w4:aB nRU EG (ah xM):=fS0
def E7 (d:Nat):jF Pu:=λK s ps T=>∃(n:Int) (v:aw) (p left:Int),cE n s/\0<=n/\n + (mxD d:Int)<=800000/\iC d<=800000/\ps=[⟨bO,v⟩,⟨ae,p⟩,⟨ae,left⟩]/\aQ v/\0<=p/\p < (v.1.length:Int)/\(v.1.length:Int) - p<=(d:Int)/\0<=left/\left<=8/\T=λs'=>bR K (af ae) λxs=>cE (n + (mxD d:Int)) s'/\da v p 0 xs/\xs.length<=iC d
theorem D6 (M:bN mg)(CD:ay P w K mg base "_law_draw" 1 (eN bo mZ K))(CO:ay P w K mg base "_law_own_run" 2 (eN bo ER K))(F:bI K "_law_run" "_law_run" xM f fd)(hm:mg "_law_run"=some (.ref f))(hb:Binds K fd EG []):∀d:Nat,ay P w K mg base "_law_run" (d + 3) (eN bo (E7 d) K):=by
 have nd:=w4.nd
 intro d
 induction d with
 | zero=>
   refine ie F w4 hm hb (λxs qs T ⟨_,_,_,_,_,_,_,_,e,_⟩=>by rw [e];rfl) (λcdv A outer s H E a b st qs T hr hS=>?_)
   obtain ⟨n,v,p,left,hP,n0,n1,mb,rfl,hv,p0,p1,pd,l0,l1,rfl⟩:=hS
   have:((0:Nat):Int)=0:=rfl
   omega
 | succ d ih=>
   have CD:=CD.mono (show 1<=d + 3 by omega)
   have CO:=CO.mono (show 2<=d + 3 by omega)
   refine ie F w4 hm hb (λxs qs T ⟨_,_,_,_,_,_,_,_,e,_⟩=>by rw [e];rfl) (λcdv A outer s H E a b st qs T hr hS=>?_)
   obtain ⟨n,v,p,left,hP,n0,n1,mb,rfl,hv,p0,p1,pd,l0,l1,rfl⟩:=hS
   have eD:mxD (d + 1)=24 + 23 * mxD d:=rfl
   have eB:iC (d + 1)=23 * (1 + iC d):=rfl
   have rl:=hv.rl
   change WS _ _ [.ob (bo.bx a b st),.im (av (af ae) (af ax)) v,.im ae p,.im ae left,.no,.no] _ _
   refine ai (cG 4 (r:=ae) (aO bh (by decide)) ?_)
   obtain ⟨m,st2,m0,m1,hP2,hS2⟩:=c7 hP (by omega) (b:=left + 1) (by omega) (by omega)
   refine ai (BS (r:=ae) (P:=λown Γ1=>∃s',Γ1=[.ob (bo.bx a b s'),.im (av (af ae) (af ax)) v,.im ae p,.im ae left,.mu ae [],.no]/\cE (n + 1 + (own.length:Int)) s'/\bB v p 0 own=true/\own.length<=23)
    (λown i Γ=>∃s' found here v5,Γ=[.ob (bo.bx a b s'),.im (av (af ae) (af ax)) v,.im ae p,.im ae left,.mu ae found,v5]/\cE (n + 24 + (i:Int) * (mxD d:Int)) s'/\bB v p here (own.drop i)=true/\(∀ys,da v p here ys->da v p 0 (found++ys))/\found.length<=i * (1 + iC d))
    (Cm (ng 0 CO hr (ag (aa 1 rfl) (ag (aa 2 rfl) (ag (cj 0 CD hr (ag (cu (aa 3 rfl) ar) aq) rfl rfl (hS2 _)) aq))) rfl rfl ⟨_,v,p,m,hP2,by omega,by omega,rfl,hv,p0,p1,m0,by omega,rfl⟩ (λs' z hz=>⟨s',rfl,hz.1,hz.2.1,by have:=hz.2.2;omega⟩)))
    (aG 5) ?_ ?_ ?_)
   ·rintro own Γ1 ⟨s',rfl,h1,h2,h3⟩
    exact ⟨s',[],0,_,rfl,h1.mono (by simp;omega),h2,λys h=>h,by simp⟩
   ·rintro own ⟨_,_,_,_,ho,hol⟩ i k Γ hk ⟨s',found,here,v5,rfl,hPi,ht,hrun,hfl⟩
    have il:=(List.getElem?_eq_some_iff.mp hk).1
    have hd:own.drop i=k::own.drop (i + 1):=by
     obtain ⟨h1,h2⟩:=List.getElem?_eq_some_iff.mp hk
     rw [drop_eq_getElem_cons h1,h2]
    rw [hd,bB,Bool.and_eq_true,dX] at ht
    have hkf:=of_decide_eq_true ht.1
    obtain ⟨k0,k1,kp,kq,kr⟩:=bC hkf
    have R:=hv.cL kr
    have c0:=R.c0;have c1:=R.c1;have cp:=R.cp
    have i23:i<=22:=by omega
    have f1:i * (1 + iC d)<=22 * (1 + iC d):=Nat.mul_le_mul_right _ i23
    have e1:(i + 1) * (1 + iC d)=i * (1 + iC d) + (1 + iC d):=Nat.succ_mul _ _
    have d1:((i + 1:Nat):Int) * (mxD d:Int)=(i:Int) * (mxD d:Int) + (mxD d:Int):=by push_cast;rw [Int.add_mul];omega
    have d2:(i:Int) * (mxD d:Int)<=22 * (mxD d:Int):=Int.mul_le_mul_of_nonneg_right (by omega) (by omega)
    have d3:(0:Int)<=(i:Int) * (mxD d:Int):=Int.mul_nonneg (by omega) (by omega)
    refine ai (cS 4 (aa 5 rfl) rfl rfl (Nat.lt_of_le_of_lt (show found.length<=1000000 by omega) (by decide)) ?_)
    refine ak (bL (bc rH (dJ (aJ (y:=rowOf v k) (bb (aa 1 rfl)) (aa 5 rfl) (bJ bM k0 k1))) ar) (λh=>?_) (λh=>bu ?_))
    ·have h:0<=(rowOf v k).2.2.2:=of_decide_eq_true h
     refine WS.freeze 4 rfl (aI (by rw [length_append];show _ + 1<=_;omega)) ?_
     refine ak (A9 4 (vO (P:=λys Γ'=>∃s2,Γ'=[.ob (bo.bx a b s2),.im (av (af ae) (af ax)) v,.im ae p,.im ae left,.im (af ae) (found++[k]),.im ae k]/\cE (n + 24 + (i:Int) * (mxD d:Int) + (mxD d:Int)) s2/\da v (rowOf v k).2.2.2 0 ys/\ys.length<=iC d) (aa 4 rfl) (ng 0 ih hr (ag (aa 1 rfl) (ag (dJ (aJ (y:=rowOf v k) (bb (aa 1 rfl)) (aa 5 rfl) (bJ bM k0 k1))) (ag (qR (aa 3 rfl) ar ⟨by decide,by decide⟩) aq))) rfl rfl ⟨_,v,(rowOf v k).2.2.2,left / 2,hPi,by omega,by omega,by omega,rfl,hv,h,c1,by omega,by omega,by omega,rfl⟩ (λs2 z hz=>⟨s2,rfl,hz.1,hz.2.1,hz.2.2⟩)) (λys Γ2 hy=>?_)) ?_)
     ·obtain ⟨_,_,_,_,hl⟩:=hy
      exact aI (by rw [length_append];show _ + 1 + _<=_;omega)
     ·rintro zs Γ2 ⟨ys,rfl,s2,rfl,hP3,hR3,hl3⟩ hz
      refine ⟨s2,_,a9 v k,_,rfl,by rw [d1];exact hP3.mono (by omega),ht.2,λzs hzs=>?_,?_⟩
      ·rw [append_assoc,append_assoc]
       show da v p 0 (found++(k::(ys++zs)))
       exact hrun _ (da.call hkf h hR3 hzs)
      ·rw [length_append,length_append]
       show _ + 1 + _<=_
       omega
    ·have h:¬0<=(rowOf v k).2.2.2:=of_decide_eq_false h
     refine ⟨s',found++[k],a9 v k,_,rfl,hPi.mono (by rw [d1];omega),ht.2,λys hy=>?_,?_⟩
     ·rw [append_assoc]
      show da v p 0 (found++(k::ys))
      exact hrun _ (da.step hkf (by omega) hy)
     ·rw [length_append]
      show _ + 1<=_
      omega
   ·rintro own ⟨_,_,_,_,ho,hol⟩ Γ ⟨s',found,here,v5,rfl,hPi,ht,hrun,hfl⟩
    rw [drop_length,bB] at ht
    have he:=of_decide_eq_true ht
    subst he
    have f1:own.length * (1 + iC d)<=23 * (1 + iC d):=Nat.mul_le_mul_right _ hol
    have d2:(own.length:Int) * (mxD d:Int)<=23 * (mxD d:Int):=Int.mul_le_mul_of_nonneg_right (by omega) (by omega)
    have hr0:=hrun [] .done
    rw [append_nil] at hr0
    exact ak (ia 0 (B:=bo) (fM 4 rfl (aI (by omega))) rfl ⟨hPi.mono (by rw [eD];push_cast;omega),hr0,by omega⟩)
end
end K1
namespace Fc
open PySem PySem.Spec PySem.W PySem.Calls L2
open PyProof.Rows hiding St
section
variable {H R:Hp}{ts:List Addr}{t b:Addr}
abbrev PL:=List (Int×List Int)
structure fX (H R:Hp) (ts bs:List Addr) (S:PL):Prop where
 lt:ts.length=S.length
 lb:bs.length=S.length
 at_:∀(i:Nat) (t b:Addr) (s:Int×List Int),ts[i]?=some t->bs[i]?=some b->S[i]?=some s->R t=some (.tup [.int s.1,.ref b])/\H b=some (.lst (s.2.map V.int))
theorem fX.loc {H' R':Hp}{bs:List Addr}{S:PL}(h:fX H R ts bs S)(e:∀a∈bs,H' a=H a)(s:aj R R'):fX H' R' ts bs S:=
 ⟨h.lt,h.lb,λi t b x h1 h2 h3=>⟨s _ _ (h.at_ i t b x h1 h2 h3).1,(e b (mem_of_getElem? h2)).trans (h.at_ i t b x h1 h2 h3).2⟩⟩
theorem fX.snoc {bs:List Addr}{S:PL}(h:fX H R ts bs S){s:Int×List Int}(ht:R t=some (.tup [.int s.1,.ref b]))(hb:H b=some (.lst (s.2.map V.int))):fX H R (ts++[t]) (bs++[b]) (S++[s]):=by
 refine ⟨by rw [length_append,length_append,h.lt];rfl,by rw [length_append,length_append,h.lb];rfl,λi t' b' s' h1 h2 h3=>?_⟩
 rcases Nat.lt_or_ge i S.length with hl | hl
 ·rw [getElem?_append_left (by rw [h.lt];exact hl)] at h1
  rw [getElem?_append_left (by rw [h.lb];exact hl)] at h2
  rw [getElem?_append_left hl] at h3
  exact h.at_ i t' b' s' h1 h2 h3
 ·rw [getElem?_append_right hl] at h3
  have e:i - S.length=0:=by
   have:=(List.getElem?_eq_some_iff.mp h3).1
   simp at this;omega
  rw [getElem?_append_right (by rw [h.lt];exact hl),h.lt,e] at h1
  rw [getElem?_append_right (by rw [h.lb];exact hl),h.lb,e] at h2
  rw [e] at h3
  cases h1;cases h2;cases h3
  exact ⟨ht,hb⟩
theorem fX.init {bs:List Addr}{S:PL}{s:Int×List Int}(h:fX H R (ts++[t]) (bs++[b]) (S++[s]))(hl:ts.length=S.length)(hb:bs.length=S.length):fX H R ts bs S:=
 ⟨hl,hb,λi t' b' s' h1 h2 h3=>by
  have il:=(List.getElem?_eq_some_iff.mp h3).1
  exact h.at_ i t' b' s' (by rw [getElem?_append_left (by omega)];exact h1) (by rw [getElem?_append_left (by omega)];exact h2) (by rw [getElem?_append_left il];exact h3)⟩
theorem fX.last {bs:List Addr}{S:PL}{p:Int}{xs:List Int}(h:fX H R (ts++[t]) (bs++[b]) (S++[(p,xs)]))(hl:ts.length=S.length)(hb:bs.length=S.length)(nd:(bs++[b]).Nodup)(ys:List Int):fX (upd H b (.lst (ys.map V.int))) R (ts++[t]) (bs++[b]) (S++[(p,ys)]):=by
 have h0:=h.at_ S.length t b (p,xs) (by rw [getElem?_append_right (by omega),hl,Nat.sub_self];rfl) (by rw [getElem?_append_right (by omega),hb,Nat.sub_self];rfl) (by rw [getElem?_append_right (Nat.le_refl _),Nat.sub_self];rfl)
 refine ((h.init hl hb).loc (λa ha=>aA λz=>?_) (aj.refl _)).snoc (s:=(p,ys)) h0.1 au
 subst z
 have:=(nodup_append.mp nd).2.2 a ha a (mem_singleton.mpr rfl)
 exact this rfl
def eP (a:Addr)(ts bs:List Addr)(S:PL):iA where
 fp:=a::bs
 R:=λ_ H R v=>v= .ref a/\H a=some (.lst (ts.map .ref))/\fX H R ts bs S/\(a::bs).Nodup
 loc:=λhH hR ⟨e,h1,h2,h3⟩=>⟨e,(hH a mem_cons_self).trans h1,h2.loc (λb hb=>hH b (mem_cons_of_mem _ hb)) hR,h3⟩
 has:=λ⟨e,h1,h2,h3⟩ b hb=>by
  rcases mem_cons.mp hb with rfl | hb
  ·rw [h1];exact Option.some_ne_none _
  ·obtain ⟨i,hi⟩:=mem_iff_getElem?.mp hb
   have il:=(List.getElem?_eq_some_iff.mp hi).1
   have:=(h2.at_ i _ b _ (getElem?_eq_getElem (by rw [h2.lt,← h2.lb];exact il)) hi (getElem?_eq_getElem (by rw [← h2.lb];exact il))).2
   rw [this];exact Option.some_ne_none _
end
section
variable {X:Cx}{Γ Γ1 Γ2 Γ3:Ga}{α β γ δ:Type}{N:Ga->Prop}{T:RT}
variable {a:Addr}{ts:List Addr}{S:PL}{p:Int}{e:Expr}{x:Str}{p1 ap cp:Pos}
abbrev f6:aD (Int×List Int):=av ae (af ae)
theorem fX.paired {K:PySem.W.Frag}{H R:Hp}(sub:aj R H):∀{S:PL} {ts bs:List Addr},fX H R ts bs S->(∀s∈S,s.2.length<=sizeLine)->PySem.Paired (f6.R K H) (ts.map V.ref) S
 | [],[],_,_,_=>.nil
 | [],_::_,_,h,_=>by have:=h.lt;simp at this
 | _::_,[],_,h,_=>by have:=h.lt;simp at this
 | s::S,t::ts,[],h,_=>by have:=h.lb;simp at this
 | s::S,t::ts,b::bs,h,hz=>by
   obtain ⟨h1,h2⟩:=h.at_ 0 t b s rfl rfl rfl
   refine .cons ⟨t,.int s.1,.ref b,rfl,sub _ _ h1,rfl,b,_,rfl,h2,paired_ints _,hz s mem_cons_self⟩ (fX.paired (bs:=bs) sub ⟨by have:=h.lt;simpa using this,by have:=h.lb;simpa using this,λi t' b' s' q1 q2 q3=>h.at_ (i + 1) t' b' s' q1 q2 q3⟩ λs hs=>hz s (mem_cons_of_mem _ hs))
theorem rR {i:Nat}{bs:List Addr}(hΓ:Γ[i]?=some (.ob (eP a ts bs S)))(hz:S.length<=sizeLine)(hz':∀s∈S,s.2.length<=sizeLine)(σ:St)(H0 R0 H R:Hp)(E:ao X.K σ H0 R0 H R Γ):ao X.K σ H H H H ((Γ.map kE).set i (.im (af f6) S)):=by
 obtain ⟨⟨v,ea,rfl,ha,hr,nd⟩,hR⟩:=E.ent i _ hΓ
 exact E.frz.iG (i:=i) (e0:=.no) (by rw [getElem?_map,hΓ];rfl) ⟨.ref a,ea,a,_,rfl,ha,hr.paired E.sub hz',hz⟩ λb w=>by cases w
theorem yn (i:Nat){y:Str}{py lp0 tp lpos spos:Pos}{k:Nat}(he:EV X e Γ ae p Γ1)(h:∀a t b,N (Γ1.set i (.ob (eP a [t] [b] [(p,[])]))))
 (hs1:starEach [.Tuple [e,.List [] lp0] k tp] X.env=(false,eval (.Tuple [e,.List [] lp0] k tp) X.env)::starEach [] X.env:=by rfl) (hs2:starEach [e,.List [] lp0] X.env=(false,eval e X.env)::starEach [.List [] lp0] X.env:=by rfl) (hs3:starEach [.List [] lp0] X.env=(false,eval (.List [] lp0) X.env)::starEach [] X.env:=by rfl)
 (hN:X.N.Nodup:=by first | assumption | decide) (hi:X.N[i]?=some y:=by rfl) (hx:autoParam (Loc X.env.scope y) vA2)
 (hs:swapsWith (.List [.Tuple [e,.List [] lp0] k tp] lpos) (some (.Name y py)) spos.line X.env=pure false:=by rfl) (hf:autoParam (X.fn y=true∨X.env.scope.names.lookup y=some .local) vA3):W1 X (.Assign [.Name y py] (.List [.Tuple [e,.List [] lp0] k tp] lpos) spos) Γ N T:=λσ H0 R0 H R E D dn dr=>by
 refine sS (d6 hN hi hx (jO (aL (iR (aL aE (aL (jO bz) bz hs3) hs2)) bz hs1)) hs hf) (he σ H0 R0 H R E _ λv H1 R1 E1 s1 e1=>⟨by show 0<=sizeLine;decide,λb hb=>⟨by show 2<=sizeLine;decide,λt ht=>⟨by show 1<=sizeLine;decide,λa ha=>?_⟩⟩⟩)
 cases (show v=V.int p from e1)
 have E2:=E1.grow (Ext.cn E1.sub hb (.lst []))
 have E3:=E2.grow (Ext.fresh E2.sub ht (.tup [.int p,.ref b]))
 have E4:=E3.grow (Ext.cn E3.sub ha (.lst [.ref t]))
 have bt:b≠t:=λz=>by rw [← z,au] at ht;cases ht
 have ba:b≠a:=λz=>by rw [← z,aA bt,au] at ha;cases ha
 have hRb:R1 b=none:=E1.sub.free hb
 refine dn _ _ _ _ (E4.setG (v:=.ref a) (en:=.ob (eP a [t] [b] [(p,[])])) i ⟨⟨.ref a,rfl,rfl,au,⟨rfl,rfl,λj t' b' s' q1 q2 q3=>?_⟩,?_⟩,λc hc=>?_⟩ (λc hc=>?_) λc hc j e _ qj w=>?_) (s1.trans (aj.fresh (E2.sub.free ht) _)) (h a t b)
 ·match j,q1,q2,q3 with
  | 0,q1,q2,q3=>
    cases q1;cases q2;cases q3
    exact ⟨au,(aA ba).trans ((aA bt).trans au)⟩
  | j + 1,q1,_,_=>simp at q1
 ·exact nodup_cons.mpr ⟨λz=>ba (mem_singleton.mp z).symm,by simp⟩
 ·rcases mem_cons.mp hc with rfl | hc
  ·exact E3.sub.free ha
  ·rw [mem_singleton.mp hc];exact (aA bt).trans hRb
 ·rcases mem_cons.mp hc with rfl | hc
  ·exact E3.ext.h.free ha
  ·rw [mem_singleton.mp hc];exact E1.ext.h.free hb
 ·rcases mem_cons.mp hc with rfl | hc
  ·exact E3.off ha j e qj w
  ·rw [mem_singleton.mp hc] at w;exact E1.off hb j e qj w
theorem sA (i:Nat){lp0 tp pos:Pos}{k:Nat}{bs:List Addr}(he:EV X e Γ ae p Γ)(hΓ:Γ[i]?=some (.ob (eP a ts bs S)))(hz:S.length < sizeLine)(h:∀t b,N (Γ.set i (.ob (eP a (ts++[t]) (bs++[b]) (S++[(p,[])])))))
 (hs2:starEach [e,.List [] lp0] X.env=(false,eval e X.env)::starEach [.List [] lp0] X.env:=by rfl) (hs3:starEach [.List [] lp0] X.env=(false,eval (.List [] lp0) X.env)::starEach [] X.env:=by rfl)
 (hN:X.N[i]?=some x:=by rfl) (hv:autoParam (bS X.env.scope x) vA1)
 (hd:Dg0 x:=by decide) (hcd:Cd0 x:=by decide)
 (hsw:swapsWith (.Call (.Attribute (.Name x p1) "append" ap) [.Tuple [e,.List [] lp0] k tp] [] cp) none pos.line X.env=pure false:=by rfl)
 (hbase:attributeBase (.Name x p1) "append" X.env (eval (.Name x p1) X.env)=eval (.Name x p1) X.env:=by rfl)
 (hfew:((backTo cp (starEach [.Tuple [e,.List [] lp0] k tp] X.env)).all (λx=> !x.1)&&(backToKw cp (keywordEach [] X.env)).all (λx=>x.1.isSome)
  &&decide ([Expr.Tuple [e,.List [] lp0] k tp].length + ([]:List Keyword).length + (if ([]:List Keyword).isEmpty then 0 else 1) < 30))=true:=by rfl)
 (hline:(ap.endLine==cp.line)=true:=by rfl) (hs:starEach [.Tuple [e,.List [] lp0] k tp] X.env=(false,eval (.Tuple [e,.List [] lp0] k tp) X.env)::starEach [] X.env:=by rfl):W1 X (.Expr (.Call (.Attribute (.Name x p1) "append" ap) [.Tuple [e,.List [] lp0] k tp] [] cp) pos) Γ N T:=λσ H0 R0 H R E D dn dr=>by
 obtain ⟨⟨v,ea,rfl,ha,hr,_⟩,hR⟩:=E.ent i _ hΓ
 refine sS (dR (fN PySem.F.plainAttrs_list PySem.F.slot_list_append PySem.F.type_list_append eA (aX hN hv hd hcd) (aL (iR (aL aE (aL (jO bz) bz hs3) hs2)) bz hs) hbase hfew hline hs rfl) hsw) ?_
 refine ⟨.ref a,at_of ea,.inl ⟨rfl,_,aM.of ha⟩,he σ H0 R0 H R E _ λv H1 R1 E1 s1 e1=>⟨by show 0<=sizeLine;decide,λb hb=>⟨by show 2<=sizeLine;decide,λt ht=>?_⟩⟩⟩
 cases (show v=V.int p from e1)
 have E2:=E1.grow (Ext.cn E1.sub hb (.lst []))
 have E3:=E2.grow (Ext.fresh E2.sub ht (.tup [.int p,.ref b]))
 have bt:b≠t:=λz=>by rw [← z,au] at ht;cases ht
 obtain ⟨⟨v,ea2,rfl,ha2,hr2,nd2⟩,hR2⟩:=E3.ent i _ hΓ
 obtain ⟨n1,n2⟩:=nodup_cons.mp nd2
 have bne:b∉a::bs:=λz=>E1.off hb i _ hΓ z
 have bna:b≠a:=λz=>bne (z▸mem_cons_self)
 have hRb:R1 b=none:=E1.sub.free hb
 refine ⟨a,_,.ref t,rfl,rfl,ha2,by rw [length_map,hr2.lt];exact hz,?_⟩
 refine dn σ _ _ _ (E3.hV (en:=.ob (eP a (ts++[t]) (bs++[b]) (S++[(p,[])]))) hΓ mem_cons_self ⟨⟨.ref a,ea2,rfl,?_,?_,?_⟩,λc hc=>?_⟩ λc w=>?_) (s1.trans (aj.fresh (E2.sub.free ht) _)) (h t b)
 ·rw [au,map_append];rfl
 ·refine (hr2.snoc (s:=(p,[])) au ((aA bt).trans au)).loc (λc hc=>aA λz=>?_) (aj.refl _)
  rw [z] at hc
  rcases mem_append.mp hc with q | q
  ·exact n1 q
  ·exact bna (mem_singleton.mp q).symm
 ·refine nodup_cons.mpr ⟨λz=>?_,eV n2 λz=>bne (mem_cons_of_mem _ z)⟩
  rcases mem_append.mp z with q | q
  ·exact n1 q
  ·exact bna (mem_singleton.mp q).symm
 ·rcases mem_cons.mp hc with q | q
  ·exact hR2 c (q▸mem_cons_self)
  ·rcases mem_append.mp q with q | q
   ·exact hR2 c (mem_cons_of_mem _ q)
   ·rw [mem_singleton.mp q];exact (aA bt).trans hRb
 ·have w:c∈a::(bs++[b]):=w
  rcases mem_cons.mp w with q | q
  ·exact .inl (q▸mem_cons_self)
  ·rcases mem_append.mp q with q | q
   ·exact .inl (mem_cons_of_mem _ q)
   ·rw [mem_singleton.mp q]
    exact .inr ⟨E1.ext.h.free hb,E1.off hb⟩
theorem tW (i:Nat){b:Expr}{p2 p3 p4 pos:Pos}{j1:Nat}{bs:List Addr}{xs:List Int}{y:Int}(hb:EV X b Γ ae (-1) Γ)(he:EV X e Γ ae y Γ)(hΓ:Γ[i]?=some (.ob (eP a ts bs (S++[(p,xs)]))))(hz:xs.length < sizeLine)(h:N (Γ.set i (.ob (eP a ts bs (S++[(p,xs++[y])])))))
 (hN:X.N[i]?=some x:=by rfl) (hv:autoParam (bS X.env.scope x) vA1)
 (hd:Dg0 x:=by decide) (hcd:Cd0 x:=by decide) (hsx:ee b:=by exact λ_ _=>rfl)
 (hsw:swapsWith (.Call (.Attribute (.Subscript (.Subscript (.Name x p1) b p2) (.Constant (.int 1) j1 p3) p4) "append" ap) [e] [] cp) none pos.line X.env=pure false:=by rfl)
 (hbase:attributeBase (.Subscript (.Subscript (.Name x p1) b p2) (.Constant (.int 1) j1 p3) p4) "append" X.env (eval (.Subscript (.Subscript (.Name x p1) b p2) (.Constant (.int 1) j1 p3) p4) X.env)=eval (.Subscript (.Subscript (.Name x p1) b p2) (.Constant (.int 1) j1 p3) p4) X.env:=by rfl)
 (hfew:((backTo cp (starEach [e] X.env)).all (λx=> !x.1)&&(backToKw cp (keywordEach [] X.env)).all (λx=>x.1.isSome)
  &&decide ([e].length + ([]:List Keyword).length + (if ([]:List Keyword).isEmpty then 0 else 1) < 30))=true:=by rfl)
 (hline:(ap.endLine==cp.line)=true:=by rfl) (hs:starEach [e] X.env=(false,eval e X.env)::starEach [] X.env:=by rfl):W1 X (.Expr (.Call (.Attribute (.Subscript (.Subscript (.Name x p1) b p2) (.Constant (.int 1) j1 p3) p4) "append" ap) [e] [] cp) pos) Γ N T:=λσ H0 R0 H R E D dn dr=>by
 obtain ⟨⟨v,ea,rfl,ha,hr,_⟩,hR⟩:=E.ent i _ hΓ
 have split:∀{ts bs:List Addr} {H R:Hp},fX H R ts bs (S++[(p,xs)])->∃ts' t bs' c,ts=ts'++[t]/\bs=bs'++[c]/\ts'.length=S.length/\bs'.length=S.length:=λ{ts bs H R} q=>by
  have l1:=q.lt;have l2:=q.lb
  rw [length_append] at l1 l2
  have l1:ts.length=S.length + 1:=l1
  have l2:bs.length=S.length + 1:=l2
  have n1:ts≠[]:=λz=>by rw [z] at l1;simp at l1
  have n2:bs≠[]:=λz=>by rw [z] at l2;simp at l2
  exact ⟨ts.dropLast,ts.getLast n1,bs.dropLast,bs.getLast n2,(dropLast_concat_getLast n1).symm,(dropLast_concat_getLast n2).symm,by rw [length_dropLast];omega,by rw [length_dropLast];omega⟩
 obtain ⟨ts,t,bs,c,rfl,rfl,lt,lb⟩:=split hr
 have at1:∀{H R:Hp},fX H R (ts++[t]) (bs++[c]) (S++[(p,xs)])->R t=some (.tup [.int p,.ref c])/\H c=some (.lst (xs.map V.int)):=λq=>q.at_ S.length t c (p,xs) (by rw [getElem?_append_right (by omega),lt,Nat.sub_self];rfl) (by rw [getElem?_append_right (by omega),lb,Nat.sub_self];rfl) (by rw [getElem?_append_right (Nat.le_refl _),Nat.sub_self];rfl)
 have hat:cN ((ts++[t]).map V.ref) (-1)=some (.ref t):=K1.dB (by simp)
 refine sS (dR (fN PySem.F.plainAttrs_list PySem.F.slot_list_append PySem.F.type_list_append eA (gx uc (gx fF (aX hN hv hd hcd) aE hsx) d8 (λ_ _=>rfl)) (aL aE bz hs) hbase hfew hline hs rfl) hsw) ?_
 refine ⟨.ref a,at_of ea,hb σ H0 R0 H R E _ λu H1 R1 E1 s1 e1=>?_⟩
 obtain ⟨⟨v,ea1,rfl,ha1,hr1,nd1⟩,hR1⟩:=E1.ent i _ hΓ
 refine ⟨a,_, -1,.ref t,rfl,e1,aM.of ha1,hat,?_⟩
 refine ⟨t,_,1,.ref c,rfl,rfl,dm.of (E1.sub _ _ (at1 hr1).1),rfl,?_⟩
 refine ⟨.inl ⟨rfl,_,aM.of (at1 hr1).2⟩,he σ H0 R0 H1 R1 E1 _ λu H2 R2 E2 s2 e2=>?_⟩
 cases (show u=V.int y from e2)
 obtain ⟨⟨v,ea2,rfl,ha2,hr2,nd2⟩,hR2⟩:=E2.ent i _ hΓ
 obtain ⟨n1,n2⟩:=nodup_cons.mp nd2
 have cm:c∈bs++[c]:=mem_append_right _ (mem_singleton.mpr rfl)
 refine ⟨c,_,.int y,rfl,rfl,(at1 hr2).2,by rw [length_map];exact hz,?_⟩
 have em:(xs.map V.int)++[V.int y]=(xs++[y]).map V.int:=by rw [map_append];rfl
 rw [em]
 refine dn σ _ R2 _ (E2.hV (en:=.ob (eP a (ts++[t]) (bs++[c]) (S++[(p,xs++[y])]))) hΓ (mem_cons_of_mem _ cm) ⟨⟨.ref a,ea2,rfl,?_,hr2.last lt lb n2 _,nd2⟩,hR2⟩ λc w=>.inl w) (s1.trans s2) h
 rw [aA (show a≠c from λz=>n1 (z▸cm))];exact ha2
theorem wx (i l:Nat){y:Str}{p2 bp dp pos:Pos}{bs:List Addr}{F:PL}{xs:List Int}(hil:i≠l)(hΓ:Γ[i]?=some (.ob (eP a ts bs (S++[(p,xs)]))))(hΓl:Γ[l]?=some (.mu f6 F))(hz:F.length < sizeLine)(hzx:xs.length<=sizeLine)(h:∀ts bs,N ((Γ.set i (.ob (eP a ts bs S))).set l (.mu f6 (F++[(p,xs)]))))
 (hN:X.N[i]?=some x:=by rfl) (hv:autoParam (bS X.env.scope x) vA1)
 (hd:Dg0 x:=by decide) (hcd:Cd0 x:=by decide)
 (hNl:X.N[l]?=some y:=by rfl) (hvl:autoParam (bS X.env.scope y) vA1)
 (hdl:Dg0 y:=by decide) (hcdl:Cd0 y:=by decide)
 (hbase:attributeBase (.Name x p1) "pop" X.env (eval (.Name x p1) X.env)=eval (.Name x p1) X.env:=by rfl) (hline:(ap.endLine==cp.line)=true:=by rfl)
 (hbasel:attributeBase (.Name y p2) "append" X.env (eval (.Name y p2) X.env)=eval (.Name y p2) X.env:=by rfl)
 (hsw:swapsWith (.Call (.Attribute (.Name y p2) "append" bp) [.Call (.Attribute (.Name x p1) "pop" ap) [] [] cp] [] dp) none pos.line X.env=pure false:=by rfl)
 (hfew:((backTo dp (starEach [.Call (.Attribute (.Name x p1) "pop" ap) [] [] cp] X.env)).all (λx=> !x.1)&&(backToKw dp (keywordEach [] X.env)).all (λx=>x.1.isSome)
  &&decide ([Expr.Call (.Attribute (.Name x p1) "pop" ap) [] [] cp].length + ([]:List Keyword).length + (if ([]:List Keyword).isEmpty then 0 else 1) < 30))=true:=by rfl)
 (hlinel:(bp.endLine==dp.line)=true:=by rfl) (hs:starEach [.Call (.Attribute (.Name x p1) "pop" ap) [] [] cp] X.env=(false,eval (.Call (.Attribute (.Name x p1) "pop" ap) [] [] cp) X.env)::starEach [] X.env:=by rfl):
 W1 X (.Expr (.Call (.Attribute (.Name y p2) "append" bp) [.Call (.Attribute (.Name x p1) "pop" ap) [] [] cp] [] dp) pos) Γ N T:=λσ H0 R0 H R E D dn dr=>by
 obtain ⟨⟨v,ea,rfl,ha,hr,nd⟩,hR⟩:=E.ent i _ hΓ
 obtain ⟨fa,vs,el,hl,hRl,pl⟩:=E.ent l _ hΓl
 have l1:=hr.lt;have l2:=hr.lb
 rw [length_append] at l1 l2
 have l1:ts.length=S.length + 1:=l1
 have l2:bs.length=S.length + 1:=l2
 have n1:ts≠[]:=λz=>by rw [z] at l1;simp at l1
 have n2:bs≠[]:=λz=>by rw [z] at l2;simp at l2
 obtain ⟨ts,t,rfl⟩:∃ts' t,ts=ts'++[t]:=⟨_,_,(dropLast_concat_getLast n1).symm⟩
 obtain ⟨bs,c,rfl⟩:∃bs' c,bs=bs'++[c]:=⟨_,_,(dropLast_concat_getLast n2).symm⟩
 have lt:ts.length=S.length:=by rw [length_append] at l1;simpa using l1
 have lb:bs.length=S.length:=by rw [length_append] at l2;simpa using l2
 obtain ⟨r1,r2⟩:=hr.at_ S.length t c (p,xs) (by rw [getElem?_append_right (by omega),lt,Nat.sub_self];rfl) (by rw [getElem?_append_right (by omega),lb,Nat.sub_self];rfl) (by rw [getElem?_append_right (Nat.le_refl _),Nat.sub_self];rfl)
 obtain ⟨m1,m2⟩:=nodup_cons.mp nd
 have cm:c∈bs++[c]:=mem_append_right _ (mem_singleton.mpr rfl)
 have ac:a≠c:=λz=>m1 (z▸cm)
 have nbs:bs.Nodup:=(nodup_append.mp m2).1
 have cbs:c∉bs:=λz=>(nodup_append.mp m2).2.2 c z c (mem_singleton.mpr rfl) rfl
 refine sS (dR (fN PySem.F.plainAttrs_list PySem.F.slot_list_append PySem.F.type_list_append eA (aX hNl hvl hdl hcdl) (aL (tE PySem.F.plainAttrs_list PySem.F.slot_list_pop PySem.F.type_list_pop tR (aX hN hv hd hcd) hbase hline) bz hs) hbasel hfew hlinel hs rfl) hsw) ?_
 refine ⟨.ref fa,at_of el,.inl ⟨rfl,vs,aM.of hl⟩,.ref a,at_of ea,.inl ⟨rfl,_,aM.of ha⟩,a,_,.ref t,rfl,rfl,ha,by simp,?_⟩
 have ed:((ts++[t]).map V.ref).dropLast=ts.map V.ref:=by simp
 rw [ed]
 -- the stack without its last one
 have E1:ao X.K σ H0 R0 (upd H a (.lst (ts.map V.ref))) R (Γ.set i (.ob (eP a ts bs S))):=by
  refine E.hV (en:=.ob (eP a ts bs S)) hΓ mem_cons_self ⟨⟨.ref a,ea,rfl,au,?_,?_⟩,λc hc=>?_⟩ λc w=>?_
  ·exact (hr.init lt lb).loc (λb hb=>aA λz=>m1 (by rw [← z];exact mem_append_left _ hb)) (aj.refl _)
  ·exact nodup_cons.mpr ⟨λz=>m1 (mem_append_left _ z),nbs⟩
  ·rcases mem_cons.mp hc with q | q
   ·exact hR c (q▸mem_cons_self)
   ·exact hR c (mem_cons_of_mem _ (mem_append_left _ q))
  ·have w:c∈a::bs:=w
   rcases mem_cons.mp w with q | q
   ·exact .inl (q▸mem_cons_self)
   ·exact .inl (mem_cons_of_mem _ (mem_append_left _ q))
 have hRc:R c=none:=hR c (mem_cons_of_mem _ cm)
 have h0c:H0 c=none:=E.nw i _ c hΓ (mem_cons_of_mem _ cm)
 have offc:Off c σ (Γ.set i (.ob (eP a ts bs S))):=λj e q w=>by
  rcases set_at q with ⟨rfl,rfl,_⟩ | ⟨hj,q⟩
  ·have w:c∈a::bs:=w
   rcases mem_cons.mp w with z | z
   ·exact ac z.symm
   ·exact cbs z
  ·exact hj (E.ds j i e _ c q hΓ w (mem_cons_of_mem _ cm))
 have hc1:(upd H a (.lst (ts.map V.ref))) c=some (.lst (xs.map V.int)):=(aA (Ne.symm ac)).trans r2
 have E2:=E1.lT hc1 hRc h0c offc
 have s2:aj R (upd R c (.lst (xs.map V.int))):=aj.fresh hRc _
 have hl2:(Γ.set i (.ob (eP a ts bs S)))[l]?=some (.mu f6 F):=by rw [getElem?_set_ne hil];exact hΓl
 obtain ⟨fa',vs',el',ha',hR',pl'⟩:=E2.ent l _ hl2
 rw [el] at el';cases el'
 refine ⟨fa,vs',.ref t,rfl,rfl,ha',by rw [pl'.length];exact hz,?_⟩
 refine dn σ _ _ _ (E2.upd (en:=.mu f6 (F++[(p,xs)])) hl2 rfl el hR' ⟨fa,_,rfl,au,hR',ca pl' (.cons ⟨t,.int p,.ref c,rfl,s2 _ _ r1,rfl,c,_,rfl,au,paired_ints _,hzx⟩ .nil)⟩) s2 (h ts bs)
end
end Fc
namespace K1
open PySem L2 Fc
open PySem.Spec hiding Row
open PyProof.Rows hiding St
open PySem.Builtin.Int (intBits)
section
variable {v:aw}{p:Int}{C:List Int}{y:eW}
theorem si (hv:aQ v)(p0:0<=p)(hR:dC v.2 p.toNat){g:Int->Int}(hE:dZ v p g){q k:Int}(hk:k∈fromF v p q):0<=br v p g k/\(∀x∈fromF v p q,k < x->br v p g k + g (a9 v k)<=br v p g x)/\br v p g k + g (a9 v k)<=((fromF v p q).map λj=>g (a9 v j)).sum:=by
 have gn:∀k∈fromF v p q,0<=g (a9 v k):=λk hk=>by
  obtain ⟨_,_,h1,h2,h3⟩:=bC hk
  have r:=hv.cL h3
  have a:=r.e0;have b:=r.en
  rw [h1] at b
  exact sM hv p0 hR hE _ _ (Nat.lt_succ_self _) a b
 have wa:∀(i:Nat) (x:Int),(fromF v p q)[i]?=some x->br v p g x=(((fromF v p q).take i).map λk=>g (a9 v k)).sum:=λi x hx=>by
  obtain ⟨_,_,e1,e2,_⟩:=bC (mem_of_getElem? hx)
  unfold br
  rw [if_pos e1,e2,before hx]
 have tk:∀(i:Nat) (k:Int),(fromF v p q)[i]?=some k->(((fromF v p q).take (i + 1)).map λk=>g (a9 v k)).sum=(((fromF v p q).take i).map λk=>g (a9 v k)).sum + g (a9 v k):=λi k hk=>by
  rw [take_succ,hk,map_append,sum_append];simp
 have mono:∀m,m < (fromF v p q).length->(((fromF v p q).take m).map λk=>g (a9 v k)).sum<=(((fromF v p q).take (m + 1)).map λk=>g (a9 v k)).sum:=λm hm=>by
  rw [tk m _ (getElem?_eq_getElem hm)]
  have:=gn _ (getElem_mem hm)
  omega
 have up:∀{i j:Nat},i<=j->j<=(fromF v p q).length->(((fromF v p q).take i).map λk=>g (a9 v k)).sum<=(((fromF v p q).take j).map λk=>g (a9 v k)).sum:=λhij hj=>p7 (g:=λi=>(((fromF v p q).take i).map λk=>g (a9 v k)).sum) mono hij hj
 obtain ⟨i,hi⟩:=mem_iff_getElem?.mp hk
 have il:=(List.getElem?_eq_some_iff.mp hi).1
 rw [wa i k hi]
 have h3:=tk i k hi
 refine ⟨?_,λx hx hlt=>?_,?_⟩
 ·have:=up (Nat.zero_le i) (by omega)
  simpa using this
 ·obtain ⟨j,hj⟩:=mem_iff_getElem?.mp hx
  have jl:=(List.getElem?_eq_some_iff.mp hj).1
  rw [wa j x hj,← h3]
  refine up ?_ (by omega)
  refine Nat.succ_le_of_lt (Nat.lt_of_not_le λz=>?_)
  have hp:=j5 v p q
  rcases Nat.lt_or_ge j i with y | y
  ·have a1:=List.getElem?_eq_some_iff.mp hj
   have a2:=List.getElem?_eq_some_iff.mp hi
   have:=List.pairwise_iff_getElem.mp hp j i a1.1 a2.1 y
   rw [a1.2,a2.2] at this
   omega
  ·have:j=i:=by omega
   subst this
   rw [hi] at hj;cases hj;omega
 ·rw [← h3]
  have:=up (i:=i + 1) (j:=(fromF v p q).length) (by omega) (Nat.le_refl _)
  rw [take_length] at this
  exact this
theorem rj {v:aw}(hv:aQ v){p:Int}(p0:0<=p)(hR:dC v.2 p.toNat){g:Int->Int}(hE:dZ v p g):∀(xs:List Int) (m:Nat) (q:Int),eu (fwd v.2 p) q < m->0<=q->q < v.1.getD p.toNat 0->bB v p q xs=true->0<=(xs.map (br v p g)).sum/\(xs.map (br v p g)).sum < g q/\eY v p g m q (xs.map (br v p g)).sum=xs
 | [],0,q,h,_,_,_=>by omega
 | _::_,0,q,h,_,_,_=>by omega
 | [],m + 1,q,h,q0,q1,ht=>by
   rw [bB] at ht
   have e:=of_decide_eq_true ht
   subst e
   refine ⟨by simp,by simp [hE.one],?_⟩
   unfold eY
   rw [if_pos rfl]
 | k::ks,m + 1,q,h,q0,q1,ht=>by
   rw [bB,Bool.and_eq_true,dX] at ht
   have hk:=of_decide_eq_true ht.1
   obtain ⟨k0,k1,kp,kq,kr⟩:=bC hk
   have R:=hv.cL kr
   have e0:=R.e0;have en:=R.en;have s1:=R.s1
   rw [kp] at en
   have hc:=kY hv p0 hR kr kp
   rw [kq] at hc
   obtain ⟨i0,i1,i2⟩:=rj hv p0 hR hE ks m (a9 v k) (by show eu _ (rowOf v k).2.2.1 < m;omega) e0 en ht.2
   obtain ⟨w0,w1,w2⟩:=si hv p0 hR hE hk
   have qn:q≠1:=by rw [← kq];exact s1
   have hg:g q=((fromF v p q).map λk=>g (a9 v k)).sum:=by
    rw [hE.step q q0 q1 qn]
    unfold goal
    rw [map_map];rfl
   rw [map_cons,sum_cons]
   refine ⟨by omega,by omega,?_⟩
   have hmost:most ((fromF v p q).filter (cB v p g (br v p g k + (ks.map (br v p g)).sum)))=k:=by
    refine ko (mem_filter.mpr ⟨hk,?_⟩) λx hx=>?_
    ·unfold cB
     rw [eO k0 k1];exact decide_eq_true (by omega)
    ·obtain ⟨hx1,hx2⟩:=mem_filter.mp hx
     obtain ⟨x0,x1,_⟩:=bC hx1
     unfold cB at hx2
     rw [eO x0 x1] at hx2
     have hx2:=of_decide_eq_true hx2
     refine Int.not_lt.mp λz=>?_
     have:=w1 x hx1 z
     omega
   unfold eY
   rw [if_neg qn,hmost,show br v p g k + (ks.map (br v p g)).sum - br v p g k=(ks.map (br v p g)).sum by omega,i2]
def gI (v:aw)(p:Int)(C:List Int)(k:Int):Int:=(((cy v p C).map λx:eW=>(x.2.2.1,x.2.2.2)).idxOf (k,true):Nat)
def cI (v:aw)(p:Int)(C:List Int)(k:Int):Int:=(((cy v p C).map λx:eW=>(x.2.2.1,x.2.2.2)).idxOf (k,false):Nat)
def cZ (v:aw)(p:Int)(C:List Int):List Int->List Int->List (List Int)
 | acc,[]=>[acc]
 | acc,k::ks=>if k∈C then (acc++[gI v p C k])::cZ v p C (if dst v k=0 then [] else [cI v p C k]) ks else cZ v p C (acc++[gI v p C k]) ks
def cJ (v:aw)(p:Int)(C:List Int):List (Int×Bool):=(cy v p C).map λx:eW=>(x.2.2.1,x.2.2.2)
theorem kt (v:aw)(p:Int)(C:List Int):cJ v p C=((bP v p C).map λk=>(k,true))++C.flatMap λk=>(if dst v k=0 then ([]:List (Int×Bool)) else [(k,false)])++[(k,true)]:=by
 unfold cJ cy
 rw [map_append,map_map,List.map_flatMap]
 congr 1
 congr 1
 funext k
 unfold cU
 split<;>rfl
theorem g4 {x:Int×Bool}(h:x∈cJ v p C):∃y:eW,(cy v p C)[(cJ v p C).idxOf x]?=some y/\(y.2.2.1,y.2.2.2)=x:=by
 have hl:=idxOf_lt_length_of_mem h
 have e:(cJ v p C)[(cJ v p C).idxOf x]?=some x:=by rw [getElem?_eq_getElem hl,List.getElem_idxOf hl]
 generalize (cJ v p C).idxOf x=n at e
 have e:((cy v p C).map λx:eW=>(x.2.2.1,x.2.2.2))[n]?=some x:=e
 rw [getElem?_map] at e
 cases ey:(cy v p C)[n]? with
 | none=>rw [ey] at e;cases e
 | some y=>rw [ey] at e;exact ⟨y,rfl,Option.some.inj e⟩
theorem oa (hy:y∈cy v p C)(ht:y.2.2.2=true):y.1=src v y.2.2.1/\y.2.1=if y.2.2.1∈C/\¬y.2.2.1∈bP v p C then 1 else if y.2.2.1∈bP v p C then dst v y.2.2.1 else y.2.1:=by
 unfold cy at hy
 rcases mem_append.mp hy with z | z
 ·obtain ⟨k,hk,rfl⟩:=mem_map.mp z
  refine ⟨rfl,?_⟩
  rw [if_neg (λw=>w.2 hk),if_pos hk]
 ·obtain ⟨k,hk,z⟩:=mem_flatMap.mp z
  unfold cU at z
  rcases mem_append.mp z with z | z
  ·split at z
   ·cases z
   ·rw [mem_singleton.mp z] at ht;cases ht
  ·rw [mem_singleton.mp z]
   refine ⟨rfl,?_⟩
   by_cases w:k∈bP v p C
   ·exact absurd hk ((c4.mp w).2)
   ·rw [if_pos ⟨hk,w⟩]
theorem tU (hy:y∈cy v p C)(ht:y.2.2.2=false):y.1=0/\y.2.1=dst v y.2.2.1:=by
 unfold cy at hy
 rcases mem_append.mp hy with z | z
 ·obtain ⟨k,hk,rfl⟩:=mem_map.mp z
  cases ht
 ·obtain ⟨k,hk,z⟩:=mem_flatMap.mp z
  unfold cU at z
  rcases mem_append.mp z with z | z
  ·split at z
   ·cases z
   ·rw [mem_singleton.mp z];exact ⟨rfl,rfl⟩
  ·rw [mem_singleton.mp z] at ht;cases ht
theorem Fp {j:Nat}(h:(cy v p C)[j]?=some y):rowOf (eI v p C) (j:Int)=(0,y.1,y.2.1, -1):=by
 unfold rowOf eI dF
 rw [getD_eq_getElem?_getD,show ((j:Int)).toNat=j by omega,getElem?_map,h];rfl
theorem sE {j:Nat}(h:(cy v p C)[j]?=some y):(j:Int)∈fromF (eI v p C) 0 y.1/\a9 (eI v p C) (j:Int)=y.2.1:=by
 have jl:=(List.getElem?_eq_some_iff.mp h).1
 have e:=Fp h
 refine ⟨?_,by unfold a9;rw [e]⟩
 unfold fromF
 refine mem_filter.mpr ⟨bq.mpr ⟨by omega,?_⟩,decide_eq_true (by rw [e])⟩
 show (j:Int) < ((dF v p C).length:Int)
 unfold dF
 rw [length_map];omega
theorem kX {k:Int}(h:k∈bP v p C):(k,true)∈cJ v p C:=by
 rw [kt];exact mem_append_left _ (mem_map.mpr ⟨k,h,rfl⟩)
theorem mz {k:Int}(h:k∈C):(k,true)∈cJ v p C:=by
 rw [kt];exact mem_append_right _ (mem_flatMap.mpr ⟨k,h,mem_append_right _ (mem_singleton.mpr rfl)⟩)
theorem jq {k:Int}(h:k∈C)(hd:dst v k≠0):(k,false)∈cJ v p C:=by
 rw [kt];exact mem_append_right _ (mem_flatMap.mpr ⟨k,h,mem_append_left _ (by rw [if_neg hd];exact mem_singleton.mpr rfl)⟩)
theorem kd {v:aw}{p:Int}{C:List Int}:∀(run acc:List Int) (q:Int),bB v p q run=true->(∀ys,bB (eI v p C) 0 0 (acc++ys)=bB (eI v p C) 0 q ys)->∀w∈cZ v p C acc run,bB (eI v p C) 0 0 w=true
 | [],acc,q,ht,ha,w,hw=>by
   rw [mem_singleton.mp hw]
   have:=ha []
   rw [append_nil] at this
   rw [this,bB]
   rw [bB] at ht;exact ht
 | k::ks,acc,q,ht,ha,w,hw=>by
   rw [bB,Bool.and_eq_true,dX] at ht
   have hk:=of_decide_eq_true ht.1
   have hsq:src v k=q:=(cF.mp hk).2.2.2
   rw [cZ] at hw
   by_cases hc:k∈C
   ·rw [if_pos hc] at hw
    obtain ⟨y,hy,ey⟩:=g4 (mz (v:=v) (p:=p) hc)
    have ek:y.2.2.1=k:=(Prod.mk.inj ey).1
    have et:y.2.2.2=true:=(Prod.mk.inj ey).2
    obtain ⟨l1,l2⟩:=oa (mem_of_getElem? hy) et
    rw [ek] at l1 l2
    have nk:¬k∈bP v p C:=λz=>(c4.mp z).2 hc
    rw [if_pos ⟨hc,nk⟩] at l2
    obtain ⟨f1,f2⟩:=sE hy
    rw [l1,hsq] at f1
    rw [l2] at f2
    rcases mem_cons.mp hw with rfl | hw
    ·rw [ha]
     show bB (eI v p C) 0 q [gI v p C k]=true
     rw [bB,dX]
     have:gI v p C k=(((cJ v p C).idxOf (k,true):Nat):Int):=rfl
     rw [this,decide_eq_true f1,f2,bB];rfl
    ·by_cases hd:dst v k=0
     ·rw [if_pos hd] at hw
      refine kd ks [] (a9 v k) ht.2 (λys=>?_) w hw
      have:a9 v k=0:=hd
      rw [this];rfl
     ·rw [if_neg hd] at hw
      obtain ⟨z,hz,ez⟩:=g4 (jq (v:=v) (p:=p) hc hd)
      have ezk:z.2.2.1=k:=(Prod.mk.inj ez).1
      have ezt:z.2.2.2=false:=(Prod.mk.inj ez).2
      obtain ⟨m1,m2⟩:=tU (mem_of_getElem? hz) ezt
      rw [ezk] at m2
      obtain ⟨g1,g2⟩:=sE hz
      rw [m1] at g1
      rw [m2] at g2
      refine kd ks [cI v p C k] (a9 v k) ht.2 (λys=>?_) w hw
      show bB (eI v p C) 0 0 (cI v p C k::ys)=_
      have:cI v p C k=(((cJ v p C).idxOf (k,false):Nat):Int):=rfl
      rw [bB,dX,this,decide_eq_true g1,g2];rfl
   ·rw [if_neg hc] at hw
    have hkn:k∈bP v p C:=c4.mpr ⟨by rw [hsq];exact hk,hc⟩
    obtain ⟨y,hy,ey⟩:=g4 (kX hkn)
    have ek:y.2.2.1=k:=(Prod.mk.inj ey).1
    have et:y.2.2.2=true:=(Prod.mk.inj ey).2
    obtain ⟨l1,l2⟩:=oa (mem_of_getElem? hy) et
    rw [ek] at l1 l2
    rw [if_neg (λz=>hc z.1),if_pos hkn] at l2
    obtain ⟨f1,f2⟩:=sE hy
    rw [l1,hsq] at f1
    rw [l2] at f2
    refine kd ks (acc++[gI v p C k]) (a9 v k) ht.2 (λys=>?_) w hw
    rw [append_assoc,ha]
    show bB (eI v p C) 0 q (gI v p C k::ys)=_
    have:gI v p C k=(((cJ v p C).idxOf (k,true):Nat):Int):=rfl
    rw [bB,dX,this,decide_eq_true f1,f2];rfl
end
end K1
namespace Fc
open PySem PySem.Spec L2
open PyProof.Rows hiding St
section
variable {X:Cx}{Γ Γ1:Ga}{H0 R0:Hp}
end
section
variable {P:Program}{w:World}{K:PySem.W.Frag}{mg:Str->Option Value}{base:Heap}{N:List Str}{qual:Str}{scope:Scope}{f:Addr}{cd:Value}{A:Around}{outer:List Env}{s:Shared}{H R:Hp}{E:XK}{Γ Γ1:Ga}
end
end Fc
namespace Fc
open PySem PySem.Spec PySem.W PySem.Calls L2
open PyProof.Rows hiding St
section
variable {X:Cx}{Γ Γ1:Ga}{ea D:Addr}{oe:Obj}{pins:List (Addr×Obj)}{σ:St}{H:Hp}{s:Shared}
end
end Fc
namespace Fc
open PySem PySem.Spec L2
open PyProof.Rows hiding St
section
variable {X:Cx}{Γ Γ1 Γ2 Γ3:Ga}{α β γ δ:Type}{N:Ga->Prop}{T:RT}
end
section
variable {X:Cx}{Γ Γ1 Γ2 Γ3:Ga}{α β γ δ:Type}{N:Ga->Prop}{T:RT}
theorem wC (i:Nat){y:Str}{py lpos spos:Pos}{e:Expr}{r:aD α}{ys:List α}(he:aY X e Γ r ys Γ1)(h:∀a b,N (Γ1.set i (.ob (d7 r a [b] [ys]))))
 (hs1:starEach [e] X.env=(false,eval e X.env)::starEach [] X.env:=by rfl) (hN:X.N.Nodup:=by first | assumption | decide) (hi:X.N[i]?=some y:=by rfl) (hx:autoParam (Loc X.env.scope y) vA2)
 (hs:swapsWith (.List [e] lpos) (some (.Name y py)) spos.line X.env=pure false:=by rfl) (hf:autoParam (X.fn y=true∨X.env.scope.names.lookup y=some .local) vA3):W1 X (.Assign [.Name y py] (.List [e] lpos) spos) Γ N T:=λσ H0 R0 H R E D dn dr=>by
 refine sS (d6 hN hi hx (jO (aL aE bz hs1)) hs hf) (he σ H0 R0 H R E _ λb vs H1 R1 E1 s1 hb hRb h0b offb pp hz=>⟨by show 1<=sizeLine;decide,λa ha=>?_⟩)
 have E2:=E1.grow (Ext.cn E1.sub ha (.lst [.ref b]))
 have ab:b≠a:=λz=>by rw [z,ha] at hb;cases hb
 refine dn _ _ R1 _ (E2.setG (v:=.ref a) (en:=.ob (d7 r a [b] [ys])) i ⟨⟨.ref a,rfl,rfl,au,⟨rfl,λj c zs h1 h2=>?_⟩,?_⟩,λc hc=>?_⟩ (λc hc=>?_) λc hc j e _ qj w=>?_) s1 (h a b)
 ·match j,h1,h2 with
  | 0,h1,h2=>
    have h1:b=c:=Option.some.inj h1
    have h2:ys=zs:=Option.some.inj h2
    subst h1;subst h2
    exact ⟨vs,(aA ab).trans hb,pp⟩
  | j + 1,h1,h2=>simp at h1
 ·refine nodup_cons.mpr ⟨λz=>ab (mem_singleton.mp z).symm,by simp⟩
 ·rcases mem_cons.mp hc with rfl | hc
  ·exact E1.sub.free ha
  ·rw [mem_singleton.mp hc];exact hRb
 ·rcases mem_cons.mp hc with rfl | hc
  ·exact E1.ext.h.free ha
  ·rw [mem_singleton.mp hc];exact h0b
 ·rcases mem_cons.mp hc with rfl | hc
  ·exact E1.off ha j e qj w
  ·rw [mem_singleton.mp hc] at w;exact offb j e qj w
theorem BK {c a b:Expr}{pos:Pos}{k:Bool}{r:aD α}{xs:List α}(hc:TV X c Γ k Γ1)(ha:k=true->aY X a Γ1 r xs Γ2)(hb:k=false->aY X b Γ1 r xs Γ2):aY X (.IfExp c a b pos) Γ r xs Γ2:=λσ H0 R0 H R E Q q=>by
 refine eS (w9 i5 aE aE) (hc σ H0 R0 H R E _ λH1 R1 E1 s1=>?_)
 cases k with
 | true=>exact ha rfl σ H0 R0 H1 R1 E1 Q λa vs H' R' E' s'=>q a vs H' R' E' (s1.trans s')
 | false=>exact hb rfl σ H0 R0 H1 R1 E1 Q λa vs H' R' E' s'=>q a vs H' R' E' (s1.trans s')
end
end Fc
namespace K1
open PySem L2 Fc
open PySem.Spec hiding Row
open PyProof.Rows hiding St
open PySem.Builtin.Int (intBits)
theorem xo {α:Type} [BEq α] [LawfulBEq α]:∀{l:List α} (r:List α) {x:α},x∈l->(l++r).idxOf x=l.idxOf x
 | a::l,r,x,h=>by
   rw [cons_append,List.idxOf_cons,List.idxOf_cons]
   cases e:a==x with
   | true=>rfl
   | false=>
     have ne:¬a=x:=λz=>by rw [z,beq_self_eq_true] at e;cases e
     rw [xo r (l:=l) (x:=x) ((mem_cons.mp h).resolve_left λz=>ne z.symm)]
theorem sO {α:Type} [BEq α] [LawfulBEq α]{l:List α}{x:α}(h:x∈l):l[l.idxOf x]?=some x/\∀m,m < l.idxOf x->l[m]?≠some x:=by
 have hl:=idxOf_lt_length_of_mem h
 refine ⟨by rw [getElem?_eq_getElem hl,List.getElem_idxOf hl],λm hm e=>?_⟩
 have ml:=(List.getElem?_eq_some_iff.mp e).1
 have:=xo (l.drop (m + 1)) (l:=l.take (m + 1)) (x:=x) (mem_of_getElem? (show (l.take (m + 1))[m]?=some x by rw [getElem?_take,if_pos (by omega)];exact e))
 rw [List.take_append_drop] at this
 have h2:=idxOf_lt_length_of_mem (l:=l.take (m + 1)) (a:=x) (mem_of_getElem? (show (l.take (m + 1))[m]?=some x by rw [getElem?_take,if_pos (by omega)];exact e))
 rw [length_take] at h2
 omega
section
variable {P:Program}{w:World}{K:PySem.W.Frag}{mg:Str->Option Value}{base:Heap}{f:Addr}{fd:FuncData}
theorem lF {v:aw}{p:Int}{C:List Int}:∀(run acc:List Int),(cZ v p C acc run).length<=run.length + 1/\∀w∈cZ v p C acc run,w.length<=acc.length + run.length + 1
 | [],acc=>⟨by rw [cZ];simp,λw hw=>by rw [cZ] at hw;rw [mem_singleton.mp hw];simp⟩
 | k::ks,acc=>by
   rw [cZ]
   split
   ·obtain ⟨a,b⟩:=lF (v:=v) (p:=p) (C:=C) ks (if dst v k=0 then [] else [cI v p C k])
    refine ⟨by rw [length_cons,length_cons];omega,λw hw=>?_⟩
    rcases mem_cons.mp hw with rfl | hw
    ·simp only [length_append,length_cons,length_nil];omega
    ·have:=b w hw
     have:(if dst v k=0 then ([]:List Int) else [cI v p C k]).length<=1:=by split<;>simp
     rw [length_cons];omega
   ·obtain ⟨a,b⟩:=lF (v:=v) (p:=p) (C:=C) ks (acc++[gI v p C k])
    refine ⟨by rw [length_cons];omega,λw hw=>?_⟩
    have:=b w hw
    rw [length_append,length_singleton] at this
    rw [length_cons];omega
theorem yA {n:Nat}:dP (n + 1) (-1)=some n:=by
 unfold dP
 rw [if_neg (by decide)]
 first | (rw [if_pos (by omega)];congr 1;omega) | (simp;omega)
end
end K1
namespace Fc
open PySem PySem.Spec PySem.W PySem.Calls L2
open PyProof.Rows hiding St
section
variable {X:Cx}{Γ Γ1 Γ2 Γ3:Ga}{α β γ δ:Type}{N:Ga->Prop}{T:RT}
variable {p1:Pos}
theorem qY (i:Nat){x:Str}{p2 pos:Pos}(h:N (Γ.set i (.di [])))
 (hN:X.N.Nodup:=by first | assumption | decide) (hi:X.N[i]?=some x:=by rfl) (hx:autoParam (Loc X.env.scope x) vA2)
 (hs:swapsWith (.Dict [] [] p2) (some (.Name x p1)) pos.line X.env=pure false:=by rfl) (hf:autoParam (X.fn x=true∨X.env.scope.names.lookup x=some .local) vA3):
 W1 X (.Assign [.Name x p1] (.Dict [] [] p2) pos) Γ N T:=λσ H0 R0 H R E D dn dr=>by
 refine sS (d6 hN hi hx wk hs hf) λp hp=>?_
 have E1:=E.grow (Ext.cn E.sub hp (.dK (cK [])))
 exact dn _ _ R _ (E1.my (u:=.dK (cK [])) (en:=.di []) i ⟨p,rfl,au,E.sub.free hp⟩ (E.ext.h.free hp) λj e _ q w=>E.off hp j e q w) (aj.refl _) h
theorem mB {a:Expr}{j:Nat}{pos:Pos}{x:eW}(ha:EV X a Γ ic x Γ1):EV X (.Subscript a (.Constant (.int 2) j p1) pos) Γ ae x.2.2.1 Γ1:=gH ha λR v ⟨p,e,h⟩=>⟨p,_,_,e,h,rfl,rfl⟩
theorem qS {a:Expr}{j:Nat}{pos:Pos}{x:eW}(ha:EV X a Γ ic x Γ1):EV X (.Subscript a (.Constant (.int 3) j p1) pos) Γ aW x.2.2.2 Γ1:=gH ha λR v ⟨p,e,h⟩=>⟨p,_,_,e,h,rfl,rfl⟩
end
end Fc
namespace K1
open PySem L2 Fc
open PySem.Spec hiding Row
open PyProof.Rows hiding St
open PySem.Builtin.Int (intBits)
section
variable {C:List Int}{i:Nat}
theorem nv:∀(ns:List Int),ns≠[]->most ns∈ns/\∀a∈ns,a<=most ns
 | [],h=>absurd rfl h
 | [x],_=>by simp [most]
 | x::y::r,_=>by
   obtain ⟨h1,h2⟩:=nv (y::r) (by simp)
   have e:most (x::y::r)=max x (most (y::r)):=rfl
   rw [e]
   refine ⟨?_,λa ha=>?_⟩
   ·rcases Int.le_total x (most (y::r)) with h | h
    ·rw [Int.max_eq_right h];exact mem_cons_of_mem _ h1
    ·rw [Int.max_eq_left h];exact mem_cons_self
   ·rcases mem_cons.mp ha with rfl | ha
    ·exact Int.le_max_left _ _
    ·exact Int.le_trans (h2 a ha) (Int.le_max_right _ _)
noncomputable def rZ (v:aw)(p:Int)(ns:List Int):Bool:=((ns.filter λ_=>true).map λn=>true&&(decide (0<=n)&&decide (n < onG v p 0))).all id
theorem sN {h:Int->List (Int×Bool)}(h1:∀k,(h k).Nodup)(h2:∀k,∀x∈h k,x.1=k):C.Nodup->(C.flatMap h).Nodup:=by
 induction C with
 | nil=>intro _;exact nodup_nil
 | cons a C ih=>
   intro hn
   obtain ⟨n1,n2⟩:=nodup_cons.mp hn
   rw [flatMap_cons,nodup_append]
   refine ⟨h1 a,ih n2,λx hx y hy e=>?_⟩
   subst e
   obtain ⟨c,hc,hy⟩:=mem_flatMap.mp hy
   rw [← h2 a x hx,h2 c x hy] at n1
   exact n1 hc
theorem rO {v:aw}{p:Int}(hn:C.Nodup):(cJ v p C).Nodup:=by
 rw [kt,nodup_append]
 refine ⟨?_,?_,λx hx y hy e=>?_⟩
 ·have:(bP v p C).Nodup:=(du _).filter _
  exact List.Pairwise.map _ (λa b h e=>h (Prod.mk.inj e).1) this
 ·refine sN (λk=>?_) (λk x hx=>?_) hn
  ·split<;>simp
  ·rcases mem_append.mp hx with z | z
   ·split at z
    ·cases z
    ·rw [mem_singleton.mp z]
   ·rw [mem_singleton.mp z]
 ·subst e
  obtain ⟨k,hk,e⟩:=mem_map.mp hx
  obtain ⟨c,hc,hy⟩:=mem_flatMap.mp hy
  have:x.1=c:=by
   rcases mem_append.mp hy with z | z
   ·split at z
    ·cases z
    ·rw [mem_singleton.mp z]
   ·rw [mem_singleton.mp z]
  rw [← e] at this
  have this:k=c:=this
  rw [this] at hk
  exact (c4.mp hk).2 hc
theorem A3 {α:Type} [BEq α] [LawfulBEq α]{l:List α}(hn:l.Nodup){x:α}(h:l[i]?=some x):l.idxOf x=i:=by
 obtain ⟨j1,j2⟩:=sO (mem_of_getElem? h)
 have a:=(List.getElem?_eq_some_iff.mp h).1
 have b:=(List.getElem?_eq_some_iff.mp j1).1
 exact (getElem_inj hn).mp ((List.getElem?_eq_some_iff.mp j1).2.trans (List.getElem?_eq_some_iff.mp h).2.symm)
def jJ (L:List (Int×Bool))(b:Bool)(G:List (Int×Int))(i:Nat):Prop:=∀k,aZ G k=if (k,b)∈L.take i then some ((L.idxOf (k,b):Nat):Int) else none
theorem jJ.put {L:List (Int×Bool)}(hn:L.Nodup){b:Bool}{G:List (Int×Int)}(h:jJ L b G i){k0:Int}(hx:L[i]?=some (k0,b)):jJ L b (dz G k0 (i:Int)) (i + 1):=λk=>by
 have tk:L.take (i + 1)=L.take i++[(k0,b)]:=by rw [take_succ,hx];rfl
 rw [jm,tk]
 by_cases e:k=k0
 ·subst e
  rw [if_pos rfl,if_pos (mem_append_right _ (mem_singleton.mpr rfl)),A3 hn hx]
 ·rw [if_neg e,h k]
  have:(k,b)∈L.take i++[(k0,b)]↔(k,b)∈L.take i:=by
   rw [mem_append,mem_singleton]
   exact ⟨λz=>z.resolve_right λy=>e (Prod.mk.inj y).1,.inl⟩
  by_cases z:(k,b)∈L.take i
  ·rw [if_pos z,if_pos (this.mpr z)]
  ·rw [if_neg z,if_neg (λy=>z (this.mp y))]
theorem jJ.skip {L:List (Int×Bool)}{b:Bool}{G:List (Int×Int)}(h:jJ L b G i){x:Int×Bool}(hx:L[i]?=some x)(hb:x.2≠b):jJ L b G (i + 1):=λk=>by
 have tk:L.take (i + 1)=L.take i++[x]:=by rw [take_succ,hx];rfl
 rw [h k,tk]
 have:(k,b)∈L.take i++[x]↔(k,b)∈L.take i:=by
  rw [mem_append,mem_singleton]
  exact ⟨λz=>z.resolve_right λy=>hb (by rw [← y]),.inl⟩
 by_cases z:(k,b)∈L.take i
 ·rw [if_pos z,if_pos (this.mpr z)]
 ·rw [if_neg z,if_neg (λy=>z (this.mp y))]
theorem mP {v:aw}{p:Int}{C:List Int}:∀{run:List Int} {q:Int},bB v p q run=true->∀k∈run,k∈bP v p C∨k∈C
 | x::xs,q,h,k,hk=>by
   rw [bB,Bool.and_eq_true,dX] at h
   rcases mem_cons.mp hk with rfl | hk
   ·have hx:=of_decide_eq_true h.1
    by_cases c:k∈C
    ·exact .inr c
    ·exact .inl (c4.mpr ⟨by rw [(cF.mp hx).2.2.2];exact hx,c⟩)
   ·exact mP h.2 k hk
theorem tX {v:aw}{p:Int}{k:Int}(hk:k∈C):(k,false)∈cJ v p C↔dst v k≠0:=by
 constructor
 ·intro h
  obtain ⟨y,hy,ey⟩:=g4 h
  have:=mem_of_getElem? hy
  unfold cy at this
  rcases mem_append.mp this with z | z
  ·obtain ⟨x,_,rfl⟩:=mem_map.mp z
   exact absurd (Prod.mk.inj ey).2 (λh=>Bool.noConfusion h)
  ·obtain ⟨c,_,z⟩:=mem_flatMap.mp z
   unfold cU at z
   rcases mem_append.mp z with z | z
   ·split at z
    ·cases z
    ·rename_i hd
     rw [mem_singleton.mp z] at ey
     have:=(Prod.mk.inj ey).1
     have this:c=k:=this
     rw [← this];exact hd
   ·rw [mem_singleton.mp z] at ey
    exact absurd (Prod.mk.inj ey).2 (λh=>Bool.noConfusion h)
 ·exact jq hk
end
section
variable {P:Program}{w:World}{K:PySem.W.Frag}{mg:Str->Option Value}{base:Heap}{f:Addr}{fd:FuncData}
abbrev pB:Stmt:=top rK
abbrev AX:List Str:=["web","part","numbers","known","count","leaving"]
theorem Aa:aB AX ["web","part","numbers"] (ah pB):=fS0
def Er:bX:=λK ps T=>∃(v:aw) (p:Int) (ns:List Int),ps=[⟨bO,v⟩,⟨ae,p⟩,⟨af ae,ns⟩]/\aQ v/\0<=p/\p < (v.1.length:Int)/\dC v.2 p.toNat/\ns.length<=3000/\rZ v p ns=true/\T=fR K (af ae) λL=>∃g,dZ v p g/\L=ns.map (eY v p g 17 0)
theorem Ce (M:bN mg)(CI:ay P w K mg base "is_whole" 1 (aF uw K))(CT:ay P w K mg base "worths_in" 3 (aF Aw K))(CN:ay P w K mg base "ways_on" 2 (aF zI K))(CL:ay P w K mg base "rows_leaving" 1 (aF (uM true) K))(CB:ay P w K mg base "way_by" 1 (aF ES K))(F:bI K "ways_of" "ways_of" pB f fd)(hm:mg "ways_of"=some (.ref f))(hb:Binds K fd ["web","part","numbers"] []):ay P w K mg base "ways_of" 11 (aF Er K):=by
 have nd:=Aa.nd
 have nd1:List.Nodup [("number":Str),"count"]:=by decide
 have nd2:List.Nodup [("number":Str),"known","leaving","web"]:=by decide
 have CI:=CI.mono (show 1<=10 by decide)
 have CT:=CT.mono (show 3<=10 by decide)
 have CN:=CN.mono (show 2<=10 by decide)
 have CL:=CL.mono (show 1<=10 by decide)
 have CB:=CB.mono (show 1<=10 by decide)
 obtain ⟨t2,hB⟩:=M.begin_
 refine bG F Aa hm hb (λqs T ⟨_,_,_,e,_⟩=>by rw [e];rfl) (λcdv A outer s H E qs T hr hS=>?_)
 obtain ⟨v,p,ns,rfl,hv,p0,p1,hR,hl,hc,rfl⟩:=hS
 have hu:(A.deeper (envOfC "ways_of" (ah pB) s.heap.objs.size f cdv)).units + 1 < cLine:=Nat.lt_of_le_of_lt (Nat.add_le_add_left (by decide:1<=64) _) hr.units
 have rl:=hv.rl
 have hs:=hv.sz (v.1.getD p.toNat 0) (by rw [getD_eq_getElem?_getD,getElem?_eq_getElem (by omega)];exact getElem_mem _)
 change WS _ _ [.im (av (af ae) (af ax)) v,.im ae p,.im (af ae) ns,.no,.no,.no] _ _
 refine ai (m7 3 CT hr (ag (aa 0 rfl) (ag (aa 1 rfl) aq)) ⟨v,p,rfl,hv,p0,p1,hR,rfl⟩ ?_)
 rintro ws ⟨g,hE,rfl⟩ hz
 refine WS.freeze 3 rfl hz ?_
 refine ai (bg 4 (y:=onG v p 0) (rJ hu CN hr (ag (aa 0 rfl) (ag (aa 1 rfl) aq)) ⟨v,p,rfl,hv,p0,p1,hR,rfl⟩ (bE hB) (λF ⟨h1,h2⟩=>fi.get hv p0 p1 hR h1 h2 (by omega) (by omega))) ?_)
 refine ai (bL (bY (bV (EV.cast (y':=rZ v p ns) (fe M.all (aY.im (bF (own:=["number"]) (fr:=["count"]) (ix:=[4]) (ra:=ae) (rb:=aW) (p:=λ_=>true) (f:=λn=>true&&(decide (0<=n)&&decide (n < onG v p 0))) (bj (so:=ah pB) (N0:=AX) rfl rfl (λx h=>aT h) (by decide +kernel)) (aR (aa 2 rfl))
  (λC s H ex=>aG 0) (λx=>⟨.inr rfl,.inl rfl,trivial⟩) (λC s H ex x hx=>cf) (λC s H ex x hx h=>eF (bA CI hr (ag (aa 0 rfl) aq) ⟨x,rfl,rfl⟩) (λ_=>eG (iw gm e7 ar (aa 0 rfl) (aa 1 rfl))))))) rfl))) (λh=>by rw [hc] at h;exact absurd h (by decide)) (λ_=>bu ?_))
 refine ai (bg 5 (aY.im (cT CL hr (ag (aa 0 rfl) (ag (aa 1 rfl) aq)) ⟨v,p,rfl,hv,p0,p1,rfl⟩)) ?_)
 have ok:∀x∈ns,0<=x/\x < g 0:=λx hx=>by
  unfold rZ at hc
  have:=all_map.mp hc x hx
  have:=Bool.and_eq_true_iff.mp (by simpa using this:(decide (0<=x)&&decide (x < onG v p 0))=true)
  have e:=hE.uniq hv p0 hR (i9 hv p0 p1 hR) 0 (by decide) (by omega)
  rw [e]
  exact ⟨of_decide_eq_true this.1,of_decide_eq_true this.2⟩
 refine ak (lP (bF (own:=["number"]) (fr:=["known","leaving","web"]) (ix:=[3,5,0]) (ra:=ae) (rb:=af ae) (p:=λ_=>true) (f:=eY v p g 17 0) (bj (so:=ah pB) (N0:=AX) rfl rfl (λx h=>aT h) (by decide +kernel)) (aR (aa 2 rfl))
  (λC s H ex=>aG 0) (λx=>⟨.inr rfl,.inl rfl,.inl rfl,.inl rfl,trivial⟩) (λC s H ex x hx=>cf) (λC s H ex x hx h=>bA CB hr (ag (aa 3 rfl) (ag (aa 1 rfl) (ag (aa 2 rfl) (ag (aa 0 rfl) aq)))) ⟨v,p,g,x,rfl,hv,p0,p1,hR,hE,(ok x hx).1,(ok x hx).2,rfl⟩)) ⟨g,hE,?_⟩)
 rw [filter_eq_self.mpr (by simp)]
theorem wO {v:aw}(hv:aQ v){p:Int}(p0:0<=p)(p1:p < (v.1.length:Int))(hR:dC v.2 p.toNat){g g':Int->Int}(h:dZ v p g)(h':dZ v p g'):∀(m:Nat) (q left:Int),eY v p g m q left=eY v p g' m q left:=by
 have e:=mf hv p0 p1 hR h h'
 have en:∀left,cB v p g left=cB v p g' left:=λleft=>by funext x;unfold cB;rw [e]
 intro m
 induction m with
 | zero=>intro q left;rfl
 | succ m ih=>
   intro q left
   unfold eY
   rw [en left]
   by_cases z:q=1
   ·rw [if_pos z,if_pos z]
   ·rw [if_neg z,if_neg z]
    have hw:br v p g (most ((fromF v p q).filter (cB v p g' left)))=br v p g' (most ((fromF v p q).filter (cB v p g' left))):=by
     generalize hmm:most ((fromF v p q).filter (cB v p g' left))=x
     by_cases b:0<=x/\x < (v.2.length:Int)
     ·rw [← eO b.1 b.2,← eO b.1 b.2,e]
     ·by_cases hn:(fromF v p q).filter (cB v p g' left)=[]
      ·rw [hn] at hmm
       have hx:x=most []:=hmm.symm
       exact absurd ⟨by rw [hx];decide,by rw [hx];have:=hv.rl;show (0:Int) < _;omega⟩ b
      ·have:=(nv _ hn).1
       rw [hmm] at this
       obtain ⟨a1,a2,_⟩:=bC (mem_filter.mp this).1
       exact absurd ⟨a1,a2⟩ b
    rw [hw,ih]
abbrev uR:Stmt:=top uN
abbrev nFN:List Str:=["web","part","rows","going","coming","place","row","found","told","number"]
theorem zV:aB nFN ["web","part","rows"] (ah uR):=fS0
def EO:bX:=λK ps T=>∃(v:aw) (p:Int) (run:List Int),ps=[⟨bO,v⟩,⟨ae,p⟩,⟨af ae,run⟩]/\aQ v/\0<=p/\p < (v.1.length:Int)/\run.length<=900/\(∀k∈run,k∈bP v p (cutC v p)∨k∈cutC v p)/\T=fR K (af ae) (· =cZ v p (cutC v p) [] run)
theorem Di (M:bN mg)(CY:ay P w K mg base "laid_out" 9 (aF xw K))(CC:ay P w K mg base "cuts" 8 (aF xZ K))(F:bI K "fallen" "fallen" uR f fd)(hm:mg "fallen"=some (.ref f))(hb:Binds K fd ["web","part","rows"] []):ay P w K mg base "fallen" 10 (aF EO K):=by
 have nd:=zV.nd
 have CC:=CC.mono (show 8<=9 by decide)
 refine bG F zV hm hb (λqs T ⟨_,_,_,e,_⟩=>by rw [e];rfl) (λcdv A outer s H E qs T hr hS=>?_)
 obtain ⟨v,p,run,rfl,hv,p0,p1,hl,hrun,rfl⟩:=hS
 have hu:(A.deeper (envOfC "fallen" (ah uR) s.heap.objs.size f cdv)).units + 1 < cLine:=Nat.lt_of_le_of_lt (Nat.add_le_add_left (by decide:1<=64) _) hr.units
 have rl:=hv.rl
 obtain ⟨lx,cx,g,hC,hnd,hlen⟩:=gA hv p0 p1
 have ll:=mL (v:=v) (p:=p) rl.2 hlen
 have kn:=rO (v:=v) (p:=p) hnd
 have kll:(cJ v p (cutC v p)).length=(cy v p (cutC v p)).length:=length_map _
 change WS _ _ [.im (av (af ae) (af ax)) v,.im ae p,.im (af ae) run,.no,.no,.no,.no,.no,.no,.no] _ _
 refine ai (qY 3 (ai (qY 4 ?_)))
 refine ai (cv (r:=av ae ic) (λi Γ=>∃G1 G2 v5 v6,Γ=[.im (av (af ae) (af ax)) v,.im ae p,.im (af ae) run,.di (cQ G1),.di (cQ G2),v5,v6,.no,.no,.no]/\jJ (cJ v p (cutC v p)) true G1 i/\jJ (cJ v p (cutC v p)) false G2 i/\G1.length<=i/\G2.length<=i)
  (iQ M.enumerate (aY.im (cT CY hr (ag (aa 0 rfl) (ag (aa 1 rfl) aq)) ⟨v,p,rfl,hv,p0,p1,rfl⟩))) (fG 5 6) ⟨[],[],_,_,rfl,λk=>by simp [aZ],λk=>by simp [aZ],Nat.le_refl _,Nat.le_refl _⟩ ?_ ?_)
 ·rintro i x Γ hx ⟨G1,G2,v5,v6,rfl,h1,h2,l1,l2⟩
  obtain ⟨e1,e2⟩:=hU hx
  obtain ⟨q,y⟩:=x
  have e1:q=(i:Int):=e1
  have e2:(cy v p (cutC v p))[i]?=some y:=e2
  subst e1
  have il:=(List.getElem?_eq_some_iff.mp e2).1
  have ek:(cJ v p (cutC v p))[i]?=some (y.2.2.1,y.2.2.2):=by
   show ((cy v p (cutC v p)).map λx:eW=>(x.2.2.1,x.2.2.2))[i]?=_
   rw [getElem?_map,e2];rfl
  have pl:∀(G:List (Int×Int)) (k z:Int),(dz G k z).length<=G.length + 1:=λG k z=>by
   unfold dz
   split
   ·rw [length_map];omega
   ·rw [length_append];show _ + 1<=_;omega
  refine ak (bL (bV (qS (aa 6 rfl))) (λh=>?_) (λh=>?_))
  ·have h:y.2.2.2=true:=h
   rw [h] at ek
   refine ak (lU 3 hu (mB (aa 6 rfl)) (aa 5 rfl) rfl (Nat.lt_of_le_of_lt (show G1.length<=1000 by omega) (by decide)) ?_)
   exact ⟨dz G1 y.2.2.1 (i:Int),G2,_,_,rfl,h1.put kn ek,h2.skip ek (λh=>Bool.noConfusion h),by have:=pl G1 y.2.2.1 (i:Int);omega,by omega⟩
  ·have h:y.2.2.2=false:=h
   rw [h] at ek
   refine ak (lU 4 hu (mB (aa 6 rfl)) (aa 5 rfl) rfl (Nat.lt_of_le_of_lt (show G2.length<=1000 by omega) (by decide)) ?_)
   exact ⟨G1,dz G2 y.2.2.1 (i:Int),_,_,rfl,h1.skip ek (λh=>Bool.noConfusion h),h2.put kn ek,by omega,by have:=pl G2 y.2.2.1 (i:Int);omega⟩
 rintro Γ ⟨G1,G2,v5,v6,rfl,h1,h2,_,_⟩
 rw [dw,← kll] at h1 h2
 have g1:∀k,aZ G1 k=if (k,true)∈cJ v p (cutC v p) then some (gI v p (cutC v p) k) else none:=λk=>by have:=h1 k;rw [take_length] at this;exact this
 have g2:∀k,aZ G2 k=if (k,false)∈cJ v p (cutC v p) then some (cI v p (cutC v p) k) else none:=λk=>by have:=h2 k;rw [take_length] at this;exact this
 refine ai (bg 7 (aY.im (iE (ys:=cutC v p) CC hr (ag (aa 0 rfl) (ag (aa 1 rfl) aq)) ⟨v,p,rfl,hv,p0,p1,rfl⟩ λz hz=>by
  obtain ⟨l,c,h,e⟩:=hz
  rw [← ki h,← e])) ?_)
 refine ai (wC 8 (r:=ae) (aO bh (by decide)) λa b=>?_)
 generalize cutC v p=C at hrun g1 g2 ⊢
 have ixl:∀(pre:List (List Int)) (acc:List Int),dP (pre++[acc]).length (-1)=some pre.length/\(pre++[acc])[pre.length]?=some acc:=λpre acc=>by
  refine ⟨by rw [length_append];exact yA,by rw [getElem?_append_right (Nat.le_refl _),Nat.sub_self];rfl⟩
 have sl:∀(pre:List (List Int)) (acc y:List Int),(pre++[acc]).set pre.length y=pre++[y]:=λpre acc y=>by
  rw [List.set_append_right _ _ (Nat.le_refl _),Nat.sub_self];rfl
 refine ai (cv (r:=ae) (λi Γ=>∃as pre acc v9,Γ=[.im (av (af ae) (af ax)) v,.im ae p,.im (af ae) run,.di (cQ G1),.di (cQ G2),v5,v6,.im (af ae) C,.ob (d7 ae a as (pre++[acc])),v9]/\pre++cZ v p C acc (run.drop i)=cZ v p C [] run/\pre.length<=i/\acc.length<=i + 1) (aR (aa 2 rfl)) (aG 9) ⟨[b],[],[],_,rfl,rfl,Nat.le_refl _,by simp⟩ ?_ ?_)
 ·rintro i k Γ hk ⟨as,pre,acc,v9,rfl,hp,pl,al⟩
  have il:=(List.getElem?_eq_some_iff.mp hk).1
  have hd:run.drop i=k::run.drop (i + 1):=by
   obtain ⟨h1,h2⟩:=List.getElem?_eq_some_iff.mp hk
   rw [drop_eq_getElem_cons h1,h2]
  rw [hd,cZ] at hp
  obtain ⟨ix1,ix2⟩:=ixl pre acc
  have az:acc.length < sizeLine:=Nat.lt_of_le_of_lt (show acc.length<=1000 by omega) (by decide)
  have hkk:(k,true)∈cJ v p C:=(hrun k (mem_of_getElem? hk)).elim kX mz
  have gg:aZ G1 k=some (gI v p C k):=by rw [g1,if_pos hkk]
  refine ai (lM 8 (dt ar) (kF 3 hu (aa 9 rfl) rfl gg) rfl ix1 ix2 az ?_)
  rw [sl]
  refine ak (bL (bc wY (aa 9 rfl) (aa 7 rfl)) (λh=>?_) (λh=>bu ?_))
  ·have hkc:k∈C:=of_decide_eq_true h
   rw [if_pos hkc] at hp
   have gc:dst v k≠0->aZ G2 k=some (cI v p C k):=λz=>by rw [g2,if_pos (jq hkc z)]
   refine ak (rT 8 (r:=ae) (Γ1:=[.im (av (af ae) (af ax)) v,.im ae p,.im (af ae) run,.di (cQ G1),.di (cQ G2),v5,v6,.im (af ae) C,.ob (d7 ae a as (pre++[acc++[gI v p C k]])),.im ae k]) (ys:=if dst v k=0 then [] else [cI v p C k]) (BK (kH 4 false hu (aa 9 rfl) rfl) (λh=>?t1) (λh=>?t2)) rfl rfl (Nat.lt_of_le_of_lt (show _<=1000 by rw [length_append];show _ + 1<=_;omega) (by decide)) λc=>?t3)
   case t1=>
    have h:(aZ G2 k).isSome=true:=by rw [← fE];exact h
    have hd0:dst v k≠0:=by
     rw [g2] at h
     by_cases z:(k,false)∈cJ v p C
     ·exact (tX hkc).mp z
     ·rw [if_neg z] at h;cases h
    rw [if_neg hd0]
    exact aO (aN (kF 4 hu (aa 9 rfl) rfl (gc hd0)) bh) (by show 1<=sizeLine;decide)
   case t2=>
    have h:(aZ G2 k).isSome=false:=by rw [← fE];exact h
    have hd0:dst v k=0:=Classical.byContradiction λz=>by rw [gc z] at h;cases h
    rw [if_pos hd0]
    exact aO bh (by decide)
   case t3=>
    have l1:(if dst v k=0 then ([]:List Int) else [cI v p C k]).length<=1:=by split<;>simp
    exact ⟨_,pre++[acc++[gI v p C k]],_,_,rfl,by rw [append_assoc];exact hp,by rw [length_append];show _ + 1<=_;omega,by omega⟩
  ·have hkc:k∉C:=of_decide_eq_false h
   rw [if_neg hkc] at hp
   exact ⟨as,pre,_,_,rfl,hp,by omega,by rw [length_append];show _ + 1<=_;omega⟩
 ·rintro Γ ⟨as,pre,acc,v9,rfl,hp,pl,al⟩
  rw [drop_length,cZ] at hp
  obtain ⟨b1,b2⟩:=lF (v:=v) (p:=p) (C:=C) run []
  rw [← hp] at b1 b2
  exact ak (qA 8 rfl (aI (by omega)) (λxs hx=>aI (by have:=b2 xs hx;simp at this;omega)) hp)
end
end K1
namespace K1
open PySem L2 Fc
open PySem.Spec hiding Row
open PyProof.Rows hiding St
noncomputable abbrev dG (v:aw)(p:Int):aw:=eI v p (cutC v p)
noncomputable def eC (v:aw)(p:Int)(w:List Int):Int:=(w.map λk=>(cM (dG v p) 0 (onG (dG v p) 0)).getD k.toNat 0).sum
noncomputable def lz (v:aw)(p:Int)(run:List Int):List Int:=(cZ v p (cutC v p) [] run).map (eC v p)
theorem mv {v:aw}(hv:aQ v)(hle:v.2.length<=30){p:Int}(p0:0<=p)(p1:p < (v.1.length:Int)):aQ (dG v p)/\dC (dG v p).2 (0:Int).toNat:=by
 obtain ⟨lx,cx,g,hC,hnd,hlen⟩:=gA hv p0 p1
 exact ⟨yk hv hle p0 p1 g hC hnd,wA hv p0 p1 g hC⟩
theorem qr {v:aw}{p:Int}{run:List Int}(h:bB v p 0 run=true):∀w∈cZ v p (cutC v p) [] run,bB (dG v p) 0 0 w=true:=kd run [] 0 h λ_=>rfl
section
variable {P:Program}{w:World}{K:PySem.W.Frag}{mg:Str->Option Value}{base:Heap}{f:Addr}{fd:FuncData}
abbrev qo:Stmt:=top oQ
abbrev Bm:List Str:=["web","part","rows","known"]
theorem BJ:aB Bm ["web","part","rows"] (ah qo):=fS0
def El:bX:=λK ps T=>∃(v:aw) (p:Int) (run:List Int),ps=[⟨bO,v⟩,⟨ae,p⟩,⟨af ae,run⟩]/\aQ v/\v.2.length<=30/\0<=p/\p < (v.1.length:Int)/\run.length<=900/\bB v p 0 run=true/\T=fR K ae (· =lz v p run)
theorem Cs (M:bN mg)(CP:ay P w K mg base "need_part" 7 (aF By K))(CL:ay P w K mg base "leads_through" 4 (aF EU K))(CW:ay P w K mg base "stretch_web" 10 (aF (Bf true) K))(CT:ay P w K mg base "worths_in" 3 (aF Aw K))(CF:ay P w K mg base "fallen" 10 (aF EO K))(F:bI K "stretches" "stretches" qo f fd)(hm:mg "stretches"=some (.ref f))(hb:Binds K fd ["web","part","rows"] []):ay P w K mg base "stretches" 11 (aF El K):=by
 have nd:=BJ.nd
 have nd1:List.Nodup [("way":Str),"known"]:=by decide
 have nd2:List.Nodup [("place":Str),"known"]:=by decide
 have CP:=CP.mono (show 7<=10 by decide)
 have CL:=CL.mono (show 4<=10 by decide)
 have CT:=CT.mono (show 3<=10 by decide)
 obtain ⟨t1,hFP⟩:=M.firstPart
 refine bG F BJ hm hb (λqs T ⟨_,_,_,e,_⟩=>by rw [e];rfl) (λcdv A outer s H E qs T hr hS=>?_)
 obtain ⟨v,p,run,rfl,hv,hle,p0,p1,hl,hc,rfl⟩:=hS
 obtain ⟨hW,hR⟩:=mv hv hle p0 p1
 have W1:(0:Int) < ((dG v p).1.length:Int):=by show (0:Int) < ((1:Nat):Int);decide
 change WS _ _ [.im (av (af ae) (af ax)) v,.im ae p,.im (af ae) run,.no] _ _
 refine ai (iU CP hr (ag (aa 0 rfl) (ag (aa 1 rfl) aq)) ⟨v,p,rfl,hv,p0,p1,rfl⟩ ?_)
 refine ai (bL (bY (bV (bA CL hr (ag (aa 0 rfl) (ag (aa 1 rfl) (ag (aa 2 rfl) aq))) ⟨v,p,run,rfl,by omega,rfl⟩))) (λh=>by rw [hc] at h;exact absurd h (by decide)) (λ_=>bu ?_))
 refine ai (m7 3 CT hr (ag (bA CW hr (ag (aa 0 rfl) (ag (aa 1 rfl) aq)) ⟨v,p,rfl,hv,p0,p1,rfl⟩) (ag (bE hFP) aq)) ⟨dG v p,0,rfl,hW,by decide,W1,hR,rfl⟩ ?_)
 rintro ws ⟨g,hE,rfl⟩ hz
 rw [mf hW (by decide) W1 hR hE (i9 hW (by decide) W1 hR)] at hz ⊢
 have wl:(cM (dG v p) 0 (onG (dG v p) 0)).length=(dG v p).2.length:=by unfold cM;rw [length_map,aC]
 refine WS.freeze 3 rfl hz ?_
 refine ak (lP (bF (own:=["way"]) (fr:=["known"]) (ix:=[3]) (ra:=af ae) (rb:=ae) (p:=λ_=>true) (f:=λw=>((w.filter λ_=>true).map λk=>(cM (dG v p) 0 (onG (dG v p) 0)).getD k.toNat 0).sum) (bj (so:=ah qo) (N0:=Bm) rfl rfl (λx h=>aT h) (by decide +kernel)) (aR (aY.im (cT CF hr (ag (aa 0 rfl) (ag (aa 1 rfl) (ag (aa 2 rfl) aq))) ⟨v,p,run,rfl,hv,p0,p1,hl,mP hc,rfl⟩)))
  (λC s H ex=>aG 0) (λx=>⟨.inr rfl,.inl rfl,trivial⟩) (λC s H ex x hx=>cf) (λC s H ex x hx h=>tF M.sum (aY.im (bF (own:=["place"]) (fr:=["known"]) (ix:=[1]) (ra:=ae) (rb:=ae) (p:=λ_=>true) (f:=λk=>(cM (dG v p) 0 (onG (dG v p) 0)).getD k.toNat 0) (bj (so:=_) (N0:=_) rfl rfl (λx h=>sK (own:=["way"]) (fr:=["known"]) (ix:=[3]) (bj (so:=ah qo) (N0:=Bm) rfl rfl (λx h=>aT h) (by decide +kernel)) x h) (by trivial)) (aR (aa 0 rfl))
   (λC s H ex=>aG 0) (λx=>⟨.inr rfl,.inl rfl,trivial⟩) (λC s H ex x hx=>cf) (λC s H ex k hk _=>aJ (aa 1 rfl) (aa 0 rfl) (by have:=i8 (qr hc x hx) k hk;exact cw this.1 (by omega))))))) ?_)
 rw [filter_eq_self.mpr (by simp)]
 unfold lz
 refine map_congr_left λx _=>?_
 show _=eC v p x
 unfold eC
 rw [filter_eq_self.mpr (by simp)]
end
section
variable {v:aw}{p:Int}{n:Nat}{ks:List Int}
@[reducible] instance decWL:DecidableEq ((List Int×List Row) ⊕ List Int):=@instDecidableEqSum (List Int×List Row) (List Int) inferInstance inferInstance
def jH (v:aw)(p:Int)(C:List Int)(j:Int):List Int:=match (cy v p C)[j.toNat]? with
 | some y=>if y.2.2.2=true then [y.2.2.1] else []
 | none=>[]
def gz (v:aw)(p:Int)(C:List Int)(L:List (List Int)):List Int:=L.flatten.flatMap (jH v p C)
def tallyK (n:Nat)(ks:List Int):List Int:=(ups 0 n).map λk=>((ks.countP λy=>decide (y=k):Nat):Int)
theorem cX (n:Nat)(ks:List Int):(tallyK n ks).length=n:=by unfold tallyK;rw [length_map,aC]
theorem gh {i:Nat}(h:i < n):(tallyK n ks)[i]?=some ((ks.countP λy=>decide (y=(i:Int)):Nat):Int):=by
 unfold tallyK
 have:(ups 0 n)[i]?=some (i:Int):=by unfold ups;rw [getElem?_map,getElem?_range h];simp
 rw [getElem?_map,this];rfl
theorem jQ (n:Nat):List.replicate n (0:Int)=tallyK n []:=by
 unfold tallyK
 show _=(ups 0 n).map λ_=>(0:Int)
 rw [List.map_const',aC]
theorem gY {k:Int}(k0:0<=k)(k1:k < (n:Int)):(tallyK n ks).set k.toNat ((tallyK n ks).getD k.toNat 0 + 1)=tallyK n (ks++[k]):=by
 refine ext_getElem? λi=>?_
 by_cases h:i < n
 ·rw [gh h,List.getElem?_set,cX,getD_eq_getElem?_getD,gh (by omega),countP_append]
  by_cases e:k.toNat=i
  ·have e2:k=(i:Int):=by omega
   rw [if_pos e,if_pos (by omega)]
   subst e
   rw [show ((k.toNat:Nat):Int)=k by omega]
   simp
  ·have e2:¬k=(i:Int):=by omega
   rw [if_neg e,gh h]
   simp [e2]
 ·rw [getElem?_eq_none (by rw [length_set,cX];omega),getElem?_eq_none (by rw [cX];omega)]
theorem jz {ks':List Int}(h:ks.Perm ks'):tallyK n ks=tallyK n ks':=by
 unfold tallyK
 refine map_congr_left λk _=>?_
 rw [h.countP_eq]
theorem rh {C:List Int}{k:Int}(h:(k,true)∈cJ v p C):jH v p C (gI v p C k)=[k]:=by
 obtain ⟨y,hy,ey⟩:=g4 h
 unfold jH
 have:(gI v p C k).toNat=(cJ v p C).idxOf (k,true):=by
  show ((((cJ v p C).idxOf (k,true):Nat):Int)).toNat=_
  omega
 rw [this,hy]
 show (if y.2.2.2=true then [y.2.2.1] else [])=[k]
 rw [if_pos (Prod.mk.inj ey).2,(Prod.mk.inj ey).1]
theorem vJ {C:List Int}{k:Int}(h:(k,false)∈cJ v p C):jH v p C (cI v p C k)=[]:=by
 obtain ⟨y,hy,ey⟩:=g4 h
 unfold jH
 have:(cI v p C k).toNat=(cJ v p C).idxOf (k,false):=by
  show ((((cJ v p C).idxOf (k,false):Nat):Int)).toNat=_
  omega
 rw [this,hy]
 show (if y.2.2.2=true then [y.2.2.1] else [])=[]
 rw [if_neg (by rw [(Prod.mk.inj ey).2];decide)]
theorem tY {v:aw}{p:Int}{C:List Int}:∀(run acc:List Int),(∀k∈run,k∈bP v p C∨k∈C)->gz v p C (cZ v p C acc run)=acc.flatMap (jH v p C)++run
 | [],acc,_=>by rw [cZ];unfold gz;simp
 | k::ks,acc,h=>by
   have ih:=λacc=>tY ks acc λx hx=>h x (mem_cons_of_mem _ hx)
   have hk:(k,true)∈cJ v p C:=(h k mem_cons_self).elim kX mz
   rw [cZ]
   by_cases c:k∈C
   ·rw [if_pos c]
    have e:gz v p C ((acc++[gI v p C k])::cZ v p C (if dst v k=0 then [] else [cI v p C k]) ks)=(acc++[gI v p C k]).flatMap (jH v p C)++gz v p C (cZ v p C (if dst v k=0 then [] else [cI v p C k]) ks):=by
     unfold gz;rw [flatten_cons,flatMap_append]
    rw [e,ih,flatMap_append,flatMap_singleton,rh hk]
    have z:(if dst v k=0 then ([]:List Int) else [cI v p C k]).flatMap (jH v p C)=[]:=by
     by_cases d:dst v k=0
     ·rw [if_pos d];rfl
     ·rw [if_neg d,flatMap_singleton,vJ (jq c d)]
    rw [z,List.nil_append,append_assoc];rfl
   ·rw [if_neg c,ih,flatMap_append,flatMap_singleton,rh hk,append_assoc];rfl
theorem nW {v:aw}{p:Int}{C:List Int}:∀(runs:List (List Int)),(∀run∈runs,∀k∈run,k∈bP v p C∨k∈C)->gz v p C (runs.flatMap (cZ v p C []))=runs.flatten
 | [],_=>rfl
 | r::rs,h=>by
   have ih:=nW rs λx hx=>h x (mem_cons_of_mem _ hx)
   have e:gz v p C ((r::rs).flatMap (cZ v p C []))=gz v p C (cZ v p C [] r)++gz v p C (rs.flatMap (cZ v p C [])):=by
    unfold gz;rw [flatMap_cons,List.flatten_append,flatMap_append]
   rw [e,ih,tY r [] (h r mem_cons_self),flatten_cons];rfl
theorem wW (v:aw)(p:Int)(C:List Int)(L:List (List Int))(w:List Int):gz v p C (L++[w])=gz v p C L++w.flatMap (jH v p C):=by
 unfold gz;rw [List.flatten_append,flatMap_append];simp
theorem w8 (hv:aQ v)(hle:v.2.length<=30)(p0:0<=p)(p1:p < (v.1.length:Int)){w:List Int}(ht:bB (dG v p) 0 0 w=true):0<=eC v p w/\eC v p w < onG (dG v p) 0 0/\eY (dG v p) 0 (onG (dG v p) 0) 17 0 (eC v p w)=w:=by
 obtain ⟨hW,hR⟩:=mv hv hle p0 p1
 have W1:(0:Int) < ((dG v p).1.length:Int):=by show (0:Int) < ((1:Nat):Int);decide
 have hE:=i9 hW (by decide) W1 hR
 have hs:=hW.sz ((dG v p).1.getD (0:Int).toNat 0) (by rw [getD_eq_getElem?_getD,getElem?_eq_getElem (by show 0 < 1;decide)];exact getElem_mem _)
 have e:eC v p w=(w.map (br (dG v p) 0 (onG (dG v p) 0))).sum:=by
  unfold eC
  congr 1
  exact map_congr_left λk hk=>eO (i8 ht k hk).1 (i8 ht k hk).2
 have:=rj hW (by decide) hR hE w 17 0 (Nat.lt_succ_of_le (sX _ _)) (by decide) (by omega) ht
 rw [e]
 exact this
theorem yI (hv:aQ v)(p0:0<=p)(p1:p < (v.1.length:Int)){y:eW}(hy:y∈cy v p (cutC v p)):0<=y.2.2.1/\y.2.2.1 < (v.2.length:Int):=by
 unfold cy at hy
 rcases mem_append.mp hy with z | z
 ·obtain ⟨k,hk,rfl⟩:=mem_map.mp z
  have:=cF.mp (c4.mp hk).1
  exact ⟨this.1,this.2.1⟩
 ·obtain ⟨k,hk,z⟩:=mem_flatMap.mp z
  have:=qO hv p0 p1 hk
  unfold cU at z
  rcases mem_append.mp z with z | z
  ·split at z
   ·cases z
   ·rw [mem_singleton.mp z];exact this
  ·rw [mem_singleton.mp z];exact this
end
section
variable {P:Program}{w:World}{K:PySem.W.Frag}{mg:Str->Option Value}{base:Heap}{f:Addr}{fd:FuncData}
abbrev xr:Stmt:=top oq
abbrev nCB:List Str:=["web","part","numbers","layout","told","way","place"]
theorem AO:aB nCB ["web","part","numbers"] (ah xr):=fS0
def EE:bX:=λK ps T=>∃(v:aw) (p:Int) (L:List (List Int)),ps=[⟨bO,v⟩,⟨ae,p⟩,⟨af ae,L.map (eC v p)⟩]/\aQ v/\v.2.length<=30/\0<=p/\p < (v.1.length:Int)/\L.length<=3000/\(∀x∈L,bB (dG v p) 0 0 x=true)/\T=fR K ae (· =tallyK v.2.length (gz v p (cutC v p) L))
theorem DJ (M:bN mg)(CY:ay P w K mg base "laid_out" 9 (aF xw K))(CW:ay P w K mg base "stretch_web" 10 (aF (Bf true) K))(CS:ay P w K mg base "ways_of" 11 (aF Er K))(F:bI K "counts_by" "counts_by" xr f fd)(hm:mg "counts_by"=some (.ref f))(hb:Binds K fd ["web","part","numbers"] []):ay P w K mg base "counts_by" 12 (aF EE K):=by
 have nd:=AO.nd
 have CY:=CY.mono (show 9<=11 by decide)
 have CW:=CW.mono (show 10<=11 by decide)
 obtain ⟨t1,hFP⟩:=M.firstPart
 refine bG F AO hm hb (λqs T ⟨_,_,_,e,_⟩=>by rw [e];rfl) (λcdv A outer s H E qs T hr hS=>?_)
 obtain ⟨v,p,L,rfl,hv,hle,p0,p1,hl,hc,rfl⟩:=hS
 obtain ⟨hW,hR⟩:=mv hv hle p0 p1
 have W1:(0:Int) < ((dG v p).1.length:Int):=by show (0:Int) < ((1:Nat):Int);decide
 have wb:=λx hx=>w8 hv hle p0 p1 (hc x hx)
 have sl:(dG v p).2.length=(cy v p (cutC v p)).length:=by show (dF v p (cutC v p)).length=_;unfold dF;rw [length_map]
 change WS _ _ [.im (av (af ae) (af ax)) v,.im ae p,.im (af ae) (L.map (eC v p)),.no,.no,.no,.no] _ _
 refine ai (bg 3 (aY.im (cT CY hr (ag (aa 0 rfl) (ag (aa 1 rfl) aq)) ⟨v,p,rfl,hv,p0,p1,rfl⟩)) ?_)
 refine ai (cG 4 (r:=ae) (ky (aY.im (aO (aN ar bh) (by show 1<=sizeLine;decide))) (bQ M.len (bb (aa 0 rfl))) (by omega) (by omega) (aI (by simp;omega))) ?_)
 rw [rep0,show ((v.2.length:Int)).toNat=v.2.length by omega,jQ]
 refine ai (cv (r:=af ae) (λi Γ=>∃v5 v6,Γ=[.im (av (af ae) (af ax)) v,.im ae p,.im (af ae) (L.map (eC v p)),.im (af ic) (cy v p (cutC v p)),.mu ae (tallyK v.2.length (gz v p (cutC v p) (L.take i))),v5,v6])
  (aR (aY.im (iE (ys:=L) CS hr (ag (bA CW hr (ag (aa 0 rfl) (ag (aa 1 rfl) aq)) ⟨v,p,rfl,hv,p0,p1,rfl⟩) (ag (bE hFP) (ag (aa 2 rfl) aq))) ⟨dG v p,0,L.map (eC v p),rfl,hW,by decide,W1,hR,by rw [length_map];exact hl,?nos,rfl⟩ ?ws))) (aG 5) ⟨_,_,by rw [take_zero];rfl⟩ ?_ ?_)
 case nos=>
  unfold rZ
  refine all_map.mpr λn hn=>?_
  obtain ⟨x,hx,rfl⟩:=mem_map.mp hn
  simp [(wb x hx).1,(wb x hx).2.1]
 case ws=>
  rintro z ⟨g,hE,rfl⟩
  rw [map_map]
  refine (map_congr_left (g:=id) λx hx=>?_).trans (map_id _)
  show eY (dG v p) 0 g 17 0 (eC v p x)=x
  rw [wO hW (by decide) W1 hR hE (i9 hW (by decide) W1 hR)]
  exact (wb x hx).2.2
 ·rintro i x Γ hx ⟨v5,v6,rfl⟩
  have ht:=hc x (mem_of_getElem? hx)
  have tk:L.take (i + 1)=L.take i++[x]:=by rw [take_succ,hx];rfl
  refine ak (cv (r:=ae) (λj Γ=>∃v6,Γ=[.im (av (af ae) (af ax)) v,.im ae p,.im (af ae) (L.map (eC v p)),.im (af ic) (cy v p (cutC v p)),.mu ae (tallyK v.2.length (gz v p (cutC v p) (L.take i)++(x.take j).flatMap (jH v p (cutC v p)))),.im (af ae) x,v6])
   (aR (aa 5 rfl)) (aG 6) ⟨_,by rw [take_zero,flatMap_nil,append_nil];rfl⟩ ?_ ?_)
  ·rintro j k Γ hk ⟨v6,rfl⟩
   have kb:=i8 ht k (mem_of_getElem? hk)
   have tj:x.take (j + 1)=x.take j++[k]:=by rw [take_succ,hk];rfl
   have kl:k.toNat < (cy v p (cutC v p)).length:=by omega
   obtain ⟨y,hy⟩:∃y,(cy v p (cutC v p))[k.toNat]?=some y:=⟨_,getElem?_eq_getElem kl⟩
   have hat:cN (cy v p (cutC v p)) k=some y:=by rw [e9 kb.1 (by omega)];exact hy
   have eg:jH v p (cutC v p) k=if y.2.2.2=true then [y.2.2.1] else []:=by unfold jH;rw [hy]
   have yb:=yI hv p0 p1 (mem_of_getElem? hy)
   refine ak (bL (bV (qS (aJ (aa 3 rfl) (aa 6 rfl) hat))) (λh=>?_) (λh=>bu ?_))
   ·have h:y.2.2.2=true:=h
    rw [if_pos h] at eg
    refine ak (jA 4 (mB (aJ (aa 3 rfl) (aa 6 rfl) hat)) ar rfl yb.1 (dH yb.1 (by rw [cX];exact yb.2)) (cw yb.1 (by rw [cX];exact yb.2)) ?_)
    refine ⟨.im ae k,?_⟩
    rw [tj,flatMap_append,flatMap_singleton,eg,← append_assoc,← gY yb.1 yb.2]
    rfl
   ·have h:y.2.2.2=false:=h
    rw [if_neg (by rw [h];decide)] at eg
    refine ⟨.im ae k,?_⟩
    rw [tj,flatMap_append,flatMap_singleton,eg,append_nil]
    rfl
  ·rintro Γ ⟨v6,rfl⟩
   refine ⟨.im (af ae) x,v6,?_⟩
   rw [tk,wW,take_length]
 ·rintro Γ ⟨v5,v6,rfl⟩
  refine ak (g9 4 rfl ?_ ?_)
  ·rw [cX];exact aI (by omega)
  ·rw [take_length]
end
end K1
namespace K1
open PySem L2 Fc
open PySem.Spec hiding Row
open PyProof.Rows hiding St
open PySem.Builtin.Int (intBits)
abbrev bD (v:aw)(k:Int):Int:=(rowOf v k).2.2.2
def eL (v:aw)(run:List Int):List Int:=run.flatMap λk=>k::(if bD v k= -1 then [] else [(v.2.length:Int) + bD v k])
def fT (v:aw)(run:List Int):List Int:=(v.2.length:Int)::eL v run
def callsOf (v:aw)(run:List Int):List Int:=(run.map (bD v)).filter λc=>decide (0<=c)
theorem nj (v:aw)(run:List Int)(k:Int):eL v (run++[k])=eL v run++(k::(if bD v k= -1 then [] else [(v.2.length:Int) + bD v k])):=by unfold eL;rw [flatMap_append];simp
theorem AR {v:aw}{k:Int}(k0:0<=k)(k1:k < (v.2.length:Int)):rowOf v k∈v.2:=by
 unfold rowOf;rw [getD_eq_getElem?_getD,getElem?_eq_getElem (by omega)];exact getElem_mem _
section
variable {P:Program}{w:World}{K:PySem.W.Frag}{mg:Str->Option Value}{base:Heap}{f:Addr}{fd:FuncData}
abbrev xu:Stmt:=top jR
theorem zG:aB ["web"] ["web"] (ah xu):=fS0
def SCC:bX:=λK ps T=>∃v:aw,ps=[⟨bO,v⟩]/\T=bR K ae (· =(v.2.length:Int) + (v.1.length:Int))
theorem Co (M:bN mg)(F:bI K "count_of_counts" "count_of_counts" xu f fd)(hm:mg "count_of_counts"=some (.ref f))(hb:Binds K fd ["web"] []):ay P w K mg base "count_of_counts" 1 (aF SCC K):=by
 have nd:=zG.nd
 refine bG F zG hm hb (λqs T ⟨_,e,_⟩=>by rw [e];rfl) (λcdv A outer s H E qs T hr hS=>?_)
 obtain ⟨v,rfl,rfl⟩:=hS
 change WS _ _ [.im (av (af ae) (af ax)) v] _ _
 exact ak (bK (cu (bQ M.len (bb (aa 0 rfl))) (bQ M.len (d5 (aa 0 rfl)))) rfl)
abbrev sT:Stmt:=top nH
theorem Al:aB ["web","heap"] ["web","heap"] (ah sT):=fS0
def Ee:bX:=λK ps T=>∃(v:aw) (run:List Int),ps=[⟨bO,v⟩,⟨af (af ae),[run]⟩]/\aQ v/\eZ v [(0,0)] run=some []/\T=bR K aW (· =true)
theorem Dv (M:bN mg)(CR:ay P w K mg base "is_run_of" 5 (aF vq K))(F:bI K "is_heap_of" "is_heap_of" sT f fd)(hm:mg "is_heap_of"=some (.ref f))(hb:Binds K fd ["web","heap"] []):ay P w K mg base "is_heap_of" 6 (aF Ee K):=by
 have nd:=Al.nd
 have ndc:List.Nodup [("run":Str),"web"]:=by decide
 refine bG F Al hm hb (λqs T ⟨_,_,e,_⟩=>by rw [e];rfl) (λcdv A outer s H E qs T hr hS=>?_)
 obtain ⟨v,run,rfl,hv,hs,rfl⟩:=hS
 change WS _ _ [.im (av (af ae) (af ax)) v,.im (af (af ae)) [run]] _ _
 exact ak (bK (eF (dq M.isinstance M.list PyProof.Rows.boot_list (aa 1 rfl) ty_list (b:=true)) (λ_=>eG (fe M.all (aY.im (bF (own:=["run"]) (fr:=["web"]) (ix:=[0]) (ra:=af ae) (rb:=aW) (p:=λ_=>true) (f:=λ_=>true) (bj (so:=ah sT) (N0:=["web","heap"]) rfl rfl (λx h=>aT h) (by decide +kernel)) (aR (aa 1 rfl))
  (λC s H ex=>aG 0) (λx=>⟨.inr rfl,.inl rfl,trivial⟩) (λC s H ex x hx=>cf) (λC s H ex x hx _=>bA CR hr (ag (aa 1 rfl) (ag (aa 0 rfl) aq)) ⟨v,x,rfl,hv,by rw [mem_singleton.mp hx];exact hs,rfl⟩)))))) (by simp))
abbrev xQ:Stmt:=top pO
abbrev nTO:List Str:=["web","heap","rows","tally","run","number"]
theorem B3:aB nTO ["web","heap"] (ah xQ):=fS0
def ET:bX:=λK ps T=>∃(v:aw) (run:List Int),ps=[⟨bO,v⟩,⟨af (af ae),[run]⟩]/\aQ v/\(∀k∈run,0<=k/\k < (v.2.length:Int))/\T=fR K ae (· =tallyK (v.2.length + v.1.length) (fT v run))
theorem Ch (M:bN mg)(CC:ay P w K mg base "count_of_counts" 1 (aF SCC K))(F:bI K "tally_of" "tally_of" xQ f fd)(hm:mg "tally_of"=some (.ref f))(hb:Binds K fd ["web","heap"] []):ay P w K mg base "tally_of" 2 (aF ET K):=by
 have nd:=B3.nd
 obtain ⟨t1,hFP⟩:=M.firstPart
 obtain ⟨t2,hNC⟩:=M.noCall
 refine bG F B3 hm hb (λqs T ⟨_,_,e,_⟩=>by rw [e];rfl) (λcdv A outer s H E qs T hr hS=>?_)
 obtain ⟨v,run,rfl,hv,hk,rfl⟩:=hS
 have pl:=hv.pl
 have rl:=hv.rl
 change WS _ _ [.im (av (af ae) (af ax)) v,.im (af (af ae)) [run],.no,.no,.no,.no] _ _
 refine ai (bg 2 (bb (aa 0 rfl)) ?_)
 refine ai (cG 3 (r:=ae) (ky (aY.im (aO (aN ar bh) (by show 1<=sizeLine;decide))) (bA CC hr (ag (aa 0 rfl) aq) ⟨v,rfl,rfl⟩) (by omega) (by omega) (aI (by simp;omega))) ?_)
 rw [rep0,show ((v.2.length:Int) + (v.1.length:Int)).toNat=v.2.length + v.1.length by omega,jQ]
 have tl:=cX (v.2.length + v.1.length)
 refine ai (cv (r:=af ae) (λi Γ=>∃v4 v5,Γ=[.im (av (af ae) (af ax)) v,.im (af (af ae)) [run],.im (af ax) v.2,.mu ae (tallyK (v.2.length + v.1.length) (if i=0 then [] else fT v run)),v4,v5])
  (aR (aa 1 rfl)) (aG 4) ⟨_,_,rfl⟩ ?_ ?_)
 ·rintro i rows Γ hri ⟨v4,v5,rfl⟩
  have il:=(List.getElem?_eq_some_iff.mp hri).1
  have i0:i=0:=by simp at il;exact il
  subst i0
  have er:rows=run:=(Option.some.inj hri).symm
  subst er
  rw [if_pos rfl]
  refine ai (jA 3 (k:=(v.2.length:Int) + 0) (cu (bQ M.len (aa 2 rfl)) (bE hFP)) ar rfl (by omega) (dH (by omega) (by rw [tl];push_cast;omega)) (cw (by omega) (by rw [tl];push_cast;omega)) ?_)
  rw [gY (by omega) (by push_cast;omega)]
  refine ak (cv (r:=ae) (λj Γ=>∃v5,Γ=[.im (av (af ae) (af ax)) v,.im (af (af ae)) [rows],.im (af ax) v.2,.mu ae (tallyK (v.2.length + v.1.length) ((v.2.length:Int)::eL v (rows.take j))),.im (af ae) rows,v5])
   (aR (aa 4 rfl)) (aG 5) ⟨v5,by rw [show ([]++[(v.2.length:Int) + 0]:List Int)=(v.2.length:Int)::eL v (rows.take 0) by simp [eL]];rfl⟩ ?_ ?_)
  ·rintro j k Γ hkj ⟨v5,rfl⟩
   have kb:=hk k (mem_of_getElem? hkj)
   have tk:rows.take (j + 1)=rows.take j++[k]:=by rw [take_succ,hkj];rfl
   have hrow:cN v.2 k=some (rowOf v k):=bJ bM kb.1 kb.2
   have q:=hv.cL (AR kb.1 kb.2)
   have c0:=q.c0
   have c1:=q.c1
   refine ai (jA 3 (aa 5 rfl) ar rfl kb.1 (dH kb.1 (by rw [tl];push_cast;omega)) (cw kb.1 (by rw [tl];push_cast;omega)) ?_)
   rw [gY kb.1 (by push_cast;omega)]
   refine ak (bL (bc jt (dJ (aJ (aa 2 rfl) (aa 5 rfl) hrow)) (bE hNC)) (λh=>?_) (λh=>bu ?_))
   ·have h:(rowOf v k).2.2.2≠ -1:=by simpa using h
    refine ak (jA 3 (cu (bQ M.len (aa 2 rfl)) (dJ (aJ (aa 2 rfl) (aa 5 rfl) hrow))) ar rfl (by omega) (dH (by omega) (by rw [tl];push_cast;omega)) (cw (by omega) (by rw [tl];push_cast;omega)) ?_)
    rw [gY (by omega) (by push_cast;omega)]
    refine ⟨.im ae k,?_⟩
    rw [tk,nj,if_neg h]
    have e:((v.2.length:Int)::eL v (rows.take j))++[k]++[(v.2.length:Int) + (rowOf v k).2.2.2]=(v.2.length:Int)::(eL v (rows.take j)++(k::[(v.2.length:Int) + bD v k])):=by simp
    rw [e];rfl
   ·have h:(rowOf v k).2.2.2= -1:=by simpa using h
    refine ⟨.im ae k,?_⟩
    rw [tk,nj,if_pos h]
    rfl
  ·rintro Γ ⟨v5,rfl⟩
   refine ⟨.im (af ae) rows,v5,?_⟩
   rw [take_length];rfl
 ·rintro Γ ⟨v4,v5,rfl⟩
  exact ak (g9 3 rfl (aI (by rw [tl];omega)) rfl)
abbrev xy:Stmt:=top u9
abbrev nCO:List Str:=["web","heap"]
theorem AI:aB nCO ["web","heap"] (ah xy):=fS0
def EJ:bX:=λK ps T=>∃(v:aw) (run:List Int),ps=[⟨bO,v⟩,⟨af (af ae),[run]⟩]/\aQ v/\eZ v [(0,0)] run=some []/\(∀k∈run,0<=k/\k < (v.2.length:Int))/\T=fR K ae (· =tallyK (v.2.length + v.1.length) (fT v run))
theorem CZ (CN:ay P w K mg base "need_web" 6 (aF xg K))(CH:ay P w K mg base "is_heap_of" 6 (aF Ee K))(CT:ay P w K mg base "tally_of" 2 (aF ET K))(F:bI K "counts" "counts" xy f fd)(hm:mg "counts"=some (.ref f))(hb:Binds K fd ["web","heap"] []):ay P w K mg base "counts" 7 (aF EJ K):=by
 have nd:=AI.nd
 have CT:=CT.mono (show 2<=6 by decide)
 refine bG F AI hm hb (λqs T ⟨_,_,e,_⟩=>by rw [e];rfl) (λcdv A outer s H E qs T hr hS=>?_)
 obtain ⟨v,run,rfl,hv,hs,hk,rfl⟩:=hS
 change WS _ _ [.im (av (af ae) (af ax)) v,.im (af (af ae)) [run]] _ _
 refine ai (iU CN hr (ag (aa 0 rfl) aq) ⟨v,rfl,hv,rfl⟩ ?_)
 refine ai (bL (bY (bV (bA CH hr (ag (aa 0 rfl) (ag (aa 1 rfl) aq)) ⟨v,run,rfl,hv,hs,rfl⟩))) (λh=>absurd h (by decide)) (λ_=>bu ?_))
 exact ak (lP (cT CT hr (ag (aa 0 rfl) (ag (aa 1 rfl) aq)) ⟨v,run,rfl,hv,hk,rfl⟩) rfl)
end
section
variable {v:aw}{F:PL}{pre:List Int}{s:Int×List Int}{S L:PL}
theorem g6 {α:Type}(l:List α):l=[]∨∃L s,l=L++[s]:=by
 rcases List.eq_nil_or_concat l with e | ⟨L,s,e⟩
 ·exact .inl e
 ·exact .inr ⟨L,s,by rw [e,List.concat_eq_append]⟩
def endP (v:aw)(xs:List Int):Int:=match xs.getLast? with
 | none=>0
 | some k=>a9 v k
def fA (v:aw)(s:Int×List Int):Bool:= !s.2.isEmpty&&decide (endP v s.2=1)
def dU (v:aw):Nat->PL->PL->PL×PL
 | 0,S,F=>(S,F)
 | n + 1,S,F=>match S.getLast? with
   | none=>(S,F)
   | some s=>if fA v s=true then dU v n S.dropLast (F++[s]) else (S,F)
def fq (v:aw)(S:PL)(k:Int):PL:=match S.getLast? with
 | none=>S
 | some s=>(S.dropLast++[(s.1,s.2++[k])])++(if 0<=bD v k then [(bD v k,[])] else [])
def nQ (v:aw)(x:PL×PL)(k:Int):PL×PL:=dU v (fq v x.1 k).length (fq v x.1 k) x.2
def stO (v:aw)(run:List Int):PL×PL:=run.foldl (nQ v) ([(0,[])],[])
def dy (v:aw)(run:List Int):PL:=(stO v run).2
theorem oW (v:aw)(run:List Int)(k:Int):stO v (run++[k])=nQ v (stO v run) k:=by unfold stO;rw [List.foldl_append];rfl
def BE (v:aw):PL->List Int->Prop
 | [],ys=>ys=[]
 | s::S,ys=>∃a b,ys=a++b/\da v s.1 (endP v s.2) a/\BE v S b
structure OG (v:aw) (pre post:List Int) (S F:PL):Prop where
 rem:BE v S.reverse post
 perm:(S.flatMap (·.2)++F.flatMap (·.2)).Perm pre
 parts:(S.map (·.1)++F.map (·.1)).Perm (0::callsOf v pre)
 good:∀s∈S,0<=s.1/\s.1 < (v.1.length:Int)/\∀zs,bB v s.1 0 (s.2++zs)=bB v s.1 (endP v s.2) zs
 told:∀s∈F,0<=s.1/\s.1 < (v.1.length:Int)/\bB v s.1 0 s.2=true
abbrev Calm (v:aw)(S:PL):Prop:=∀s,S.getLast?=some s->fA v s=false
theorem yR (hv:aQ v){p q:Int}{a:List Int}(h:da v p q a)(hq:q=1):a=[]:=by
 cases h with
 | done=>rfl
 | step hk _ _=>
   obtain ⟨_,_,_,kq,kr⟩:=bC hk
   exact absurd (kq.trans hq) (hv.cL kr).s1
 | call hk _ _ _=>
   obtain ⟨_,_,_,kq,kr⟩:=bC hk
   exact absurd (kq.trans hq) (hv.cL kr).s1
theorem iF (v:aw)(xs:List Int)(k:Int):endP v (xs++[k])=a9 v k:=by unfold endP;rw [getLast?_concat]
theorem OG.pop (hv:aQ v){post:List Int}(h:OG v pre post (L++[s]) F)(c:fA v s=true):OG v pre post L (F++[s]):=by
 have he:endP v s.2=1:=of_decide_eq_true (Bool.and_eq_true_iff.mp c).2
 refine ⟨?_,?_,?_,λx hx=>h.good x (mem_append_left _ hx),λx hx=>?_⟩
 ·have:=h.rem
  rw [reverse_append] at this
  obtain ⟨a,b,e,hr,hb⟩:=this
  rw [yR hv hr he] at e
  rw [e];exact hb
 ·refine (?_:List.Perm _ _).trans h.perm
  rw [flatMap_append,flatMap_append,append_assoc]
  refine List.Perm.append_left _ ?_
  simp only [flatMap_cons,flatMap_nil,append_nil]
  exact perm_append_comm
 ·refine (?_:List.Perm _ _).trans h.parts
  rw [map_append,map_append,append_assoc]
  exact List.Perm.append_left _ perm_append_comm
 ·rcases mem_append.mp hx with z | z
  ·exact h.told x z
  ·rw [mem_singleton.mp z]
   obtain ⟨g1,g2,g3⟩:=h.good s (mem_append_right _ (mem_singleton.mpr rfl))
   refine ⟨g1,g2,?_⟩
   have:=g3 []
   rw [append_nil] at this
   rw [this,he,bB];exact decide_eq_true rfl
theorem qV {v:aw}(hv:aQ v){pre post:List Int}:∀(n:Nat) (S F:PL),S.length<=n->OG v pre post S F->OG v pre post (dU v n S F).1 (dU v n S F).2/\Calm v (dU v n S F).1
 | 0,S,F,hn,h=>by
   have:S=[]:=List.length_eq_zero_iff.mp (by omega)
   subst this
   exact ⟨h,λs e=>by cases e⟩
 | n + 1,S,F,hn,h=>by
   rcases g6 S with rfl | ⟨L,s,rfl⟩
   ·exact ⟨h,λs e=>by cases e⟩
   ·rw [dU,getLast?_concat]
    show OG v pre post (if fA v s=true then dU v n (L++[s]).dropLast (F++[s]) else (L++[s],F)).1 (if fA v s=true then dU v n (L++[s]).dropLast (F++[s]) else (L++[s],F)).2/\Calm v (if fA v s=true then dU v n (L++[s]).dropLast (F++[s]) else (L++[s],F)).1
    by_cases c:fA v s=true
    ·rw [if_pos c,dropLast_concat]
     exact qV hv n L (F++[s]) (by rw [length_append] at hn;simp at hn;exact hn) (h.pop hv c)
    ·rw [if_neg c]
     refine ⟨h,λx e=>?_⟩
     have e:(L++[s]).getLast?=some x:=e
     rw [getLast?_concat] at e
     cases e
     simpa using c
theorem OG.ne {post:List Int}{k:Int}(h:OG v pre (k::post) S F):S≠[]:=λe=>by
 have:=h.rem
 rw [e] at this
 cases this
theorem sZ (h:Calm v (S++[s])):endP v s.2≠1:=λe=>by
 have:=h s (by rw [getLast?_concat])
 unfold fA at this
 rw [decide_eq_true e,Bool.and_true] at this
 have:s.2.isEmpty=true:=by simpa using this
 have:s.2=[]:=List.isEmpty_iff.mp this
 rw [this] at e
 exact absurd (show (0:Int)=1 from e) (by decide)
theorem qE (hv:aQ v){post:List Int}{k:Int}(h:OG v pre (k::post) S F)(hc:Calm v S):OG v (pre++[k]) post (fq v S k) F/\0<=k/\k < (v.2.length:Int):=by
 rcases g6 S with rfl | ⟨L,s,rfl⟩
 ·exact absurd rfl h.ne
 have hq:=sZ hc
 have hrem:=h.rem
 rw [reverse_append] at hrem
 obtain ⟨a,b,e,hr,hb⟩:=hrem
 have hp:fq v (L++[s]) k=(L++[(s.1,s.2++[k])])++(if 0<=bD v k then [(bD v k,[])] else []):=by unfold fq;rw [getLast?_concat,dropLast_concat]
 obtain ⟨g1,g2,g3⟩:=h.good s (mem_append_right _ (mem_singleton.mpr rfl))
 have key:∃a',a=k::a'/\k∈fromF v s.1 (endP v s.2)/\BE v ((fq v (L++[s]) k).reverse) post:=by
  rw [hp]
  generalize endP v s.2=q at hr hq
  generalize hpp:s.1=p at hr
  cases hr with
  | done=>exact absurd rfl hq
  | @step _ _ k' xs hk hcl hx=>
    have ek:k=k':=by have:=e;simp at this;exact this.1
    have ey:post=xs++b:=by have:=e;simp at this;exact this.2
    subst ek
    refine ⟨xs,rfl,hk,?_⟩
    rw [if_neg (by show¬0<=(rowOf v k).2.2.2;omega),append_nil,reverse_append]
    exact ⟨xs,b,ey,by rw [iF];exact hx,hb⟩
  | @call _ _ k' ys xs hk hcl hy hx=>
    have ek:k=k':=by have:=e;simp at this;exact this.1
    have ey:post=ys++(xs++b):=by have:=e;simp at this;exact this.2
    subst ek
    refine ⟨ys++xs,rfl,hk,?_⟩
    rw [if_pos hcl,reverse_append,reverse_append]
    exact ⟨ys,xs++b,ey,hy,xs,b,rfl,by rw [iF];exact hx,hb⟩
 obtain ⟨a',ea,hkf,hrem'⟩:=key
 obtain ⟨k0,k1,kp,kq,kr⟩:=bC hkf
 have R:=hv.cL kr
 refine ⟨⟨hrem',?_,?_,λx hx=>?_,h.told⟩,k0,k1⟩
 ·have e2:(fq v (L++[s]) k).flatMap (·.2)=L.flatMap (·.2)++(s.2++[k]):=by
   rw [hp,flatMap_append,flatMap_append]
   split<;>simp
  rw [e2]
  have h0:=h.perm
  rw [flatMap_append] at h0
  simp only [flatMap_cons,flatMap_nil,append_nil] at h0
  refine (?_:List.Perm _ _).trans (h0.append_right [k])
  simp only [append_assoc]
  refine List.Perm.append_left _ (List.Perm.append_left _ perm_append_comm)
 ·have e2:(fq v (L++[s]) k).map (·.1)=(L++[s]).map (·.1)++(if 0<=bD v k then [bD v k] else []):=by
   rw [hp,map_append,map_append,map_append]
   split<;>simp
  have e3:callsOf v (pre++[k])=callsOf v pre++(if 0<=bD v k then [bD v k] else []):=by
   unfold callsOf
   rw [map_append,filter_append]
   by_cases z:0<=bD v k
   ·rw [if_pos z];simp [z]
   ·rw [if_neg z];simp [z]
  rw [e2,e3,← cons_append]
  refine (?_:List.Perm _ _).trans (h.parts.append_right _)
  simp only [append_assoc]
  exact List.Perm.append_left _ perm_append_comm
 ·rw [hp] at hx
  rcases mem_append.mp hx with z | z
  ·rcases mem_append.mp z with z | z
   ·exact h.good x (mem_append_left _ z)
   ·rw [mem_singleton.mp z]
    refine ⟨g1,g2,λzs=>?_⟩
    show bB v s.1 0 ((s.2++[k])++zs)=bB v s.1 (endP v (s.2++[k])) zs
    rw [append_assoc,g3,iF]
    show bB v s.1 _ (k::zs)=_
    rw [bB,dX,decide_eq_true hkf];rfl
  ·split at z
   ·rename_i c
    rw [mem_singleton.mp z]
    exact ⟨c,R.c1,λzs=>rfl⟩
   ·cases z
theorem lC {v:aw}(hv:aQ v){run:List Int}(hr:da v 0 0 run):∀i,i<=run.length->OG v (run.take i) (run.drop i) (stO v (run.take i)).1 (stO v (run.take i)).2/\Calm v (stO v (run.take i)).1
 | 0,_=>by
   have pl:=hv.pl
   refine ⟨⟨⟨run,[],by simp,hr,rfl⟩,List.Perm.refl _,List.Perm.refl _,λs hs=>?_,λs hs=>?_⟩,λs e=>?_⟩
   ·rw [mem_singleton.mp hs]
    exact ⟨Int.le_refl _,by show (0:Int) < _;omega,λzs=>rfl⟩
   ·cases hs
   ·cases e;rfl
 | i + 1,hi=>by
   obtain ⟨h,hc⟩:=lC hv hr i (by omega)
   obtain ⟨k,hk⟩:∃k,run[i]?=some k:=⟨_,getElem?_eq_getElem (by omega)⟩
   have hd:run.drop i=k::run.drop (i + 1):=by
    obtain ⟨h1,h2⟩:=List.getElem?_eq_some_iff.mp hk
    rw [drop_eq_getElem_cons h1,h2]
   have tk:run.take (i + 1)=run.take i++[k]:=by rw [take_succ,hk];rfl
   rw [hd] at h
   rw [tk,oW]
   exact qV hv _ _ _ (Nat.le_refl _) (qE hv h hc).1
structure Bq (v:aw) (run:List Int) (F:PL):Prop where
 perm:(F.flatMap (·.2)).Perm run
 parts:(F.map (·.1)).Perm (0::callsOf v run)
 told:∀s∈F,0<=s.1/\s.1 < (v.1.length:Int)/\bB v s.1 0 s.2=true
theorem zS (hv:aQ v){run:List Int}(hr:da v 0 0 run):Bq v run (dy v run):=by
 obtain ⟨h,hc⟩:=lC hv hr run.length (Nat.le_refl _)
 rw [take_length,drop_length] at *
 have hS:(stO v run).1=[]:=by
  rcases g6 (stO v run).1 with e | ⟨L,s,e⟩
  ·exact e
  ·rw [e] at hc
   have hq:=sZ hc
   have hrem:=h.rem
   rw [e,reverse_append] at hrem
   obtain ⟨a,b,ea,hx,_⟩:=hrem
   have:a=[]:=(List.append_eq_nil_iff.mp ea.symm).1
   rw [this] at hx
   generalize endP v s.2=q at hx hq
   cases hx with
   | done=>exact absurd rfl hq
 have h1:=h.perm;have h2:=h.parts
 rw [hS] at h1 h2
 exact ⟨h1,h2,h.told⟩
def yt:Stmt->List Stmt
 | .For _ _ b _ _=>b
 | _=>[]
theorem vV (v:aw)(n:Nat)(F:PL):dU v n [] F=([],F):=by cases n<;>rfl
theorem yS (c:fA v s=true):dU v (L++[s]).length (L++[s]) F=dU v L.length L (F++[s]):=by
 have e:(L++[s]).length=L.length + 1:=by rw [length_append];rfl
 rw [e,dU,getLast?_concat]
 show (if fA v s=true then dU v L.length (L++[s]).dropLast (F++[s]) else (L++[s],F))=_
 rw [if_pos c,dropLast_concat]
theorem ni (c:fA v s=false):dU v (L++[s]).length (L++[s]) F=(L++[s],F):=by
 have e:(L++[s]).length=L.length + 1:=by rw [length_append];rfl
 rw [e,dU,getLast?_concat]
 show (if fA v s=true then dU v L.length (L++[s]).dropLast (F++[s]) else (L++[s],F))=_
 rw [if_neg (by rw [c];decide)]
theorem OG.fo {post:List Int}(h:OG v pre post S F):S.length + F.length<=pre.length + 1/\∀s∈S,s.2.length<=pre.length/\∀k∈s.2,k∈pre:=by
 constructor
 ·have:=h.parts.length_eq
  rw [length_append,length_map,length_map,length_cons] at this
  have l:(callsOf v pre).length<=pre.length:=by unfold callsOf;exact Nat.le_trans (length_filter_le _ _) (by rw [length_map];exact Nat.le_refl _)
  omega
 ·intro s hs
  obtain ⟨A,B,rfl⟩:=append_of_mem hs
  have hp:=h.perm
  constructor
  ·have:=hp.length_eq
   rw [flatMap_append,flatMap_cons] at this
   simp only [length_append] at this
   omega
  ·intro k hk
   exact hp.mem_iff.mp (mem_append_left _ (mem_flatMap.mpr ⟨s,by simp,hk⟩))
theorem da.rows {p q:Int}{xs:List Int}(h:da v p q xs):∀k∈xs,0<=k/\k < (v.2.length:Int):=by
 induction h with
 | done=>intro k hk;cases hk
 | step hk _ _ ih=>
   intro k hm
   rcases mem_cons.mp hm with rfl | hm
   ·obtain ⟨k0,k1,_⟩:=bC hk;exact ⟨k0,k1⟩
   ·exact ih k hm
 | call hk _ _ _ ih1 ih2=>
   intro k hm
   rcases mem_cons.mp hm with rfl | hm
   ·obtain ⟨k0,k1,_⟩:=bC hk;exact ⟨k0,k1⟩
   ·rcases mem_append.mp hm with hm | hm
    ·exact ih1 k hm
    ·exact ih2 k hm
end
section
variable {P:Program}{w:World}{K:PySem.W.Frag}{mg:Str->Option Value}{base:Heap}{f:Addr}{fd:FuncData}
abbrev oo:Stmt:=top kU
abbrev En:List Str:=["_law_web_here","_law_run_here"]
abbrev ED:List Str:=["_law_web_here","_law_run_here","_law_stack","_law_found","_law_k"]
theorem z6:aB ED En (ah oo):=fS0
def EW:bX:=λK ps T=>∃(v:aw) (run:List Int),ps=[⟨bO,v⟩,⟨af ae,run⟩]/\aQ v/\da v 0 0 run/\run.length<=1000/\T=fR K f6 (· =dy v run)
theorem Dq (M:bN mg)(F:bI K "_law_own_runs" "_law_own_runs" oo f fd)(hm:mg "_law_own_runs"=some (.ref f))(hb:Binds K fd En []):ay P w K mg base "_law_own_runs" 1 (aF EW K):=by
 have nd:=z6.nd
 refine bG F z6 hm hb (λqs T ⟨_,_,e,_⟩=>by rw [e];rfl) (λcdv A outer s H E qs T hr hS=>?_)
 obtain ⟨v,run,rfl,hv,hrun,hl,rfl⟩:=hS
 have hrow:=hrun.rows
 have hu:(A.deeper (envOfC "_law_own_runs" (ah oo) s.heap.objs.size f cdv)).units + 1 < cLine:=Nat.lt_of_le_of_lt (Nat.add_le_add_left (by decide:1<=64) _) hr.units
 change WS _ _ [.im (av (af ae) (af ax)) v,.im (af ae) run,.no,.no,.no] _ _
 refine ai (yn 2 ar λa t b=>?_)
 refine ai (cG 3 (r:=f6) (aO bh (by decide)) ?_)
 refine ai (cv (r:=ae) (λi Γ=>∃(ts bs:List Addr) (v4:Ent),Γ=[.im (av (af ae) (af ax)) v,.im (af ae) run,.ob (eP a ts bs (stO v (run.take i)).1),.mu f6 (stO v (run.take i)).2,v4]) (aR (aa 1 rfl)) (aG 4) ⟨[t],[b],_,rfl⟩ ?_ ?_)
 ·rintro i k Γ hk ⟨ts,bs,v4,rfl⟩
  have il:=(List.getElem?_eq_some_iff.mp hk).1
  obtain ⟨hO,hC⟩:=lC hv hrun i (by omega)
  have hd:run.drop i=k::run.drop (i + 1):=by
   obtain ⟨h1,h2⟩:=List.getElem?_eq_some_iff.mp hk
   rw [drop_eq_getElem_cons h1,h2]
  have tk:run.take (i + 1)=run.take i++[k]:=by rw [take_succ,hk];rfl
  rw [hd] at hO
  obtain ⟨hO2,k0,k1⟩:=qE hv hO hC
  have hend:stO v (run.take (i + 1))=nQ v (stO v (run.take i)) k:=by rw [tk,oW]
  have pl0:(run.take i).length<=1000:=by rw [length_take];omega
  have sz:=hO.fo
  have hne:=hO.ne
  generalize stO v (run.take i)=x at hO hO2 hend sz hne
  obtain ⟨S,G⟩:=x
  have hne:S≠[]:=hne
  have sz:S.length + G.length<=(run.take i).length + 1/\∀s∈S,s.2.length<=(run.take i).length/\∀k∈s.2,k∈run.take i:=sz
  obtain ⟨L,⟨p,xs⟩,rfl⟩:∃L s,S=L++[s]:=(g6 S).resolve_left hne
  have hO2:OG v (run.take i++[k]) (run.drop (i + 1)) (fq v (L++[(p,xs)]) k) G:=hO2
  have xl:=(sz.2 (p,xs) (mem_append_right _ (mem_singleton.mpr rfl))).1
  have xl:xs.length<=(run.take i).length:=xl
  have sl:=sz.1
  rw [length_append] at sl
  have sl:L.length + 1 + G.length<=(run.take i).length + 1:=sl
  have hp:fq v (L++[(p,xs)]) k=(L++[(p,xs++[k])])++(if 0<=bD v k then [(bD v k,[])] else []):=by unfold fq;rw [getLast?_concat,dropLast_concat]
  change WS _ _ [.im (av (af ae) (af ax)) v,.im (af ae) run,.ob (eP a ts bs (L++[(p,xs)])),.mu f6 G,.im ae k] _ _
  refine ai (tW 2 (dt ar) (aa 4 rfl) rfl (Nat.lt_of_le_of_lt (show _<=1000 by omega) (by decide)) ?_)
  change WS _ _ [.im (av (af ae) (af ax)) v,.im (af ae) run,.ob (eP a ts bs (L++[(p,xs++[k])])),.mu f6 G,.im ae k] _ _
  have two:∀(ts bs:List Addr) (S2:PL),S2=fq v (L++[(p,xs)]) k->WS (eh eX P w K mg base ED "_law_own_runs" (ah oo) f cdv A outer s H E).gN ((yt ((cg oo).getD 2 (.Pass ⟨0,0,0,0⟩))).drop 2) [.im (av (af ae) (af ax)) v,.im (af ae) run,.ob (eP a ts bs S2),.mu f6 G,.im ae k] (λΓ=>∃(ts bs:List Addr) (v4:Ent),Γ=[.im (av (af ae) (af ax)) v,.im (af ae) run,.ob (eP a ts bs (stO v (run.take (i + 1))).1),.mu f6 (stO v (run.take (i + 1))).2,v4]) (fR K f6 (· =dy v run)):=by
   intro ts bs S2 hS2
   refine ak (f7 (λm Γ=>∃(ts bs:List Addr) (S2 F2:PL),Γ=[.im (av (af ae) (af ax)) v,.im (af ae) run,.ob (eP a ts bs S2),.mu f6 F2,.im ae k]/\m=S2.length/\dU v S2.length S2 F2=nQ v (L++[(p,xs)],G) k/\OG v (run.take i++[k]) (run.drop (i + 1)) S2 F2) (m0:=S2.length) ⟨ts,bs,S2,G,rfl,rfl,by rw [hS2];rfl,by rw [hS2];exact hO2⟩ ?_)
   rintro m Γ ⟨ts,bs,S3,F3,rfl,rfl,hw,hO3⟩
   have pl1:(run.take i++[k]).length<=1001:=by rw [length_append];show _ + 1<=_;omega
   obtain ⟨s1,s2⟩:=hO3.fo
   have fz:S3.length<=sizeLine:=aI (by omega)
   have fz':∀s∈S3,s.2.length<=sizeLine:=λs hs=>aI (by have:=(s2 s hs).1;omega)
   have fin:dU v S3.length S3 F3=(S3,F3)->∃(ts' bs':List Addr) (v4:Ent),([.im (av (af ae) (af ax)) v,.im (af ae) run,.ob (eP a ts bs S3),.mu f6 F3,.im ae k]:Ga)=[.im (av (af ae) (af ax)) v,.im (af ae) run,.ob (eP a ts' bs' (stO v (run.take (i + 1))).1),.mu f6 (stO v (run.take (i + 1))).2,v4]:=λh=>⟨ts,bs,.im ae k,by rw [hend,← hw,h]⟩
   rcases g6 S3 with rfl | ⟨L3,⟨p3,xs3⟩,rfl⟩
   ·refine ⟨_,_,TV.frz (rR (i:=2) rfl fz fz') (TW.tv (dN (y:=false) (bc r6 (bQ M.len (aa 2 rfl)) ar) (λh=>absurd h (by decide)))),λh=>absurd h (by decide),λ_=>fin (vV v _ F3)⟩
   ·have hlast:(L3++[(p3,xs3)])[(L3++[(p3,xs3)]).length - 1]?=some (p3,xs3):=by simp
    rcases g6 xs3 with rfl | ⟨M3,k3,rfl⟩
    ·refine ⟨_,_,TV.frz (rR (i:=2) rfl fz fz') (TW.tv (dN (bc r6 (bQ M.len (aa 2 rfl)) ar) (λ_=>dN (y:=false) (bc (yf (r:=ae) eq_int hu) (bb (aJ (aa 2 rfl) (dt ar) (dB hlast))) (aY.im (aO (r:=ae) bh (by decide)))) (λh=>by simp at h)))),λh=>?_,λ_=>fin (ni rfl)⟩
     simp at h
    ·have hl2:(M3++[k3])[(M3++[k3]).length - 1]?=some k3:=by simp
     have km:=(s2 (p3,M3++[k3]) (mem_append_right _ (mem_singleton.mpr rfl))).2 k3 (mem_append_right _ (mem_singleton.mpr rfl))
     have kb:0<=k3/\k3 < (v.2.length:Int):=by
      rcases mem_append.mp km with z | z
      ·exact hrow k3 (mem_of_mem_take z)
      ·rw [mem_singleton.mp z];exact ⟨k0,k1⟩
     have ec:fA v (p3,M3++[k3])=decide ((rowOf v k3).2.2.1=1):=by
      unfold fA
      rw [show endP v (p3,M3++[k3]).2=(rowOf v k3).2.2.1 from iF v M3 k3]
      have:(M3++[k3]).isEmpty=false:=by cases M3<;>rfl
      show (!(M3++[k3]).isEmpty&&_)=_
      rw [this];rfl
     refine ⟨_,_,TV.frz (rR (i:=2) rfl fz fz') (TW.tv (dN (bc r6 (bQ M.len (aa 2 rfl)) ar) (λ_=>dN (bc (yf (r:=ae) eq_int hu) (bb (aJ (aa 2 rfl) (dt ar) (dB hlast))) (aY.im (aO (r:=ae) bh (by decide)))) (λ_=>g5 (bc e6 (cA (aJ (y:=rowOf v k3) (bb (aa 0 rfl)) (aJ (y:=k3) (bb (aJ (aa 2 rfl) (dt ar) (dB hlast))) (dt ar) (dB hl2)) (bJ bM kb.1 kb.2))) ar))))),λh=>?_,λh=>?_⟩
     ·have h3:decide ((rowOf v k3).2.2.1=1)=true:=(Bool.and_eq_true_iff.mp (Bool.and_eq_true_iff.mp h).2).2
      have hc3:fA v (p3,M3++[k3])=true:=by rw [ec];exact h3
      refine ak (wx 2 3 (by decide) rfl rfl (Nat.lt_of_le_of_lt (show F3.length<=10000 by omega) (by decide)) (fz' (p3,M3++[k3]) (mem_append_right _ (mem_singleton.mpr rfl))) λts bs=>?_)
      refine ⟨L3.length,by rw [length_append];exact Nat.lt_succ_self _,ts,bs,L3,F3++[(p3,M3++[k3])],rfl,rfl,?_,hO3.pop hv hc3⟩
      rw [← hw,yS hc3]
     ·refine fin (ni ?_)
      rw [ec]
      cases z:decide ((rowOf v k3).2.2.1=1) with
      | false=>rfl
      | true=>
        rw [z] at h
        simp at h
  refine ai (bL (bc rH (dJ (aJ (y:=rowOf v k) (bb (aa 0 rfl)) (aa 4 rfl) (bJ bM k0 k1))) ar) (λh=>?_) (λh=>bu ?_))
  ·have h:0<=bD v k:=of_decide_eq_true h
   refine ak (sA 2 (dJ (aJ (y:=rowOf v k) (bb (aa 0 rfl)) (aa 4 rfl) (bJ bM k0 k1))) rfl (Nat.lt_of_le_of_lt (show _<=10000 by rw [length_append];show _ + 1<=_;omega) (by decide)) λt b=>?_)
   exact two _ _ _ (by rw [hp,if_pos h])
  ·have h:¬0<=bD v k:=of_decide_eq_false h
   exact two _ _ _ (by rw [hp,if_neg h,append_nil])
 ·rintro Γ ⟨ts,bs,v4,rfl⟩
  obtain ⟨hO,_⟩:=lC hv hrun run.length (Nat.le_refl _)
  have sz:=hO.fo.1
  rw [take_length] at sz ⊢
  exact ak (g9 3 rfl (aI (by omega)) rfl)
end
end K1
namespace Fc
open PySem PySem.Spec L2
open PyProof.Rows hiding St
section
variable {X:Cx}{Γ Γ1 Γ2 Γ3:Ga}{α β γ δ:Type}{N:Ga->Prop}{T:RT}
variable {es:List Expr}{tp:Pos}
def Eh (K:PySem.W.Frag)(a b:Addr):It:=
 ⟨λi H=>∃xs ys x y,aM K H a xs/\aM K H b ys/\xs[i]?=some x/\ys[i]?=some y,
  λi H v H'=>∃p x y,H p=none/\v= .ref p/\H'=upd H p (.tup [x,y])/\(∀xs,aM K H a xs->xs[i]?=some x)/\∀ys,aM K H b ys->ys[i]?=some y,
  λi H=>∃xs ys,aM K H a xs/\aM K H b ys/\(xs.length<=i∨ys.length<=i)⟩
def Ei (z TI TO i1 i2 a b:Addr)(i:Nat)(h:Heap):Prop:=
 IsZip h z TI TO .none/\IsPair h TI (.ref i1) (.ref i2)/\(∃u v,IsPair h TO u v)/\h.IsListIter i1 a i/\h.IsListIter i2 b i
structure wy (z TI TO i1 i2:Addr):Prop where
 TIz:TI≠z
 TOz:TO≠z
 i1z:i1≠z
 i2z:i2≠z
 TITO:TI≠TO
 TIi1:TI≠i1
 TIi2:TI≠i2
 TOi1:TO≠i1
 TOi2:TO≠i2
 i12:i1≠i2
theorem kO {a b:Nat}(h:a < b∨b < a): @Ne Addr a b:=h.elim Nat.ne_of_lt Nat.ne_of_gt
theorem Fx (n:Nat):wy (n + 4) (n + 2) (n + 3) n (n + 1):=⟨kO (by omega),kO (by omega),kO (by omega),kO (by omega),kO (by omega),kO (by omega),kO (by omega),kO (by omega),kO (by omega),kO (by omega)⟩
theorem eJ {h:Heap}{l b:Addr}{its:Array Value}{o:Obj}(p:PlainL h l its)(e:h.get? b=some o)(hc:o.cls≠ .type "list"):l≠b:=λz=>by
 obtain ⟨u,n,e',c,_⟩:=p
 rw [z,e] at e'
 cases e'
 exact hc c
theorem ZipApart.of {h:Heap}{z TI TO i1 i2 a b:Addr}{i:Nat}{xs ys:Array Value}(F:wy z TI TO i1 i2)(st:Ei z TI TO i1 i2 a b i h)(pa:PlainL h a xs)(pb:PlainL h b ys):ZipApart z TI TO i1 i2 a b:=by
 obtain ⟨hz,_,⟨u,v,hTO⟩,⟨o1,e1,c1,_⟩,⟨o2,e2,c2,_⟩⟩:=st
 exact ⟨F.TIz,F.TOz,F.i1z,F.i2z,F.TITO,F.TIi1,F.TIi2,F.TOi1,F.TOi2,F.i12,
  eJ pa hz (by simp),eJ pa hTO (by simp),eJ pa e1 (by rw [c1];simp),eJ pa e2 (by rw [c2];simp),
  eJ pb hz (by simp),eJ pb hTO (by simp),eJ pb e1 (by rw [c1];simp),eJ pb e2 (by rw [c2];simp)⟩
theorem wV {P:Program}{w:World}{K:PySem.W.Frag}{k:Nat}(a b z TI TO i1 i2:Addr)(F:wy z TI TO i1 i2):Turn P w K (.Tuple es k tp) (Eh K a b) [z,TI,TO,i1,i2] z (Ei z TI TO i1 i2 a b) where
 mem:=by simp
 obj:=λi h st c hc=>by
  obtain ⟨hz,hTI,⟨u,v,hTO⟩,⟨o1,e1,c1,d1⟩,⟨o2,e2,c2,d2⟩⟩:=st
  simp only [mem_cons,not_mem_nil,or_false] at hc
  rcases hc with rfl | rfl | rfl | rfl | rfl
  ·exact ⟨_,hz,λv q=>by cases q⟩
  ·exact ⟨_,hTI,λv q=>by cases q⟩
  ·exact ⟨_,hTO,λv q=>by cases q⟩
  ·exact ⟨o1,e1,λv q=>by rw [d1] at q;cases q⟩
  ·exact ⟨o2,e2,λv q=>by rw [d2] at q;cases q⟩
 keep:=λi h h' st kk=>by
  obtain ⟨hz,hTI,⟨u,v,hTO⟩,h1,h2⟩:=st
  exact ⟨kk z (by simp) _ hz,kk TI (by simp) _ hTI,⟨u,v,kk TO (by simp) _ hTO⟩,h1.at λo e=>kk i1 (by simp) o e,h2.at λo e=>kk i2 (by simp) o e⟩
 item:=by
  intro X hP hw hK hc i pins s σ H E I hf st hg
  subst hP hw hK
  obtain ⟨xs,ys,x,y,hq,hq',hx,hy⟩:=hg
  obtain ⟨its,r,pl,hz⟩:=I.list hq
  obtain ⟨its',r',pl',hz'⟩:=I.list hq'
  obtain ⟨u,hu,rx⟩:=r.get hx
  obtain ⟨u',hu',ry⟩:=r'.get hy
  have D:=ZipApart.of F st pl pl'
  obtain ⟨hz0,hTI,⟨c,d,hTO⟩,h1,h2⟩:=st
  have hn:H s.heap.objs.size=none:=I.hok.fresh (Nat.le_refl _)
  refine wpAny_pyNext_zip_item D hz0 hTI hTO h1 h2 pl.isList pl'.isList (x:=u) (y:=u') (by simpa using hu) (by simpa using hu') λh' a1 a2 a3 a4 a5 a6 hk=>?_
  refine ⟨_,rfl,?_⟩
  refine wpAny_letOwnedTupleGo_zip (s:={s with heap:=h'}) a1 λh3 hz3 hs3=>?_
  have lt:∀{c o},s.heap.get? c=some o->c≠s.heap.objs.size:=λe=>Nat.ne_of_lt (Heap.lt_size e)
  have hk2:∀b o,b∉[z,TI,TO,i1,i2]->s.heap.get? b=some o->h3.get? b=some o:=λb o hb q=>by
   simp only [mem_cons,not_mem_nil,or_false,not_or] at hb
   exact hs3.extBut b o hb.1 (hk b o hb.1 hb.2.2.1 hb.2.2.2.1 hb.2.2.2.2 q)
  have I1:Inv X pins σ H {s with heap:=h3,toks:=s.toks}:=kI I hk2 hf
  have hT2:h3.get? s.heap.objs.size=some {cls:=.type "tuple",data:=.seq #[u,u']}:=hs3.extBut _ _ (Ne.symm (lt hz0)) a5
  have I2:Inv X pins σ (upd H s.heap.objs.size (.tup [x,y])) {s with heap:=h3,toks:=s.toks}:=
   adopt I1 (I.ka (Nat.le_refl _) hn) (I.sz) ⟨by show 2<=sizeLine;decide,[u,u'],.cons rx (.cons ry .nil),⟨_,hT2,rfl,_,rfl⟩⟩
  refine ⟨.ref s.heap.objs.size,_,I2,rfl,⟨s.heap.objs.size,x,y,hn,rfl,rfl,λzs hzs=>?_,λzs hzs=>?_⟩,⟨hz3,?_,⟨_,_,hs3.extBut _ _ F.TOz a2⟩,a3.extBut hs3.extBut F.i1z,a4.extBut hs3.extBut F.i2z⟩,λb hb=>?_⟩
  ·rw [I.jn hzs hq];exact hx
  ·rw [I.jn hzs hq'];exact hy
  ·exact hs3.extBut _ _ F.TIz (hk _ _ F.TIz F.TITO F.TIi1 F.TIi2 hTI)
  ·have hlt:b≠s.heap.objs.size:=by
    simp only [mem_cons,not_mem_nil,or_false] at hb
    rcases hb with rfl | rfl | rfl | rfl | rfl
    ·exact lt hz0
    ·exact lt hTI
    ·exact lt hTO
    ·obtain ⟨_,e,_⟩:=h1;exact lt e
    ·obtain ⟨_,e,_⟩:=h2;exact lt e
   rw [aA hlt]
   exact (hf b hb).1
 done:=by
  intro X hP hw hK hc i pins s σ H E I hf st hg
  subst hP hw hK
  obtain ⟨xs,ys,hq,hq',hx⟩:=hg
  obtain ⟨its,r,pl,hz⟩:=I.list hq
  obtain ⟨its',r',pl',hz'⟩:=I.list hq'
  have D:=ZipApart.of F st pl pl'
  obtain ⟨hz0,hTI,⟨c,d,hTO⟩,h1,h2⟩:=st
  have l1:=r.length
  have l2:=r'.length
  refine wpAny_pyNext_zip_end (I.ok.hd hc) D hz0 hTI hTO h1 h2 pl.isList pl'.isList (hx.imp (λq=>by simp;omega) λq=>by simp;omega) λh' hk=>⟨rfl,?_⟩
  refine kI (t':=s.toks) I (λb o hb q=>?_) hf
  simp only [mem_cons,not_mem_nil,or_false,not_or] at hb
  exact hk b o hb.1 hb.2.2.1 hb.2.2.2.1 hb.2.2.2.2 q
 self:=λ_ _ _ _ _ st h=>wpAny_pyIter_zip st.1 h
def Fd (K:PySem.W.Frag)(ta:TA):TI:=λσ H R=>ta σ H λvs H1=>∃a b xs ys,vs=[.ref a,.ref b]/\aM K H1 a xs/\aM K H1 b ys/\R (Eh K a b) H1
theorem AJ {a b:Expr}{ta:TA}{p pos:Pos}{k:Nat}(hg:Gl X "zip")(hm:X.mg "zip"=none)(ha:PA X [a,b] ta)(hs:starEach [a,b] X.env=[(false,eval a X.env),(false,eval b X.env)]:=by rfl)(hs2:starEach [b] X.env=[(false,eval b X.env)]:=by rfl):PI X (.Tuple es k tp) (.Call (.Name "zip" p) [a,b] [] pos) (Fd X.K ta):=by
 intro pins s σ H R I h
 refine Call_ (h7 I hg hm boot_zip (PyProof.Rows.callWith_type1 (aP (ha pos pins s σ H _ I h) λus s1 ⟨vs,H1,I1,r1,q1⟩=>?_) (by rw [hs,hs2]) (by rw [hs2];rfl)))
 obtain ⟨l,l',xs,ys,e,hq,hq',q⟩:=q1
 subst e
 cases r1 with
 | cons r rr=>
   cases rr with
   | cons r' rr=>
     cases rr
     cases r
     cases r'
     obtain ⟨its,_,pl,_⟩:=I1.list hq
     obtain ⟨its',_,pl',_⟩:=I1.list hq'
     refine call_zip_2 pl.isList pl'.isList λh' a1 a2 a3 a4 a5 a6 hk=>?_
     refine wpAny_pyIter_zip a1 ?_
     have I2:Inv X pins σ H1 {s1 with heap:=h'}:=I1.kept (t':=s1.toks) hk
     have ff:∀b,s1.heap.objs.size<=b->iJ X pins H1 b:=λb hb=>I1.ka hb (I1.hok.fresh hb)
     refine ⟨s1.heap.objs.size + 4,[s1.heap.objs.size + 4,s1.heap.objs.size + 2,s1.heap.objs.size + 3,s1.heap.objs.size,s1.heap.objs.size + 1],_,_,H1,rfl,I2,wV l l' _ _ _ _ _ (Fx _),⟨a1,a2,⟨_,_,a3⟩,a4,a5⟩,λb hb=>?_,q⟩
     simp only [mem_cons,not_mem_nil,or_false] at hb
     rcases hb with rfl | rfl | rfl | rfl | rfl
     ·exact ff _ (Nat.le_add_right _ 4)
     ·exact ff _ (Nat.le_add_right _ 2)
     ·exact ff _ (Nat.le_add_right _ 3)
     ·exact ff _ (Nat.le_refl _)
     ·exact ff _ (Nat.le_add_right _ 1)
theorem BZ {xs:List α}{ys:List β}{i:Nat}{q:α×β}(h:(xs.zip ys)[i]?=some q):xs[i]?=some q.1/\ys[i]?=some q.2:=by
 rw [List.getElem?_zip_eq_some] at h
 exact h
theorem BL {a b:Expr}{p pos:Pos}{k:Nat}{r:aD α}{r':aD β}{xs:List α}{ys:List β}(hm:X.mg "zip"=none)(ha:EV X a Γ (af r) xs Γ1)(hb:EV X b Γ1 (af r') ys Γ2)(hs:starEach [a,b] X.env=[(false,eval a X.env),(false,eval b X.env)]:=by rfl)(hs2:starEach [b] X.env=[(false,eval b X.env)]:=by rfl)(hg:Gl X "zip":=by rfl):
 IV X (.Tuple es k tp) (.Call (.Name "zip" p) [a,b] [] pos) Γ (av r r') (xs.zip ys) Γ2:=by
 refine ⟨_,AJ hg hm (aL aE (aL aE bz hs2) (by rw [hs,hs2])) hs hs2,λσ H0 R0 H R E Rq q=>ha σ H0 R0 H R E _ λv H1 R1 E1 s1 e1=>hb σ H0 R0 H1 R1 E1 _ λv' H2 R2 E2 s2 e2=>?_⟩
 obtain ⟨a,vs,rfl,hp,pp,z⟩:=e1
 obtain ⟨b,vs',rfl,hp',pp',z'⟩:=e2
 have hp2:R2 a=_:=s2 _ _ hp
 refine ⟨a,b,vs,vs',rfl,aM.of (E2.sub _ _ hp2),aM.of (E2.sub _ _ hp'),q _ H2 R2 E2 (s1.trans s2) (by rw [List.length_zip];exact Nat.le_trans (Nat.min_le_left _ _) z) λH' R' sR sH i=>⟨λy hy=>?_,λhi=>?_⟩⟩
 ·have hq:aM X.K H' a vs:=aM.of (sH _ _ (sR _ _ hp2))
  have hq':aM X.K H' b vs':=aM.of (sH _ _ (sR _ _ hp'))
  obtain ⟨e1,e2⟩:=BZ hy
  obtain ⟨v,hv,hr⟩:=dS pp e1
  obtain ⟨v',hv',hr'⟩:=dS pp' e2
  refine ⟨⟨vs,vs',v,v',hq,hq',hv,hv'⟩,λv2 H3 hyl=>?_⟩
  obtain ⟨p,x,x',hpn,rfl,rfl,hy,hy'⟩:=hyl
  have t1:=hy vs hq
  have t2:=hy' vs' hq'
  rw [hv] at t1
  rw [hv'] at t2
  cases t1
  cases t2
  have s3:aj R' (upd R' p (.tup [v,v'])):=aj.fresh (sH.free hpn) _
  exact ⟨upd R' p (.tup [v,v']),Ext.fresh sH hpn _,p,_,_,rfl,au,r.mono s3 (r.mono sR (r.mono s2 hr)),r'.mono s3 (r'.mono sR hr')⟩
 ·refine ⟨vs,vs',aM.of (sH _ _ (sR _ _ hp2)),aM.of (sH _ _ (sR _ _ hp')),?_⟩
  rw [List.length_zip] at hi
  rw [pp.length,pp'.length]
  omega
end
end Fc
namespace K1
open PySem L2 Fc
open PySem.Spec hiding Row
open PyProof.Rows hiding St
open PySem.Builtin.Int (intBits)
section
variable {v:aw}{run:List Int}
theorem mF {v:aw}{p:Int}{C:List Int}:∀(run acc:List Int),(cZ v p C acc run).length=1 + (run.filter λk=>decide (k∈C)).length
 | [],acc=>rfl
 | k::ks,acc=>by
   rw [cZ]
   by_cases h:k∈C
   ·rw [if_pos h,length_cons,mF ks,filter_cons_of_pos (by simpa using h),length_cons];omega
   ·rw [if_neg h,mF ks,filter_cons_of_neg (by simpa using h)]
theorem tJ (n:Nat)(A B:List Int):((tallyK n A).zip (tallyK n B)).map (λx=>x.1 + x.2)=tallyK n (A++B):=by
 unfold tallyK
 rw [List.zip_map',map_map]
 refine map_congr_left λk _=>?_
 show ((A.countP _:Nat):Int) + ((B.countP _:Nat):Int)=_
 rw [countP_append];omega
theorem ma (i:Int):∀F:PL,(F.filter λs=>decide (s.1 < i + 1)).Perm ((F.filter λs=>decide (s.1 < i))++F.filter λs=>decide (s.1=i))
 | []=>List.Perm.refl _
 | s::F=>by
   have ih:=ma i F
   by_cases h1:s.1 < i
   ·rw [filter_cons_of_pos (by simp;omega),filter_cons_of_pos (by simpa using h1),filter_cons_of_neg (by simp;omega)]
    exact ih.cons s
   ·by_cases h2:s.1=i
    ·rw [filter_cons_of_pos (by simp;omega),filter_cons_of_neg (by simpa using h1),filter_cons_of_pos (by simpa using h2)]
     exact (ih.cons s).trans List.perm_middle.symm
    ·rw [filter_cons_of_neg (by simp;omega),filter_cons_of_neg (by simpa using h1),filter_cons_of_neg (by simpa using h2)]
     exact ih
theorem qt {v:aw}{i:Int}(hi:i < (v.2.length:Int)):∀{run:List Int},(∀k∈run, -1<=bD v k)->(eL v run).countP (λy=>decide (y=i))=run.countP λy=>decide (y=i)
 | [],_=>rfl
 | k::ks,h=>by
   have ih:=qt hi (run:=ks) λx hx=>h x (mem_cons_of_mem _ hx)
   have c:=h k mem_cons_self
   have e:eL v (k::ks)=(k::(if bD v k= -1 then [] else [(v.2.length:Int) + bD v k]))++eL v ks:=by unfold eL;rw [flatMap_cons]
   rw [e,countP_append,ih,countP_cons,countP_cons]
   have z:(if bD v k= -1 then ([]:List Int) else [(v.2.length:Int) + bD v k]).countP (λy=>decide (y=i))=0:=by
    split
    ·rfl
    ·rw [countP_cons]
     have:¬(v.2.length:Int) + bD v k=i:=by omega
     simp [this]
   rw [z];omega
theorem qx {v:aw}{p:Int}(p0:0<=p):∀{run:List Int},(∀k∈run,k < (v.2.length:Int)/\ -1<=bD v k)->(eL v run).countP (λy=>decide (y=(v.2.length:Int) + p))=(callsOf v run).countP λy=>decide (y=p)
 | [],_=>rfl
 | k::ks,h=>by
   have ih:=qx p0 (run:=ks) λx hx=>h x (mem_cons_of_mem _ hx)
   obtain ⟨hk,c⟩:=h k mem_cons_self
   have e:eL v (k::ks)=(k::(if bD v k= -1 then [] else [(v.2.length:Int) + bD v k]))++eL v ks:=by unfold eL;rw [flatMap_cons]
   have nk:¬k=(v.2.length:Int) + p:=by omega
   rw [e,countP_append,ih,countP_cons]
   have e2:callsOf v (k::ks)=(if 0<=bD v k then [bD v k] else [])++callsOf v ks:=by
    unfold callsOf
    rw [map_cons]
    by_cases z:0<=bD v k
    ·rw [filter_cons_of_pos (by simpa using z),if_pos z];rfl
    ·rw [filter_cons_of_neg (by simpa using z),if_neg z];rfl
   rw [e2,countP_append]
   have z:(if bD v k= -1 then ([]:List Int) else [(v.2.length:Int) + bD v k]).countP (λy=>decide (y=(v.2.length:Int) + p))=(if 0<=bD v k then [bD v k] else []).countP (λy=>decide (y=p)):=by
    by_cases z:bD v k= -1
    ·rw [if_pos z,if_neg (by omega)];rfl
    ·rw [if_neg z,if_pos (by omega),countP_cons,countP_cons]
     by_cases q:bD v k=p
     ·simp [q]
     ·have:¬(v.2.length:Int) + bD v k=(v.2.length:Int) + p:=by omega
      simp [q,this]
   rw [z]
   simp [nk]
theorem yC (h:∀k∈run, -1<=bD v k):(tallyK (v.2.length + v.1.length) (fT v run)).take v.2.length=tallyK v.2.length run:=by
 refine ext_getElem? λi=>?_
 by_cases hi:i < v.2.length
 ·rw [getElem?_take,if_pos hi,gh (by omega),gh hi]
  congr 2
  unfold fT
  rw [countP_cons,qt (by omega) h]
  have:¬(v.2.length:Int)=(i:Int):=by omega
  simp [this]
 ·rw [getElem?_eq_none (by rw [length_take,cX];omega),getElem?_eq_none (by rw [cX];omega)]
theorem zq {p:Int}(p0:0<=p)(p1:p < (v.1.length:Int))(h:∀k∈run,k < (v.2.length:Int)/\ -1<=bD v k):(tallyK (v.2.length + v.1.length) (fT v run)).getD ((v.2.length:Int) + p).toNat 0=(((0::callsOf v run).countP λy=>decide (y=p):Nat):Int):=by
 rw [getD_eq_getElem?_getD,gh (by omega)]
 have e:((((v.2.length:Int) + p).toNat:Nat):Int)=(v.2.length:Int) + p:=by omega
 rw [e]
 unfold fT
 rw [countP_cons,qx p0 h,countP_cons]
 show ((_:Nat):Int)=_
 congr 2
 by_cases q:p=0
 ·simp [q]
 ·have a1:¬(v.2.length:Int)=(v.2.length:Int) + p:=by omega
  have a2:¬(0:Int)=p:=by omega
  simp [a1,a2]
def ownP (F:PL)(p:Int):List (List Int):=(F.filter λs=>decide (s.1=p)).map (·.2)
theorem yH {F:PL}(h:Bq v run F)(p:Int):((ownP F p).length:Nat)=(0::callsOf v run).countP λy=>decide (y=p):=by
 rw [← h.parts.countP_eq,List.countP_map]
 unfold ownP
 rw [length_map,List.countP_eq_length_filter];rfl
theorem BX {α:Type}{xs:List α}{i:Nat}(h:i<=xs.length):cut xs none (some (i:Int))=xs.take i:=by
 have e:HT.sIx xs.length xs.length (some (i:Int))=i:=by
  show (if (i:Int) < 0 then ((i:Int) + (xs.length:Int)).toNat else min (i:Int).toNat xs.length)=i
  rw [if_neg (by omega)];omega
 unfold cut
 rw [e];rfl
end
section
variable {P:Program}{w:World}{K:PySem.W.Frag}{mg:Str->Option Value}{base:Heap}{f:Addr}{fd:FuncData}
abbrev iY:Stmt:=top Bp
abbrev xk:List Str:=["_law_script","_law_purse_here","_law_web_here","_law_run_here","_law_handed","_law_told","_law_total","_law_part_here","_law_own","_law_back","_law_numbers","_law_rows","_law_some","_law_found"]
theorem AA:aB xk ["_law_script"] (ah iY):=fS0
def ox:bX:=λK ps T=>∃ns:List Int,ps=[⟨ik,ns⟩]/\ns.length<=63/\(∀n∈ns,intBits n<=2 ^ 20)/\T=bR K aW (· =true)
theorem Ci (M:bN mg)(CU:ay P w K mg base "_law_purse" 1 (aF EK K))(CW:ay P w K mg base "_law_web" 4 (eN bo Eb K))(CR:ay P w K mg base "_law_run" 7 (eN bo (E7 4) K))(CC:ay P w K mg base "_law_copy" 1 (aF EX K))(CI:ay P w K mg base "is_run" 7 (aF vq K))(CN:ay P w K mg base "counts" 7 (aF EJ K))(CO:ay P w K mg base "_law_own_runs" 1 (aF EW K))(CX:ay P w K mg base "cuts" 8 (aF xZ K))(CS:ay P w K mg base "stretches" 11 (aF El K))(CB:ay P w K mg base "counts_by" 12 (aF EE K))(F:bI K "law" "law" iY f fd):fu P w K mg base eX 13 f fd ["_law_script"] (aF ox K):=by
 have nd:=AA.nd
 have nd1:List.Nodup [("_law_other":Str),"_law_rows","_law_part_here"]:=by decide
 have nd2:List.Nodup [("_law_k":Str),"_law_back"]:=by decide
 have nd3:List.Nodup [("_law_one":Str),"_law_other"]:=by decide
 have CU:=CU.mono (show 1<=12 by decide)
 have CW:=CW.mono (show 4<=12 by decide)
 have CR:=CR.mono (show 7<=12 by decide)
 have CC:=CC.mono (show 1<=12 by decide)
 have CI:=CI.mono (show 7<=12 by decide)
 have CN:=CN.mono (show 7<=12 by decide)
 have CO:=CO.mono (show 1<=12 by decide)
 have CX:=CX.mono (show 8<=12 by decide)
 have CS:=CS.mono (show 11<=12 by decide)
 refine BC F AA (λqs T ⟨_,e,_⟩=>by rw [e];rfl) (λcdv A outer s H E qs T hr hS=>?_)
 obtain ⟨ns,rfl,hlen,hbits,rfl⟩:=hS
 have hu:∀n,n<=8->(A.deeper (envOfC "law" (ah iY) s.heap.objs.size f cdv)).units + n < cLine:=λn hn=>Nat.lt_of_le_of_lt (Nat.add_le_add_left (by omega:n<=64) _) hr.units
 have hu1:=hu 1 (by decide)
 have hu4:=hu 4 (by decide)
 change WS _ _ [.im ik ns,.no,.no,.no,.no,.no,.no,.no,.no,.no,.no,.no,.no,.no] _ _
 refine ai (wU 1 CU hr (ag (aa 0 rfl) aq) ⟨ns,rfl,hlen,hbits,rfl⟩ ?_)
 intro a b st hP
 refine ai (lj 1 CW hr (ag cP aq) rfl rfl ⟨_,false,hP,by decide,rfl,rfl⟩ (aG 2) ?_)
 rintro st2 v ⟨hP2,hL⟩
 have hv:=hL.g
 have hle:=hL.le
 have pl:=hv.pl
 have rl:=hv.rl
 refine ai (lj 1 CR hr (ag (aa 2 rfl) (ag ar (ag ar aq))) rfl rfl ⟨_,v,0,6,hP2,by decide,by decide,by decide,rfl,hv,by decide,by omega,by omega,by decide,by decide,rfl⟩ (aG 3) ?_)
 rintro st3 run ⟨hP3,hrun,_⟩
 refine ai (bL (bc r6 (bQ M.len (aa 3 rfl)) ar) (λ_=>ak (bK cP rfl)) (λh=>bu ?_))
 have rlen:run.length<=40:=by have:=of_decide_eq_false h;omega
 have hwalk:eZ v [(0,0)] run=some []:=by
  have:=hrun.walk hv [] []
  rw [append_nil] at this
  exact this
 have hrow:=hrun.rows
 have hrow2:∀k∈run,k < (v.2.length:Int)/\ -1<=bD v k:=λk hk=>⟨(hrow k hk).2,(hv.cL (AR (hrow k hk).1 (hrow k hk).2)).c0⟩
 have hO:=zS hv hrun
 have flen:∀s∈dy v run,s.2.length<=40:=λs hs=>by
  obtain ⟨X1,X2,e⟩:=append_of_mem hs
  have:=hO.perm.length_eq
  rw [e,flatMap_append,flatMap_cons] at this
  simp only [length_append] at this
  omega
 have fnum:(dy v run).length<=41:=by
  have:=hO.parts.length_eq
  rw [length_map,length_cons] at this
  have l:(callsOf v run).length<=run.length:=by unfold callsOf;exact Nat.le_trans (length_filter_le _ _) (by rw [length_map];exact Nat.le_refl _)
  omega
 refine ai (bg 4 (aY.im (aO (r:=iO bO (af ae)) (aN (EV.inl (bA CC hr (ag (aa 2 rfl) aq) ⟨v,rfl,rfl⟩)) (aN (EV.inr (aY.im (oj M.list (aa 3 rfl)))) bh)) (by show 2<=sizeLine;decide))) ?_)
 refine ai (bL (bc xa (bA CI hr (ag (EV.uK (x:=v) (aJ (aa 4 rfl) ar rfl)) (ag (EV.Es (y:=run) (aJ (aa 4 rfl) ar rfl)) aq)) ⟨v,run,rfl,hv,hwalk,rfl⟩) cP) (λh=>absurd h (by decide)) (λ_=>bu ?_))
 refine ai (bg 5 (aY.im (cT CN hr (ag (EV.uK (x:=v) (aJ (aa 4 rfl) ar rfl)) (ag (aY.im (aO (r:=af ae) (aN (EV.Es (y:=run) (aJ (aa 4 rfl) ar rfl)) bh) (by show 1<=sizeLine;decide))) aq)) ⟨v,run,rfl,hv,hwalk,hrow,rfl⟩)) ?_)
 refine ai (cG 6 (r:=ae) (ky (aY.im (aO (aN ar bh) (by show 1<=sizeLine;decide))) (bQ M.len (bb (aa 2 rfl))) (by omega) (by omega) (aI (by simp;omega))) ?_)
 rw [rep0,show ((v.2.length:Int)).toNat=v.2.length by omega,jQ]
 have tl:=cX v.2.length
 refine WS.freeze 6 rfl (aI (by rw [tl];omega)) ?_
 have tl2:=cX (v.2.length + v.1.length) (fT v run)
 have hpart:∀p:Int,∀r∈ownP (dy v run) p,bB v p 0 r=true/\r.length<=40:=λp r hr=>by
  obtain ⟨s,hs,rfl⟩:=mem_map.mp hr
  obtain ⟨h1,h2⟩:=mem_filter.mp hs
  have h2:s.1=p:=of_decide_eq_true h2
  have:=(hO.told s h1).2.2
  rw [h2] at this
  exact ⟨this,flen s h1⟩
 have oplen:∀p:Int,(ownP (dy v run) p).length<=41:=λp=>by unfold ownP;rw [length_map];exact Nat.le_trans (length_filter_le _ _) fnum
 refine ai (cv (r:=ae) (λi Γ=>∃(v7 v8 v9 v10 v11 v12 v13:Ent),Γ=[.im ik ns,.ob (bo.bx a b st3),.im (av (af ae) (af ax)) v,.im (af ae) run,.im (af (iO bO (af ae))) [.inl v,.inr run],.im (af ae) (tallyK (v.2.length + v.1.length) (fT v run)),.im (af ae) (tallyK v.2.length (((dy v run).filter λs=>decide (s.1 < (i:Int))).flatMap (·.2))),v7,v8,v9,v10,v11,v12,v13]) (fD M.range (bQ M.len (d5 (aa 2 rfl))) ⟨by omega,by omega⟩) (aG 7) ⟨.no,.no,.no,.no,.no,.no,.no,?i0⟩ ?_ ?_)
 case i0=>
  have e:(dy v run).filter (λs=>decide (s.1 < ((0:Nat):Int)))=[]:=List.filter_eq_nil_iff.mpr λs hs=>by
   have:=(hO.told s hs).1
   simp;omega
  rw [e];rfl
 ·rintro i p Γ hp ⟨v7,v8,v9,v10,v11,v12,v13,rfl⟩
  obtain ⟨il,ep⟩:=iT hp
  have ep:p=(i:Int):=by omega
  have p0:0<=p:=by omega
  have p1:p < (v.1.length:Int):=by omega
  refine ai (ir 8 (own:=["_law_other","_law_rows"]) (fr:=["_law_part_here"]) (ix:=[7]) (ra:=f6) (rb:=af ae) (p:=λs=>decide (s.1=p)) (f:=λs=>s.2) (bj (so:=ah iY) (N0:=xk) rfl rfl (λx h=>aT h) (by decide +kernel)) (aR (aY.im (cT CO hr (ag (aa 2 rfl) (ag (aa 3 rfl) aq)) ⟨v,run,rfl,hv,hrun,by omega,rfl⟩)))
   (λC s H ex=>fG 0 1) (λx=>⟨.inr rfl,.inr rfl,.inl rfl,trivial⟩) (λC s H ex x hx=>fU (bc e6 (aa 0 rfl) (aa 2 rfl))) (λC s H ex x hx _=>aa 1 rfl) ?_)
  refine WS.freeze 8 rfl (aI (by have:=oplen p;unfold ownP at this;omega)) ?_
  change WS _ _ [.im ik ns,.ob (bo.bx a b st3),.im (av (af ae) (af ax)) v,.im (af ae) run,.im (af (iO bO (af ae))) [.inl v,.inr run],.im (af ae) (tallyK (v.2.length + v.1.length) (fT v run)),.im (af ae) (tallyK v.2.length (((dy v run).filter λs=>decide (s.1 < (i:Int))).flatMap (·.2))),.im ae p,.im (af (af ae)) (ownP (dy v run) p),v9,v10,v11,v12,v13] _ _
  have hpp:=hpart p
  have hol:=oplen p
  have hown:=yH hO p
  have hsplit:tallyK v.2.length (((dy v run).filter λs=>decide (s.1 < ((i + 1:Nat):Int))).flatMap (·.2))=tallyK v.2.length (((dy v run).filter λs=>decide (s.1 < (i:Int))).flatMap (·.2)++(ownP (dy v run) p).flatten):=by
   refine jz ?_
   have h1:=(ma (i:Int) (dy v run)).flatMap_right (λs:Int×List Int=>s.2)
   rw [flatMap_append] at h1
   have e2:((dy v run).filter λs=>decide (s.1=(i:Int))).flatMap (λs:Int×List Int=>s.2)=(ownP (dy v run) p).flatten:=by
    unfold ownP;rw [ep,List.flatMap_def]
   rw [e2] at h1
   exact h1
  generalize ownP (dy v run) p=own at hpp hol hown hsplit
  refine ai (bg 9 (aY.im (iE (ys:=cutC v p) CX hr (ag (EV.uK (x:=v) (aJ (aa 4 rfl) ar rfl)) (ag (aa 7 rfl) aq)) ⟨v,p,rfl,hv,p0,p1,rfl⟩ λz hz=>by
   obtain ⟨l,c,h,e⟩:=hz
   rw [← ki h,← e])) ?_)
  refine ai (bg 10 (aY.im (aO (r:=ae) bh (by decide))) ?_)
  have bd:∀(L:List (List Int)),(∀r∈L,r.length<=40)->L.length<=41->(L.flatMap (cZ v p (cutC v p) [])).length<=41 * 41:=by
   have:∀(L:List (List Int)),(∀r∈L,r.length<=40)->(L.flatMap (cZ v p (cutC v p) [])).length<=41 * L.length:=by
    intro L
    induction L with
    | nil=>intro _;exact Nat.le_refl _
    | cons r L ih=>
      intro h
      have h1:=ih λx hx=>h x (mem_cons_of_mem _ hx)
      have h2:=(lF (v:=v) (p:=p) (C:=cutC v p) r []).1
      have h3:=h r mem_cons_self
      rw [flatMap_cons,length_append,length_cons]
      omega
   intro L h1 h2
   have:=this L h1
   omega
  refine ai (cv (r:=af ae) (λj Γ=>∃(v11 v12:Ent),Γ=[.im ik ns,.ob (bo.bx a b st3),.im (av (af ae) (af ax)) v,.im (af ae) run,.im (af (iO bO (af ae))) [.inl v,.inr run],.im (af ae) (tallyK (v.2.length + v.1.length) (fT v run)),.im (af ae) (tallyK v.2.length (((dy v run).filter λs=>decide (s.1 < (i:Int))).flatMap (·.2))),.im ae p,.im (af (af ae)) own,.im (af ae) (cutC v p),.im (af ae) ((((own.take j).reverse).flatMap (cZ v p (cutC v p) [])).map (eC v p)),v11,v12,v13]) (aR (aa 8 rfl)) (aG 11) ⟨_,_,rfl⟩ ?_ ?_)
  ·rintro j rows Γ hj ⟨v11,v12,rfl⟩
   have hm:=mem_of_getElem? hj
   obtain ⟨ht,hrl⟩:=hpp rows hm
   have tk:own.take (j + 1)=own.take j++[rows]:=by rw [take_succ,hj];rfl
   have nl:(lz v p rows).length=1 + (rows.filter λk=>decide (k∈cutC v p)).length:=by unfold lz;rw [length_map];exact mF rows []
   have nl2:=length_filter_le (λk=>decide (k∈cutC v p)) rows
   have bl:=bd (own.take j).reverse (λr hr=>(hpp r (mem_of_mem_take (mem_reverse.mp hr))).2) (by rw [List.length_reverse,length_take];omega)
   refine ai (bg 12 (aY.im (cT CS hr (ag (EV.uK (x:=v) (aJ (aa 4 rfl) ar rfl)) (ag (aa 7 rfl) (ag (aa 11 rfl) aq))) ⟨v,p,rows,rfl,hv,hle,p0,p1,by omega,ht,rfl⟩)) ?_)
   refine ai (bL (bc jt (bQ M.len (aa 12 rfl)) (cu ar (bQ M.len (aY.im (bF (own:=["_law_k"]) (fr:=["_law_back"]) (ix:=[9]) (ra:=ae) (rb:=ae) (p:=λk=>decide (k∈cutC v p)) (f:=λk=>k) (bj (so:=ah iY) (N0:=xk) rfl rfl (λx h=>aT h) (by decide +kernel)) (aR (aa 11 rfl))
    (λC s H ex=>aG 0) (λx=>⟨.inr rfl,.inl rfl,trivial⟩) (λC s H ex x hx=>fU (bc wY (aa 0 rfl) (aa 1 rfl))) (λC s H ex x hx _=>aa 0 rfl)))))) (λh=>?_) (λ_=>bu ?_))
   ·have e:((lz v p rows).length:Int)=1 + ((rows.filter λk=>decide (k∈cutC v p)).length:Int):=by rw [nl];push_cast;rfl
    rw [map_id',e] at h
    simp at h
   refine ak (bg 10 (aY.im (qc (aa 12 rfl) (aa 10 rfl) (aI (by rw [length_map];omega)))) ?_)
   refine ⟨.im (af ae) rows,.im (af ae) (lz v p rows),?_⟩
   have e:(((own.take (j + 1)).reverse).flatMap (cZ v p (cutC v p) [])).map (eC v p)=lz v p rows++(((own.take j).reverse).flatMap (cZ v p (cutC v p) [])).map (eC v p):=by
    rw [tk,reverse_append]
    show ((rows::(own.take j).reverse).flatMap _).map _=_
    rw [flatMap_cons,map_append];rfl
   rw [e];rfl
  rintro Γ ⟨v11,v12,rfl⟩
  rw [take_length]
  have htal:tallyK v.2.length (gz v p (cutC v p) (own.reverse.flatMap (cZ v p (cutC v p) [])))=tallyK v.2.length own.flatten:=by
   rw [nW own.reverse λr hr=>mP (hpp r (mem_reverse.mp hr)).1]
   exact jz (List.Perm.flatten (List.reverse_perm own))
  have bl:=bd own.reverse (λr hr=>(hpp r (mem_reverse.mp hr)).2) (by rw [List.length_reverse];omega)
  refine ai (bg 13 (aY.im (cT CB hr (ag (EV.uK (x:=v) (aJ (aa 4 rfl) ar rfl)) (ag (aa 7 rfl) (ag (aa 10 rfl) aq))) ⟨v,p,own.reverse.flatMap (cZ v p (cutC v p) []),rfl,hv,hle,p0,p1,by omega,λx hx=>by
   obtain ⟨r,hr,hx⟩:=mem_flatMap.mp hx
   exact qr (hpp r (mem_reverse.mp hr)).1 x hx,rfl⟩)) ?_)
  rw [htal]
  refine ai (ir 6 (own:=["_law_one","_law_other"]) (fr:=[]) (ix:=[]) (ra:=av ae ae) (rb:=ae) (p:=λ_=>true) (f:=λx=>x.1 + x.2) (bj (so:=ah iY) (N0:=xk) rfl rfl (λx h=>aT h) (by decide +kernel)) (BL M.zip (aa 6 rfl) (aa 13 rfl))
   (λC s H ex=>fG 0 1) (λx=>⟨.inr rfl,.inr rfl,trivial⟩) (λC s H ex x hx=>cf) (λC s H ex x hx _=>cu (aa 0 rfl) (aa 1 rfl)) ?_)
  have f1:∀{α:Type} (l:List α),l.filter (λ_=>true)=l:=λl=>filter_eq_self.mpr (by simp)
  rw [f1,tJ,← hsplit]
  refine WS.freeze 6 rfl (aI (by rw [tl];omega)) ?_
  refine ak (bL (bc jt (aJ (y:=(((0::callsOf v run).countP λy=>decide (y=p):Nat):Int)) (aa 5 rfl) (cu (bQ M.len (bb (aa 2 rfl))) (aa 7 rfl)) (by rw [cw (by omega) (by rw [tl2];push_cast;omega),zq p0 p1 hrow2])) (bQ M.len (aa 8 rfl))) (λh=>?_) (λ_=>bu ⟨_,_,_,_,_,_,_,rfl⟩))
  rw [hown] at h
  simp at h
 ·rintro Γ ⟨v7,v8,v9,v10,v11,v12,v13,rfl⟩
  rw [aC,show ((v.1.length:Int)).toNat=v.1.length by omega]
  have e:(dy v run).filter (λs=>decide (s.1 < ((v.1.length:Nat):Int)))=dy v run:=filter_eq_self.mpr λs hs=>decide_eq_true (hO.told s hs).2.1
  rw [e,jz hO.perm]
  refine ak (bK (eF (d9 (nR (r:=ae) eq_int hu1) (aa 6 rfl) (aY.im (uJ (aa 5 rfl) qw (qN (bQ M.len (bb (aa 2 rfl))))))) (λ_=>eG (d9 (nR (α:=(List Int×List Row) ⊕ List Int) (r:=iO (av (af ae) (af ax)) (af ae)) (B4 (n:=3) (m:=1) (k:=3) (qT (eq_list eq_int) (eq_list z7) (by decide) (by decide)) (eq_list eq_int) (by decide) (by decide)) hu4) (aa 4 rfl) (aY.im (aO (aN (EV.inl (aa 2 rfl)) (aN (EV.inr (aa 3 rfl)) bh)) (by show 2<=sizeLine;decide)))))) ?_)
  rw [BX (by rw [tl2];omega),yC λk hk=>(hrow2 k hk).2]
  simp
end
section
variable {K:PySem.W.Frag}{mg:Str->Option Value}
structure Top (K:PySem.W.Frag) (mg:Str->Option Value):Prop where
 M:bN mg
 IW:Def K mg "is_whole" xh ["value"]
 AW:Def K mg "are_whole" p5 ["values"]
 RF:Def K mg "has_row_form" xX ["row"]
 WF:Def K mg "has_web_form" uC ["web"]
 WZ:Def K mg "has_web_sizes" ur ["web"]
 LW:Def K mg "leads_within" xE ["places","row"]
 IC:Def K mg "is_called" va ["rows","part"]
 RE:Def K mg "reached" ya ["leads","start"]
 LO:Def K mg "lies_on_ways" qq ["rows","part","size"]
 WE:Def K mg "is_web" nY ["web"]
 NW:Def K mg "need_web" x8 ["web"]
 IP:Def K mg "is_part" xR ["web","part"]
 NP:Def K mg "need_part" xj ["web","part"]
 RV:Def K mg "rows_leaving" um ["web","part"]
 WN:Def K mg "ways_on" mR ["web","part"]
 WI:Def K mg "worths_in" sV ["web","part"]
 RW:Def K mg "is_row" xm ["web","number"]
 CG:Def K mg "can_go" qL ["web","stack","number"]
 LT:Def K mg "leads_through" xF ["web","part","rows"]
 YB:Def K mg "way_by" tD ["web","known","leaving","number"]
 WS:Def K mg "ways_of" pB ["web","part","numbers"]
 CU:Def K mg "cuts" yc ["web","part"]
 LY:Def K mg "laid_out" qz ["web","part"]
 SW:Def K mg "stretch_web" vj ["web","part"]
 FN:Def K mg "fallen" uR ["web","part","rows"]
 CB:Def K mg "counts_by" xr ["web","part","numbers"]
 ST:Def K mg "stretches" qo ["web","part","rows"]
 AB:Def K mg "at_begin" xN ["part"]
 GO:Def K mg "go" p6 ["stack","row"]
 SB:Def K mg "stack_behind" ye ["web","rows"]
 RO:Def K mg "is_run_of" uY ["web","rows"]
 IR:Def K mg "is_run" xV ["web","rows"]
 CC:Def K mg "count_of_counts" xu ["web"]
 HO:Def K mg "is_heap_of" sT ["web","heap"]
 TO:Def K mg "tally_of" xQ ["web","heap"]
 CO:Def K mg "counts" xy ["web","heap"]
 DR:Def K mg "_law_draw" yh ["_law_purse_here","_law_out_of"]
 PU:Def K mg "_law_purse" oN ["_law_script"]
 OR:Def K mg "_law_order" xH ["_law_purse_here","_law_many"]
 PT:Def K mg "_law_part" jS ["_law_purse_here","_law_many","_law_loose"]
 CL:Def K mg "_law_called" sY ["_law_purse_here","_law_rows","_law_parts"]
 WB:Def K mg "_law_web" qu ["_law_purse_here","_law_loose"]
 CP:Def K mg "_law_copy" vz ["_law_web_here"]
 FR:Def K mg "_law_from" qF ["_law_web_here","_law_part_here","_law_place"]
 NE:Def K mg "_law_near" uF ["_law_web_here","_law_part_here"]
 OU:Def K mg "_law_own_run" nq ["_law_purse_here","_law_web_here","_law_part_here","_law_most"]
 RU:Def K mg "_law_run" xM ["_law_purse_here","_law_web_here","_law_part_here","_law_left"]
 OW:Def K mg "_law_own_runs" oo ["_law_web_here","_law_run_here"]
theorem BI {P:Program}{w:World}{base:Heap}{f:Addr}{fd:FuncData}(T:Top K mg)(F:bI K "law" "law" iY f fd):fu P w K mg base eX 13 f fd ["_law_script"] (aF ox K):=by
 have M:=T.M
 obtain ⟨_,_,F1,m1,b1⟩:=T.IW
 have IW:=DG (P:=P) (w:=w) (base:=base) M F1 m1 b1
 obtain ⟨_,_,F1,m1,b1⟩:=T.AW
 have AW:=Dh (P:=P) (w:=w) (base:=base) M IW F1 m1 b1
 obtain ⟨_,_,F1,m1,b1⟩:=T.RF
 have RF:=Dd (P:=P) (w:=w) (base:=base) M AW F1 m1 b1
 obtain ⟨_,_,F1,m1,b1⟩:=T.WF
 have WF:=Dt (P:=P) (w:=w) (base:=base) M AW RF F1 m1 b1
 obtain ⟨_,_,F1,m1,b1⟩:=T.WZ
 have WZ:=Df (P:=P) (w:=w) (base:=base) M F1 m1 b1
 obtain ⟨_,_,F1,m1,b1⟩:=T.LW
 have LW:=Dn (P:=P) (w:=w) (base:=base) M F1 m1 b1
 obtain ⟨_,_,F1,m1,b1⟩:=T.IC
 have IC:=DK (P:=P) (w:=w) (base:=base) M F1 m1 b1
 obtain ⟨_,_,F1,m1,b1⟩:=T.RE
 have RE:=Dk (P:=P) (w:=w) (base:=base) F1 m1 b1
 obtain ⟨_,_,F1,m1,b1⟩:=T.LO
 have LO:=DL (P:=P) (w:=w) (base:=base) M RE F1 m1 b1
 obtain ⟨_,_,F1,m1,b1⟩:=T.WE
 have WE:=Cf (P:=P) (w:=w) (base:=base) M WF WZ LW IC LO F1 m1 b1
 obtain ⟨_,_,F1,m1,b1⟩:=T.NW
 have NW:=DE (P:=P) (w:=w) (base:=base) WE F1 m1 b1
 obtain ⟨_,_,F1,m1,b1⟩:=T.IP
 have IP:=Cv (P:=P) (w:=w) (base:=base) M IW F1 m1 b1
 obtain ⟨_,_,F1,m1,b1⟩:=T.NP
 have NP:=D1 (P:=P) (w:=w) (base:=base) NW IP F1 m1 b1
 obtain ⟨_,_,F1,m1,b1⟩:=T.RV
 have RV:=x6 (P:=P) (w:=w) (base:=base) true M F1 m1 b1
 have RVf:=x6 (P:=P) (w:=w) (base:=base) false M F1 m1 b1
 obtain ⟨_,_,F1,m1,b1⟩:=T.WN
 have WN:=Dp (P:=P) (w:=w) (base:=base) M RV F1 m1 b1
 obtain ⟨_,_,F1,m1,b1⟩:=T.WI
 have WI:=C6 (P:=P) (w:=w) (base:=base) M WN RV F1 m1 b1
 obtain ⟨_,_,F1,m1,b1⟩:=T.RW
 have RW:=Cp (P:=P) (w:=w) (base:=base) M IW F1 m1 b1
 obtain ⟨_,_,F1,m1,b1⟩:=T.CG
 have CG:=D5 (P:=P) (w:=w) (base:=base) RW F1 m1 b1
 have CG1:=zu (P:=P) (w:=w) (base:=base) RW F1 m1 b1
 obtain ⟨_,_,F1,m1,b1⟩:=T.LT
 have LT:=B8 (P:=P) (w:=w) (base:=base) M CG1 F1 m1 b1
 obtain ⟨_,_,F1,m1,b1⟩:=T.YB
 have YB:=Cj (P:=P) (w:=w) (base:=base) M F1 m1 b1
 obtain ⟨_,_,F1,m1,b1⟩:=T.WS
 have WS:=Ce (P:=P) (w:=w) (base:=base) M IW WI WN RV YB F1 m1 b1
 obtain ⟨_,_,F1,m1,b1⟩:=T.CU
 have CU:=DH (P:=P) (w:=w) (base:=base) M NP RVf F1 m1 b1
 obtain ⟨_,_,F1,m1,b1⟩:=T.LY
 have LY:=Cg (P:=P) (w:=w) (base:=base) M CU F1 m1 b1
 obtain ⟨_,_,F1,m1,b1⟩:=T.SW
 have SW:=Dz (P:=P) (w:=w) (base:=base) true M LY F1 m1 b1
 obtain ⟨_,_,F1,m1,b1⟩:=T.FN
 have FN:=Di (P:=P) (w:=w) (base:=base) M LY CU F1 m1 b1
 obtain ⟨_,_,F1,m1,b1⟩:=T.CB
 have CB:=DJ (P:=P) (w:=w) (base:=base) M LY SW WS F1 m1 b1
 obtain ⟨_,_,F1,m1,b1⟩:=T.ST
 have ST:=Cs (P:=P) (w:=w) (base:=base) M NP LT SW WI FN F1 m1 b1
 obtain ⟨_,_,F1,m1,b1⟩:=T.AB
 have AB:=Cb (P:=P) (w:=w) (base:=base) M F1 m1 b1
 obtain ⟨_,_,F1,m1,b1⟩:=T.GO
 have GO:=Ds (P:=P) (w:=w) (base:=base) M AB F1 m1 b1
 obtain ⟨_,_,F1,m1,b1⟩:=T.SB
 have SB:=DO (P:=P) (w:=w) (base:=base) M AB CG GO F1 m1 b1
 obtain ⟨_,_,F1,m1,b1⟩:=T.RO
 have RO:=Cq (P:=P) (w:=w) (base:=base) SB F1 m1 b1
 obtain ⟨_,_,F1,m1,b1⟩:=T.IR
 have IR:=Cc (P:=P) (w:=w) (base:=base) NW RO F1 m1 b1
 obtain ⟨_,_,F1,m1,b1⟩:=T.CC
 have CC:=Co (P:=P) (w:=w) (base:=base) M F1 m1 b1
 obtain ⟨_,_,F1,m1,b1⟩:=T.HO
 have HO:=Dv (P:=P) (w:=w) (base:=base) M RO F1 m1 b1
 obtain ⟨_,_,F1,m1,b1⟩:=T.TO
 have TO:=Ch (P:=P) (w:=w) (base:=base) M CC F1 m1 b1
 obtain ⟨_,_,F1,m1,b1⟩:=T.CO
 have CO:=CZ (P:=P) (w:=w) (base:=base) NW HO TO F1 m1 b1
 obtain ⟨_,_,F1,m1,b1⟩:=T.DR
 have DR:=DZ (P:=P) (w:=w) (base:=base) M F1 m1 b1
 obtain ⟨_,_,F1,m1,b1⟩:=T.PU
 have PU:=Cz (P:=P) (w:=w) (base:=base) F1 m1 b1
 obtain ⟨_,_,F1,m1,b1⟩:=T.OR
 have OR:=DB (P:=P) (w:=w) (base:=base) M DR F1 m1 b1
 obtain ⟨_,_,F1,m1,b1⟩:=T.PT
 have PT:=D3 (P:=P) (w:=w) (base:=base) M DR OR F1 m1 b1
 obtain ⟨_,_,F1,m1,b1⟩:=T.CL
 have CL:=D2 (P:=P) (w:=w) (base:=base) M DR F1 m1 b1
 obtain ⟨_,_,F1,m1,b1⟩:=T.WB
 have WB:=Cr (P:=P) (w:=w) (base:=base) M DR OR PT CL F1 m1 b1
 obtain ⟨_,_,F1,m1,b1⟩:=T.CP
 have CP:=DT (P:=P) (w:=w) (base:=base) M F1 m1 b1
 obtain ⟨_,_,F1,m1,b1⟩:=T.FR
 have FR:=Cu (P:=P) (w:=w) (base:=base) M F1 m1 b1
 obtain ⟨_,_,F1,m1,b1⟩:=T.NE
 have NE:=CQ (P:=P) (w:=w) (base:=base) M F1 m1 b1
 obtain ⟨_,_,F1,m1,b1⟩:=T.OU
 have OU:=CM (P:=P) (w:=w) (base:=base) M DR FR NE F1 m1 b1
 obtain ⟨_,_,F1,m1,b1⟩:=T.RU
 have RU:=D6 (P:=P) (w:=w) (base:=base) M DR OU F1 m1 b1
 obtain ⟨_,_,F1,m1,b1⟩:=T.OW
 have OW:=Dq (P:=P) (w:=w) (base:=base) M F1 m1 b1
 exact Ci M PU WB (RU 4) CP IR CO OW CU ST CB F
theorem yy {h:Heap}(KX:K.In h)(G:h.Ns mainGlobals mg){t1 t2 t3 t4 t5 t6 t7 t8:Tok}
 (a1:PySem.W.nsIn K mainGlobals "MOST_PARTS"=some (some (.int 4 t1))) (a2:PySem.W.nsIn K mainGlobals "LEAST_PLACES"=some (some (.int 2 t2))) (a3:PySem.W.nsIn K mainGlobals "MOST_PLACES"=some (some (.int 16 t3))) (a4:PySem.W.nsIn K mainGlobals "MOST_ROWS"=some (some (.int 60 t4))) (a5:PySem.W.nsIn K mainGlobals "FIRST_PART"=some (some (.int 0 t5))) (a6:PySem.W.nsIn K mainGlobals "BEGIN"=some (some (.int 0 t6))) (a7:PySem.W.nsIn K mainGlobals "END"=some (some (.int 1 t7))) (a8:PySem.W.nsIn K mainGlobals "NO_CALL"=some (some (.int (-1) t8)))
 (b1:PySem.W.nsIn K mainGlobals "len"=some none) (b2:PySem.W.nsIn K mainGlobals "all"=some none) (b3:PySem.W.nsIn K mainGlobals "any"=some none) (b4:PySem.W.nsIn K mainGlobals "range"=some none) (b5:PySem.W.nsIn K mainGlobals "enumerate"=some none) (b6:PySem.W.nsIn K mainGlobals "isinstance"=some none) (b7:PySem.W.nsIn K mainGlobals "int"=some none) (b8:PySem.W.nsIn K mainGlobals "bool"=some none) (b9:PySem.W.nsIn K mainGlobals "list"=some none) (b10:PySem.W.nsIn K mainGlobals "tuple"=some none) (b11:PySem.W.nsIn K mainGlobals "min"=some none) (b12:PySem.W.nsIn K mainGlobals "max"=some none) (b13:PySem.W.nsIn K mainGlobals "sorted"=some none) (b14:PySem.W.nsIn K mainGlobals "sum"=some none) (b15:PySem.W.nsIn K mainGlobals "zip"=some none) (b16:PySem.W.nsIn K mainGlobals "reversed"=some none):bN mg:=
 ⟨⟨_,PySem.W.mg_of KX G a1⟩,⟨_,PySem.W.mg_of KX G a2⟩,⟨_,PySem.W.mg_of KX G a3⟩,⟨_,PySem.W.mg_of KX G a4⟩,⟨_,PySem.W.mg_of KX G a5⟩,⟨_,PySem.W.mg_of KX G a6⟩,⟨_,PySem.W.mg_of KX G a7⟩,⟨_,PySem.W.mg_of KX G a8⟩,PySem.W.mg_none_of KX G b1,PySem.W.mg_none_of KX G b2,PySem.W.mg_none_of KX G b3,PySem.W.mg_none_of KX G b4,PySem.W.mg_none_of KX G b5,PySem.W.mg_none_of KX G b6,PySem.W.mg_none_of KX G b7,PySem.W.mg_none_of KX G b8,PySem.W.mg_none_of KX G b9,PySem.W.mg_none_of KX G b10,PySem.W.mg_none_of KX G b11,PySem.W.mg_none_of KX G b12,PySem.W.mg_none_of KX G b13,PySem.W.mg_none_of KX G b14,PySem.W.mg_none_of KX G b15,PySem.W.mg_none_of KX G b16⟩
theorem zD {l:PySem.W.OpenLaw}{w:World}{h:Heap}{fa f:Addr}{oc kV doc pm cdv ct:Value}{od an:Option Addr}{osl:Array (Option Value)}(KX:K.In h)(G:h.Ns mainGlobals mg)(hfa:mg "law"=some (.ref fa))(T:Top K mg)
 (a:PySem.W.nsIn K mainGlobals "law"=some (some (.ref f))) (lk:K.lookup f=some ⟨oc,od,.func (PySem.W.fnOf "law" "law" (fK iY) (cg iY) (ah iY) .none kV doc pm an cdv ct),osl⟩) (c:PySem.W.codeIn K cdv "law"=true) (k:PySem.W.keepIn K (.ref f)=true):
 ∃fd:FuncData,(∀(s:Shared) (v:Value),BindsTo s fd ⟨[v],[]⟩ [("_law_script",v)])/\∀base:Heap,K.In base->base.Ns mainGlobals mg->fu l.prog w K mg base eX 13 fa fd ["_law_script"] (aF ox K):=by
 have e:=hfa.symm.trans (PySem.W.mg_of KX G a)
 cases e
 exact ⟨PySem.W.fnOf "law" "law" (fK iY) (cg iY) (ah iY) .none kV doc pm an cdv ct,λs v=>.of_eq rfl,λbase _ _=>BI T (oh lk c k)⟩
theorem walk {l:PySem.W.OpenLaw}{q:Program}{loose:List Str}{XP:(Str->Option Value)->Heap->Prop}{YP:World->Heap->Prop}{d:DefRec}{K:Params->PySem.W.Frag}(hn:l.most=some 63)(hdf:d.params.defaults=[])
 (hY:∀(w:World) (h:Heap),YP w h->(K w.params).In h)
 (F:∀(w:World) (mg:Str->Option Value) (fa:Addr) (h:Heap),(K w.params).In h->h.Ns mainGlobals mg->mg d.name=some (.ref fa)->
  ∃fd:FuncData,(∀(s:Shared) (u:Value),BindsTo s fd ⟨[u],[]⟩ [("_law_script",u)])/\∀base:Heap,(K w.params).In base->base.Ns mainGlobals mg->fu l.prog w (K w.params) mg base eX 13 fa fd ["_law_script"] (aF ox (K w.params))):
 PySem.W.WalkO q loose XP YP l.row.toRowW d [] (λf vs=>PySem.call f vs):=
 L2.wF (n:=63) (k:=13) (x:="_law_script") (CX:=λ_=>eX) (sp:=λw=>aF ox (K w.params)) hn (by decide) hdf ⟨rfl,by decide,by decide⟩ hY F
   (λw H a ns hl hbits _ hS=>⟨H,[⟨ik,ns⟩],_,aj.refl _,.cons ⟨a,rfl,hS,hl⟩ .nil,⟨ns,rfl,hl,hbits,rfl⟩,λv H' R' _ t=>by obtain ⟨y,hy,rfl⟩:=t;exact hy⟩) λ_ _ _ _ _ z=>z
end
end K1
open PySem PySem.W PyProof.Rows
namespace PySem.W.Fast
theorem tw8336054987632886954:True:=trivial
theorem tw4146926841015193777:True:=trivial
theorem tw11459951452313453260:True:=trivial
theorem tw15854601306779496686:True:=trivial
theorem tw391368457879504906:True:=trivial
theorem tw2705973556012099614:True:=trivial
theorem tw547715549187035968:True:=trivial
theorem tw11498574306015746735:True:=trivial
theorem tw15529244332223543989:True:=trivial
theorem tw693055479447999964:True:=trivial
theorem tw14695373897928940699:True:=trivial
theorem tw5106577165973098172:True:=trivial
theorem tw6932191065774769999:True:=trivial
theorem tw12286556218766909384:True:=trivial
theorem tw10310168968407626308:True:=trivial
theorem tw3812366297633572154:True:=trivial
theorem tw15415904695691706157:True:=trivial
theorem tw17083306685696929577:True:=trivial
theorem tw12186339740761697754:True:=trivial
theorem tw10312630701007879472:True:=trivial
theorem tw7272385260466285352:True:=trivial
theorem tw12488814490650669583:True:=trivial
theorem tw17878425626903200733:True:=trivial
theorem tw1760925482801311362:True:=trivial
theorem tw14720613884088485925:True:=trivial
theorem tw10838012779011410745:True:=trivial
theorem tw15694824434640674080:True:=trivial
theorem tw4614810834559957647:True:=trivial
theorem tw6767575488260170642:True:=trivial
theorem tw6684742821537036516:True:=trivial
theorem tw2281979810747013930:True:=trivial
theorem tw17928115156558052549:True:=trivial
theorem tw13454973283331067420:True:=trivial
theorem tw13128527462213812149:True:=trivial
theorem tw16247406046799731086:True:=trivial
theorem tw213768959293762608:True:=trivial
theorem tw1218351016133171995:True:=trivial
theorem tw9281939445261082286:True:=trivial
theorem tw15958828239241393303:True:=trivial
theorem tw15480292413563399802:True:=trivial
theorem tw4349766041567258356:True:=trivial
theorem tw1718343320067873819:True:=trivial
theorem tw7131490569415673352:True:=trivial
theorem tw1131008743892816769:True:=trivial
theorem tw5105872382169854721:True:=trivial
theorem tw550955728029151093:True:=trivial
theorem tw14555232528528657634:True:=trivial
theorem tw3547750182297074722:True:=trivial
theorem tw2302334718572841946:True:=trivial
theorem tw7455943133434501948:True:=trivial
theorem tw18229778398742168292:True:=trivial
theorem tw15429517607395598070:True:=trivial
theorem tw5076754262413287474:True:=trivial
theorem tw9713951367644074829:True:=trivial
theorem tw16818850901588875150:True:=trivial
theorem tw8670109480679265438:True:=trivial
theorem tw15701825186716115903:True:=trivial
theorem tw15178449050596219307:True:=trivial
theorem tw14922051419316848924:True:=trivial
theorem tw4507785403727492881:True:=trivial
theorem tw5510291114576760910:True:=trivial
theorem tw8099410080985924873:True:=trivial
theorem tw9257550258997467330:True:=trivial
theorem tw6952688680773394216:True:=trivial
theorem tw319592100227345515:True:=trivial
theorem tw565743774684622829:True:=trivial
theorem tw14346032461222462794:True:=trivial
theorem tw65018551907879495:True:=trivial
theorem tw2811934151078047051:True:=trivial
theorem tw12928964649011442477:True:=trivial
theorem tw17510692029843659215:True:=trivial
theorem tw6953111910652174028:True:=trivial
theorem tw12686823851273857660:True:=trivial
theorem tw10331235939716581744:True:=trivial
theorem tw17782375471513632515:True:=trivial
theorem tw12577356976587474488:True:=trivial
theorem tw8009680967717061433:True:=trivial
theorem tw8727056512612209433:True:=trivial
theorem tw422290735937097868:True:=trivial
theorem tw11057533714824096520:True:=trivial
theorem tw2937755656856620025:True:=trivial
theorem tw14884596504721266844:True:=trivial
theorem tw17262786570139605000:True:=trivial
theorem tw10947132670398849135:True:=trivial
theorem tw14447421102465245871:True:=trivial
theorem tw17742782471055903623:True:=trivial
theorem tw16038105067328490341:True:=trivial
theorem tw10146386380644483202:True:=trivial
theorem tw2245076333252250502:True:=trivial
theorem tw2400093111598496551:True:=trivial
theorem tw11936686701103938306:True:=trivial
theorem tw4673983666075838965:True:=trivial
theorem tw54317519070391153:True:=trivial
theorem tw8043999087101622564:True:=trivial
theorem tw12723139451611735365:True:=trivial
theorem tw1008461158481012781:True:=trivial
theorem tw11343858724043298437:True:=trivial
theorem tw1098001354387730753:True:=trivial
theorem tw15685943384732757109:True:=trivial
theorem tw10655240410052561363:True:=trivial
theorem tw16446279400037835123:True:=trivial
theorem tw14199040177712147998:True:=trivial
theorem tw2693329522437903058:True:=trivial
theorem tw10563044399852437443:True:=trivial
theorem tw16973583820313983561:True:=trivial
theorem tw2006683434912260321:True:=trivial
theorem tw8379097417594773191:True:=trivial
theorem tw6275900163696332740:True:=trivial
theorem tw796434904335617634:True:=trivial
theorem tw4534214743405133493:True:=trivial
theorem tw4505346929785896712:True:=trivial
theorem tw8613791261805038243:True:=trivial
theorem tw530758258903593066:True:=trivial
theorem tw6992686339791492358:True:=trivial
theorem tw17591017382416886877:True:=trivial
theorem tw13616510341112271414:True:=trivial
theorem tw9901888026719031025:True:=trivial
theorem tw4179646243961308073:True:=trivial
theorem tw2748641085115108506:True:=trivial
theorem tw8341383048264286367:True:=trivial
theorem tw10526453506436608125:True:=trivial
theorem tw5295549668511007284:True:=trivial
theorem tw10374104861069106397:True:=trivial
theorem tw9895405768353169313:True:=trivial
theorem tw14456243867896332745:True:=trivial
theorem tw17528729565718396527:True:=trivial
theorem tw8356013795358702126:True:=trivial
theorem tw16494748134065280279:True:=trivial
theorem tw16621108303447610302:True:=trivial
theorem tw2806498294149567047:True:=trivial
theorem tw4180873442120313012:True:=trivial
theorem tw5770258026546659714:True:=trivial
theorem tw13907650069618114498:True:=trivial
theorem tw13536103425575836981:True:=trivial
theorem tw4416402759296437628:True:=trivial
theorem tw18183456580443919939:True:=trivial
theorem tw11062177701662274976:True:=trivial
theorem tw1246776053351052208:True:=trivial
theorem tw13075335360617001068:True:=trivial
theorem tw10598316021164871218:True:=trivial
theorem tw4061427083105379957:True:=trivial
theorem tw13844164076488802072:True:=trivial
theorem tw12284181202785926785:True:=trivial
theorem tw10509468897841983712:True:=trivial
theorem tw4647479779735474306:True:=trivial
theorem tw10855220395728847764:True:=trivial
theorem tw12527810976390895364:True:=trivial
theorem tw16683127759239223240:True:=trivial
theorem tw2308313427472451783:True:=trivial
theorem tw8604726578855755124:True:=trivial
theorem tw7461829296393169415:True:=trivial
theorem tw15004333964944408731:True:=trivial
theorem tw2326173509780036707:True:=trivial
theorem tw4485087621287569851:True:=trivial
theorem tw4807227060603155920:True:=trivial
theorem tw12246784741911002887:True:=trivial
theorem tw3980155314495951804:True:=trivial
theorem tw5167409962191550090:True:=trivial
theorem tw18079067079586023742:True:=trivial
theorem tw3702428765242005346:True:=trivial
theorem tw8741209594926242812:True:=trivial
theorem tw18261209425475283815:True:=trivial
theorem tw1854311171721507766:True:=trivial
theorem tw9409858892616773698:True:=trivial
theorem tw15639572787472172374:True:=trivial
theorem tw12058114108269462285:True:=trivial
theorem tw15716583973590538496:True:=trivial
theorem tw145127323436082658:True:=trivial
theorem tw13249114441808782653:True:=trivial
theorem tw6107040522726111019:True:=trivial
theorem tw3115827799526199810:True:=trivial
theorem tw7607267634083630357:True:=trivial
theorem tw5756409705927959618:True:=trivial
theorem tw28183468274825540:True:=trivial
theorem tw10786481539273169473:True:=trivial
theorem tw17217861306470211284:True:=trivial
theorem tw3446691326296053206:True:=trivial
theorem tw4561806264404290954:True:=trivial
theorem tw3216715262120311784:True:=trivial
theorem tw17780775197976906278:True:=trivial
theorem tw3266143297233783071:True:=trivial
theorem tw15220919480731312361:True:=trivial
theorem tw16017055325995162599:True:=trivial
theorem tw6768483617455117643:True:=trivial
theorem tw2677172655591900679:True:=trivial
theorem tw14009119870240838881:True:=trivial
theorem tw9116287191107588292:True:=trivial
theorem tw4182769148568377643:True:=trivial
theorem tw6021041532616056780:True:=trivial
theorem tw5103699410056558458:True:=trivial
theorem tw2130753587209066494:True:=trivial
theorem tw16539075589841239999:True:=trivial
theorem tw159142880902813526:True:=trivial
theorem tw8235376874100188835:True:=trivial
theorem tw1039586100816169131:True:=trivial
theorem tw6048867990568254288:True:=trivial
theorem tw2818439070557317173:True:=trivial
theorem tw2272789897860568088:True:=trivial
theorem tw13442001862815087997:True:=trivial
theorem tw8856288050571519445:True:=trivial
theorem tw6593530873087551002:True:=trivial
theorem tw16210289020271544782:True:=trivial
theorem tw13228414116157486542:True:=trivial
theorem tw13671534962794123198:True:=trivial
theorem tw10192818646691388636:True:=trivial
theorem tw17146679924387229604:True:=trivial
theorem tw6842304153707683989:True:=trivial
theorem tw7141853423454225977:True:=trivial
theorem tw8825065411151021209:True:=trivial
theorem tw4867664857190172961:True:=trivial
end PySem.W.Fast
set_option maxRecDepth 100000 in
set_option maxHeartbeats 0 in
theorem PySem.Challenge.cw_fewcounters_k55_whole_runs_and_stretches_holds : PySem.Challenge.rw_fewcounters_k55_whole_runs_and_stretches.Holds := by
 w_on;o_law;k_head;(case hw=>w_witness2)
 k_fill
 refine K1.walk (l:=PySem.Challenge.rw_fewcounters_k55_whole_runs_and_stretches) rfl rfl (λw h Y=>PySem.W.kIn_of Y) ?F
 case F=>
  intro w mg fa h KX G hmg
  have M:K1.bN mg:=by
   refine' K1.yy KX G ?a1 ?a2 ?a3 ?a4 ?a5 ?a6 ?a7 ?a8 ?b1 ?b2 ?b3 ?b4 ?b5 ?b6 ?b7 ?b8 ?b9 ?b10 ?b11 ?b12 ?b13 ?b14 ?b15 ?b16
   (case a1=>k_is);(case a2=>k_is);(case a3=>k_is);(case a4=>k_is);(case a5=>k_is);(case a6=>k_is);(case a7=>k_is);(case a8=>k_is);(case b1=>k_is);(case b2=>k_is);(case b3=>k_is);(case b4=>k_is);(case b5=>k_is);(case b6=>k_is);(case b7=>k_is);(case b8=>k_is);(case b9=>k_is);(case b10=>k_is);(case b11=>k_is);(case b12=>k_is);(case b13=>k_is);(case b14=>k_is);(case b15=>k_is);(case b16=>k_is)
  have DIW:Fc.Def (L2.aV KX) mg "is_whole" K1.xh ["value"]:=by
   dsimp only [L2.aV]
   refine' Fc.aU KX G ?a ?l ?c ?k ?b
   case a|l|c|k=>k_is
   (case b=>exact λ_ _ _ _ _ _ us hl=>match us,hl with | [_],_=>rfl)
  have DAW:Fc.Def (L2.aV KX) mg "are_whole" K1.p5 ["values"]:=by
   dsimp only [L2.aV]
   refine' Fc.aU KX G ?a ?l ?c ?k ?b
   case a|l|c|k=>k_is
   (case b=>exact λ_ _ _ _ _ _ us hl=>match us,hl with | [_],_=>rfl)
  have DRF:Fc.Def (L2.aV KX) mg "has_row_form" K1.xX ["row"]:=by
   dsimp only [L2.aV]
   refine' Fc.aU KX G ?a ?l ?c ?k ?b
   case a|l|c|k=>k_is
   (case b=>exact λ_ _ _ _ _ _ us hl=>match us,hl with | [_],_=>rfl)
  have DWF:Fc.Def (L2.aV KX) mg "has_web_form" K1.uC ["web"]:=by
   dsimp only [L2.aV]
   refine' Fc.aU KX G ?a ?l ?c ?k ?b
   case a|l|c|k=>k_is
   (case b=>exact λ_ _ _ _ _ _ us hl=>match us,hl with | [_],_=>rfl)
  have DWZ:Fc.Def (L2.aV KX) mg "has_web_sizes" K1.ur ["web"]:=by
   dsimp only [L2.aV]
   refine' Fc.aU KX G ?a ?l ?c ?k ?b
   case a|l|c|k=>k_is
   (case b=>exact λ_ _ _ _ _ _ us hl=>match us,hl with | [_],_=>rfl)
  have DLW:Fc.Def (L2.aV KX) mg "leads_within" K1.xE ["places","row"]:=by
   dsimp only [L2.aV]
   refine' Fc.aU KX G ?a ?l ?c ?k ?b
   case a|l|c|k=>k_is
   (case b=>exact λ_ _ _ _ _ _ us hl=>match us,hl with | [_,_],_=>rfl)
  have DIC:Fc.Def (L2.aV KX) mg "is_called" K1.va ["rows","part"]:=by
   dsimp only [L2.aV]
   refine' Fc.aU KX G ?a ?l ?c ?k ?b
   case a|l|c|k=>k_is
   (case b=>exact λ_ _ _ _ _ _ us hl=>match us,hl with | [_,_],_=>rfl)
  have DRE:Fc.Def (L2.aV KX) mg "reached" K1.ya ["leads","start"]:=by
   dsimp only [L2.aV]
   refine' Fc.aU KX G ?a ?l ?c ?k ?b
   case a|l|c|k=>k_is
   (case b=>exact λ_ _ _ _ _ _ us hl=>match us,hl with | [_,_],_=>rfl)
  have DLO:Fc.Def (L2.aV KX) mg "lies_on_ways" K1.qq ["rows","part","size"]:=by
   dsimp only [L2.aV]
   refine' Fc.aU KX G ?a ?l ?c ?k ?b
   case a|l|c|k=>k_is
   (case b=>exact λ_ _ _ _ _ _ us hl=>match us,hl with | [_,_,_],_=>rfl)
  have DWE:Fc.Def (L2.aV KX) mg "is_web" K1.nY ["web"]:=by
   dsimp only [L2.aV]
   refine' Fc.aU KX G ?a ?l ?c ?k ?b
   case a|l|c|k=>k_is
   (case b=>exact λ_ _ _ _ _ _ us hl=>match us,hl with | [_],_=>rfl)
  have DNW:Fc.Def (L2.aV KX) mg "need_web" K1.x8 ["web"]:=by
   dsimp only [L2.aV]
   refine' Fc.aU KX G ?a ?l ?c ?k ?b
   case a|l|c|k=>k_is
   (case b=>exact λ_ _ _ _ _ _ us hl=>match us,hl with | [_],_=>rfl)
  have DIP:Fc.Def (L2.aV KX) mg "is_part" K1.xR ["web","part"]:=by
   dsimp only [L2.aV]
   refine' Fc.aU KX G ?a ?l ?c ?k ?b
   case a|l|c|k=>k_is
   (case b=>exact λ_ _ _ _ _ _ us hl=>match us,hl with | [_,_],_=>rfl)
  have DNP:Fc.Def (L2.aV KX) mg "need_part" K1.xj ["web","part"]:=by
   dsimp only [L2.aV]
   refine' Fc.aU KX G ?a ?l ?c ?k ?b
   case a|l|c|k=>k_is
   (case b=>exact λ_ _ _ _ _ _ us hl=>match us,hl with | [_,_],_=>rfl)
  have DRV:Fc.Def (L2.aV KX) mg "rows_leaving" K1.um ["web","part"]:=by
   dsimp only [L2.aV]
   refine' Fc.aU KX G ?a ?l ?c ?k ?b
   case a|l|c|k=>k_is
   (case b=>exact λ_ _ _ _ _ _ us hl=>match us,hl with | [_,_],_=>rfl)
  have DWN:Fc.Def (L2.aV KX) mg "ways_on" K1.mR ["web","part"]:=by
   dsimp only [L2.aV]
   refine' Fc.aU KX G ?a ?l ?c ?k ?b
   case a|l|c|k=>k_is
   (case b=>exact λ_ _ _ _ _ _ us hl=>match us,hl with | [_,_],_=>rfl)
  have DWI:Fc.Def (L2.aV KX) mg "worths_in" K1.sV ["web","part"]:=by
   dsimp only [L2.aV]
   refine' Fc.aU KX G ?a ?l ?c ?k ?b
   case a|l|c|k=>k_is
   (case b=>exact λ_ _ _ _ _ _ us hl=>match us,hl with | [_,_],_=>rfl)
  have DRW:Fc.Def (L2.aV KX) mg "is_row" K1.xm ["web","number"]:=by
   dsimp only [L2.aV]
   refine' Fc.aU KX G ?a ?l ?c ?k ?b
   case a|l|c|k=>k_is
   (case b=>exact λ_ _ _ _ _ _ us hl=>match us,hl with | [_,_],_=>rfl)
  have DCG:Fc.Def (L2.aV KX) mg "can_go" K1.qL ["web","stack","number"]:=by
   dsimp only [L2.aV]
   refine' Fc.aU KX G ?a ?l ?c ?k ?b
   case a|l|c|k=>k_is
   (case b=>exact λ_ _ _ _ _ _ us hl=>match us,hl with | [_,_,_],_=>rfl)
  have DLT:Fc.Def (L2.aV KX) mg "leads_through" K1.xF ["web","part","rows"]:=by
   dsimp only [L2.aV]
   refine' Fc.aU KX G ?a ?l ?c ?k ?b
   case a|l|c|k=>k_is
   (case b=>exact λ_ _ _ _ _ _ us hl=>match us,hl with | [_,_,_],_=>rfl)
  have DYB:Fc.Def (L2.aV KX) mg "way_by" K1.tD ["web","known","leaving","number"]:=by
   dsimp only [L2.aV]
   refine' Fc.aU KX G ?a ?l ?c ?k ?b
   case a|l|c|k=>k_is
   (case b=>exact λ_ _ _ _ _ _ us hl=>match us,hl with | [_,_,_,_],_=>rfl)
  have DWS:Fc.Def (L2.aV KX) mg "ways_of" K1.pB ["web","part","numbers"]:=by
   dsimp only [L2.aV]
   refine' Fc.aU KX G ?a ?l ?c ?k ?b
   case a|l|c|k=>k_is
   (case b=>exact λ_ _ _ _ _ _ us hl=>match us,hl with | [_,_,_],_=>rfl)
  have DCU:Fc.Def (L2.aV KX) mg "cuts" K1.yc ["web","part"]:=by
   dsimp only [L2.aV]
   refine' Fc.aU KX G ?a ?l ?c ?k ?b
   case a|l|c|k=>k_is
   (case b=>exact λ_ _ _ _ _ _ us hl=>match us,hl with | [_,_],_=>rfl)
  have DLY:Fc.Def (L2.aV KX) mg "laid_out" K1.qz ["web","part"]:=by
   dsimp only [L2.aV]
   refine' Fc.aU KX G ?a ?l ?c ?k ?b
   case a|l|c|k=>k_is
   (case b=>exact λ_ _ _ _ _ _ us hl=>match us,hl with | [_,_],_=>rfl)
  have DSW:Fc.Def (L2.aV KX) mg "stretch_web" K1.vj ["web","part"]:=by
   dsimp only [L2.aV]
   refine' Fc.aU KX G ?a ?l ?c ?k ?b
   case a|l|c|k=>k_is
   (case b=>exact λ_ _ _ _ _ _ us hl=>match us,hl with | [_,_],_=>rfl)
  have DFN:Fc.Def (L2.aV KX) mg "fallen" K1.uR ["web","part","rows"]:=by
   dsimp only [L2.aV]
   refine' Fc.aU KX G ?a ?l ?c ?k ?b
   case a|l|c|k=>k_is
   (case b=>exact λ_ _ _ _ _ _ us hl=>match us,hl with | [_,_,_],_=>rfl)
  have DCB:Fc.Def (L2.aV KX) mg "counts_by" K1.xr ["web","part","numbers"]:=by
   dsimp only [L2.aV]
   refine' Fc.aU KX G ?a ?l ?c ?k ?b
   case a|l|c|k=>k_is
   (case b=>exact λ_ _ _ _ _ _ us hl=>match us,hl with | [_,_,_],_=>rfl)
  have DST:Fc.Def (L2.aV KX) mg "stretches" K1.qo ["web","part","rows"]:=by
   dsimp only [L2.aV]
   refine' Fc.aU KX G ?a ?l ?c ?k ?b
   case a|l|c|k=>k_is
   (case b=>exact λ_ _ _ _ _ _ us hl=>match us,hl with | [_,_,_],_=>rfl)
  have DAB:Fc.Def (L2.aV KX) mg "at_begin" K1.xN ["part"]:=by
   dsimp only [L2.aV]
   refine' Fc.aU KX G ?a ?l ?c ?k ?b
   case a|l|c|k=>k_is
   (case b=>exact λ_ _ _ _ _ _ us hl=>match us,hl with | [_],_=>rfl)
  have DGO:Fc.Def (L2.aV KX) mg "go" K1.p6 ["stack","row"]:=by
   dsimp only [L2.aV]
   refine' Fc.aU KX G ?a ?l ?c ?k ?b
   case a|l|c|k=>k_is
   (case b=>exact λ_ _ _ _ _ _ us hl=>match us,hl with | [_,_],_=>rfl)
  have DSB:Fc.Def (L2.aV KX) mg "stack_behind" K1.ye ["web","rows"]:=by
   dsimp only [L2.aV]
   refine' Fc.aU KX G ?a ?l ?c ?k ?b
   case a|l|c|k=>k_is
   (case b=>exact λ_ _ _ _ _ _ us hl=>match us,hl with | [_,_],_=>rfl)
  have DRO:Fc.Def (L2.aV KX) mg "is_run_of" K1.uY ["web","rows"]:=by
   dsimp only [L2.aV]
   refine' Fc.aU KX G ?a ?l ?c ?k ?b
   case a|l|c|k=>k_is
   (case b=>exact λ_ _ _ _ _ _ us hl=>match us,hl with | [_,_],_=>rfl)
  have DIR:Fc.Def (L2.aV KX) mg "is_run" K1.xV ["web","rows"]:=by
   dsimp only [L2.aV]
   refine' Fc.aU KX G ?a ?l ?c ?k ?b
   case a|l|c|k=>k_is
   (case b=>exact λ_ _ _ _ _ _ us hl=>match us,hl with | [_,_],_=>rfl)
  have DCC:Fc.Def (L2.aV KX) mg "count_of_counts" K1.xu ["web"]:=by
   dsimp only [L2.aV]
   refine' Fc.aU KX G ?a ?l ?c ?k ?b
   case a|l|c|k=>k_is
   (case b=>exact λ_ _ _ _ _ _ us hl=>match us,hl with | [_],_=>rfl)
  have DHO:Fc.Def (L2.aV KX) mg "is_heap_of" K1.sT ["web","heap"]:=by
   dsimp only [L2.aV]
   refine' Fc.aU KX G ?a ?l ?c ?k ?b
   case a|l|c|k=>k_is
   (case b=>exact λ_ _ _ _ _ _ us hl=>match us,hl with | [_,_],_=>rfl)
  have DTO:Fc.Def (L2.aV KX) mg "tally_of" K1.xQ ["web","heap"]:=by
   dsimp only [L2.aV]
   refine' Fc.aU KX G ?a ?l ?c ?k ?b
   case a|l|c|k=>k_is
   (case b=>exact λ_ _ _ _ _ _ us hl=>match us,hl with | [_,_],_=>rfl)
  have DCO:Fc.Def (L2.aV KX) mg "counts" K1.xy ["web","heap"]:=by
   dsimp only [L2.aV]
   refine' Fc.aU KX G ?a ?l ?c ?k ?b
   case a|l|c|k=>k_is
   (case b=>exact λ_ _ _ _ _ _ us hl=>match us,hl with | [_,_],_=>rfl)
  have DDR:Fc.Def (L2.aV KX) mg "_law_draw" K1.yh ["_law_purse_here","_law_out_of"]:=by
   dsimp only [L2.aV]
   refine' Fc.aU KX G ?a ?l ?c ?k ?b
   case a|l|c|k=>k_is
   (case b=>exact λ_ _ _ _ _ _ us hl=>match us,hl with | [_,_],_=>rfl)
  have DPU:Fc.Def (L2.aV KX) mg "_law_purse" K1.oN ["_law_script"]:=by
   dsimp only [L2.aV]
   refine' Fc.aU KX G ?a ?l ?c ?k ?b
   case a|l|c|k=>k_is
   (case b=>exact λ_ _ _ _ _ _ us hl=>match us,hl with | [_],_=>rfl)
  have DOR:Fc.Def (L2.aV KX) mg "_law_order" K1.xH ["_law_purse_here","_law_many"]:=by
   dsimp only [L2.aV]
   refine' Fc.aU KX G ?a ?l ?c ?k ?b
   case a|l|c|k=>k_is
   (case b=>exact λ_ _ _ _ _ _ us hl=>match us,hl with | [_,_],_=>rfl)
  have DPT:Fc.Def (L2.aV KX) mg "_law_part" K1.jS ["_law_purse_here","_law_many","_law_loose"]:=by
   dsimp only [L2.aV]
   refine' Fc.aU KX G ?a ?l ?c ?k ?b
   case a|l|c|k=>k_is
   (case b=>exact λ_ _ _ _ _ _ us hl=>match us,hl with | [_,_,_],_=>rfl)
  have DCL:Fc.Def (L2.aV KX) mg "_law_called" K1.sY ["_law_purse_here","_law_rows","_law_parts"]:=by
   dsimp only [L2.aV]
   refine' Fc.aU KX G ?a ?l ?c ?k ?b
   case a|l|c|k=>k_is
   (case b=>exact λ_ _ _ _ _ _ us hl=>match us,hl with | [_,_,_],_=>rfl)
  have DWB:Fc.Def (L2.aV KX) mg "_law_web" K1.qu ["_law_purse_here","_law_loose"]:=by
   dsimp only [L2.aV]
   refine' Fc.aU KX G ?a ?l ?c ?k ?b
   case a|l|c|k=>k_is
   (case b=>exact λ_ _ _ _ _ _ us hl=>match us,hl with | [_,_],_=>rfl)
  have DCP:Fc.Def (L2.aV KX) mg "_law_copy" K1.vz ["_law_web_here"]:=by
   dsimp only [L2.aV]
   refine' Fc.aU KX G ?a ?l ?c ?k ?b
   case a|l|c|k=>k_is
   (case b=>exact λ_ _ _ _ _ _ us hl=>match us,hl with | [_],_=>rfl)
  have DFR:Fc.Def (L2.aV KX) mg "_law_from" K1.qF ["_law_web_here","_law_part_here","_law_place"]:=by
   dsimp only [L2.aV]
   refine' Fc.aU KX G ?a ?l ?c ?k ?b
   case a|l|c|k=>k_is
   (case b=>exact λ_ _ _ _ _ _ us hl=>match us,hl with | [_,_,_],_=>rfl)
  have DNE:Fc.Def (L2.aV KX) mg "_law_near" K1.uF ["_law_web_here","_law_part_here"]:=by
   dsimp only [L2.aV]
   refine' Fc.aU KX G ?a ?l ?c ?k ?b
   case a|l|c|k=>k_is
   (case b=>exact λ_ _ _ _ _ _ us hl=>match us,hl with | [_,_],_=>rfl)
  have DOU:Fc.Def (L2.aV KX) mg "_law_own_run" K1.nq ["_law_purse_here","_law_web_here","_law_part_here","_law_most"]:=by
   dsimp only [L2.aV]
   refine' Fc.aU KX G ?a ?l ?c ?k ?b
   case a|l|c|k=>k_is
   (case b=>exact λ_ _ _ _ _ _ us hl=>match us,hl with | [_,_,_,_],_=>rfl)
  have DRU:Fc.Def (L2.aV KX) mg "_law_run" K1.xM ["_law_purse_here","_law_web_here","_law_part_here","_law_left"]:=by
   dsimp only [L2.aV]
   refine' Fc.aU KX G ?a ?l ?c ?k ?b
   case a|l|c|k=>k_is
   (case b=>exact λ_ _ _ _ _ _ us hl=>match us,hl with | [_,_,_,_],_=>rfl)
  have DOW:Fc.Def (L2.aV KX) mg "_law_own_runs" K1.oo ["_law_web_here","_law_run_here"]:=by
   dsimp only [L2.aV]
   refine' Fc.aU KX G ?a ?l ?c ?k ?b
   case a|l|c|k=>k_is
   (case b=>exact λ_ _ _ _ _ _ us hl=>match us,hl with | [_,_],_=>rfl)
  refine' K1.zD KX G hmg ⟨M,DIW,DAW,DRF,DWF,DWZ,DLW,DIC,DRE,DLO,DWE,DNW,DIP,DNP,DRV,DWN,DWI,DRW,DCG,DLT,DYB,DWS,DCU,DLY,DSW,DFN,DCB,DST,DAB,DGO,DSB,DRO,DIR,DCC,DHO,DTO,DCO,DDR,DPU,DOR,DPT,DCL,DWB,DCP,DFR,DNE,DOU,DRU,DOW⟩ ?a ?l ?c ?k
  case a|l|c|k=>k_is
