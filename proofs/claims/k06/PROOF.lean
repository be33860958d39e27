import PyProof.Rows.All
import Lean
import Wide.All
import OpenK.AllK
import Wide.FinOn
import PyProof.EqAt
import PyProof.EqKinds
import PyProof.TupleCall
import PyProof.NeKinds
import PyProof.WalksEnum
import PyProof.EnumMake
import KE.KTryMore
import PyProof.NsDelKeeps
import PySem.Challenge.RW_fewcounters_k06_whole_heaps_of_counts
import PyProof.SumWalkG
import PyProof.SeqI3
import PyProof.ZipIter
import KE.KRevIter
import PyProof.ListRange
import PyProof.Rows.TupIter
namespace Fc
open Lean
def ag:Syntax:=Unhygienic.run `(Parser.Tactic.tacticSeq| rfl)
def av:Syntax:=Unhygienic.run `(Parser.Tactic.tacticSeq| decide)
def bq:Syntax:=Unhygienic.run `(Parser.Tactic.tacticSeq| first | exact Or.inl rfl | exact Or.inr (Or.inl rfl) | exact Or.inr (Or.inr rfl))
def c9:Syntax:=Unhygienic.run `(Parser.Tactic.tacticSeq| intro _;rfl)
def fi:Syntax:=Unhygienic.run `(Parser.Tactic.tacticSeq| first | exact Or.inl rfl | exact Or.inr rfl)
def fj:Syntax:=Unhygienic.run `(Parser.Tactic.tacticSeq| first | assumption | decide)
def iy:Syntax:=Unhygienic.run `(Parser.Tactic.tacticSeq| first | exact .inl rfl | exact .inr rfl)
def jG:Syntax:=Unhygienic.run `(Parser.Tactic.tacticSeq| exact λ_ _=>rfl)
def ET:Syntax:=Unhygienic.run `(Parser.Tactic.tacticSeq| intros;rfl)
end Fc
set_option Elab.async false
set_option linter.all false
set_option maxRecDepth 100000
namespace L2
open PySem PySem.Spec PyProof.Rows
section
variable {a b:Addr}
abbrev Key:=Sum Int Str
def kE:Key->Value->Bool
 | .inl k,v=>Value.isInt k v
 | .inr x,v=>Value.isStrOf x v
def F9 (w:World):Key->Int
 | .inl k=>hashInt k
 | .inr x=>hashStr w x
theorem c5:∀{k:Key} {v:Value},kE k v=true->(∃i t,k=Sum.inl i/\v=Value.int i t)∨(∃x t,k=Sum.inr x/\v=Value.str x t)
 | .inl i,v,h=>by
   obtain ⟨t,e⟩:=Value.isInt_shape (k:=i) (v:=v) h
   exact .inl ⟨i,t,rfl,e⟩
 | .inr x,v,h=>by
   obtain ⟨t,e⟩:=Value.isStrOf_shape (x:=x) (v:=v) h
   exact .inr ⟨x,t,rfl,e⟩
theorem uR (i:Int)(t:Tok):kE (.inl i) (.int i t)=true:=by simp [kE,Value.isInt]
theorem uU (x:Str)(t:Tok):kE (.inr x) (.str x t)=true:=by simp [kE,Value.isStrOf]
theorem AJ (a b:Int):decide ((Sum.inl a:Key)=Sum.inl b)=(a==b):=by
 by_cases e:a=b
 ·subst e;simp
 ·have h:¬(Sum.inl a:Key)=Sum.inl b:=λq=>e (Sum.inl.inj q)
  rw [decide_eq_false h]
  exact (beq_eq_false_iff_ne.mpr e).symm
theorem Ae (a b:Str):decide ((Sum.inr a:Key)=Sum.inr b)=decide (a=b):=by
 by_cases e:a=b
 ·subst e;simp
 ·have h:¬(Sum.inr a:Key)=Sum.inr b:=λq=>e (Sum.inr.inj q)
  rw [decide_eq_false h,decide_eq_false e]
theorem Br (a:Int)(b:Str):decide ((Sum.inl a:Key)=Sum.inr b)=false:=decide_eq_false (λq=>nomatch q)
theorem Bs (a:Str)(b:Int):decide ((Sum.inr a:Key)=Sum.inl b)=false:=decide_eq_false (λq=>nomatch q)
def cF (prog:Program)(w:World):PySem.KeyKind prog w Key where
 is:=kE
 hash:=F9 w
 inj:=λv a b ha hb=>by
  rcases c5 ha with ⟨i,t,rfl,rfl⟩ | ⟨x,t,rfl,rfl⟩
  ·rcases c5 hb with ⟨j,u,rfl,e⟩ | ⟨y,u,rfl,e⟩
   ·injection e with e1 _;rw [e1]
   ·exact nomatch e
  ·rcases c5 hb with ⟨j,u,rfl,e⟩ | ⟨y,u,rfl,e⟩
   ·exact nomatch e
   ·injection e with e1 _;rw [e1]
 byValue:=λk v h=>by
  rcases c5 h with ⟨i,t,rfl,rfl⟩ | ⟨x,t,rfl,rfl⟩<;>rfl
 pyHash:=λhv h=>by
  rcases c5 hv with ⟨i,t,rfl,rfl⟩ | ⟨x,t,rfl,rfl⟩
  ·exact wpAny_pyHash_int h
  ·exact wpAny_pyHash_str h
 eqBool:=λhu hv h=>by
  rcases c5 hu with ⟨i,t,rfl,rfl⟩ | ⟨x,t,rfl,rfl⟩
  ·rcases c5 hv with ⟨j,u,rfl,rfl⟩ | ⟨y,u,rfl,rfl⟩
   ·rw [AJ] at h;exact wpAny_eqBool_int h
   ·rw [Br] at h;exact SeqAt.EqAt.int_str i t y u _ _ _ _ h
  ·rcases c5 hv with ⟨j,u,rfl,rfl⟩ | ⟨y,u,rfl,rfl⟩
   ·rw [Bs] at h;exact SeqAt.EqAt.str_int x t j u _ _ _ _ h
   ·rw [Ae] at h;exact wpAny_eqBool_str h
 «strs»:=λk x t v h=>by
  rcases c5 h with ⟨i,u,rfl,e⟩ | ⟨y,u,rfl,e⟩
  ·exact nomatch e
  ·injection e with e1 _
   subst e1
   cases v<;>rfl
theorem qJ (prog:Program)(w:World)(i:Int)(t:Tok):(cF prog w).is (.inl i) (.int i t)=true:=uR i t
theorem qD (prog:Program)(w:World)(x:Str)(t:Tok):(cF prog w).is (.inr x) (.str x t)=true:=uU x t
inductive V where
 | non | bl (b:Bool) | int (i:Int) | str (x:Str) | byt (b:Array UInt8) | flt (b:UInt64) | ref (a:Addr) | ty (n:String)
 deriving DecidableEq
def RelV:V->Value->Prop
 | .non,u=>u=Value.none
 | .bl b,u=>u=Value.bool b
 | .int i,u=>∃t,u=Value.int i t
 | .str x,u=>∃t,u=Value.str x t
 | .byt b,u=>∃t,u=Value.bytes b t
 | .flt b,u=>∃t,u=Value.float b t
 | .ref a,u=>u=Value.ref a
 | .ty n,u=>u=Value.type n
abbrev Vals:List V->List Value->Prop:=Paired RelV
theorem Vals.length {xs:List V}{us:List Value}(r:Vals xs us):xs.length=us.length:=Paired.length r
theorem Vals.get:∀{xs:List V} {us:List Value} {i:Nat} {x:V},Vals xs us->xs[i]?=some x->∃u,us[i]?=some u/\RelV x u
 | _,_,_,_,.nil,e=>by simp at e
 | _,_,0,_,.cons r _,e=>by simp at e;subst e;exact ⟨_,rfl,r⟩
 | _,_,i + 1,x,.cons _ t,e=>by
   obtain ⟨u,h1,h2⟩:=Vals.get (i:=i) (x:=x) t (by simpa using e)
   exact ⟨u,by simpa using h1,h2⟩
theorem Vals.set {x:V}{u:Value}(r:RelV x u):∀{xs:List V} {us:List Value} (i:Nat),Vals xs us->Vals (xs.set i x) (us.set i u)
 | _,_,_,.nil=>.nil
 | _,_,0,.cons _ t=>.cons r t
 | _,_,i + 1,.cons q t=>.cons q (Vals.set r i t)
theorem Vals.append:∀{xs ys:List V} {us ws:List Value},Vals xs us->Vals ys ws->Vals (xs++ys) (us++ws)
 | _,_,_,_,.nil,s=>s
 | _,_,_,_,.cons r t,s=>.cons r (Vals.append t s)
theorem Vals.take:∀{xs:List V} {us:List Value} (n:Nat),Vals xs us->Vals (xs.take n) (us.take n)
 | _,_,0,_=>.nil
 | _,_,_ + 1,.nil=>.nil
 | _,_,n + 1,.cons r t=>.cons r (Vals.take n t)
theorem Vals.drop:∀{xs:List V} {us:List Value} (n:Nat),Vals xs us->Vals (xs.drop n) (us.drop n)
 | _,_,0,r=>r
 | _,_,_ + 1,.nil=>.nil
 | _,_,n + 1,.cons _ t=>Vals.drop n t
def fZ:Option V->Option Value->Prop
 | some v,some u=>RelV v u
 | none,none=>True
 | _,_=>False
def KV {κ:Type}:List (κ×V)->List (κ×Value)->Prop:=Paired λ(p:κ×V) (q:κ×Value)=>p.1=q.1/\RelV p.2 q.2
def kV:Key->V
 | .inl i=>.int i
 | .inr x=>.str x
inductive HO where
 /-- a list -/
 | lst (xs:List V)
 /-- a tuple (never changes) -/
 | tup (xs:List V)
 /-- a dict whose keys are ints and texts;one whose keys are tuples of ints and texts (the empty one is both) -/
 | dK (kvs:List (Key×V)) | dT (kvs:List (List Key×V))
 /-- a set of ints:its members,its size -/
 | set (S:Int->Bool) (n:Nat)
 /-- an instance of the class at C,its dict at dx,its attributes -/
 | ins (C dx:Addr) (fs:List (Str×V))
 /-- the dict of the instance at x -/
 | own (x:Addr)
 /-- the dict of an exception -/
 | xd (fs:List (Str×V))
 /-- a bound method,f of x -/
 | met (f x:Addr)
 /-- a range object lo,lo + 1,.. below hi -/
 | rng (lo hi:Int)
 /-- a thing that is known to the object (the script;a dict while a loop walks it):read,never written while it is so -/
 | frz (o:Obj) (u:HO)
 /-- a code object's table -/
 | tbl (ps:Array Value)
 /-- any other thing,by what is true of its one object (a def of one's own:SetO a S n:=HO.ext λh=>..) -/
 | ext (φ:Heap->Prop)
abbrev Hp:=Addr->Option HO
def upd (H:Hp)(a:Addr)(o:HO):Hp:=λb=>if b=a then some o else H b
theorem az {H:Hp}{o:HO}:upd H a o a=some o:=by unfold upd;rw [if_pos rfl]
theorem aH {H:Hp}{o:HO}(h:b≠a):upd H a o b=H b:=by unfold upd;rw [if_neg h]
theorem ze {H:Hp}{o u:HO}:upd (upd H a o) a u=upd H a u:=by
 funext b;unfold upd;split<;>rfl
theorem Cs {H:Hp}{o u:HO}(h:H a=some o)(h':H b=some u)(d:o≠u):a≠b:=by
 intro e;subst e;rw [h] at h';exact d (Option.some.inj h')
theorem cK {H:Hp}{o:HO}(h:H a=some o)(h':H b=none):a≠b:=by
 intro e;subst e;rw [h] at h';cases h'
end
section
variable (P:Program)(w:World)
def bT (H:Hp)(h:Heap)(a:Addr):HO->Prop
 | .lst xs=>xs.length<=sizeLine/\∃(its:List Value) (n:Nat),Vals xs its/\h.get? a=some {cls:=.type "list",data:=.seq its.toArray n}
 | .tup xs=>xs.length<=sizeLine/\∃its:List Value,Vals xs its/\IsTup h a its.toArray
 | .dK kvs=>kvs.length<=sizeLine/\(a==sysModules)=false/\∃vs,KV kvs vs/\h.DictOf (cF P w) a vs
 | .dT kvs=>kvs.length<=sizeLine/\(a==sysModules)=false/\∃xs:List (List Key×Addr×Value),
  Paired (λ(p:List Key×V) (q:List Key×Addr×Value)=>p.1=q.1/\H q.2.1=some (.tup (p.1.map kV))/\RelV p.2 q.2.2) kvs xs/\
  ∃o es ep,h.get? a=some o/\o.ExactDict/\o.data= .dict es ep/\es.toList=xs.map (entryOfKey (tupleKind (cF P w)))/\(xs.map (·.1)).Nodup
 | .set S n=>h.SetOf (intKind P w) a S n
 | .ins C dx fs=>H dx=some (.own a)/\fs.length<=1000/\dx≠a/\h.get? a=some (PySem.W.instObj C dx)/\
  ∃mA,h.Ns1 dx mA/\(∀f,fZ (fs.lookup f) (mA f))/\PySem.Within mA (fs.map (·.1))
 | .own _=>∃o,h.get? a=some o
 | .xd fs=>∃mA,h.Ns1 a mA/\∀f,fZ (fs.lookup f) (mA f)
 | .rng lo hi=>∃t u v,h.get? a=some {cls:=.type "range",data:=.fields #[.int lo t,.int hi u,.int 1 v]}
 | .frz o u=>h.get? a=some o/\bT H h a u
 | .tbl ps=>h.get? a=some {cls:=.none,data:=.fields ps}
 | .met f x=>h.get? a=some (PySem.W.methodObj (.ref f) (.ref x))
 | .ext φ=>φ h/\(∃o,h.get? a=some o)/\∀h1 h2:Heap,φ h1->(∀o,h1.get? a=some o->h2.get? a=some o)->φ h2
def cG (H:Hp)(h:Heap):Prop:=∀a o,H a=some o->bT P w H h a o
end
section
variable {P:Program}{w:World}{H H':Hp}{h h':Heap}{a:Addr}{o:HO}
theorem bT.lt (x:bT P w H h a o):a < h.objs.size:=by
 cases o with
 | lst xs=>obtain ⟨_,_,_,_,e⟩:=x;exact Heap.lt_size e
 | tup xs=>obtain ⟨_,_,_,p⟩:=x;exact p.lt
 | dK kvs=>obtain ⟨_,_,_,_,o,_,_,e,_⟩:=x;exact Heap.lt_size e
 | dT kvs=>obtain ⟨_,_,_,_,o,_,_,e,_⟩:=x;exact Heap.lt_size e
 | set S n=>obtain ⟨o,_,_,_,e,_⟩:=x;exact Heap.lt_size e
 | ins C dx fs=>obtain ⟨_,_,_,e,_⟩:=x;exact Heap.lt_size e
 | own y=>obtain ⟨_,e⟩:=x;exact Heap.lt_size e
 | xd fs=>obtain ⟨_,⟨_,_,_,e,_⟩,_⟩:=x;exact Heap.lt_size e
 | rng lo hi=>obtain ⟨_,_,_,e⟩:=x;exact Heap.lt_size e
 | frz ob u=>obtain ⟨e,_⟩:=x;exact Heap.lt_size e
 | tbl ps=>exact Heap.lt_size (show h.get? a=some _ from x)
 | met f y=>exact Heap.lt_size (show h.get? a=some _ from x)
 | ext φ=>obtain ⟨_,⟨_,e⟩,_⟩:=x;exact Heap.lt_size e
theorem Paired.wX {α β:Type}{F G:α->β->Prop}:∀{l₁:List α} {l₂:List β},Paired F l₁ l₂->(∀a b,F a b->G a b)->Paired G l₁ l₂
 | _,_,.nil,_=>.nil
 | _,_,.cons r t,f=>.cons (f _ _ r) (Paired.wX t f)
theorem bT.stay (x:bT P w H h a o)(k:∀b u,(b=a∨H b=some (.own a))->h.get? b=some u->h'.get? b=some u)
 (ho:∀b,H b=some (.own a)->H' b=some (.own a)) (ht:∀b xs,H b=some (.tup xs)->H' b=some (.tup xs)):bT P w H' h' a o:=by
 induction o with
 | lst xs=>obtain ⟨z,its,n,r,e⟩:=x;exact ⟨z,its,n,r,k _ _ (.inl rfl) e⟩
 | tup xs=>obtain ⟨z,its,r,ob,e,c⟩:=x;exact ⟨z,its,r,ob,k _ _ (.inl rfl) e,c⟩
 | dK kvs=>obtain ⟨z,y,vs,r,ob,es,ep,e,c⟩:=x;exact ⟨z,y,vs,r,ob,es,ep,k _ _ (.inl rfl) e,c⟩
 | dT kvs=>
   obtain ⟨z,y,xs,r,ob,es,ep,e,c⟩:=x
   exact ⟨z,y,xs,Paired.wX r λp q z=>⟨z.1,ht _ _ z.2.1,z.2.2⟩,ob,es,ep,k _ _ (.inl rfl) e,c⟩
 | set S n=>obtain ⟨ob,es,ep,t,e,c⟩:=x;exact ⟨ob,es,ep,t,k _ _ (.inl rfl) e,c⟩
 | ins C dx fs=>
   obtain ⟨d,z,ne,e,mA,⟨od,es,ep,e2,c⟩,r⟩:=x
   exact ⟨ho _ d,z,ne,k _ _ (.inl rfl) e,mA,⟨od,es,ep,k _ _ (.inr d) e2,c⟩,r⟩
 | own y=>obtain ⟨ob,e⟩:=x;exact ⟨ob,k _ _ (.inl rfl) e⟩
 | xd fs=>obtain ⟨mA,⟨od,es,ep,e,c⟩,r⟩:=x;exact ⟨mA,⟨od,es,ep,k _ _ (.inl rfl) e,c⟩,r⟩
 | rng lo hi=>obtain ⟨t,u,v,e⟩:=x;exact ⟨t,u,v,k _ _ (.inl rfl) e⟩
 | frz ob u ih=>obtain ⟨e,q⟩:=x;exact ⟨k _ _ (.inl rfl) e,ih q⟩
 | tbl ps=>
   have e:h.get? a=some {cls:=.none,data:=.fields ps}:=x
   show h'.get? a=some {cls:=.none,data:=.fields ps}
   exact k a _ (.inl rfl) e
 | met f y=>
   have e:h.get? a=some (PySem.W.methodObj (.ref f) (.ref y)):=x
   show h'.get? a=some (PySem.W.methodObj (.ref f) (.ref y))
   exact k a _ (.inl rfl) e
 | ext φ=>obtain ⟨p,⟨o,e⟩,st⟩:=x;exact ⟨st _ _ p λo q=>k _ _ (.inl rfl) q,⟨o,k _ _ (.inl rfl) e⟩,st⟩
theorem cG.lt (x:cG P w H h)(e:H a=some o):a < h.objs.size:=(x a o e).lt
theorem cG.fresh (x:cG P w H h)(e:h.objs.size<=a):H a=none:=by
 cases q:H a with
 | none=>rfl
 | some u=>exact absurd (Nat.lt_of_lt_of_le (x.lt q) e) (Nat.lt_irrefl _)
theorem cG.kept (x:cG P w H h)(k:∀b u,h.get? b=some u->h'.get? b=some u):cG P w H h':=λa o e=>
 (x a o e).stay (λb u _ q=>k b u q) (λ_ q=>q) λ_ _ q=>q
theorem cG.laid (x:cG P w H h)(k:∀b u,h.get? b=some u->h'.get? b=some u)(hp:h.objs.size<=a)(new:bT P w (upd H a o) h' a o):cG P w (upd H a o) h':=λb u e=>by
 have hn:=x.fresh hp
 by_cases hb:b=a
 ·subst hb;rw [az] at e;cases e;exact new
 ·rw [aH hb] at e
  exact (x b u e).stay (λc v _ q=>k c v q) (λc q=>by rw [aH (cK q hn)];exact q) λc xs q=>by rw [aH (cK q hn)];exact q
end
def Rd (H:Hp)(a:Addr)(u:HO):Prop:=H a=some u∨∃o,H a=some (.frz o u)
theorem Rd.ok {P:Program}{w:World}{H:Hp}{h:Heap}{a:Addr}{u:HO}(r:Rd H a u)(x:cG P w H h):bT P w H h a u:=by
 rcases r with r | ⟨o,r⟩
 ·exact x a u r
 ·obtain ⟨_,q⟩:=x a _ r
  exact q
def tV:Option HO->Prop
 | some (.lst _)=>True
 | some (.dK _)=>True
 | some (.dT _)=>True
 | some (.set _ _)=>True
 | some (.ins _ _ _)=>True
 | some (.ext _)=>True
 | _=>False
section
variable {P:Program}{w:World}{H:Hp}{h h':Heap}{x e:Addr}{o':HO}
theorem cG.write (ok:cG P w H h)(mu:tV (H x))(he:e=x∨H e=some (.own x))(k:∀b u,b≠e->h.get? b=some u->h'.get? b=some u)(heo:∃u,h'.get? e=some u)
 (new:bT P w (upd H x o') h' x o'):cG P w (upd H x o') h':=λb u q=>by
 have nown:∀c y,H c=some (.own y)->c≠x:=λc y r z=>by subst z;rw [r] at mu;exact mu
 have ntup:∀c xs,H c=some (.tup xs)->c≠x:=λc xs r z=>by subst z;rw [r] at mu;exact mu
 by_cases hb:b=x
 ·subst hb;rw [az] at q;cases q;exact new
 ·rw [aH hb] at q
  by_cases hbe:b=e
  ·have q':H b=some (.own x):=by
    rcases he with z | z
    ·exact absurd (hbe.trans z) hb
    ·rw [hbe];exact z
   rw [q] at q';cases q'
   obtain ⟨v,hv⟩:=heo
   exact ⟨v,by rw [hbe];exact hv⟩
  ·refine (ok b u q).stay (λc v hc r=>k c v ?_ r) (λc r=>by rw [aH (nown c b r)];exact r) λc xs r=>by rw [aH (ntup c xs r)];exact r
   rcases hc with rfl | hc
   ·exact hbe
   ·rintro rfl
    rcases he with z | z
    ·exact nown c b hc z
    ·rw [hc] at z;cases z;exact hb rfl
end
structure Un (fs ex:List Addr) (H H':Hp) (h h':Heap):Prop where
 keep:∀b o,h.get? b=some o->H b=none->b∉fs->b∉ex->h'.get? b=some o
 slot:∀b o,h.get? b=some o->H b=none->b∈fs->b∉ex->∃sl,h'.get? b=some {o with slots:=sl}
 free:∀b o,h.get? b=some o->H b=none->b∉ex->H' b=none
 there:∀b o,h.get? b=some o->b∉ex->∃o',h'.get? b=some o'
 tups:∀b xs,H b=some (.tup xs)->H' b=some (.tup xs)
 frzs:∀b o u,H b=some (.frz o u)->H' b=some (.frz o u)
 tbls:∀b ps,H b=some (.tbl ps)->∃more,H' b=some (.tbl (ps++more))
section
variable {fs fs' ex ex':List Addr}{H H1 H2:Hp}{h h1 h2 h':Heap}{a x e:Addr}{o:HO}
theorem Un.any (u:Un fs ex H H1 h h1){b:Addr}{ob:Obj}(q:h.get? b=some ob)(n:H b=none)(hx:b∉ex):∃sl,h1.get? b=some {ob with slots:=sl}:=by
 by_cases hb:b∈fs
 ·exact u.slot b ob q n hb hx
 ·exact ⟨ob.slots,u.keep b ob q n hb hx⟩
theorem Un.trans (a:Un fs ex H H1 h h1)(b:Un fs ex H1 H2 h1 h2):Un fs ex H H2 h h2 where
 keep:=λc ob q n hc hx=>b.keep c ob (a.keep c ob q n hc hx) (a.free c ob q n hx) hc hx
 slot:=λc ob q n hc hx=>by
  obtain ⟨sl,e1⟩:=a.slot c ob q n hc hx
  obtain ⟨sl',e2⟩:=b.slot c _ e1 (a.free c ob q n hx) hc hx
  exact ⟨sl',e2⟩
 free:=λc ob q n hx=>by
  obtain ⟨o',e1⟩:=a.there c ob q hx
  exact b.free c o' e1 (a.free c ob q n hx) hx
 there:=λc ob q hx=>by
  obtain ⟨o',e1⟩:=a.there c ob q hx
  exact b.there c o' e1 hx
 tups:=λc xs q=>b.tups c xs (a.tups c xs q)
 frzs:=λc ob xs q=>b.frzs c ob xs (a.frzs c ob xs q)
 tbls:=λc ps q=>by
  obtain ⟨m1,e1⟩:=a.tbls c ps q
  obtain ⟨m2,e2⟩:=b.tbls c _ e1
  exact ⟨m1++m2,by rw [e2,Array.append_assoc]⟩
theorem Un.kept (k:∀b u,h.get? b=some u->h'.get? b=some u):Un fs ex H H h h':=
 ⟨λb ob q _ _ _=>k b ob q,λb ob q _ _ _=>⟨ob.slots,k b ob q⟩,λ_ _ _ n _=>n,λb ob q _=>⟨ob,k b ob q⟩,λ_ _ q=>q,λ_ _ _ q=>q,λ_ ps q=>⟨#[],by rw [q];simp⟩⟩
theorem Un.refl:Un fs ex H H h h:=Un.kept λ_ _ q=>q
theorem Un.laid (k:∀b u,h.get? b=some u->h'.get? b=some u)(hp:h.objs.size<=a)(hn:H a=none):Un fs ex H (upd H a o) h h' where
 keep:=λb u q _ _ _=>k b u q
 slot:=λb u q _ _ _=>⟨u.slots,k b u q⟩
 free:=λb u q n _=>by rw [aH (Nat.ne_of_lt (Nat.lt_of_lt_of_le (Heap.lt_size q) hp))];exact n
 there:=λb u q _=>⟨u,k b u q⟩
 tups:=λb xs q=>by rw [aH (cK q hn)];exact q
 frzs:=λb u xs q=>by rw [aH (cK q hn)];exact q
 tbls:=λb ps q=>⟨#[],by rw [aH (cK q hn),q];simp⟩
theorem Un.write (mu:tV (H x))(he:e=x∨H e=some (.own x))(k:∀b u,b≠e->h.get? b=some u->h'.get? b=some u)(heo:∃u,h'.get? e=some u):Un fs ex H (upd H x o) h h':=by
 have hx:∀b,H b=none->b≠x:=λb n z=>by subst z;rw [n] at mu;exact mu
 have hb:∀b,H b=none->b≠e:=λb n z=>by
  subst z
  rcases he with r | r
  ·exact hx b n r
  ·rw [n] at r;cases r
 have hm:∀b u,H b=some u->¬tV (some u)->b≠x:=λb u q nm z=>by subst z;rw [q] at mu;exact nm mu
 refine ⟨λb u q n _ _=>k b u (hb b n) q,λb u q n _ _=>⟨u.slots,k b u (hb b n) q⟩,λb u q n _=>by rw [aH (hx b n)];exact n,λb u q _=>?_,
  λb xs q=>by rw [aH (hm b _ q λz=>z)];exact q,λb u xs q=>by rw [aH (hm b _ q λz=>z)];exact q,λb ps q=>⟨#[],by rw [aH (hm b _ q λz=>z),q];simp⟩⟩
 by_cases hbe:b=e
 ·subst hbe;exact heo
 ·exact ⟨u,k b u hbe q⟩
theorem Un.mono (u:Un fs ex H H1 h h1)(hs:∀b∈fs,b∈fs')(hx:∀b∈ex,b∈ex'):Un fs' ex' H H1 h h1:=
 ⟨λb ob q n hb he=>u.keep b ob q n (λz=>hb (hs b z)) λz=>he (hx b z),λ_ _ q n _ he=>u.any q n λz=>he (hx _ z),λb ob q n he=>u.free b ob q n λz=>he (hx b z),λb ob q he=>u.there b ob q λz=>he (hx b z),u.tups,u.frzs,u.tbls⟩
end
def xF (h:Heap)(H:Hp):List Addr:=(List.range h.objs.size).filter λa=>(H a).isSome
def jj (h:Heap)(H:Hp):Heap:=PySem.W.hideAll h (xF h H)
theorem uF (h:Heap)(H:Hp):(jj h H).objs.size=h.objs.size:=PySem.W.hideAll_size _ _
theorem vZ {h:Heap}{H:Hp}{b:Addr}{o:Obj}(e:h.get? b=some o)(n:H b=none):(jj h H).get? b=some o:=
 PySem.W.hideAll_get _ e λhm=>by
  have q:(H b).isSome=true:=(List.mem_filter.mp hm).2
  rw [n] at q;simp at q
theorem zG {h:Heap}{H:Hp}{b:Addr}{o:Obj}(e:(jj h H).get? b=some o):h.get? b=some o/\H b=none:=by
 have e':h.get? b=some o:=PySem.W.of_hideAll (xF h H) e
 refine ⟨e',?_⟩
 cases q:H b with
 | none=>rfl
 | some x=>
   have hm:b∈xF h H:=List.mem_filter.mpr ⟨List.mem_range.mpr (Heap.lt_size e'),by simp [q]⟩
   have z:(jj h H).get? b=none:=PySem.W.hideAll_none (xF h H) hm
   rw [z] at e;cases e
structure Mod (K:PySem.W.Frag) (mg:Str->Option Value) (base:Heap):Prop where
 kin:K.In base
 glob:base.Ns mainGlobals mg
 blt:∃mb,base.Ns builtinsNs mb/\∀x:Str,x≠"__name__"->mb x=bootBuiltins x
 nolimit:base.NoLimit
structure Cx where
 prog:Program
 w:World
 K:PySem.W.Frag
 mg:Str->Option Value
 base:Heap
 A:Around
 N:List Str
 s₀:Shared
 H₀:Hp
 env:Env
 outer:List Env
 stack:List Env
 ex:List Addr
 fn:Str->Bool
 calm:Bool
 pn:List (Addr×Obj)
 xe:Value->Shared->Prop
def c4 (l:List Env):List Addr:=l.filterMap (·.frame)
abbrev Cx.fs (X:Cx):List Addr:=c4 X.outer
def bR (sc:Scope)(x:Str):Prop:=sc.names.lookup x=some .local∨sc.names.lookup x=some .cell∨sc.names.lookup x=some .free
def Loc (sc:Scope)(x:Str):Prop:=sc.names.lookup x=some .local∨sc.names.lookup x=some .cell
def Look (env:Env)(h:Heap)(m:Str->Option Value)(x:Str)(u:Value):Prop:=
 (env.kindOf x=some .local/\m x=some u)∨((env.kindOf x=some .cell∨env.kindOf x=some .free)/\∃c,env.cells.lookup x=some c/\h.IsCell c (some u))
structure Cx.Ok (X:Cx):Prop where
 mod:Mod X.K X.mg X.base
 kind:X.env.scope.kind= .function
 glob:X.env.globals=mainGlobals
 blt:X.env.builtins=builtinsNs
 above:X.s₀.heap.objs.size<=X.env.locals
 inj:∀x y c,X.env.cells.lookup x=some c->X.env.cells.lookup y=some c->x=y
 has:∀x,(X.env.kindOf x=some .cell∨X.env.kindOf x=some .free)->∃c,X.env.cells.lookup x=some c
 cab:∀x c,X.fn x=true->X.env.cells.lookup x=some c->X.s₀.heap.objs.size<=c
 hd:X.calm=true->X.A.handled=none
 frames:X.A.frames=some X.stack
 stk:X.stack=X.outer∨(X.stack=X.env::X.outer/\X.env.frame=some X.env.locals)
 exf:∀b∈X.ex,b≠X.env.locals/\∀x c,X.env.cells.lookup x=some c->c≠b
 bs:∀b o,X.base.get? b=some o->X.s₀.heap.get? b=some o/\X.H₀ b=none
 bsz:X.base.objs.size<=X.s₀.heap.objs.size
 noex:∀b o,X.base.get? b=some o->b∉X.ex
 exfs:∀b∈X.ex,b∉X.fs
 funs:X.s₀.heap.FunFrames X.base X.outer
 frf:∀b∈X.fs,X.H₀ b=none
structure Inv (X:Cx) (pins:List (Addr×Obj)) (σ:List (Option V)) (H:Hp) (s:Shared):Prop where
 ok:X.Ok
 os:s.os=X.s₀.os
 bare:AllBare s.gens
 base:Un X.fs X.ex X.H₀ H X.s₀.heap s.heap
 loc:∃m,s.heap.Ns X.env.locals m/\∀(i:Nat) (x:Str) (v:V),X.N[i]?=some x->σ[i]?=some (some v)->bR X.env.scope x->∃u,RelV v u/\Look X.env s.heap m x u
 cell:∀x c,X.env.cells.lookup x=some c->∃v,s.heap.IsCell c v
 free:H X.env.locals=none
 freeC:∀x c,X.env.cells.lookup x=some c->H c=none
 pin:∀p∈X.pn++pins,s.heap.get? p.1=some p.2/\H p.1=none/\p.1≠X.env.locals/\p.1∉X.fs/\∀v,p.2.data≠ .cell v
 hok:cG X.prog X.w H s.heap
 len:σ.length=X.N.length
section
variable {X:Cx}{pins:List (Addr×Obj)}{σ:List (Option V)}{H H':Hp}{s:Shared}{h':Heap}
variable {t':Nat}{ch:List Addr}{x:Str}{i:Nat}
theorem Cx.Ok.Gd (ok:X.Ok){b:Addr}{o:Obj}(e:X.base.get? b=some o):b∉X.fs:=λhb=>by
 have:=(ok.funs.mem hb).1
 rw [e] at this;cases this
theorem Inv.bs (I:Inv X pins σ H s):∀b o,X.base.get? b=some o->s.heap.get? b=some o/\H b=none:=λb o e=>
 ⟨I.base.keep b o (I.ok.bs b o e).1 (I.ok.bs b o e).2 (I.ok.Gd e) (I.ok.noex b o e),I.base.free b o (I.ok.bs b o e).1 (I.ok.bs b o e).2 (I.ok.noex b o e)⟩
theorem Inv.bk (I:Inv X pins σ H s):∀b o,X.base.get? b=some o->s.heap.get? b=some o:=λb o e=>(I.bs b o e).1
theorem Inv.mod (I:Inv X pins σ H s):Mod X.K X.mg X.base:=I.ok.mod
theorem Inv.eL (I:Inv X pins σ H s):X.K.In s.heap:=I.ok.mod.kin.keeps I.bk
theorem Inv.lt (I:Inv X pins σ H s):X.env.locals < s.heap.objs.size:=let ⟨_,hn,_⟩:=I.loc;hn.lt
theorem Inv.sz (I:Inv X pins σ H s):X.s₀.heap.objs.size<=s.heap.objs.size:=Nat.le_trans I.ok.above (Nat.le_of_lt I.lt)
theorem Inv.F6 (I:Inv X pins σ H s){a:Addr}(h:s.heap.objs.size<=a):a∉X.fs:=λhb=>by
 obtain ⟨_,o,ho,_⟩:=I.ok.funs.mem hb
 exact absurd (Nat.lt_of_lt_of_le (Heap.lt_size ho) (Nat.le_trans I.sz h)) (Nat.lt_irrefl _)
theorem Inv.cne (I:Inv X pins σ H s):∀x c,X.env.cells.lookup x=some c->c≠X.env.locals:=λx c e z=>by
 obtain ⟨v,o,ho,hd⟩:=I.cell x c e
 obtain ⟨m,⟨o',es,ep,ho',hd',_⟩,_⟩:=I.loc
 rw [z,ho'] at ho;cases ho;rw [hd'] at hd;cases hd
theorem Inv.funs (I:Inv X pins σ H s):s.heap.FunFrames X.base X.outer:=by
 have all:∀(l:List Env),(∀b∈c4 l,b∈X.fs)->X.s₀.heap.FunFrames X.base l->s.heap.FunFrames X.base l:=by
  intro l
  induction l with
  | nil=>intro _ _;trivial
  | cons env r ih=>
    intro hs hl
    obtain ⟨hk,⟨L,o,hf,hn,ho,hd⟩,hr⟩:=hl
    have hL:L∈X.fs:=hs L (by unfold c4;rw [List.filterMap_cons,hf];exact List.mem_cons_self)
    obtain ⟨sl,e⟩:=I.base.slot L o ho (I.ok.frf L hL) hL λz=>I.ok.exfs L z hL
    exact ⟨hk,⟨L,_,hf,hn,e,hd⟩,ih (λb hb=>hs b (by unfold c4;rw [List.filterMap_cons,hf];exact List.mem_cons_of_mem _ hb)) hr⟩
 exact all X.outer (λ_ hb=>hb) I.ok.funs
theorem Inv.stack (I:Inv X pins σ H s):s.heap.FunFrames X.base X.stack:=by
 rcases I.ok.stk with e | ⟨e,hf⟩
 ·rw [e];exact I.funs
 ·rw [e]
  obtain ⟨m,hn,_⟩:=I.loc
  refine .cons (by rw [I.ok.kind];decide) hf hn ?_ I.funs
  exact Heap.get?_none_of_le (Nat.le_trans I.ok.bsz I.ok.above)
theorem Inv.oV (I:Inv X pins σ H s):∀b∈c4 X.stack,b∈X.env.locals::X.fs:=λb hb=>by
 rcases I.ok.stk with e | ⟨e,hf⟩
 ·rw [e] at hb;exact List.mem_cons_of_mem _ hb
 ·rw [e] at hb
  unfold c4 at hb
  rw [List.filterMap_cons,hf] at hb
  exact hb
theorem Inv.iQ (I:Inv X pins σ H s):∀b∈c4 X.stack,H b=none:=λb hb=>by
 rcases List.mem_cons.mp (I.oV b hb) with e | hb
 ·rw [e];exact I.free
 ·obtain ⟨_,o,ho,_⟩:=I.ok.funs.mem hb
  exact I.base.free b o ho (I.ok.frf b hb) λz=>I.ok.exfs b z hb
theorem Inv.step {g':Array GenState}{d':Drawn}(I:Inv X pins σ H s)
 (hch:∀b∈ch,(b∈X.ex∨X.s₀.heap.objs.size<=b)/\b≠X.env.locals/\(∀x c,X.env.cells.lookup x=some c->c≠b)/\∀p∈X.pn++pins,p.1≠b)
 (keep:∀b o,b≠X.env.locals->b∉X.fs->b∉ch->s.heap.get? b=some o->H b=none->h'.get? b=some o)
 (slot:∀b o,b≠X.env.locals->b∈X.fs->b∉ch->s.heap.get? b=some o->H b=none->∃sl,h'.get? b=some {o with slots:=sl}) (free:∀b o,b∉ch->s.heap.get? b=some o->H b=none->H' b=none)
 (there:∀b o,b∉ch->s.heap.get? b=some o->∃o',h'.get? b=some o')
 (tups:∀b xs,H b=some (.tup xs)->H' b=some (.tup xs)) (frzs:∀b o u,H b=some (.frz o u)->H' b=some (.frz o u)) (tbls:∀b ps,H b=some (.tbl ps)->∃more,H' b=some (.tbl (ps++more)))
 (ns:∀m,s.heap.Ns X.env.locals m->h'.Ns X.env.locals m) (hok:cG X.prog X.w H' h') (hg:AllBare g'):
 Inv X pins σ H' {s with heap:=h',gens:=g',drawn:=d',toks:=t'}:=by
 have neL:∀b o,X.s₀.heap.get? b=some o->b≠X.env.locals:=λb o e=>Nat.ne_of_lt (Nat.lt_of_lt_of_le (Heap.lt_size e) I.ok.above)
 have neC:∀b o,X.s₀.heap.get? b=some o->b∉X.ex->b∉ch:=λb o e hx hb=>by
  rcases (hch b hb).1 with z | z
  ·exact hx z
  ·exact absurd (Nat.lt_of_lt_of_le (Heap.lt_size e) z) (Nat.lt_irrefl _)
 have cellK:∀x c,X.env.cells.lookup x=some c->∀v,s.heap.IsCell c v->h'.IsCell c v:=λx c e v ⟨o,ho,hd⟩=>by
  have nch:c∉ch:=λz=>(hch c z).2.2.1 x c e rfl
  by_cases hc:c∈X.fs
  ·obtain ⟨sl,q⟩:=slot c o (I.cne x c e) hc nch ho (I.freeC x c e)
   exact ⟨_,q,hd⟩
  ·exact ⟨o,keep c o (I.cne x c e) hc nch ho (I.freeC x c e),hd⟩
 refine ⟨I.ok,I.os,hg,⟨λb o e n hb hx=>?_,λb o e n hb hx=>?_,λb o e n hx=>?_,λb o e hx=>?_,λb xs e=>tups b xs (I.base.tups b xs e),λb o xs e=>frzs b o xs (I.base.frzs b o xs e),λb ps e=>?_⟩,?_,λx c e=>?_,?_,λx c e=>?_,λp hp=>?_,hok,I.len⟩
 ·exact keep b o (neL b o e) hb (neC b o e hx) (I.base.keep b o e n hb hx) (I.base.free b o e n hx)
 ·obtain ⟨sl,e1⟩:=I.base.slot b o e n hb hx
  obtain ⟨sl',e2⟩:=slot b _ (neL b o e) hb (neC b o e hx) e1 (I.base.free b o e n hx)
  exact ⟨sl',e2⟩
 ·obtain ⟨o',e1⟩:=I.base.there b o e hx
  exact free b o' (neC b o e hx) e1 (I.base.free b o e n hx)
 ·obtain ⟨o',e1⟩:=I.base.there b o e hx
  exact there b o' (neC b o e hx) e1
 ·obtain ⟨m1,e1⟩:=I.base.tbls b ps e
  obtain ⟨m2,e2⟩:=tbls b _ e1
  exact ⟨m1++m2,by rw [e2,Array.append_assoc]⟩
 ·obtain ⟨m,hn,hl⟩:=I.loc
  refine ⟨m,ns m hn,λi x v e1 e2 e3=>?_⟩
  obtain ⟨u,r,l⟩:=hl i x v e1 e2 e3
  refine ⟨u,r,?_⟩
  rcases l with l | ⟨k,c,e,z⟩
  ·exact .inl l
  ·exact .inr ⟨k,c,e,cellK x c e _ z⟩
 ·obtain ⟨v,z⟩:=I.cell x c e
  exact ⟨v,cellK x c e v z⟩
 ·obtain ⟨m,⟨o,_,_,ho,_⟩,_⟩:=I.loc
  exact free _ o (λz=>(hch _ z).2.1 rfl) ho I.free
 ·obtain ⟨v,o,ho,hd⟩:=I.cell x c e
  exact free c o (λz=>(hch c z).2.2.1 x c e rfl) ho (I.freeC x c e)
 ·obtain ⟨e,n,ne,nf,d⟩:=I.pin p hp
  have nch:p.1∉ch:=λz=>(hch p.1 z).2.2.2 p hp rfl
  exact ⟨keep p.1 p.2 ne nf nch e n,free p.1 p.2 nch e n,ne,nf,d⟩
theorem Inv.un (I:Inv X pins σ H s)(u:Un X.fs [] H H' s.heap h')(hok:cG X.prog X.w H' h'):Inv X pins σ H' {s with heap:=h',toks:=t'}:=by
 obtain ⟨m,⟨o,es,ep,ho,r⟩,_⟩:=id I.loc
 obtain ⟨sl,hL⟩:=u.any ho I.free (by simp)
 exact I.step (g':=s.gens) (d':=s.drawn) (ch:=[]) (λ_ z=>nomatch z) (λb o _ hb _ e n=>u.keep b o e n hb (by simp)) (λb o _ hb _ e n=>u.slot b o e n hb (by simp)) (λb o _ e n=>u.free b o e n (by simp)) (λb o _ e=>u.there b o e (by simp)) u.tups u.frzs u.tbls (λm' hm=>by
  obtain ⟨o',es',ep',ho',r'⟩:=hm
  rw [ho] at ho';cases ho'
  exact ⟨_,es',ep',hL,r'⟩) hok I.bare
theorem Inv.call {g':Array GenState}{d':Drawn}(I:Inv X pins σ H s)(u:Un (c4 X.stack) ch H H' s.heap h')(hok:cG X.prog X.w H' h')(hg:AllBare g')
 (hch:∀b∈ch,(b∈X.ex∨X.s₀.heap.objs.size<=b)/\b≠X.env.locals/\(∀x c,X.env.cells.lookup x=some c->c≠b)/\∀p∈X.pn++pins,p.1≠b):
 Inv X pins σ H' {s with heap:=h',gens:=g',drawn:=d',toks:=t'}:=by
 obtain ⟨m,⟨o,es,ep,ho,r⟩,_⟩:=id I.loc
 obtain ⟨sl,hL⟩:=u.any ho I.free λz=>(hch _ z).2.1 rfl
 exact I.step (ch:=ch) hch (λb o hL hb hc e n=>u.keep b o e n (λz=>(List.mem_cons.mp (I.oV b z)).elim hL hb) hc) (λb o _ _ hc e n=>u.any e n hc) (λb o hc e n=>u.free b o e n hc) (λb o hc e=>u.there b o e hc) u.tups u.frzs u.tbls (λm' hm=>by
  obtain ⟨o',es',ep',ho',r'⟩:=hm
  rw [ho] at ho';cases ho'
  exact ⟨_,es',ep',hL,r'⟩) hok hg
theorem Inv.turned {it:Addr}(I:Inv X pins σ H s)(k:∀b o,b≠it->s.heap.get? b=some o->h'.get? b=some o)(hn:H it=none)(hL:it≠X.env.locals)
 (h1:it∈X.ex∨X.s₀.heap.objs.size<=it) (h2:∀x c,X.env.cells.lookup x=some c->c≠it) (h3:∀p∈X.pn++pins,p.1≠it):Inv X pins σ H {s with heap:=h',toks:=t'}:=by
 have nit:∀b u,H b=some u->b≠it:=λb u e z=>by rw [z,hn] at e;cases e
 refine I.step (g':=s.gens) (d':=s.drawn) (ch:=[it]) (λb hb=>?_) (λb o _ _ hc e _=>k b o (λz=>hc (by simp [z])) e) (λb o _ _ hc e _=>⟨o.slots,k b o (λz=>hc (by simp [z])) e⟩) (λ_ _ _ _ n=>n)
  (λb o hc e=>⟨o,k b o (λz=>hc (by simp [z])) e⟩) (λ_ _ e=>e) (λ_ _ _ e=>e) (λb ps e=>⟨#[],by rw [e];simp⟩) (λm hm=>?_) (λb u e=>?_) I.bare
 ·have e:b=it:=by simpa using hb
  subst e
  exact ⟨h1,hL,h2,h3⟩
 ·obtain ⟨o,es,ep,ho,r⟩:=hm
  exact ⟨o,es,ep,k _ o (Ne.symm hL) ho,r⟩
 ·refine (I.hok b u e).stay (λc v hc q=>k c v ?_ q) (λ_ q=>q) λ_ _ q=>q
  rcases hc with z | z
  ·rw [z];exact nit b u e
  ·exact nit c _ z
theorem Inv.tok (I:Inv X pins σ H s)(t:Nat):Inv X pins σ H {s with toks:=t}:=I.un (h':=s.heap) (t':=t) Un.refl I.hok
theorem Inv.kept (I:Inv X pins σ H s)(k:∀b u,s.heap.get? b=some u->h'.get? b=some u):Inv X pins σ H {s with heap:=h',toks:=t'}:=I.un (Un.kept k) (I.hok.kept k)
theorem Inv.laid {a:Addr}{o:HO}(I:Inv X pins σ H s)(k:∀b u,s.heap.get? b=some u->h'.get? b=some u)(hp:s.heap.objs.size<=a)(new:bT X.prog X.w (upd H a o) h' a o):
 Inv X pins σ (upd H a o) {s with heap:=h',toks:=t'}:=I.un (Un.laid k hp (I.hok.fresh hp)) (I.hok.laid k hp new)
theorem Inv.write {x e:Addr}{o:HO}(I:Inv X pins σ H s)(mu:tV (H x))(he:e=x∨H e=some (.own x))(k:∀b u,b≠e->s.heap.get? b=some u->h'.get? b=some u)(heo:∃u,h'.get? e=some u)
 (new:bT X.prog X.w (upd H x o) h' x o):Inv X pins σ (upd H x o) {s with heap:=h',toks:=t'}:=I.un (Un.write mu he k heo) (I.hok.write mu he k heo new)
theorem Inv.gR {pins':List (Addr×Obj)}(I:Inv X pins σ H s)(h:∀p∈pins',s.heap.get? p.1=some p.2/\H p.1=none/\p.1≠X.env.locals/\p.1∉X.fs/\∀v,p.2.data≠ .cell v):Inv X pins' σ H s:=
 ⟨I.ok,I.os,I.bare,I.base,I.loc,I.cell,I.free,I.freeC,λp hp=>(List.mem_append.mp hp).elim (λz=>I.pin p (List.mem_append_left _ z)) (h p),I.hok,I.len⟩
theorem lI {N:List Str}(hN:N.Nodup){j:Nat}(a:N[i]?=some x)(b:N[j]?=some x):i=j:=by
 obtain ⟨h1,e1⟩:=List.getElem?_eq_some_iff.mp a
 obtain ⟨h2,e2⟩:=List.getElem?_eq_some_iff.mp b
 exact (List.getElem_inj hN).mp (e1.trans e2.symm)
theorem n6 {M:Model}{A:Around}{E:Value->Shared->Prop}{v:V}{u:Value}{Q:Unit->Shared->Prop}(I:Inv X pins σ H s)(hN:X.N.Nodup)(hi:X.N[i]?=some x)(hx:Loc X.env.scope x)(r:RelV v u)
 (h:∀s',Inv X pins (σ.set i (some v)) H s'->(∃a,Heap.SameBut a s.heap s'.heap/\(a=X.env.locals∨X.env.cells.lookup x=some a))->Q () s') (hf:X.fn x=true∨X.env.scope.names.lookup x=some .local:=by first | exact .inl rfl | exact .inr rfl | assumption):wpAny M A (storeName X.env x u) Q E s:=by
 obtain ⟨m,hn,hl⟩:=id I.loc
 have hcls:(X.env.scope.kind== .class ||(X.env.scope.kind== .module&&X.env.locals != X.env.globals))=false:=by rw [I.ok.kind];rfl
 have hiσ:i < σ.length:=by rw [I.len];exact (List.getElem?_eq_some_iff.mp hi).1
 have cne:=I.cne
 have tracked:∀{a:Addr} {h':Heap},(∃o,s.heap.get? a=some o/\H a=none)->Heap.SameBut a s.heap h'->cG X.prog X.w H h':=λ{a h'} ha hs b ob e=>by
  obtain ⟨_,_,hfree⟩:=ha
  refine (I.hok b ob e).stay (λc w' hc q=>(hs.2 c ?_).trans q) (λ_ q=>q) λ_ _ q=>q
  rintro rfl
  rcases hc with rfl | hc
  ·rw [hfree] at e;cases e
  ·rw [hfree] at hc;cases hc
 rcases hx with hk | hk
 ·refine wpAny_storeName_local hk hn (λh' hn' hs=>?_) hcls
  obtain ⟨oL,_,_,hoL,_⟩:=id hn
  refine h _ ⟨I.ok,I.os,I.bare,⟨λb o e n hb hx=>?_,λb o e n hb hx=>?_,I.base.free,λb o e hx=>?_,I.base.tups,I.base.frzs,I.base.tbls⟩,⟨_,hn',λj y v' e1 e2 e3=>?_⟩,λy c e=>?_,I.free,I.freeC,λp hp=>?_,tracked ⟨oL,hoL,I.free⟩ hs,by simpa using I.len⟩ ⟨_,hs,.inl rfl⟩
  ·exact (hs.2 b (Nat.ne_of_lt (Nat.lt_of_lt_of_le (Heap.lt_size e) I.ok.above))).trans (I.base.keep b o e n hb hx)
  ·obtain ⟨sl,e1⟩:=I.base.slot b o e n hb hx
   exact ⟨sl,(hs.2 b (Nat.ne_of_lt (Nat.lt_of_lt_of_le (Heap.lt_size e) I.ok.above))).trans e1⟩
  ·obtain ⟨o',e1⟩:=I.base.there b o e hx
   exact ⟨o',(hs.2 b (Nat.ne_of_lt (Nat.lt_of_lt_of_le (Heap.lt_size e) I.ok.above))).trans e1⟩
  ·by_cases hj:j=i
   ·subst hj
    rw [hi] at e1;cases e1
    rw [List.getElem?_set_self hiσ] at e2
    cases e2
    exact ⟨u,r,.inl ⟨hk,by simp⟩⟩
   ·rw [List.getElem?_set_ne (Ne.symm hj)] at e2
    obtain ⟨u',r',q⟩:=hl j y v' e1 e2 e3
    refine ⟨u',r',?_⟩
    rcases q with ⟨k,e⟩ | ⟨k,c,e,z⟩
    ·refine .inl ⟨k,?_⟩
     have:y≠x:=λe=>hj (lI hN e1 (e▸hi))
     simp [this,e]
    ·exact .inr ⟨k,c,e,z.sameBut hs (cne y c e)⟩
  ·obtain ⟨w',z⟩:=I.cell y c e
   exact ⟨w',z.sameBut hs (cne y c e)⟩
  ·obtain ⟨e,n,ne,nf,d⟩:=I.pin p hp
   exact ⟨(hs.2 p.1 ne).trans e,n,ne,nf,d⟩
 ·have hfn:X.fn x=true:=by
   rcases hf with z | z
   ·exact z
   ·rw [z] at hk;cases hk
  obtain ⟨c,hc⟩:=I.ok.has x (.inl hk)
  obtain ⟨w',z⟩:=I.cell x c hc
  refine wpAny_storeName_cell I.ok.kind hk hc z (λh' hc' hs=>?_)
  obtain ⟨oc,hoc,hocd⟩:=id z
  refine h {s with heap:=h'} ⟨I.ok,I.os,I.bare,⟨λb o e n hb hx=>?_,λb o e n hb hx=>?_,I.base.free,λb o e hx=>?_,I.base.tups,I.base.frzs,I.base.tbls⟩,⟨m,hn.sameBut hs (Ne.symm (cne x c hc)),λj y v' e1 e2 e3=>?_⟩,λy c' e=>?_,I.free,I.freeC,λp hp=>?_,tracked ⟨oc,hoc,I.freeC x c hc⟩ hs,by simpa using I.len⟩ ⟨c,hs,.inr hc⟩
  ·exact (hs.2 b (Nat.ne_of_lt (Nat.lt_of_lt_of_le (Heap.lt_size e) (I.ok.cab x c hfn hc)))).trans (I.base.keep b o e n hb hx)
  ·obtain ⟨sl,e1⟩:=I.base.slot b o e n hb hx
   exact ⟨sl,(hs.2 b (Nat.ne_of_lt (Nat.lt_of_lt_of_le (Heap.lt_size e) (I.ok.cab x c hfn hc)))).trans e1⟩
  ·obtain ⟨o',e1⟩:=I.base.there b o e hx
   exact ⟨o',(hs.2 b (Nat.ne_of_lt (Nat.lt_of_lt_of_le (Heap.lt_size e) (I.ok.cab x c hfn hc)))).trans e1⟩
  ·by_cases hj:j=i
   ·subst hj
    rw [hi] at e1;cases e1
    rw [List.getElem?_set_self hiσ] at e2
    cases e2
    exact ⟨u,r,.inr ⟨.inl hk,c,hc,hc'⟩⟩
   ·rw [List.getElem?_set_ne (Ne.symm hj)] at e2
    obtain ⟨u',r',q⟩:=hl j y v' e1 e2 e3
    refine ⟨u',r',?_⟩
    rcases q with q | ⟨k,c',e,z'⟩
    ·exact .inl q
    ·refine .inr ⟨k,c',e,z'.sameBut hs ?_⟩
     rintro rfl
     exact hj (lI hN e1 (I.ok.inj _ _ _ e hc▸hi))
  ·by_cases hcc:c'=c
   ·subst hcc;exact ⟨_,hc'⟩
   ·obtain ⟨w2,z2⟩:=I.cell y c' e
    exact ⟨w2,z2.sameBut hs hcc⟩
  ·obtain ⟨e,n,ne,nf,d⟩:=I.pin p hp
   refine ⟨(hs.2 p.1 ?_).trans e,n,ne,nf,d⟩
   intro q
   rw [q,hoc] at e
   have q':oc=p.2:=Option.some.inj e
   exact d w' (by rw [← q'];exact hocd)
theorem lr {M:Model}{A:Around}{E:Value->Shared->Prop}{v:V}{u:Value}{Q:Unit->Shared->Prop}(I:Inv X pins σ H s)(hN:X.N.Nodup)(hi:X.N[i]?=some x)(hx:Loc X.env.scope x)(r:RelV v u)
 (h:∀s',Inv X pins (σ.set i (some v)) H s'->Q () s') (hf:X.fn x=true∨X.env.scope.names.lookup x=some .local:=by first | exact .inl rfl | exact .inr rfl | assumption):wpAny M A (storeName X.env x u) Q E s:=
 n6 I hN hi hx r (λs' I' _=>h s' I') hf
theorem Inv.sC {s':Shared}(I:Inv X pins σ H s)(ho:s'.os=s.os)(u:Un (c4 X.stack) ch H H' s.heap s'.heap)(hok:cG X.prog X.w H' s'.heap)(hg:AllBare s'.gens)
 (hch:∀b∈ch,(b∈X.ex∨X.s₀.heap.objs.size<=b)/\b≠X.env.locals/\(∀x c,X.env.cells.lookup x=some c->c≠b)/\∀p∈X.pn++pins,p.1≠b):Inv X pins σ H' s':=by
 obtain ⟨h',g',d',t',o'⟩:=s'
 have e:o'=s.os:=ho
 subst e
 exact I.call (g':=g') (t':=t') (d':=d') u hok hg hch
end
abbrev XK:=Value->Option Addr->Hp->Prop
abbrev St:=List (Option V)
abbrev VK:=V->Hp->Prop
abbrev TE:=St->Hp->VK->Prop
abbrev TT:=St->Hp->(Bool->Hp->Prop)->Prop
abbrev TA:=St->Hp->(List V->Hp->Prop)->Prop
structure Ends where
 nx:St->Hp->Prop
 rt:VK
 bk:St->Hp->Prop:=λ_ _=>False
 ct:St->Hp->Prop:=λ_ _=>False
abbrev TS:=Ends->St->Hp->Prop
def EP (X:Cx)(pins:List (Addr×Obj))(σ:St)(Q:VK)(u:Value)(s':Shared):Prop:=∃v H',Inv X pins σ H' s'/\RelV v u/\Q v H'
def TP (X:Cx)(pins:List (Addr×Obj))(σ:St)(Q:Bool->Hp->Prop)(b:Bool)(s':Shared):Prop:=∃H',Inv X pins σ H' s'/\Q b H'
def AP (X:Cx)(pins:List (Addr×Obj))(σ:St)(Q:List V->Hp->Prop)(us:List Value)(s':Shared):Prop:=∃vs H',Inv X pins σ H' s'/\Vals vs us/\Q vs H'
def SP (X:Cx)(pins:List (Addr×Obj))(D:Ends)(f:Flow)(s':Shared):Prop:=
 match f with
 | .next=>∃σ' H',Inv X pins σ' H' s'/\D.nx σ' H'
 | .brk=>∃σ' H',Inv X pins σ' H' s'/\D.bk σ' H'
 | .cont=>∃σ' H',Inv X pins σ' H' s'/\D.ct σ' H'
 | .ret u=>∃v σ' H',Inv X pins σ' H' s'/\RelV v u/\D.rt v H'
def PE (X:Cx)(e:Expr)(t:TE):Prop:=
 ∀(pins:List (Addr×Obj)) (s:Shared) (σ:St) (H:Hp) (Q:VK),Inv X pins σ H s->t σ H Q->wpAny (model X.prog X.w) X.A (eval e X.env) (EP X pins σ Q) X.xe s
def PT (X:Cx)(e:Expr)(t:TT):Prop:=
 ∀(pins:List (Addr×Obj)) (s:Shared) (σ:St) (H:Hp) (Q:Bool->Hp->Prop),Inv X pins σ H s->t σ H Q->wpAny (model X.prog X.w) X.A (isTrue e X.env (eval e X.env)) (TP X pins σ Q) X.xe s
def PW (X:Cx)(e:Expr)(t:TT):Prop:=
 ∀(whole:Sem Value) (pins:List (Addr×Obj)) (s:Shared) (σ:St) (H:Hp) (Q:Bool->Hp->Prop),Inv X pins σ H s->t σ H Q->wpAny (model X.prog X.w) X.A (isTrue e X.env whole) (TP X pins σ Q) X.xe s
theorem PW.pt {X:Cx}{e:Expr}{t:TT}(h:PW X e t):PT X e t:=h _
def PA (X:Cx)(es:List Expr)(t:TA):Prop:=
 ∀(pos:Pos) (pins:List (Addr×Obj)) (s:Shared) (σ:St) (H:Hp) (Q:List V->Hp->Prop),Inv X pins σ H s->t σ H Q->wpAny (model X.prog X.w) X.A (spliced (backTo pos (starEach es X.env))) (AP X pins σ Q) X.xe s
def PS (X:Cx)(st:Stmt)(t:TS):Prop:=
 ∀(pins:List (Addr×Obj)) (s:Shared) (σ:St) (H:Hp) (D:Ends),Inv X pins σ H s->t D σ H->wpAny (model X.prog X.w) X.A (exec st X.env) (SP X pins D) X.xe s
def gI (X:Cx)(st:List Stmt)(t:TS):Prop:=
 ∀(pins:List (Addr×Obj)) (s:Shared) (σ:St) (H:Hp) (D:Ends),Inv X pins σ H s->t D σ H->wpAny (model X.prog X.w) X.A (execs st X.env) (SP X pins D) X.xe s
theorem aO {α:Type}{t:Sem α}{Q Q':α->Shared->Prop}{M:Model}{A:Around}{E:Value->Shared->Prop}{s:Shared}(h:wpAny M A t Q E s)(hQ:∀a s,Q a s->Q' a s):wpAny M A t Q' E s:=wpAny_mono h hQ λ_ _ x=>x
section
variable {X:Cx}
def FT (i:Nat):TE:=λσ H Q=>∃v,σ[i]?=some (some v)/\Q v H
def tC (v:V):TE:=λ_ H Q=>Q v H
theorem aU {i:Nat}{x:Str}{pos:Pos}(hN:X.N[i]?=some x)(hv:bR X.env.scope x)(hd:autoParam ((x==("__debug__":Str))=false) Fc.av)(hcd:autoParam ((x==("__classdict__":Str))=false) Fc.av):PE X (.Name x pos) (FT i):=by
 intro pins s σ H Q I h
 obtain ⟨v,e,h⟩:=h
 obtain ⟨m,hn,hl⟩:=I.loc
 obtain ⟨u,r,l⟩:=hl i x v hN e hv
 have fin:EP X pins σ Q u s:=⟨v,H,I,r,h⟩
 rcases l with ⟨hk,hm⟩ | ⟨hk,c,hc,hcell⟩
 ·exact wpAny_Name (wpAny_loadName_local I.ok.kind hk hn hm fin) hd
 ·rcases hk with hk | hk
  ·exact wpAny_Name (wpAny_loadName_cell I.ok.kind hk hc hcell fin) hd
  ·exact wpAny_Name (wpAny_loadName_free I.ok.kind hk hc hcell fin hcd) hd
theorem ef {i j pos}:PE X (.Constant (.int i) j pos) (tC (.int i)):=λ_ _ _ H _ I h=>wpAny_Constant_int ⟨.int i,H,I.tok _,⟨_,rfl⟩,h⟩
theorem sW {b j pos}:PE X (.Constant (.bool b) j pos) (tC (.bl b)):=λ_ _ _ H _ I h=>Constant_bool ⟨.bl b,H,I,rfl,h⟩
theorem uk {j pos}:PE X (.Constant .none j pos) (tC .non):=λ_ _ _ H _ I h=>Constant_none ⟨.non,H,I,rfl,h⟩
def Gl (X:Cx)(x:Str):Prop:=X.env.kindOf x=some .globalImplicit
theorem iR {E:Value->Shared->Prop}{pins:List (Addr×Obj)}{s:Shared}{σ:St}{H:Hp}{x:Str}{u:Value}{pos:Pos}{Q:Value->Shared->Prop}(I:Inv X pins σ H s)(hg:Gl X x)(hm:X.mg x=some u)(h:Q u s)
 (hd:autoParam ((x==("__debug__":Str))=false) Fc.av):wpAny (model X.prog X.w) X.A (eval (.Name x pos) X.env) Q E s:=
 Calls.Name_function_global I.ok.kind hg (Calls.loadGlobal_global (by rw [I.ok.glob];exact I.mod.glob.keeps I.bk) hm h) hd
theorem fN {E:Value->Shared->Prop}{pins:List (Addr×Obj)}{s:Shared}{σ:St}{H:Hp}{x:Str}{u:Value}{pos:Pos}{Q:Value->Shared->Prop}(I:Inv X pins σ H s)(hg:Gl X x)(hm:X.mg x=none)(hv:bootBuiltins x=some u)(h:Q u s)
 (hn:autoParam (x≠"__name__") Fc.av) (hd:autoParam ((x==("__debug__":Str))=false) Fc.av):wpAny (model X.prog X.w) X.A (eval (.Name x pos) X.env) Q E s:=by
 obtain ⟨mb,h1,h2⟩:=I.mod.blt
 exact Calls.Name_function_global I.ok.kind hg (Calls.loadGlobal_builtin (by rw [I.ok.glob];exact I.mod.glob.keeps I.bk) hm (by rw [I.ok.blt];exact h1.keeps I.bk) ((h2 x hn).trans hv) h) hd
theorem iZ {x:Str}{v:V}{u:Value}{pos:Pos}(hg:Gl X x)(hm:X.mg x=some u)(r:RelV v u)(hd:autoParam ((x==("__debug__":Str))=false) Fc.av):PE X (.Name x pos) (tC v):=
 λ_ _ _ H _ I h=>iR I hg hm ⟨v,H,I,r,h⟩ hd
theorem rn {x:Str}{v:V}{u:Value}{pos:Pos}(hg:Gl X x)(hm:X.mg x=none)(hv:bootBuiltins x=some u)(r:RelV v u)(hn:autoParam (x≠"__name__") Fc.av)(hd:autoParam ((x==("__debug__":Str))=false) Fc.av):PE X (.Name x pos) (tC v):=
 λ_ _ _ H _ I h=>fN I hg hm hv ⟨v,H,I,r,h⟩ hn hd
variable {a b:Expr}{ta tb:TE}{pos:Pos}
def PC (X:Cx)(op:CmpOp)(a b:Expr)(t:TE):Prop:=
 ∀(pins:List (Addr×Obj)) (s:Shared) (σ:St) (H:Hp) (Q:VK),Inv X pins σ H s->t σ H Q->
  wpAny (model X.prog X.w) X.A (eval a X.env) (λv s₁=>wpAny (model X.prog X.w) X.A (eval b X.env) (λu s₂=>wpAny (model X.prog X.w) X.A (compareOp op v u) (EP X pins σ Q) X.xe s₂) X.xe s₁) X.xe s
def tB (t:TE):TT:=λσ H Q=>t σ H λx H1=>∃c,x= .bl c/\Q c H1
theorem oW {op:CmpOp}{t:TE}(h:PC X op a b t)(h1:behindInMarks op b=false:=by first | exact nobehind _ (by decide) (by decide) | rfl):PT X (.Compare a [op] [b] pos) (tB t):=by
 intro pins s σ H Q I hw
 refine wpAny_isTrue_Compare1 (aO (h pins s σ H _ I hw) λv s1 h1=>aO h1 λu s2 h2=>aO h2 λc s3 ⟨x,H1,I1,r1,q1⟩=>?_) h1
 obtain ⟨d,rfl,q⟩:=q1
 cases r1
 exact wpAny_truthy_bool ⟨H1,I1,q⟩
theorem zV {e:Expr}{t:TE}(h:PE X e t)(he:autoParam (∀whole,isTrue e X.env whole=(do let v ← whole;standAt e.pos;holding [v] (truthy v))) Fc.c9):PT X e (tB t):=by
 intro pins s σ H Q I hw
 refine isTrue_plain (aO (h pins s σ H _ I hw) λv s1 ⟨x,H1,I1,r1,q1⟩=>?_) (he _)
 obtain ⟨d,rfl,q⟩:=q1
 cases r1
 exact wpAny_truthy_bool ⟨H1,I1,q⟩
variable {tA tB':TT}{rest:List Expr}
def FH (t u:TT):TT:=λσ H Q=>t σ H λc H1=>if c=true then u σ H1 Q else Q false H1
def tOr (t u:TT):TT:=λσ H Q=>t σ H λc H1=>if c=true then Q true H1 else u σ H1 Q
def FG (t:TT):TT:=λσ H Q=>t σ H λc H1=>Q (!c) H1
theorem zi (ha:PT X a tA):PW X (.BoolOp .And [a] pos) tA:=by
 intro wh pins s σ H Q I h
 refine isTrue_and (aO (ha pins s σ H Q I h) λc s1 e=>?_)
 cases c with
 | true=>exact isTrue_and_nil e
 | false=>exact e
theorem Ce (ha:PT X a tA):PW X (.BoolOp .Or [a] pos) tA:=by
 intro wh pins s σ H Q I h
 refine isTrue_or (aO (ha pins s σ H Q I h) λc s1 e=>?_)
 cases c with
 | false=>exact isTrue_or_nil e
 | true=>exact e
theorem B3 (ha:PT X a tA)(hb:PW X (.BoolOp .And (b::rest) pos) tB'):PW X (.BoolOp .And (a::b::rest) pos) (FH tA tB'):=by
 intro wh pins s σ H Q I h
 refine isTrue_and (aO (ha pins s σ H _ I h) λc s1 ⟨H1,I1,q1⟩=>?_)
 cases c with
 | true=>exact hb wh pins s1 σ H1 Q I1 q1
 | false=>exact ⟨H1,I1,q1⟩
theorem xV (ha:PT X a tA)(hb:PW X (.BoolOp .Or (b::rest) pos) tB'):PW X (.BoolOp .Or (a::b::rest) pos) (tOr tA tB'):=by
 intro wh pins s σ H Q I h
 refine isTrue_or (aO (ha pins s σ H _ I h) λc s1 ⟨H1,I1,q1⟩=>?_)
 cases c with
 | true=>exact ⟨H1,I1,q1⟩
 | false=>exact hb wh pins s1 σ H1 Q I1 q1
theorem Bk (ha:PT X a tA):PT X (.UnaryOp .Not a pos) (FG tA):=by
 intro pins s σ H Q I h
 exact isTrue_not (ha pins s σ H (λc H1=>Q (!c) H1) I h)
def DJ (ta tb:TE):TE:=λσ H Q=>ta σ H λx H1=>∃c,x= .bl c/\if c=true then tb σ H1 Q else Q (.bl false) H1
def Gi (ta tb:TE):TE:=λσ H Q=>ta σ H λx H1=>∃c,x= .bl c/\if c=true then Q (.bl true) H1 else tb σ H1 Q
def Ct (ta:TE):TE:=λσ H Q=>ta σ H λx H1=>∃c,x= .bl c/\Q (.bl (!c)) H1
theorem Aa {op}{t:TE}(h:PE X a t):PE X (.BoolOp op [a] pos) t:=λpins s σ H Q I hw=>BoolOp_one (h pins s σ H Q I hw)
theorem Cb (ha:PE X a ta)(hb:PE X (.BoolOp .And (b::rest) pos) tb):PE X (.BoolOp .And (a::b::rest) pos) (DJ ta tb):=by
 intro pins s σ H Q I h
 refine BoolOp_and (aO (ha pins s σ H _ I h) λv s1 ⟨x,H1,I1,r1,q1⟩=>?_)
 obtain ⟨c,rfl,q1⟩:=q1
 cases r1
 refine wpAny_truthy_bool ?_
 cases c with
 | true=>exact hb pins s1 σ H1 Q I1 q1
 | false=>exact ⟨.bl false,H1,I1,rfl,q1⟩
theorem Eh (ha:PE X a ta)(hb:PE X (.BoolOp .Or (b::rest) pos) tb):PE X (.BoolOp .Or (a::b::rest) pos) (Gi ta tb):=by
 intro pins s σ H Q I h
 refine BoolOp_or (aO (ha pins s σ H _ I h) λv s1 ⟨x,H1,I1,r1,q1⟩=>?_)
 obtain ⟨c,rfl,q1⟩:=q1
 cases r1
 refine wpAny_truthy_bool ?_
 cases c with
 | false=>exact hb pins s1 σ H1 Q I1 q1
 | true=>exact ⟨.bl true,H1,I1,rfl,q1⟩
theorem Cf (ha:PE X a ta):PE X (.UnaryOp .Not a pos) (Ct ta):=by
 intro pins s σ H Q I h
 refine UnaryOp_ (aO (ha pins s σ H _ I h) λv s1 ⟨x,H1,I1,r1,q1⟩=>?_)
 obtain ⟨c,rfl,q1⟩:=q1
 cases r1
 exact not_of (wpAny_truthy_bool ⟨.bl (!c),H1,I1,rfl,q1⟩)
def tIf (t:TT)(ta tb:TE):TE:=λσ H Q=>t σ H λc H1=>if c=true then ta σ H1 Q else tb σ H1 Q
theorem vT {c:Expr}(hc:PT X c tA)(ha:PE X a ta)(hb:PE X b tb):PE X (.IfExp c a b pos) (tIf tA ta tb):=by
 intro pins s σ H Q I h
 refine wpAny_IfExp (aO (hc pins s σ H _ I h) λd s1 ⟨H1,I1,q1⟩=>?_)
 cases d with
 | true=>exact ha pins s1 σ H1 Q I1 q1
 | false=>exact hb pins s1 σ H1 Q I1 q1
end
def aL (K:PySem.W.Frag)(H:Hp)(a:Addr)(xs:List V):Prop:=
 Rd H a (.lst xs)∨
  ∃(o:Obj) (its:Array Value) (n:Nat),K.lookup a=some o/\o.cls= .type "list"/\o.dict=none/\o.data= .seq its n/\its.size<=sizeLine/\Vals xs its.toList
def dY (K:PySem.W.Frag)(H:Hp)(a:Addr)(xs:List V):Prop:=
 Rd H a (.tup xs)∨
  ∃(o:Obj) (its:Array Value) (n:Nat),K.lookup a=some o/\o.cls= .type "tuple"/\o.data= .seq its n/\its.size<=sizeLine/\Vals xs its.toList
def F8:Value->Option V
 | .none=>some .non
 | .bool b=>some (.bl b)
 | .int i _=>some (.int i)
 | .str x _=>some (.str x)
 | .bytes b _=>some (.byt b)
 | .float b _=>some (.flt b)
 | .ref a=>some (.ref a)
 | .type n=>some (.ty n)
 | _=>none
theorem RelV.abs {x:V}{u:Value}(r:RelV x u):F8 u=some x:=by
 cases x with
 | non=>cases r;rfl
 | bl _=>cases r;rfl
 | int _=>obtain ⟨t,rfl⟩:=r;rfl
 | str _=>obtain ⟨t,rfl⟩:=r;rfl
 | byt _=>obtain ⟨t,rfl⟩:=r;rfl
 | flt _=>obtain ⟨t,rfl⟩:=r;rfl
 | ref _=>cases r;rfl
 | ty _=>cases r;rfl
theorem RelV.inj {x y:V}{u:Value}(r:RelV x u)(q:RelV y u):x=y:=Option.some.inj (r.abs.symm.trans q.abs)
theorem Vals.inj:∀{xs ys:List V} {us:List Value},Vals xs us->Vals ys us->xs=ys
 | _,_,_,.nil,.nil=>rfl
 | _,_,_,.cons r t,.cons r' t'=>by rw [r.inj r',Vals.inj t t']
section
variable {X:Cx}{pins:List (Addr×Obj)}{σ:St}{H:Hp}{s:Shared}{a:Addr}{xs ys:List V}
theorem aL.of {K:PySem.W.Frag}(h:H a=some (.lst xs)):aL K H a xs:=.inl (.inl h)
theorem dY.of {K:PySem.W.Frag}(h:H a=some (.tup xs)):dY K H a xs:=.inl (.inl h)
theorem Inv.list (I:Inv X pins σ H s)(h:aL X.K H a xs):∃its:List Value,Vals xs its/\PlainL s.heap a its.toArray/\xs.length<=sizeLine:=by
 rcases h with h | ⟨o,its,n,hk,hc,hd,hs,hz,r⟩
 ·obtain ⟨z,its,n,r,e⟩:=h.ok I.hok
  exact ⟨its,r,⟨_,n,e,rfl,rfl,rfl⟩,z⟩
 ·refine ⟨its.toList,r,⟨o,n,I.eL a o hk,hc,hd,by simpa using hs⟩,?_⟩
  have e:=r.length
  simp only [Array.length_toList] at e
  omega
theorem Inv.tuple (I:Inv X pins σ H s)(h:dY X.K H a xs):∃its:List Value,Vals xs its/\IsTup s.heap a its.toArray/\xs.length<=sizeLine:=by
 rcases h with h | ⟨o,its,n,hk,hc,hs,hz,r⟩
 ·obtain ⟨z,its,r,p⟩:=h.ok I.hok
  exact ⟨its,r,p,z⟩
 ·refine ⟨its.toList,r,⟨o,I.eL a o hk,hc,n,by simpa using hs⟩,?_⟩
  have e:=r.length
  simp only [Array.length_toList] at e
  omega
theorem Inv.js (I:Inv X pins σ H s)(h:aL X.K H a xs)(h':aL X.K H a ys):xs=ys:=by
 obtain ⟨its,r,⟨o,n,e,_,_,d⟩,_⟩:=I.list h
 obtain ⟨its',r',⟨o',n',e',_,_,d'⟩,_⟩:=I.list h'
 rw [e] at e';cases e'
 rw [d] at d'
 injection d' with d1 _
 have:its=its':=by simpa using congrArg Array.toList d1
 subst this
 exact r.inj r'
theorem Inv.uE (I:Inv X pins σ H s)(h:dY X.K H a xs)(h':dY X.K H a ys):xs=ys:=by
 obtain ⟨its,r,⟨o,e,_,n,d⟩,_⟩:=I.tuple h
 obtain ⟨its',r',⟨o',e',_,n',d'⟩,_⟩:=I.tuple h'
 rw [e] at e';cases e'
 rw [d] at d'
 injection d' with d1 _
 have:its=its':=by simpa using congrArg Array.toList d1
 subst this
 exact r.inj r'
end
abbrev Cx.gF (X:Cx)(E:Value->Shared->Prop):Cx:={X with xe:=E}
abbrev Cx.c8 (X:Cx):Cx:=X.gF λ_ _=>False
theorem Cx.Ok.gF {X:Cx}(ok:X.Ok)(E:Value->Shared->Prop):(X.gF E).Ok:=
 ⟨ok.mod,ok.kind,ok.glob,ok.blt,ok.above,ok.inj,ok.has,ok.cab,ok.hd,ok.frames,ok.stk,ok.exf,ok.bs,ok.bsz,ok.noex,ok.exfs,ok.funs,ok.frf⟩
theorem Cx.Ok.e8 {X:Cx}{E:Value->Shared->Prop}(ok:(X.gF E).Ok):X.Ok:=
 ⟨ok.mod,ok.kind,ok.glob,ok.blt,ok.above,ok.inj,ok.has,ok.cab,ok.hd,ok.frames,ok.stk,ok.exf,ok.bs,ok.bsz,ok.noex,ok.exfs,ok.funs,ok.frf⟩
section
variable {X:Cx}{pins:List (Addr×Obj)}{σ:St}{H:Hp}{s:Shared}{E:Value->Shared->Prop}
theorem Inv.gF (I:Inv X pins σ H s)(E:Value->Shared->Prop):Inv (X.gF E) pins σ H s:=⟨I.ok.gF E,I.os,I.bare,I.base,I.loc,I.cell,I.free,I.freeC,I.pin,I.hok,I.len⟩
theorem Inv.e8 (I:Inv (X.gF E) pins σ H s):Inv X pins σ H s:=⟨I.ok.e8,I.os,I.bare,I.base,I.loc,I.cell,I.free,I.freeC,I.pin,I.hok,I.len⟩
theorem SP.e8 {D:Ends}{f:Flow}{s':Shared}(h:SP (X.gF E) pins D f s'):SP X pins D f s':=by
 cases f with
 | next=>obtain ⟨σ',H',I,q⟩:=h;exact ⟨σ',H',I.e8,q⟩
 | brk=>obtain ⟨σ',H',I,q⟩:=h;exact ⟨σ',H',I.e8,q⟩
 | cont=>obtain ⟨σ',H',I,q⟩:=h;exact ⟨σ',H',I.e8,q⟩
 | ret u=>obtain ⟨v,σ',H',I,r,q⟩:=h;exact ⟨v,σ',H',I.e8,r,q⟩
theorem gI.c8 {st:List Stmt}{t:TS}(h:gI X.c8 st t):gI X st t:=λpins s σ H D I hw=>
 wpAny_mono (h pins s σ H D (I.gF _) hw) (λ_ _ q=>q.e8) λ_ _ z=>False.elim z
end
section
variable {X:Cx}{st:Stmt}{rest:List Stmt}{t u:TS}{e:Expr}{te:TE}{pos:Pos}
def Dd:TS:=λD σ H=>D.nx σ H
def FX (t u:TS):TS:=λD σ H=>t {D with nx:=u D} σ H
theorem yP:gI X [] Dd:=λ_ _ σ H _ I h=>wpAny_execs_nil ⟨σ,H,I,h⟩
theorem wz (h1:PS X st t)(h2:gI X rest u):gI X (st::rest) (FX t u):=by
 intro pins s σ H D I h
 refine wpAny_execs_cons (aO (h1 pins s σ H {D with nx:=u D} I h) λf s1 q=>?_)
 cases f with
 | next=>
   obtain ⟨σ',H',I',q⟩:=q
   exact h2 pins s1 σ' H' D I' q
 | ret v=>exact q
 | brk=>exact q
 | cont=>exact q
theorem yW (h1:PS X st t):gI X [st] t:=by
 intro pins s σ H D I h
 refine wpAny_execs_cons (aO (h1 pins s σ H D I h) λf s1 q=>?_)
 cases f with
 | next=>exact wpAny_execs_nil q
 | ret v=>exact q
 | brk=>exact q
 | cont=>exact q
theorem Inv.quiet {pins:List (Addr×Obj)}{σ:St}{H:Hp}{s:Shared}(I:Inv X pins σ H s):interactive X.env=false:=by simp [interactive,I.ok.kind]
def Dy (te:TE):TS:=λD σ H=>te σ H λ_ H1=>D.nx σ H1
theorem d5 (he:PE X e te)(hs:autoParam (swapsWith e none pos.line X.env=pure false) Fc.ag):PS X (.Expr e pos) (Dy te):=by
 intro pins s σ H D I h
 exact wpAny_Expr_any (aO (he pins s σ H _ I h) λv s1 ⟨x,H1,I1,r1,q1⟩=>⟨σ,H1,I1,q1⟩) I.quiet hs
def FP (te:TE):TS:=λD σ H=>te σ H D.rt
theorem e7 (he:PE X e te):PS X (.Return (some e) pos) (FP te):=by
 intro pins s σ H D I h
 exact wpAny_Return_some (aO (he pins s σ H _ I h) λv s1 ⟨x,H1,I1,r1,q1⟩=>⟨x,σ,H1,I1,r1,q1⟩)
def FQ (c:TT)(t u:TS):TS:=λD σ H=>c σ H λb H1=>if b=true then t D σ H1 else u D σ H1
theorem Dx {c:Expr}{a b:List Stmt}{tc:TT}(hc:PT X c tc)(ha:gI X a t)(hb:gI X b u):PS X (.If c a b pos) (FQ tc t u):=by
 intro pins s σ H D I h
 refine wpAny_If (aO (hc pins s σ H _ I h) λd s1 ⟨H1,I1,q1⟩=>?_)
 cases d with
 | true=>exact ha pins s1 σ H1 D I1 q1
 | false=>exact hb pins s1 σ H1 D I1 q1
end
abbrev TG:=V->St->Hp->(St->Hp->Prop)->Prop
abbrev pM:=List V->St->Hp->(St->Hp->Prop)->Prop
def PG (X:Cx)(target:Expr)(t:TG):Prop:=
 ∀(pins:List (Addr×Obj)) (s:Shared) (σ:St) (H:Hp) (v:V) (u:Value) (Q:St->Hp->Prop),Inv X pins σ H s->RelV v u->t v σ H Q->
  wpAny (model X.prog X.w) X.A (assign target X.env u) (λ_ s'=>∃σ' H',Inv X pins σ' H' s'/\Q σ' H') X.xe s
def yn (X:Cx)(ts:List Expr)(t:pM):Prop:=
 ∀(pins:List (Addr×Obj)) (s:Shared) (σ:St) (H:Hp) (vs:List V) (us:List Value) (Q:St->Hp->Prop),Inv X pins σ H s->Vals vs us->t vs σ H Q->
  wpAny (model X.prog X.w) X.A (assignInOrder ((assignEach ts X.env).map (·.2)) us) (λ_ s'=>∃σ' H',Inv X pins σ' H' s'/\Q σ' H') X.xe s
abbrev qq:=V->V->V->Hp->(Hp->Prop)->Prop
def wF (X:Cx)(t:qq):Prop:=
 ∀(pins:List (Addr×Obj)) (s:Shared) (σ:St) (H:Hp) (o i v:V) (ov iv u:Value) (Q:Hp->Prop),Inv X pins σ H s->RelV o ov->RelV i iv->RelV v u->t o i v H Q->
  wpAny (model X.prog X.w) X.A (setItem ov iv u) (λ_ s'=>∃H',Inv X pins σ H' s'/\Q H') X.xe s
abbrev x8:=V->V->Hp->VK->Prop
def Fv (X:Cx)(op:Operator)(t:x8):Prop:=
 ∀(pins:List (Addr×Obj)) (s:Shared) (σ:St) (H:Hp) (x y:V) (v u:Value) (Q:VK),Inv X pins σ H s->RelV x v->RelV y u->t x y H Q->
  wpAny (model X.prog X.w) X.A (inplaceOp op v u) (EP X pins σ Q) X.xe s
section
variable {X:Cx}{pos:Pos}
variable {e:Expr}{te:TE}
def sj (i:Nat):TG:=λv σ H Q=>Q (σ.set i (some v)) H
theorem m3 {i:Nat}{x:Str}(hN:X.N.Nodup)(hi:X.N[i]?=some x)(hx:Loc X.env.scope x)(hf:X.fn x=true∨X.env.scope.names.lookup x=some .local:=by first | exact .inl rfl | exact .inr rfl | assumption):PG X (.Name x pos) (sj i):=by
 intro pins s σ H v u Q I r h
 exact wpAny_assign_Name (lr I hN hi hx r (λs' I'=>⟨_,H,I',h⟩) hf)
def F0:pM:=λvs σ H Q=>vs=[]/\Q σ H
def DQ (t:TG)(u:pM):pM:=λvs σ H Q=>∃v r,vs=v::r/\t v σ H λσ' H'=>u r σ' H' Q
theorem zB:yn X [] F0:=by
 intro pins s σ H vs us Q I r h
 obtain ⟨e,h⟩:=h
 subst e
 cases r
 exact assignInOrder_nil ⟨σ,H,I,h⟩
theorem pf {es:List Expr}{t:TG}{u:pM}(h1:PG X e t)(h2:yn X es u)
 (hs:autoParam ((assignEach (e::es) X.env).map (·.2)=assign e X.env::(assignEach es X.env).map (·.2)) Fc.ag):yn X (e::es) (DQ t u):=by
 intro pins s σ H vs us Q I r h
 obtain ⟨v,vr,e1,h⟩:=h
 subst e1
 cases r with
 | cons r rr=>
   rw [hs]
   refine assignInOrder_cons (aO (h1 pins s σ H _ _ _ I r h) λ_ s1 ⟨σ1,H1,I1,q1⟩=>?_)
   exact h2 pins s1 σ1 H1 _ _ Q I1 rr q1
def F3 (K:PySem.W.Frag)(n:Nat)(t:pM):TG:=λv σ H Q=>∃a xs,v= .ref a/\dY K H a xs/\xs.length=n/\t xs σ H Q
theorem A9 {es:List Expr}{k:Nat}{t:pM}{n:Nat}(hc:X.calm=true)(h:yn X es t)
 (hn:autoParam ((assignEach es X.env).length=n) Fc.ag) (hst:autoParam ((assignEach es X.env).findIdx? (·.1)=none) Fc.ag):PG X (.Tuple es k pos) (F3 X.K n t):=by
 intro pins s σ H v u Q I r hw
 obtain ⟨a,xs,e1,hq,hl,hw⟩:=hw
 subst e1
 cases r
 obtain ⟨its,rv,ht,hz⟩:=I.tuple hq
 refine assign_Tuple_tuple (I.ok.hd hc) ht (by simp [hn,← hl,rv.length]) hst λh' hx=>?_
 have I1:Inv X pins σ H {s with heap:=h'}:=I.kept (t':=s.toks) λb o e=>hx b o (Nat.ne_of_lt (Heap.lt_size e)) e
 exact h pins _ σ H xs _ Q I1 (by simpa using rv) hw
def Gh (to ti:TE)(t:qq):TG:=λv σ H Q=>to σ H λo H1=>ti σ H1 λi H2=>t o i v H2 λH3=>Q σ H3
theorem pF {o i:Expr}{to ti:TE}{t:qq}(ho:PE X o to)(hi:PE X i ti)(hs:wF X t)
 (ha:autoParam (∀v,assign (.Subscript o i pos) X.env v=(do
  let ov ← holding [v] (eval o X.env)
  let iv ← holding [v,ov] (eval i X.env)
  standAt pos
  holding [v,ov,iv] (setItem ov iv v)
  release [v,ov,iv] [])) Fc.c9):PG X (.Subscript o i pos) (Gh to ti t):=by
 intro pins s σ H v u Q I r h
 rw [ha]
 refine wpAny_bind (wpAny_holding (aO (ho pins s σ H _ I h) λov s1 ⟨x,H1,I1,r1,q1⟩=>?_))
 refine wpAny_bind (wpAny_holding (aO (hi pins s1 σ H1 _ I1 q1) λiv s2 ⟨y,H2,I2,r2,q2⟩=>?_))
 refine wpAny_bind (wpAny_standAt (wpAny_bind (wpAny_holding (aO (hs pins s2 σ H2 x y v ov iv u _ I2 r1 r2 r q2) λ_ s3 ⟨H3,I3,q3⟩=>?_))))
 exact wpAny_release ⟨σ,H3,I3,q3⟩
def wa (te:TE)(g:TG):TS:=λD σ H=>te σ H λx H1=>g x σ H1 D.nx
theorem jM {tg:Expr}{g:TG}(he:PE X e te)(hg:PG X tg g)(hs:autoParam (swapsWithSole [tg] e pos.line X.env=pure false) Fc.ag)(hw:autoParam (swappedStores [tg] e X.env=pure none) Fc.ag)
 (h1:autoParam ((assignEach [tg] X.env).map (·.2)=[assign tg X.env]) Fc.ag):PS X (.Assign [tg] e pos) (wa te g):=by
 intro pins s σ H D I h
 refine wpAny_Assign_stores (aO (he pins s σ H _ I h) λv s1 ⟨x,H1,I1,r1,q1⟩=>?_) hs hw
 rw [h1]
 exact aO (hg pins s1 σ H1 x v _ I1 r1 q1) λ_ s2 q=>q
theorem eY {i:Nat}{x:Str}{pos':Pos}(hN:X.N.Nodup)(hi:X.N[i]?=some x)(hx:Loc X.env.scope x)(he:PE X e te)(hs:autoParam (swapsWith e (some (.Name x pos')) pos.line X.env=pure false) Fc.ag)(hf:X.fn x=true∨X.env.scope.names.lookup x=some .local:=by first | exact .inl rfl | exact .inr rfl | assumption):
 PS X (.Assign [.Name x pos'] e pos) (wa te (sj i)):=by
 intro pins s σ H D I h
 refine wpAny_Assign_Name (aO (he pins s σ H _ I h) λv s1 ⟨y,H1,I1,r1,q1⟩=>?_) hs
 exact lr I1 hN hi hx r1 (λs2 I2=>⟨_,H1,I2,q1⟩) hf
def DY (to ti te:TE)(tget:V->V->Hp->VK->Prop)(tip:x8)(tset:qq):TS:=λD σ H=>to σ H λo H1=>ti σ H1 λi H2=>tget o i H2 λx H3=>te σ H3 λy H4=>tip x y H4 λz H5=>tset o i z H5 λH6=>D.nx σ H6
def AB (X:Cx)(t:V->V->Hp->VK->Prop):Prop:=
 ∀(pins:List (Addr×Obj)) (s:Shared) (σ:St) (H:Hp) (o i:V) (ov iv:Value) (Q:VK),Inv X pins σ H s->RelV o ov->RelV i iv->t o i H Q->
  wpAny (model X.prog X.w) X.A (getItem ov iv) (EP X pins σ Q) X.xe s
theorem yI {o i:Expr}{to ti:TE}{tget:V->V->Hp->VK->Prop}{tip:x8}{tset:qq}{op:Operator}{tpos:Pos}(ho:PE X o to)(hi:PE X i ti)(hg:AB X tget)(he:PE X e te)(hp:Fv X op tip)(hs:wF X tset)
 (ha:autoParam (∀ov iv new,augStore i ov iv new=(do holding [new,ov,iv] (setItem ov iv new);release [new,ov,iv] [];pure .next)) Fc.ET):PS X (.AugAssign (.Subscript o i tpos) op e pos) (DY to ti te tget tip tset):=by
 intro pins s σ H D I h
 refine wpAny_AugAssign_SubscriptAny (aO (ho pins s σ H _ I h) λov s1 ⟨x1,H1,I1,r1,q1⟩=>?_) ha
 refine aO (hi pins s1 σ H1 _ I1 q1) λiv s2 ⟨x2,H2,I2,r2,q2⟩=>?_
 refine aO (hg pins s2 σ H2 x1 x2 ov iv _ I2 r1 r2 q2) λold s3 ⟨x3,H3,I3,r3,q3⟩=>?_
 refine aO (he pins s3 σ H3 _ I3 q3) λv s4 ⟨x4,H4,I4,r4,q4⟩=>?_
 refine aO (hp pins s4 σ H4 x3 x4 old v _ I4 r3 r4 q4) λnew s5 ⟨x5,H5,I5,r5,q5⟩=>?_
 exact aO (hs pins s5 σ H5 x1 x2 x5 ov iv new _ I5 r1 r2 r5 q5) λ_ s6 ⟨H6,I6,q6⟩=>⟨σ,H6,I6,q6⟩
def ipI (f:Int->Int->Int):x8:=λx y H Q=>∃i j,x= .int i/\y= .int j/\Q (.int (f i j)) H
theorem zT:Fv X .Sub (ipI λi j=>i - j):=by
 intro pins s σ H x y v u Q I r1 r2 h
 obtain ⟨i,j,e1,e2,q⟩:=h
 subst e1;subst e2
 obtain ⟨t,rfl⟩:=r1
 obtain ⟨t',rfl⟩:=r2
 exact isub_int ⟨.int _,H,I.tok _,⟨_,rfl⟩,q⟩
end
section
variable {X:Cx}{pos:Pos}
def z6 (c:TT)(tb:TS):TS:=λD σ H=>∃W:Nat->St->Hp->Prop,(∃m,W m σ H)/\∀m σ H,W m σ H->
 c σ H λb H1=>if b=true then∃N:St->Hp->Prop,(∀σ' H',N σ' H'->∃m',m' < m/\W m' σ' H')/\tb {D with nx:=N,ct:=N,bk:=D.nx} σ H1 else D.nx σ H1
theorem xb {c:Expr}{body:List Stmt}{tc:TT}{tb:TS}(hp:PassesOwn (model X.prog X.w) X.A X.env X.xe)(hc:PT X c tc)(hb:gI X body tb):PS X (.While c body [] pos) (z6 tc tb):=by
 intro pins s σ H D I h
 obtain ⟨W,⟨m0,w0⟩,turn⟩:=h
 refine wpAny_While (codeAny_whileLoop (λn s'=>∃σ' H',Inv X pins σ' H' s'/\W n σ' H') ?_ m0 ⟨σ,H,I,w0⟩)
 rintro n s1 ⟨σ1,H1,I1,w1⟩
 refine wpAny_passesOwn hp (aO (hc pins s1 σ1 H1 _ I1 (turn n σ1 H1 w1)) λb s2 ⟨H2,I2,q2⟩=>?_)
 cases b with
 | true=>
   obtain ⟨N,hN,q2⟩:=q2
   rw [if_pos rfl]
   refine wpAny_passesOwn hp (aO (hb pins s2 σ1 H2 _ I2 q2) λf s3 q3=>?_)
   cases f with
   | next=>
     obtain ⟨σ3,H3,I3,n3⟩:=q3
     obtain ⟨m',hm,w3⟩:=hN σ3 H3 n3
     exact ⟨m',hm,σ3,H3,I3,w3⟩
   | cont=>
     obtain ⟨σ3,H3,I3,n3⟩:=q3
     obtain ⟨m',hm,w3⟩:=hN σ3 H3 n3
     exact ⟨m',hm,σ3,H3,I3,w3⟩
   | brk=>exact q3
   | ret v=>exact q3
 | false=>
   rw [if_neg Bool.false_ne_true]
   exact wpAny_execs_nil ⟨σ1,H2,I2,q2⟩
end
section
variable {tg:Expr}{P:Program}{w:World}{K:PySem.W.Frag}
structure It where
 go:Nat->Hp->Prop
 yld:Nat->Hp->V->Hp->Prop
 stop:Nat->Hp->Prop
def iH (X:Cx)(pins:List (Addr×Obj))(H:Hp)(b:Addr):Prop:=
 H b=none/\b≠X.env.locals/\b∉X.fs/\(b∈X.ex∨X.s₀.heap.objs.size<=b)/\(∀x c,X.env.cells.lookup x=some c->c≠b)/\∀p∈X.pn++pins,p.1≠b
theorem Inv.j5 {X:Cx}{pins:List (Addr×Obj)}{σ:St}{H H':Hp}{s:Shared}{b:Addr}(I:Inv X pins σ H s)(hb:s.heap.objs.size<=b)(hn:H' b=none):iH X pins H' b:=by
 refine ⟨hn,Nat.ne_of_gt (Nat.lt_of_lt_of_le I.lt hb),I.F6 hb,.inr (Nat.le_trans I.sz hb),λx c e z=>?_,λp hp z=>?_⟩
 ·obtain ⟨v,q⟩:=I.cell x c e
  exact absurd (Nat.lt_of_lt_of_le q.lt (by rw [z];exact hb)) (Nat.lt_irrefl _)
 ·exact absurd (Nat.lt_of_lt_of_le (Heap.lt_size (I.pin p hp).1) (by rw [z];exact hb)) (Nat.lt_irrefl _)
structure Turn (P:Program) (w:World) (K:PySem.W.Frag) (tg:Expr) (J:It) (fp:List Addr) (it:Addr) (tn:Nat->Heap->Prop):Prop where
 mem:it∈fp
 obj:∀i h,tn i h->∀b∈fp,∃o,h.get? b=some o/\∀v,o.data≠ .cell v
 keep:∀i h h',tn i h->(∀b∈fp,∀o,h.get? b=some o->h'.get? b=some o)->tn i h'
 item:∀(X:Cx),X.prog=P->X.w=w->X.K=K->X.calm=true->∀(i:Nat) (pins:List (Addr×Obj)) (s:Shared) (σ:St) (H:Hp) (E:Value->Shared->Prop),Inv X pins σ H s->(∀b∈fp,iH X pins H b)->tn i s.heap->J.go i H->
  wpAny (model P w) X.A (pyNext (.ref it)) (λr s1=>∃u,r=some u/\
   wpAny (model P w) X.A (letOwnedTupleGo tg (.ref it) u) (λ_ s2=>∃x H',Inv X pins σ H' s2/\RelV x u/\J.yld i H x H'/\tn (i + 1) s2.heap/\∀b∈fp,H' b=none) E s1) E s
 done:∀(X:Cx),X.prog=P->X.w=w->X.K=K->X.calm=true->∀(i:Nat) (pins:List (Addr×Obj)) (s:Shared) (σ:St) (H:Hp) (E:Value->Shared->Prop),Inv X pins σ H s->(∀b∈fp,iH X pins H b)->tn i s.heap->J.stop i H->
  wpAny (model P w) X.A (pyNext (.ref it)) (λr s1=>r=none/\Inv X pins σ H s1) E s
 self:∀(A:Around) (i:Nat) (s:Shared) (Q:Value->Shared->Prop) (E:Value->Shared->Prop),tn i s.heap->Q (.ref it) s->wpAny (model P w) A (pyIter (.ref it)) Q E s
abbrev TI:=St->Hp->(It->Hp->Prop)->Prop
def ES (X:Cx)(pins:List (Addr×Obj))(σ:St)(tg:Expr)(R:It->Hp->Prop)(itv:Value)(s2:Shared):Prop:=
 ∃(it:Addr) (fp:List Addr) (tn:Nat->Heap->Prop) (J:It) (H':Hp),itv= .ref it/\Inv X pins σ H' s2/\Turn X.prog X.w X.K tg J fp it tn/\tn 0 s2.heap/\(∀b∈fp,iH X pins H' b)/\R J H'
def PI (X:Cx)(tg iter:Expr)(wi:TI):Prop:=
 ∀(pins:List (Addr×Obj)) (s:Shared) (σ:St) (H:Hp) (R:It->Hp->Prop),Inv X pins σ H s->wi σ H R->
  wpAny (model X.prog X.w) X.A (eval iter X.env) (λv s1=>wpAny (model X.prog X.w) X.A (pyIter v) (ES X pins σ tg R) X.xe s1) X.xe s
theorem sF {M:Model}{A:Around}{E:Value->Shared->Prop}{s:Shared}{it:Addr}{u:Value}{o:Obj}{n:String}{vs:Array Value}{Q:Unit->Shared->Prop}(ho:s.heap.get? it=some o)(hc:o.cls= .type n)(hd:o.data= .fields vs)
 (hn:["enumerate","zip","dict_itemiterator","dict_reverseitemiterator","odict_iterator","itertools.zip_longest","itertools.pairwise"].contains n=false) (hQ:Q () s):wpAny M A (letOwnedTupleGo tg (.ref it) u) Q E s:=by
 unfold letOwnedTupleGo
 cases tg<;>first
  | exact wpAny_pure hQ
  | (cases u<;>first
   | exact wpAny_pure hQ
   | (refine wpAny_bind (wpAny_load ho ?_)
      rw [hc,hd]
      show wpAny M A (if (["enumerate","zip","dict_itemiterator","dict_reverseitemiterator","odict_iterator","itertools.zip_longest","itertools.pairwise"].contains n&&vs[0]?==some (rawInt _))=true then _ else _) Q E s
      rw [if_neg (by intro h;rw [hn,Bool.false_and] at h;cases h)]
      exact wpAny_pure hQ))
def EJ (K:PySem.W.Frag)(a:Addr):It:=
 ⟨λi H=>∃xs x,aL K H a xs/\xs[i]?=some x,λi H x H'=>H'=H/\∀xs,aL K H a xs->xs[i]?=some x,λi H=>∃xs,aL K H a xs/\xs.length<=i⟩
def Fo (K:PySem.W.Frag)(a:Addr):It:=
 ⟨λi H=>∃xs x,dY K H a xs/\xs[i]?=some x,λi H x H'=>H'=H/\∀xs,dY K H a xs->xs[i]?=some x,λi H=>∃xs,dY K H a xs/\xs.length<=i⟩
def uL (lo:Int)(n:Nat):It:=⟨λi _=>i < n,λi H x H'=>H'=H/\x= .int (lo + i),λi _=>n<=i⟩
theorem vz (a it:Addr):Turn P w K tg (EJ K a) [it] it (λi h=>h.IsListIter it a i) where
 mem:=by simp
 obj:=λi h st b hb=>by
  have e:b=it:=by simpa using hb
  subst e
  obtain ⟨o,e,c,d⟩:=st
  exact ⟨o,e,λv z=>by rw [d] at z;cases z⟩
 keep:=λi h h' st k=>st.at λo e=>k it (by simp) o e
 item:=by
  intro X hP hw hK hc i pins s σ H E I hf st hg
  subst hP hw hK
  obtain ⟨xs,x,hq,hx⟩:=hg
  obtain ⟨its,rv,p,hz⟩:=I.list hq
  obtain ⟨u,hu,ru⟩:=rv.get hx
  obtain ⟨f0,f1,f2,f3,f4,f5⟩:=hf it (by simp)
  refine wpAny_pyNext_list_item st p.isList (x:=u) (by simpa using hu) λh' st' sb=>?_
  have I1:Inv X pins σ H {s with heap:=h'}:=I.turned (t':=s.toks) (λb o hb e=>(sb.2 b hb).trans e) f0 f1 f3 f4 f5
  obtain ⟨o,e,c,d⟩:=id st'
  exact ⟨u,rfl,sF (s:={s with heap:=h'}) e c d (by decide) ⟨x,H,I1,ru,⟨rfl,λys hy=>by rw [I.js hy hq];exact hx⟩,st',λb hb=>(hf b hb).1⟩⟩
 done:=by
  intro X hP hw hK hc i pins s σ H E I hf st hg
  subst hP hw hK
  obtain ⟨xs,hq,hx⟩:=hg
  obtain ⟨its,rv,p,hz⟩:=I.list hq
  obtain ⟨f0,f1,f2,f3,f4,f5⟩:=hf it (by simp)
  have hl:=rv.length
  exact wpAny_pyNext_list_end (I.ok.hd hc) st p.isList (by simp;omega) λh' eb=>⟨rfl,I.turned (t':=s.toks) (λb o hb e=>eb b o hb e) f0 f1 f3 f4 f5⟩
 self:=λ_ _ _ _ _ st h=>wpAny_pyIter_listiter st h
theorem sO (a it:Addr):Turn P w K tg (Fo K a) [it] it (λi h=>h.IsTupleIter it a i) where
 mem:=by simp
 obj:=λi h st b hb=>by
  have e:b=it:=by simpa using hb
  subst e
  obtain ⟨o,e,c,d⟩:=st
  exact ⟨o,e,λv z=>by rw [d] at z;cases z⟩
 keep:=λi h h' st k=>st.at λo e=>k it (by simp) o e
 item:=by
  intro X hP hw hK hc i pins s σ H E I hf st hg
  subst hP hw hK
  obtain ⟨xs,x,hq,hx⟩:=hg
  obtain ⟨its,rv,p,hz⟩:=I.tuple hq
  obtain ⟨u,hu,ru⟩:=rv.get hx
  obtain ⟨f0,f1,f2,f3,f4,f5⟩:=hf it (by simp)
  refine wpAny_pyNext_tuple_item st (show s.heap.IsTuple a its.toArray from p) (x:=u) (by simpa using hu) λh' st' sb=>?_
  have I1:Inv X pins σ H {s with heap:=h'}:=I.turned (t':=s.toks) (λb o hb e=>(sb.2 b hb).trans e) f0 f1 f3 f4 f5
  obtain ⟨o,e,c,d⟩:=id st'
  exact ⟨u,rfl,sF (s:={s with heap:=h'}) e c d (by decide) ⟨x,H,I1,ru,⟨rfl,λys hy=>by rw [I.uE hy hq];exact hx⟩,st',λb hb=>(hf b hb).1⟩⟩
 done:=by
  intro X hP hw hK hc i pins s σ H E I hf st hg
  subst hP hw hK
  obtain ⟨xs,hq,hx⟩:=hg
  obtain ⟨its,rv,p,hz⟩:=I.tuple hq
  obtain ⟨f0,f1,f2,f3,f4,f5⟩:=hf it (by simp)
  have hl:=rv.length
  exact wpAny_pyNext_tuple_end (I.ok.hd hc) st (show s.heap.IsTuple a its.toArray from p) (by simp;omega) λh' eb=>⟨rfl,I.turned (t':=s.toks) (λb o hb e=>eb b o hb e) f0 f1 f3 f4 f5⟩
 self:=λ_ _ _ _ _ st h=>wpAny_pyIter_tupleiter st h
theorem sg (it:Addr)(lo:Int)(n:Nat):Turn P w K tg (uL lo n) [it] it (λi h=>IsRangeIter h it (lo + (i:Nat) * 1) ((n:Int) - (i:Nat)) 1) where
 mem:=by simp
 obj:=λi h st b hb=>by
  have e:b=it:=by simpa using hb
  subst e
  exact ⟨_,st,λv z=>by
   have z':Data.fields _=Data.cell v:=z
   cases z'⟩
 keep:=λi h h' st k=>k it (by simp) _ st
 item:=by
  intro X hP hw hK hc i pins s σ H E I hf st hg
  subst hP hw hK
  obtain ⟨f0,f1,f2,f3,f4,f5⟩:=hf it (by simp)
  have W:=Walks.range (prog:=X.prog) (w:=X.w) (I.ok.hd hc) it lo 1 n
  refine W.item i s _ _ hg st λv h' tk hv st' kk=>?_
  obtain ⟨t,rfl⟩:=hv
  have I1:Inv X pins σ H {s with heap:=h',toks:=tk}:=I.turned (λb o hb e=>kk b o (by simpa using hb) e) f0 f1 f3 f4 f5
  refine ⟨_,rfl,sF (s:={s with heap:=h',toks:=tk}) (n:="range_iterator") st' rfl rfl (by decide) ⟨.int (lo + i),H,I1,⟨t,?_⟩,⟨rfl,rfl⟩,st',λb hb=>(hf b hb).1⟩⟩
  rw [Int.mul_one]
 done:=by
  intro X hP hw hK hc i pins s σ H E I hf st hg
  subst hP hw hK
  obtain ⟨f0,f1,f2,f3,f4,f5⟩:=hf it (by simp)
  exact wpAny_pyNext_range_end (I.ok.hd hc) st (by have:n<=i:=hg;omega) λh' eb=>⟨rfl,I.turned (t':=s.toks) (λb o hb e=>eb b o hb e) f0 f1 f3 f4 f5⟩
 self:=λ_ _ _ _ _ st h=>wpAny_pyIter_rangeiter st h
end
section
variable {X:Cx}{tg:Expr}
variable {pins:List (Addr×Obj)}{σ:St}{H:Hp}{s:Shared}{pos:Pos}
def Dp (K:PySem.W.Frag)(tl:TE):TI:=λσ H R=>tl σ H λx H1=>∃a,x= .ref a/\(∃xs,aL K H1 a xs)/\R (EJ K a) H1
def Gj (K:PySem.W.Frag)(tl:TE):TI:=λσ H R=>tl σ H λx H1=>∃a,x= .ref a/\(∃xs,dY K H1 a xs)/\R (Fo K a) H1
theorem kH {l:Expr}{tl:TE}(hl:PE X l tl):PI X tg l (Dp X.K tl):=by
 intro pins s σ H R I h
 refine aO (hl pins s σ H _ I h) λv s1 ⟨x,H1,I1,r1,q1⟩=>?_
 obtain ⟨a,e,⟨xs,hq⟩,q⟩:=q1
 subst e
 cases r1
 obtain ⟨its,rv,p,hz⟩:=I1.list hq
 refine wpAny_pyIter_list p.isList ?_
 refine ⟨s1.heap.objs.size,[s1.heap.objs.size],_,_,H1,rfl,I1.kept (t':=s1.toks) λb o e=>Heap.get?_push_of_some _ e,vz a _,⟨_,Heap.get?_push_size _ rfl,rfl,rfl⟩,λb hb=>?_,q⟩
 have e:b=s1.heap.objs.size:=by simpa using hb
 subst e
 exact I1.j5 (Nat.le_refl _) (I1.hok.fresh (Nat.le_refl _))
theorem Bw {l:Expr}{tl:TE}(hl:PE X l tl):PI X tg l (Gj X.K tl):=by
 intro pins s σ H R I h
 refine aO (hl pins s σ H _ I h) λv s1 ⟨x,H1,I1,r1,q1⟩=>?_
 obtain ⟨a,e,⟨xs,hq⟩,q⟩:=q1
 subst e
 cases r1
 obtain ⟨its,rv,p,hz⟩:=I1.tuple hq
 refine wpAny_pyIter_tuple (show s1.heap.IsTuple a its.toArray from p) ?_
 refine ⟨s1.heap.objs.size,[s1.heap.objs.size],_,_,H1,rfl,I1.kept (t':=s1.toks) λb o e=>Heap.get?_push_of_some _ e,sO a _,⟨_,Heap.get?_push_size _ rfl,rfl,rfl⟩,λb hb=>?_,q⟩
 have e:b=s1.heap.objs.size:=by simpa using hb
 subst e
 exact I1.j5 (Nat.le_refl _) (I1.hok.fresh (Nat.le_refl _))
theorem qx {R:It->Hp->Prop}{E:Value->Shared->Prop}{lo hi:Int}{t u v:Tok}{tk:Nat}(I:Inv X pins σ H s)(h1: -(2 ^ 62)<=lo)(h2:lo < 2 ^ 62)(h3: -(2 ^ 62)<=hi)(h4:hi < 2 ^ 62)
 (q:R (uL lo (hi - lo).toNat) H):wpAny (model X.prog X.w) X.A (pyIter (.ref s.heap.objs.size)) (ES X pins σ tg R) E {s with heap:=s.heap.push {cls:=.type "range",data:=.fields #[.int lo t,.int hi u,.int 1 v]},toks:=tk}:=by
 refine wpAny_pyIter_range (IsRange.new ..) (small_one h1 h2 h3 h4) ?_
 have I1:Inv X pins σ H {s with heap:=s.heap.push {cls:=.type "range",data:=.fields #[.int lo t,.int hi u,.int 1 v]},toks:=tk}:=I.kept λb o e=>Heap.get?_push_of_some _ e
 refine ⟨(s.heap.push {cls:=.type "range",data:=.fields #[.int lo t,.int hi u,.int 1 v]}).objs.size,[(s.heap.push {cls:=.type "range",data:=.fields #[.int lo t,.int hi u,.int 1 v]}).objs.size],_,_,H,rfl,
  I1.kept (t':=tk) λb o e=>Heap.get?_push_of_some _ e,sg _ lo (hi - lo).toNat,?_,λb hb=>?_,q⟩
 ·have e1:lo + ((0:Nat):Int) * 1=lo:=by simp
  have e2:(((hi - lo).toNat:Nat):Int) - ((0:Nat):Int)=Builtin.Range.rangeSize lo hi 1:=by rw [rangeSize_one];split<;>omega
  show IsRangeIter _ _ (lo + ((0:Nat):Int) * 1) ((((hi - lo).toNat:Nat):Int) - ((0:Nat):Int)) 1
  rw [e1,e2]
  exact Heap.get?_push_size _ rfl
 ·have e:b=(s.heap.push {cls:=.type "range",data:=.fields #[.int lo t,.int hi u,.int 1 v]}).objs.size:=by simpa using hb
  subst e
  exact I1.j5 (Nat.le_refl _) (I1.hok.fresh (Nat.le_refl _))
def DE (ta:TA):TI:=λσ H R=>ta σ H λvs H1=>∃j:Int,vs=[.int j]/\ -(2 ^ 62)<=j/\j < 2 ^ 62/\R (uL 0 j.toNat) H1
def D2 (ta:TA):TI:=λσ H R=>ta σ H λvs H1=>∃i j:Int,vs=[.int i,.int j]/\(-(2 ^ 62)<=i/\i < 2 ^ 62/\ -(2 ^ 62)<=j/\j < 2 ^ 62)/\R (uL i (j - i).toNat) H1
theorem ud {a:Expr}{ta:TA}{p:Pos}(hg:Gl X "range")(hm:X.mg "range"=none)(ha:PA X [a] ta)(hs:autoParam (starEach [a] X.env=[(false,eval a X.env)]) Fc.ag):PI X tg (.Call (.Name "range" p) [a] [] pos) (DE ta):=by
 intro pins s σ H R I h
 refine Call_ (fN I hg hm boot_range (PyProof.Rows.callWith_type1 (aO (ha pos pins s σ H _ I h) λus s1 ⟨vs,H1,I1,r1,q1⟩=>?_) hs rfl))
 obtain ⟨j,e,q1,q2,q⟩:=q1
 subst e
 cases r1 with
 | cons r rr=>
   cases rr
   obtain ⟨t,rfl⟩:=r
   exact call_range_1 (qx I1 (by omega) (by omega) q1 q2 (by simpa using q))
theorem vg {a b:Expr}{ta:TA}{p:Pos}(hg:Gl X "range")(hm:X.mg "range"=none)(ha:PA X [a,b] ta)(hs:autoParam (starEach [a,b] X.env=[(false,eval a X.env),(false,eval b X.env)]) Fc.ag)(hs2:autoParam (starEach [b] X.env=[(false,eval b X.env)]) Fc.ag):
 PI X tg (.Call (.Name "range" p) [a,b] [] pos) (D2 ta):=by
 intro pins s σ H R I h
 refine Call_ (fN I hg hm boot_range (PyProof.Rows.callWith_type1 (aO (ha pos pins s σ H _ I h) λus s1 ⟨vs,H1,I1,r1,q1⟩=>?_) (by rw [hs,hs2]) (by rw [hs2];rfl)))
 obtain ⟨i,j,e,⟨q1,q2,q3,q4⟩,q⟩:=q1
 subst e
 cases r1 with
 | cons r rr=>
   cases rr with
   | cons r' rr=>
     cases rr
     obtain ⟨t,rfl⟩:=r
     obtain ⟨t',rfl⟩:=r'
     exact call_range_2 (qx I1 q1 q2 q3 q4 q)
def F5 (wi:TI)(g:TG)(tb:TS):TS:=λD σ H=>wi σ H λJ H1=>∃W:Nat->Nat->St->Hp->Prop,(∃m,W 0 m σ H1)/\∀i m σ H,W i m σ H->
 (J.stop i H/\D.nx σ H)∨(J.go i H/\∃N:St->Hp->Prop,(∀σ' H',N σ' H'->∃m',m' < m/\W (i + 1) m' σ' H')/\∀x H',J.yld i H x H'->g x σ H' λσ2 H2=>tb {D with nx:=N,ct:=N,bk:=D.nx} σ2 H2)
def iU (fp:List Addr)(h:Heap):List (Addr×Obj):=fp.filterMap λb=>(h.get? b).map λo=>(b,o)
theorem gJ {fp:List Addr}{h:Heap}{b:Addr}{o:Obj}(hb:b∈fp)(e:h.get? b=some o):(b,o)∈iU fp h:=List.mem_filterMap.mpr ⟨b,hb,by rw [e];rfl⟩
theorem uV {fp:List Addr}{h:Heap}{p:Addr×Obj}(hp:p∈iU fp h):p.1∈fp/\h.get? p.1=some p.2:=by
 obtain ⟨b,hb,e⟩:=List.mem_filterMap.mp hp
 cases q:h.get? b with
 | none=>rw [q] at e;cases e
 | some o=>
   rw [q] at e
   have e':(b,o)=p:=Option.some.inj e
   subst e'
   exact ⟨hb,q⟩
theorem Inv.pinned {fp:List Addr}(I:Inv X pins σ H s)(hf:∀b∈fp,iH X pins H b)(ho:∀b∈fp,∃o,s.heap.get? b=some o/\∀v,o.data≠ .cell v):Inv X (pins++iU fp s.heap) σ H s:=
 I.gR λp hp=>(List.mem_append.mp hp).elim (λz=>I.pin p (List.mem_append_right _ z)) λz=>by
   obtain ⟨hb,e⟩:=uV z
   obtain ⟨f0,f1,f2,_⟩:=hf p.1 hb
   obtain ⟨o,e',d⟩:=ho p.1 hb
   rw [e] at e';cases e'
   exact ⟨e,f0,f1,f2,d⟩
theorem Inv.eC {pl:List (Addr×Obj)}(I:Inv X (pins++pl) σ H s):Inv X pins σ H s:=I.gR λp hp=>I.pin p (List.mem_append_right _ (List.mem_append_left _ hp))
theorem mQ {iter:Expr}{body:List Stmt}{wi:TI}{g:TG}{tb:TS}(hp:PassesOwn (model X.prog X.w) X.A X.env X.xe)(hc:X.calm=true)(hi:PI X tg iter wi)(hg:PG X tg g)(hb:gI X body tb)
 (hs:autoParam (∀x,foldedSetIterable iter X.env x=pure x) Fc.c9):PS X (.For tg iter body [] pos) (F5 wi g tb):=by
 intro pins s σ H D I h
 refine wpAny_For (aO (hi pins s σ H _ I h) λv s1 h1=>aO h1 λitv s2 h2=>?_) hs
 obtain ⟨it,fp,tn,J,H2,e,I2,T,st2,f2,W,⟨m0,w0⟩,turn⟩:=h2
 subst e
 -- what stays true of the iterator's objects through the loop
 have stat:∀{H':Hp},(∀b∈fp,H' b=none)->∀b∈fp,iH X pins H' b:=λhn b hb=>⟨hn b hb,(f2 b hb).2⟩
 refine codeAny_forLoop_any (λn s'=>∃i σ' H',Inv X pins σ' H' s'/\tn i s'.heap/\(∀b∈fp,H' b=none)/\W i n σ' H') ?_ m0 ⟨0,σ,H2,I2,st2,λb hb=>(f2 b hb).1,w0⟩
 rintro n s3 ⟨i,σ3,H3,I3,st3,fr3,w3⟩
 rcases turn i n σ3 H3 w3 with ⟨stop,qn⟩ | ⟨go,N,hN,step⟩
 ·refine wpAny_passesOwn hp (aO (T.done X rfl rfl rfl hc i pins s3 σ3 H3 X.xe I3 (stat fr3) st3 stop) λr s4 ⟨hr,I4⟩=>?_)
  subst hr
  exact wpAny_execs_nil ⟨σ3,H3,I4,qn⟩
 ·refine wpAny_passesOwn hp (aO (T.item X rfl rfl rfl hc i pins s3 σ3 H3 X.xe I3 (stat fr3) st3 go) λr s4 ⟨u,hr,h4⟩=>?_)
  subst hr
  refine wpAny_passesOwn hp (aO h4 λ_ s5 ⟨x,H5,I5,r5,y5,st5,fr5⟩=>?_)
  have I5':=I5.pinned (stat fr5) (T.obj _ _ st5)
  refine wpAny_passesOwn hp (aO (hg _ s5 σ3 H5 x u _ I5' r5 (step x H5 y5)) λ_ s6 ⟨σ6,H6,I6,q6⟩=>?_)
  refine wpAny_passesOwn hp (aO (hb _ s6 σ6 H6 _ I6 q6) λf s7 q7=>?_)
  have again:∀{σ7:St} {H7:Hp},Inv X (pins++iU fp s5.heap) σ7 H7 s7->N σ7 H7->∃m,m < n/\∃i σ' H',Inv X pins σ' H' s7/\tn i s7.heap/\(∀b∈fp,H' b=none)/\W i m σ' H':=λ{σ7 H7} I7 n7=>by
   obtain ⟨m',hm,w7⟩:=hN σ7 H7 n7
   refine ⟨m',hm,i + 1,σ7,H7,I7.eC,T.keep _ _ _ st5 λb hb o e=>(I7.pin (b,o) (List.mem_append_right _ (List.mem_append_right _ (gJ hb e)))).1,λb hb=>?_,w7⟩
   obtain ⟨o,e,d⟩:=T.obj _ _ st5 b hb
   exact (I7.pin (b,o) (List.mem_append_right _ (List.mem_append_right _ (gJ hb e)))).2.1
  cases f with
  | next=>obtain ⟨σ7,H7,I7,n7⟩:=q7;exact again I7 n7
  | cont=>obtain ⟨σ7,H7,I7,n7⟩:=q7;exact again I7 n7
  | brk=>obtain ⟨σ7,H7,I7,q7⟩:=q7;exact ⟨σ7,H7,I7.eC,q7⟩
  | ret v=>obtain ⟨x7,σ7,H7,I7,r7,q7⟩:=q7;exact ⟨x7,σ7,H7,I7.eC,r7,q7⟩
end
abbrev R2:=V->V->Hp->VK->Prop
def dJ (X:Cx)(f:Value->Value->Sem Value)(r:R2):Prop:=
 ∀(pins:List (Addr×Obj)) (s:Shared) (σ:St) (H:Hp) (x y:V) (v u:Value) (Q:VK),Inv X pins σ H s->RelV x v->RelV y u->r x y H Q->
  wpAny (model X.prog X.w) X.A (f v u) (EP X pins σ Q) X.xe s
def Ab (X:Cx)(f:Value->Sem Value)(r:V->Hp->VK->Prop):Prop:=
 ∀(pins:List (Addr×Obj)) (s:Shared) (σ:St) (H:Hp) (x:V) (v:Value) (Q:VK),Inv X pins σ H s->RelV x v->r x H Q->
  wpAny (model X.prog X.w) X.A (f v) (EP X pins σ Q) X.xe s
def dR (X:Cx)(f:Value)(r:List V->Hp->VK->Prop):Prop:=
 ∀(pins:List (Addr×Obj)) (s:Shared) (σ:St) (H:Hp) (xs:List V) (us:List Value) (Q:VK),Inv X pins σ H s->Vals xs us->r xs H Q->
  wpAny (model X.prog X.w) X.A (call f us) (EP X pins σ Q) X.xe s
def FK (X:Cx)(r:V->Hp->(Bool->Hp->Prop)->Prop):Prop:=
 ∀(pins:List (Addr×Obj)) (s:Shared) (σ:St) (H:Hp) (x:V) (v:Value) (Q:Bool->Hp->Prop),Inv X pins σ H s->RelV x v->r x H Q->
  wpAny (model X.prog X.w) X.A (truthy v) (TP X pins σ Q) X.xe s
def xD (r:R2)(ta tb:TE):TE:=λσ H Q=>ta σ H λx H1=>tb σ H1 λy H2=>r x y H2 Q
def tUn (r:V->Hp->VK->Prop)(ta:TE):TE:=λσ H Q=>ta σ H λx H1=>r x H1 Q
def rI (C:Int->Int->Prop)(g:Int->Int->V):R2:=λx y H Q=>∃i j,x= .int i/\y= .int j/\C i j/\Q (g i j) H
def n5 (g:Int->Int->V):R2:=λx y H Q=>∃i j,x= .int i/\y= .int j/\Q (g i j) H
def rU (g:Int->V):V->Hp->VK->Prop:=λx H Q=>∃i,x= .int i/\Q (g i) H
section
variable {X:Cx}{a b c:Expr}{ta tb tc:TE}{pos:Pos}
variable {f:Value->Value->Sem Value}
theorem vW (ha:PE X a ta)(hb:PE X b tb){pins:List (Addr×Obj)}{s:Shared}{σ:St}{H:Hp}{R:V->V->Hp->Prop}(I:Inv X pins σ H s)
 (h:ta σ H λx H1=>tb σ H1 λy H2=>R x y H2) {Q:Value->Shared->Prop}
 (hf:∀v u s2 x y H2,Inv X pins σ H2 s2->RelV x v->RelV y u->R x y H2->wpAny (model X.prog X.w) X.A (f v u) Q X.xe s2):
 wpAny (model X.prog X.w) X.A (eval a X.env) (λv s₁=>wpAny (model X.prog X.w) X.A (eval b X.env) (λu s₂=>wpAny (model X.prog X.w) X.A (f v u) Q X.xe s₂) X.xe s₁) X.xe s:=by
 refine aO (ha pins s σ H _ I h) λv s1 ⟨x,H1,I1,r1,q1⟩=>?_
 refine aO (hb pins s1 σ H1 _ I1 q1) λu s2 ⟨y,H2,I2,r2,q2⟩=>?_
 exact hf v u s2 x y H2 I2 r1 r2 q2
theorem oK {op:Operator}{r:R2}(ho:dJ X (binaryOp op) r)(ha:PE X a ta)(hb:PE X b tb):PE X (.BinOp a op b pos) (xD r ta tb):=by
 intro pins s σ H Q I h
 exact wpAny_BinOp (vW ha hb I h λv u s2 x y H2 I2 rx ry q=>ho pins s2 σ H2 x y v u Q I2 rx ry q)
theorem DD {op:UnaryOp}{r:V->Hp->VK->Prop}(ho:Ab X (unaryOp op) r)(ha:PE X a ta):PE X (.UnaryOp op a pos) (tUn r ta):=by
 intro pins s σ H Q I h
 exact UnaryOp_ (aO (ha pins s σ H _ I h) λv s1 ⟨x,H1,I1,r1,q1⟩=>ho pins s1 σ H1 x v Q I1 r1 q1)
theorem uf {C:Int->Int->Prop}{g:Int->Int->Int}
 (rule:∀(i j:Int) (t u:Tok) (s:Shared) (Q:Value->Shared->Prop) (E:Value->Shared->Prop),C i j->Q (.int (g i j) s.toks) {s with toks:=s.toks + 1}->wpAny (model X.prog X.w) X.A (f (.int i t) (.int j u)) Q E s):
 dJ X f (rI C λi j=>.int (g i j)):=by
 intro pins s σ H x y v u Q I rx ry h
 obtain ⟨i,j,rfl,rfl,hc,q⟩:=h
 obtain ⟨t,rfl⟩:=rx
 obtain ⟨t',rfl⟩:=ry
 exact rule i j t t' s _ _ hc ⟨.int (g i j),H,I.tok _,⟨_,rfl⟩,q⟩
theorem zS {g:Int->Int->Int}
 (rule:∀(i j:Int) (t u:Tok) (s:Shared) (Q:Value->Shared->Prop) (E:Value->Shared->Prop),Q (.int (g i j) s.toks) {s with toks:=s.toks + 1}->wpAny (model X.prog X.w) X.A (f (.int i t) (.int j u)) Q E s):
 dJ X f (n5 λi j=>.int (g i j)):=by
 intro pins s σ H x y v u Q I rx ry h
 obtain ⟨i,j,rfl,rfl,q⟩:=h
 obtain ⟨t,rfl⟩:=rx
 obtain ⟨t',rfl⟩:=ry
 exact rule i j t t' s _ _ ⟨.int (g i j),H,I.tok _,⟨_,rfl⟩,q⟩
theorem sv {g:Int->Int->Bool}
 (rule:∀(i j:Int) (t u:Tok) (s:Shared) (Q:Value->Shared->Prop) (E:Value->Shared->Prop),Q (.bool (g i j)) s->wpAny (model X.prog X.w) X.A (f (.int i t) (.int j u)) Q E s):
 dJ X f (n5 λi j=>.bl (g i j)):=by
 intro pins s σ H x y v u Q I rx ry h
 obtain ⟨i,j,rfl,rfl,q⟩:=h
 obtain ⟨t,rfl⟩:=rx
 obtain ⟨t',rfl⟩:=ry
 exact rule i j t t' s _ _ ⟨.bl (g i j),H,I,rfl,q⟩
def AA (i j:Int):Prop:=0 < j/\j < 1073741824
def BJ (i j:Int):Prop:=0<=j/\j<=1000000/\i.natAbs < 2 ^ 64
def m7 (i j:Int):Prop:=(-(2 ^ 64) < i/\i < 2 ^ 64)∨(-(2 ^ 64) < j/\j < 2 ^ 64)
theorem m7.ok {i j:Int}(h:m7 i j):IntMulOk i j:=by
 rcases h with ⟨h1,h2⟩ | ⟨h1,h2⟩
 ·exact .of_left (intBits_le_64 h1 h2)
 ·exact .of_right (intBits_le_64 h1 h2)
theorem zM:dJ X (binaryOp .Add) (n5 λi j=>.int (i + j)):=zS λ_ _ _ _ _ _ _ q=>add_int q
theorem Af:dJ X (binaryOp .Sub) (n5 λi j=>.int (i - j)):=zS λ_ _ _ _ _ _ _ q=>sub_int q
theorem Ah:dJ X (binaryOp .Mult) (rI m7 λi j=>.int (i * j)):=uf λ_ _ _ _ _ _ _ hc q=>mul_int q hc.ok
theorem yE:dJ X (binaryOp .FloorDiv) (rI AA λi j=>.int (i / j)):=uf λi j _ _ _ _ _ hc q=>by
 have h1:(0:Int) < j:=hc.1
 have h2:j < 1073741824:=hc.2
 exact floordiv_int (by omega) (by rw [Int.fdiv_eq_ediv_of_nonneg i (by omega)];exact q) (.inl (PyProof.noPylong_small (by omega)))
theorem AR:dJ X (binaryOp .Mod) (rI (λ_ j=>0 < j) λi j=>.int (i % j)):=uf λi j _ _ _ _ _ hc q=>by
 have h1:(0:Int) < j:=hc
 exact mod_int' (by omega) (by rw [Int.fmod_eq_emod_of_nonneg i (by omega)];exact q)
theorem BF:dJ X (binaryOp .Pow) (rI BJ λi j=>.int (i ^ j.toNat)):=uf λ_ _ _ _ _ _ _ hc q=>pow_int_small hc.1 hc.2.1 hc.2.2 q
theorem unI {f:Value->Sem Value}{g:Int->Int}
 (rule:∀(i:Int) (t:Tok) (s:Shared) (Q:Value->Shared->Prop) (E:Value->Shared->Prop),Q (.int (g i) s.toks) {s with toks:=s.toks + 1}->wpAny (model X.prog X.w) X.A (f (.int i t)) Q E s):
 Ab X f (rU λi=>.int (g i)):=by
 intro pins s σ H x v Q I rx h
 obtain ⟨i,rfl,q⟩:=h
 obtain ⟨t,rfl⟩:=rx
 exact rule i t s _ _ ⟨.int (g i),H,I.tok _,⟨_,rfl⟩,q⟩
theorem BO:Ab X (unaryOp .USub) (rU λi=>.int (-i)):=unI λ_ _ _ _ _ q=>neg_int q
end
def Bx:V->V->Bool
 | .non,.non=>true | .non,.int _=>true | .int _,.non=>true | .non,.bl _=>true | .bl _,.non=>true | .non,.str _=>true | .str _,.non=>true
 | .int _,.int _=>true | .bl _,.bl _=>true | .str _,.str _=>true | .byt _,.byt _=>true
 | .int _,.str _=>true | .str _,.int _=>true | .bl _,.str _=>true | .str _,.bl _=>true
 | _,_=>false
def rEq:R2:=λx y H Q=>Bx x y=true/\Q (.bl (decide (x=y))) H
def rNe:R2:=λx y H Q=>Bx x y=true/\Q (.bl (!decide (x=y))) H
theorem ku {i j:Int}:decide (V.int i=V.int j)=(i==j):=by
 rw [Bool.eq_iff_iff]
 simp
theorem oY {i j:Bool}:decide (V.bl i=V.bl j)=(i==j):=by
 rw [Bool.eq_iff_iff]
 simp
theorem qW {i j:Str}:decide (V.str i=V.str j)=(i==j):=by
 rw [Bool.eq_iff_iff]
 simp
theorem rX {i j:Array UInt8}:decide (V.byt i=V.byt j)=(i.toList==j.toList):=by
 rw [Bool.eq_iff_iff]
 cases i
 cases j
 simp
section
variable {X:Cx}{a b c:Expr}{ta tb tc:TE}{pos:Pos}
variable {op:CmpOp}{r:R2}
theorem bM {pins:List (Addr×Obj)}{σ:St}{H:Hp}{s:Shared}{Q:VK}{k k':Bool}(I:Inv X pins σ H s)(q:Q (.bl k) H)(e:k=k'):EP X pins σ Q (.bool k') s:=by
 subst e
 exact ⟨.bl k,H,I,rfl,q⟩
theorem Cu:dJ X (compareOp .Eq) rEq:=by
 intro pins s σ H x y v u Q I rx ry h
 obtain ⟨hs,q⟩:=h
 cases x with
 | non=>
   cases rx
   cases y with
   | non=>cases ry;exact PySem.EqNone.eq_none_none (bM I q (by simp))
   | bl j=>cases ry;exact PySem.EqNone.eq_none_bool (bM I q (by simp))
   | int j=>obtain ⟨t',rfl⟩:=ry;exact PySem.EqNone.eq_none_int (bM I q (by simp))
   | str j=>obtain ⟨t',rfl⟩:=ry;exact PySem.EqNone.eq_none_str (bM I q (by simp))
   | _=>exact absurd (show false=true from hs) Bool.false_ne_true
 | bl i=>
   cases rx
   cases y with
   | non=>cases ry;exact PySem.EqNone.eq_bool_none (bM I q (by simp))
   | bl j=>cases ry;exact eq_bool (bM I q oY)
   | str j=>obtain ⟨t',rfl⟩:=ry;exact PySem.EqMixed.eq_bool_str (bM I q (by simp))
   | _=>exact absurd (show false=true from hs) Bool.false_ne_true
 | int i=>
   obtain ⟨t,rfl⟩:=rx
   cases y with
   | non=>cases ry;exact PySem.EqNone.eq_int_none (bM I q (by simp))
   | int j=>obtain ⟨t',rfl⟩:=ry;exact eq_int (bM I q ku)
   | str j=>obtain ⟨t',rfl⟩:=ry;exact PySem.EqMixed.eq_int_str (bM I q (by simp))
   | _=>exact absurd (show false=true from hs) Bool.false_ne_true
 | str i=>
   obtain ⟨t,rfl⟩:=rx
   cases y with
   | non=>cases ry;exact PySem.EqNone.eq_str_none (bM I q (by simp))
   | bl j=>cases ry;exact PySem.EqMixed.eq_str_bool (bM I q (by simp))
   | int j=>obtain ⟨t',rfl⟩:=ry;exact PySem.EqMixed.eq_str_int (bM I q (by simp))
   | str j=>obtain ⟨t',rfl⟩:=ry;exact eq_str (bM I q qW)
   | _=>exact absurd (show false=true from hs) Bool.false_ne_true
 | byt i=>
   obtain ⟨t,rfl⟩:=rx
   cases y with
   | byt j=>obtain ⟨t',rfl⟩:=ry;exact PySem.W.eq_bytes (bM I q rX)
   | _=>exact absurd (show false=true from hs) Bool.false_ne_true
 | _=>cases y<;>exact absurd (show false=true from hs) Bool.false_ne_true
theorem yA:dJ X (compareOp .NotEq) rNe:=by
 intro pins s σ H x y v u Q I rx ry h
 obtain ⟨hs,q⟩:=h
 cases x with
 | non=>
   cases rx
   cases y with
   | non=>cases ry;exact PySem.EqNone.ne_none_none (bM I q (by simp))
   | bl j=>cases ry;exact PySem.EqNone.ne_none_bool (bM I q (by simp))
   | int j=>obtain ⟨t',rfl⟩:=ry;exact PySem.EqNone.ne_none_int (bM I q (by simp))
   | str j=>obtain ⟨t',rfl⟩:=ry;exact PySem.EqNone.ne_none_str (bM I q (by simp))
   | _=>exact absurd (show false=true from hs) Bool.false_ne_true
 | bl i=>
   cases rx
   cases y with
   | non=>cases ry;exact PySem.EqNone.ne_bool_none (bM I q (by simp))
   | bl j=>cases ry;exact ne_bool (bM I q (congrArg not oY))
   | str j=>obtain ⟨t',rfl⟩:=ry;exact PySem.EqMixed.ne_bool_str (bM I q (by simp))
   | _=>exact absurd (show false=true from hs) Bool.false_ne_true
 | int i=>
   obtain ⟨t,rfl⟩:=rx
   cases y with
   | non=>cases ry;exact PySem.EqNone.ne_int_none (bM I q (by simp))
   | int j=>obtain ⟨t',rfl⟩:=ry;exact ne_int (bM I q (congrArg not ku))
   | str j=>obtain ⟨t',rfl⟩:=ry;exact PySem.EqMixed.ne_int_str (bM I q (by simp))
   | _=>exact absurd (show false=true from hs) Bool.false_ne_true
 | str i=>
   obtain ⟨t,rfl⟩:=rx
   cases y with
   | non=>cases ry;exact PySem.EqNone.ne_str_none (bM I q (by simp))
   | bl j=>cases ry;exact PySem.EqMixed.ne_str_bool (bM I q (by simp))
   | int j=>obtain ⟨t',rfl⟩:=ry;exact PySem.EqMixed.ne_str_int (bM I q (by simp))
   | str j=>obtain ⟨t',rfl⟩:=ry;exact ne_str (bM I q (congrArg not qW))
   | _=>exact absurd (show false=true from hs) Bool.false_ne_true
 | byt i=>
   obtain ⟨t,rfl⟩:=rx
   cases y with
   | byt j=>obtain ⟨t',rfl⟩:=ry;exact PySem.W.ne_bytes (bM I q (congrArg not rX))
   | _=>exact absurd (show false=true from hs) Bool.false_ne_true
 | _=>cases y<;>exact absurd (show false=true from hs) Bool.false_ne_true
theorem D6:dJ X (compareOp .Lt) (n5 λi j=>.bl (decide (i < j))):=sv λ_ _ _ _ _ _ _ q=>lt_int q
theorem DS:dJ X (compareOp .LtE) (n5 λi j=>.bl (decide (i<=j))):=sv λ_ _ _ _ _ _ _ q=>le_int q
theorem Ed:dJ X (compareOp .Gt) (n5 λi j=>.bl (decide (j < i))):=sv λ_ _ _ _ _ _ _ q=>gt_int q
theorem Eb:dJ X (compareOp .GtE) (n5 λi j=>.bl (decide (j<=i))):=sv λ_ _ _ _ _ _ _ q=>ge_int q
theorem vy (b:Expr)(h:autoParam (op≠ .In) Fc.av)(h2:autoParam (op≠ .NotIn) Fc.av):behindInMarks op b=false:=by
 have e1:(op==CmpOp.In)=false:=by cases op<;>first | rfl | exact absurd rfl h
 have e2:(op==CmpOp.NotIn)=false:=by cases op<;>first | rfl | exact absurd rfl h2
 cases b<;>simp [behindInMarks,e1,e2]
theorem zK (ho:dJ X (compareOp op) r)(ha:PE X a ta)(hb:PE X b tb)(hm:behindInMarks op b=false):PE X (.Compare a [op] [b] pos) (xD r ta tb):=by
 intro pins s σ H Q I h
 exact wpAny_Compare1 (vW ha hb I h λv u s2 x y H2 I2 rx ry q=>ho pins s2 σ H2 x y v u Q I2 rx ry q) hm
def yj (t:TE):TT:=λσ H Q=>t σ H λx H'=>∃k,x= .bl k/\Q k H'
theorem nj (ho:dJ X (compareOp op) r)(ha:PE X a ta)(hb:PE X b tb)(hm:behindInMarks op b=false):PT X (.Compare a [op] [b] pos) (yj (xD r ta tb)):=by
 intro pins s σ H Q I h
 refine wpAny_isTrue_Compare1 (aO (ha pins s σ H _ I h) λv s1 ⟨x,H1,I1,r1,q1⟩=>aO (hb pins s1 σ H1 _ I1 q1) λu s2 ⟨y,H2,I2,r2,q2⟩=>
  aO (ho pins s2 σ H2 x y v u _ I2 r1 r2 q2) λc s3 ⟨z,H3,I3,r3,k,e,q3⟩=>?_) hm
 subst e
 cases r3
 exact wpAny_truthy_bool ⟨H3,I3,q3⟩
def vk (r r':R2)(ta tb tc:TE):TE:=λσ H Q=>ta σ H λx H1=>tb σ H1 λy H2=>r x y H2 λz H3=>∃k,z= .bl k/\
 (if k=true then tc σ H3 λw' H4=>r' y w' H4 Q else Q (.bl false) H3)
theorem xm {op':CmpOp}{r':R2}(ho:dJ X (compareOp op) r)(ho':dJ X (compareOp op') r')(ha:PE X a ta)(hb:PE X b tb)(hc:PE X c tc)
 (hm:lastMarks [op,op'] [b,c]=false:=by with_unfolding_all rfl):PE X (.Compare a [op,op'] [b,c] pos) (vk r r' ta tb tc):=by
 intro pins s σ H Q I h
 refine Compare_chain (aO (ha pins s σ H _ I h) λv s1 ⟨x,H1,I1,r1,q1⟩=>chain_link (aO (hb pins s1 σ H1 _ I1 q1) λu s2 ⟨y,H2,I2,r2,q2⟩=>
  aO (ho pins s2 σ H2 x y v u _ I2 r1 r2 q2) λd s3 ⟨z,H3,I3,r3,k,e,q3⟩=>?_)) hm
 subst e
 cases r3
 refine wpAny_truthy_bool ?_
 cases k with
 | false=>exact ite_ff ⟨.bl false,H3,I3,rfl,q3⟩
 | true=>exact ite_tt (chain_last (aO (hc pins s3 σ H3 _ I3 q3) λw' s4 ⟨z',H4,I4,r4,q4⟩=>ho' pins s4 σ H4 y z' u w' Q I4 r2 r4 q4))
theorem vO {op':CmpOp}{r':R2}(ho:dJ X (compareOp op) r)(ho':dJ X (compareOp op') r')(ha:PE X a ta)(hb:PE X b tb)(hc:PE X c tc)
 (hm:lastMarks [op,op'] [b,c]=false:=by with_unfolding_all rfl):PT X (.Compare a [op,op'] [b,c] pos) (yj (vk r r' ta tb tc)):=by
 intro pins s σ H Q I h
 refine isTrue_chain (aO (ha pins s σ H _ I h) λv s1 ⟨x,H1,I1,r1,q1⟩=>test_link (aO (hb pins s1 σ H1 _ I1 q1) λu s2 ⟨y,H2,I2,r2,q2⟩=>
  aO (ho pins s2 σ H2 x y v u _ I2 r1 r2 q2) λd s3 ⟨z,H3,I3,r3,k,e,q3⟩=>?_)) hm
 subst e
 cases r3
 refine wpAny_truthy_bool ?_
 cases k with
 | false=>
   obtain ⟨k',e',q'⟩:=q3
   cases e'
   exact ite_ff ⟨H3,I3,q'⟩
 | true=>
   refine ite_tt (test_last (aO (hc pins s3 σ H3 _ I3 q3) λw' s4 ⟨z',H4,I4,r4,q4⟩=>aO (ho' pins s4 σ H4 y z' u w' _ I4 r2 r4 q4) λd' s5 ⟨z2,H5,I5,r5,k2,e2,q5⟩=>?_))
   subst e2
   cases r5
   exact wpAny_truthy_bool ⟨H5,I5,q5⟩
def AF (K:PySem.W.Frag)(x:V)(H:Hp)(k:Bool):Prop:=
 match x with
 | .non=>k=false
 | .bl b=>k=b
 | .int i=>k=(i != 0)
 | .str y=>y.length<=sizeLine/\k=((y.length:Int) != 0)
 | .byt y=>y.size<=sizeLine/\k=((y.size:Int) != 0)
 | .ref p=>(∃xs,aL K H p xs/\k= !xs.isEmpty)∨(∃xs,dY K H p xs/\k= !xs.isEmpty)∨∃kvs,H p=some (.dK kvs)/\k= !kvs.isEmpty
 | _=>False
theorem tD {κ:Type}{kvs:List (κ×V)}{vs:List (κ×Value)}(r:KV kvs vs):(!vs.isEmpty)= !kvs.isEmpty:=by
 cases r<;>rfl
theorem mh {xs:List V}{its:List Value}(r:Vals xs its):(!its.toArray.isEmpty)= !xs.isEmpty:=by
 cases r<;>simp
theorem iV:(sizeLine:Nat) < 2 ^ 63:=by rw [sizeLine_eq];decide
theorem Bo:FK X (λx H Q=>∃k,AF X.K x H k/\Q k H):=by
 intro pins s σ H x v Q I rx h
 obtain ⟨k,e,q⟩:=h
 have hl:=iV
 have hs:sizeLine=16777216:=sizeLine_eq
 cases x with
 | non=>
   cases rx
   have e':k=false:=e
   subst e'
   exact truthy_none ⟨H,I,q⟩
 | bl b=>
   cases rx
   have e':k=b:=e
   subst e'
   exact wpAny_truthy_bool ⟨H,I,q⟩
 | int i=>
   obtain ⟨t,rfl⟩:=rx
   have e':k=(i != 0):=e
   subst e'
   exact PySem.P.truthy_int ⟨H,I,q⟩
 | str y=>
   obtain ⟨t,rfl⟩:=rx
   obtain ⟨hy,e'⟩:y.length<=sizeLine/\k=((y.length:Int) != 0):=e
   subst e'
   exact PySem.P.truthy_str (by omega) ⟨H,I.tok _,q⟩
 | byt y=>
   obtain ⟨t,rfl⟩:=rx
   obtain ⟨hy,e'⟩:y.size<=sizeLine/\k=((y.size:Int) != 0):=e
   subst e'
   exact PySem.W.truthy_bytes (by omega) ⟨H,I.tok _,q⟩
 | ref p=>
   cases rx
   have e':(∃xs,aL X.K H p xs/\k= !xs.isEmpty)∨(∃xs,dY X.K H p xs/\k= !xs.isEmpty)∨∃kvs,H p=some (.dK kvs)/\k= !kvs.isEmpty:=e
   rcases e' with ⟨xs,hx,e'⟩ | ⟨xs,hx,e'⟩ | ⟨kvs,hx,e'⟩
   ·subst e'
    obtain ⟨its,r,pl,hz⟩:=I.list hx
    have hlen:=r.length
    exact wpAny_truthy_list pl.isList (by simp only [List.size_toArray];omega) ⟨H,I.tok _,by rw [mh r];exact q⟩
   ·subst e'
    obtain ⟨its,r,pl,hz⟩:=I.tuple hx
    have hlen:=r.length
    exact truthy_tuple pl (by simp only [List.size_toArray];omega) ⟨H,I.tok _,by rw [mh r];exact q⟩
   ·subst e'
    obtain ⟨hz,hS,vs,r,m⟩:kvs.length<=sizeLine/\(p==sysModules)=false/\∃vs,KV kvs vs/\s.heap.DictOf (cF X.prog X.w) p vs:=I.hok p _ hx
    have hlen:kvs.length=vs.length:=Paired.length r
    exact wpAny_truthy_dict hS m (by omega) ⟨H,I.tok _,by rw [tD r];exact q⟩
 | _=>exact (show False from e).elim
theorem pN (ha:PE X a ta)(he:∀whole,isTrue a X.env whole=(do let v ← whole;standAt a.pos;holding [v] (truthy v))):
 PT X a (λσ H Q=>ta σ H λx H'=>∃k,AF X.K x H' k/\Q k H'):=by
 intro pins s σ H Q I h
 exact isTrue_plain (aO (ha pins s σ H _ I h) λv s1 ⟨x,H1,I1,r1,q1⟩=>Bo pins s1 σ H1 x v Q I1 r1 q1) (he _)
theorem vals1 {x:V}{us:List Value}(r:Vals [x] us):∃u,us=[u]/\RelV x u:=by
 cases r with
 | cons r1 r2=>cases r2;exact ⟨_,rfl,r1⟩
theorem vals2 {x y:V}{us:List Value}(r:Vals [x,y] us):∃u w',us=[u,w']/\RelV x u/\RelV y w':=by
 cases r with
 | cons r1 r2=>
   cases r2 with
   | cons r3 r4=>cases r4;exact ⟨_,_,rfl,r1,r3⟩
theorem vp (hc:X.calm=true):dR X (.builtin "min") (λxs H Q=>∃i j,xs=[.int i,.int j]/\Q (.int (if j < i then j else i)) H):=by
 intro pins s σ H xs us Q I r h
 obtain ⟨i,j,rfl,q⟩:=h
 obtain ⟨u,w',rfl,⟨t,rfl⟩,⟨t',rfl⟩⟩:=vals2 r
 refine min_two_ints (I.ok.hd hc) λh' tk k=>⟨_,H,I.kept k,?_,q⟩
 by_cases hj:j < i
 ·rw [if_pos hj,if_pos hj];exact ⟨_,rfl⟩
 ·rw [if_neg hj,if_neg hj];exact ⟨_,rfl⟩
theorem vG:dR X (.type "int") (λxs H Q=>(∃i,xs=[.int i]/\Q (.int i) H)∨∃k,xs=[.bl k]/\Q (.int (if k then 1 else 0)) H):=by
 intro pins s σ H xs us Q I r h
 rcases h with ⟨i,rfl,q⟩ | ⟨k,rfl,q⟩
 ·obtain ⟨u,rfl,t,rfl⟩:=vals1 r
  exact call_int_int ⟨.int i,H,I,⟨_,rfl⟩,q⟩
 ·obtain ⟨u,rfl,r1⟩:=vals1 r
  cases r1
  exact call_int_bool ⟨.int (if k then 1 else 0),H,I.tok _,⟨_,rfl⟩,q⟩
end
structure wq (h:Heap) (x dx C:Addr) (mA:Str->Option Value):Prop where
 obj:h.get? x=some (PySem.W.instObj C dx)
 ns:h.Ns1 dx mA
 ne:dx≠x
theorem tT {h:Heap}{dx:Addr}{mA:Str->Option Value}(n:h.Ns1 dx mA):∃od,h.get? dx=some od/\∀name,PySem.W.lookIn name od=some (mA name):=by
 obtain ⟨o,es,ep,ho,hd,hk,_,hm⟩:=n
 refine ⟨o,ho,λname=>?_⟩
 have e:=hm name
 unfold nsFind findBy at e
 rw [← Array.find?_toList] at e
 unfold PySem.W.lookIn
 rw [hd]
 dsimp only
 split
 ·rename_i y q
  rw [q] at e
  exact congrArg some e
 ·rename_i q
  rw [q] at e
  have a:es.toList.any (·.refKey)=false:=by
   rw [List.any_eq_false]
   intro y hy
   obtain ⟨z,t,hkey⟩:=hk y (Array.mem_toList_iff.mp hy)
   simp [DictEntry.refKey,hkey]
  have a':¬es.toList.any (·.refKey)=true:=by rw [a];exact Bool.false_ne_true
  rw [if_neg a']
  exact congrArg some e
theorem wq.look {h:Heap}{x dx C:Addr}{mA:Str->Option Value}(I:wq h x dx C mA):∃od,PySem.W.InstAt h x (PySem.W.instObj C dx) C (some od)/\∀name,PySem.W.lookIn name od=some (mA name):=
 let ⟨od,ho,hl⟩:=tT I.ns
 ⟨od,⟨I.obj,rfl,rfl,ho⟩,hl⟩
section
variable {prog:Program}{w:World}{A:Around}{E:Value->Shared->Prop}{s:Shared}{K:PySem.W.Frag}{x dx C f:Addr}{mA:Str->Option Value}{name:Str}{v:Value}
end
theorem fZ.some_of {v:V}{o:Option Value}(r:fZ (some v) o):∃u,o=some u/\RelV v u:=by
 cases o with
 | none=>exact (show False from r).elim
 | some u=>exact ⟨u,rfl,r⟩
section
variable {P:Program}{w:World}{H H':Hp}{h h':Heap}{a C dx:Addr}{fs fs':List (Str×V)}
theorem yQ (hok:cG P w H h)(e:H a=some (.ins C dx fs)):∃mA,wq h a dx C mA/\(∀f,fZ (fs.lookup f) (mA f))/\PySem.Within mA (fs.map (·.1))/\fs.length<=1000/\H dx=some (.own a):=by
 obtain ⟨d,z,ne,ob,mA,n,r,q⟩:=(show bT P w H h a (.ins C dx fs) from hok a _ e)
 exact ⟨mA,⟨ob,n,ne⟩,r,q,z,d⟩
end
structure BU (K:PySem.W.Frag) (C:Addr):Prop where
 pg:PySem.W.plainGet K C Str.empty=true
 hd:PySem.W.hasDictIn K C=true
 po:PySem.W.plainOver K C=true
 sa:PySem.W.findIn K (.ref C) "__setattr__"=some (some (.builtin "object.__setattr__"))
theorem BU.get {K:PySem.W.Frag}{C:Addr}(c:BU K C)(f:Str):PySem.W.plainGet K C f=true:=c.pg
section
variable {X:Cx}{pins:List (Addr×Obj)}{σ:St}{H:Hp}{s:Shared}{a C dx:Addr}{fs:List (Str×V)}{f:Str}{v:V}{A:Around}{E:Value->Shared->Prop}
end
section
variable {X:Cx}{o e value:Expr}{f:Str}{pos pos' tpos:Pos}{ta tv:TE}
end
section
variable {X:Cx}{pins:List (Addr×Obj)}{σ:St}{H:Hp}{s:Shared}{A:Around}{E:Value->Shared->Prop}{Q:Value->Shared->Prop}{c:Value}{b:Bool}
inductive d7 (K:PySem.W.Frag) (H:Hp):V->Value->Prop where
 | non:d7 K H .non (.type "NoneType")
 | bl (x:Bool):d7 K H (.bl x) (.type "bool")
 | int (i:Int):d7 K H (.int i) (.type "int")
 | str (x:Str):d7 K H (.str x) (.type "str")
 | flt (x:UInt64):d7 K H (.flt x) (.type "float")
 | lst {a:Addr} {xs:List V} (e:H a=some (.lst xs)):d7 K H (.ref a) (.type "list")
 | frz {a:Addr} {o:Obj} {xs:List V} (e:H a=some (.frz o (.lst xs))):d7 K H (.ref a) (.type "list")
 | tup {a:Addr} {xs:List V} (e:H a=some (.tup xs)):d7 K H (.ref a) (.type "tuple")
 | dK {a:Addr} {kvs:List (Key×V)} (e:H a=some (.dK kvs)):d7 K H (.ref a) (.type "dict")
 | dT {a:Addr} {kvs:List (List Key×V)} (e:H a=some (.dT kvs)):d7 K H (.ref a) (.type "dict")
 | ins {a C dx:Addr} {fs:List (Str×V)} (e:H a=some (.ins C dx fs)) (cl:BU K C) (ha:PySem.W.findIn K (.ref C) "__class__"=some (some (.builtin "object.__class__")))
  (hn:PySem.W.specialIn K (.builtin "object.__class__") "__get__"=some (some (.builtin "getset_descriptor.__get__"))) (htk:PySem.W.takesIn K (.builtin "object.__class__")=some true)
  (hm:PySem.W.mroIn K C (.type "object")=some true):d7 K H (.ref a) (.ref C)
theorem u4 {x:V}{u t:Value}(I:Inv X pins σ H s)(rx:RelV x u)(ty:d7 X.K H x t)(e:PySem.W.kitOne X.K t c=some b)(h:∀tk,Q (.bool b) {s with toks:=tk}):
 wpAny (model X.prog X.w) A (call (.builtin "isinstance") [u,c]) Q E s:=by
 cases ty with
 | non=>cases (show u=Value.none from rx);exact PySem.W.kia_one PySem.W.kitx_none I.eL True.intro e (λz=>nomatch z) h
 | bl y=>cases (show u=Value.bool y from rx);exact PySem.W.kia_one PySem.W.kitx_bool I.eL True.intro e (λz=>nomatch z) h
 | int i=>obtain ⟨t,q⟩:=(show∃t,u=Value.int i t from rx);cases q;exact PySem.W.kia_one PySem.W.kitx_int I.eL True.intro e (λz=>nomatch z) h
 | str y=>obtain ⟨t,q⟩:=(show∃t,u=Value.str y t from rx);cases q;exact PySem.W.kia_one PySem.W.kitx_str I.eL True.intro e (λz=>nomatch z) h
 | flt y=>obtain ⟨t,q⟩:=(show∃t,u=Value.float y t from rx);cases q;exact PySem.W.kia_one PySem.W.kitx_float I.eL True.intro e (λz=>nomatch z) h
 | @lst a xs ea=>
   cases (show u=Value.ref a from rx)
   obtain ⟨_,_,n,_,h1⟩:=(show bT X.prog X.w H s.heap a (.lst xs) from I.hok a _ ea)
   exact PySem.W.kia_one PySem.W.kitx_list I.eL ⟨_,h1,rfl⟩ e (λz=>nomatch z) h
 | @frz a ob xs ea=>
   cases (show u=Value.ref a from rx)
   obtain ⟨_,_,_,n,_,h1⟩:=(show bT X.prog X.w H s.heap a (.frz ob (.lst xs)) from I.hok a _ ea)
   exact PySem.W.kia_one PySem.W.kitx_list I.eL ⟨_,h1,rfl⟩ e (λz=>nomatch z) h
 | @tup a xs ea=>
   cases (show u=Value.ref a from rx)
   obtain ⟨_,_,_,p⟩:=(show bT X.prog X.w H s.heap a (.tup xs) from I.hok a _ ea)
   obtain ⟨o,h1,h2,_⟩:=p
   exact PySem.W.kia_one PySem.W.kitx_tuple I.eL ⟨o,h1,h2⟩ e (λz=>nomatch z) h
 | @dK a kvs ea=>
   cases (show u=Value.ref a from rx)
   obtain ⟨_,_,vs,_,p⟩:=(show bT X.prog X.w H s.heap a (.dK kvs) from I.hok a _ ea)
   obtain ⟨o,es,ep,h1,h2,_⟩:=p
   exact PySem.W.kia_one PySem.W.kitx_dict I.eL ⟨o,h1,h2.1⟩ e (λz=>nomatch z) h
 | @dT a kvs ea=>
   cases (show u=Value.ref a from rx)
   obtain ⟨_,_,xs,_,o,es,ep,h1,h2,_⟩:=(show bT X.prog X.w H s.heap a (.dT kvs) from I.hok a _ ea)
   exact PySem.W.kia_one PySem.W.kitx_dict I.eL ⟨o,h1,h2.1⟩ e (λz=>nomatch z) h
 | @ins a C dx fs ea cl ha hn htk hm=>
   cases (show u=Value.ref a from rx)
   obtain ⟨mA,O,_⟩:=yQ I.hok ea
   obtain ⟨od,J,_⟩:=O.look
   exact PySem.W.kia_one (PySem.W.kitx_own (cl.get _) cl.hd ha hn htk hm) I.eL J e (λz=>nomatch z) h
end
section
variable {A:Around}
structure bA (k:Nat) (A:Around):Prop where
 hd:A.handled=none
 dp:A.depth + 3 * k + 5 < recursionLimit
 un:A.units + 16 * k + 200 < cLine
theorem bA.mono {j k:Nat}(r:bA k A)(h:j<=k):bA j A:=⟨r.hd,by have:=r.dp;omega,by have:=r.un;omega⟩
theorem bA.deeper {k:Nat}(r:bA (k + 1) A)(env:Env):bA k (A.deeper env):=
 ⟨r.hd,by have:=r.dp;show A.depth + 1 + 3 * k + 5 < _;omega,by have:=r.un;show A.units + 3 + 16 * k + 200 < _;omega⟩
theorem bA.depth {k:Nat}(r:bA k A):A.depth < recursionLimit:=by have:=r.dp;omega
theorem bA.units {k:Nat}(r:bA k A):A.units + 64 < cLine:=by have:=r.un;omega
def FE:TA:=λ_ H Q=>Q [] H
def Dj (ta:TE)(tr:TA):TA:=λσ H Q=>ta σ H λx H1=>tr σ H1 λxs H2=>Q (x::xs) H2
end
section
variable {X:Cx}{e:Expr}{es:List Expr}{te:TE}{t:TA}{pos:Pos}
theorem bp:PA X [] FE:=λ_ _ _ _ H Q I h=>Calls.spliced_nil ⟨[],H,I,.nil,h⟩
theorem aD (ha:PE X e te)(hr:PA X es t)(hs:autoParam (starEach (e::es) X.env=(false,eval e X.env)::starEach es X.env) Fc.ag):PA X (e::es) (Dj te t):=by
 intro pos pins s σ H Q I h
 rw [hs]
 show wpAny _ _ (spliced ((false,eval e X.env)::backTo pos (starEach es X.env))) _ _ s
 refine Calls.spliced_cons (aO (ha pins s σ H _ I h) λu s1 ⟨x,H1,I1,r1,q1⟩=>?_)
 exact aO (hr pos pins s1 σ H1 _ I1 q1) λus s2 ⟨xs,H2,I2,r2,q2⟩=>⟨x::xs,H2,I2,.cons r1 r2,q2⟩
def FZ (t:TA):TE:=λσ H Q=>t σ H λxs H1=>xs.length<=sizeLine/\∀p,H1 p=none->Q (.ref p) (upd H1 p (.tup xs))
def Gg (t:TA):TE:=λσ H Q=>t σ H λxs H1=>xs.length<=sizeLine/\∀p,H1 p=none->Q (.ref p) (upd H1 p (.lst xs))
theorem uY {x1}(h:PA X es t):PE X (.Tuple es x1 pos) (FZ t):=by
 intro pins s σ H Q I hq
 refine wpAny_Tuple_spliced (aO (h pos pins s σ H _ I hq) λus s1 ⟨xs,H1,I1,r,z,q⟩=>⟨by rw [← r.length];exact z,?_⟩)
 have hf:H1 s1.heap.objs.size=none:=I1.hok.fresh (Nat.le_refl _)
 refine ⟨.ref s1.heap.objs.size,upd H1 s1.heap.objs.size (.tup xs),I1.laid (t':=s1.toks) (λb u e=>Heap.get?_push_of_some _ e) (Nat.le_refl _) ?_,rfl,q _ hf⟩
 exact ⟨z,us,r,⟨_,Heap.get?_push_size _ rfl,rfl,_,rfl⟩⟩
theorem Ci (h:PA X es t):PE X (.List es pos) (Gg t):=by
 intro pins s σ H Q I hq
 refine wpAny_List_spliced (aO (h pos pins s σ H _ I hq) λus s1 ⟨xs,H1,I1,r,z,q⟩=>⟨by rw [← r.length];exact z,?_⟩)
 have hf:H1 s1.heap.objs.size=none:=I1.hok.fresh (Nat.le_refl _)
 refine ⟨.ref s1.heap.objs.size,upd H1 s1.heap.objs.size (.lst xs),I1.laid (t':=s1.toks) (λb u e=>Heap.get?_push_of_some _ e) (Nat.le_refl _) ?_,rfl,q _ hf⟩
 exact ⟨z,us,0,r,Heap.get?_push_size _ rfl⟩
end
abbrev Sp:=List V->Hp->VK->XK->Prop
abbrev i9:=List Env->Hp->Shared->XK->Value->Shared->Prop
structure sA (P:Program) (w:World) (K:PySem.W.Frag) (mg:Str->Option Value) (base:Heap) (A:Around) (outer:List Env) (s:Shared) (H:Hp):Prop where
 frames:A.frames=some outer
 mod:Mod K mg base
 bs:∀b o,base.get? b=some o->s.heap.get? b=some o/\H b=none
 bsz:base.objs.size<=s.heap.objs.size
 funs:s.heap.FunFrames base outer
 frf:∀b∈c4 outer,H b=none
 hok:cG P w H s.heap
 bare:AllBare s.gens
def CE (outer:List Env)(P:Program)(w:World)(H:Hp)(s:Shared)(Q:VK)(u:Value)(s':Shared):Prop:=
 ∃v H',s'.os=s.os/\AllBare s'.gens/\Un (c4 outer) [] H H' s.heap s'.heap/\cG P w H' s'.heap/\RelV v u/\Q v H'
def CR (CX:i9)(outer:List Env)(P:Program)(w:World)(H:Hp)(s:Shared)(Q:VK)(E:XK)(r:Result)(s':Shared):Prop:=
 match r with
 | .ok (.ret u)=>CE outer P w H s Q u s'
 | .ok _=>False
 | .error e=>CX outer H s E e s'
structure eV (P:Program) (w:World) (K:PySem.W.Frag) (mg:Str->Option Value) (base:Heap) (CX:i9) (k:Nat) (f:Addr) (fd:FuncData) (ps:List Str) (sp:Sp):Prop where
 len:∀vs H Q E,sp vs H Q E->vs.length=ps.length
 run:∀(A:Around) (outer:List Env) (s:Shared) (H:Hp) (args:Args) (us:List Value) (vs:List V) (Q:VK) (E:XK),bA k A->sA P w K mg base A outer s H->BindsTo s fd args (ps.zip us)->Vals vs us->sp vs H Q E->
  codeAny (model P w) A (.call (.ref f) args) (CR CX outer P w H s Q E) s
theorem eV.mono {P:Program}{w:World}{K:PySem.W.Frag}{mg:Str->Option Value}{base:Heap}{CX:i9}{j k:Nat}{f:Addr}{fd:FuncData}{ps:List Str}{sp:Sp}(F:eV P w K mg base CX j f fd ps sp)(h:j<=k):
 eV P w K mg base CX k f fd ps sp:=⟨F.len,λA outer s H args us vs Q E hr=>F.run A outer s H args us vs Q E (hr.mono h)⟩
section
variable {X:Cx}{pins:List (Addr×Obj)}{σ:St}{H:Hp}{s s':Shared}
theorem Inv.A3 (I:Inv X pins σ H s):sA X.prog X.w X.K X.mg X.base X.A X.stack s H:=
 ⟨I.ok.frames,I.ok.mod,I.bs,Nat.le_trans I.ok.bsz I.sz,I.stack,I.iQ,I.hok,I.bare⟩
theorem Inv.after {Q:VK}{u:Value}(I:Inv X pins σ H s)(h:CE X.stack X.prog X.w H s Q u s'):EP X pins σ Q u s':=by
 obtain ⟨v,H',os,bare,un,hok,r,q⟩:=h
 obtain ⟨hh,g,d,t,os'⟩:=s'
 obtain rfl:os'=s.os:=os
 exact ⟨v,H',I.call (h':=hh) (g':=g) (d':=d) (t':=t) (ch:=[]) un hok bare (λb z=>absurd z (by simp)),r,q⟩
end
def Dn (sp:Sp)(dvs:List V)(E:XK)(t:TA):TE:=λσ H Q=>t σ H λvs H1=>sp (vs++dvs) H1 Q E
def Binds (K:PySem.W.Frag)(fd:FuncData)(ps:List Str)(ds:List Value):Prop:=
 ∀(s:Shared) (us:List Value),K.In s.heap->(us++ds).length=ps.length->BindsTo s fd ⟨us,[]⟩ (ps.zip (us++ds))
theorem Binds.all {K:PySem.W.Frag}{fd:FuncData}{ps:List Str}(h:∀us:List Value,us.length=ps.length->bindArgs fd ⟨us,[]⟩=pure (ps.zip us)):Binds K fd ps []:=λs us _ hl=>by
 rw [List.append_nil] at hl ⊢
 exact .of_eq (h us hl)
def Passes (CX:i9)(X:Cx)(E:XK):Prop:=∀(pins:List (Addr×Obj)) (σ:St) (H:Hp) (s:Shared) (e:Value) (s':Shared),Inv X pins σ H s->CX X.stack H s E e s'->X.xe e s'
section
variable {X:Cx}{CX:i9}{k:Nat}{f C:Addr}{fd:FuncData}{ps:List Str}{sp:Sp}{dvs:List V}{ds:List Value}{E:XK}{x m:Str}{p pos apos:Pos}{e o:Expr}{es:List Expr}{ta:TE}{t:TA}
theorem BD {pins:List (Addr×Obj)}{σ:St}{H:Hp}{s:Shared}{Q:VK}{us:List Value}{vs:List V}(F:eV X.prog X.w X.K X.mg X.base CX k f fd ps sp)(hr:bA k X.A)(hb:Binds X.K fd ps ds)(hd:Vals dvs ds)(hx:Passes CX X E)
 (I:Inv X pins σ H s) (r:Vals vs us) (h:sp (vs++dvs) H Q E):wpAny (model X.prog X.w) X.A (call (.ref f) us) (EP X pins σ Q) X.xe s:=by
 have r2:Vals (vs++dvs) (us++ds):=r.append hd
 have hl:(us++ds).length=ps.length:=by rw [← r2.length];exact F.len _ _ _ _ h
 refine wpAny_call (codeAny_mono (F.run X.A X.stack s H ⟨us,[]⟩ (us++ds) (vs++dvs) Q E hr I.A3 (hb s us I.eL hl) r2 h) λr s' hq=>?_)
 cases r with
 | error e=>exact hx pins σ H s e s' I hq
 | ok fl=>
   cases fl with
   | ret u=>exact I.after hq
   | next=>exact False.elim hq
   | brk=>exact False.elim hq
   | cont=>exact False.elim hq
theorem eh (F:eV X.prog X.w X.K X.mg X.base CX k f fd ps sp)(hr:bA k X.A)(hg:Gl X x)(hm:X.mg x=some (.ref f))(hk:PySem.W.keepIn X.K (.ref f)=true)(hb:Binds X.K fd ps ds)(hd:Vals dvs ds)(hx:Passes CX X E)
 (ha:PA X (e::es) t) (hdb:autoParam ((x==("__debug__":Str))=false) Fc.av) (he:autoParam (starEach (e::es) X.env=(false,eval e X.env)::starEach es X.env) Fc.ag) (hpl:autoParam ((backTo pos (starEach es X.env)).any (·.1)=false) Fc.ag):
 PE X (.Call (.Name x p) (e::es) [] pos) (Dn sp dvs E t):=by
 intro pins s σ H Q I h
 refine wpAny_Call_Name_kw (iR I hg hm ?_ hdb)
 refine PySem.W.callWith_K (h₀:=X.base) I.ok.mod.kin hk (aO (ha pos pins s σ H _ I h) λus s1 ⟨vs,H1,I1,r,q⟩=>⟨I1.eL,?_⟩) he hpl
 exact BD F hr hb hd hx I1 r q
end
section
variable {X:Cx}{CX:i9}{k:Nat}{f C:Addr}{fd:FuncData}{ps ks:List Str}{sp:Sp}{E:XK}{x m:Str}{p pos apos kpos:Pos}{e o:Expr}{es:List Expr}{kws:List Keyword}{te ta:TE}{t tk:TA}{nm:Option Str}
variable {g:List Value->List Value->List Value}{gV:List V->List V->List V}
end
structure aC (N P:List Str) (sc:Scope):Prop where
 kind:sc.kind= .function
 co:sc.isCoroutine=false
 gen:sc.isGenerator=false
 nd:N.Nodup
 pre:N.take P.length=P
 par:∀x∈P,sc.names.lookup x=some .local∨sc.names.lookup x=some .cell
 nofree:∀y∈sc.names,y.2≠ .free
theorem nV {kindOf:Str->Option NameKind}{x:Str}:∀{binds:List (Str×Value)} {m:Str->Option Value},(∀v,(x,v)∉binds)->bindL kindOf binds m x=m x
 | [],_,_=>rfl
 | (n,v)::r,m,h=>by
   unfold bindL
   rw [nV λw hw=>h w (List.mem_cons_of_mem _ hw)]
   split
   ·have:x≠n:=by rintro rfl;exact h v List.mem_cons_self
    simp [this]
   ·rfl
theorem nR {kindOf:Str->Option NameKind}{x:Str}:∀{binds:List (Str×Value)} {m:Str->Option Value},(∀v,(x,v)∉binds)->bindC kindOf binds m x=m x
 | [],_,_=>rfl
 | (n,v)::r,m,h=>by
   unfold bindC
   rw [nR λw hw=>h w (List.mem_cons_of_mem _ hw)]
   split
   ·rfl
   ·have:x≠n:=by rintro rfl;exact h v List.mem_cons_self
    simp [this]
theorem nI {kindOf:Str->Option NameKind}{x:Str}{v:Value}:∀{P:List Str} {vs:List Value} {i:Nat} {m:Str->Option Value},P.Nodup->P[i]?=some x->vs[i]?=some v->kindOf x=some .local->
 bindL kindOf (P.zip vs) m x=some v
 | [],_,_,_,_,h,_,_=>by simp at h
 | _::_,[],_,_,_,_,h,_=>by simp at h
 | p::P,w::vs,0,m,nd,h1,h2,hk=>by
   simp at h1 h2;subst h1;subst h2
   show bindL kindOf ((p,w)::P.zip vs) m p=_
   unfold bindL
   rw [nV λv hv=>(List.nodup_cons.mp nd).1 (List.of_mem_zip hv).1,if_pos hk]
   simp
 | p::P,w::vs,i + 1,m,nd,h1,h2,hk=>by
   show bindL kindOf ((p,w)::P.zip vs) m x=_
   unfold bindL
   exact nI (i:=i) (List.nodup_cons.mp nd).2 (by simpa using h1) (by simpa using h2) hk
theorem nS {kindOf:Str->Option NameKind}{x:Str}{v:Value}:∀{P:List Str} {vs:List Value} {i:Nat} {m:Str->Option Value},P.Nodup->P[i]?=some x->vs[i]?=some v->kindOf x≠some .local->
 bindC kindOf (P.zip vs) m x=some v
 | [],_,_,_,_,h,_,_=>by simp at h
 | _::_,[],_,_,_,_,h,_=>by simp at h
 | p::P,w::vs,0,m,nd,h1,h2,hk=>by
   simp at h1 h2;subst h1;subst h2
   show bindC kindOf ((p,w)::P.zip vs) m p=_
   unfold bindC
   rw [nR λv hv=>(List.nodup_cons.mp nd).1 (List.of_mem_zip hv).1,if_neg hk]
   simp
 | p::P,w::vs,i + 1,m,nd,h1,h2,hk=>by
   show bindC kindOf ((p,w)::P.zip vs) m x=_
   unfold bindC
   exact nS (i:=i) (List.nodup_cons.mp nd).2 (by simpa using h1) (by simpa using h2) hk
def start (N:List Str)(vs:List V):St:=vs.map some++List.replicate (N.length - vs.length) none
def cL (CX:i9)(P:Program)(w:World)(K:PySem.W.Frag)(mg:Str->Option Value)(base:Heap)(N:List Str)(qual:Str)(scope:Scope)(f:Addr)(cd:Value)(A:Around)(outer:List Env)(s:Shared)(H:Hp)(E:XK):Cx where
 prog:=P
 w:=w
 K:=K
 mg:=mg
 base:=base
 A:=A.deeper (envOfC qual scope s.heap.objs.size f cd)
 N:=N
 s₀:=s
 H₀:=H
 env:=envOfC qual scope s.heap.objs.size f cd
 outer:=outer
 stack:=envOfC qual scope s.heap.objs.size f cd::outer
 ex:=[]
 calm:=true
 fn:=λ_=>true
 pn:=[]
 xe:=λe s'=>wpAny (model P w) (A.deeper (envOfC qual scope s.heap.objs.size f cd)) (leaving (envOfC qual scope s.heap.objs.size f cd) e) (λ_ s''=>CX outer H s E e s'') (λe' s''=>CX outer H s E e' s'') s'
theorem aT {sc:Scope}{n:Nat}{x:Str}(h:sc.names.lookup x=some .cell):∃c,(cellsFrom n sc.names []).lookup x=some c:=by
 have q:=PySem.W.cellsFrom_some sc.names n [] (.inl h)
 exact Option.isSome_iff_exists.mp q
theorem vF {CX:i9}{P:Program}{w:World}{K:PySem.W.Frag}{mg:Str->Option Value}{base:Heap}{N ps:List Str}{qual:Str}{scope:Scope}{f:Addr}{cd:Value}{A:Around}{outer:List Env}{s s1:Shared}{H:Hp}{E:XK}{us:List Value}{vs:List V}
 (S:aC N ps scope) (hd:A.handled=none) (e0:sA P w K mg base A outer s H) (hl:vs.length=ps.length) (r:Vals vs us)
 (x:InCallC s s.heap.objs.size (bindL (envOfC qual scope s.heap.objs.size f cd).kindOf (ps.zip us) λ_=>none) (cellsFrom (s.heap.objs.size + 1) scope.names []) (bindC (envOfC qual scope s.heap.objs.size f cd).kindOf (ps.zip us) λ_=>none) s1):
 Inv (cL CX P w K mg base N qual scope f cd A outer s H E) [] (start N vs) H s1:=by
 have hpl:ps.length<=N.length:=by have:=congrArg List.length S.pre;rw [List.length_take] at this;omega
 obtain ⟨h1,tk,rfl,hk⟩:=x.done
 have noA:∀b:Addr,b∉(cL CX P w K mg base N qual scope f cd A outer s H E).ex:=λb z=>absurd (show b∈([]:List Addr) from z) (by simp)
 refine ⟨⟨e0.mod,S.kind,rfl,rfl,Nat.le_refl _,λy z c h1 h2=>?_,λy hy=>?_,λy c _ h=>?_,λ_=>hd,Around.frames_deeper e0.frames,.inr ⟨rfl,rfl⟩,λb z=>absurd z (noA b),e0.bs,e0.bsz,λb _ _=>noA b,λb z=>absurd z (noA b),e0.funs,e0.frf⟩,
  rfl,e0.bare,Un.kept hk,⟨_,x.toInCall.ns,λi y v h1 h2 h3=>?_⟩,λy c h=>⟨_,x.cell y c h⟩,e0.hok.fresh (Nat.le_refl _),λy c h=>?_,λp hp=>absurd (show p∈([]:List (Addr×Obj)) from hp) (by simp),e0.hok.kept hk,?_⟩
 ·exact name_of_addr x.apart (PySem.mem_of_lookup h1) (PySem.mem_of_lookup h2)
 ·have hy:scope.names.lookup y=some .cell∨scope.names.lookup y=some .free:=hy
  rcases hy with hy | hy
  ·exact aT hy
  ·exact absurd rfl (S.nofree _ (PySem.mem_of_lookup hy))
 ·exact Nat.le_of_lt (x.above y c (PySem.mem_of_lookup h))
 ·have hi:i < vs.length:=by
   unfold start at h2
   by_cases hi:i < vs.length
   ·exact hi
   ·rw [List.getElem?_append_right (by simpa using hi)] at h2
    rw [List.getElem?_replicate] at h2
    split at h2<;>cases h2
  have ha:vs[i]?=some v:=by
   unfold start at h2
   rw [List.getElem?_append_left (by simpa using hi),List.getElem?_map] at h2
   cases e:vs[i]? with
   | none=>rw [e] at h2;cases h2
   | some a=>rw [e] at h2;cases h2;rfl
  obtain ⟨u,hu,rv⟩:=r.get ha
  have hp:ps[i]?=some y:=by
   rw [← S.pre,List.getElem?_take_of_lt (by omega)];exact h1
  have ndP:ps.Nodup:=by rw [← S.pre];exact S.nd.sublist (List.take_sublist _ _)
  refine ⟨u,rv,?_⟩
  rcases S.par y (List.mem_of_getElem? hp) with k | k
  ·exact .inl ⟨k,nI ndP hp hu k⟩
  ·obtain ⟨c,e⟩:=aT (n:=s.heap.objs.size + 1) k
   refine .inr ⟨.inl k,c,e,?_⟩
   have q:=x.cell y c e
   rw [nS ndP hp hu (by show scope.names.lookup y≠_;rw [k];decide)] at q
   exact q
 ·exact e0.hok.fresh (Nat.le_of_lt (x.above y c (PySem.mem_of_lookup h)))
 ·unfold start
  show _=N.length
  rw [List.length_append,List.length_map,List.length_replicate]
  omega
theorem yp {CX:i9}{P:Program}{w:World}{K:PySem.W.Frag}{mg:Str->Option Value}{base:Heap}{k:Nat}{f:Addr}{name qual:Str}{params:Arguments}{body:List Stmt}{scope:Scope}{dV kV doc pm cdv ct oc:Value}{an od:Option Addr}
 {osl:Array (Option Value)} {N ps:List Str} {sp:Sp} (lk:K.lookup f=some ⟨oc,od,.func (PySem.W.fnOf name qual params body scope dV kV doc pm an cdv ct),osl⟩) (hcd:PySem.W.codeIn K cdv qual=true) (S:aC N ps scope)
 (len:∀vs H Q E,sp vs H Q E->vs.length=ps.length)
 (hbody:∀(A:Around) (outer:List Env) (s:Shared) (H:Hp) (vs:List V) (Q:VK) (E:XK),bA k (A.deeper (envOfC qual scope s.heap.objs.size f cdv))->sp vs H Q E->
  ∃t,gI (cL CX P w K mg base N qual scope f cdv A outer s H E) body t/\t {nx:=λ_ H'=>Q .non H',rt:=Q} (start N vs) H):
 eV P w K mg base CX (k + 1) f (PySem.W.fnOf name qual params body scope dV kV doc pm an cdv ct) ps sp:=by
 refine ⟨len,λA outer s H args us vs Q E hr e0 hb r hsp=>?_⟩
 have hl:=len _ _ _ _ hsp
 have KX:K.In s.heap:=e0.mod.kin.keeps λb o e=>(e0.bs b o e).1
 have lim:s.heap.NoLimit:=e0.mod.nolimit.keeps λb o e=>(e0.bs b o e).1
 have hkind:∀y∈ps.zip us,scope.names.lookup y.1=some .local∨(scope.names.lookup y.1=some .cell/\((cellsFrom (s.heap.objs.size + 1) scope.names []).lookup y.1).isSome=true):=λ⟨n,v⟩ hy=>by
  rcases S.par n (List.of_mem_zip hy).1 with q | q
  ·exact .inl q
  ·exact .inr ⟨q,PySem.W.cellsFrom_some _ _ _ (.inl q)⟩
 refine codeAny_call_function hr.depth (KX _ _ lk) rfl S.co S.gen rfl (PySem.W.codeRec_of KX hcd) (hb _ _ _ _ ?_)
 refine wpAny_newFunctionEnv_cells S.kind hkind λenv he s1 x=>?_
 subst he
 refine ⟨lim.keeps x.toInCall.keep,codeAny_func ?_⟩
 obtain ⟨t,ht,hq⟩:=hbody A outer s H vs Q E (hr.deeper _) hsp
 have I:Inv (cL CX P w K mg base N qual scope f cdv A outer s H E) [] (start N vs) H s1:=vF S hr.hd e0 hl r x
 refine wpAny_mono (ht [] s1 (start N vs) H _ I hq) (λfl s' hs=>?_) λe s' hs=>hs
 have fin:∀{σ':St} {H':Hp} {v:V} {u:Value},Inv (cL CX P w K mg base N qual scope f cdv A outer s H E) [] σ' H' s'->RelV v u->Q v H'->CE outer P w H s Q u s':=
  λ{σ' H' v u} J rv q=>⟨v,H',J.os,J.bare,J.base,J.hok,rv,q⟩
 cases fl with
 | ret u=>
   obtain ⟨v,σ',H',J,rv,q⟩:=hs
   exact fin J rv q
 | next=>
   obtain ⟨σ',H',J,q⟩:=hs
   exact fin (v:=V.non) (u:=Value.none) J rfl q
 | brk=>
   obtain ⟨_,_,_,q⟩:=hs
   exact False.elim q
 | cont=>
   obtain ⟨_,_,_,q⟩:=hs
   exact False.elim q
section
variable {X:Cx}{x:Str}{p pos:Pos}{e:Expr}{es:List Expr}{t:TA}{id T:String}{r:List V->Hp->VK->Prop}
def E9 (r:List V->Hp->VK->Prop)(t:TA):TE:=λσ H Q=>t σ H λvs H1=>r vs H1 Q
theorem da (hc:dR X (.builtin id) r)(hg:Gl X x)(hm:X.mg x=none)(hv:bootBuiltins x=some (.builtin id))(ha:PA X (e::es) t)(hn:autoParam (x≠"__name__") Fc.av)(hdb:autoParam ((x==("__debug__":Str))=false) Fc.av)
 (he:autoParam (starEach (e::es) X.env=(false,eval e X.env)::starEach es X.env) Fc.ag) (hpl:autoParam ((backTo pos (starEach es X.env)).any (·.1)=false) Fc.ag):PE X (.Call (.Name x p) (e::es) [] pos) (E9 r t):=by
 intro pins s σ H Q I h
 refine wpAny_Call_Name_kw (fN I hg hm hv ?_ hn hdb)
 exact PyProof.Rows.callWith_builtin1 (aO (ha pos pins s σ H _ I h) λus s1 ⟨vs,H1,I1,r1,q1⟩=>hc pins s1 σ H1 vs us Q I1 r1 q1) he hpl
theorem kr (hc:dR X (.type T) r)(hg:Gl X x)(hm:X.mg x=none)(hv:bootBuiltins x=some (.type T))(ha:PA X (e::es) t)(hn:autoParam (x≠"__name__") Fc.av)(hdb:autoParam ((x==("__debug__":Str))=false) Fc.av)
 (he:autoParam (starEach (e::es) X.env=(false,eval e X.env)::starEach es X.env) Fc.ag) (hpl:autoParam ((backTo pos (starEach es X.env)).any (·.1)=false) Fc.ag):PE X (.Call (.Name x p) (e::es) [] pos) (E9 r t):=by
 intro pins s σ H Q I h
 refine wpAny_Call_Name_kw (fN I hg hm hv ?_ hn hdb)
 exact PyProof.Rows.callWith_type1 (aO (ha pos pins s σ H _ I h) λus s1 ⟨vs,H1,I1,r1,q1⟩=>hc pins s1 σ H1 vs us Q I1 r1 q1) he hpl
end
end L2
namespace HT
open PySem PyProof.Rows
section
open PySem.SeqAt
open PySem.AutoSeq1 (wpAny_loadPart')
open PySem.MeetsSeq PySem.MeetsSeq2 PySem.MeetsSeq3
end
section
variable {prog:Program}{w:World}{A:Around}{E:Value->Shared->Prop}{s:Shared}
def sIx (n d:Nat):Option Int->Nat
 | none=>d
 | some v=>if v < 0 then (v + (n:Int)).toNat else min v.toNat n
theorem Cn (n d:Nat)(hd:d<=n)(o:Option Int):sIx n d o<=n:=by
 cases o with
 | none=>exact hd
 | some v=>
   show (if v < 0 then (v + (n:Int)).toNat else min v.toNat n)<=n
   by_cases hv:v < 0
   ·rw [if_pos hv];omega
   ·rw [if_neg hv];exact Nat.min_le_right _ _
theorem rE (v:Int)(n d:Nat):(if v < 0 then max (v + (n:Int)) 0 else min v (n:Int))=((sIx n d (some v):Nat):Int):=by
 show (if v < 0 then max (v + (n:Int)) 0 else min v (n:Int))=(((if v < 0 then (v + (n:Int)).toNat else min v.toNat n):Nat):Int)
 by_cases hv:v < 0
 ·simp only [if_pos hv];omega
 ·simp only [if_neg hv];omega
theorem sY (lo hi:Option Int)(n:Nat):Builtin.Slice.sliceAdjust lo hi 1 (n:Int)=(((sIx n 0 lo:Nat):Int),((sIx n n hi:Nat):Int)):=by
 have h1:¬((1:Int) < 0):=by omega
 unfold Builtin.Slice.sliceAdjust
 simp only [h1,if_false]
 refine Prod.ext ?_ ?_
 ·cases lo with
  | none=>rfl
  | some v=>exact rE v n 0
 ·cases hi with
  | none=>rfl
  | some v=>exact rE v n n
theorem sZ (i j:Nat):Builtin.Slice.slicePlaces (i:Int) (j:Int) 1=j - i:=by
 unfold Builtin.Slice.slicePlaces
 have h1:(1:Int) > 0:=by omega
 simp only [h1,if_true,Int.ediv_one]
 split<;>omega
theorem mV {v:Value}{o:Option Int}{Q:Option Int->Shared->Prop}(p:IsPart v o)(h:Q o s):wpAny (model prog w) A (Builtin.Slice.slicePartIndex v) Q E s:=by
 cases p with
 | none=>exact slicePart_none h
 | int i t=>exact slicePart_int h
theorem lq {sl:Addr}{vl vu:Value}{lo hi:Option Int}{n:Nat}{Q:Int×Int×Nat->Shared->Prop}(hs:s.heap.IsSliceOf sl vl vu .none)(pl:IsPart vl lo)(pu:IsPart vu hi)
 (h:Q (((sIx n 0 lo:Nat):Int),1,sIx n n hi - sIx n 0 lo) s):wpAny (model prog w) A (Builtin.Slice.sliceApplied (.ref sl) (pure (n:Int))) Q E s:=by
 obtain ⟨os,hos,hcs,hds⟩:=id hs
 unfold Builtin.Slice.sliceApplied Builtin.Slice.sliceFields
 refine wpAny_bind (wpAny_bind (wpAny_field hos hds (x:=vl) rfl (wpAny_bind (wpAny_field hos hds (x:=vu) rfl (wpAny_bind (wpAny_field hos hds (x:=.none) rfl (wpAny_pure ?_)))))))
 refine wpAny_bind (slicePart_none ?_)
 show wpAny _ _ (if ((1:Int)==0)=true then _ else _) _ _ s
 rw [if_neg (by decide)]
 refine wpAny_bind (mV pl (wpAny_bind (mV pu (wpAny_bind (wpAny_pure ?_)))))
 show wpAny _ _ (match Builtin.Slice.sliceAdjust lo hi 1 (n:Int) with | (lo,hi)=>pure (lo,(1:Int),Builtin.Slice.slicePlaces lo hi 1)) _ _ s
 rw [sY lo hi n]
 show wpAny _ _ (pure (((sIx n 0 lo:Nat):Int),(1:Int),Builtin.Slice.slicePlaces ((sIx n 0 lo:Nat):Int) ((sIx n n hi:Nat):Int) 1)) _ _ s
 rw [sZ]
 exact wpAny_pure h
theorem xn (xs:Array Value)(i k:Nat):((List.range k).filterMap λ(m:Nat)=>xs[((i:Int) + (m:Int) * 1).toNat]?).toArray=((xs.toList.drop i).take k).toArray:=by
 have e:(λ(m:Nat)=>xs[((i:Int) + (m:Int) * 1).toNat]?)=λm=>xs[i + m]?:=by
  funext m
  have:((i:Int) + (m:Int) * 1).toNat=i + m:=by omega
  rw [this]
 rw [e]
 have:=pick_run xs i k
 rw [List.filterMap_map] at this
 have e2:((λx=>xs[x]?) ∘ λx=>i + x)=λm=>xs[i + m]?:=rfl
 rw [e2] at this
 rw [this]
theorem kK {t sl:Addr}{items:Array Value}{vl vu:Value}{lo hi:Option Int}{Q:Value->Shared->Prop}(ht:IsTup s.heap t items)(hs:s.heap.IsSliceOf sl vl vu .none)(pl:IsPart vl lo)(pu:IsPart vu hi)
 (hw:¬(sIx items.size 0 lo=0/\sIx items.size items.size hi=items.size))
 (h:Q (.ref s.heap.objs.size) {s with heap:=s.heap.push {cls:=.type "tuple",data:=.seq ((items.toList.drop (sIx items.size 0 lo)).take (sIx items.size items.size hi - sIx items.size 0 lo)).toArray}})
 (hsz:items.size<=sizeLine):wpAny (model prog w) A (getItem (.ref t) (.ref sl)) Q E s:=by
 have htake:sizeOk (.seq ((items.toList.drop (sIx items.size 0 lo)).take (sIx items.size items.size hi - sIx items.size 0 lo)).toArray):=by
  show ((items.toList.drop (sIx items.size 0 lo)).take (sIx items.size items.size hi - sIx items.size 0 lo)).toArray.size<=sizeLine
  rw [List.size_toArray,List.length_take,List.length_drop,Array.length_toList]
  omega
 have hj:sIx items.size items.size hi<=items.size:=Cn _ _ (Nat.le_refl _) hi
 obtain ⟨os,hos,hcs,hds⟩:=id hs
 have hTs:s.TypeIs (.ref sl) "slice":=⟨os,hos,hcs⟩
 unfold getItem
 try with_reducible refine wpAny_holding ?_
 first | refine wpAny_bind (wpAny_pure ?_) | skip
 refine wpAny_bind (wpAny_sequenceKey ht.typeIs (by decide) ?_)
 refine wpAny_bind (wpAny_callSpecial?_slot (name:=Str.ofString "__getitem__") ht.typeIs PyProof.Rows.slot_tuple_getitem
  (wpAny_call_entry PyProof.Rows.slot_tuple_getitem ht.typeIs entry_tuple_getitem ?_ (args_tuple_getitem _ _)))
 show wpAny _ _ (Builtin.Tuple.tupleItemsOf (.ref t) >>=_) _ _ s
 refine wpAny_bind (tupleItemsOf_ ht ?_)
 refine wpAny_bind (wpAny_typeOf hTs ?_)
 rw [if_pos (by decide)]
 refine wpAny_bind (lq hs pl pu ?_)
 have hno:¬((((sIx items.size 0 lo:Nat):Int)==0&&(1:Int)==1&&(sIx items.size items.size hi - sIx items.size 0 lo)==items.size)=true):=by
  intro q
  rw [Bool.and_eq_true,Bool.and_eq_true] at q
  have q1:((sIx items.size 0 lo:Nat):Int)=0:=eq_of_beq q.1.1
  have q2:sIx items.size items.size hi - sIx items.size 0 lo=items.size:=eq_of_beq q.2
  exact hw ⟨by omega,by omega⟩
 show wpAny _ _ (if (((sIx items.size 0 lo:Nat):Int)==0&&(1:Int)==1&&(sIx items.size items.size hi - sIx items.size 0 lo)==items.size)=true then _ else _) _ _ s
 rw [if_neg hno,xn]
 first
  | exact wpAny_bind (m:=Builtin.Tuple.tupleExact _) (wpAny_newObj_type (wpAny_pure ⟨_,rfl,wpAny_pure h⟩) htake)
  | exact wpAny_bind (m:=Builtin.Tuple.tupleExact _) (wpAny_newObj_type (wpAny_bind (wpAny_pure (wpAny_pure ⟨_,rfl,wpAny_pure h⟩))) htake)
  | exact wpAny_bind (wpAny_bind (m:=Builtin.Tuple.tupleExact _) (wpAny_newObj_type (wpAny_pure (wpAny_pure ⟨_,rfl,wpAny_pure h⟩)) htake))
  | exact wpAny_bind (wpAny_bind (m:=Builtin.Tuple.tupleExact _) (wpAny_newObj_type (wpAny_pure ⟨_,rfl,wpAny_pure h⟩) htake))
end
end HT
namespace L2
open PySem PySem.Spec PyProof.Rows
abbrev TO:=St->Hp->(Option Int->Hp->Prop)->Prop
def PO (X:Cx)(e:Option Expr)(t:TO):Prop:=
 ∀(pins:List (Addr×Obj)) (s:Shared) (σ:St) (H:Hp) (Q:Option Int->Hp->Prop),Inv X pins σ H s->t σ H Q->
  wpAny (model X.prog X.w) X.A (evalPart e X.env) (λu s'=>∃o H',Inv X pins σ H' s'/\IsPart u o/\Q o H') X.xe s
def yR:TO:=λ_ H Q=>Q none H
def D5 (t:TE):TO:=λσ H Q=>t σ H λx H1=>∃i,x= .int i/\Q (some i) H1
theorem intsAre_of {ns:List Int}:∀{us:List Value},Vals (ns.map V.int) us->IntsAre us ns:=by
 induction ns with
 | nil=>intro us r;rw [List.map_nil] at r;cases r;exact .nil
 | cons n ns ih=>
   intro us r
   rw [List.map_cons] at r
   cases r with
   | cons r1 r2=>
     obtain ⟨t,e⟩:=r1
     subst e
     exact .cons n t (ih r2)
section
variable {X:Cx}{e:Expr}{te:TE}{lo hi:Option Expr}{tl th:TO}{pos p2:Pos}
theorem rA:PO X none yR:=by
 intro pins s σ H Q I h
 rw [evalPart_none]
 exact wpAny_pure ⟨none,H,I,.none,h⟩
theorem kF (h:PE X e te):PO X (some e) (D5 te):=by
 intro pins s σ H Q I hw
 rw [evalPart_some]
 refine aO (h pins s σ H _ I hw) λu s1 ⟨x,H1,I1,r1,q1⟩=>?_
 obtain ⟨i,rfl,q⟩:=q1
 obtain ⟨t,rfl⟩:=r1
 exact ⟨some i,H1,I1,.int i t,q⟩
def BL (X:Cx)(r:V->Option Int->Option Int->Hp->VK->Prop):Prop:=
 ∀(pins:List (Addr×Obj)) (s:Shared) (σ:St) (H:Hp) (x:V) (v vl vu:Value) (lo hi:Option Int) (sl:Addr) (Q:VK),Inv X pins σ H s->RelV x v->s.heap.IsSliceOf sl vl vu .none->IsPart vl lo->IsPart vu hi->r x lo hi H Q->
  ∃T id,typeLookup (.type T) "__getitem__"=pure (some (.builtin id))/\s.TypeIs v T/\wpAny (model X.prog X.w) X.A (getItem v (.ref sl)) (EP X pins σ Q) X.xe s
def tSl (r:V->Option Int->Option Int->Hp->VK->Prop)(te:TE)(tl th:TO):TE:=λσ H Q=>te σ H λx H1=>tl σ H1 λl H2=>th σ H2 λu H3=>r x l u H3 Q
theorem lO {r:V->Option Int->Option Int->Hp->VK->Prop}(hr:BL X r)(he:PE X e te)(hl:PO X lo tl)(hu:PO X hi th):PE X (.Subscript e (.Slice lo hi none p2) pos) (tSl r te tl th):=by
 intro pins s σ H Q I h
 refine Subscript_ (aO (he pins s σ H _ I h) λv s1 ⟨x,H1,I1,r1,q1⟩=>?_)
 refine wpAny_Slice (aO (hl pins s1 σ H1 _ I1 q1) λvl s2 ⟨l,H2,I2,pl,q2⟩=>aO (hu pins s2 σ H2 _ I2 q2) λvu s3 ⟨u,H3,I3,pu,q3⟩=>?_)
 rw [evalPart_none]
 refine wpAny_pure ?_
 have I4:Inv X pins σ H3 {s3 with heap:=s3.heap.push {cls:=.type "slice",data:=.fields #[vl,vu,.none]}}:=I3.kept (t':=s3.toks) λb ob q=>Heap.get?_push_of_some _ q
 obtain ⟨T,id,hT,ht,hg⟩:=hr pins {s3 with heap:=s3.heap.push {cls:=.type "slice",data:=.fields #[vl,vu,.none]}} σ H3 x v vl vu l u s3.heap.objs.size Q I4 r1 (Heap.IsSliceOf.new ..) pl pu q3
 show wpAny (model X.prog X.w) X.A (subscriptTail e (.Slice lo hi none p2) v (.ref s3.heap.objs.size)) (EP X pins σ Q) X.xe {s3 with heap:=s3.heap.push {cls:=.type "slice",data:=.fields #[vl,vu,.none]}}
 exact tail_any (ops:=[.ref s3.heap.objs.size,v]) ht hT hg (by with_unfolding_all rfl)
def lM (xs:List V)(lo hi:Option Int):List V:=(xs.drop (HT.sIx xs.length 0 lo)).take (HT.sIx xs.length xs.length hi - HT.sIx xs.length 0 lo)
theorem kQ (xs:List V)(lo hi:Option Int):(lM xs lo hi).length<=xs.length:=by
 unfold lM
 rw [List.length_take,List.length_drop]
 omega
def FO (K:PySem.W.Frag):V->Option Int->Option Int->Hp->VK->Prop:=λx lo hi H Q=>∃a xs,x= .ref a/\dY K H a xs/\
 ¬(HT.sIx xs.length 0 lo=0/\HT.sIx xs.length xs.length hi=xs.length)/\∀p,H p=none->Q (.ref p) (upd H p (.tup (lM xs lo hi)))
theorem vx:BL X (FO X.K):=by
 intro pins s σ H x v vl vu lo hi sl Q I rx hs pl pu h
 obtain ⟨a,xs,rfl,hx,hw,q⟩:=h
 cases rx
 obtain ⟨its,r,ht,hz⟩:=I.tuple hx
 have hlen:its.toArray.size=xs.length:=by rw [List.size_toArray];exact r.length.symm
 refine ⟨"tuple",_,PyProof.Rows.slot_tuple_getitem.lookup,ht.typeIs,?_⟩
 refine HT.kK ht hs pl pu (by rw [hlen];exact hw) ?_ (by rw [hlen];exact hz)
 rw [hlen]
 refine ⟨.ref s.heap.objs.size,_,I.laid (t':=s.toks) (o:=.tup (lM xs lo hi)) (λb ob q=>Heap.get?_push_of_some _ q) (Nat.le_refl _) ?_,rfl,q _ (I.hok.fresh (Nat.le_refl _))⟩
 exact ⟨Nat.le_trans (kQ xs lo hi) hz,_,(r.drop (HT.sIx xs.length 0 lo)).take (HT.sIx xs.length xs.length hi - HT.sIx xs.length 0 lo),IsTup.new _ _⟩
end
section
variable {α:Type}
def dO (n:Nat)(i:Int):Option Nat:=if 0<=i then (if i < n then some i.toNat else none) else if -(n:Int)<=i then some (i + n).toNat else none
def bW (xs:List α)(i:Int):Option α:=(dO xs.length i).bind λj=>xs[j]?
theorem nu {n:Nat}{i:Int}{j:Nat}(h:dO n i=some j):seqIndex? i n=some j/\j < n/\ -(n:Int)<=i/\i < n:=by
 unfold dO at h
 by_cases h0:0<=i
 ·rw [if_pos h0] at h
  by_cases h1:i < n
  ·rw [if_pos h1] at h
   have e:i.toNat=j:=Option.some.inj h
   exact ⟨by rw [seqIndex_of h0 h1,e],by omega,by omega,h1⟩
  ·rw [if_neg h1] at h;cases h
 ·rw [if_neg h0] at h
  by_cases h1: -(n:Int)<=i
  ·rw [if_pos h1] at h
   have e:(i + n).toNat=j:=Option.some.inj h
   exact ⟨by rw [seqIndex_neg (by omega) h1,e],by omega,h1,by omega⟩
  ·rw [if_neg h1] at h;cases h
theorem m8 {xs:List α}{i:Int}{v:α}(h:bW xs i=some v):∃j,seqIndex? i xs.length=some j/\xs[j]?=some v/\j < xs.length/\ -(xs.length:Int)<=i/\i < xs.length:=by
 unfold bW at h
 cases e:dO xs.length i with
 | none=>rw [e] at h;cases h
 | some j=>
   rw [e] at h
   obtain ⟨h1,h2,h3,h4⟩:=nu e
   exact ⟨j,h1,h,h2,h3,h4⟩
theorem zb {xs:List α}{j:Nat}{v:α}(h:xs[j]?=some v):bW xs (j:Int)=some v:=by
 have hj:j < xs.length:=(List.getElem?_eq_some_iff.mp h).1
 have e:dO xs.length (j:Int)=some j:=by
  unfold dO
  rw [if_pos (by omega),if_pos (by omega)];simp
 unfold bW;rw [e];exact h
def dD (b:Expr):Prop:=∀o i,subscripted b false o i=operate [o,i] (getItem o i)
def AZ (X:Cx)(r:R2):Prop:=
 ∀(value slice:Expr) (pins:List (Addr×Obj)) (s:Shared) (σ:St) (H:Hp) (x y:V) (v u:Value) (Q:VK),Inv X pins σ H s->RelV x v->RelV y u->r x y H Q->
  subscripted slice false v u=operate [v,u] (getItem v u)->wpAny (model X.prog X.w) X.A (subscriptTail value slice v u) (EP X pins σ Q) X.xe s
def AI (X:Cx)(id:String)(r:V->List V->Hp->VK->Prop):Prop:=
 ∀(pins:List (Addr×Obj)) (s:Shared) (σ:St) (H:Hp) (x:V) (xs:List V) (v:Value) (us:List Value) (Q:VK),Inv X pins σ H s->RelV x v->Vals xs us->r x xs H Q->
  wpAny (model X.prog X.w) X.A (call (.builtin id) (v::us)) (EP X pins σ Q) X.xe s
end
section
variable {X:Cx}{a b:Expr}{ta tb:TE}{pos:Pos}
theorem gO {r:R2}(hr:AZ X r)(ha:PE X a ta)(hb:PE X b tb)(hs:dD b):PE X (.Subscript a b pos) (xD r ta tb):=by
 intro pins s σ H Q I h
 exact Subscript_ (vW ha hb I h λv u s2 x y H2 I2 rx ry q=>hr a b pins s2 σ H2 x y v u Q I2 rx ry q (hs _ _))
def FR (K:PySem.W.Frag):R2:=λx y H Q=>∃p xs i v,x= .ref p/\y= .int i/\aL K H p xs/\bW xs i=some v/\Q v H
def FV (K:PySem.W.Frag):R2:=λx y H Q=>∃p xs i v,x= .ref p/\y= .int i/\dY K H p xs/\bW xs i=some v/\Q v H
theorem fA:AZ X (FR X.K):=by
 intro value slice pins s σ H x y v u Q I rx ry h hs
 obtain ⟨p,xs,i,z,rfl,rfl,hq,he,q⟩:=h
 cases rx
 obtain ⟨t,rfl⟩:=ry
 obtain ⟨its,r,pl,hz⟩:=I.list hq
 obtain ⟨j,h1,h2,h3,h4,h5⟩:=m8 he
 obtain ⟨w,ew,rw'⟩:=r.get h2
 have hl:=r.length
 have hn:=iV
 have fin:EP X pins σ Q w s:=⟨z,H,I,rw',q⟩
 by_cases h0:0<=i
 ·have hj:i.toNat=j:=by
   rw [seqIndex_of h0 h5] at h1
   exact Option.some.inj h1
  exact item_listR pl.isList h0 (by omega) (by rw [hj];simpa using ew) fin hs
 ·have hj:(i + (its.toArray.size:Int)).toNat=j:=by
   rw [seqIndex_neg (by omega) h4] at h1
   rw [List.size_toArray,← hl]
   exact Option.some.inj h1
  exact subscriptTail_builtinR (x:=w) pl.isList.typeIs slot_list_getitem.lookup
   (wpAny_getItem_list_neg (Q:=λr s'=>r=w/\EP X pins σ Q r s') pl.isList (by omega) (by rw [List.size_toArray]<;>omega) (by omega) (by rw [hj];simpa using ew) ⟨rfl,fin⟩) hs
theorem Bq:AZ X (FV X.K):=by
 intro value slice pins s σ H x y v u Q I rx ry h hs
 obtain ⟨p,xs,i,z,rfl,rfl,hq,he,q⟩:=h
 cases rx
 obtain ⟨t,rfl⟩:=ry
 obtain ⟨its,r,pl,hz⟩:=I.tuple hq
 obtain ⟨j,h1,h2,h3,h4,h5⟩:=m8 he
 obtain ⟨w,ew,rw'⟩:=r.get h2
 have hl:=r.length
 have hn:=iV
 have fin:EP X pins σ Q w s:=⟨z,H,I,rw',q⟩
 exact subscriptTail_builtinR (x:=w) pl.typeIs slot_tuple_getitem.lookup
  (getItem_tuple (j:=j) (Q:=λr s'=>r=w/\EP X pins σ Q r s') pl (by omega) (by omega) (by rw [List.size_toArray,← hl];exact h1) (by simpa using ew) ⟨rfl,fin⟩) hs
theorem sP (its:List Value)(n j:Nat)(u:Value):Obj.mapSeq (·.setIfInBounds j u) {cls:=.type "list",data:=.seq its.toArray n}={cls:=.type "list",data:=.seq (its.set j u).toArray n}:=by
 simp [Obj.mapSeq]
theorem Inv.lst {pins:List (Addr×Obj)}{σ:St}{H:Hp}{s:Shared}{p:Addr}{xs:List V}(I:Inv X pins σ H s)(h:H p=some (.lst xs)):
 ∃(its:List Value) (n:Nat),Vals xs its/\s.heap.get? p=some {cls:=.type "list",data:=.seq its.toArray n}/\xs.length<=sizeLine:=by
 obtain ⟨z,its,n,r,e⟩:=I.hok p _ h
 exact ⟨its,n,r,e,z⟩
theorem Inv.Bp {pins:List (Addr×Obj)}{σ:St}{H:Hp}{s:Shared}{p:Addr}{xs ys:List V}{its its':List Value}{n n':Nat}{f:Obj->Obj}(I:Inv X pins σ H s)(h:H p=some (.lst xs))
 (ho:s.heap.get? p=some {cls:=.type "list",data:=.seq its.toArray n}) (hf:f {cls:=.type "list",data:=.seq its.toArray n}={cls:=.type "list",data:=.seq its'.toArray n'}) (r:Vals ys its') (hz:ys.length<=sizeLine) (t:Nat):
 Inv X pins σ (upd H p (.lst ys)) {s with heap:=s.heap.update p f,toks:=t}:=by
 have e:(s.heap.update p f).get? p=some {cls:=.type "list",data:=.seq its'.toArray n'}:=by
  rw [Heap.get?_update_self f ho (by rw [hf]<;>rfl),hf]
 refine I.write (x:=p) (e:=p) (by rw [h];trivial) (.inl rfl) (λb u hb q=>(Heap.get?_update_other _ _ (Ne.symm hb)).trans q) ⟨_,e⟩ ?_
 exact ⟨hz,its',n',r,e⟩
def Df:V->V->V->Hp->(Hp->Prop)->Prop:=λo i v H Q=>∃p xs k j,o= .ref p/\i= .int k/\H p=some (.lst xs)/\dO xs.length k=some j/\Q (upd H p (.lst (xs.set j v)))
theorem set_list:wF X Df:=by
 intro pins s σ H o i v ov iv u Q I ro ri rv h
 obtain ⟨p,xs,k,j,rfl,rfl,hp,hj,q⟩:=h
 cases ro
 obtain ⟨t,rfl⟩:=ri
 obtain ⟨its,n,r,ho,hz⟩:=I.lst hp
 obtain ⟨h1,h2,h3,h4⟩:=nu hj
 have hl:=r.length
 have hn:=iV
 have I':Inv X pins σ (upd H p (.lst (xs.set j v))) {s with heap:=s.heap.update p (Obj.mapSeq (·.setIfInBounds j u))}:=
  I.Bp hp ho (sP its n j u) (r.set rv j) (by rw [List.length_set];exact hz) s.toks
 by_cases h0:0<=k
 ·have hk:k.toNat=j:=by
   rw [seqIndex_of h0 h4] at h1
   exact Option.some.inj h1
  exact PySem.W.ki_setAt ho h0 (by omega) (by rw [List.size_toArray,← hl];exact h4) (by rw [hk];exact ⟨_,I',q⟩)
 ·have hk:(k + (its.toArray.size:Int)).toNat=j:=by
   rw [seqIndex_neg (by omega) h3] at h1
   rw [List.size_toArray,← hl]
   exact Option.some.inj h1
  exact PySem.W.ki_setBack ho (by omega) (by rw [List.size_toArray,← hl];exact h3) (by omega) (by rw [hk];exact ⟨_,I',q⟩)
theorem pG (lo hi:Option Int)(n:Nat):(sliceBounds lo hi none n).1=((HT.sIx n 0 lo:Nat):Int)/\(sliceBounds lo hi none n).2.1=((HT.sIx n n hi:Nat):Int)/\(sliceBounds lo hi none n).2.2=1:=by
 refine ⟨?_,?_,rfl⟩
 ·cases lo with
  | none=>simp [sliceBounds,HT.sIx]
  | some i=>
    simp only [sliceBounds,HT.sIx,Option.getD_none,show (1:Int) > 0 by decide,if_true]
    by_cases h:i < 0
    ·simp only [h,if_true]<;>omega
    ·simp only [h,if_false]<;>omega
 ·cases hi with
  | none=>simp [sliceBounds,HT.sIx]
  | some i=>
    simp only [sliceBounds,HT.sIx,Option.getD_none,show (1:Int) > 0 by decide,if_true]
    by_cases h:i < 0
    ·simp only [h,if_true]<;>omega
    ·simp only [h,if_false]<;>omega
theorem ow (its:List Value)(lo hi:Option Int):slicePick its.toArray lo hi none=((its.drop (HT.sIx its.length 0 lo)).take (HT.sIx its.length its.length hi - HT.sIx its.length 0 lo)).toArray:=by
 obtain ⟨h1,h2,h3⟩:=pG lo hi its.toArray.size
 unfold slicePick
 rw [h1,h2,h3]
 simp only [sliceRange_one,pick_run,List.size_toArray]<;>rfl
def F4 (K:PySem.W.Frag):V->Option Int->Option Int->Hp->VK->Prop:=λx lo hi H Q=>∃a xs,x= .ref a/\aL K H a xs/\∀p,H p=none->Q (.ref p) (upd H p (.lst (lM xs lo hi)))
theorem yM:BL X (F4 X.K):=by
 intro pins s σ H x v vl vu lo hi sl Q I rx hs pl pu h
 obtain ⟨a,xs,rfl,hx,q⟩:=h
 cases rx
 obtain ⟨its,r,ht,hz⟩:=I.list hx
 have hlen:=r.length
 refine ⟨"list",_,slot_list_getitem.lookup,ht.isList.typeIs,?_⟩
 refine wpAny_getItem_list_slice ht.isList hs pl pu .none (by simp) ?_ (by rw [List.size_toArray]<;>omega)
 rw [ow,← hlen]
 refine ⟨.ref s.heap.objs.size,_,I.laid (t':=s.toks) (o:=.lst (lM xs lo hi)) (λb ob q=>Heap.get?_push_of_some _ q) (Nat.le_refl _) ?_,rfl,q _ (I.hok.fresh (Nat.le_refl _))⟩
 exact ⟨Nat.le_trans (kQ xs lo hi) hz,_,0,(r.drop (HT.sIx xs.length 0 lo)).take (HT.sIx xs.length xs.length hi - HT.sIx xs.length 0 lo),Heap.get?_push_size _ rfl⟩
def gn:V->Bool
 | .non=>true
 | .bl _=>true
 | .int _=>true
 | .str _=>true
 | _=>false
def kP:V->V->Bool
 | .non,.non=>true
 | .bl a,.bl b=>a==b
 | .bl a,.int b=>(if a then 1 else 0)==b
 | .int a,.bl b=>a==(if b then 1 else 0)
 | .int a,.int b=>a==b
 | .str a,.str b=>a==b
 | _,_=>false
theorem zU {A:Around}{s:Shared}{y x:V}{u v:Value}(ry:RelV y u)(rx:RelV x v)(fy:gn y=true)(fx:gn x=true):SeqAt.EqAt A s u v (kP y x):=by
 cases y with
 | non=>
   cases ry
   cases x with
   | non=>cases rx;exact SeqAt.EqAt.same _
   | bl b=>cases rx;exact SeqAt.EqAt.none_bool b
   | int b=>obtain ⟨t,rfl⟩:=rx;exact SeqAt.EqAt.none_int b t
   | str b=>obtain ⟨t,rfl⟩:=rx;exact SeqAt.EqAt.none_str b t
   | _=>exact absurd (show false=true from fx) Bool.false_ne_true
 | bl a=>
   cases ry
   cases x with
   | non=>cases rx;exact SeqAt.EqAt.bool_none a
   | bl b=>cases rx;exact SeqAt.EqAt.bool_bool a b
   | int b=>obtain ⟨t,rfl⟩:=rx;exact SeqAt.EqAt.bool_int a b t
   | str b=>obtain ⟨t,rfl⟩:=rx;exact SeqAt.EqAt.bool_str a b t
   | _=>exact absurd (show false=true from fx) Bool.false_ne_true
 | int a=>
   obtain ⟨t',rfl⟩:=ry
   cases x with
   | non=>cases rx;exact SeqAt.EqAt.int_none a t'
   | bl b=>cases rx;exact SeqAt.EqAt.int_bool a t' b
   | int b=>obtain ⟨t,rfl⟩:=rx;exact SeqAt.EqAt.int_int a t' b t
   | str b=>obtain ⟨t,rfl⟩:=rx;exact SeqAt.EqAt.int_str a t' b t
   | _=>exact absurd (show false=true from fx) Bool.false_ne_true
 | str a=>
   obtain ⟨t',rfl⟩:=ry
   cases x with
   | non=>cases rx;exact SeqAt.EqAt.str_none a t'
   | bl b=>cases rx;exact SeqAt.EqAt.str_bool a t' b
   | int b=>obtain ⟨t,rfl⟩:=rx;exact SeqAt.EqAt.str_int a t' b t
   | str b=>obtain ⟨t,rfl⟩:=rx;exact SeqAt.EqAt.str_str a t' b t
   | _=>exact absurd (show false=true from fx) Bool.false_ne_true
 | _=>exact absurd (show false=true from fy) Bool.false_ne_true
def ig (x:V)(u:Value):Bool:=match u with
 | .none=>kP .non x
 | .bool b=>kP (.bl b) x
 | .int i _=>kP (.int i) x
 | .str z _=>kP (.str z) x
 | _=>false
theorem vI {x y:V}{u:Value}(r:RelV y u)(f:gn y=true):ig x u=kP y x:=by
 cases y with
 | non=>cases r;rfl
 | bl b=>cases r;rfl
 | int i=>obtain ⟨t,rfl⟩:=r;rfl
 | str z=>obtain ⟨t,rfl⟩:=r;rfl
 | _=>exact absurd (show false=true from f) Bool.false_ne_true
theorem jc {x:V}:∀{xs:List V} {us:List Value},Vals xs us->xs.all gn=true->us.any (ig x)=xs.any λy=>kP y x
 | _,_,.nil,_=>rfl
 | y::xs,u::us,.cons r t,f=>by
   rw [List.all_cons,Bool.and_eq_true] at f
   rw [List.any_cons,List.any_cons,vI r f.1,jc t f.2]
theorem gX {A:Around}{s:Shared}{x:V}{v:Value}(rx:RelV x v)(fx:gn x=true):∀{xs:List V} {us:List Value},Vals xs us->xs.all gn=true->∀u∈us,SeqAt.EqAt A s u v (ig x u)
 | _,_,.nil,_=>λu hu=>by cases hu
 | y::xs,u::us,.cons r t,f=>λu' hu=>by
   rw [List.all_cons,Bool.and_eq_true] at f
   rcases List.mem_cons.mp hu with rfl | hu
   ·rw [vI r f.1];exact zU r rx f.1 fx
   ·exact gX rx fx t f.2 u' hu
def rO (x:V)(xs:List V):Bool:=xs.any λy=>kP y x
def z9 (K:PySem.W.Frag)(neg:Bool):R2:=λx y H Q=>∃p xs,y= .ref p/\(aL K H p xs∨dY K H p xs)/\gn x=true/\xs.all gn=true/\Q (.bl (if neg then !rO x xs else rO x xs)) H
theorem uM:dJ X (compareOp .In) (z9 X.K false):=by
 intro pins s σ H x y v u Q I rx ry h
 obtain ⟨p,xs,rfl,hq,fx,fs,q⟩:=h
 cases ry
 rcases hq with hq | hq
 ·obtain ⟨its,r,pl,hz⟩:=I.list hq
  refine SeqAt.in_listAt (ig x) pl.isList (λw hw=>gX rx fx r fs w (by simpa using hw)) ⟨.bl _,H,I,rfl,?_⟩
  rw [show its.toArray.any (ig x)=its.any (ig x) by simp,jc r fs]
  exact q
 ·obtain ⟨its,r,pl,hz⟩:=I.tuple hq
  refine SeqAt.in_tupleAt (ig x) pl (λw hw=>gX rx fx r fs w (by simpa using hw)) ⟨.bl _,H,I,rfl,?_⟩
  rw [show its.toArray.any (ig x)=its.any (ig x) by simp,jc r fs]
  exact q
theorem ie:dJ X (compareOp .NotIn) (z9 X.K true):=by
 intro pins s σ H x y v u Q I rx ry h
 obtain ⟨p,xs,rfl,hq,fx,fs,q⟩:=h
 cases ry
 rcases hq with hq | hq
 ·obtain ⟨its,r,pl,hz⟩:=I.list hq
  refine SeqAt.notIn_listAt (ig x) pl.isList (λw hw=>gX rx fx r fs w (by simpa using hw)) ⟨.bl _,H,I,rfl,?_⟩
  rw [show its.toArray.any (ig x)=its.any (ig x) by simp,jc r fs]
  exact q
 ·obtain ⟨its,r,pl,hz⟩:=I.tuple hq
  refine SeqAt.notIn_tupleAt (ig x) pl (λw hw=>gX rx fx r fs w (by simpa using hw)) ⟨.bl _,H,I,rfl,?_⟩
  rw [show its.toArray.any (ig x)=its.any (ig x) by simp,jc r fs]
  exact q
theorem eJ:dR X (.builtin "len") (λxs H Q=>∃p ys,xs=[.ref p]/\(aL X.K H p ys∨dY X.K H p ys)/\Q (.int ys.length) H):=by
 intro pins s σ H xs us Q I r h
 obtain ⟨p,ys,rfl,hq,q⟩:=h
 obtain ⟨u,rfl,rx⟩:=vals1 r
 cases rx
 have hn:=iV
 rcases hq with hq | hq
 ·obtain ⟨its,r',pl,hz⟩:=I.list hq
  have hlen:=r'.length
  exact Calls.call_len_list pl.isList (by simp only [List.size_toArray]<;>omega) ⟨.int ys.length,H,I.tok _,⟨s.toks + 1,by rw [List.size_toArray,hlen]⟩,q⟩
 ·obtain ⟨its,r',pl,hz⟩:=I.tuple hq
  have hlen:=r'.length
  exact len_tuple pl (by simp only [List.size_toArray]<;>omega) ⟨.int ys.length,H,I.tok _,⟨s.toks + 1,by rw [List.size_toArray,hlen]⟩,q⟩
theorem o9:dR X (.type "list") (λxs H Q=>∃p ys,xs=[.ref p]/\(aL X.K H p ys∨dY X.K H p ys)/\∀l,H l=none->Q (.ref l) (upd H l (.lst ys))):=by
 intro pins s σ H xs us Q I r h
 obtain ⟨p,ys,rfl,hq,q⟩:=h
 obtain ⟨u,rfl,rx⟩:=vals1 r
 cases rx
 have fin:∀(its:List Value),Vals ys its->ys.length<=sizeLine->∀(h':Heap) (c':Nat),(∀b o',s.heap.get? b=some o'->h'.get? b=some o')->
  h'.get? s.heap.objs.size=some {cls:=.type "list",dict:=none,data:=.seq its.toArray c',slots:= #[]}->EP X pins σ Q (.ref s.heap.objs.size) {s with heap:=h'}:=λits r' hz h' c' kp e=>
  ⟨.ref s.heap.objs.size,_,I.laid (t':=s.toks) kp (Nat.le_refl _) (show bT X.prog X.w _ h' _ (.lst ys) from ⟨hz,its,c',r',e⟩),rfl,q _ (I.hok.fresh (Nat.le_refl _))⟩
 rcases hq with hq | hq
 ·obtain ⟨its,r',pl,hz⟩:=I.list hq
  have hlen:=r'.length
  obtain ⟨o,ho,hc,n,hd⟩:=pl.isList
  exact call_list_seq p (.inl rfl) ho hc hd (λh' c' kp e=>fin its r' hz h' c' kp e) (by simp only [List.size_toArray]<;>omega)
 ·obtain ⟨its,r',pl,hz⟩:=I.tuple hq
  have hlen:=r'.length
  obtain ⟨o,ho,hc,n,hd⟩:=pl
  exact call_list_seq p (.inr rfl) ho hc hd (λh' c' kp e=>fin its r' hz h' c' kp e) (by simp only [List.size_toArray]<;>omega)
theorem oz:dR X (.type "tuple") (λxs H Q=>∃p ys,xs=[.ref p]/\((aL X.K H p ys/\∀l,H l=none->Q (.ref l) (upd H l (.tup ys)))∨(dY X.K H p ys/\Q (.ref p) H))):=by
 intro pins s σ H xs us Q I r h
 obtain ⟨p,ys,rfl,h⟩:=h
 obtain ⟨u,rfl,rx⟩:=vals1 r
 cases rx
 rcases h with ⟨hq,q⟩ | ⟨hq,q⟩
 ·obtain ⟨its,r',pl,hz⟩:=I.list hq
  have hlen:=r'.length
  refine call_tuple_list pl.isList (λh' kp=>?_) (by simp only [List.size_toArray]<;>omega)
  have I1:Inv X pins σ H {s with heap:=h'}:=I.kept (t':=s.toks) kp
  have I2:Inv X pins σ (upd H h'.objs.size (.tup ys)) {s with heap:=h'.push {cls:=.type "tuple",data:=.seq its.toArray}}:=
   I1.laid (t':=s.toks) (λb o e=>Heap.get?_push_of_some _ e) (Nat.le_refl _) (show bT X.prog X.w _ _ _ (.tup ys) from ⟨hz,its,r',IsTup.new _ _⟩)
  exact ⟨.ref h'.objs.size,_,I2,rfl,q _ (I1.hok.fresh (Nat.le_refl _))⟩
 ·obtain ⟨its,r',pl,hz⟩:=I.tuple hq
  exact call_tuple_same pl ⟨.ref p,H,I,rfl,q⟩
def Cr (K:PySem.W.Frag)(T:String)(x:V)(H:Hp):Prop:=match x with
 | .str _=>T="str"
 | .int _=>T="int"
 | .ref p=>(T="list"/\∃xs,aL K H p xs)∨(T="tuple"/\∃o,K.lookup p=some o/\o.cls= .type "tuple"/\o.dict=none)∨
  (T="dict"/\((∃kvs,H p=some (.dK kvs))∨∃kvs,H p=some (.dT kvs)))∨(T="set"/\∃S n,H p=some (.set S n))
 | _=>False
theorem vo {pins:List (Addr×Obj)}{σ:St}{H:Hp}{s:Shared}{T:String}{x:V}{v:Value}(I:Inv X pins σ H s)(r:RelV x v)(ty:Cr X.K T x H):
 s.TypeIs v T/\∀a,v= .ref a->∃ob,s.heap.get? a=some ob/\ob.dict=none:=by
 cases x with
 | str z=>
   obtain ⟨t,rfl⟩:=r
   cases (show T="str" from ty)
   exact ⟨typeIs_str s z t,λ_ e=>nomatch e⟩
 | int i=>
   obtain ⟨t,rfl⟩:=r
   cases (show T="int" from ty)
   exact ⟨typeIs_int s i t,λ_ e=>nomatch e⟩
 | ref p=>
   cases r
   rcases ty with ⟨rfl,xs,hq⟩ | ⟨rfl,o,hk,hc,hd⟩ | ⟨rfl,hk⟩ | ⟨rfl,S,n,hk⟩
   ·obtain ⟨its,_,pl,_⟩:=I.list hq
    refine ⟨pl.isList.typeIs,λa e=>?_⟩
    cases e
    obtain ⟨o,n,e,c,hd,_⟩:=pl
    exact ⟨o,e,hd⟩
   ·refine ⟨⟨o,I.eL p o hk,hc⟩,λa e=>?_⟩
    cases e
    exact ⟨o,I.eL _ o hk,hd⟩
   ·have z:∃o,s.heap.get? p=some o/\o.ExactDict:=by
     rcases hk with ⟨kvs,hk⟩ | ⟨kvs,hk⟩
     ·obtain ⟨_,_,_,_,o,_,_,e,ex,_⟩:=I.hok p _ hk
      exact ⟨o,e,ex⟩
     ·obtain ⟨_,_,_,_,o,_,_,e,ex,_⟩:=I.hok p _ hk
      exact ⟨o,e,ex⟩
    obtain ⟨o,e,ex⟩:=z
    refine ⟨⟨o,e,ex.1⟩,λa e2=>?_⟩
    cases e2
    exact ⟨o,e,ex.2.1⟩
   ·obtain ⟨o,_,_,_,e,ex,_⟩:=I.hok p _ hk
    refine ⟨⟨o,e,ex.1⟩,λa e2=>?_⟩
    cases e2
    exact ⟨o,e,ex.2.1⟩
 | _=>exact False.elim ty
def FD (K:PySem.W.Frag)(T:String)(r:V->List V->Hp->VK->Prop)(to:TE):TE:=λσ H Q=>to σ H λx H1=>Cr K T x H1/\r x [] H1 Q
def tBM (K:PySem.W.Frag)(T:String)(r:V->List V->Hp->VK->Prop)(to:TE)(t:TA):TE:=λσ H Q=>to σ H λx H1=>Cr K T x H1/\t σ H1 λxs H2=>r x xs H2 Q
variable {o e:Expr}{es:List Expr}{to:TE}{t:TA}{name:Str}{apos cpos:Pos}{T id:String}{r:V->List V->Hp->VK->Prop}
theorem tW (pa:PlainAttrs T)(slot:Slot T name id)(hty:typeOf (.builtin id)=pure (.type "method_descriptor"))(hm:AI X id r)(ho:PE X o to)
 (hbase:autoParam (attributeBase o name X.env (eval o X.env)=eval o X.env) Fc.ag) (hline:autoParam ((apos.endLine==cpos.line)=true) Fc.ag):PE X (.Call (.Attribute o name apos) [] [] cpos) (FD X.K T r to):=by
 intro pins s σ H Q I h
 refine wpAny_Call_method0_late hbase hline (aO (ho pins s σ H _ I h) λv s1 ⟨x,H1,I1,r1,ty,q1⟩=>?_)
 obtain ⟨h1,h2⟩:=vo I1 r1 ty
 exact ⟨T,id,pa,slot,hty,h1,h2,Calls.callWith_builtin rfl (PySem.evalArgs_none (hm pins s1 σ H1 x [] v [] Q I1 r1 .nil q1))⟩
theorem gr (pa:PlainAttrs T)(slot:Slot T name id)(hty:typeOf (.builtin id)=pure (.type "method_descriptor"))(hm:AI X id r)(ho:PE X o to)(ha:PA X (e::es) t)
 (hbase:autoParam (attributeBase o name X.env (eval o X.env)=eval o X.env) Fc.ag)
 (hfew:autoParam (((backTo cpos (starEach (e::es) X.env)).all (λx=> !x.1)&&(backToKw cpos (keywordEach [] X.env)).all (λx=>x.1.isSome)
  &&decide ((e::es).length + ([]:List Keyword).length + (if ([]:List Keyword).isEmpty then 0 else 1) < 30))=true) Fc.ag)
 (hline:autoParam ((apos.endLine==cpos.line)=true) Fc.ag) (hs:autoParam (starEach (e::es) X.env=(false,eval e X.env)::starEach es X.env) Fc.ag) (hplain:autoParam ((backTo cpos (starEach es X.env)).any (·.1)=false) Fc.ag):
 PE X (.Call (.Attribute o name apos) (e::es) [] cpos) (tBM X.K T r to t):=by
 intro pins s σ H Q I h
 refine wpAny_Call_method_late hbase hfew hline rfl (aO (ho pins s σ H _ I h) λv s1 ⟨x,H1,I1,r1,ty,q1⟩=>?_)
 obtain ⟨h1,h2⟩:=vo I1 r1 ty
 refine ⟨T,id,pa,slot,hty,h1,h2,?_⟩
 have hA:=ha cpos pins s1 σ H1 _ I1 q1
 rw [hs] at hA ⊢
 refine Calls.callWith_builtin (by show (false ||(backTo cpos (starEach es X.env)).any (·.1))=false;rw [hplain]<;>rfl) (Calls.evalArgs_plain ?_)
 exact aO hA λus s2 ⟨vs,H2,I2,r2,q2⟩=>hm pins s2 σ H2 x vs v us Q I2 r1 r2 q2
end
def yi (X:Cx)(id:String)(r:V->List V->Hp->VK->Prop):Prop:=
 ∀(pins:List (Addr×Obj)) (s:Shared) (σ:St) (H:Hp) (x:V) (xs:List V) (v:Value) (us:List Value) (Q:VK),Inv X pins σ H s->RelV x v->Vals xs us->r x xs H Q->
  wpAny (model X.prog X.w) X.A (call (.builtin id) (v::us)) (EP X pins σ Q) X.xe s
theorem Vals.one:∀{x:V} {us:List Value},Vals [x] us->∃u,us=[u]/\RelV x u
 | _,_,.cons r .nil=>⟨_,rfl,r⟩
theorem Vals.zero:∀{us:List Value},Vals [] us->us=[]
 | _,.nil=>rfl
theorem Vals.dropLast {xs:List V}{us:List Value}(h:Vals xs us):Vals xs.dropLast us.dropLast:=by
 induction h with
 | nil=>exact .nil
 | cons r t ih=>
   cases t with
   | nil=>exact .nil
   | cons q t'=>exact .cons r ih
theorem Vals.rep {xs:List V}{us:List Value}(h:Vals xs us):∀k:Nat,Vals (List.replicate k xs).flatten (List.replicate k us).flatten
 | 0=>.nil
 | k + 1=>by
   rw [List.replicate_succ,List.replicate_succ,List.flatten_cons,List.flatten_cons]
   exact Vals.append h (Vals.rep h k)
theorem tF {α:Type}(l:List α):l.eraseIdx (l.length - 1)=l.dropLast:=by
 induction l with
 | nil=>rfl
 | cons a r ih=>
   cases r with
   | nil=>rfl
   | cons b r=>
     have e:(a::b::r).length - 1=((b::r).length - 1) + 1:=by
      have h1:(a::b::r).length=r.length + 2:=rfl
      have h2:(b::r).length=r.length + 1:=rfl
      omega
     rw [e,List.eraseIdx_cons_succ,ih]
     all_goals rfl
theorem foldl_rep (its:List Value):∀(k:Nat) (acc:List Value),
 List.foldl (λx1 x2=>x1++x2) acc.toArray (List.replicate k its.toArray)=(acc++(List.replicate k its).flatten).toArray
 | 0,acc=>by simp
 | k + 1,acc=>by
   have e:acc.toArray++its.toArray=(acc++its).toArray:=by simp
   have e2:(acc++its)++(List.replicate k its).flatten=acc++(List.replicate (k + 1) its).flatten:=by
    rw [List.replicate_succ,List.flatten_cons,List.append_assoc]
   rw [← e2,← foldl_rep its k (acc++its),← e,List.replicate_succ,List.foldl_cons]
section
variable {X:Cx}{pins:List (Addr×Obj)}{σ:St}{H:Hp}{s:Shared}{l b:Addr}{xs ys zs:List V}
theorem Inv.sN {its its':List Value}{n:Nat}{f:Array Value->Array Value}{t':Nat}(I:Inv X pins σ H s)(hH:H l=some (.lst xs))
 (e:s.heap.get? l=some {cls:=.type "list",data:=.seq its.toArray n}) (hf:f its.toArray=its'.toArray) (hv:Vals ys its') (hz:ys.length<=sizeLine):
 Inv X pins σ (upd H l (.lst ys)) {s with heap:=s.heap.update l (Obj.mapSeq f),toks:=t'}:=by
 have q:=PySem.IsL.update e f
 rw [hf] at q
 refine I.write (x:=l) (e:=l) (by rw [hH];exact trivial) (.inl rfl) (λb' u hb hu=>(Heap.get?_update_other s.heap (Obj.mapSeq f) (Ne.symm hb)).trans hu) ⟨_,q⟩ ?_
 exact ⟨hz,its',_,hv,q⟩
theorem Inv.A2 {its:List Value}{t':Nat}(I:Inv X pins σ H s)(hv:Vals ys its)(hz:ys.length<=sizeLine):
 Inv X pins σ (upd H s.heap.objs.size (.lst ys)) {s with heap:=s.heap.push {cls:=.type "list",data:=.seq its.toArray},toks:=t'}:=
 I.laid (λ_ _ q=>Heap.get?_push_of_some _ q) (Nat.le_refl _) ⟨hz,its,0,hv,Heap.get?_push_size _ rfl⟩
theorem Inv.fresh (I:Inv X pins σ H s):H s.heap.objs.size=none:=I.hok.fresh (Nat.le_refl _)
theorem Inv.jk (I:Inv X pins σ H s)(hH:H l=some (.lst xs)):xs.length<=sizeLine/\∃(its:List Value) (n:Nat),Vals xs its/\xs.length=its.length/\s.heap.get? l=some {cls:=.type "list",data:=.seq its.toArray n}:=by
 obtain ⟨z,its,n,r,e⟩:=I.hok l _ hH
 exact ⟨z,its,n,r,r.length,e⟩
theorem pv {n:Nat}(h:n<=sizeLine):Builtin.List.listTooLong n=false:=by
 unfold Builtin.List.listTooLong
 exact decide_eq_false (by omega)
end
section
variable {X:Cx}
def zI:V->List V->Hp->VK->Prop:=λx vs H Q=>∃l xs y,x= .ref l/\vs=[y]/\H l=some (.lst xs)/\xs.length < sizeLine/\Q .non (upd H l (.lst (xs++[y])))
theorem fC:yi X "list.append" zI:=by
 intro pins s σ H x vs v us Q I rx rv h
 obtain ⟨l,xs,y,rfl,rfl,hH,hz,q⟩:=h
 cases rx
 obtain ⟨u,rfl,ru⟩:=rv.one
 obtain ⟨z,its,n,r,hl,e⟩:=I.jk hH
 refine call_meets F.slot_list_append ⟨_,e,rfl⟩ F.entry_list_append (F.args_list_append_2 _ _) (PySem.list_append l its.toArray n u (by rw [List.size_toArray];omega)) ⟨e,?_⟩
 refine ⟨.non,_,I.sN (its':=its++[u]) hH e (by simp) (r.append (.cons ru .nil)) ?_,rfl,q⟩
 rw [List.length_append,List.length_singleton]
 omega
def zl:V->List V->Hp->VK->Prop:=λx vs H Q=>∃l b xs zs,x= .ref l/\vs=[.ref b]/\H l=some (.lst xs)/\H b=some (.lst zs)/\xs.length + zs.length<=sizeLine/\Q .non (upd H l (.lst (xs++zs)))
theorem nM:yi X "list.extend" zl:=by
 intro pins s σ H x vs v us Q I rx rv h
 obtain ⟨l,b,xs,zs,rfl,rfl,hH,hB,hz,q⟩:=h
 cases rx
 obtain ⟨u,rfl,ru⟩:=rv.one
 cases ru
 obtain ⟨z,its,n,r,hl,e⟩:=I.jk hH
 obtain ⟨z2,its2,n2,r2,hl2,e2⟩:=I.jk hB
 have hsz:its.toArray.size + its2.toArray.size<=sizeLine:=by rw [List.size_toArray,List.size_toArray];omega
 have hlong:¬(!its.toArray.isEmpty&&Builtin.List.listTooLong (its.toArray.size + its2.toArray.size))=true:=by
  rw [pv hsz,Bool.and_false]
  exact Bool.false_ne_true
 refine call_meets F.slot_list_extend ⟨_,e,rfl⟩ F.entry_list_extend (F.args_list_extend_2 _ _)
  (AutoSeq1.list_extend_list_list_0 l its.toArray n b its2.toArray n2 hlong (by rw [List.size_toArray];omega) (by omega)) ⟨e,e2,?_⟩
 refine ⟨.non,_,I.sN (its':=its++its2) hH e (by simp) (r.append r2) ?_,rfl,q⟩
 rw [List.length_append]
 omega
def F7:V->List V->Hp->VK->Prop:=λx vs H Q=>∃l xs y,x= .ref l/\vs=[]/\H l=some (.lst xs)/\xs[xs.length - 1]?=some y/\Q y (upd H l (.lst xs.dropLast))
theorem va:yi X "list.pop" F7:=by
 intro pins s σ H x vs v us Q I rx rv h
 obtain ⟨l,xs,y,rfl,rfl,hH,hy,q⟩:=h
 cases rx
 have hus:=rv.zero
 subst hus
 obtain ⟨z,its,n,r,hl,e⟩:=I.jk hH
 obtain ⟨u,hu,ru⟩:=r.get hy
 have hy':its.toArray[its.toArray.size - 1]?=some u:=by
  show its.toArray[its.length - 1]?=some u
  rw [← Array.getElem?_toList,← hl]
  exact hu
 refine call_meets F.slot_list_pop ⟨_,e,rfl⟩ F.entry_list_pop (F.args_list_pop_1 _) (MeetsSeq.list_pop_last l its.toArray n u hy' (by rw [List.size_toArray];omega)) ⟨e,?_⟩
 refine ⟨y,_,I.sN (its':=its.dropLast) hH e ?_ r.dropLast ?_,ru,q⟩
 ·show its.toArray.eraseIdxIfInBounds (its.toArray.size - 1)=its.dropLast.toArray
  rw [List.size_toArray,List.eraseIdxIfInBounds_toArray,tF]
 ·rw [List.length_dropLast]
  omega
def FI:R2:=λx y H Q=>∃l b xs zs,x= .ref l/\y= .ref b/\H l=some (.lst xs)/\H b=some (.lst zs)/\xs.length + zs.length<=sizeLine/\∀p,H p=none->Q (.ref p) (upd H p (.lst (xs++zs)))
theorem vd:dJ X (binaryOp .Add) FI:=by
 intro pins s σ H x y v u Q I rx ry h
 obtain ⟨l,b,xs,zs,rfl,rfl,hH,hB,hz,q⟩:=h
 cases rx
 cases ry
 obtain ⟨z,its,n,r,hl,e⟩:=I.jk hH
 obtain ⟨z2,its2,n2,r2,hl2,e2⟩:=I.jk hB
 refine PySem.P.add_list e e2 ?_ (by rw [List.size_toArray,List.size_toArray];omega)
 have ea:its.toArray++its2.toArray=(its++its2).toArray:=by simp
 rw [ea]
 exact ⟨.ref _,_,I.A2 (t':=s.toks) (r.append r2) (by rw [List.length_append];omega),rfl,q _ I.fresh⟩
def FN:R2:=λx y H Q=>∃l k xs,x= .ref l/\y= .int k/\H l=some (.lst xs)/\ -(2 ^ 63)<=k/\k < 2 ^ 63/\xs.length * k.toNat<=sizeLine/\
 ∀p,H p=none->Q (.ref p) (upd H p (.lst (List.replicate k.toNat xs).flatten))
theorem len_rep {α:Type}(xs:List α)(k:Nat):(List.replicate k xs).flatten.length=k * xs.length:=by
 induction k with
 | zero=>simp
 | succ k ih=>rw [List.replicate_succ,List.flatten_cons,List.length_append,ih,Nat.succ_mul,Nat.add_comm]
theorem Bh:dJ X (binaryOp .Mult) FN:=by
 intro pins s σ H x y v u Q I rx ry h
 obtain ⟨l,k,xs,rfl,rfl,hH,h1,h2,hz,q⟩:=h
 cases rx
 obtain ⟨t,rfl⟩:=ry
 obtain ⟨z,its,n,r,hl,e⟩:=I.jk hH
 have hlen:its.toArray.size * k.toNat<=sizeLine:=by rw [List.size_toArray,← hl];exact hz
 have hcap:¬its.toArray.size * k.toNat > (2 ^ 63 - 1) / 8:=by
  have:(sizeLine:Nat)<=(2 ^ 63 - 1) / 8:=by decide
  omega
 have hfit:¬(!Builtin.List.listFitsIndex k)=true:=by
  rw [fitsIndex_both h1 h2]
  exact Bool.false_ne_true
 have hlong:¬Builtin.List.listTooLong (its.toArray.size * k.toNat)=true:=by
  rw [pv hlen]
  exact Bool.false_ne_true
 have hnew:List.foldl (λx1 x2=>x1++x2) #[] (List.replicate (if its.toArray.isEmpty=true then 0 else k.toNat) its.toArray)=(List.replicate k.toNat its).flatten.toArray:=by
  have f0:∀m:Nat,List.foldl (λx1 x2=>x1++x2) #[] (List.replicate m its.toArray)=(List.replicate m its).flatten.toArray:=λm=>by
   have:=foldl_rep its m []
   rw [List.nil_append] at this
   exact this
  rw [f0]
  cases its with
  | nil=>simp
  | cons a r'=>rw [if_neg (by simp)]
 refine wpAny_binaryOp_repeat_ref (T:="list") (U:="int") (by decide) ⟨_,e,rfl⟩ (λs'=>typeIs_int s' k t) noFill_list_mul F.fills_int_mul F.slot_int_rmul repeat_list F.slot_int_index.lookup
  (call_meets F.slot_int_rmul (typeIs_int s k t) F.entry_int_rmul (F.args_int_rmul_2 _ _) (int___rmul___int_list k t l its.toArray n)
   ⟨e,rfl,⟨_,e,rfl⟩,call_meets F.slot_list_mul ⟨_,e,rfl⟩ F.entry_list_mul (F.args_list_mul_2 _ _) (AutoListH.list___mul___list_int_3 l its.toArray n k t hfit hcap hlong) ⟨e,?_⟩⟩)
 rw [hnew]
 exact ⟨.ref _,_,I.A2 (t':=s.toks) (r.rep k.toNat) (by rw [len_rep,Nat.mul_comm];exact hz),rfl,q _ I.fresh⟩
end
section
variable {prog:Program}{w:World}{A:Around}{E:Value->Shared->Prop}{s:Shared}
end
section
variable {X:Cx}
end
section
variable {κ:Type} [DecidableEq κ]
variable {kvs:List (κ×V)}{vs:List (κ×Value)}
def cS (kvs:List (κ×V))(k:κ):Option V:=(kvs.find? λkv=>decide (kv.1=k)).map (·.2)
def putK (kvs:List (κ×V))(k:κ)(v:V):List (κ×V):=
 if (kvs.any λkv=>decide (kv.1=k))=true then kvs.map (λkv=>if kv.1=k then (kv.1,v) else kv) else kvs++[(k,v)]
theorem df {p:κ×V}{r:List (κ×V)}{k:κ}(e:p.1=k):cS (p::r) k=some p.2:=by simp [cS,List.find?_cons,e]
theorem dc {p:κ×V}{r:List (κ×V)}{k:κ}(e:¬p.1=k):cS (p::r) k=cS r k:=by simp [cS,List.find?_cons,e]
theorem fk (k:κ):∀kvs:List (κ×V),(kvs.any λkv=>decide (kv.1=k))=(cS kvs k).isSome
 | []=>rfl
 | p::r=>by
   rw [List.any_cons]
   by_cases e:p.1=k
   ·simp only [df e,decide_eq_true e,Bool.true_or,Option.isSome_some]
   ·rw [dc e,decide_eq_false e,Bool.false_or];exact fk k r
theorem p7 (k j:κ)(y:V):∀kvs:List (κ×V),cS (kvs.map λkv=>if kv.1=k then (kv.1,y) else kv) j=(cS kvs j).map λx=>if j=k then y else x
 | []=>rfl
 | p::r=>by
   have ih:=p7 k j y r
   rw [List.map_cons]
   by_cases h:p.1=k
   ·rw [if_pos h]
    by_cases e:p.1=j
    ·rw [df (p:=(p.1,y)) e,df e,Option.map_some,if_pos (e.symm.trans h)]
    ·rw [dc (p:=(p.1,y)) e,dc e,ih]
   ·rw [if_neg h]
    by_cases e:p.1=j
    ·rw [df (p:=p) e,df e,Option.map_some,if_neg (λz=>h (e.trans z))]
    ·rw [dc (p:=p) e,dc e,ih]
theorem nX (k j:κ)(y:V):∀kvs:List (κ×V),cS kvs k=none->cS (kvs++[(k,y)]) j=if j=k then some y else cS kvs j
 | [],_=>by
   by_cases e:k=j
   ·rw [if_pos e.symm];exact df (p:=(k,y)) e
   ·rw [if_neg (λz=>e z.symm)];exact dc (p:=(k,y)) e
 | p::r,hn=>by
   rw [List.cons_append]
   have hk:¬p.1=k:=λz=>by rw [df z] at hn;cases hn
   rw [dc hk] at hn
   have ih:=nX k j y r hn
   by_cases e:p.1=j
   ·rw [df e,df e,if_neg (λz=>hk (e.trans z))]
   ·rw [dc e,dc e,ih]
theorem wx (kvs:List (κ×V))(k j:κ)(y:V):cS (putK kvs k y) j=if j=k then some y else cS kvs j:=by
 unfold putK
 by_cases a:(kvs.any λkv=>decide (kv.1=k))=true
 ·rw [if_pos a,p7]
  rw [fk] at a
  by_cases e:j=k
  ·obtain ⟨x,hx⟩:=Option.isSome_iff_exists.mp a
   rw [if_pos e,e,hx,Option.map_some,if_pos rfl]
  ·rw [if_neg e]
   cases cS kvs j with
   | none=>rfl
   | some x=>rw [Option.map_some,if_neg e]
 ·rw [if_neg a]
  refine nX k j y kvs ?_
  rw [fk] at a
  cases q:cS kvs k with
  | none=>rfl
  | some x=>rw [q] at a;exact (a rfl).elim
theorem iE (kvs:List (κ×V))(k:κ)(v:V):(putK kvs k v).length<=kvs.length + 1:=by
 unfold putK
 split
 ·rw [List.length_map];omega
 ·rw [List.length_append,List.length_cons,List.length_nil];omega
theorem vX {k:κ}(v:V)(h:cS kvs k=none):putK kvs k v=kvs++[(k,v)]:=by
 unfold putK
 rw [fk,h]
 exact if_neg (by decide)
theorem fZ.gw {o:Option V}{u:Option Value}(r:fZ o u):o.isSome=u.isSome:=by
 cases o with
 | none=>cases u with
   | none=>rfl
   | some _=>exact (show False from r).elim
 | some _=>cases u with
   | none=>exact (show False from r).elim
   | some _=>rfl
theorem fZ.getD {o:Option V}{u:Option Value}{d:V}{d':Value}(r:fZ o u)(rd:RelV d d'):RelV (o.getD d) (u.getD d'):=by
 cases o with
 | none=>cases u with
   | none=>exact rd
   | some _=>exact (show False from r).elim
 | some _=>cases u with
   | none=>exact (show False from r).elim
   | some _=>exact r
theorem KV.val (r:KV kvs vs)(k:κ):fZ (cS kvs k) (valueAt vs k):=by
 unfold KV at r
 induction r with
 | nil=>exact True.intro
 | @cons p q ps qs h t ih=>
   obtain ⟨h1,h2⟩:=h
   by_cases e:p.1=k
   ·have e':q.1=k:=h1.symm.trans e
    have b:valueAt (q::qs) k=some q.2:=by simp [valueAt,List.find?_cons,e']
    rw [df e,b];exact h2
   ·have e':¬q.1=k:=λz=>e (h1.trans z)
    have b:valueAt (q::qs) k=valueAt qs k:=by simp [valueAt,List.find?_cons,e']
    rw [dc e,b];exact ih
theorem KV.any (r:KV kvs vs)(k:κ):(kvs.any λkv=>decide (kv.1=k))=vs.any λkv=>decide (kv.1=k):=by
 unfold KV at r
 induction r with
 | nil=>rfl
 | cons h t ih=>rw [List.any_cons,List.any_cons,ih,h.1]
theorem KV.wy (r:KV kvs vs)(k:κ){y:V}{u:Value}(ry:RelV y u):
 KV (kvs.map λkv=>if kv.1=k then (kv.1,y) else kv) (vs.map λkv=>if kv.1=k then (kv.1,u) else kv):=by
 unfold KV at r ⊢
 induction r with
 | nil=>exact .nil
 | @cons p q ps qs h t ih=>
   rw [List.map_cons,List.map_cons]
   refine .cons ?_ ih
   obtain ⟨h1,h2⟩:=h
   by_cases e:p.1=k
   ·rw [if_pos e,if_pos (h1.symm.trans e)];exact ⟨h1,ry⟩
   ·rw [if_neg e,if_neg (λz=>e (h1.trans z))];exact ⟨h1,h2⟩
theorem KV.put (r:KV kvs vs)(k:κ){y:V}{u:Value}(ry:RelV y u):KV (putK kvs k y) (stored vs k u):=by
 unfold putK stored
 rw [r.any k]
 by_cases e:(vs.any λkv=>decide (kv.1=k))=true
 ·rw [if_pos e,if_pos e];exact r.wy k ry
 ·rw [if_neg e,if_neg e];exact Paired.snoc r ⟨rfl,ry⟩
theorem KV.length (r:KV kvs vs):kvs.length=vs.length:=Paired.length r
end
section
variable {H:Hp}{kvs:List (List Key×V)}{xs:List (List Key×Addr×Value)}{u:Value}
theorem jq {P:Program}{w:World}{k:Key}(r:RelV (kV k) u):(cF P w).is k u=true:=by
 cases k with
 | inl i=>obtain ⟨t,e⟩:=(show∃t,u=Value.int i t from r);subst e;exact qJ P w i t
 | inr x=>obtain ⟨t,e⟩:=(show∃t,u=Value.str x t from r);subst e;exact qD P w x t
theorem n9 {P:Program}{w:World}:∀{ks:List Key} {us:List Value},Vals (ks.map kV) us->ItemsAre (cF P w) ks us
 | [],_,r=>by rw [List.map_nil] at r;cases r;exact .nil
 | k::ks,_,r=>by
   rw [List.map_cons] at r
   cases r with
   | cons h t=>exact .cons (jq h) (n9 t)
abbrev KT (H:Hp):List (List Key×V)->List (List Key×Addr×Value)->Prop:=Paired λp q=>p.1=q.1/\H q.2.1=some (.tup (p.1.map kV))/\RelV p.2 q.2.2
theorem KT.val (r:KT H kvs xs)(k:List Key):fZ (cS kvs k) ((atKey xs k).map (·.2)):=by
 induction r with
 | nil=>exact True.intro
 | @cons p q ps qs h t ih=>
   obtain ⟨h1,_,h2⟩:=h
   by_cases e:p.1=k
   ·have e':q.1=k:=h1.symm.trans e
    have b:atKey (q::qs) k=some q.2:=by simp [atKey,List.find?_cons,e']
    rw [df e,b];exact h2
   ·have e':¬q.1=k:=λz=>e (h1.trans z)
    have b:atKey (q::qs) k=atKey qs k:=by simp [atKey,List.find?_cons,e']
    rw [dc e,b];exact ih
theorem KT.wy (r:KT H kvs xs)(k:List Key){y:V}(ry:RelV y u):
 KT H (kvs.map λkv=>if kv.1=k then (kv.1,y) else kv) (xs.map (putAt k u)):=by
 induction r with
 | nil=>exact .nil
 | @cons p q ps qs h t ih=>
   rw [List.map_cons,List.map_cons]
   refine .cons ?_ ih
   obtain ⟨h1,h2,h3⟩:=h
   unfold putAt
   by_cases e:p.1=k
   ·rw [if_pos e,if_pos (h1.symm.trans e)];exact ⟨h1,h2,ry⟩
   ·rw [if_neg e,if_neg (λz=>e (h1.trans z))];exact ⟨h1,h2,h3⟩
theorem KT.put (r:KT H kvs xs)(k:List Key){b:Addr}{y:V}(hb:H b=some (.tup (k.map kV)))(ry:RelV y u):
 KT H (putK kvs k y) (storedH xs k b u):=by
 have e:(kvs.any λkv=>decide (kv.1=k))=(atKey xs k).isSome:=by
  rw [fk,(r.val k).gw,Option.isSome_map]
 unfold putK storedH
 rw [e]
 by_cases q:(atKey xs k).isSome=true
 ·rw [if_pos q,if_pos q];exact r.wy k ry
 ·rw [if_neg q,if_neg q];exact Paired.snoc r ⟨rfl,hb,ry⟩
theorem KT.keeps {H':Hp}(r:KT H kvs xs)(ht:∀b ys,H b=some (.tup ys)->H' b=some (.tup ys)):KT H' kvs xs:=
 Paired.wX r λ_ _ z=>⟨z.1,ht _ _ z.2.1,z.2.2⟩
end
section
variable {P:Program}{w:World}{H:Hp}{h:Heap}{a:Addr}
theorem yB {u:HO}(ok:cG P w H h)(e:Rd H a u):bT P w H h a u:=e.ok ok
theorem iB {kvs:List (Key×V)}(ok:cG P w H h)(e:Rd H a (.dK kvs)):kvs.length<=sizeLine/\(a==sysModules)=false/\∃vs,KV kvs vs/\h.DictOf (cF P w) a vs:=
 show bT P w H h a (.dK kvs) from yB ok e
theorem xU {kvs:List (Key×V)}(ok:cG P w H h)(e:H a=some (.dK kvs)):kvs.length<=sizeLine/\(a==sysModules)=false/\∃vs,KV kvs vs/\h.DictOf (cF P w) a vs:=iB ok (.inl e)
theorem iT {ks:List Key}(ok:cG P w H h)(e:H a=some (.tup (ks.map kV))):(tupleKind (cF P w)).is h ks a:=by
 obtain ⟨_,its,r,o,h1,h2,n,h3⟩:=(show bT P w H h a (.tup (ks.map kV)) from ok a _ e)
 exact ⟨o,its.toArray,n,h1,h2,h3,by simpa using n9 r⟩
theorem jo {kvs:List (List Key×V)}(ok:cG P w H h)(e:Rd H a (.dT kvs)):kvs.length<=sizeLine/\(a==sysModules)=false/\
 ∃xs,KT H kvs xs/\h.DictOfH (tupleKind (cF P w)) a xs:=by
 obtain ⟨z,y,xs,r,o,es,ep,h1,h2,h3,h4,h5⟩:=(show bT P w H h a (.dT kvs) from yB ok e)
 refine ⟨z,y,xs,r,o,es,ep,h1,h2,h3,h4,λx hx=>?_,h5⟩
 have all:∀{l:List (List Key×V)} {m:List (List Key×Addr×Value)},KT H l m->∀x∈m,(tupleKind (cF P w)).is h x.1 x.2.1:=by
  intro l m q
  induction q with
  | nil=>intro x hx;exact nomatch hx
  | @cons p q ps qs hq t ih=>
    intro x hx
    rcases List.mem_cons.mp hx with e | hx
    ·subst e
     exact iT ok (by rw [← hq.1];exact hq.2.1)
    ·exact ih x hx
 exact all r x hx
theorem D0 {kvs:List (List Key×V)}(ok:cG P w H h)(e:H a=some (.dT kvs)):kvs.length<=sizeLine/\(a==sysModules)=false/\
 ∃xs,KT H kvs xs/\h.DictOfH (tupleKind (cF P w)) a xs:=jo ok (.inl e)
end
def ez (H:Hp)(a:Addr)(y:V)(r:Option V):Prop:=
 (∃kvs k,Rd H a (.dK kvs)/\y=kV k/\r=cS kvs k)∨∃kvs k b,Rd H a (.dT kvs)/\y= .ref b/\H b=some (.tup (k.map kV))/\r=cS kvs k
def m9 (H:Hp)(a:Addr)(y v:V)(H':Hp):Prop:=
 (∃kvs k,H a=some (.dK kvs)/\y=kV k/\kvs.length < sizeLine/\H'=upd H a (.dK (putK kvs k v)))∨
 ∃kvs k b,H a=some (.dT kvs)/\y= .ref b/\H b=some (.tup (k.map kV))/\kvs.length < sizeLine/\H'=upd H a (.dT (putK kvs k v))
theorem ez.k {H:Hp}{a:Addr}{kvs:List (Key×V)}{k:Key}(e:H a=some (.dK kvs)):ez H a (kV k) (cS kvs k):=.inl ⟨kvs,k,.inl e,rfl,rfl⟩
theorem m9.k {H:Hp}{a:Addr}{kvs:List (Key×V)}{k:Key}{v:V}(e:H a=some (.dK kvs))(hl:kvs.length < sizeLine):m9 H a (kV k) v (upd H a (.dK (putK kvs k v))):=.inl ⟨kvs,k,e,rfl,hl,rfl⟩
section
variable {X:Cx}{pins:List (Addr×Obj)}{σ:St}{H:Hp}{s:Shared}{a:Addr}{y v:V}{u r:Value}{o:Option V}{A:Around}{E:Value->Shared->Prop}
variable {Q:Value->Shared->Prop}
theorem Inv.big (I:Inv X pins σ H s):sysModules < s.heap.objs.size:=by
 have h:mainGlobals < s.heap.objs.size:=(I.mod.glob.keeps I.bk).lt
 exact Nat.lt_trans (by decide) h
theorem uW (hu:A.units + 1 < cLine)(I:Inv X pins σ H s)(g:ez H a y (some v))(ry:RelV y u)(h:∀w' s',Inv X pins σ H s'->RelV v w'->Q w' s'):
 wpAny (model X.prog X.w) A (getItem (.ref a) u) Q E s:=by
 rcases g with ⟨kvs,k,e,ey,l⟩ | ⟨kvs,k,b,e,ey,eb,l⟩
 ·subst ey
  obtain ⟨z,hd,vs,rel,dd⟩:=iB I.hok e
  obtain ⟨w',hw,rw'⟩:=fZ.some_of (v:=v) (o:=valueAt vs k) (by rw [l];exact rel.val k)
  exact wpAny_getItem_of (jq ry) dd.mapOf hw (h w' _ (I.tok _) rw')
 ·subst ey
  cases (show u=Value.ref b from ry)
  obtain ⟨z,hd,xs,rel,dd⟩:=jo I.hok e
  obtain ⟨w',hw,rw'⟩:=fZ.some_of (v:=v) (o:=(atKey xs k).map (·.2)) (by rw [l];exact rel.val k)
  obtain ⟨p,hp,hp2⟩:=Option.map_eq_some_iff.mp hw
  refine wpAny_getItem_heap (tupleKind_room_in1 hu) (iT I.hok eb) dd hp ?_
  rw [hp2]
  exact h w' _ (I.tok _) rw'
theorem F2 (hu:A.units + 1 < cLine)(I:Inv X pins σ H s)(g:ez H a y o)(ry:RelV y u)(h:∀s',Inv X pins σ H s'->Q (.bool o.isSome) s'):
 wpAny (model X.prog X.w) A (compareOp .In u (.ref a)) Q E s:=by
 rcases g with ⟨kvs,k,e,ey,l⟩ | ⟨kvs,k,b,e,ey,eb,l⟩
 ·subst ey
  obtain ⟨z,hd,vs,rel,dd⟩:=iB I.hok e
  refine wpAny_in_of (jq ry) hd dd.mapOf ?_
  rw [← (rel.val k).gw,← l]
  exact h _ (I.tok _)
 ·subst ey
  cases (show u=Value.ref b from ry)
  obtain ⟨z,hd,xs,rel,dd⟩:=jo I.hok e
  refine wpAny_in_heap (tupleKind_room_in1 hu) (iT I.hok eb) hd dd ?_
  have q:=(rel.val k).gw
  rw [Option.isSome_map] at q
  rw [← q,← l]
  exact h _ (I.tok _)
theorem yY (hu:A.units + 1 < cLine)(I:Inv X pins σ H s)(g:ez H a y o)(ry:RelV y u)(h:∀s',Inv X pins σ H s'->Q (.bool (!o.isSome)) s'):
 wpAny (model X.prog X.w) A (compareOp .NotIn u (.ref a)) Q E s:=by
 rcases g with ⟨kvs,k,e,ey,l⟩ | ⟨kvs,k,b,e,ey,eb,l⟩
 ·subst ey
  obtain ⟨z,hd,vs,rel,dd⟩:=iB I.hok e
  refine wpAny_notIn_of (jq ry) hd dd.mapOf ?_
  rw [← (rel.val k).gw,← l]
  exact h _ (I.tok _)
 ·subst ey
  cases (show u=Value.ref b from ry)
  obtain ⟨z,hd,xs,rel,dd⟩:=jo I.hok e
  refine wpAny_notIn_heap (tupleKind_room_in1 hu) (iT I.hok eb) hd dd ?_
  have q:=(rel.val k).gw
  rw [Option.isSome_map] at q
  rw [← q,← l]
  exact h _ (I.tok _)
theorem mZ {h':Heap}{t':Nat}{ob:HO}(I:Inv X pins σ H s)(mu:tV (H a))(hs:Heap.SameBut a s.heap h')(he:∃q,h'.get? a=some q)(new:bT X.prog X.w (upd H a ob) h' a ob):
 Inv X pins σ (upd H a ob) {s with heap:=h',toks:=t'}:=
 I.write (x:=a) (e:=a) mu (.inl rfl) (λb q hb z=>(hs.2 b hb).trans z) he new
theorem u7 {P:Program}{w:World}{H':Hp}{h':Heap}{kvs:List (Key×V)}{vs:List (Key×Value)}(z:kvs.length<=sizeLine)(hd:(a==sysModules)=false)(rel:KV kvs vs)(dd:h'.DictOf (cF P w) a vs):
 bT P w H' h' a (.dK kvs):=⟨z,hd,vs,rel,dd⟩
theorem vC {H':Hp}{Q:Unit->Shared->Prop}(hu:A.units + 1 < cLine)(I:Inv X pins σ H s)(g:m9 H a y v H')(ry:RelV y u)(rv:RelV v r)(h:∀s',Inv X pins σ H' s'->Q () s'):
 wpAny (model X.prog X.w) A (setItem (.ref a) u r) Q E s:=by
 rcases g with ⟨kvs,k,e,ey,l,eH⟩ | ⟨kvs,k,b,e,ey,eb,l,eH⟩
 ·subst ey eH
  obtain ⟨z,hd,vs,rel,dd⟩:=xU I.hok e
  have hz:vs.length<=sizeLine:=by rw [← rel.length];exact z
  have hl:(putK kvs k v).length<=sizeLine:=by have:=iE kvs k v;omega
  refine wpAny_setItem_pairs (hsz:=hz) (jq ry) dd λh' dd' hs=>h _ ?_
  have he:∃q,h'.get? a=some q:=let ⟨q,_,_,hq,_⟩:=dd';⟨q,hq⟩
  exact mZ I (by rw [e];exact True.intro) hs he (u7 hl hd (rel.put k rv) dd')
 ·subst ey eH
  cases (show u=Value.ref b from ry)
  obtain ⟨z,hd,xs,rel,dd⟩:=D0 I.hok e
  have hz:xs.length<=sizeLine:=by rw [← Paired.length rel];exact z
  have hl:(putK kvs k v).length<=sizeLine:=by have:=iE kvs k v;omega
  refine wpAny_setItem_heap (hsz:=hz) (tupleKind_room_in1 hu) (iT I.hok eb) dd λh' dd' hs=>h _ ?_
  obtain ⟨q,es,ep,hq,h2,h3,h4,_,h5⟩:=dd'
  refine mZ I (by rw [e];exact True.intro) hs ⟨q,hq⟩ ⟨hl,hd,_,(rel.put k eb rv).keeps λc ys ec=>?_,q,es,ep,hq,h2,h3,h4,h5⟩
  rw [aH (Cs ec e (λz=>nomatch z))]
  exact ec
end
section
variable {X:Cx}{pins:List (Addr×Obj)}{σ:St}{H:Hp}{s:Shared}{a:Addr}{kvs:List (Key×V)}{k:Key}{u:Value}{A:Around}{E:Value->Shared->Prop}
theorem Dk {Q:Value->Shared->Prop}(I:Inv X pins σ H s)(e:Rd H a (.dK kvs))(h:∀t s',Inv X pins σ H s'->Q (.int kvs.length t) s'):wpAny (model X.prog X.w) A (call (.builtin "len") [.ref a]) Q E s:=by
 obtain ⟨z,hd,vs,rel,dd⟩:=iB I.hok e
 refine call_len_dict hd dd (by rw [← rel.length];rw [sizeLine_eq] at z;omega) ?_
 rw [← rel.length]
 exact h _ _ (I.tok _)
end
def sJ (i:Expr):Prop:=∀ov iv,subscripted i false ov iv=operate [ov,iv] (getItem ov iv)
theorem yO {prog:Program}{w:World}{A:Around}{E:Value->Shared->Prop}{s:Shared}{env:Env}{value slice:Expr}{pos:Pos}{T id:String}{Q:Value->Shared->Prop}
 (hl:typeLookup (.type T) "__getitem__"=pure (some (.builtin id))) (hs:sJ slice)
 (h:wpAny (model prog w) A (eval value env) (λo s₁=>wpAny (model prog w) A (eval slice env) (λi s₂=>s₂.TypeIs o T/\wpAny (model prog w) A (getItem o i) Q E s₂) E s₁) E s):
 wpAny (model prog w) A (eval (.Subscript value slice pos) env) Q E s:=by
 refine Subscript_ (wpAny_mono h (λo s₁ h₁=>wpAny_mono h₁ (λi s₂ h₂=>?_) λ_ _ x=>x) λ_ _ x=>x)
 obtain ⟨hT,h₂⟩:=h₂
 unfold subscriptTail
 refine wpAny_bind ?_
 rw [getitemInPython_of_ne hT.not_modules]
 refine wpAny_bind (wpAny_specialOf hT hl ?_)
 have fin:wpAny (model prog w) A (subscripted slice false o i) (λr s₃=>wpAny (model prog w) A (letTemporaryGo value o r >>=λ_=>pure r) Q E s₃) E s₂:=by
  rw [hs o i]
  exact wpAny_operating (wpAny_mono h₂ (λr s₃ h₃=>wpAny_bind (wpAny_letTemporaryGo (wpAny_pure h₃))) λ_ _ x=>x)
 first
  | exact wpAny_pure (wpAny_bind fin)
  | exact wpAny_bind (wpAny_pure (wpAny_bind fin))
  | exact wpAny_bind fin
theorem qE {X:Cx}{pins:List (Addr×Obj)}{σ:St}{H:Hp}{s:Shared}{a:Addr}{y:V}{o:Option V}(I:Inv X pins σ H s)(g:ez H a y o):s.TypeIs (.ref a) "dict":=by
 rcases g with ⟨kvs,k,e,_,_⟩ | ⟨kvs,k,b,e,_,_,_⟩
 ·obtain ⟨_,_,vs,_,dd⟩:=iB I.hok e
  exact dd.typeIs
 ·obtain ⟨_,_,xs,_,dd⟩:=jo I.hok e
  exact dd.typeIs
def CJ (td ty:TE):TE:=λσ H Q=>td σ H λx H1=>ty σ H1 λy H2=>∃a v,x= .ref a/\ez H2 a y (some v)/\Q v H2
def Gf (ty td:TE):TE:=λσ H Q=>ty σ H λy H1=>td σ H1 λx H2=>∃a o,x= .ref a/\ez H2 a y o/\Q (.bl o.isSome) H2
def yL (ty td:TE):TE:=λσ H Q=>ty σ H λy H1=>td σ H1 λx H2=>∃a o,x= .ref a/\ez H2 a y o/\Q (.bl (!o.isSome)) H2
def C7 (td ty tv:TE):TS:=λD σ H=>tv σ H λv H1=>td σ H1 λx H2=>ty σ H2 λy H3=>∃a H4,x= .ref a/\m9 H3 a y v H4/\D.nx σ H4
section
variable {X:Cx}{o i e value:Expr}{pos pos' tpos:Pos}{td ty tv:TE}
theorem qY (hu:X.A.units + 1 < cLine)(ho:PE X o td)(hi:PE X i ty)(hs:sJ i):PE X (.Subscript o i pos) (CJ td ty):=by
 intro pins s σ H Q I h
 refine yO PySem.F.slot_dict_getitem.lookup hs (aO (ho pins s σ H _ I h) λu s1 ⟨x,H1,I1,rx,q1⟩=>aO (hi pins s1 σ H1 _ I1 q1) λiv s2 ⟨y,H2,I2,ry,a,v,ex,g,q2⟩=>?_)
 subst ex
 obtain rfl:u=Value.ref a:=rx
 exact ⟨qE I2 g,uW hu I2 g ry λw' s3 I3 rw'=>⟨v,H2,I3,rw',q2⟩⟩
theorem Ac (hu:X.A.units + 1 < cLine)(hi:PE X i ty)(ho:PE X o td):PC X .In i o (Gf ty td):=by
 intro pins s σ H Q I h
 refine aO (hi pins s σ H _ I h) λiv s1 ⟨y,H1,I1,ry,q1⟩=>aO (ho pins s1 σ H1 _ I1 q1) λu s2 ⟨x,H2,I2,rx,a,ov,ex,g,q2⟩=>?_
 subst ex
 obtain rfl:u=Value.ref a:=rx
 exact F2 hu I2 g ry λs3 I3=>⟨.bl ov.isSome,H2,I3,rfl,q2⟩
theorem nK (hu:X.A.units + 1 < cLine)(hi:PE X i ty)(ho:PE X o td):PC X .NotIn i o (yL ty td):=by
 intro pins s σ H Q I h
 refine aO (hi pins s σ H _ I h) λiv s1 ⟨y,H1,I1,ry,q1⟩=>aO (ho pins s1 σ H1 _ I1 q1) λu s2 ⟨x,H2,I2,rx,a,ov,ex,g,q2⟩=>?_
 subst ex
 obtain rfl:u=Value.ref a:=rx
 exact yY hu I2 g ry λs3 I3=>⟨.bl (!ov.isSome),H2,I3,rfl,q2⟩
theorem rj (hu:X.A.units + 1 < cLine)(ho:PE X o td)(hi:PE X i ty)(hv:PE X value tv)(hs:swapsWith value (some (.Subscript o i pos')) pos.line X.env=pure false):
 PS X (.Assign [.Subscript o i pos'] value pos) (C7 td ty tv):=by
 intro pins s σ H D I h
 refine wpAny_Assign_Subscript (aO (hv pins s σ H _ I h) λr s1 ⟨v,H1,I1,rv,q1⟩=>aO (ho pins s1 σ H1 _ I1 q1) λu s2 ⟨x,H2,I2,rx,q2⟩=>aO (hi pins s2 σ H2 _ I2 q2) λiv s3 ⟨y,H3,I3,ry,a,H4,ex,g,q3⟩=>?_) hs
 subst ex
 obtain rfl:u=Value.ref a:=rx
 exact vC hu I3 g ry rv λs4 I4=>⟨σ,H4,I4,q3⟩
end
theorem we {P:Program}{w:World}{H:Hp}(h:Heap)(hb:sysModules < h.objs.size):bT P w H (h.push {cls:=.type "dict",data:=.dict #[]}) h.objs.size (.dK []):=
 ⟨Nat.zero_le _,beq_eq_false_iff_ne.mpr (Ne.symm (Nat.ne_of_lt hb)),[],.nil,Heap.DictOf.new h⟩
section
variable {X:Cx}{pos:Pos}
end
section
variable {X:Cx}{pos:Pos}
def pV:List (TE×TE)->St->Hp->(List (V×V)->Hp->Prop)->Prop
 | [],_,H,Q=>Q [] H
 | (tk,tv)::r,σ,H,Q=>tk σ H λx H1=>tv σ H1 λy H2=>pV r σ H2 λps H3=>Q ((x,y)::ps) H3
abbrev VV:List (V×V)->List (Value×Value)->Prop:=Paired λp q=>RelV p.1 q.1/\RelV p.2 q.2
def yv (X:Cx)(pos:Pos)(keys:List (Option Expr))(values:List Expr)(trs:List (TE×TE)):Prop:=
 ∀(pins:List (Addr×Obj)) (s:Shared) (σ:St) (H:Hp) (Q:List (V×V)->Hp->Prop),Inv X pins σ H s->pV trs σ H Q->
  wpAny (model X.prog X.w) X.A (evalPairs (pairTrees keys values X.env pos)) (λvs s'=>∃ps H',Inv X pins σ H' s'/\VV ps vs/\Q ps H') X.xe s
theorem zu:yv X pos [] [] []:=λpins s σ H Q I h=>pairTrees_nil_walk ⟨[],H,I,.nil,h⟩
theorem wM {k v:Expr}{ks:List (Option Expr)}{vs:List Expr}{tk tv:TE}{trs:List (TE×TE)}(hk:PE X k tk)(hv:PE X v tv)(hr:yv X pos ks vs trs):
 yv X pos (some k::ks) (v::vs) ((tk,tv)::trs):=λpins s σ H Q I h=>
 pairTrees_cons_walk (aO (hk pins s σ H _ I h) λu s1 ⟨x,H1,I1,rx,q1⟩=>aO (hv pins s1 σ H1 _ I1 q1) λw2 s2 ⟨y,H2,I2,ry,q2⟩=>
  aO (hr pins s2 σ H2 _ I2 q2) λws s3 ⟨ps,H3,I3,rel,q3⟩=>⟨(x,y)::ps,H3,I3,.cons ⟨rx,ry⟩ rel,q3⟩)
def i8 (kvs more:List (Key×V)):List (Key×V):=more.foldl (λacc kv=>putK acc kv.1 kv.2) kvs
theorem KV.merge:∀{more:List (Key×V)} {rs:List (Key×Value)} {kvs:List (Key×V)} {vs:List (Key×Value)},KV more rs->KV kvs vs->KV (i8 kvs more) (merged vs rs):=by
 intro more rs kvs vs r
 unfold KV at r
 induction r generalizing kvs vs with
 | nil=>intro q;exact q
 | @cons p q ps qs h t ih=>
   intro r0
   have e:KV (putK kvs p.1 p.2) (stored vs q.1 q.2):=by
    have:=r0.put p.1 h.2
    rw [← h.1];exact this
   exact ih e
theorem jI:∀(more kvs:List (Key×V)),(i8 kvs more).length<=kvs.length + more.length
 | [],kvs=>by show kvs.length<=kvs.length + 0;omega
 | p::r,kvs=>by
   have h1:=jI r (putK kvs p.1 p.2)
   have h2:=iE kvs p.1 p.2
   show (i8 (putK kvs p.1 p.2) r).length<=_
   rw [List.length_cons];omega
theorem l9 {P:Program}{w:World}:∀{kvs:List (Key×V)} {ws:List (Value×Value)},VV (kvs.map λkv=>(kV kv.1,kv.2)) ws->∃rs,Carries (cF P w) ws rs/\KV kvs rs
 | [],_,r=>by rw [List.map_nil] at r;cases r;exact ⟨[],True.intro,.nil⟩
 | p::kvs,_,r=>by
   rw [List.map_cons] at r
   cases r with
   | @cons a b as bs h t=>
     obtain ⟨rs,c,q⟩:=l9 (P:=P) (w:=w) t
     obtain ⟨b1,b2⟩:=b
     exact ⟨(p.1,b2)::rs,⟨jq h.1,rfl,c⟩,.cons ⟨rfl,h.2⟩ q⟩
def DT (trs:List (TE×TE)):TE:=λσ H Q=>∀p,H p=none->pV trs σ (upd H p (.dK [])) λps H2=>H2 p=some (.dK [])/\∃kvs:List (Key×V),ps=kvs.map (λkv=>(kV kv.1,kv.2))/\kvs.length<=15/\Q (.ref p) (upd H2 p (.dK (i8 [] kvs)))
theorem zd {keys:List (Option Expr)}{values:List Expr}{trs:List (TE×TE)}(h:yv X pos keys values trs)(hall:keys.all (·.isSome)=true)(hl:keys.length=values.length)(h0:keys≠[])
 (h15:keys.length<=15):PE X (.Dict keys values pos) (DT trs):=by
 intro pins s σ H Q I q
 have hn:=I.hok.fresh (Nat.le_refl s.heap.objs.size)
 have I1:=I.laid (a:=s.heap.objs.size) (o:=.dK []) (h':=s.heap.push {cls:=.type "dict",data:=.dict #[]}) (t':=s.toks) (λ_ _ q=>Heap.get?_push_of_some _ q) (Nat.le_refl _) (we s.heap I.big)
 refine wpAny_Dict_walk (knd:=cF X.prog X.w) hall hl h0 h15 (aO (h pins _ σ _ _ I1 (q _ hn)) λws s2 ⟨ps,H2,I2,rel,e,kvs,ep,lk,q2⟩=>?_)
 subst ep
 obtain ⟨rs,c,rk⟩:=l9 (P:=X.prog) (w:=X.w) rel
 obtain ⟨z,hd,vs0,r0,dd⟩:=xU I2.hok e
 cases r0
 refine ⟨rs,c,dd,λh' dd' hs=>⟨.ref s.heap.objs.size,_,?_,rfl,q2⟩⟩
 have hz:(i8 [] kvs).length<=sizeLine:=by
  have h1:=jI kvs []
  rw [List.length_nil] at h1
  rw [sizeLine_eq];omega
 have he:∃q,h'.get? s.heap.objs.size=some q:=let ⟨q,_,_,hq,_⟩:=dd';⟨q,hq⟩
 exact mZ I2 (by rw [e];exact True.intro) hs he (u7 hz hd (rk.merge .nil) dd')
structure M2 (X:Cx) (o:Expr) (m:Str) (apos:Pos) (e f:Expr) (cpos:Pos):Prop where
 base:attributeBase o m X.env (eval o X.env)=eval o X.env
 few:((backTo cpos (starEach [e,f] X.env)).all (λx=> !x.1)&&(backToKw cpos (keywordEach [] X.env)).all (λx=>x.1.isSome)
  &&decide (([e,f]:List Expr).length + ([]:List Keyword).length + (if ([]:List Keyword).isEmpty then 0 else 1) < 30))=true
 line:(apos.endLine==cpos.line)=true
 trees:backTo cpos (starEach [e,f] X.env)=[(false,eval e X.env),(false,eval f X.env)]
def EU (H:Hp)(a:Addr):Prop:=(∃kvs,Rd H a (.dK kvs))∨∃kvs,Rd H a (.dT kvs)
theorem A6 {pins:List (Addr×Obj)}{σ:St}{H:Hp}{s:Shared}{a:Addr}(I:Inv X pins σ H s)(d:EU H a):
 s.TypeIs (.ref a) "dict"/\(∀b,Value.ref a= .ref b->∃ob,s.heap.get? b=some ob/\ob.dict=none)/\(a==sysModules)=false:=by
 rcases d with ⟨kvs,e⟩ | ⟨kvs,e⟩
 ·obtain ⟨_,hd,vs,_,dd⟩:=iB I.hok e
  refine ⟨dd.typeIs,λb q=>?_,hd⟩
  cases q
  obtain ⟨ob,_,_,h1,h2,_⟩:=dd
  exact ⟨ob,h1,h2.2.1⟩
 ·obtain ⟨_,hd,xs,_,dd⟩:=jo I.hok e
  refine ⟨dd.typeIs,λb q=>?_,hd⟩
  cases q
  obtain ⟨ob,_,_,h1,h2,_⟩:=dd
  exact ⟨ob,h1,h2.2.1⟩
end
section
variable {X:Cx}{pins:List (Addr×Obj)}{σ:St}{H:Hp}{s:Shared}{a:Addr}{y d:V}{u r:Value}{o:Option V}{A:Around}{E:Value->Shared->Prop}
theorem Bv {Q:Value->Shared->Prop}(hu:A.units + 1 < cLine)(I:Inv X pins σ H s)(g:ez H a y o)(ry:RelV y u)(rd:RelV d r)(h:∀w' s',Inv X pins σ H s'->RelV (o.getD d) w'->Q w' s'):
 wpAny (model X.prog X.w) A (call (.builtin "dict.get") [.ref a,u,r]) Q E s:=by
 rcases g with ⟨kvs,k,e,ey,l⟩ | ⟨kvs,k,b,e,ey,eb,l⟩
 ·subst ey
  obtain ⟨z,hd,vs,rel,dd⟩:=iB I.hok e
  refine call_meetsIn PySem.F.slot_dict_get dd.typeIs PySem.F.entry_dict_get (PySem.F.args_dict_get_3 _ _ _) (meets_dict_get_default (cF X.prog X.w) a (jq ry) hd r) ⟨_,dd.mapOf,h _ _ (I.tok _) ?_⟩
  rw [l]
  exact (rel.val k).getD rd
 ·subst ey
  cases (show u=Value.ref b from ry)
  obtain ⟨z,hd,xs,rel,dd⟩:=jo I.hok e
  refine call_meetsIn PySem.F.slot_dict_get dd.typeIs PySem.F.entry_dict_get (PySem.F.args_dict_get_3 _ _ _) (meetsH_dict_get_default (tupleKind (cF X.prog X.w)) a b hd r) ⟨tupleKind_room_in1 hu,k,xs,iT I.hok eb,dd,h _ _ (I.tok _) ?_⟩
  rw [l]
  exact (rel.val k).getD rd
end
def Av (td ty tx:TE):TE:=λσ H Q=>td σ H λx H1=>∃a,x= .ref a/\EU H1 a/\ty σ H1 λy H2=>tx σ H2 λz H3=>∃o,ez H3 a y o/\Q (o.getD z) H3
section
variable {X:Cx}{o e f:Expr}{apos cpos:Pos}{td ty tx:TE}
theorem xg (hu:X.A.units + 1 < cLine)(ho:PE X o td)(he:PE X e ty)(hf:PE X f tx)(m:M2 X o "get" apos e f cpos):PE X (.Call (.Attribute o "get" apos) [e,f] [] cpos) (Av td ty tx):=by
 intro pins s σ H Q I h
 refine wpAny_Call_method m.base m.few m.line PySem.F.plainAttrs_dict PySem.F.slot_dict_get PySem.F.type_dict_get (aO (ho pins s σ H _ I h) λu s1 ⟨x,H1,I1,rx,a,ex,d,q1⟩=>?_)
 subst ex
 obtain rfl:u=Value.ref a:=rx
 obtain ⟨t1,t2,_⟩:=A6 I1 d
 refine ⟨t1,t2,?_⟩
 rw [m.trees]
 refine Calls.callWith_builtin rfl (Calls.evalArgs_plain (Calls.spliced_cons (aO (he pins s1 σ H1 _ I1 q1) λiv s2 ⟨y,H2,I2,ry,q2⟩=>
  Calls.spliced_cons (aO (hf pins s2 σ H2 _ I2 q2) λfv s3 ⟨z,H3,I3,rz,ov,g,q3⟩=>Calls.spliced_nil ?_))))
 exact Bv hu I3 g ry rz λw' s4 I4 rw'=>⟨_,H3,I4,rw',q3⟩
end
section
variable {X:Cx}{pins:List (Addr×Obj)}{σ:St}{H:Hp}{s:Shared}{a:Addr}{kvs:List (Key×V)}{A:Around}{E:Value->Shared->Prop}
end
section
variable {X:Cx}{pins:List (Addr×Obj)}{σ:St}{H:Hp}{s:Shared}{a:Addr}{y:V}{u:Value}{A:Around}{E:Value->Shared->Prop}
end
end L2
namespace Att
open PySem PySem.W PySem.Calls PyProof.Rows
theorem mK {P:Params}{h:Heap}:∀(ns:List Int) (vs:List Value),WellAll P h vs (ns.map WData.int)->IntsAre vs ns:=by
 intro ns
 induction ns with
 | nil=>
   intro vs w
   rw [List.map_nil] at w
   cases w
   exact .nil
 | cons n ns ih=>
   intro vs w
   rw [List.map_cons] at w
   cases w with
   | cons a b=>
     cases a
     exact .cons _ _ (ih _ b)
theorem uD {l:OpenLaw}{n:Nat}(hn:l.most=some n){P:Params}{h:Heap}{args:List WData}{vals:List Value}
 (hpre:l.row.toRowW.claim.pre args=true) (hwl:WellAll P h vals args):
 ∃a vs ns,vals=[Value.ref a]/\args=[WData.list (ns.map WData.int)]/\h.get? a=some {cls:=.type "list",data:=.seq vs.toArray}/\IntsAre vs ns/\ns.length<=n:=by
 have hsh:WShape.hasAll [] args [.list .int]=true:=(pre_splitW hpre).1
 have hc:l.pre.holds [] {args:=args}=true:=(pre_splitW hpre).2
 obtain ⟨d,r,rfl,h1,h2⟩:=hasAllW_cons hsh
 obtain rfl:=hasAllW_nil h2
 obtain ⟨xs,rfl,h3⟩:=hasW_list h1
 obtain ⟨ns,rfl⟩:=items_int h3
 have hlen:ns.length<=n:=by
  unfold OpenLaw.pre at hc
  have h4:(WTm.not (.lt (.lit (.int (n:Int))) (.len (.arg 0)))).holds [] {args:=[.list (ns.map .int)]}=true:=by
   have h4:=(holds_andW hc).1
   rw [hn] at h4
   exact h4
  have h5:=condW_of h4 (w_not (w_lt w_lit (w_len_list (w_arg rfl))))
  rw [List.length_map] at h5
  refine Nat.le_of_not_lt λq=>?_
  have q':(n:Int) < ((ns.length:Nat):Int):=by omega
  first
   | (rw [decide_eq_true q'] at h5;exact absurd h5 (by decide))
   | (simp at h5;omega)
 cases hwl with
 | cons w1 w2=>
   cases w2
   cases w1 with
   | list ho hall=>exact ⟨_,_,ns,rfl,rfl,ho,mK ns _ hall,hlen⟩
theorem vE (l:OpenLaw)(args:List WData):l.row.toRowW.claim.post args (.bool true) args=true:=
 postW_of (r:=l.row.toRowW) (X:=(true==true))
  (show WShape.has [] (.bool true) .bool=true by first | rfl | decide | simp [WShape.has,WShape.arms,WShape.armsAll])
  (show (WTm.eq .res (.lit (.bool true))).value [] {args:=args,res:=some (.bool true),after:=args}=some (.bool (true==true)) from w_eq_bool (w_res rfl) w_lit) rfl
section
variable {prog:Program}{w:World}{A:Around}{E:Value->Shared->Prop}{s:Shared}{K:Frag}
end
end Att
namespace L2
open PySem PySem.Spec PyProof.Rows
theorem nC:∀{vs:List Value} {ns:List Int},IntsAre vs ns->Vals (ns.map V.int) vs
 | _,_,.nil=>.nil
 | _,_,.cons n t h=>.cons ⟨t,rfl⟩ (nC h)
def xu (H:Hp):Prop:=∀b,H b=none∨∃o xs,H b=some (.frz o (.lst xs))
theorem xo {P:Program}{w:World}{K:PySem.W.Frag}{mg mb:Str->Option Value}{CX:i9}{k:Nat}{fa a:Addr}{fd:FuncData}{x:Str}{sp:Sp}{s₁:Shared}{vs:List Value}{ns:List Int}
 (KX:K.In s₁.heap) (hns:s₁.heap.Ns mainGlobals mg) (hb:s₁.heap.Ns builtinsNs mb) (hbb:∀x:Str,x≠"__name__"->mb x=bootBuiltins x) (hlim:s₁.heap.NoLimit) (hg:s₁.gens= #[])
 (ha:s₁.heap.get? a=some {cls:=.type "list",data:=.seq vs.toArray}) (hi:IntsAre vs ns) (hl:ns.length<=sizeLine) (hr:bA k callerA)
 (F:∀base:Heap,K.In base->base.Ns mainGlobals mg->eV P w K mg base CX k fa fd [x] sp) (hbind:∀(s:Shared) (u:Value),BindsTo s fd ⟨[u],[]⟩ [(x,u)])
 (hsp:∀H:Hp,xu H->aL K H a (ns.map V.int)->sp [.ref a] H (λv _=>v= .bl true) λ_ _ _=>False)
 (hCX:∀H e s',CX [] H s₁ (λ_ _ _=>False) e s'->False):
 codeAny (model P w) callerA (.call (.ref fa) ⟨[.ref a],[]⟩) (λr s'=>r= .ok (.ret (.bool true))/\OldK s₁.heap s'.heap/\s'.os=s₁.os/\AllBare s'.gens) s₁:=by
 have rv:=nC hi
 have lenV:=hi.length
 -- from an abstract heap in which nothing but the script may be tracked
 have core:∀H:Hp,xu H->aL K H a (ns.map V.int)->cG P w H s₁.heap->(∀b,H b≠none->b=a)->(H a≠none->K.lookup a=none)->
  codeAny (model P w) callerA (.call (.ref fa) ⟨[.ref a],[]⟩) (λr s'=>r= .ok (.ret (.bool true))/\OldK s₁.heap s'.heap/\s'.os=s₁.os/\AllBare s'.gens) s₁:=by
  intro H hO hS hok hA hK
  have base_of:∀{b:Addr} {o:Obj},s₁.heap.get? b=some o->H b=none->(jj s₁.heap H).get? b=some o:=λe n=>vZ e n
  have noA:∀{b:Addr} {o:Obj} {es:Array DictEntry} {ep:Nat},s₁.heap.get? b=some o->o.data= .dict es ep->H b=none:=λ{b o es ep} e d=>by
   cases q:H b with
   | none=>rfl
   | some u=>
     have e':b=a:=hA b (by rw [q];simp)
     subst e'
     rw [ha] at e;cases e
     have d':Data.seq vs.toArray _=Data.dict es ep:=d
     cases d'
  have nsK:∀{b:Addr} {m:Str->Option Value},s₁.heap.Ns b m->(jj s₁.heap H).Ns b m:=λ{b m} ⟨o,es,ep,e,d,r⟩=>⟨o,es,ep,base_of e (noA e d),d,r⟩
  have hKb:K.In (jj s₁.heap H):=λb o e=>base_of (KX b o e) (by
   cases q:H b with
   | none=>rfl
   | some u=>
     have e':b=a:=hA b (by rw [q];simp)
     subst e'
     rw [hK (by rw [q];simp)] at e;cases e)
  have hM:Mod K mg (jj s₁.heap H):=⟨hKb,nsK hns,⟨mb,nsK hb,hbb⟩,let ⟨mc,h1,h2⟩:=hlim;⟨mc,nsK h1,h2⟩⟩
  have e0:sA P w K mg (jj s₁.heap H) callerA [] s₁ H:=⟨rfl,hM,λb o e=>zG e,Nat.le_of_eq (uF _ _),trivial,λb hb=>absurd (show b∈([]:List Addr) from hb) (by simp),hok,.of_eq hg⟩
  refine codeAny_mono ((F _ hKb (nsK hns)).run callerA [] s₁ H ⟨[.ref a],[]⟩ [.ref a] [.ref a] _ _ hr e0 (hbind s₁ (.ref a)) (.cons rfl .nil) (hsp H hO hS)) λr s' h=>?_
  cases r with
  | error e=>exact (hCX H e s' h).elim
  | ok fl=>
    cases fl with
    | next=>exact False.elim h
    | brk=>exact False.elim h
    | cont=>exact False.elim h
    | ret u=>
      obtain ⟨v,H',os,bare,un,hok',r',q⟩:=h
      have q':v= .bl true:=q
      subst q'
      obtain rfl:u=Value.bool true:=r'
      refine ⟨rfl,OldK.of_keep λb o e=>?_,os,bare⟩
      cases q:H b with
      | none=>exact un.keep b o e q (by intro z;exact absurd (show b∈([]:List Addr) from z) (by simp)) (by simp)
      | some u=>
        rcases hO b with z | ⟨ob,xs,z⟩
        ·rw [q] at z;cases z
        ·have z2:=un.frzs b ob _ z
         obtain ⟨e1,_⟩:=hok b _ z
         obtain ⟨e2,_⟩:=hok' b _ z2
         rw [e] at e1;cases e1
         exact e2
 cases hk:K.lookup a with
 | some o=>
   -- the script is one of the module's own objects
   have e:=KX a o hk
   rw [ha] at e
   cases e
   refine core (λ_=>none) (λ_=>.inl rfl) (.inr ⟨_,vs.toArray,_,hk,rfl,rfl,rfl,by rw [List.size_toArray,lenV];exact hl,by simpa using rv⟩) (λb u z=>by have z':(none:Option HO)=some u:=z;cases z') (λb z=>absurd rfl z) λz=>absurd rfl z
 | none=>
   refine core (λb=>if b=a then some (.frz {cls:=.type "list",data:=.seq vs.toArray} (.lst (ns.map V.int))) else none) (λb=>?_) (.inl (.inr ⟨{cls:=.type "list",data:=.seq vs.toArray},if_pos rfl⟩)) (λb u z=>?_) (λb z=>?_) λ_=>hk
   ·by_cases hb:b=a
    ·exact .inr ⟨_,_,if_pos hb⟩
    ·exact .inl (if_neg hb)
   ·by_cases hb:b=a
    ·have z':=(if_pos hb).symm.trans z
     cases z'
     subst hb
     exact ⟨ha,by rw [List.length_map];exact hl,vs,_,rv,ha⟩
    ·have z':=(if_neg hb).symm.trans z
     cases z'
   ·by_cases hb:b=a
    ·exact hb
    ·exact absurd (if_neg hb) z
abbrev aW {K:PySem.W.Frag}{h:Heap}(_:K.In h):PySem.W.Frag:=K
def ft (s:Stmt):Arguments:=match s with
 | .FunctionDef _ a _ _ _ _ _ _ _ _=>a
 | _=>{posonlyargs:=[],args:=[],vararg:=none,kwonlyargs:=[],kw_defaults:=[],kwarg:=none,defaults:=[]}
def br (s:Stmt):List Stmt:=match s with
 | .FunctionDef _ _ b _ _ _ _ _ _ _=>b
 | _=>[]
def ai (s:Stmt):Scope:=match s with
 | .FunctionDef _ _ _ _ _ _ sc _ _ _=>sc
 | _=>{kind:=.function,names:=[],isGenerator:=false,isCoroutine:=false}
abbrev dQ:i9:=λ_ _ _ _ _ _=>False
abbrev E0:XK:=λ_ _ _=>False
theorem gL {X:Cx}:Passes dQ X E0:=λ_ _ _ _ _ _ _ h=>h.elim
structure bH (K:PySem.W.Frag) (x qual:Str) (st:Stmt) (f:Addr) (fd:FuncData):Prop where
 ex:∃(oc:Value) (od:Option Addr) (kV doc pm:Value) (an:Option Addr) (cdv ct:Value) (osl:Array (Option Value)),
  fd=PySem.W.fnOf x qual (ft st) (br st) (ai st) .none kV doc pm an cdv ct/\K.lookup f=some ⟨oc,od,.func fd,osl⟩/\PySem.W.codeIn K cdv qual=true
 kp:PySem.W.keepIn K (.ref f)=true
section
variable {P:Program}{w:World}{K:PySem.W.Frag}{mg:Str->Option Value}{base:Heap}
variable {x qual:Str}{st:Stmt}{f:Addr}
theorem bH.ok {fd:FuncData}{N ps:List Str}{k:Nat}{sp:Sp}(F:bH K x qual st f fd)(S:aC N ps (ai st))(len:∀vs H Q E,sp vs H Q E->vs.length=ps.length)
 (hbody:∀(cdv:Value) (A:Around) (outer:List Env) (s:Shared) (H:Hp) (vs:List V) (Q:VK) (E:XK),bA k (A.deeper (envOfC qual (ai st) s.heap.objs.size f cdv))->sp vs H Q E->
  ∃t,gI (cL dQ P w K mg base N qual (ai st) f cdv A outer s H E).c8 (br st) t/\t {nx:=λ_ H'=>Q .non H',rt:=Q} (start N vs) H):eV P w K mg base dQ (k + 1) f fd ps sp:=by
 obtain ⟨oc,od,kV,doc,pm,an,cdv,ct,osl,rfl,lk,hcd⟩:=F.ex
 refine yp lk hcd S len λA outer s H vs Q E hr hsp=>?_
 obtain ⟨t,h,q⟩:=hbody cdv A outer s H vs Q E hr hsp
 exact ⟨t,h.c8,q⟩
theorem bH.binds {fd:FuncData}{ps:List Str}(F:bH K x qual st f fd)
 (h:∀(kV doc pm:Value) (an:Option Addr) (cdv ct:Value) (us:List Value),us.length=ps.length->bindArgs (PySem.W.fnOf x qual (ft st) (br st) (ai st) .none kV doc pm an cdv ct) ⟨us,[]⟩=pure (ps.zip us)):Binds K fd ps []:=by
 obtain ⟨oc,od,kV,doc,pm,an,cdv,ct,osl,rfl,lk,hcd⟩:=F.ex
 exact .all (h kV doc pm an cdv ct)
theorem pR {oc:Value}{od an:Option Addr}{osl:Array (Option Value)}{kV doc pm cdv ct:Value}(l:K.lookup f=some ⟨oc,od,.func (PySem.W.fnOf x qual (ft st) (br st) (ai st) .none kV doc pm an cdv ct),osl⟩)
 (c:PySem.W.codeIn K cdv qual=true) (k:PySem.W.keepIn K (.ref f)=true):bH K x qual st f (PySem.W.fnOf x qual (ft st) (br st) (ai st) .none kV doc pm an cdv ct):=⟨⟨oc,od,kV,doc,pm,an,cdv,ct,osl,rfl,l,c⟩,k⟩
end
theorem oH {A:Around}{k:Nat}(hr:bA k A):A.units + 1 < cLine:=Nat.lt_of_le_of_lt (Nat.add_le_add_left (by decide:1<=64) _) hr.units
section
variable {X:Cx}
end
section
variable {H:Hp}
theorem iG {A B:Prop}(h:B):if false=true then A else B:=by
 rw [if_neg Bool.false_ne_true]
 exact h
theorem jy {A B:Prop}(h:A):if true=true then A else B:=by
 rw [if_pos rfl]
 exact h
def ar (H H':Hp):Prop:=∀b o,H b=some o->H' b=some o
theorem ar.refl (H:Hp):ar H H:=λ_ _ h=>h
theorem ar.trans {H1 H2:Hp}(a:ar H H1)(b:ar H1 H2):ar H H2:=λc o h=>b c o (a c o h)
theorem ar.free {H':Hp}(e:ar H H'){l:Addr}(h:H' l=Option.none):H l=Option.none:=by
 cases q:H l with
 | none=>rfl
 | some o=>
   rw [e l o q] at h
   cases h
theorem ar.seq {K:PySem.W.Frag}{H':Hp}{a:Addr}{xs:List V}(e:ar H H')(h:aL K H a xs):aL K H' a xs:=by
 rcases h with (h | ⟨o,h⟩) | h
 ·exact .inl (.inl (e _ _ h))
 ·exact .inl (.inr ⟨o,e _ _ h⟩)
 ·exact .inr h
end
section
variable {X:Cx}
theorem uh:dR X (.builtin "len") (λxs H Q=>∃a kvs,xs=[V.ref a]/\H a=some (.dK kvs)/\Q (.int kvs.length) H):=by
 intro pins s σ H xs us Q I r h
 obtain ⟨a,kvs,rfl,ha,q⟩:=h
 obtain ⟨u,rfl,ru⟩:=vals1 r
 cases ru
 exact Dk I (.inl ha) λt s' I'=>⟨.int kvs.length,H,I',⟨t,rfl⟩,q⟩
end
section
variable {κ:Type} [DecidableEq κ]
theorem eT:∀{l:List κ} {k:κ},l.Nodup->¬k∈l->(l++[k]).Nodup
 | [],k,_,_=>by simp
 | a::r,k,h,hk=>by
   obtain ⟨h1,h2⟩:=List.nodup_cons.mp h
   show (a::(r++[k])).Nodup
   refine List.nodup_cons.mpr ⟨λm=>?_,eT h2 λm=>hk (List.mem_cons.mpr (Or.inr m))⟩
   rcases List.mem_append.mp m with q | q
   ·exact h1 q
   ·exact hk (List.mem_cons.mpr (Or.inl (List.mem_singleton.mp q).symm))
end
end L2
set_option maxHeartbeats 4000000
namespace L2
open PySem PySem.Spec PyProof.Rows
section
variable {X:Cx}
variable {elt target iter:Expr}{ifs:List Expr}{scope:Scope}{pos:Pos}{s:Shared}{cl:List (Str×Addr)}{fr:List Str}{ix:List Nat}{wi:TI}{tc:TT}{te:TE}
def aK (X:Cx)(scope:Scope)(cl:List (Str×Addr))(C:Addr)(N':List Str)(s:Shared)(H:Hp)(ex:List Addr):Cx:=
 {X with N:=N',s₀:=s,H₀:=H,env:=compEnvC scope cl C X.env,outer:=X.stack,stack:=X.stack,ex:=ex,fn:=λ_=>false,pn:=[],xe:=λ_ _=>False}
def PF (X:Cx)(ifs:List Expr)(t:TT):Prop:=
 ∀(pins:List (Addr×Obj)) (s:Shared) (σ:St) (H:Hp) (Q:Bool->Hp->Prop),Inv X pins σ H s->t σ H Q->
  wpAny (model X.prog X.w) X.A (forIn ifs true λc r=>if r=true then do let ok ← isTrue c X.env (eval c X.env);pure (ForInStep.yield ok) else pure (ForInStep.yield r)) (TP X pins σ Q) X.xe s
def FW:TT:=λ_ H Q=>Q true H
theorem BP:PF X [] FW:=by
 intro pins s σ H Q I h
 exact wpAny_pure ⟨H,I,h⟩
theorem Bu {c:Expr}{t:TT}(hc:PT X c t):PF X [c] t:=by
 intro pins s σ H Q I h
 show wpAny _ _ (forIn [c] true λc r=>_) _ _ s
 rw [List.forIn_cons]
 simp only [if_true,List.forIn_nil]
 refine wpAny_bind (wpAny_bind (wpAny_mono (hc pins s σ H Q I h) (λb s1 h1=>?_) λ_ _ e=>e))
 exact wpAny_pure (wpAny_pure h1)
theorem oO {prog:Program}{w:World}{A:Around}{R:Result->Shared->Prop}{it acc:Value}{env:Env}(I:Nat->Shared->Prop)
 (turn:∀n s,I n s->wpAny (model prog w) A (pyNext it) (λr s₁=>match r with
  | none=>R (.ok .next) s₁
  | some v=>wpAny (model prog w) A (letOwnedTupleGo target it v) (λ_ s₁'=>wpAny (model prog w) A (assign target env v) (λ_ s₂=>
   wpAny (model prog w) A (forIn ifs true λc r=>if r=true then do let ok ← isTrue c env (eval c env);pure (ForInStep.yield ok) else pure (ForInStep.yield r)) (λok s₃=>
    if ok=true then wpAny (model prog w) A (eval elt env) (λx s₄=>
     wpAny (model prog w) A (call (.builtin "list.append") [acc,x]) (λ_ s₅=>∃m,m < n/\I m s₅) (λ_ _=>False) s₄) (λ_ _=>False) s₃
    else∃m,m < n/\I m s₃) (λ_ _=>False) s₂) (λ_ _=>False) s₁') (λ_ _=>False) s₁) (λ_ _=>False) s)
 (n:Nat) (h:I n s):
 codeAny (model prog w) A (.compLoop (.ListComp elt [⟨target,iter,ifs,0⟩] scope pos) 0 it acc env) R s:=by
 have no:∀{α:Type} {t:Sem α} {Q:α->Shared->Prop} {E:Value->Shared->Prop} {s:Shared},wpAny (model prog w) A t Q (λ_ _=>False) s->wpAny (model prog w) A t Q E s:=λh=>wpAny_mono h (λ_ _ q=>q) λ_ _ f=>f.elim
 refine codeAny_loop rfl I (λn s hI=>?_) n h
 show wpAny _ A ((compTurn (.ListComp elt [⟨target,iter,ifs,0⟩] scope pos) 0 it acc env).onRaise (λx=>do noteFrame x env;theTreesLotGoes x)) _ _ s
 refine wpAny_noted ?_
 rw [compTurn_list]
 refine wpAny_bind (wpAny_standAt (wpAny_bind (wpAny_mono (no (turn n s hI)) (λr s₁ h₁=>?_) λ_ _ h'=>h')))
 cases r with
 | none=>exact wpAny_pure h₁
 | some v=>
   refine wpAny_bind (wpAny_mono (no h₁) (λ_ s₁' h₁'=>?_) λ_ _ h'=>h')
   refine wpAny_bind (wpAny_mono (no h₁') (λ_ s₂ h₂=>wpAny_bind (wpAny_mono (no h₂) (λok s₃ h₃=>?_) λ_ _ h'=>h')) λ_ _ h'=>h')
   cases ok with
   | false=>exact wpAny_pure ⟨rfl,h₃⟩
   | true=>
     exact wpAny_bind (wpAny_bind (wpAny_mono (no h₃) (λx s₄ h₄=>wpAny_bind (wpAny_mono (no h₄) (λ_ s₅ h₅=>wpAny_pure (wpAny_pure ⟨rfl,h₅⟩)) λ_ _ h'=>h')) λ_ _ h'=>h'))
def tH (wi:TI)(g:TG)(tc:TT)(te:TE)(z:St->St):TE:=λσ H Q=>wi σ H λJ H1=>
 ∃W:Nat->Nat->List V->St->Hp->Prop,(∃m,W 0 m [] (z σ) H1)/\∀i m ys σ' H',W i m ys σ' H'->
  ys.length<=sizeLine/\((J.stop i H'/\∀p,H' p=none->Q (.ref p) (upd H' p (.lst ys)))∨
  (J.go i H'/\∀x H2,J.yld i H' x H2->g x σ' H2 λσ2 H3=>tc σ2 H3 λb H4=>
    if b=true then te σ2 H4 λv H5=>∃m',m' < m/\W (i + 1) m' (ys++[v]) σ2 H5 else∃m',m' < m/\W (i + 1) m' ys σ2 H4))
structure dq (X:Cx) (scope:Scope) (cl:List (Str×Addr)) (own fr:List Str) (ix:List Nat):Prop where
 clos:closureFor scope X.env=pure cl
 cells:∀x c,cl.lookup x=some c->X.env.cells.lookup x=some c
 kind:scope.kind= .function
 ncell:∀y∈scope.names,y.2≠ .cell
 names:∀y∈scope.names,y.2= .local->scope.names.lookup y.1=some .local
 has:∀x,scope.names.lookup x=some .free->∃c,cl.lookup x=some c
 frees:∀x∈fr,scope.names.lookup x=some .free
 len:fr.length=ix.length
 at_:∀(k:Nat) (i:Nat) (x:Str),ix[k]?=some i->fr[k]?=some x->X.N[i]?=some x/\X.env.kindOf x=some .cell
theorem f9 {env:Env}:∀{names:List (Str×NameKind)} {x:Str} {k:NameKind},
 (names.map λ(n,k)=>if (k==NameKind.free&&env.scope.kind== .function&&env.kindOf n==some .cell) then (n,NameKind.cell) else (n,k)).lookup x=some k->
 ∃k',names.lookup x=some k'/\(k=k'∨(k'= .free/\k= .cell))
 | [],_,_,h=>by simp at h
 | (n,k)::r,x,kk,h=>by
   have ih:=@f9 env r x kk
   replace h:List.lookup x ((if (k==NameKind.free&&env.scope.kind== .function&&env.kindOf n==some .cell)=true then (n,NameKind.cell) else (n,k))::_)=some kk:=h
   by_cases hc:(k==NameKind.free&&env.scope.kind== .function&&env.kindOf n==some .cell)=true
   ·rw [if_pos hc] at h
    cases hx:x==n with
    | true=>
      simp only [List.lookup_cons,hx,Option.some.injEq] at h ⊢
      have hk:k= .free:=by
       simp only [Bool.and_eq_true] at hc
       exact eq_of_beq hc.1.1
      exact ⟨k,rfl,.inr ⟨hk,h.symm⟩⟩
    | false=>
      simp only [List.lookup_cons,hx] at h ⊢
      exact ih h
   ·rw [if_neg hc] at h
    cases hx:x==n with
    | true=>
      simp only [List.lookup_cons,hx,Option.some.injEq] at h ⊢
      exact ⟨k,rfl,.inl h.symm⟩
    | false=>
      simp only [List.lookup_cons,hx] at h ⊢
      exact ih h
theorem jZ {env:Env}(hf:env.scope.kind= .function):∀{names:List (Str×NameKind)} {x:Str},names.lookup x=some .free->env.kindOf x=some .cell->
 (names.map λ(n,k)=>if (k==NameKind.free&&env.scope.kind== .function&&env.kindOf n==some .cell) then (n,NameKind.cell) else (n,k)).lookup x=some .cell
 | [],_,h,_=>by simp at h
 | (n,k)::r,x,h,hk=>by
   have ih:=@jZ env hf r x
   show List.lookup x ((if (k==NameKind.free&&env.scope.kind== .function&&env.kindOf n==some .cell)=true then (n,NameKind.cell) else (n,k))::_)=_
   cases hx:x==n with
   | true=>
     simp only [List.lookup_cons,hx,Option.some.injEq] at h
     have e:x=n:=eq_of_beq hx
     subst e
     subst h
     rw [if_pos (by rw [hf,hk];rfl)]
     simp [List.lookup_cons]
   | false=>
     simp only [List.lookup_cons,hx] at h
     split
     ·simp only [List.lookup_cons,hx];exact ih h hk
     ·simp only [List.lookup_cons,hx];exact ih h hk
def eM (own:List Str)(ix:List Nat)(σ:St):St:=List.replicate own.length none++ix.map λi=>(σ[i]?).join
structure Off (X:Cx) (pins:List (Addr×Obj)) (H:Hp) (s:Shared) (C:Addr):Prop where
 ns:∃m,s.heap.Ns C m
 free:H C=none
 ne:C≠X.env.locals
 young:X.s₀.heap.objs.size<=C
 cell:∀x c,X.env.cells.lookup x=some c->c≠C
 pin:∀p∈X.pn++pins,p.1≠C
theorem nN {own:List Str}{g:TG}
 {use:Option (Value->Sem Unit)} {Qf:Value->Shared->Prop} {pins:List (Addr×Obj)} {σ:St} {H:Hp} {Q:VK}
 (hc:X.calm=true) (S:dq X scope cl own fr ix) (hi:PI X target iter wi)
 (hb:∀(C:Addr) (s:Shared) (H:Hp) (ex:List Addr),PG (aK X scope cl C (own++fr) s H ex) target g/\PF (aK X scope cl C (own++fr) s H ex) ifs tc/\PE (aK X scope cl C (own++fr) s H ex) elt te)
 (hs:∀x,foldedSetIterable iter X.env x=pure x) (I:Inv X pins σ H s) (h:tH wi g tc te (eM own ix) σ H Q)
 (hfin:∀(D C:Addr) (H6:Hp) (s6:Shared),Inv X pins σ H6 s6->Off X pins H6 s6 C->Q (.ref D) H6->compPost (model X.prog X.w) X.A X.xe use Qf (.ref D) C (.ok .next) s6):
 wpAny (model X.prog X.w) X.A (comprehension (.ListComp elt [⟨target,iter,ifs,0⟩] scope pos) scope X.env (firstIterPos [⟨target,iter,ifs,0⟩] pos) (newList []) false (eval iter X.env) use) Qf X.xe s:=by
 refine wpAny_comprehension_free (use:=use) rfl hs S.clos S.kind S.names ?_
 refine aO (hi pins s σ H _ I h) λv s1 h1=>aO h1 λitv s2 h2=>?_
 obtain ⟨it,fp,tn,J,H2,rfl,I2,T,st2,f2,W,⟨m0,w0⟩,turn⟩:=h2
 refine wpAny_newObj_type (wpAny_newFunctionEnv S.ncell (by intro y hy;simp at hy) (λh₁ hns₁ hsb₁=>?_) S.kind)
 dsimp only at hns₁ hsb₁ ⊢
 generalize hH3:s2.heap.push {cls:=.type "list",dict:=none,data:=.seq ([]:List Value).toArray}=h3 at hns₁ hsb₁ ⊢
 have hC:h3.objs.size=s2.heap.objs.size + 1:=by rw [← hH3,Heap.size_push]
 have to3:∀b o,s2.heap.get? b=some o->h3.get? b=some o:=λb o e=>by rw [← hH3];exact Heap.get?_push_of_some _ e
 have getD3:h3.get? s2.heap.objs.size=some {cls:=.type "list",data:=.seq ([]:List Value).toArray}:=by rw [← hH3];exact Heap.get?_push_size _ rfl
 have to1:∀b o,h3.get? b=some o->h₁.get? b=some o:=λb o e=>hsb₁.extBut b o (Nat.ne_of_lt (Heap.lt_size e)) (Heap.get?_push_of_some _ e)
 have frD:∀{b:Addr},b∈fp->b≠s2.heap.objs.size:=λ{b} hb z=>by
  obtain ⟨o,e,_⟩:=T.obj 0 _ st2 b hb
  exact absurd (Heap.lt_size e) (by rw [z];exact Nat.lt_irrefl _)
 have frC:∀{b:Addr},b∈fp->b≠h3.objs.size:=λ{b} hb z=>by
  obtain ⟨o,e,_⟩:=T.obj 0 _ st2 b hb
  exact absurd (Heap.lt_size e) (by rw [z,hC];exact Nat.not_lt.mpr (Nat.le_succ _))
 have HD2:H2 s2.heap.objs.size=none:=I2.hok.fresh (Nat.le_refl _)
 -- the block's context
 let X':Cx:=aK X scope cl h3.objs.size (own++fr) {s2 with heap:=h3} H2 (s2.heap.objs.size::fp)
 have ok':X'.Ok:=by
  refine ⟨I2.ok.mod,S.kind,I2.ok.glob,I2.ok.blt,Nat.le_refl _,λx y c e1 e2=>I2.ok.inj x y c (S.cells x c e1) (S.cells y c e2),λx hx=>?_,λx c z=>?_,I2.ok.hd,I2.ok.frames,.inl rfl,λb hb=>?_,λb o e=>?_,?_,λb o e hb=>?_,λb hb z=>?_,?_,I2.iQ⟩
  ·have key:scope.names.lookup x=some .free:=by
    have hx:(relabel scope X.env).names.lookup x=some .cell∨(relabel scope X.env).names.lookup x=some .free:=hx
    rcases hx with hx | hx
    ·obtain ⟨k',e,z⟩:=f9 hx
     rcases z with z | z
     ·subst z;exact absurd rfl (S.ncell _ (PySem.mem_of_lookup e))
     ·rw [e,z.1]
    ·obtain ⟨k',e,z⟩:=f9 hx
     rcases z with z | z
     ·subst z;exact e
     ·cases z.2
   exact S.has x key
  ·cases z
  ·rcases List.mem_cons.mp hb with rfl | hb
   ·refine ⟨by rw [show X'.env.locals=h3.objs.size from rfl,hC];exact Nat.ne_of_lt (Nat.lt_succ_self _),λx c e z=>?_⟩
    obtain ⟨v',q⟩:=I2.cell x c (S.cells x c e)
    exact absurd q.lt (by rw [z];exact Nat.lt_irrefl _)
   ·exact ⟨frC hb,λx c e=>(f2 b hb).2.2.2.2.1 x c (S.cells x c e)⟩
  ·obtain ⟨e1,e2⟩:=I2.bs b o e
   exact ⟨to3 b o e1,e2⟩
  ·show X.base.objs.size<=h3.objs.size
   have:=I2.ok.bsz;have:=I2.sz
   omega
  ·rcases List.mem_cons.mp hb with rfl | hb
   ·exact absurd (Heap.lt_size (I2.bs _ o e).1) (Nat.lt_irrefl _)
   ·rcases (f2 b hb).2.2.2.1 with z | z
    ·exact I2.ok.noex b o e z
    ·exact absurd (Nat.lt_of_lt_of_le (Nat.lt_of_lt_of_le (Heap.lt_size e) I2.ok.bsz) z) (Nat.lt_irrefl _)
  ·replace z:b∈c4 X.stack:=z
   rcases List.mem_cons.mp hb with rfl | hb
   ·obtain ⟨_,o,ho,_⟩:=I2.stack.mem z
    exact absurd (Heap.lt_size ho) (Nat.lt_irrefl _)
   ·rcases List.mem_cons.mp (I2.oV b z) with q | q
    ·exact (f2 b hb).2.1 q
    ·exact (f2 b hb).2.2.1 q
  ·exact I2.stack.of_keeps λb o e _=>⟨o,to3 b o e,rfl⟩
 have I4:Inv X' [] (eM own ix σ) H2 {s2 with heap:=h₁,toks:=s2.toks + ([]:List (Str×Value)).length}:=by
  refine ⟨ok',rfl,I2.bare,Un.kept to1,⟨_,hns₁,λi x v e1 e2 e3=>?_⟩,λx c e=>?_,I2.hok.fresh (by show s2.heap.objs.size<=h3.objs.size;rw [hC];exact Nat.le_succ _),λx c e=>I2.freeC x c (S.cells x c e),λp hp=>absurd (show p∈([]:List (Addr×Obj)) from hp) (by simp),I2.hok.kept λb o e=>to1 b o (to3 b o e),?_⟩
  ·replace e1:(own++fr)[i]?=some x:=e1
   unfold eM at e2
   by_cases hlt:i < own.length
   ·rw [List.getElem?_append_left (by simpa using hlt),List.getElem?_replicate] at e2
    split at e2<;>cases e2
   ·rw [List.getElem?_append_right (by simpa using hlt)] at e1 e2
    rw [List.length_replicate,List.getElem?_map] at e2
    cases ek:ix[i - own.length]? with
    | none=>rw [ek] at e2;cases e2
    | some j=>
      rw [ek] at e2
      obtain ⟨n1,n2⟩:=S.at_ _ j x ek e1
      have e2':σ[j]?=some (some v):=by
       have q:(σ[j]?).join=some v:=Option.some.inj e2
       cases es:σ[j]? with
       | none=>rw [es] at q;cases q
       | some o=>rw [es] at q;exact congrArg some q
      obtain ⟨m,hn,hl⟩:=I2.loc
      obtain ⟨u,r,l⟩:=hl j x v n1 e2' (.inr (.inl n2))
      refine ⟨u,r,?_⟩
      have hfr:scope.names.lookup x=some .free:=S.frees x (List.mem_of_getElem? e1)
      rcases l with ⟨k,_⟩ | ⟨_,c,hcl,z⟩
      ·rw [n2] at k;cases k
      ·obtain ⟨c',hc'⟩:=S.has x hfr
       have q:=S.cells x c' hc'
       rw [hcl] at q
       cases q
       obtain ⟨oc,ho,hd⟩:=z
       exact .inr ⟨.inl (jZ I2.ok.kind hfr n2),c,hc',oc,to1 _ _ (to3 _ _ ho),hd⟩
  ·obtain ⟨v',oc,ho,hd⟩:=I2.cell x c (S.cells x c e)
   exact ⟨v',oc,to1 _ _ (to3 _ _ ho),hd⟩
  ·show (eM own ix σ).length=(own++fr).length
   unfold eM
   rw [List.length_append,List.length_append,List.length_replicate,List.length_map,S.len]
 obtain ⟨hg,hf,he⟩:=hb h3.objs.size {s2 with heap:=h3} H2 (s2.heap.objs.size::fp)
 have hg:PG X' target g:=hg
 have hf:PF X' ifs tc:=hf
 have he:PE X' elt te:=he
 have locX:X'.env.locals=h3.objs.size:=rfl
 -- D's place
 have Dne:s2.heap.objs.size≠X'.env.locals:=by rw [locX,hC];exact Nat.ne_of_lt (Nat.lt_succ_self _)
 have Dfs:s2.heap.objs.size∉X'.fs:=ok'.exfs _ (List.mem_cons_self ..)
 have Dcl:∀x c,X'.env.cells.lookup x=some c->c≠s2.heap.objs.size:=λx c e=>(ok'.exf _ (List.mem_cons_self ..)).2 x c e
 have fpX:∀{pl:List (Addr×Obj)} {H':Hp},(∀p∈pl,p.1=s2.heap.objs.size)->(∀b∈fp,H' b=none)->∀b∈fp,iH X' pl H' b:=λhp hn b hb=>
  ⟨hn b hb,frC hb,ok'.exfs b (List.mem_cons_of_mem _ hb),.inl (List.mem_cons_of_mem _ hb),(ok'.exf b (List.mem_cons_of_mem _ hb)).2,λp q=>by
   rw [hp p (by simpa [show X'.pn=[] from rfl] using q)];exact Ne.symm (frD hb)⟩
 have pinD:∀{σ':St} {H':Hp} {s':Shared} {o:Obj},Inv X' [] σ' H' s'->s'.heap.get? s2.heap.objs.size=some o->H' s2.heap.objs.size=none->(∀v,o.data≠ .cell v)->Inv X' [(s2.heap.objs.size,o)] σ' H' s':=λI e n d=>
  I.gR λp hp=>by
    obtain rfl:=List.mem_singleton.mp hp
    exact ⟨e,n,Dne,Dfs,d⟩
 have loop:codeAny (model X.prog X.w) X.A (.compLoop (.ListComp elt [⟨target,iter,ifs,0⟩] scope pos) 0 (.ref it) (.ref s2.heap.objs.size) X'.env)
  (compPost (model X.prog X.w) X.A X.xe use Qf (.ref s2.heap.objs.size) h3.objs.size) {s2 with heap:=h₁,toks:=s2.toks + ([]:List (Str×Value)).length}:=by
  refine oO (λn s'=>∃i ys its k σ' H',Inv X' [] σ' H' s'/\tn i s'.heap/\(∀b∈fp,H' b=none)/\H' s2.heap.objs.size=none/\Vals ys its/\s'.heap.get? s2.heap.objs.size=some {cls:=.type "list",data:=.seq its.toArray k}/\W i n ys σ' H')
   ?_ m0 ⟨0,[],[],0,_,H2,I4,T.keep 0 _ _ st2 λb _ o e=>to1 b o (to3 b o e),λb hb'=>(f2 b hb').1,HD2,.nil,to1 _ _ getD3,w0⟩
  rintro n s5 ⟨i,ys,its,k,σ5,H5,I5,st5,fr5,hD5,vs5,get5,w5⟩
  obtain ⟨hlen,alt⟩:=turn i n ys σ5 H5 w5
  have P5:=pinD I5 get5 hD5 (λv z=>by cases z)
  have okp:∀p∈[(s2.heap.objs.size,({cls:=.type "list",data:=.seq its.toArray k}:Obj))],p.1=s2.heap.objs.size:=λp hp=>by
   rw [List.mem_singleton.mp hp]
  rcases alt with ⟨stop,q⟩ | ⟨go,step⟩
  ·refine aO (T.done X' rfl rfl rfl hc i _ s5 σ5 H5 _ P5 (fpX okp fr5) st5 stop) λr s6 ⟨hr,I6⟩=>?_
   subst hr
   obtain ⟨m6,hn6,_⟩:=I6.loc
   obtain ⟨get6,_,_,_,_⟩:=I6.pin (s2.heap.objs.size,({cls:=.type "list",data:=.seq its.toArray k}:Obj)) (List.mem_append_right _ (List.mem_singleton.mpr rfl))
   have toh:∀b o,b≠h3.objs.size->s6.heap.get? b=some o->s6.heap.get? b=some o:=λb o hb e=>e
   have exn:∀{b:Addr} {o:Obj},s2.heap.get? b=some o->b∉fp->b∉X'.ex:=λ{b o} e hb z=>by
    rcases List.mem_cons.mp z with z | z
    ·exact absurd (Heap.lt_size e) (by rw [z];exact Nat.lt_irrefl _)
    ·exact hb z
   have neC:∀{b:Addr} {o:Obj},s2.heap.get? b=some o->b≠h3.objs.size:=λ{b o} e z=>by
    have q1:=Heap.lt_size e
    rw [z,hC] at q1
    exact absurd q1 (Nat.not_lt.mpr (Nat.le_succ _))
   have neD:∀{b:Addr} {o:Obj},s2.heap.get? b=some o->b≠s2.heap.objs.size:=λ{b o} e=>Nat.ne_of_lt (Heap.lt_size e)
   have neD':∀{b:Addr} {o:HO},H2 b=some o->b≠s2.heap.objs.size:=λ{b o} e=>cK e HD2
   have U:Un (c4 X.stack) fp H2 (upd H5 s2.heap.objs.size (.lst ys)) s2.heap s6.heap:=by
    refine ⟨λb o e n hb hx=>?_,λb o e n hb hx=>?_,λb o e n hx=>?_,λb o e hx=>?_,λb xs e=>?_,λb o u e=>?_,λb ps e=>?_⟩
    ·exact toh b o (neC e) (I6.base.keep b o (to3 b o e) n hb (exn e hx))
    ·obtain ⟨sl,q1⟩:=I6.base.slot b o (to3 b o e) n hb (exn e hx)
     exact ⟨sl,toh b _ (neC e) q1⟩
    ·rw [aH (neD e)]
     exact I6.base.free b o (to3 b o e) n (exn e hx)
    ·obtain ⟨o',q1⟩:=I6.base.there b o (to3 b o e) (exn e hx)
     exact ⟨o',toh b _ (neC e) q1⟩
    ·rw [aH (neD' e)];exact I6.base.tups b xs e
    ·rw [aH (neD' e)];exact I6.base.frzs b o u e
    ·rw [aH (neD' e)];exact I6.base.tbls b ps e
   have HC:H5 h3.objs.size=none:=I6.free
   have hok:cG X.prog X.w (upd H5 s2.heap.objs.size (.lst ys)) s6.heap:=λb u e=>by
    by_cases hbD:b=s2.heap.objs.size
    ·subst hbD
     rw [az] at e
     cases e
     exact ⟨hlen,its,k,vs5,toh _ _ (by rw [hC];exact Nat.ne_of_lt (Nat.lt_succ_self _)) get6⟩
    ·rw [aH hbD] at e
     refine (I6.hok b u e).stay (λc o hco q1=>toh c o (λz=>?_) q1) (λc q1=>by rw [aH (cK q1 hD5)];exact q1) λc xs q1=>by rw [aH (cK q1 hD5)];exact q1
     rcases hco with hco | hco
     ·rw [← hco,z,HC] at e;cases e
     ·rw [z,HC] at hco;cases hco
   have fin:=I2.sC (s':=s6) (ch:=fp) I6.os U hok I6.bare λb hb'=>⟨(f2 b hb').2.2.2.1,(f2 b hb').2.1,(f2 b hb').2.2.2.2.1,(f2 b hb').2.2.2.2.2⟩
   refine hfin _ h3.objs.size _ s6 fin ⟨⟨m6,hn6⟩,?_,?_,?_,λx c e z=>?_,λp hp z=>?_⟩ (q _ hD5)
   ·rw [aH (by rw [hC];exact Nat.ne_of_gt (Nat.lt_succ_self _))];exact HC
   ·intro z
    have:=I2.lt
    rw [← z,hC] at this
    exact absurd this (Nat.not_lt.mpr (Nat.le_succ _))
   ·rw [hC];exact Nat.le_trans I2.sz (Nat.le_succ _)
   ·obtain ⟨v',q1⟩:=I2.cell x c e
    have:=q1.lt
    rw [z,hC] at this
    exact absurd this (Nat.not_lt.mpr (Nat.le_succ _))
   ·have:=Heap.lt_size (I2.pin p hp).1
    rw [z,hC] at this
    exact absurd this (Nat.not_lt.mpr (Nat.le_succ _))
  ·refine aO (T.item X' rfl rfl rfl hc i _ s5 σ5 H5 _ P5 (fpX okp fr5) st5 go) λr s6 ⟨u,hr,h6⟩=>?_
   subst hr
   refine aO h6 λ_ s7 ⟨x,H7,I7,r7,y7,st7,fr7⟩=>?_
   have I7':=I7.pinned (fpX okp fr7) (T.obj _ _ st7)
   refine aO (hg _ s7 σ5 H7 x u _ I7' r7 (step x H7 y7)) λ_ s8 ⟨σ8,H8,I8,q8⟩=>?_
   refine aO (hf _ s8 σ8 H8 _ I8 q8) λb s9 ⟨H9,I9,q9⟩=>?_
   have out:∀{σ':St} {H':Hp} {s':Shared},Inv X' ([(s2.heap.objs.size,({cls:=.type "list",data:=.seq its.toArray k}:Obj))]++iU fp s7.heap) σ' H' s'->
    tn (i + 1) s'.heap/\(∀b∈fp,H' b=none)/\H' s2.heap.objs.size=none/\s'.heap.get? s2.heap.objs.size=some {cls:=.type "list",data:=.seq its.toArray k}:=λI'=>by
    refine ⟨T.keep _ _ _ st7 λb hb' o e=>(I'.pin (b,o) (List.mem_append_right _ (List.mem_append_right _ (gJ hb' e)))).1,λb hb'=>?_,(I'.pin (s2.heap.objs.size,({cls:=.type "list",data:=.seq its.toArray k}:Obj)) (List.mem_append_right _ (List.mem_append_left _ (List.mem_singleton.mpr rfl)))).2.1,(I'.pin (s2.heap.objs.size,({cls:=.type "list",data:=.seq its.toArray k}:Obj)) (List.mem_append_right _ (List.mem_append_left _ (List.mem_singleton.mpr rfl)))).1⟩
    obtain ⟨o,e,d⟩:=T.obj _ _ st7 b hb'
    exact (I'.pin (b,o) (List.mem_append_right _ (List.mem_append_right _ (gJ hb' e)))).2.1
   cases b with
   | false=>
     rw [if_neg Bool.false_ne_true] at q9 ⊢
     obtain ⟨m',hm,w'⟩:=q9
     obtain ⟨o1,o2,o3,o4⟩:=out I9
     exact ⟨m',hm,i + 1,ys,its,k,σ8,H9,I9.gR (λ_ z=>nomatch z),o1,o2,o3,vs5,o4,w'⟩
   | true=>
     rw [if_pos rfl] at q9 ⊢
     refine aO (he _ s9 σ8 H9 _ I9 q9) λuv s10 ⟨v10,H10,I10,r10,q10⟩=>?_
     obtain ⟨m',hm,w'⟩:=q10
     obtain ⟨o1,o2,o3,o4⟩:=out I10
     refine wpAny_list_append_plain ⟨k,o4⟩ (λh' hpl hsb=>?_) (by
      have:=vs5.length
      rw [List.size_toArray,← this];exact hlen)
     obtain ⟨k',hk'⟩:=hpl
     have I11:Inv X' (iU fp s7.heap) σ8 H10 s10:=I10.gR λp hp=>I10.pin p (List.mem_append_right _ (List.mem_append_right _ hp))
     have I12:Inv X' [] σ8 H10 {s10 with heap:=h'}:=(I10.gR (λ_ z=>nomatch z):Inv X' [] σ8 H10 s10).turned (t':=s10.toks) (λb o hb' e=>hsb.extBut b o hb' e) o3 Dne (.inl (List.mem_cons_self ..)) Dcl (λp hp=>absurd (show p∈([]:List (Addr×Obj)) from hp) (by simp))
     refine ⟨m',hm,i + 1,ys++[v10],its++[uv],k',σ8,H10,I12,T.keep _ _ _ o1 λb hb' o e=>hsb.extBut b o (frD hb') e,o2,o3,vs5.append (.cons r10 .nil),?_,w'⟩
     show h'.get? _=_
     rw [hk']
     simp
 exact codeAny_compStart_list loop (T.self X.A 0 _ _ _ (T.keep 0 _ _ st2 λb _ o e=>to1 b o (to3 b o e)) loop)
theorem Off.gone {pins:List (Addr×Obj)}{σ:St}{H:Hp}{C:Addr}{h':Heap}(o:Off X pins H s C)(I:Inv X pins σ H s)(hsb:Heap.SameBut C s.heap h'):Inv X pins σ H {s with heap:=h'}:=
 I.turned (t':=s.toks) (λb u hb e=>hsb.extBut b u hb e) o.free o.ne (.inr o.young) o.cell o.pin
theorem rG {own:List Str}{g:TG}
 (hc:X.calm=true) (S:dq X scope cl own fr ix) (hi:PI X target iter wi)
 (hb:∀(C:Addr) (s:Shared) (H:Hp) (ex:List Addr),PG (aK X scope cl C (own++fr) s H ex) target g/\PF (aK X scope cl C (own++fr) s H ex) ifs tc/\PE (aK X scope cl C (own++fr) s H ex) elt te)
 (hs:autoParam (∀x,foldedSetIterable iter X.env x=pure x) Fc.c9):
 PE X (.ListComp elt [⟨target,iter,ifs,0⟩] scope pos) (tH wi g tc te (eM own ix)):=by
 intro pins s σ H Q I h
 rw [eval_ListComp]
 refine nN (use:=none) hc S hi hb hs I h λD C H6 s6 I6 o6 q=>?_
 obtain ⟨m,hn⟩:=o6.ns
 exact ⟨m,hn,λh' hsb=>⟨.ref D,H6,o6.gone I6 hsb,rfl,q⟩⟩
theorem jw {i:Nat}{y:Str}{py spos:Pos}{own:List Str}{g:TG}
 (hsw:swapsWith (.ListComp elt [⟨target,iter,ifs,0⟩] scope pos) (some (.Name y py)) spos.line X.env=pure true)
 (hN:X.N.Nodup) (hi':X.N[i]?=some y) (hx:Loc X.env.scope y)
 (hc:X.calm=true) (S:dq X scope cl own fr ix) (hi:PI X target iter wi)
 (hb:∀(C:Addr) (s:Shared) (H:Hp) (ex:List Addr),PG (aK X scope cl C (own++fr) s H ex) target g/\PF (aK X scope cl C (own++fr) s H ex) ifs tc/\PE (aK X scope cl C (own++fr) s H ex) elt te)
 (hs:autoParam (∀x,foldedSetIterable iter X.env x=pure x) Fc.c9)
 (hf:X.fn y=true∨X.env.scope.names.lookup y=some .local:=by first | exact .inl rfl | exact .inr rfl | assumption):
 PS X (.Assign [.Name y py] (.ListComp elt [⟨target,iter,ifs,0⟩] scope pos) spos) (wa (tH wi g tc te (eM own ix)) (sj i)):=by
 intro pins s σ H D I h
 rw [exec_Assign_Name_used _ _ _ _ hsw]
 refine wpAny_bind (wpAny_standAt (wpAny_bind ?_))
 show wpAny _ _ (do let _ ← comprehension (.ListComp elt [⟨target,iter,ifs,0⟩] scope pos) scope X.env _ (newList []) false (eval iter X.env) (some (assign (.Name y py) X.env))) _ _ s
 refine wpAny_bind (wpAny_mono (nN (use:=some (assign (.Name y py) X.env)) (Qf:=λ_ s'=>SP X pins D .next s') hc S hi hb hs I h λA C H6 s6 I6 o6 q=>?_) (λ_ s' hq=>wpAny_pure (wpAny_pure hq)) λ_ _ e=>e)
 show wpAny _ _ (assign (.Name y py) X.env (.ref A)) _ _ _
 refine wpAny_assign_Name (n6 I6 hN hi' hx (v:=.ref A) rfl (λs7 I7 hw=>?_) hf)
 obtain ⟨c,hsb7,hcc⟩:=hw
 have neC:C≠c:=by
  rcases hcc with rfl | hcc
  ·exact o6.ne
  ·exact Ne.symm (o6.cell y c hcc)
 obtain ⟨m,hn⟩:=o6.ns
 have o7:Off X pins H6 s7 C:=⟨⟨m,hn.sameBut hsb7 neC⟩,o6.free,o6.ne,o6.young,o6.cell,o6.pin⟩
 exact ⟨m,hn.sameBut hsb7 neC,λh' hsb=>⟨_,H6,o7.gone I7 hsb,q⟩⟩
end
end L2
namespace Fc
open PySem PySem.Spec L2
open PyProof.Rows hiding St
section
variable {X:Cx}
variable {e:Expr}{σ:St}{H:Hp}{t:TT}{Q:Bool->Hp->Prop}
def d6 (X:Cx)(e:Expr):TE:=λσ H Q=>∀(pins:List (Addr×Obj)) (s:Shared),Inv X pins σ H s->wpAny (model X.prog X.w) X.A (eval e X.env) (EP X pins σ Q) X.xe s
def lL (X:Cx)(e:Expr):TT:=λσ H Q=>∀(pins:List (Addr×Obj)) (s:Shared),Inv X pins σ H s->wpAny (model X.prog X.w) X.A (isTrue e X.env (eval e X.env)) (TP X pins σ Q) X.xe s
def wG (X:Cx)(e:Expr):TT:=λσ H Q=>∀(whole:Sem Value) (pins:List (Addr×Obj)) (s:Shared),Inv X pins σ H s->wpAny (model X.prog X.w) X.A (isTrue e X.env whole) (TP X pins σ Q) X.xe s
def ic (X:Cx)(e:Expr):TG:=λv σ H Q=>∀(pins:List (Addr×Obj)) (s:Shared) (u:Value),Inv X pins σ H s->RelV v u->wpAny (model X.prog X.w) X.A (assign e X.env u) (λ_ s'=>∃σ' H',Inv X pins σ' H' s'/\Q σ' H') X.xe s
def wZ (X:Cx)(st:Stmt):TS:=λD σ H=>∀(pins:List (Addr×Obj)) (s:Shared),Inv X pins σ H s->wpAny (model X.prog X.w) X.A (exec st X.env) (SP X pins D) X.xe s
def jz (X:Cx)(st:List Stmt):TS:=λD σ H=>∀(pins:List (Addr×Obj)) (s:Shared),Inv X pins σ H s->wpAny (model X.prog X.w) X.A (execs st X.env) (SP X pins D) X.xe s
def ji (X:Cx)(es:List Expr):TA:=λσ H Q=>∀(pos:Pos) (pins:List (Addr×Obj)) (s:Shared),Inv X pins σ H s->wpAny (model X.prog X.w) X.A (spliced (backTo pos (starEach es X.env))) (AP X pins σ Q) X.xe s
def iK (X:Cx)(ifs:List Expr):TT:=λσ H Q=>∀(pins:List (Addr×Obj)) (s:Shared),Inv X pins σ H s->
 wpAny (model X.prog X.w) X.A (forIn ifs true λc r=>if r=true then do let ok ← isTrue c X.env (eval c X.env);pure (ForInStep.yield ok) else pure (ForInStep.yield r)) (TP X pins σ Q) X.xe s
theorem aI:PE X e (d6 X e):=λpins s _ _ _ I h=>h pins s I
theorem k9:PT X e (lL X e):=λpins s _ _ _ I h=>h pins s I
theorem xY:PW X e (wG X e):=λwh pins s _ _ _ I h=>h wh pins s I
theorem rh:PG X e (ic X e):=λpins s _ _ _ u _ I r h=>h pins s u I r
theorem Ek {e:Stmt}:PS X e (wZ X e):=λpins s _ _ _ I h=>h pins s I
theorem eI {e:List Stmt}:gI X e (jz X e):=λpins s _ _ _ I h=>h pins s I
theorem jJ {e:List Expr}:PA X e (ji X e):=λpos pins s _ _ _ I h=>h pos pins s I
theorem eS {t:TE}(h:PE X e t){Q:VK}(q:t σ H Q):d6 X e σ H Q:=λpins s I=>h pins s σ H Q I q
theorem tS (h:PT X e t)(q:t σ H Q):lL X e σ H Q:=λpins s I=>h pins s σ H Q I q
theorem wS (h:PW X e t)(q:t σ H Q):wG X e σ H Q:=λwh pins s I=>h wh pins s σ H Q I q
theorem gS {t:TG}(h:PG X e t){v:V}{Q:St->Hp->Prop}(q:t v σ H Q):ic X e v σ H Q:=λpins s u I r=>h pins s σ H v u Q I r q
theorem sS {e:Stmt}{t:TS}(h:PS X e t){D:Ends}(q:t D σ H):wZ X e D σ H:=λpins s I=>h pins s σ H D I q
theorem zX {e:List Stmt}{t:TS}(h:gI X e t){D:Ends}(q:t D σ H):jz X e D σ H:=λpins s I=>h pins s σ H D I q
theorem aS {e:List Expr}{t:TA}(h:PA X e t){Q:List V->Hp->Prop}(q:t σ H Q):ji X e σ H Q:=λpos pins s I=>h pos pins s σ H Q I q
theorem fS {e:List Expr}(h:PF X e t)(q:t σ H Q):iK X e σ H Q:=λpins s I=>h pins s σ H Q I q
end
section
variable {H R:Hp}{p:Addr}{α:Type}
theorem ar.fresh (h:H p=none)(o:HO):ar H (upd H p o):=λb u q=>by rw [aH (cK q h)];exact q
structure Rep (α:Type) where
 R:PySem.W.Frag->Hp->V->α->Prop
 mono:∀{K:PySem.W.Frag} {H H':Hp} {v:V} {x:α},ar H H'->R K H v x->R K H' v x
def ae:Rep Int:=⟨λ_ _ v x=>v= .int x,λ_ h=>h⟩
def aR:Rep Bool:=⟨λ_ _ v x=>v= .bl x,λ_ h=>h⟩
theorem Paired.map {β:Type}{F G:α->β->Prop}(f:∀a b,F a b->G a b):∀{l:List α} {m:List β},PySem.Paired F l m->PySem.Paired G l m
 | _,_,.nil=>.nil
 | _,_,.cons h t=>.cons (f _ _ h) (Paired.map f t)
def af (r:Rep α):Rep (List α):=⟨λK H v xs=>∃a vs,v= .ref a/\H a=some (.lst vs)/\PySem.Paired (r.R K H) vs xs/\xs.length<=sizeLine,
 λs ⟨a,vs,e,q,p,z⟩=>⟨a,vs,e,s _ _ q,Paired.map (λ_ _=>r.mono s) p,z⟩⟩
def cX:Rep (List Int):=⟨λK H v xs=>∃a,v= .ref a/\aL K H a (xs.map V.int)/\xs.length<=63,λs ⟨a,e,q,z⟩=>⟨a,e,s.seq q,z⟩⟩
def ay {β:Type}(r:Rep α)(r':Rep β):Rep (α×β):=⟨λK H v x=>∃a v1 v2,v= .ref a/\H a=some (.tup [v1,v2])/\r.R K H v1 x.1/\r'.R K H v2 x.2,
 λs ⟨a,v1,v2,e,q,h1,h2⟩=>⟨a,v1,v2,e,s _ _ q,r.mono s h1,r'.mono s h2⟩⟩
abbrev Row:=Int×Int×Int×Int
def aB:Rep Row:=⟨λK H v x=>∃a,v= .ref a/\H a=some (.tup [.int x.1,.int x.2.1,.int x.2.2.1,.int x.2.2.2]),λs ⟨a,e,q⟩=>⟨a,e,s _ _ q⟩⟩
abbrev ax:=List Int×List Row
def bx:Rep ax:=ay (af ae) (af aB)
structure Ext (H R H' R':Hp):Prop where
 h:ar H H'
 r:ar R R'
 s:ar R' H'
 old:∀b,H b≠none->R' b=R b
theorem Ext.refl (s:ar R H):Ext H R H R:=⟨ar.refl _,ar.refl _,s,λ_ _=>rfl⟩
theorem ar.some {H':Hp}(s:ar H H'){b:Addr}(h:H b≠none):H' b≠none:=by
 cases q:H b with
 | none=>exact absurd q h
 | some o=>rw [s b o q];exact Option.some_ne_none o
theorem Ext.trans {H1 R1 H2 R2:Hp}(a:Ext H R H1 R1)(b:Ext H1 R1 H2 R2):Ext H R H2 R2:=
 ⟨a.h.trans b.h,a.r.trans b.r,b.s,λc hc=>(b.old c (ar.some a.h hc)).trans (a.old c hc)⟩
theorem Ext.fresh (s:ar R H)(h:H p=none)(o:HO):Ext H R (upd H p o) (upd R p o):=
 ⟨ar.fresh h o,ar.fresh (s.free h) o,λb u q=>by
  by_cases e:b=p
  ·subst e;rw [az] at q ⊢;exact q
  ·rw [aH e] at q ⊢;exact s b u q,λb hb=>aH λe=>hb (e▸h)⟩
theorem Ext.dW (s:ar R H)(h:H p=none)(o:HO):Ext H R (upd H p o) R:=
 ⟨ar.fresh h o,ar.refl _,s.trans (ar.fresh h o),λ_ _=>rfl⟩
structure k4:Type 1 where
 fp:List Addr
 R:PySem.W.Frag->Hp->Hp->V->Prop
 loc:∀{K:PySem.W.Frag} {H R0 H' R':Hp} {v:V},(∀a∈fp,H' a=H a)->ar R0 R'->R K H R0 v->R K H' R' v
 has:∀{K:PySem.W.Frag} {H R0:Hp} {v:V},R K H R0 v->∀a∈fp,H a≠none
inductive Ent:Type 1
 | no
 | im {α:Type} (r:Rep α) (x:α)
 | mu {α:Type} (r:Rep α) (xs:List α)
 | di (kvs:List (Int×V))
 | ob (B:k4)
def cZ (kvs:List (Int×V)):List (Key×V):=kvs.map λp=>(Sum.inl p.1,p.2)
def Ent.ok (K:PySem.W.Frag)(H R:Hp):Ent->Option V->Prop
 | .no,_=>True
 | .im r x,o=>∃v,o=some v/\r.R K R v x
 | .mu r xs,o=>∃a vs,o=some (.ref a)/\H a=some (.lst vs)/\R a=none/\PySem.Paired (r.R K R) vs xs
 | .di kvs,o=>∃a,o=some (.ref a)/\H a=some (.dK (cZ kvs))/\R a=none
 | .ob B,o=>(∃v,o=some v/\B.R K H R v)/\∀a∈B.fp,R a=none
def Ent.own:Ent->Bool
 | .mu .. =>true
 | .di .. =>true
 | _=>false
def refOf:Option V->List Addr
 | some (.ref a)=>[a]
 | _=>[]
def Ent.fp:Ent->Option V->List Addr
 | .mu ..,o=>refOf o
 | .di ..,o=>refOf o
 | .ob B,_=>B.fp
 | _,_=>[]
abbrev Ga:=List Ent
structure aq (K:PySem.W.Frag) (σ:St) (H0 R0 H R:Hp) (Γ:Ga):Prop where
 ext:Ext H0 R0 H R
 ent:∀(i:Nat) (e:Ent),Γ[i]?=some e->e.ok K H R (σ[i]?).join
 nw:∀(i:Nat) (e:Ent) (a:Addr),Γ[i]?=some e->a∈e.fp (σ[i]?).join->H0 a=none
 ds:∀(i j:Nat) (e e':Ent) (a:Addr),Γ[i]?=some e->Γ[j]?=some e'->a∈e.fp (σ[i]?).join->a∈e'.fp (σ[j]?).join->i=j
 len:Γ.length=σ.length
end
section
variable {K:PySem.W.Frag}{σ:St}{H0 R0 H R H' R':Hp}{Γ:Ga}{α:Type}{r:Rep α}
variable {a:Addr}{o:Option V}{u:HO}{i:Nat}
theorem cb:a∈refOf o↔o=some (.ref a):=by
 unfold refOf
 split
 ·rw [List.mem_singleton];constructor
  ·rintro rfl;rfl
  ·intro e;cases e;rfl
 ·rename_i h
  constructor
  ·intro z;cases z
  ·intro e;exact absurd e (h a)
theorem Ent.lQ {e:Ent}(w:e.own=true):a∈e.fp o↔o=some (.ref a):=by
 cases e with
 | no=>cases w
 | im r x=>cases w
 | mu r xs=>exact cb
 | di kvs=>exact cb
 | ob B=>cases w
theorem aq.new (E:aq K σ H0 R0 H R Γ)(i:Nat)(e:Ent)(a:Addr)(h:Γ[i]?=some e)(w:e.own=true)(ha:(σ[i]?).join=some (.ref a)):H0 a=none:=E.nw i e a h ((Ent.lQ w).mpr ha)
theorem Ent.dz {e:Ent}(h:e.ok K H R o)(ha:a∈e.fp o):H a≠none/\R a=none:=by
 cases e with
 | no=>cases ha
 | im r x=>cases ha
 | mu r xs=>
   obtain ⟨b,vs,e,q,n,_⟩:=h
   rw [Ent.fp,cb,e] at ha
   cases ha
   exact ⟨by rw [q];exact Option.some_ne_none _,n⟩
 | di kvs=>
   obtain ⟨b,e,q,n⟩:=h
   rw [Ent.fp,cb,e] at ha
   cases ha
   exact ⟨by rw [q];exact Option.some_ne_none _,n⟩
 | ob B=>obtain ⟨⟨v,e,q⟩,n⟩:=h;exact ⟨B.has q a ha,n a ha⟩
theorem Ent.ok.loc {e:Ent}(h:e.ok K H R o)(hH:∀a∈e.fp o,H' a=H a)(hR:ar R R')(hn:∀a∈e.fp o,R' a=none):e.ok K H' R' o:=by
 cases e with
 | no=>trivial
 | im r y=>obtain ⟨v,e,q⟩:=h;exact ⟨v,e,r.mono hR q⟩
 | mu r xs=>
   obtain ⟨a,vs,e,q,n,p⟩:=h
   have ha:a∈Ent.fp (.mu r xs) o:=cb.mpr e
   exact ⟨a,vs,e,(hH a ha).trans q,hn a ha,Paired.map (λ_ _=>r.mono hR) p⟩
 | di kvs=>
   obtain ⟨a,e,q,n⟩:=h
   have ha:a∈Ent.fp (.di kvs) o:=cb.mpr e
   exact ⟨a,e,(hH a ha).trans q,hn a ha⟩
 | ob B=>obtain ⟨⟨v,e,q⟩,n⟩:=h;exact ⟨⟨v,e,B.loc hH hR q⟩,hn⟩
theorem Ent.ok.grow {e:Ent}(h:e.ok K H R o)(x:Ext H R H' R'):e.ok K H' R' o:=by
 refine h.loc (λa ha=>?_) x.r (λa ha=>?_)
 ·cases q:H a with
  | none=>exact absurd q (Ent.dz h ha).1
  | some u=>exact x.h _ _ q
 ·obtain ⟨h1,h2⟩:=Ent.dz h ha
  exact (x.old a h1).trans h2
theorem aq.grow (E:aq K σ H0 R0 H R Γ)(x:Ext H R H' R'):aq K σ H0 R0 H' R' Γ:=
 ⟨E.ext.trans x,λi e h=>(E.ent i e h).grow x,E.nw,E.ds,E.len⟩
theorem aq.sub (E:aq K σ H0 R0 H R Γ):ar R H:=E.ext.s
def Off (a:Addr)(σ:St)(Γ:Ga):Prop:=∀(i:Nat) (e:Ent),Γ[i]?=some e->a∉e.fp (σ[i]?).join
theorem aq.off (E:aq K σ H0 R0 H R Γ)(h:H a=none):Off a σ Γ:=λi e q w=>(Ent.dz (E.ent i e q) w).1 h
theorem set_at.{v}{β:Type v}{l:List β}{i:Nat}{y:β}{j:Nat}{e:β}(q:(l.set i y)[j]?=some e):(j=i/\e=y/\i < l.length)∨(j≠i/\l[j]?=some e):=by
 by_cases hj:j=i
 ·subst hj
  have hl:j < l.length:=by
   have:=List.getElem?_eq_some_iff.mp q
   simpa using this.1
  rw [List.getElem?_set_self hl] at q
  exact .inl ⟨rfl,(Option.some.inj q).symm,hl⟩
 ·rw [List.getElem?_set_ne (Ne.symm hj)] at q
  exact .inr ⟨hj,q⟩
theorem aq.setG (E:aq K σ H0 R0 H R Γ)(i:Nat){v:V}{en:Ent}(ho:en.ok K H R (some v))(h0:∀a∈en.fp (some v),H0 a=none)(hf:∀a∈en.fp (some v),∀(j:Nat) (e:Ent),j≠i->Γ[j]?=some e->a∉e.fp (σ[j]?).join):
 aq K (σ.set i (some v)) H0 R0 H R (Γ.set i en):=by
 have key:∀(j:Nat) (e:Ent),(Γ.set i en)[j]?=some e->(j=i/\e=en/\((σ.set i (some v))[j]?).join=some v)∨(j≠i/\Γ[j]?=some e/\(σ.set i (some v))[j]?=σ[j]?):=λj e q=>by
  rcases set_at q with ⟨rfl,rfl,hl⟩ | ⟨hj,q⟩
  ·exact .inl ⟨rfl,rfl,by rw [List.getElem?_set_self (by rw [← E.len];exact hl)];rfl⟩
  ·exact .inr ⟨hj,q,List.getElem?_set_ne (Ne.symm hj)⟩
 refine ⟨E.ext,λj e q=>?_,λj e a q w=>?_,λj k e e' a q q' w w'=>?_,by rw [List.length_set,List.length_set];exact E.len⟩
 ·rcases key j e q with ⟨_,rfl,q2⟩ | ⟨_,q1,q2⟩
  ·rw [q2];exact ho
  ·rw [q2];exact E.ent j e q1
 ·rcases key j e q with ⟨_,rfl,q2⟩ | ⟨_,q1,q2⟩
  ·rw [q2] at w;exact h0 a w
  ·rw [q2] at w;exact E.nw j e a q1 w
 ·rcases key j e q with ⟨hj,rfl,q2⟩ | ⟨hj,q1,q2⟩
  ·rcases key k e' q' with ⟨hk,rfl,q2'⟩ | ⟨hk,q1',q2'⟩
   ·rw [hj,hk]
   ·rw [q2] at w;rw [q2'] at w';exact absurd w' (hf a w k e' hk q1')
  ·rcases key k e' q' with ⟨hk,rfl,q2'⟩ | ⟨hk,q1',q2'⟩
   ·rw [q2] at w;rw [q2'] at w';exact absurd w (hf a w' j e hj q1)
   ·rw [q2] at w;rw [q2'] at w';exact E.ds j k e e' a q1 q1' w w'
theorem aq.set (E:aq K σ H0 R0 H R Γ)(i:Nat){v:V}{x:α}(h:r.R K R v x):aq K (σ.set i (some v)) H0 R0 H R (Γ.set i (.im r x)):=
 E.setG i ⟨v,rfl,h⟩ (λa w=>by cases w) λa w=>by cases w
theorem aq.tI (E:aq K σ H0 R0 H R Γ)(i:Nat){u:HO}{en:Ent}(ho:en.ok K H R (some (.ref a)))(h0:H0 a=none)(hf:∀(j:Nat) (e:Ent),j≠i->Γ[j]?=some e->a∉e.fp (σ[j]?).join)(hfp:autoParam (en.fp (some (.ref a))=[a]) Fc.ag):
 aq K (σ.set i (some (.ref a))) H0 R0 H R (Γ.set i en):=
 E.setG i ho (λb w=>by rw [hfp,List.mem_singleton] at w;rw [w];exact h0) λb w=>by rw [hfp,List.mem_singleton] at w;rw [w];exact hf
theorem aq.gY (E:aq K σ H0 R0 H R Γ){e0 en:Ent}(hi:Γ[i]?=some e0)(ha:a∈e0.fp (σ[i]?).join)(ho:en.ok K (L2.upd H a u) R (σ[i]?).join)
 (hsub:∀b∈en.fp (σ[i]?).join,b∈e0.fp (σ[i]?).join∨(H0 b=none/\Off b σ Γ)):aq K σ H0 R0 (L2.upd H a u) R (Γ.set i en):=by
 have h0:H0 a=none:=E.nw i e0 a hi ha
 have hR:R a=none:=(Ent.dz (E.ent i e0 hi) ha).2
 refine ⟨⟨λb o q=>?_,E.ext.r,λb o q=>?_,E.ext.old⟩,λj e q=>?_,λj e b q w=>?_,λj k e e' b q q' w w'=>?_,by rw [List.length_set];exact E.len⟩
 ·rw [aH (cK q h0)];exact E.ext.h b o q
 ·rw [aH (cK q hR)];exact E.ext.s b o q
 ·rcases set_at q with ⟨rfl,rfl,_⟩ | ⟨hj,q1⟩
  ·exact ho
  ·refine (E.ent j e q1).loc (λb hb=>aH λz=>hj ?_) (ar.refl _) λb hb=>(Ent.dz (E.ent j e q1) hb).2
   rw [z] at hb
   exact E.ds j i e e0 a q1 hi hb ha
 ·rcases set_at q with ⟨rfl,rfl,_⟩ | ⟨hj,q1⟩
  ·rcases hsub b w with z | z
   ·exact E.nw _ _ b hi z
   ·exact z.1
  ·exact E.nw j e b q1 w
 ·rcases set_at q with ⟨rfl,rfl,_⟩ | ⟨hj,q1⟩
  ·rcases set_at q' with ⟨rfl,rfl,_⟩ | ⟨hk,q1'⟩
   ·rfl
   ·rcases hsub b w with z | z
    ·exact E.ds _ _ _ _ b hi q1' z w'
    ·exact absurd w' (z.2 k e' q1')
  ·rcases set_at q' with ⟨rfl,rfl,_⟩ | ⟨hk,q1'⟩
   ·rcases hsub b w' with z | z
    ·exact E.ds _ _ _ _ b q1 hi w z
    ·exact absurd w (z.2 j e q1)
   ·exact E.ds _ _ _ _ b q1 q1' w w'
theorem aq.upd (E:aq K σ H0 R0 H R Γ){e0 en:Ent}(hi:Γ[i]?=some e0)(w0:e0.own=true)(ha:(σ[i]?).join=some (.ref a))(hR:R a=none)(ho:en.ok K (L2.upd H a u) R (some (.ref a)))(hfp:autoParam (en.fp (some (.ref a))=[a]) Fc.ag):
 aq K σ H0 R0 (L2.upd H a u) R (Γ.set i en):=
 E.gY hi ((Ent.lQ w0).mpr ha) (by rw [ha];exact ho) λb w=>.inl (by rw [ha,hfp,List.mem_singleton] at w;rw [w];exact (Ent.lQ w0).mpr ha)
theorem aq.jr (E:aq K σ H0 R0 H R Γ)(ha:H a=some u)(hR:R a=none)(h0:H0 a=none)(off:Off a σ Γ):aq K σ H0 R0 H (L2.upd R a u) Γ:=by
 have s2:ar R (L2.upd R a u):=ar.fresh hR _
 refine ⟨⟨E.ext.h,E.ext.r.trans s2,λb o qb=>?_,λb hb=>?_⟩,λi e qe=>?_,E.nw,E.ds,E.len⟩
 ·by_cases hb:b=a
  ·subst hb;rw [az] at qb;cases qb;exact ha
  ·rw [aH hb] at qb;exact E.ext.s b o qb
 ·rw [aH (show b≠a from λe=>hb (by rw [e];exact h0))];exact E.ext.old b hb
 ·refine (E.ent i e qe).loc (λ_ _=>rfl) s2 λb hb=>?_
  rw [aH (show b≠a from λz=>off i e qe (z▸hb))]
  exact (Ent.dz (E.ent i e qe) hb).2
theorem aq.tell (E:aq K σ H0 R0 H R Γ){e0 en:Ent}(hi:Γ[i]?=some e0)(ho:en.ok K H R (σ[i]?).join)(hsub:∀b∈en.fp (σ[i]?).join,b∈e0.fp (σ[i]?).join):aq K σ H0 R0 H R (Γ.set i en):=by
 refine ⟨E.ext,λj e q=>?_,λj e b q w=>?_,λj k e e' b q q' w w'=>?_,by rw [List.length_set];exact E.len⟩
 ·rcases set_at q with ⟨rfl,rfl,_⟩ | ⟨hj,q1⟩
  ·exact ho
  ·exact E.ent j e q1
 ·rcases set_at q with ⟨rfl,rfl,_⟩ | ⟨hj,q1⟩
  ·exact E.nw _ _ b hi (hsub b w)
  ·exact E.nw j e b q1 w
 ·rcases set_at q with ⟨rfl,rfl,_⟩ | ⟨hj,q1⟩
  ·rcases set_at q' with ⟨rfl,rfl,_⟩ | ⟨hk,q1'⟩
   ·rfl
   ·exact E.ds _ _ _ _ b hi q1' (hsub b w) w'
  ·rcases set_at q' with ⟨rfl,rfl,_⟩ | ⟨hk,q1'⟩
   ·exact E.ds _ _ _ _ b q1 hi w (hsub b w')
   ·exact E.ds _ _ _ _ b q1 q1' w w'
def Wk:Ga->Ga->Prop
 | [],[]=>True
 | e::r,e'::r'=>(e'=e∨e'= .no)/\Wk r r'
 | _,_=>False
theorem Wk.len:∀{Γ Γ':Ga},Wk Γ Γ'->Γ'.length=Γ.length
 | [],[],_=>rfl
 | _::_,_::_,h=>by rw [List.length_cons,List.length_cons,Wk.len h.2]
theorem Wk.at:∀{Γ Γ':Ga},Wk Γ Γ'->∀(i:Nat) (e:Ent),Γ'[i]?=some e->e= .no∨Γ[i]?=some e
 | [],[],_,i,e,q=>by simp at q
 | a::_,b::_,h,0,e,q=>by
   simp at q
   rcases h.1 with z | z
   ·right;simp [← q,z]
   ·left;rw [← q,z]
 | a::r,b::r',h,i + 1,e,q=>by
   simp at q
   have:=Wk.at h.2 i e q
   simpa using this
theorem Wk.refl:∀Γ:Ga,Wk Γ Γ
 | []=>trivial
 | _::r=>⟨.inl rfl,Wk.refl r⟩
theorem aq.weak (E:aq K σ H0 R0 H R Γ){Γ':Ga}(w:Wk Γ Γ'):aq K σ H0 R0 H R Γ':=by
 refine ⟨E.ext,λi e q=>?_,λi e a q z=>?_,λi j e e' a q q' z z'=>?_,w.len.trans E.len⟩
 ·rcases w.at i e q with rfl | q
  ·trivial
  ·exact E.ent i e q
 ·rcases w.at i e q with rfl | q
  ·cases z
  ·exact E.nw i e a q z
 ·rcases w.at i e q with rfl | q
  ·cases z
  ·rcases w.at j e' q' with rfl | q'
   ·cases z'
   ·exact E.ds i j e e' a q q' z z'
end
section
variable {X:Cx}{Γ Γ1 Γ2 Γ3:Ga}{α β γ:Type}
variable {pos:Pos}
def EV (X:Cx)(e:Expr)(Γ:Ga){α:Type}(r:Rep α)(y:α)(Γ':Ga):Prop:=
 ∀(σ:St) (H0 R0 H R:Hp),aq X.K σ H0 R0 H R Γ->∀Q:VK,(∀v H' R',aq X.K σ H0 R0 H' R' Γ'->ar R R'->r.R X.K R' v y->Q v H')->d6 X e σ H Q
def bc (X:Cx)(e:Expr)(Γ:Ga){α:Type}(r:Rep α)(ys:List α)(Γ':Ga):Prop:=
 ∀(σ:St) (H0 R0 H R:Hp),aq X.K σ H0 R0 H R Γ->∀Q:VK,(∀a vs H' R',aq X.K σ H0 R0 H' R' Γ'->ar R R'->H' a=some (.lst vs)->R' a=none->H0 a=none->Off a σ Γ'->PySem.Paired (r.R X.K R') vs ys->ys.length<=sizeLine->Q (.ref a) H')->d6 X e σ H Q
def TV (X:Cx)(e:Expr)(Γ:Ga)(b:Bool)(Γ':Ga):Prop:=
 ∀(σ:St) (H0 R0 H R:Hp),aq X.K σ H0 R0 H R Γ->∀Q:Bool->Hp->Prop,(∀H' R',aq X.K σ H0 R0 H' R' Γ'->ar R R'->Q b H')->lL X e σ H Q
def TW (X:Cx)(e:Expr)(Γ:Ga)(b:Bool)(Γ':Ga):Prop:=
 ∀(σ:St) (H0 R0 H R:Hp),aq X.K σ H0 R0 H R Γ->∀Q:Bool->Hp->Prop,(∀H' R',aq X.K σ H0 R0 H' R' Γ'->ar R R'->Q b H')->wG X e σ H Q
def TF (X:Cx)(es:List Expr)(Γ:Ga)(b:Bool)(Γ':Ga):Prop:=
 ∀(σ:St) (H0 R0 H R:Hp),aq X.K σ H0 R0 H R Γ->∀Q:Bool->Hp->Prop,(∀H' R',aq X.K σ H0 R0 H' R' Γ'->ar R R'->Q b H')->iK X es σ H Q
def BG (X:Cx)(tg:Expr){α:Type}(r:Rep α)(bf:α->Ga->Ga):Prop:=
 ∀(σ:St) (H0 R0 H R:Hp) (Γ:Ga) (v:V) (x:α),aq X.K σ H0 R0 H R Γ->r.R X.K R v x->∀Q:St->Hp->Prop,(∀σ',aq X.K σ' H0 R0 H R (bf x Γ)->Q σ' H)->ic X tg v σ H Q
abbrev RT:=Hp->V->Hp->Hp->Prop
def WS (X:Cx)(sts:List Stmt)(Γ:Ga)(N:Ga->Prop)(T:RT):Prop:=
 ∀(σ:St) (H0 R0 H R:Hp),aq X.K σ H0 R0 H R Γ->∀D:Ends,(∀σ' H' R' Γ',aq X.K σ' H0 R0 H' R' Γ'->ar R R'->N Γ'->D.nx σ' H')->(∀v H' R',Ext H0 R0 H' R'->T H0 v H' R'->D.rt v H')->jz X sts D σ H
def W1 (X:Cx)(st:Stmt)(Γ:Ga)(N:Ga->Prop)(T:RT):Prop:=
 ∀(σ:St) (H0 R0 H R:Hp),aq X.K σ H0 R0 H R Γ->∀D:Ends,(∀σ' H' R' Γ',aq X.K σ' H0 R0 H' R' Γ'->ar R R'->N Γ'->D.nx σ' H')->(∀v H' R',Ext H0 R0 H' R'->T H0 v H' R'->D.rt v H')->wZ X st D σ H
def bE (K:PySem.W.Frag){β:Type}(r:Rep β)(P:β->Prop):RT:=λ_ v _ R'=>∃y,r.R K R' v y/\P y
def i6 (K:PySem.W.Frag){β:Type}(r:Rep β)(P:List β->Prop):RT:=λH0 v H' R'=>∃a vs ys,v= .ref a/\H0 a=none/\H' a=some (.lst vs)/\R' a=none/\PySem.Paired (r.R K R') vs ys/\ys.length<=sizeLine/\P ys
theorem bc.im {e:Expr}{r:Rep α}{ys:List α}(h:bc X e Γ r ys Γ1):EV X e Γ (af r) ys Γ1:=by
 intro σ H0 R0 H R E Q q
 refine h σ H0 R0 H R E Q λa vs H' R' E' s1 ha hR h0 off p z=>?_
 have s2:ar R' (upd R' a (.lst vs)):=ar.fresh hR _
 exact q (.ref a) H' (upd R' a (.lst vs)) (E'.jr ha hR h0 off) (s1.trans s2) ⟨a,vs,rfl,az,Paired.map (λ_ _=>r.mono s2) p,z⟩
theorem TV.cast {e:Expr}{b b':Bool}(h:TV X e Γ b Γ1)(e1:b=b'):TV X e Γ b' Γ1:=e1▸h
theorem aa (i:Nat){x:Str}{r:Rep α}{y:α}(hΓ:Γ[i]?=some (.im r y))(hN:autoParam (X.N[i]?=some x) Fc.ag)(hv:autoParam (bR X.env.scope x) Fc.bq)
 (hd:autoParam ((x==("__debug__":Str))=false) Fc.av) (hcd:autoParam ((x==("__classdict__":Str))=false) Fc.av):EV X (.Name x pos) Γ r y Γ:=by
 intro σ H0 R0 H R E Q q
 obtain ⟨v,e,h⟩:=E.ent i _ hΓ
 refine eS (aU hN hv hd hcd) ⟨v,?_,q v H R E (ar.refl _) h⟩
 cases es:σ[i]? with
 | none=>rw [es] at e;cases e
 | some o=>rw [es] at e;exact congrArg some e
theorem ak {i:Int}{j:Nat}:EV X (.Constant (.int i) j pos) Γ ae i Γ:=λ_ _ _ _ _ E _ q=>eS ef (q _ _ _ E (ar.refl _) rfl)
theorem dv {b:Bool}{j:Nat}:EV X (.Constant (.bool b) j pos) Γ aR b Γ:=λ_ _ _ _ _ E _ q=>eS sW (q _ _ _ E (ar.refl _) rfl)
theorem cB {x:Str}{n:Int}{t:Tok}(hm:X.mg x=some (.int n t))(hg:autoParam (Gl X x) Fc.ag)(hd:autoParam ((x==("__debug__":Str))=false) Fc.av):EV X (.Name x pos) Γ ae n Γ:=
 λ_ _ _ _ _ E _ q=>eS (iZ (v:=.int n) hg hm ⟨t,rfl⟩ hd) (q (.int n) _ _ E (ar.refl _) rfl)
theorem jv {op:Operator}{r2:R2}{a b:Expr}{ra:Rep α}{rb:Rep β}{rc:Rep γ}{x:α}{y:β}{z:γ}(ho:dJ X (binaryOp op) r2)(ha:EV X a Γ ra x Γ1)(hb:EV X b Γ1 rb y Γ2)
 (hz:∀(R:Hp) v u H Q,ra.R X.K R v x->rb.R X.K R u y->(∀w,rc.R X.K R w z->Q w H)->r2 v u H Q):EV X (.BinOp a op b pos) Γ rc z Γ2:=by
 intro σ H0 R0 H R E Q q
 refine eS (oK ho aI aI) (ha σ H0 R0 H R E _ λv H1 R1 E1 s1 e1=>hb σ H0 R0 H1 R1 E1 _ λu H2 R2 E2 s2 e2=>?_)
 exact hz R2 v u H2 _ (ra.mono s2 e1) e2 λw hw=>q w H2 R2 E2 (s1.trans s2) hw
section
variable {a b c:Expr}{pos:Pos}{x y z:Int}
theorem bu (ha:EV X a Γ ae x Γ1)(hb:EV X b Γ1 ae y Γ2):EV X (.BinOp a .Add b pos) Γ ae (x + y) Γ2:=jv zM ha hb λR v u H Q e1 e2 q=>⟨x,y,e1,e2,q _ rfl⟩
theorem fG (ha:EV X a Γ ae x Γ1)(hb:EV X b Γ1 ae y Γ2):EV X (.BinOp a .Sub b pos) Γ ae (x - y) Γ2:=jv Af ha hb λR v u H Q e1 e2 q=>⟨x,y,e1,e2,q _ rfl⟩
theorem iX (ha:EV X a Γ ae x Γ1)(hb:EV X b Γ1 ae y Γ2)(h:m7 x y):EV X (.BinOp a .Mult b pos) Γ ae (x * y) Γ2:=jv Ah ha hb λR v u H Q e1 e2 q=>⟨x,y,e1,e2,h,q _ rfl⟩
theorem iq (ha:EV X a Γ ae x Γ1)(hb:EV X b Γ1 ae y Γ2)(h:0 < y):EV X (.BinOp a .Mod b pos) Γ ae (x % y) Γ2:=jv AR ha hb λR v u H Q e1 e2 q=>⟨x,y,e1,e2,h,q _ rfl⟩
theorem y6 (ha:EV X a Γ ae x Γ1)(hb:EV X b Γ1 ae y Γ2)(h:AA x y):EV X (.BinOp a .FloorDiv b pos) Γ ae (x / y) Γ2:=jv yE ha hb λR v u H Q e1 e2 q=>⟨x,y,e1,e2,h,q _ rfl⟩
theorem tZ (ha:EV X a Γ ae x Γ1)(hb:EV X b Γ1 ae y Γ2)(h:BJ x y):EV X (.BinOp a .Pow b pos) Γ ae (x ^ y.toNat) Γ2:=jv BF ha hb λR v u H Q e1 e2 q=>⟨x,y,e1,e2,h,q _ rfl⟩
theorem cO (ha:EV X a Γ ae x Γ1):EV X (.UnaryOp .USub a pos) Γ ae (-x) Γ1:=by
 intro σ H0 R0 H R E Q q
 exact eS (DD BO aI) (ha σ H0 R0 H R E _ λv H1 R1 E1 s1 e1=>⟨x,e1,q _ H1 R1 E1 s1 rfl⟩)
end
structure fP (X:Cx) (op:CmpOp) {α β:Type} (ra:Rep α) (rb:Rep β) (x:α) (y:β) (k:Bool):Prop where
 r2:∃r,dJ X (compareOp op) r/\∀(R H:Hp) v u Q,ar R H->ra.R X.K R v x->rb.R X.K R u y->Q (.bl k) H->r v u H Q
theorem bZ {op:CmpOp}{a b:Expr}{pos:Pos}{ra:Rep α}{rb:Rep β}{x:α}{y:β}{k:Bool}(c:fP X op ra rb x y k)(ha:EV X a Γ ra x Γ1)(hb:EV X b Γ1 rb y Γ2)(hm:behindInMarks op b=false:=by first | exact vy _ | with_unfolding_all rfl):
 EV X (.Compare a [op] [b] pos) Γ aR k Γ2:=by
 obtain ⟨r,ho,hr⟩:=c.r2
 intro σ H0 R0 H R E Q q
 refine eS (zK ho aI aI hm) (ha σ H0 R0 H R E _ λv H1 R1 E1 s1 e1=>hb σ H0 R0 H1 R1 E1 _ λu H2 R2 E2 s2 e2=>?_)
 exact hr R2 H2 v u _ E2.sub (ra.mono s2 e1) e2 (q _ H2 R2 E2 (s1.trans s2) rfl)
theorem aA {op:CmpOp}{a b:Expr}{pos:Pos}{ra:Rep α}{rb:Rep β}{x:α}{y:β}{k:Bool}(c:fP X op ra rb x y k)(ha:EV X a Γ ra x Γ1)(hb:EV X b Γ1 rb y Γ2)(hm:behindInMarks op b=false:=by first | exact vy _ | with_unfolding_all rfl):
 TV X (.Compare a [op] [b] pos) Γ k Γ2:=by
 obtain ⟨r,ho,hr⟩:=c.r2
 intro σ H0 R0 H R E Q q
 refine tS (nj ho aI aI hm) (ha σ H0 R0 H R E _ λv H1 R1 E1 s1 e1=>hb σ H0 R0 H1 R1 E1 _ λu H2 R2 E2 s2 e2=>?_)
 exact hr R2 H2 v u _ E2.sub (ra.mono s2 e1) e2 ⟨k,rfl,q H2 R2 E2 (s1.trans s2)⟩
section
variable {x y:Int}
theorem gm:fP X .Lt ae ae x y (decide (x < y)):=⟨_,D6,λR H v u Q _ e1 e2 q=>⟨x,y,e1,e2,q⟩⟩
theorem iM:fP X .LtE ae ae x y (decide (x<=y)):=⟨_,DS,λR H v u Q _ e1 e2 q=>⟨x,y,e1,e2,q⟩⟩
theorem gj:fP X .Gt ae ae x y (decide (y < x)):=⟨_,Ed,λR H v u Q _ e1 e2 q=>⟨x,y,e1,e2,q⟩⟩
theorem kn:fP X .GtE ae ae x y (decide (y<=x)):=⟨_,Eb,λR H v u Q _ e1 e2 q=>⟨x,y,e1,e2,q⟩⟩
theorem bI:fP X .Eq ae ae x y (decide (x=y)):=⟨_,Cu,λR H v u Q _ e1 e2 q=>by
 cases e1;cases e2
 exact ⟨rfl,by rw [show decide (V.int x=V.int y)=decide (x=y) by rw [ku];exact Bool.beq_eq_decide_eq x y];exact q⟩⟩
theorem ip:fP X .NotEq ae ae x y (!decide (x=y)):=⟨_,yA,λR H v u Q _ e1 e2 q=>by
 cases e1;cases e2
 exact ⟨rfl,by rw [show decide (V.int x=V.int y)=decide (x=y) by rw [ku];exact Bool.beq_eq_decide_eq x y];exact q⟩⟩
theorem Ei {x y:Bool}:fP X .NotEq aR aR x y (!decide (x=y)):=⟨_,yA,λR H v u Q _ e1 e2 q=>by
 cases e1;cases e2
 exact ⟨rfl,by rw [show decide (V.bl x=V.bl y)=decide (x=y) by rw [oY];exact Bool.beq_eq_decide_eq x y];exact q⟩⟩
end
variable {a:Expr}{pos:Pos}{x:Bool}{b c:Expr}{y:Bool}{rest:List Expr}
theorem lH (x:Int):∀xs:List Int,rO (.int x) (xs.map V.int)=decide (x∈xs)
 | []=>rfl
 | y::r=>by
   have h:=lH x r
   unfold rO at h ⊢
   rw [List.map_cons,List.any_cons,h]
   have e:kP (V.int y) (V.int x)=decide (x=y):=by
    show (y==x)=_
    by_cases h:x=y
    ·subst h;simp
    ·rw [decide_eq_false h];exact beq_eq_false_iff_ne.mpr (Ne.symm h)
   rw [e,Bool.eq_iff_iff];simp
theorem eR {K:PySem.W.Frag}{R:Hp}:∀{vs:List V} {xs:List Int},PySem.Paired (ae.R K R) vs xs->vs=xs.map V.int
 | _,_,.nil=>rfl
 | _,_,.cons h t=>by rw [List.map_cons,← eR t];exact congrArg (· ::_) h
theorem j4:∀xs:List Int,(xs.map V.int).all gn=true
 | []=>rfl
 | _::r=>by rw [List.map_cons,List.all_cons,j4 r];rfl
theorem zC {x:Int}{xs:List Int}:fP X .NotIn ae (af ae) x xs (!decide (x∈xs)):=⟨_,ie,λR H v u Q s e1 e2 q=>by
 cases e1
 obtain ⟨a,vs,rfl,hq,p,_⟩:=e2
 have e:=eR p
 subst e
 exact ⟨a,_,rfl,.inl (aL.of (s _ _ hq)),rfl,j4 xs,by rw [if_pos rfl,lH];exact q⟩⟩
theorem pB {op op':CmpOp}{ra:Rep α}{rb:Rep β}{rc:Rep γ}{x:α}{y:β}{z:γ}{k k':Bool}(c1:fP X op ra rb x y k)(c2:fP X op' rb rc y z k')(ha:EV X a Γ ra x Γ)(hb:EV X b Γ rb y Γ)(hc:EV X c Γ rc z Γ)
 (hm:lastMarks [op,op'] [b,c]=false:=by with_unfolding_all rfl):EV X (.Compare a [op,op'] [b,c] pos) Γ aR (k&&k') Γ:=by
 obtain ⟨r,ho,hr⟩:=c1.r2
 obtain ⟨r',ho',hr'⟩:=c2.r2
 intro σ H0 R0 H R E Q q
 refine eS (xm ho ho' aI aI aI hm) (ha σ H0 R0 H R E _ λv H1 R1 E1 s1 e1=>hb σ H0 R0 H1 R1 E1 _ λu H2 R2 E2 s2 e2=>?_)
 refine hr R2 H2 v u _ E2.sub (ra.mono s2 e1) e2 ⟨k,rfl,?_⟩
 cases k with
 | false=>exact iG (q _ H2 R2 E2 (s1.trans s2) rfl)
 | true=>exact jy (hc σ H0 R0 H2 R2 E2 _ λw H3 R3 E3 s3 e3=>hr' R3 H3 u w _ E3.sub (rb.mono s3 e2) e3 (q _ H3 R3 E3 (s1.trans (s2.trans s3)) rfl))
theorem ib {op op':CmpOp}{ra:Rep α}{rb:Rep β}{rc:Rep γ}{x:α}{y:β}{z:γ}{k k':Bool}(c1:fP X op ra rb x y k)(c2:fP X op' rb rc y z k')(ha:EV X a Γ ra x Γ)(hb:EV X b Γ rb y Γ)(hc:EV X c Γ rc z Γ)
 (hm:lastMarks [op,op'] [b,c]=false:=by with_unfolding_all rfl):TV X (.Compare a [op,op'] [b,c] pos) Γ (k&&k') Γ:=by
 obtain ⟨r,ho,hr⟩:=c1.r2
 obtain ⟨r',ho',hr'⟩:=c2.r2
 intro σ H0 R0 H R E Q q
 refine tS (vO ho ho' aI aI aI hm) (ha σ H0 R0 H R E _ λv H1 R1 E1 s1 e1=>hb σ H0 R0 H1 R1 E1 _ λu H2 R2 E2 s2 e2=>?_)
 refine hr R2 H2 v u _ E2.sub (ra.mono s2 e1) e2 ⟨k,rfl,?_⟩
 cases k with
 | false=>exact iG ⟨false,rfl,q H2 R2 E2 (s1.trans s2)⟩
 | true=>exact jy (hc σ H0 R0 H2 R2 E2 _ λw H3 R3 E3 s3 e3=>hr' R3 H3 u w _ E3.sub (rb.mono s3 e2) e3 ⟨k',rfl,q H3 R3 E3 (s1.trans (s2.trans s3))⟩)
theorem fR {op:BoolOp}{r:Rep α}{x:α}(h:EV X a Γ r x Γ1):EV X (.BoolOp op [a] pos) Γ r x Γ1:=λσ H0 R0 H R E Q q=>eS (Aa aI) (h σ H0 R0 H R E Q q)
theorem gA (ha:EV X a Γ aR x Γ)(hb:x=true->EV X (.BoolOp .And (b::rest) pos) Γ aR y Γ):EV X (.BoolOp .And (a::b::rest) pos) Γ aR (x&&y) Γ:=by
 intro σ H0 R0 H R E Q q
 refine eS (Cb aI aI) (ha σ H0 R0 H R E _ λv H1 R1 E1 s1 e1=>⟨x,e1,?_⟩)
 cases x with
 | false=>exact iG (q _ H1 R1 E1 s1 rfl)
 | true=>exact jy (hb rfl σ H0 R0 H1 R1 E1 _ λw H3 R3 E3 s3 e3=>q w H3 R3 E3 (s1.trans s3) e3)
theorem xB (ha:EV X a Γ aR x Γ)(hb:x=false->EV X (.BoolOp .Or (b::rest) pos) Γ aR y Γ):EV X (.BoolOp .Or (a::b::rest) pos) Γ aR (x ||y) Γ:=by
 intro σ H0 R0 H R E Q q
 refine eS (Eh aI aI) (ha σ H0 R0 H R E _ λv H1 R1 E1 s1 e1=>⟨x,e1,?_⟩)
 cases x with
 | true=>exact jy (q _ H1 R1 E1 s1 rfl)
 | false=>exact iG (hb rfl σ H0 R0 H1 R1 E1 _ λw H3 R3 E3 s3 e3=>q w H3 R3 E3 (s1.trans s3) e3)
theorem AE (ha:EV X a Γ aR x Γ1):EV X (.UnaryOp .Not a pos) Γ aR (!x) Γ1:=by
 intro σ H0 R0 H R E Q q
 exact eS (Cf aI) (ha σ H0 R0 H R E _ λv H1 R1 E1 s1 e1=>⟨x,e1,q _ H1 R1 E1 s1 rfl⟩)
theorem cD (ha:TV X a Γ x Γ1):TV X (.UnaryOp .Not a pos) Γ (!x) Γ1:=by
 intro σ H0 R0 H R E Q q
 exact tS (Bk k9) (ha σ H0 R0 H R E _ λH1 R1 E1 s1=>q H1 R1 E1 s1)
theorem TW.tv {e:Expr}{b:Bool}(h:TW X e Γ b Γ1):TV X e Γ b Γ1:=λσ H0 R0 H R E Q q=>tS (xY.pt) (h σ H0 R0 H R E Q q)
theorem dZ (ha:TV X a Γ x Γ1):TW X (.BoolOp .And [a] pos) Γ x Γ1:=λσ H0 R0 H R E Q q=>wS (zi k9) (ha σ H0 R0 H R E Q q)
theorem dI (ha:TV X a Γ x Γ1):TW X (.BoolOp .Or [a] pos) Γ x Γ1:=λσ H0 R0 H R E Q q=>wS (Ce k9) (ha σ H0 R0 H R E Q q)
theorem dy (ha:TV X a Γ x Γ)(hb:x=true->TW X (.BoolOp .And (b::rest) pos) Γ y Γ):TW X (.BoolOp .And (a::b::rest) pos) Γ (x&&y) Γ:=by
 intro σ H0 R0 H R E Q q
 refine wS (B3 k9 xY) (ha σ H0 R0 H R E _ λH1 R1 E1 s1=>?_)
 cases x with
 | false=>exact iG (q H1 R1 E1 s1)
 | true=>exact jy (hb rfl σ H0 R0 H1 R1 E1 _ λH3 R3 E3 s3=>q H3 R3 E3 (s1.trans s3))
theorem dA (ha:TV X a Γ x Γ)(hb:x=false->TW X (.BoolOp .Or (b::rest) pos) Γ y Γ):TW X (.BoolOp .Or (a::b::rest) pos) Γ (x ||y) Γ:=by
 intro σ H0 R0 H R E Q q
 refine wS (xV k9 xY) (ha σ H0 R0 H R E _ λH1 R1 E1 s1=>?_)
 cases x with
 | true=>exact jy (q H1 R1 E1 s1)
 | false=>exact iG (hb rfl σ H0 R0 H1 R1 E1 _ λH3 R3 E3 s3=>q H3 R3 E3 (s1.trans s3))
theorem cc {k:Bool}(ha:EV X a Γ aR k Γ1)(he:autoParam (∀whole,isTrue a X.env whole=(do let v ← whole;standAt a.pos;holding [v] (truthy v))) Fc.c9):TV X a Γ k Γ1:=by
 intro σ H0 R0 H R E Q q
 exact tS (zV aI he) (ha σ H0 R0 H R E _ λv H1 R1 E1 s1 e1=>⟨k,e1,q H1 R1 E1 s1⟩)
theorem cy:TF X [] Γ true Γ:=λσ H0 R0 H R E Q q=>fS BP (q H R E (ar.refl _))
theorem eX {b:Bool}(h:TV X c Γ b Γ1):TF X [c] Γ b Γ1:=λσ H0 R0 H R E Q q=>fS (Bu k9) (h σ H0 R0 H R E Q q)
theorem sy {k:Bool}{r:Rep α}{x y:α}(hc:TV X c Γ k Γ1)(ha:k=true->EV X a Γ1 r x Γ2)(hb:k=false->EV X b Γ1 r y Γ2):EV X (.IfExp c a b pos) Γ r (if k then x else y) Γ2:=by
 intro σ H0 R0 H R E Q q
 refine eS (vT k9 aI aI) (hc σ H0 R0 H R E _ λH1 R1 E1 s1=>?_)
 cases k with
 | true=>exact jy (ha rfl σ H0 R0 H1 R1 E1 _ λv H3 R3 E3 s3 e3=>q v H3 R3 E3 (s1.trans s3) e3)
 | false=>exact iG (hb rfl σ H0 R0 H1 R1 E1 _ λv H3 R3 E3 s3 e3=>q v H3 R3 E3 (s1.trans s3) e3)
end
section
variable {X:Cx}{Γ Γ1 Γ2 Γ3:Ga}{α β γ δ:Type}
variable {r:Rep α}{pos:Pos}{i:Int}{b:Expr}{es:List Expr}{x:α}{a:Expr}{xs:List α}
structure Pk:Type 1 where
 {α:Type}
 r:Rep α
 x:α
inductive eZ (K:PySem.W.Frag) (R:Hp):List V->List Pk->Prop
 | nil:eZ K R [] []
 | cons {v:V} {vs:List V} {p:Pk} {ps:List Pk}:p.r.R K R v p.x->eZ K R vs ps->eZ K R (v::vs) (p::ps)
def HA (X:Cx)(es:List Expr)(Γ:Ga)(ps:List Pk)(Γ':Ga):Prop:=
 ∀(σ:St) (H0 R0 H R:Hp),aq X.K σ H0 R0 H R Γ->∀Q:List V->Hp->Prop,(∀vs H' R',aq X.K σ H0 R0 H' R' Γ'->ar R R'->eZ X.K R' vs ps->Q vs H')->ji X es σ H Q
theorem aw:HA X [] Γ [] Γ:=λσ H0 R0 H R E Q q=>aS bp (q [] H R E (ar.refl _) .nil)
theorem ah {e:Expr}{ps:List Pk}(he:EV X e Γ r x Γ1)(hr:HA X es Γ1 ps Γ2)(hs:autoParam (starEach (e::es) X.env=(false,eval e X.env)::starEach es X.env) Fc.ag):HA X (e::es) Γ (⟨r,x⟩::ps) Γ2:=by
 intro σ H0 R0 H R E Q q
 refine aS (aD aI jJ hs) (he σ H0 R0 H R E _ λv H1 R1 E1 s1 e1=>hr σ H0 R0 H1 R1 E1 _ λvs H2 R2 E2 s2 e2=>?_)
 exact q (v::vs) H2 R2 E2 (s1.trans s2) (.cons (r.mono s2 e1) e2)
def EA (X:Cx)(es:List Expr)(Γ:Ga){α:Type}(r:Rep α)(ys:List α)(Γ':Ga):Prop:=
 ∀(σ:St) (H0 R0 H R:Hp),aq X.K σ H0 R0 H R Γ->∀Q:List V->Hp->Prop,(∀vs H' R',aq X.K σ H0 R0 H' R' Γ'->ar R R'->PySem.Paired (r.R X.K R') vs ys->Q vs H')->ji X es σ H Q
theorem aY:EA X [] Γ r [] Γ:=λσ H0 R0 H R E Q q=>aS bp (q [] H R E (ar.refl _) .nil)
theorem aZ {e:Expr}{ys:List α}(he:EV X e Γ r x Γ1)(hr:EA X es Γ1 r ys Γ2)(hs:autoParam (starEach (e::es) X.env=(false,eval e X.env)::starEach es X.env) Fc.ag):EA X (e::es) Γ r (x::ys) Γ2:=by
 intro σ H0 R0 H R E Q q
 refine aS (aD aI jJ hs) (he σ H0 R0 H R E _ λv H1 R1 E1 s1 e1=>hr σ H0 R0 H1 R1 E1 _ λvs H2 R2 E2 s2 e2=>?_)
 exact q (v::vs) H2 R2 E2 (s1.trans s2) (.cons (r.mono s2 e1) e2)
theorem aN {ys:List α}(h:EA X es Γ r ys Γ1)(hz:ys.length<=sizeLine):bc X (.List es pos) Γ r ys Γ1:=by
 intro σ H0 R0 H R E Q q
 refine eS (Ci jJ) (h σ H0 R0 H R E _ λvs H1 R1 E1 s1 p1=>⟨by rw [p1.length];exact hz,λp hp=>?_⟩)
 exact q p vs _ R1 (E1.grow (Ext.dW E1.sub hp _)) s1 az (E1.sub.free hp) (E1.ext.h.free hp) (E1.off hp) p1 hz
theorem cg {k:Nat}{r':Rep β}{y:β}(h:HA X [a,b] Γ [⟨r,x⟩,⟨r',y⟩] Γ1):EV X (.Tuple [a,b] k pos) Γ (ay r r') (x,y) Γ1:=by
 intro σ H0 R0 H R E Q q
 refine eS (uY jJ) (h σ H0 R0 H R E _ λvs H1 R1 E1 s1 p1=>?_)
 obtain ⟨h1,h2⟩:∃v1 v2,vs=[v1,v2]/\r.R X.K R1 v1 x/\r'.R X.K R1 v2 y:=by
  cases p1 with
  | cons a1 t=>cases t with
    | cons a2 t2=>cases t2;exact ⟨_,_,rfl,a1,a2⟩
 obtain ⟨v2,rfl,e1,e2⟩:=h2
 refine ⟨by show 2<=sizeLine;decide,λp hp=>?_⟩
 have s2:ar R1 (upd R1 p (.tup [h1,v2])):=ar.fresh (E1.sub.free hp) _
 exact q _ _ (upd R1 p (.tup [h1,v2])) (E1.grow (Ext.fresh E1.sub hp _)) (s1.trans s2) ⟨p,_,_,rfl,az,r.mono s2 e1,r'.mono s2 e2⟩
theorem dt {F:α->β->Prop}:∀{vs:List α} {xs:List β},PySem.Paired F vs xs->∀{i:Nat} {y:β},xs[i]?=some y->∃v,vs[i]?=some v/\F v y
 | _,_,.nil,i,y,h=>by simp at h
 | _,_,.cons h t,0,y,e=>by simp at e;subst e;exact ⟨_,rfl,h⟩
 | _,_,.cons h t,i + 1,y,e=>by
   obtain ⟨v,e1,e2⟩:=dt t (i:=i) (y:=y) (by simpa using e)
   exact ⟨v,by simpa using e1,e2⟩
theorem fL {F:α->β->Prop}{vs:List α}{xs:List β}(p:PySem.Paired F vs xs){y:β}(h:bW xs i=some y):∃v,bW vs i=some v/\F v y:=by
 unfold bW at h ⊢
 rw [p.length]
 cases e:dO xs.length i with
 | none=>rw [e] at h;cases h
 | some j=>rw [e] at h;exact dt p h
theorem eD (h0:0<=i)(h1:i < xs.length):bW xs i=xs[i.toNat]?:=by
 have e:i=((i.toNat:Nat):Int):=by omega
 have hl:i.toNat < xs.length:=by omega
 have q:bW xs ((i.toNat:Nat):Int)=some xs[i.toNat]:=zb (List.getElem?_eq_getElem hl)
 rw [← e] at q
 rw [q,List.getElem?_eq_getElem hl]
theorem aP {y:α}(ha:EV X a Γ (af r) xs Γ1)(hb:EV X b Γ1 ae i Γ2)(h:bW xs i=some y)(hs:autoParam (dD b) Fc.jG):EV X (.Subscript a b pos) Γ r y Γ2:=by
 intro σ H0 R0 H R E Q q
 refine eS (gO fA aI aI hs) (ha σ H0 R0 H R E _ λv H1 R1 E1 s1 e1=>hb σ H0 R0 H1 R1 E1 _ λu H2 R2 E2 s2 e2=>?_)
 obtain ⟨p,vs,rfl,ha,pp,z⟩:=(af r).mono s2 e1
 obtain ⟨w,e3,e4⟩:=fL pp h
 exact ⟨p,vs,i,w,rfl,e2,aL.of (E2.sub _ _ ha),e3,q w H2 R2 E2 (s1.trans s2) e4⟩
theorem zW {xs:List Int}{y:Int}(ha:EV X a Γ cX xs Γ1)(hb:EV X b Γ1 ae i Γ2)(h:bW xs i=some y)(hs:autoParam (dD b) Fc.jG):EV X (.Subscript a b pos) Γ ae y Γ2:=by
 intro σ H0 R0 H R E Q q
 refine eS (gO fA aI aI hs) (ha σ H0 R0 H R E _ λv H1 R1 E1 s1 e1=>hb σ H0 R0 H1 R1 E1 _ λu H2 R2 E2 s2 e2=>?_)
 obtain ⟨p,rfl,ha,z⟩:=cX.mono s2 e1
 have e3:bW (xs.map V.int) i=some (.int y):=by
  unfold bW at h ⊢
  rw [List.length_map]
  cases e:dO xs.length i with
  | none=>rw [e] at h;cases h
  | some j=>
    rw [e] at h
    show (xs.map V.int)[j]?=_
    rw [List.getElem?_map,show xs[j]?=some y from h];rfl
 exact ⟨p,_,i,_,rfl,e2,E2.sub.seq ha,e3,q _ H2 R2 E2 (s1.trans s2) rfl⟩
theorem dh (j:Nat){x:Str}{p1:Pos}{y:α}(hb:EV X b Γ ae i Γ1)(hΓ:Γ[j]?=some (.mu r xs))(hΓ1:Γ1[j]?=some (.mu r xs))(h:bW xs i=some y)(hN:autoParam (X.N[j]?=some x) Fc.ag)(hv:autoParam (bR X.env.scope x) Fc.bq)
 (hs:autoParam (dD b) Fc.jG) (hd:autoParam ((x==("__debug__":Str))=false) Fc.av) (hcd:autoParam ((x==("__classdict__":Str))=false) Fc.av):EV X (.Subscript (.Name x p1) b pos) Γ r y Γ1:=by
 intro σ H0 R0 H R E Q q
 obtain ⟨a,vs,e,_,_,_⟩:=E.ent j _ hΓ
 refine eS (gO fA (aU hN hv hd hcd) aI hs) ⟨.ref a,?_,hb σ H0 R0 H R E _ λu H2 R2 E2 s2 e2=>?_⟩
 ·cases es:σ[j]? with
  | none=>rw [es] at e;cases e
  | some o=>rw [es] at e;exact congrArg some e
 ·obtain ⟨a',vs',e',ha,hR,pp⟩:=E2.ent j _ hΓ1
  rw [e] at e';cases e'
  obtain ⟨w,e3,e4⟩:=fL pp h
  exact ⟨a,vs',i,w,rfl,e2,aL.of ha,e3,q w H2 R2 E2 s2 e4⟩
section
variable {a:Expr}{n:Int}{j:Nat}{p1 pos:Pos}{w:Row}
variable {r:Rep α}{r':Rep β}
theorem jd {x:α}{y:β}(ha:EV X a Γ r x Γ1)(k:∀(R:Hp) v,r.R X.K R v x->∃p vs w,v= .ref p/\R p=some (.tup vs)/\bW vs n=some w/\r'.R X.K R w y):EV X (.Subscript a (.Constant (.int n) j p1) pos) Γ r' y Γ1:=by
 intro σ H0 R0 H R E Q q
 refine eS (gO Bq aI ef (λ_ _=>rfl)) (ha σ H0 R0 H R E _ λv H1 R1 E1 s1 e1=>?_)
 obtain ⟨p,vs,w,rfl,hp,e3,e4⟩:=k R1 v e1
 exact ⟨p,vs,n,w,rfl,rfl,dY.of (E1.sub _ _ hp),e3,q w H1 R1 E1 s1 e4⟩
theorem dS (ha:EV X a Γ aB w Γ1):EV X (.Subscript a (.Constant (.int 0) j p1) pos) Γ ae w.1 Γ1:=jd ha λR v ⟨p,e,h⟩=>⟨p,_,_,e,h,rfl,rfl⟩
theorem dG (ha:EV X a Γ aB w Γ1):EV X (.Subscript a (.Constant (.int 1) j p1) pos) Γ ae w.2.1 Γ1:=jd ha λR v ⟨p,e,h⟩=>⟨p,_,_,e,h,rfl,rfl⟩
theorem c3 (ha:EV X a Γ aB w Γ1):EV X (.Subscript a (.Constant (.int 2) j p1) pos) Γ ae w.2.2.1 Γ1:=jd ha λR v ⟨p,e,h⟩=>⟨p,_,_,e,h,rfl,rfl⟩
theorem du (ha:EV X a Γ aB w Γ1):EV X (.Subscript a (.Constant (.int 3) j p1) pos) Γ ae w.2.2.2 Γ1:=jd ha λR v ⟨p,e,h⟩=>⟨p,_,_,e,h,rfl,rfl⟩
theorem bQ {x:α×β}(ha:EV X a Γ (ay r r') x Γ1):EV X (.Subscript a (.Constant (.int 0) j p1) pos) Γ r x.1 Γ1:=jd ha λR v ⟨p,v1,v2,e,h,h1,h2⟩=>⟨p,_,v1,e,h,rfl,h1⟩
theorem aJ {x:α×β}(ha:EV X a Γ (ay r r') x Γ1):EV X (.Subscript a (.Constant (.int 1) j p1) pos) Γ r' x.2 Γ1:=jd ha λR v ⟨p,v1,v2,e,h,h1,h2⟩=>⟨p,_,v2,e,h,rfl,h2⟩
end
variable {a:Expr}{pos:Pos}{r:Rep α}{xs:List α}
def OV (X:Cx)(e:Option Expr)(Γ:Ga)(o:Option Int):Prop:=∃t,PO X e t/\∀(σ:St) (H0 R0 H R:Hp),aq X.K σ H0 R0 H R Γ->∀Q:Option Int->Hp->Prop,(∀H' R',aq X.K σ H0 R0 H' R' Γ->ar R R'->Q o H')->t σ H Q
theorem gU:OV X none Γ none:=⟨_,rA,λσ H0 R0 H R E Q q=>q H R E (ar.refl _)⟩
theorem gT {e:Expr}{i:Int}(h:EV X e Γ ae i Γ):OV X (some e) Γ (some i):=⟨_,kF aI,λσ H0 R0 H R E Q q=>h σ H0 R0 H R E _ λv H1 R1 E1 s1 e1=>⟨i,e1,q H1 R1 E1 s1⟩⟩
def cut (xs:List α)(lo hi:Option Int):List α:=(xs.drop (HT.sIx xs.length 0 lo)).take (HT.sIx xs.length xs.length hi - HT.sIx xs.length 0 lo)
theorem k6 {F:α->β->Prop}:∀(n:Nat) {vs:List α} {xs:List β},PySem.Paired F vs xs->PySem.Paired F (vs.drop n) (xs.drop n)
 | 0,_,_,h=>h
 | _ + 1,_,_,.nil=>.nil
 | n + 1,_,_,.cons _ t=>k6 n t
theorem iF {F:α->β->Prop}:∀(n:Nat) {vs:List α} {xs:List β},PySem.Paired F vs xs->PySem.Paired F (vs.take n) (xs.take n)
 | 0,_,_,_=>.nil
 | _ + 1,_,_,.nil=>.nil
 | n + 1,_,_,.cons h t=>.cons h (iF n t)
theorem bP {F:α->β->Prop}:∀{vs:List α} {xs:List β} {vs':List α} {xs':List β},PySem.Paired F vs xs->PySem.Paired F vs' xs'->PySem.Paired F (vs++vs') (xs++xs')
 | _,_,_,_,.nil,h=>h
 | _,_,_,_,.cons h t,h'=>.cons h (bP t h')
theorem eP (xs:List α)(lo hi:Option Int):(cut xs lo hi).length<=xs.length:=by
 unfold cut
 rw [List.length_take,List.length_drop]
 omega
theorem fD {lo hi:Option Expr}{p2:Pos}{l h:Option Int}(ha:EV X a Γ (af r) xs Γ)(hl:OV X lo Γ l)(hh:OV X hi Γ h):bc X (.Subscript a (.Slice lo hi none p2) pos) Γ r (cut xs l h) Γ:=by
 intro σ H0 R0 H R E Q q
 obtain ⟨tl,pl,kl⟩:=hl
 obtain ⟨th,ph,kh⟩:=hh
 refine eS (lO yM aI pl ph) (ha σ H0 R0 H R E _ λv H1 R1 E1 s1 e1=>kl σ H0 R0 H1 R1 E1 _ λH2 R2 E2 s2=>kh σ H0 R0 H2 R2 E2 _ λH3 R3 E3 s3=>?_)
 obtain ⟨p,vs,rfl,hp,pp,z⟩:=(af r).mono (s2.trans s3) e1
 refine ⟨p,vs,rfl,aL.of (E3.sub _ _ hp),λd hd=>?_⟩
 refine q d _ _ R3 (E3.grow (Ext.dW E3.sub hd _)) (s1.trans (s2.trans s3)) az (E3.sub.free hd) (E3.ext.h.free hd) (E3.off hd) ?_ (Nat.le_trans (eP _ _ _) z)
 unfold cut lM
 rw [pp.length]
 exact iF _ (k6 _ pp)
theorem xp {p2 p3 p4:Pos}{j k:Nat}{w:Row}(ha:EV X a Γ aB w Γ):EV X (.Subscript a (.Slice (some (.Constant (.int 1) j p3)) (some (.Constant (.int 3) k p4)) none p2) pos) Γ (ay ae ae) (w.2.1,w.2.2.1) Γ:=by
 intro σ H0 R0 H R E Q q
 refine eS (lO vx aI (kF ef) (kF ef)) (ha σ H0 R0 H R E _ λv H1 R1 E1 s1 e1=>⟨_,rfl,_,rfl,?_⟩)
 obtain ⟨p,rfl,hp⟩:=e1
 refine ⟨p,_,rfl,dY.of (E1.sub _ _ hp),?_,λd hd=>?_⟩
 ·exact λz=>absurd z.1 (by show¬(HT.sIx 4 0 (some 1)=0);decide)
 ·have s2:ar R1 (upd R1 d (.tup [V.int w.2.1,V.int w.2.2.1])):=ar.fresh (E1.sub.free hd) _
  exact q _ _ (upd R1 d (.tup [V.int w.2.1,V.int w.2.2.1])) (E1.grow (Ext.fresh E1.sub hd _)) (s1.trans s2) ⟨d,_,_,rfl,az,rfl,rfl⟩
theorem f7 {b:Expr}{ys:List α}(ha:EV X a Γ (af r) xs Γ1)(hb:EV X b Γ1 (af r) ys Γ2)(hz:xs.length + ys.length<=sizeLine):bc X (.BinOp a .Add b pos) Γ r (xs++ys) Γ2:=by
 intro σ H0 R0 H R E Q q
 refine eS (oK vd aI aI) (ha σ H0 R0 H R E _ λv H1 R1 E1 s1 e1=>hb σ H0 R0 H1 R1 E1 _ λu H2 R2 E2 s2 e2=>?_)
 obtain ⟨p,vs,rfl,hp,pp,z⟩:=(af r).mono s2 e1
 obtain ⟨p',ws,rfl,hp',pp',z'⟩:=e2
 refine ⟨p,p',vs,ws,rfl,rfl,E2.sub _ _ hp,E2.sub _ _ hp',by rw [pp.length,pp'.length];exact hz,λd hd=>?_⟩
 exact q d _ _ R2 (E2.grow (Ext.dW E2.sub hd _)) (s1.trans s2) az (E2.sub.free hd) (E2.ext.h.free hd) (E2.off hd) (bP pp pp') (by rw [List.length_append];exact hz)
theorem mJ {F:α->β->Prop}{vs:List α}{xs:List β}(h:PySem.Paired F vs xs):∀k:Nat,PySem.Paired F (List.replicate k vs).flatten (List.replicate k xs).flatten
 | 0=>.nil
 | k + 1=>by rw [List.replicate_succ,List.replicate_succ];exact bP h (mJ h k)
theorem i5 {b:Expr}{k:Int}(ha:EV X a Γ (af r) xs Γ1)(hb:EV X b Γ1 ae k Γ2)(h1: -(2 ^ 63)<=k)(h2:k < 2 ^ 63)(hz:xs.length * k.toNat<=sizeLine):bc X (.BinOp a .Mult b pos) Γ r (List.replicate k.toNat xs).flatten Γ2:=by
 intro σ H0 R0 H R E Q q
 refine eS (oK Bh aI aI) (ha σ H0 R0 H R E _ λv H1 R1 E1 s1 e1=>hb σ H0 R0 H1 R1 E1 _ λu H2 R2 E2 s2 e2=>?_)
 obtain ⟨p,vs,rfl,hp,pp,z⟩:=(af r).mono s2 e1
 refine ⟨p,k,vs,rfl,e2,E2.sub _ _ hp,h1,h2,by rw [pp.length];exact hz,λd hd=>?_⟩
 exact q d _ _ R2 (E2.grow (Ext.dW E2.sub hd _)) (s1.trans s2) az (E2.sub.free hd) (E2.ext.h.free hd) (E2.off hd) (mJ pp _) (by rw [len_rep,Nat.mul_comm];exact hz)
theorem aM {p:Pos}(hm:X.mg "len"=none)(ha:EV X a Γ (af r) xs Γ1)(hs:autoParam (starEach [a] X.env=[(false,eval a X.env)]) Fc.ag)(hg:autoParam (Gl X "len") Fc.ag):EV X (.Call (.Name "len" p) [a] [] pos) Γ ae (xs.length:Int) Γ1:=by
 intro σ H0 R0 H R E Q q
 refine eS (da eJ hg hm PySem.boot_len (aD aI bp hs) (by decide) (by decide) hs) (ha σ H0 R0 H R E _ λv H1 R1 E1 s1 e1=>?_)
 obtain ⟨p,vs,rfl,hp,pp,z⟩:=e1
 refine ⟨p,vs,rfl,.inl (aL.of (E1.sub _ _ hp)),?_⟩
 rw [pp.length]
 exact q _ H1 R1 E1 s1 rfl
theorem zc {p:Pos}{xs:List Int}(hm:X.mg "len"=none)(ha:EV X a Γ cX xs Γ1)(hs:autoParam (starEach [a] X.env=[(false,eval a X.env)]) Fc.ag)(hg:autoParam (Gl X "len") Fc.ag):EV X (.Call (.Name "len" p) [a] [] pos) Γ ae (xs.length:Int) Γ1:=by
 intro σ H0 R0 H R E Q q
 refine eS (da eJ hg hm PySem.boot_len (aD aI bp hs) (by decide) (by decide) hs) (ha σ H0 R0 H R E _ λv H1 R1 E1 s1 e1=>?_)
 obtain ⟨p,rfl,hp,z⟩:=e1
 refine ⟨p,_,rfl,.inl (E1.sub.seq hp),?_⟩
 rw [List.length_map]
 exact q _ H1 R1 E1 s1 rfl
end
section
variable {X:Cx}{Γ Γ1 Γ2 Γ3:Ga}{α β γ δ:Type}{N:Ga->Prop}{T:RT}
variable {pos:Pos}{r:Rep α}{e:Expr}{x:Str}{p1:Pos}{y:α}
theorem BV {Γ':Ga}(w:Wk Γ Γ')(h:N Γ'):WS X [] Γ N T:=λσ H0 R0 H R E D dn dr=>zX yP (dn σ H R Γ' (E.weak w) (ar.refl _) h)
theorem aV (h:N Γ):WS X [] Γ N T:=BV (Wk.refl Γ) h
theorem aj {st:Stmt}{rest:List Stmt}(h:W1 X st Γ (λΓ'=>WS X rest Γ' N T) T):WS X (st::rest) Γ N T:=λσ H0 R0 H R E D dn dr=>
 zX (wz Ek eI) (h σ H0 R0 H R E {D with nx:=jz X rest D} (λσ' H' R' Γ' E' s' h'=>h' σ' H0 R0 H' R' E' D (λσ2 H2 R2 Γ2 E2 s2=>dn σ2 H2 R2 Γ2 E2 (s'.trans s2)) dr) dr)
theorem ao {st:Stmt}(h:W1 X st Γ N T):WS X [st] Γ N T:=λσ H0 R0 H R E D dn dr=>zX (yW Ek) (h σ H0 R0 H R E D dn dr)
theorem bo (i:Nat)(he:EV X e Γ r y Γ1)(h:N (Γ1.set i (.im r y)))(hN:autoParam (X.N.Nodup) Fc.fj)(hi:autoParam (X.N[i]?=some x) Fc.ag)(hx:autoParam (Loc X.env.scope x) Fc.fi)
 (hs:autoParam (swapsWith e (some (.Name x p1)) pos.line X.env=pure false) Fc.ag) (hf:autoParam (X.fn x=true∨X.env.scope.names.lookup x=some .local) Fc.iy):W1 X (.Assign [.Name x p1] e pos) Γ N T:=λσ H0 R0 H R E D dn dr=>
 sS (eY hN hi hx aI hs hf) (he σ H0 R0 H R E _ λv H1 R1 E1 s1 e1=>dn _ H1 R1 _ (E1.set i e1) s1 h)
theorem bG (i:Nat){ys:List α}(he:bc X e Γ r ys Γ1)(h:N (Γ1.set i (.mu r ys)))(hN:autoParam (X.N.Nodup) Fc.fj)(hi:autoParam (X.N[i]?=some x) Fc.ag)(hx:autoParam (Loc X.env.scope x) Fc.fi)
 (hs:autoParam (swapsWith e (some (.Name x p1)) pos.line X.env=pure false) Fc.ag) (hf:autoParam (X.fn x=true∨X.env.scope.names.lookup x=some .local) Fc.iy):W1 X (.Assign [.Name x p1] e pos) Γ N T:=λσ H0 R0 H R E D dn dr=>
 sS (eY hN hi hx aI hs hf) (he σ H0 R0 H R E _ λa vs H1 R1 E1 s1 ha hR h0 off p z=>dn _ H1 R1 _ (E1.tI (u:=.lst vs) (en:=.mu r ys) i ⟨a,vs,rfl,ha,hR,p⟩ h0 λj e _ q w=>off j e q w) s1 h)
theorem xS {tg:Expr}{bf:α->Ga->Ga}(he:EV X e Γ r y Γ1)(hb:BG X tg r bf)(h:N (bf y Γ1))
 (hs:autoParam (swapsWithSole [tg] e pos.line X.env=pure false) Fc.ag) (hw:autoParam (swappedStores [tg] e X.env=pure none) Fc.ag) (h1:autoParam ((assignEach [tg] X.env).map (·.2)=[assign tg X.env]) Fc.ag):W1 X (.Assign [tg] e pos) Γ N T:=λσ H0 R0 H R E D dn dr=>
 sS (jM aI rh hs hw h1) (he σ H0 R0 H R E _ λv H1 R1 E1 s1 e1=>hb σ H0 R0 H1 R1 Γ1 v y E1 e1 _ λσ' E'=>dn σ' H1 R1 _ E' s1 h)
theorem bg {P:α->Prop}(he:EV X e Γ r y Γ1)(h:P y):W1 X (.Return (some e) pos) Γ N (bE X.K r P):=λσ H0 R0 H R E D dn dr=>
 sS (e7 aI) (he σ H0 R0 H R E _ λv H1 R1 E1 s1 e1=>dr v H1 R1 E1.ext ⟨y,e1,h⟩)
theorem jR {P:List α->Prop}{ys:List α}(he:bc X e Γ r ys Γ1)(h:P ys):W1 X (.Return (some e) pos) Γ N (i6 X.K r P):=λσ H0 R0 H R E D dn dr=>
 sS (e7 aI) (he σ H0 R0 H R E _ λa vs H1 R1 E1 s1 ha hR h0 off p z=>dr _ H1 R1 E1.ext ⟨a,vs,ys,rfl,h0,ha,hR,p,z,h⟩)
theorem bh {c:Expr}{a b:List Stmt}{k:Bool}(hc:TV X c Γ k Γ1)(h1:k=true->WS X a Γ1 N T)(h2:k=false->WS X b Γ1 N T):W1 X (.If c a b pos) Γ N T:=λσ H0 R0 H R E D dn dr=>by
 refine sS (Dx k9 eI eI) (hc σ H0 R0 H R E _ λH1 R1 E1 s1=>?_)
 cases k with
 | true=>exact jy (h1 rfl σ H0 R0 H1 R1 E1 D (λσ2 H2 R2 Γ2 E2 s2=>dn σ2 H2 R2 Γ2 E2 (s1.trans s2)) dr)
 | false=>exact iG (h2 rfl σ H0 R0 H1 R1 E1 D (λσ2 H2 R2 Γ2 E2 s2=>dn σ2 H2 R2 Γ2 E2 (s1.trans s2)) dr)
theorem aG (i:Nat)(hN:autoParam (X.N.Nodup) Fc.fj)(hi:autoParam (X.N[i]?=some x) Fc.ag)(hx:autoParam (Loc X.env.scope x) Fc.fi)(hf:autoParam (X.fn x=true∨X.env.scope.names.lookup x=some .local) Fc.iy):
 BG X (.Name x pos) r (λy Γ=>Γ.set i (.im r y)):=λσ H0 R0 H R Γ v x E h Q q=>gS (m3 hN hi hx hf) (q _ (E.set i h))
theorem dC (i j:Nat){y:Str}{k:Nat}{p2:Pos}{r':Rep β}(hc:autoParam (X.calm=true) Fc.ag)(hN:autoParam (X.N.Nodup) Fc.fj)(hi:autoParam (X.N[i]?=some x) Fc.ag)(hx:autoParam (Loc X.env.scope x) Fc.fi)(hf:autoParam (X.fn x=true∨X.env.scope.names.lookup x=some .local) Fc.iy)
 (hj:autoParam (X.N[j]?=some y) Fc.ag) (hy:autoParam (Loc X.env.scope y) Fc.fi) (hf':X.fn y=true∨X.env.scope.names.lookup y=some .local:=by first | exact .inl rfl | exact .inr rfl):
 BG X (.Tuple [.Name x p1,.Name y p2] k pos) (ay r r') (λw Γ=>(Γ.set i (.im r w.1)).set j (.im r' w.2)):=λσ H0 R0 H R Γ v w E h Q q=>by
 obtain ⟨a,v1,v2,rfl,ha,e1,e2⟩:=h
 exact gS (A9 hc (pf (m3 hN hi hx hf) (pf (m3 hN hj hy hf') zB))) ⟨a,_,rfl,dY.of (E.sub _ _ ha),rfl,v1,[v2],rfl,v2,[],rfl,rfl,q _ ((E.set i e1).set j e2)⟩
theorem jt {F:α->β->Prop}:∀{vs:List α} {xs:List β},PySem.Paired F vs xs->∀{i:Nat} {v:α},vs[i]?=some v->∃y,xs[i]?=some y/\F v y
 | _,_,.nil,i,y,h=>by simp at h
 | _,_,.cons h t,0,y,e=>by simp at e;subst e;exact ⟨_,rfl,h⟩
 | _,_,.cons h t,i + 1,y,e=>by
   obtain ⟨v,e1,e2⟩:=jt t (i:=i) (v:=y) (by simpa using e)
   exact ⟨v,by simpa using e1,e2⟩
end
section
variable {X:Cx}{Γ Γ1 Γ2 Γ3:Ga}{α β γ δ:Type}{N:Ga->Prop}{T:RT}
variable {pos:Pos}{x:Str}{p1:Pos}{r:Rep α}{xs:List α}{e:Expr}{kvs:List (Int×V)}{v:V}{y:α}{p2:Pos}
theorem at_of {σ:St}{i:Nat}(e:(σ[i]?).join=some v):σ[i]?=some (some v):=by
 cases es:σ[i]? with
 | none=>rw [es] at e;cases e
 | some o=>rw [es] at e;exact congrArg some e
theorem fq {c:Expr}{body:List Stmt}(I:Nat->Ga->Prop){m0:Nat}(h0:I m0 Γ)
 (hstep:∀(m:Nat) (Γ:Ga),I m Γ->∃(k:Bool) (Γ':Ga),TV X c Γ k Γ'/\(k=true->WS X body Γ' (λΓ''=>∃m',m' < m/\I m' Γ'') T)/\(k=false->N Γ'))
 (hp:PassesOwn (model X.prog X.w) X.A X.env X.xe:=by exact PassesOwn.never):W1 X (.While c body [] pos) Γ N T:=λσ H0 R0 H R E D dn dr=>by
 refine sS (xb hp k9 eI) ?_
 refine ⟨λm σ' H'=>∃R' Γ',aq X.K σ' H0 R0 H' R' Γ'/\ar R R'/\I m Γ',⟨m0,R,Γ,E,ar.refl _,h0⟩,?_⟩
 rintro m σ' H' ⟨R',Γ',E',s',hI⟩
 obtain ⟨k,Γ2,ht,h1,h2⟩:=hstep m Γ' hI
 refine ht σ' H0 R0 H' R' E' _ λH1 R1 E1 s1=>?_
 cases k with
 | true=>
   refine jy ⟨_,λσ2 H2 h=>h,h1 rfl σ' H0 R0 H1 R1 E1 _ (λσ3 H3 R3 Γ3 E3 s3 h3=>?_) dr⟩
   obtain ⟨m',hm,hI'⟩:=h3
   exact ⟨m',hm,R3,Γ3,E3,s'.trans (s1.trans s3),hI'⟩
 | false=>exact iG (dn σ' H1 R1 Γ2 E1 (s'.trans s1) (h2 rfl))
theorem cw (i:Nat){ap cp:Pos}(he:EV X e Γ r y Γ1)(hΓ:Γ[i]?=some (.mu r xs))(hΓ1:Γ1[i]?=some (.mu r xs))(hz:xs.length < sizeLine)(h:N (Γ1.set i (.mu r (xs++[y]))))
 (hN:autoParam (X.N[i]?=some x) Fc.ag) (hv:autoParam (bR X.env.scope x) Fc.bq)
 (hd:autoParam ((x==("__debug__":Str))=false) Fc.av) (hcd:autoParam ((x==("__classdict__":Str))=false) Fc.av)
 (hsw:autoParam (swapsWith (.Call (.Attribute (.Name x p1) "append" ap) [e] [] cp) none pos.line X.env=pure false) Fc.ag)
 (hbase:autoParam (attributeBase (.Name x p1) "append" X.env (eval (.Name x p1) X.env)=eval (.Name x p1) X.env) Fc.ag)
 (hfew:autoParam (((backTo cp (starEach [e] X.env)).all (λx=> !x.1)&&(backToKw cp (keywordEach [] X.env)).all (λx=>x.1.isSome)
  &&decide ([e].length + ([]:List Keyword).length + (if ([]:List Keyword).isEmpty then 0 else 1) < 30))=true) Fc.ag)
 (hline:autoParam ((ap.endLine==cp.line)=true) Fc.ag) (hs:autoParam (starEach [e] X.env=(false,eval e X.env)::starEach [] X.env) Fc.ag):W1 X (.Expr (.Call (.Attribute (.Name x p1) "append" ap) [e] [] cp) pos) Γ N T:=λσ H0 R0 H R E D dn dr=>by
 obtain ⟨a,vs,ea,ha,hR,pp⟩:=E.ent i _ hΓ
 refine sS (d5 (gr PySem.F.plainAttrs_list PySem.F.slot_list_append PySem.F.type_list_append fC (aU hN hv hd hcd) (aD aI bp hs) hbase hfew hline hs rfl) hsw) ?_
 refine ⟨.ref a,at_of ea,.inl ⟨rfl,vs,aL.of ha⟩,he σ H0 R0 H R E _ λv H1 R1 E1 s1 e1=>?_⟩
 obtain ⟨a',vs',ea',ha',hR',pp'⟩:=E1.ent i _ hΓ1
 rw [ea] at ea';cases ea'
 refine ⟨a,vs',v,rfl,rfl,ha',by rw [pp'.length];exact hz,?_⟩
 exact dn σ _ R1 _ (E1.upd (en:=.mu r (xs++[y])) hΓ1 rfl ea hR' ⟨a,_,rfl,az,hR',bP pp' (.cons e1 .nil)⟩) s1 h
theorem gN {F:α->β->Prop}{v:α}{y:β}(h:F v y):∀{vs:List α} {xs:List β} (i:Nat),PySem.Paired F vs xs->PySem.Paired F (vs.set i v) (xs.set i y)
 | _,_,_,.nil=>.nil
 | _,_,0,.cons _ t=>.cons h t
 | _,_,i + 1,.cons q t=>.cons q (gN h i t)
theorem eN (i:Nat){b:Expr}{k:Int}{j:Nat}(he:EV X e Γ r y Γ1)(hb:EV X b Γ1 ae k Γ2)(hΓ1:Γ1[i]?=some (.mu r xs))(hΓ2:Γ2[i]?=some (.mu r xs))(hj:dO xs.length k=some j)(h:N (Γ2.set i (.mu r (xs.set j y))))
 (hN:autoParam (X.N[i]?=some x) Fc.ag) (hv:autoParam (bR X.env.scope x) Fc.bq)
 (hd:autoParam ((x==("__debug__":Str))=false) Fc.av) (hcd:autoParam ((x==("__classdict__":Str))=false) Fc.av)
 (ha:autoParam (∀v,assign (.Subscript (.Name x p1) b p2) X.env v=(do
  let ov ← holding [v] (eval (.Name x p1) X.env)
  let iv ← holding [v,ov] (eval b X.env)
  standAt p2
  holding [v,ov,iv] (setItem ov iv v)
  release [v,ov,iv] [])) Fc.c9)
 (hs:autoParam (swapsWithSole [.Subscript (.Name x p1) b p2] e pos.line X.env=pure false) Fc.ag) (hw:autoParam (swappedStores [.Subscript (.Name x p1) b p2] e X.env=pure none) Fc.ag) (h1:autoParam ((assignEach [.Subscript (.Name x p1) b p2] X.env).map (·.2)=[assign (.Subscript (.Name x p1) b p2) X.env]) Fc.ag):
 W1 X (.Assign [.Subscript (.Name x p1) b p2] e pos) Γ N T:=λσ H0 R0 H R E D dn dr=>by
 refine sS (jM aI (pF (aU hN hv hd hcd) aI set_list ha) hs hw h1) (he σ H0 R0 H R E _ λv H1 R1 E1 s1 e1=>?_)
 obtain ⟨a,vs,ea,hp,hR,pp⟩:=E1.ent i _ hΓ1
 refine ⟨.ref a,at_of ea,hb σ H0 R0 H1 R1 E1 _ λu H2 R2 E2 s2 e2=>?_⟩
 obtain ⟨a',vs',ea',ha',hR',pp'⟩:=E2.ent i _ hΓ2
 rw [ea] at ea';cases ea'
 refine ⟨a,vs',k,j,rfl,e2,ha',by rw [pp'.length];exact hj,?_⟩
 exact dn σ _ R2 _ (E2.upd (en:=.mu r (xs.set j y)) hΓ2 rfl ea hR' ⟨a,_,rfl,az,hR',gN (r.mono s2 e1) j pp'⟩) (s1.trans s2) h
theorem iw {F:α->β->Prop}{vs:List α}{xs:List β}(p:PySem.Paired F vs xs):PySem.Paired F vs.dropLast xs.dropLast:=by
 rw [List.dropLast_eq_take,List.dropLast_eq_take,p.length]
 exact iF _ p
theorem j8 (i:Nat){ap cp:Pos}(hΓ:Γ[i]?=some (.mu r xs))(hy:xs[xs.length - 1]?=some y)
 (hN:autoParam (X.N[i]?=some x) Fc.ag) (hv:autoParam (bR X.env.scope x) Fc.bq)
 (hd:autoParam ((x==("__debug__":Str))=false) Fc.av) (hcd:autoParam ((x==("__classdict__":Str))=false) Fc.av)
 (hbase:autoParam (attributeBase (.Name x p1) "pop" X.env (eval (.Name x p1) X.env)=eval (.Name x p1) X.env) Fc.ag) (hline:autoParam ((ap.endLine==cp.line)=true) Fc.ag):
 EV X (.Call (.Attribute (.Name x p1) "pop" ap) [] [] cp) Γ r y (Γ.set i (.mu r xs.dropLast)):=by
 intro σ H0 R0 H R E Q q
 obtain ⟨a,vs,ea,ha,hR,pp⟩:=E.ent i _ hΓ
 obtain ⟨v,hv',hr⟩:=dt pp hy
 refine eS (tW PySem.F.plainAttrs_list PySem.F.slot_list_pop PySem.F.type_list_pop va (aU hN hv hd hcd) hbase hline) ⟨.ref a,at_of ea,.inl ⟨rfl,vs,aL.of ha⟩,?_⟩
 refine ⟨a,vs,v,rfl,rfl,ha,by rw [pp.length];exact hv',?_⟩
 exact q v _ R (E.upd hΓ rfl ea hR ⟨a,_,rfl,az,hR,iw pp⟩) (ar.refl _) hr
theorem jS (i:Nat)(hΓ:Γ[i]?=some (.mu r xs))(hN:autoParam (X.N[i]?=some x) Fc.ag)(hv:autoParam (bR X.env.scope x) Fc.bq)
 (hd:autoParam ((x==("__debug__":Str))=false) Fc.av) (hcd:autoParam ((x==("__classdict__":Str))=false) Fc.av)
 (he:autoParam (∀whole,isTrue (.Name x pos) X.env whole=(do let v ← whole;standAt (Expr.Name x pos).pos;holding [v] (truthy v))) Fc.c9):TV X (.Name x pos) Γ (!xs.isEmpty) Γ:=by
 intro σ H0 R0 H R E Q q
 obtain ⟨a,vs,ea,ha,hR,pp⟩:=E.ent i _ hΓ
 refine tS (pN (aU hN hv hd hcd) he) ⟨.ref a,at_of ea, !xs.isEmpty,.inl ⟨vs,aL.of ha,?_⟩,q H R E (ar.refl _)⟩
 cases pp<;>rfl
theorem eO (i:Nat){p:Pos}(hm:X.mg "len"=none)(hΓ:Γ[i]?=some (.mu r xs))(hN:autoParam (X.N[i]?=some x) Fc.ag)(hv:autoParam (bR X.env.scope x) Fc.bq)
 (hd:autoParam ((x==("__debug__":Str))=false) Fc.av) (hcd:autoParam ((x==("__classdict__":Str))=false) Fc.av) (hg:autoParam (Gl X "len") Fc.ag):EV X (.Call (.Name "len" p) [.Name x p1] [] pos) Γ ae (xs.length:Int) Γ:=by
 intro σ H0 R0 H R E Q q
 obtain ⟨a,vs,ea,ha,hR,pp⟩:=E.ent i _ hΓ
 refine eS (da eJ hg hm PySem.boot_len (aD (aU hN hv hd hcd) bp rfl) (by decide) (by decide) rfl) ⟨.ref a,at_of ea,a,vs,rfl,.inl (aL.of ha),?_⟩
 rw [pp.length]
 exact q _ H R E (ar.refl _) rfl
theorem freeze {K:PySem.W.Frag}{σ:St}{H0 R0 H R:Hp}(E:aq K σ H0 R0 H R Γ){i:Nat}(hΓ:Γ[i]?=some (.mu r xs))(hz:xs.length<=sizeLine):∃R' v,aq K σ H0 R0 H R' (Γ.set i (.im (af r) xs))/\ar R R'/\(σ[i]?).join=some v/\(af r).R K R' v xs:=by
 obtain ⟨a,vs,ea,ha,hR,pp⟩:=E.ent i _ hΓ
 have h0:H0 a=none:=E.new i _ a hΓ rfl ea
 have s2:ar R (upd R a (.lst vs)):=ar.fresh hR _
 have rr:(af r).R K (upd R a (.lst vs)) (.ref a) xs:=⟨a,vs,rfl,az,Paired.map (λ_ _=>r.mono s2) pp,hz⟩
 have E1:aq K σ H0 R0 H R (Γ.set i .no):=E.tell hΓ trivial λb w=>by cases w
 have E2:=E1.jr ha hR h0 λj e q w=>by
  rcases set_at q with ⟨rfl,rfl,_⟩ | ⟨hj,q1⟩
  ·cases w
  ·exact hj (E.ds j i e _ a q1 hΓ w ((Ent.lQ (e:=.mu r xs) rfl).mpr ea))
 have hl:i < Γ.length:=(List.getElem?_eq_some_iff.mp hΓ).1
 have E3:=E2.tell (i:=i) (e0:=.no) (en:=.im (af r) xs) (List.getElem?_set_self hl) ⟨_,ea,rr⟩ λb w=>by cases w
 rw [List.set_set] at E3
 exact ⟨_,.ref a,E3,s2,ea,rr⟩
theorem WS.freeze (i:Nat){sts:List Stmt}(hΓ:Γ[i]?=some (.mu r xs))(hz:xs.length<=sizeLine)(h:WS X sts (Γ.set i (.im (af r) xs)) N T):WS X sts Γ N T:=λσ H0 R0 H R E D dn dr=>by
 obtain ⟨R',v,E',s',_,_⟩:=Fc.freeze E hΓ hz
 exact h σ H0 R0 H R' E' D (λσ2 H2 R2 Γ2 E2 s2=>dn σ2 H2 R2 Γ2 E2 (s'.trans s2)) dr
theorem mM (i:Nat)(neg:Bool){xs:List Int}{y:Int}(he:EV X e Γ ae y Γ)(hΓ:Γ[i]?=some (.mu ae xs))(hN:autoParam (X.N[i]?=some x) Fc.ag)(hv:autoParam (bR X.env.scope x) Fc.bq)
 (hd:autoParam ((x==("__debug__":Str))=false) Fc.av) (hcd:autoParam ((x==("__classdict__":Str))=false) Fc.av):
 TV X (.Compare e [if neg then .NotIn else .In] [.Name x p1] pos) Γ (if neg then !decide (y∈xs) else decide (y∈xs)) Γ:=by
 intro σ H0 R0 H R E Q q
 have out:∀(v:V) (H1 R1:Hp),aq X.K σ H0 R0 H1 R1 Γ->ar R R1->ae.R X.K R1 v y->∃a,σ[i]?=some (some (.ref a))/\z9 X.K neg v (.ref a) H1 λz H'=>∃k,z= .bl k/\Q k H':=λv H1 R1 E1 s1 e1=>by
  obtain ⟨a,vs,ea,ha,hR,pp⟩:=E1.ent i _ hΓ
  cases e1
  have e2:=eR pp
  subst e2
  refine ⟨a,at_of ea,a,_,rfl,.inl (aL.of ha),rfl,j4 xs,?_⟩
  rw [lH]
  exact ⟨_,rfl,q H1 R1 E1 s1⟩
 cases neg with
 | false=>exact tS (nj uM aI (aU hN hv hd hcd) (by with_unfolding_all rfl)) (he σ H0 R0 H R E _ λv H1 R1 E1 s1 e1=>out v H1 R1 E1 s1 e1 |>.elim λa h=>⟨.ref a,h.1,h.2⟩)
 | true=>exact tS (nj ie aI (aU hN hv hd hcd) (by with_unfolding_all rfl)) (he σ H0 R0 H R E _ λv H1 R1 E1 s1 e1=>out v H1 R1 E1 s1 e1 |>.elim λa h=>⟨.ref a,h.1,h.2⟩)
def mC:Rep (List (Int×V)):=⟨λK H v kvs=>∃a,v= .ref a/\H a=some (.dK (cZ kvs)),λs ⟨a,e,q⟩=>⟨a,e,s _ _ q⟩⟩
def gG (kvs:List (Int×V))(k:Int):Bool:=kvs.any λp=>decide (p.1=k)
theorem ki (kvs:List (Int×V))(k:Int):(cS (cZ kvs) (Sum.inl k:Key)).isSome=gG kvs k:=by
 rw [← fk]
 unfold cZ gG
 rw [List.any_map]
 congr 1
 funext p
 show decide ((Sum.inl p.1:Key)=Sum.inl k)=decide (p.1=k)
 by_cases h:p.1=k
 ·rw [h];simp
 ·rw [decide_eq_false h,decide_eq_false λz=>h (Sum.inl.inj z)]
def sU (X:Cx)(e:Expr)(Γ:Ga)(k:Int):Prop:=∀(σ:St) (H0 R0 H R:Hp),aq X.K σ H0 R0 H R Γ->∀(H':Hp) (Q:VK),Q (.int k) H'->d6 X e σ H' Q
theorem vB {i:Int}{j:Nat}:sU X (.Constant (.int i) j pos) Γ i:=λσ H0 R0 H R E H' Q q=>eS ef q
theorem sT (i:Nat){y:Int}(hΓ:Γ[i]?=some (.im ae y))(hN:autoParam (X.N[i]?=some x) Fc.ag)(hv:autoParam (bR X.env.scope x) Fc.bq)
 (hd:autoParam ((x==("__debug__":Str))=false) Fc.av) (hcd:autoParam ((x==("__classdict__":Str))=false) Fc.av):sU X (.Name x pos) Γ y:=λσ H0 R0 H R E H' Q q=>by
 obtain ⟨v,e,h⟩:=E.ent i _ hΓ
 cases h
 exact eS (aU hN hv hd hcd) ⟨_,at_of e,q⟩
theorem qV (i:Nat){ke ve:Expr}{k:Int}(hk:sU X ke Γ k)(hv:PE X ve (tC v))(h:N (Γ.set i (.di [(k,v)])))
 (hN:autoParam (X.N.Nodup) Fc.fj) (hi:autoParam (X.N[i]?=some x) Fc.ag) (hx:autoParam (Loc X.env.scope x) Fc.fi)
 (hs:autoParam (swapsWith (.Dict [some ke] [ve] p2) (some (.Name x p1)) pos.line X.env=pure false) Fc.ag) (hf:autoParam (X.fn x=true∨X.env.scope.names.lookup x=some .local) Fc.iy):
 W1 X (.Assign [.Name x p1] (.Dict [some ke] [ve] p2) pos) Γ N T:=λσ H0 R0 H R E D dn dr=>by
 refine sS (eY hN hi hx (zd (wM aI hv zu) rfl rfl (by simp) (by simp)) hs hf) λp hp=>?_
 refine hk σ H0 R0 H R E _ _ ?_
 refine ⟨az,[(Sum.inl k,v)],rfl,(by show 1<=15;decide),?_⟩
 have E1:=E.grow (Ext.dW E.sub hp (.dK (cZ [(k,v)])))
 have e:upd (upd H p (.dK [])) p (.dK (i8 [] [(Sum.inl k,v)]))=upd H p (.dK (cZ [(k,v)])):=by
  rw [ze];rfl
 rw [e]
 exact dn _ _ R _ (E1.tI (u:=.dK (cZ [(k,v)])) (en:=.di [(k,v)]) i ⟨p,rfl,az,E.sub.free hp⟩ (E.ext.h.free hp) λj e _ q w=>E.off hp j e q w) (ar.refl _) h
theorem rq (i:Nat)(neg:Bool){k:Int}(hu:X.A.units + 1 < cLine)(he:EV X e Γ ae k Γ)(hΓ:Γ[i]?=some (.di kvs))(hN:autoParam (X.N[i]?=some x) Fc.ag)(hv:autoParam (bR X.env.scope x) Fc.bq)
 (hd:autoParam ((x==("__debug__":Str))=false) Fc.av) (hcd:autoParam ((x==("__classdict__":Str))=false) Fc.av):
 TV X (.Compare e [if neg then .NotIn else .In] [.Name x p1] pos) Γ (if neg then !gG kvs k else gG kvs k) Γ:=by
 intro σ H0 R0 H R E Q q
 cases neg with
 | false=>
   refine tS (oW (Ac hu aI (aU hN hv hd hcd)) (by with_unfolding_all rfl)) (he σ H0 R0 H R E _ λv H1 R1 E1 s1 e1=>?_)
   obtain ⟨a,ea,ha,hR⟩:=E1.ent i _ hΓ
   cases e1
   refine ⟨.ref a,at_of ea,a,_,rfl,ez.k (k:=Sum.inl k) ha,_,rfl,?_⟩
   rw [ki]
   exact q H1 R1 E1 s1
 | true=>
   refine tS (oW (nK hu aI (aU hN hv hd hcd)) (by with_unfolding_all rfl)) (he σ H0 R0 H R E _ λv H1 R1 E1 s1 e1=>?_)
   obtain ⟨a,ea,ha,hR⟩:=E1.ent i _ hΓ
   cases e1
   refine ⟨.ref a,at_of ea,a,_,rfl,ez.k (k:=Sum.inl k) ha,_,rfl,?_⟩
   rw [ki]
   exact q H1 R1 E1 s1
theorem vH (i:Nat){ke ve:Expr}{k:Int}(hu:X.A.units + 1 < cLine)(hk:EV X ke Γ ae k Γ)(hv:PE X ve (tC v))(hΓ:Γ[i]?=some (.di kvs))(hn:gG kvs k=false)(hz:kvs.length < sizeLine)(h:N (Γ.set i (.di (kvs++[(k,v)]))))
 (hN:autoParam (X.N[i]?=some x) Fc.ag) (hvi:autoParam (bR X.env.scope x) Fc.bq)
 (hd:autoParam ((x==("__debug__":Str))=false) Fc.av) (hcd:autoParam ((x==("__classdict__":Str))=false) Fc.av)
 (hs:autoParam (swapsWith ve (some (.Subscript (.Name x p1) ke p2)) pos.line X.env=pure false) Fc.ag):W1 X (.Assign [.Subscript (.Name x p1) ke p2] ve pos) Γ N T:=λσ H0 R0 H R E D dn dr=>by
 refine sS (rj hu (aU hN hvi hd hcd) aI hv hs) ?_
 obtain ⟨a,ea,ha,hR⟩:=E.ent i _ hΓ
 refine ⟨.ref a,at_of ea,hk σ H0 R0 H R E _ λu H1 R1 E1 s1 e1=>?_⟩
 obtain ⟨a',ea',ha',hR'⟩:=E1.ent i _ hΓ
 rw [ea] at ea';cases ea'
 cases e1
 refine ⟨a,_,rfl,m9.k (k:=Sum.inl k) ha' (by unfold cZ;rw [List.length_map];exact hz),?_⟩
 have vn:cS (cZ kvs) (Sum.inl k:Key)=none:=by
  have:=ki kvs k
  rw [hn] at this
  cases q:cS (cZ kvs) (Sum.inl k:Key) with
  | none=>rfl
  | some z=>rw [q] at this;cases this
 rw [vX v vn]
 have e:cZ kvs++[((Sum.inl k:Key),v)]=cZ (kvs++[(k,v)]):=by unfold cZ;rw [List.map_append];rfl
 rw [e]
 exact dn σ _ R1 _ (E1.upd (en:=.di (kvs++[(k,v)])) hΓ rfl ea hR' ⟨a,rfl,az,hR'⟩) s1 h
theorem A5 (i:Nat){P:List (Int×V)->Prop}(hΓ:Γ[i]?=some (.di kvs))(h:P kvs)(hN:autoParam (X.N[i]?=some x) Fc.ag)(hv:autoParam (bR X.env.scope x) Fc.bq)
 (hd:autoParam ((x==("__debug__":Str))=false) Fc.av) (hcd:autoParam ((x==("__classdict__":Str))=false) Fc.av):W1 X (.Return (some (.Name x p1)) pos) Γ N (bE X.K mC P):=λσ H0 R0 H R E D dn dr=>by
 obtain ⟨a,ea,ha,hR⟩:=E.ent i _ hΓ
 have h0:H0 a=none:=E.new i _ a hΓ rfl ea
 refine sS (e7 (aU hN hv hd hcd)) ⟨.ref a,at_of ea,dr _ H (upd R a (.dK (cZ kvs))) ⟨E.ext.h,E.ext.r.trans (ar.fresh hR _),λb o qb=>?_,λb hb=>?_⟩ ⟨kvs,⟨a,rfl,az⟩,h⟩⟩
 ·by_cases hb:b=a
  ·subst hb;rw [az] at qb;cases qb;exact ha
  ·rw [aH hb] at qb;exact E.ext.s b o qb
 ·rw [aH (show b≠a from λe=>hb (by rw [e];exact h0))];exact E.ext.old b hb
theorem rQ {a:Expr}{p:Pos}(hm:X.mg "len"=none)(ha:EV X a Γ mC kvs Γ1)(hs:autoParam (starEach [a] X.env=[(false,eval a X.env)]) Fc.ag)(hg:autoParam (Gl X "len") Fc.ag):EV X (.Call (.Name "len" p) [a] [] pos) Γ ae (kvs.length:Int) Γ1:=by
 intro σ H0 R0 H R E Q q
 refine eS (da uh hg hm PySem.boot_len (aD aI bp hs) (by decide) (by decide) hs) (ha σ H0 R0 H R E _ λv H1 R1 E1 s1 e1=>?_)
 obtain ⟨p,rfl,hp⟩:=e1
 refine ⟨p,_,rfl,E1.sub _ _ hp,?_⟩
 unfold cZ
 rw [List.length_map]
 exact q _ H1 R1 E1 s1 rfl
theorem cI (i:Nat)(hΓ:Γ[i]?=some (.mu r xs))(hz:xs.length<=sizeLine)(hN:autoParam (X.N[i]?=some x) Fc.ag)(hv:autoParam (bR X.env.scope x) Fc.bq)
 (hd:autoParam ((x==("__debug__":Str))=false) Fc.av) (hcd:autoParam ((x==("__classdict__":Str))=false) Fc.av):EV X (.Name x p1) Γ (af r) xs (Γ.set i (.im (af r) xs)):=by
 intro σ H0 R0 H R E Q q
 obtain ⟨R',v,E',s',ev,hr⟩:=Fc.freeze E hΓ hz
 exact eS (aU hN hv hd hcd) ⟨v,at_of ev,q v H R' E' s' hr⟩
end
abbrev cq:=PySem.W.Frag->List Pk->RT->Prop
def aQ (S:cq)(K:PySem.W.Frag):Sp:=λvs H Q _=>∃R ps T,ar R H/\eZ K R vs ps/\S K ps T/\∀v H' R',Ext H R H' R'->T H v H' R'->Q v H'
theorem eZ.length {K:PySem.W.Frag}{R:Hp}:∀{vs:List V} {ps:List Pk},eZ K R vs ps->vs.length=ps.length
 | _,_,.nil=>rfl
 | _,_,.cons _ t=>by rw [List.length_cons,List.length_cons,eZ.length t]
structure aF (P:Program) (w:World) (K:PySem.W.Frag) (mg:Str->Option Value) (base:Heap) (x:Str) (k:Nat) (sp:Sp):Prop where
 ex:∃f fd ps,eV P w K mg base dQ k f fd ps sp/\mg x=some (.ref f)/\PySem.W.keepIn K (.ref f)=true/\Binds K fd ps []
theorem aF.mono {P:Program}{w:World}{K:PySem.W.Frag}{mg:Str->Option Value}{base:Heap}{x:Str}{j k:Nat}{sp:Sp}(c:aF P w K mg base x j sp)(h:j<=k):aF P w K mg base x k sp:=by
 obtain ⟨f,fd,ps,F,a,b,c⟩:=c.ex
 exact ⟨f,fd,ps,F.mono h,a,b,c⟩
section
variable {X:Cx}{Γ Γ1 Γ2 Γ3:Ga}{α β γ δ:Type}{N:Ga->Prop}{T:RT}
variable {S:cq}{x:Str}{e:Expr}{es:List Expr}{p pos:Pos}{ps:List Pk}
theorem eB {k:Nat}{Q:VK}{σ:St}{H0 R0 H R:Hp}(C:aF X.prog X.w X.K X.mg X.base x k (aQ S X.K))(hr:bA k X.A)(ha:HA X (e::es) Γ ps Γ1)(hS:S X.K ps T)(E:aq X.K σ H0 R0 H R Γ)
 (q:∀H1 R1 v H' R',aq X.K σ H0 R0 H1 R1 Γ1->ar R R1->Ext H1 R1 H' R'->T H1 v H' R'->Q v H')
 (hg:Gl X x) (hdb:(x==("__debug__":Str))=false) (he:starEach (e::es) X.env=(false,eval e X.env)::starEach es X.env) (hpl:(backTo pos (starEach es X.env)).any (·.1)=false):d6 X (.Call (.Name x p) (e::es) [] pos) σ H Q:=by
 obtain ⟨f,fd,pn,F,hm,hk,hb⟩:=C.ex
 refine eS (eh F hr hg hm hk hb .nil gL jJ hdb he hpl) (ha σ H0 R0 H R E _ λvs H1 R1 E1 s1 p1=>?_)
 refine ⟨R1,ps,T,E1.sub,by rw [List.append_nil];exact p1,hS,λv H' R' x t=>q H1 R1 v H' R' E1 s1 x t⟩
theorem bt {k:Nat}{r:Rep α}{y:α}(C:aF X.prog X.w X.K X.mg X.base x k (aQ S X.K))(hr:bA k X.A)(ha:HA X (e::es) Γ ps Γ1)(hS:S X.K ps (bE X.K r (· =y)))
 (hg:autoParam (Gl X x) Fc.ag) (hdb:autoParam ((x==("__debug__":Str))=false) Fc.av) (he:autoParam (starEach (e::es) X.env=(false,eval e X.env)::starEach es X.env) Fc.ag) (hpl:autoParam ((backTo pos (starEach es X.env)).any (·.1)=false) Fc.ag):EV X (.Call (.Name x p) (e::es) [] pos) Γ r y Γ1:=λσ H0 R0 H R E Q q=>
 eB C hr ha hS E (λH1 R1 v H' R' E1 s1 xx t=>by
  obtain ⟨z,e1,rfl⟩:=t
  exact q v H' R' (E1.grow xx) (s1.trans xx.r) e1) hg hdb he hpl
theorem d9 {k:Nat}{r:Rep α}{ys:List α}(C:aF X.prog X.w X.K X.mg X.base x k (aQ S X.K))(hr:bA k X.A)(ha:HA X (e::es) Γ ps Γ1)(hS:S X.K ps (i6 X.K r (· =ys)))
 (hg:autoParam (Gl X x) Fc.ag) (hdb:autoParam ((x==("__debug__":Str))=false) Fc.av) (he:autoParam (starEach (e::es) X.env=(false,eval e X.env)::starEach es X.env) Fc.ag) (hpl:autoParam ((backTo pos (starEach es X.env)).any (·.1)=false) Fc.ag):bc X (.Call (.Name x p) (e::es) [] pos) Γ r ys Γ1:=λσ H0 R0 H R E Q q=>
 eB C hr ha hS E (λH1 R1 v H' R' E1 s1 xx t=>by
  obtain ⟨a,vs,zs,rfl,h0,h1,h2,p,z,rfl⟩:=t
  exact q a vs H' R' (E1.grow xx) (s1.trans xx.r) h1 h2 (E1.ext.h.free h0) (E1.off h0) p z) hg hdb he hpl
end
def dB (ps:List Pk)(n:Nat):Ga:=ps.map (λp=>Ent.im p.r p.x)++List.replicate (n - ps.length) .no
theorem eA {K:PySem.W.Frag}{R H:Hp}{vs:List V}{ps:List Pk}{N:List Str}(s:ar R H)(p:eZ K R vs ps)(hl:ps.length<=N.length):aq K (L2.start N vs) H R H R (dB ps N.length):=by
 have noown:∀(i:Nat) (e:Ent) (o:Option V),(dB ps N.length)[i]?=some e->e.fp o=[]:=λi e o q=>by
  unfold dB at q
  rcases List.mem_append.mp (List.mem_of_getElem? q) with z | z
  ·obtain ⟨p,_,rfl⟩:=List.mem_map.mp z;rfl
  ·obtain ⟨_,rfl⟩:=List.mem_replicate.mp z;rfl
 refine ⟨Ext.refl s,λi e q=>?_,λi e a q w=>absurd w (by rw [noown i e _ q];exact List.not_mem_nil),λi j e e' a q _ w=>absurd w (by rw [noown i e _ q];exact List.not_mem_nil),?_⟩
 ·have hp:=p.length
  unfold dB at q
  unfold L2.start
  by_cases hi:i < ps.length
  ·rw [List.getElem?_append_left (by simpa using hi),List.getElem?_map] at q
   rw [List.getElem?_append_left (by simpa [hp] using hi),List.getElem?_map]
   have key:∀{vs:List V} {ps:List Pk},eZ K R vs ps->∀(i:Nat) (p:Pk),ps[i]?=some p->∃v,vs[i]?=some v/\p.r.R K R v p.x:=by
    intro vs ps h
    induction h with
    | nil=>intro i p e;simp at e
    | cons a b ih=>
      intro i p e
      cases i with
      | zero=>simp at e;subst e;exact ⟨_,rfl,a⟩
      | succ i=>simpa using ih i p (by simpa using e)
   cases e1:ps[i]? with
   | none=>rw [e1] at q;cases q
   | some p1=>
     rw [e1] at q
     cases q
     obtain ⟨v,h1,h2⟩:=key p i p1 e1
     rw [h1]
     exact ⟨v,rfl,h2⟩
  ·rw [List.getElem?_append_right (by simpa using hi),List.getElem?_replicate] at q
   split at q
   ·cases q;trivial
   ·cases q
 ·unfold dB L2.start
  rw [List.length_append,List.length_append,List.length_map,List.length_map,List.length_replicate,List.length_replicate,p.length]
section
variable {P:Program}{w:World}{K:PySem.W.Frag}{mg:Str->Option Value}{base:Heap}
theorem bD {S:cq}{x qual:Str}{st:Stmt}{f:Addr}{fd:FuncData}{N ps:List Str}{k:Nat}(F:bH K x qual st f fd)(Sc:aC N ps (ai st))(hm:mg x=some (.ref f))(hb:Binds K fd ps [])(len:∀qs T,S K qs T->qs.length=ps.length)
 (hbody:∀(cdv:Value) (A:Around) (outer:List Env) (s:Shared) (H:Hp) (E:XK) (qs:List Pk) (T:RT),bA k (A.deeper (envOfC qual (ai st) s.heap.objs.size f cdv))->S K qs T->
  WS (cL dQ P w K mg base N qual (ai st) f cdv A outer s H E).c8 (br st) (dB qs N.length) (λ_=>False) T):aF P w K mg base x (k + 1) (aQ S K):=by
 refine ⟨f,fd,ps,?_,hm,F.kp,hb⟩
 refine F.ok Sc (λvs H Q E h=>?_) (λcdv A outer s H vs Q E hr h=>?_)
 ·obtain ⟨R,qs,T,_,p,hS,_⟩:=h
  rw [p.length];exact len qs T hS
 ·obtain ⟨R,qs,T,sR,p,hS,q⟩:=h
  have hl:qs.length<=N.length:=by
   rw [len qs T hS]
   have:=congrArg List.length Sc.pre
   rw [List.length_take] at this
   omega
  exact ⟨_,eI,hbody cdv A outer s H E qs T hr hS (L2.start N vs) H R H R (eA sR p hl) {nx:=λ_ H'=>Q .non H',rt:=Q} (λ_ _ _ _ _ _ f=>f.elim) λv H' R' xx t=>q v H' R' xx t⟩
end
section
variable {X:Cx}{Γ Γ1 Γ2 Γ3:Ga}{α β γ δ:Type}{N:Ga->Prop}{T:RT}
variable {a:Expr}{p pos:Pos}
theorem pT {bs:List Bool}{us:List Value}(r:Vals (bs.map V.bl) us){j:Nat}{v:Value}(h:us.toArray[j]?=some v):v= .bool (bs.getD j true):=by
 induction bs generalizing us j with
 | nil=>cases r;simp at h
 | cons b r' ih=>
   cases r with
   | cons h1 t=>
     cases j with
     | zero=>simp at h;rw [← h];exact h1
     | succ j=>exact ih t (by simpa using h)
theorem all_range (bs:List Bool):((List.range bs.length).all λj=>bs.getD j true)=bs.all id:=by
 rw [Bool.eq_iff_iff,List.all_eq_true,List.all_eq_true]
 constructor
 ·intro h b hb
  obtain ⟨j,hj,rfl⟩:=List.mem_iff_getElem.mp hb
  have:=h j (List.mem_range.mpr hj)
  simpa [List.getD_eq_getElem?_getD,List.getElem?_eq_getElem hj] using this
 ·intro h j hj
  have hj:=List.mem_range.mp hj
  simpa [List.getD_eq_getElem?_getD,List.getElem?_eq_getElem hj] using h _ (List.getElem_mem hj)
theorem any_range (bs:List Bool):((List.range bs.length).any λj=>bs.getD j true)=bs.any id:=by
 rw [Bool.eq_iff_iff,List.any_eq_true,List.any_eq_true]
 constructor
 ·rintro ⟨j,hj,h⟩
  have hj:=List.mem_range.mp hj
  exact ⟨_,List.getElem_mem hj,by simpa [List.getD_eq_getElem?_getD,List.getElem?_eq_getElem hj] using h⟩
 ·rintro ⟨b,hb,h⟩
  obtain ⟨j,hj,rfl⟩:=List.mem_iff_getElem.mp hb
  exact ⟨j,List.mem_range.mpr hj,by simpa [List.getD_eq_getElem?_getD,List.getElem?_eq_getElem hj] using h⟩
theorem wm (hc:X.calm=true):dR X (.builtin "all") (λxs H Q=>∃(p:Addr) (bs:List Bool),xs=[.ref p]/\aL X.K H p (bs.map V.bl)/\Q (.bl (bs.all id)) H):=by
 intro pins s σ H xs us Q I r h
 obtain ⟨p,bs,rfl,hq,q⟩:=h
 obtain ⟨u,rfl,rx⟩:=vals1 r
 cases rx
 obtain ⟨its,r',pl,hz⟩:=I.list hq
 have hne:p≠s.heap.objs.size:=λe=>by obtain ⟨o,ho,_⟩:=pl.isList;exact absurd (Heap.lt_size ho) (by rw [e];exact Nat.lt_irrefl _)
 refine call_all_walk (wpAny_pyIter_list pl.isList ?_)
 refine ⟨s.heap.objs.size,_,[s.heap.objs.size],its.toArray.size,_,_,λj=>bs.getD j true,rfl,Walks.list (A:=X.A.in1) (show X.A.in1.handled=none from I.ok.hd hc) s.heap.objs.size p hne its.toArray,?_,λj v s Q E hv hQ=>?_,λh' tk hk=>?_⟩
 ·refine ⟨⟨_,Heap.get?_push_size _ rfl,rfl,rfl⟩,?_⟩
  obtain ⟨o,ho,c,n,d⟩:=pl.isList
  exact ⟨o,Heap.get?_push_of_some _ ho,c,n,d⟩
 ·rw [pT r' hv];exact wpAny_truthy_bool hQ
 ·have e:its.toArray.size=bs.length:=by rw [List.size_toArray,← r'.length,List.length_map]
  rw [e,all_range]
  exact ⟨.bl _,H,I.kept λb o e=>hk b o (λz=>absurd (Heap.lt_size e) (by rw [List.mem_singleton.mp z];exact Nat.lt_irrefl _)) (Heap.get?_push_of_some _ e),rfl,q⟩
theorem xv (hc:X.calm=true):dR X (.builtin "any") (λxs H Q=>∃(p:Addr) (bs:List Bool),xs=[.ref p]/\aL X.K H p (bs.map V.bl)/\Q (.bl (bs.any id)) H):=by
 intro pins s σ H xs us Q I r h
 obtain ⟨p,bs,rfl,hq,q⟩:=h
 obtain ⟨u,rfl,rx⟩:=vals1 r
 cases rx
 obtain ⟨its,r',pl,hz⟩:=I.list hq
 have hne:p≠s.heap.objs.size:=λe=>by obtain ⟨o,ho,_⟩:=pl.isList;exact absurd (Heap.lt_size ho) (by rw [e];exact Nat.lt_irrefl _)
 refine call_any_walk (wpAny_pyIter_list pl.isList ?_)
 refine ⟨s.heap.objs.size,_,[s.heap.objs.size],its.toArray.size,_,_,λj=>bs.getD j true,rfl,Walks.list (A:=X.A.in1) (show X.A.in1.handled=none from I.ok.hd hc) s.heap.objs.size p hne its.toArray,?_,λj v s Q E hv hQ=>?_,λh' tk hk=>?_⟩
 ·refine ⟨⟨_,Heap.get?_push_size _ rfl,rfl,rfl⟩,?_⟩
  obtain ⟨o,ho,c,n,d⟩:=pl.isList
  exact ⟨o,Heap.get?_push_of_some _ ho,c,n,d⟩
 ·rw [pT r' hv];exact wpAny_truthy_bool hQ
 ·have e:its.toArray.size=bs.length:=by rw [List.size_toArray,← r'.length,List.length_map]
  rw [e,any_range]
  exact ⟨.bl _,H,I.kept λb o e=>hk b o (λz=>absurd (Heap.lt_size e) (by rw [List.mem_singleton.mp z];exact Nat.lt_irrefl _)) (Heap.get?_push_of_some _ e),rfl,q⟩
theorem je {K:PySem.W.Frag}{R:Hp}:∀{vs:List V} {xs:List Bool},PySem.Paired (aR.R K R) vs xs->vs=xs.map V.bl
 | _,_,.nil=>rfl
 | _,_,.cons h t=>by rw [List.map_cons,← je t];exact congrArg (· ::_) h
theorem oC {x:Str}{id:String}{r:List V->Hp->VK->Prop}{ra:Rep α}{rb:Rep β}{y:α}{z:β}(hc:dR X (.builtin id) r)(hm:X.mg x=none)(hv:bootBuiltins x=some (.builtin id))(ha:EV X a Γ ra y Γ1)
 (h:∀(R H:Hp) v Q,ar R H->ra.R X.K R v y->(∀w,rb.R X.K R w z->Q w H)->r [v] H Q) (hs:autoParam (starEach [a] X.env=[(false,eval a X.env)]) Fc.ag) (hg:autoParam (Gl X x) Fc.ag) (hn:autoParam (x≠"__name__") Fc.av) (hdb:autoParam ((x==("__debug__":Str))=false) Fc.av):
 EV X (.Call (.Name x p) [a] [] pos) Γ rb z Γ1:=by
 intro σ H0 R0 H R E Q q
 exact eS (da hc hg hm hv (aD aI bp hs) hn hdb hs) (ha σ H0 R0 H R E _ λv H1 R1 E1 s1 e1=>h R1 H1 v _ E1.sub e1 λw hw=>q w H1 R1 E1 s1 hw)
theorem gu {bs:List Bool}(hm:X.mg "all"=none)(ha:EV X a Γ (af aR) bs Γ1)(hs:autoParam (starEach [a] X.env=[(false,eval a X.env)]) Fc.ag)(hc:autoParam (X.calm=true) Fc.ag)(hg:autoParam (Gl X "all") Fc.ag):EV X (.Call (.Name "all" p) [a] [] pos) Γ aR (bs.all id) Γ1:=
 oC (wm hc) hm boot_all ha (λR H v Q s ⟨p,vs,e,hp,pp,_⟩ q=>⟨p,bs,by rw [e],by rw [← je pp];exact aL.of (s _ _ hp),q _ rfl⟩) hs hg
theorem BQ {bs:List Bool}(hm:X.mg "any"=none)(ha:EV X a Γ (af aR) bs Γ1)(hs:autoParam (starEach [a] X.env=[(false,eval a X.env)]) Fc.ag)(hc:autoParam (X.calm=true) Fc.ag)(hg:autoParam (Gl X "any") Fc.ag):EV X (.Call (.Name "any" p) [a] [] pos) Γ aR (bs.any id) Γ1:=
 oC (xv hc) hm boot_any ha (λR H v Q s ⟨p,vs,e,hp,pp,_⟩ q=>⟨p,bs,by rw [e],by rw [← je pp];exact aL.of (s _ _ hp),q _ rfl⟩) hs hg
theorem dX {b:Bool}(hm:X.mg "int"=none)(ha:EV X a Γ aR b Γ1)(hs:autoParam (starEach [a] X.env=[(false,eval a X.env)]) Fc.ag)(hg:autoParam (Gl X "int") Fc.ag):EV X (.Call (.Name "int" p) [a] [] pos) Γ ae (if b then 1 else 0) Γ1:=by
 intro σ H0 R0 H R E Q q
 exact eS (kr vG hg hm PyProof.Rows.boot_int (aD aI bp hs) (by decide) (by decide) hs) (ha σ H0 R0 H R E _ λv H1 R1 E1 s1 e1=>.inr ⟨b,by rw [show v=V.bl b from e1],q _ H1 R1 E1 s1 rfl⟩)
theorem hU {r:Rep α}{xs:List α}(hm:X.mg "list"=none)(ha:EV X a Γ (af r) xs Γ1)(hs:autoParam (starEach [a] X.env=[(false,eval a X.env)]) Fc.ag)(hg:autoParam (Gl X "list") Fc.ag):bc X (.Call (.Name "list" p) [a] [] pos) Γ r xs Γ1:=by
 intro σ H0 R0 H R E Q q
 refine eS (kr o9 hg hm PyProof.Rows.boot_list (aD aI bp hs) (by decide) (by decide) hs) (ha σ H0 R0 H R E _ λv H1 R1 E1 s1 e1=>?_)
 obtain ⟨p,vs,rfl,hp,pp,z⟩:=e1
 exact ⟨p,vs,rfl,.inl (aL.of (E1.sub _ _ hp)),λl hl=>q l vs _ R1 (E1.grow (Ext.dW E1.sub hl _)) s1 az (E1.sub.free hl) (E1.ext.h.free hl) (E1.off hl) pp z⟩
theorem ua (hc:X.calm=true):dR X (.builtin "min") (λxs H Q=>∃(p:Addr) (ns:List Int),xs=[.ref p]/\aL X.K H p (ns.map V.int)/\ns≠[]/\∀M,M∈ns->(∀a∈ns,M<=a)->Q (.int M) H):=by
 intro pins s σ H xs us Q I r h
 obtain ⟨p,ns,rfl,hq,hne,q⟩:=h
 obtain ⟨u,rfl,rx⟩:=vals1 r
 cases rx
 obtain ⟨its,r',pl,hz⟩:=I.list hq
 have hi:=intsAre_of r'
 have hne:0 < ns.length:=List.length_pos_iff.mpr hne
 have hl:=pl.isList
 obtain ⟨xs,e⟩:=hi.allInts.items
 have hns:ns=xs.toList.map (·.1):=by rw [← hi.numsOf,← nums_intItems,← e]
 have hsz:0 < xs.size:=by
  have h3:=hne;rw [hns,List.length_map,Array.length_toList] at h3;exact h3
 rw [e] at hl
 refine min_intList (I.ok.hd hc) hl hsz λv h' tk hv hk=>?_
 obtain ⟨t,rfl⟩:=intItems_at hv
 obtain ⟨h1,h2⟩:=argBest_lt (numAt xs) (xs.size - 1)
 refine ⟨.int _,H,I.kept hk,⟨t,rfl⟩,q _ ?_ λa ha=>?_⟩
 ·rw [hns,numAt_eq];exact getD_mem (by rw [List.length_map,Array.length_toList];omega)
 ·rw [hns] at ha
  obtain ⟨j,hj,rfl⟩:=mem_getD ha
  rw [List.length_map,Array.length_toList] at hj
  rw [← numAt_eq];exact h2 j (by omega)
def least:List Int->Int
 | []=>0
 | [x]=>x
 | x::y::r=>min x (least (y::r))
theorem w9:∀{ns:List Int} {M:Int},M∈ns->(∀a∈ns,M<=a)->least ns=M:=by
 have key:∀(ns:List Int),ns≠[]->least ns∈ns/\∀a∈ns,least ns<=a:=by
  intro ns
  induction ns with
  | nil=>intro h;exact absurd rfl h
  | cons x r ih=>
    intro _
    cases r with
    | nil=>simp [least]
    | cons y r=>
      obtain ⟨h1,h2⟩:=ih (by simp)
      show min x (least (y::r))∈_/\_
      refine ⟨?_,λa ha=>?_⟩
      ·rcases Int.le_total x (least (y::r)) with h | h
       ·rw [Int.min_eq_left h];exact List.mem_cons_self
       ·rw [Int.min_eq_right h];exact List.mem_cons_of_mem _ h1
      ·show min x (least (y::r))<=a
       rcases List.mem_cons.mp ha with rfl | ha
       ·exact Int.min_le_left _ _
       ·exact Int.le_trans (Int.min_le_right _ _) (h2 a ha)
 intro ns M h1 h2
 obtain ⟨h3,h4⟩:=key ns (λe=>by rw [e] at h1;cases h1)
 exact Int.le_antisymm (h4 M h1) (h2 _ h3)
theorem m4 {ns:List Int}(hm:X.mg "min"=none)(ha:EV X a Γ (af ae) ns Γ1)(hne:ns≠[])(hs:autoParam (starEach [a] X.env=[(false,eval a X.env)]) Fc.ag)(hc:autoParam (X.calm=true) Fc.ag)(hg:autoParam (Gl X "min") Fc.ag):EV X (.Call (.Name "min" p) [a] [] pos) Γ ae (least ns) Γ1:=
 oC (ua hc) hm PyProof.Rows.boot_min ha (λR H v Q s ⟨p,vs,e,hp,pp,_⟩ q=>⟨p,ns,by rw [e],by rw [← eR pp];exact aL.of (s _ _ hp),hne,λM h1 h2=>by rw [← w9 h1 h2];exact q _ rfl⟩) hs hg
theorem yH {b:Expr}{x y:Int}(hm:X.mg "min"=none)(ha:HA X [a,b] Γ [⟨ae,x⟩,⟨ae,y⟩] Γ1)(hs:autoParam (starEach [a,b] X.env=(false,eval a X.env)::starEach [b] X.env) Fc.ag)(hc:autoParam (X.calm=true) Fc.ag)(hg:autoParam (Gl X "min") Fc.ag)(hpl:autoParam ((backTo pos (starEach [b] X.env)).any (·.1)=false) Fc.ag):EV X (.Call (.Name "min" p) [a,b] [] pos) Γ ae (if y < x then y else x) Γ1:=by
 intro σ H0 R0 H R E Q q
 refine eS (da (vp hc) hg hm PyProof.Rows.boot_min jJ (by decide) (by decide) hs hpl) (ha σ H0 R0 H R E _ λvs H1 R1 E1 s1 p1=>?_)
 cases p1 with
 | cons a1 t=>cases t with
   | cons a2 t2=>cases t2;cases a1;cases a2;exact ⟨x,y,rfl,q _ H1 R1 E1 s1 rfl⟩
end
def Src (K:PySem.W.Frag)(J:It)(R1:Hp){α:Type}(r:Rep α)(xs:List α):Prop:=
 ∀(H' R':Hp),ar R1 R'->ar R' H'->∀i:Nat,(∀x,xs[i]?=some x->J.go i H'/\∀v H2,J.yld i H' v H2->∃R2,Ext H' R' H2 R2/\r.R K R2 v x)/\(xs.length<=i->J.stop i H')
section
variable {X:Cx}{Γ Γ1 Γ2 Γ3:Ga}{α β γ δ:Type}{N:Ga->Prop}{T:RT}
variable {tg:Expr}{xs:List α}{iter:Expr}{bf:α->Ga->Ga}{pos:Pos}{elt:Expr}{ifs:List Expr}{scope:Scope}{cl:List (Str×Addr)}{fr:List Str}{ix:List Nat}{ra:Rep α}{rb:Rep β}{p:α->Bool}{f:α->β}
def IV (X:Cx)(tg iter:Expr)(Γ:Ga){α:Type}(r:Rep α)(xs:List α)(Γ1:Ga):Prop:=
 ∃wi,PI X tg iter wi/\∀(σ:St) (H0 R0 H R:Hp),aq X.K σ H0 R0 H R Γ->∀Rq:It->Hp->Prop,(∀J H1 R1,aq X.K σ H0 R0 H1 R1 Γ1->ar R R1->xs.length<=sizeLine->Src X.K J R1 r xs->Rq J H1)->wi σ H Rq
theorem bj {r:Rep α}(h:EV X iter Γ (af r) xs Γ1):IV X tg iter Γ r xs Γ1:=by
 refine ⟨_,kH aI,λσ H0 R0 H R E Rq q=>h σ H0 R0 H R E _ λv H1 R1 E1 s1 e1=>?_⟩
 obtain ⟨a,vs,rfl,ha,pp,z⟩:=e1
 refine ⟨a,rfl,⟨vs,aL.of (E1.sub _ _ ha)⟩,q _ H1 R1 E1 s1 z λH' R' sR sH i=>⟨λx hx=>?_,λhi=>?_⟩⟩
 ·have hq:aL X.K H' a vs:=aL.of (sH _ _ (sR _ _ ha))
  obtain ⟨v,hv,hr⟩:=dt pp hx
  refine ⟨⟨vs,v,hq,hv⟩,λv' H2 hy=>?_⟩
  obtain ⟨rfl,hy⟩:=hy
  have:=hy vs hq
  rw [hv] at this
  cases this
  exact ⟨R',Ext.refl sH,r.mono sR hr⟩
 ·exact ⟨vs,aL.of (sH _ _ (sR _ _ ha)),by rw [pp.length];exact hi⟩
def ups (lo:Int)(n:Nat):List Int:=(List.range n).map λ(k:Nat)=>lo + (k:Int)
theorem au (lo:Int)(n:Nat):(ups lo n).length=n:=by unfold ups;rw [List.length_map,List.length_range]
theorem gz {lo:Int}{n i:Nat}{x:Int}(h:(ups lo n)[i]?=some x):i < n/\x=lo + (i:Int):=by
 have hi:i < n:=by have:=(List.getElem?_eq_some_iff.mp h).1;rwa [au] at this
 refine ⟨hi,?_⟩
 unfold ups at h
 rw [List.getElem?_map,List.getElem?_range hi] at h
 exact (Option.some.inj h).symm
theorem rS {K:PySem.W.Frag}{R1:Hp}(lo:Int)(n:Nat):Src K (uL lo n) R1 ae (ups lo n):=λH' R' sR sH i=>⟨λx hx=>by
 obtain ⟨h1,rfl⟩:=gz hx
 refine ⟨h1,λv H2 hy=>?_⟩
 obtain ⟨rfl,rfl⟩:=hy
 exact ⟨R',Ext.refl sH,rfl⟩,λhi=>by rw [au] at hi;exact hi⟩
theorem bB {a:Expr}{p1 p2:Pos}{n:Int}(hm:X.mg "range"=none)(ha:EV X a Γ ae n Γ1)(hn: -(2 ^ 62)<=n/\n<=1000000)(hs1:autoParam (starEach [a] X.env=[(false,eval a X.env)]) Fc.ag)(hg:autoParam (Gl X "range") Fc.ag):IV X tg (.Call (.Name "range" p1) [a] [] p2) Γ ae (ups 0 n.toNat) Γ1:=by
 refine ⟨_,ud hg hm (aD aI bp hs1) hs1,λσ H0 R0 H R E Rq q=>ha σ H0 R0 H R E _ λv H1 R1 E1 s1 e1=>?_⟩
 exact ⟨n,by rw [show v=V.int n from e1],hn.1,by omega,q _ H1 R1 E1 s1 (by rw [au];exact Nat.le_trans (show n.toNat<=1000000 by omega) (by decide)) (rS 0 n.toNat)⟩
theorem iC {a b:Expr}{p1 p2:Pos}{m n:Int}(hm:X.mg "range"=none)(ha:EV X a Γ ae m Γ1)(hb:EV X b Γ1 ae n Γ2)(hn: -1000000<=m/\m<=1000000/\ -1000000<=n/\n<=1000000)
 (hs1:autoParam (starEach [a,b] X.env=[(false,eval a X.env),(false,eval b X.env)]) Fc.ag) (hs2:autoParam (starEach [b] X.env=[(false,eval b X.env)]) Fc.ag) (hg:autoParam (Gl X "range") Fc.ag):IV X tg (.Call (.Name "range" p1) [a,b] [] p2) Γ ae (ups m (n - m).toNat) Γ2:=by
 refine ⟨_,vg hg hm (aD aI (aD aI bp hs2) (by rw [hs1,hs2])) hs1 hs2,λσ H0 R0 H R E Rq q=>ha σ H0 R0 H R E _ λv H1 R1 E1 s1 e1=>hb σ H0 R0 H1 R1 E1 _ λu H2 R2 E2 s2 e2=>?_⟩
 exact ⟨m,n,by rw [show v=V.int m from e1,show u=V.int n from e2],⟨by omega,by omega,by omega,by omega⟩,q _ H2 R2 E2 (s1.trans s2) (by rw [au];exact Nat.le_trans (show (n - m).toNat<=2000000 by omega) (by decide)) (rS m (n - m).toNat)⟩
theorem bS {body:List Stmt}{r:Rep α}(I:Nat->Ga->Prop)(hit:IV X tg iter Γ r xs Γ1)(hb:BG X tg r bf)(h0:I 0 Γ1)
 (hstep:∀(i:Nat) (x:α) (Γ:Ga),xs[i]?=some x->I i Γ->WS X body (bf x Γ) (I (i + 1)) T) (hend:∀Γ:Ga,I xs.length Γ->N Γ)
 (hc:autoParam (X.calm=true) Fc.ag) (hp:PassesOwn (model X.prog X.w) X.A X.env X.xe:=by exact PassesOwn.never) (hs:autoParam (∀x,foldedSetIterable iter X.env x=pure x) Fc.c9):W1 X (.For tg iter body [] pos) Γ N T:=λσ H0 R0 H R E D dn dr=>by
 obtain ⟨wi,hi,hit⟩:=hit
 refine sS (mQ hp hc hi rh eI hs) (hit σ H0 R0 H R E _ λJ H1 R1 E1 s1 hz src=>?_)
 refine ⟨λi m σ' H'=>m=xs.length - i/\i<=xs.length/\∃R' Γ',aq X.K σ' H0 R0 H' R' Γ'/\ar R1 R'/\I i Γ',⟨_,rfl,Nat.zero_le _,R1,Γ1,E1,ar.refl _,h0⟩,?_⟩
 rintro i m σ' H' ⟨rfl,hle,R',Γ',E',s',hI⟩
 obtain ⟨sgo,sstop⟩:=src H' R' s' E'.sub i
 by_cases hlt:i < xs.length
 ·obtain ⟨go,yl⟩:=sgo _ (List.getElem?_eq_getElem hlt)
  refine .inr ⟨go,λσ' H'=>i + 1<=xs.length/\∃R' Γ',aq X.K σ' H0 R0 H' R' Γ'/\ar R1 R'/\I (i + 1) Γ',λσ2 H2 h=>⟨xs.length - (i + 1),by omega,rfl,h.1,h.2⟩,λv H2 hy=>?_⟩
  obtain ⟨R2,x2,hr⟩:=yl v H2 hy
  refine hb σ' H0 R0 H2 R2 Γ' v _ (E'.grow x2) hr _ λσ2 E2=>?_
  exact hstep i _ Γ' (List.getElem?_eq_getElem hlt) hI σ2 H0 R0 H2 R2 E2 _ (λσ3 H3 R3 Γ3 E3 s3 h3=>⟨hlt,R3,Γ3,E3,s'.trans (x2.r.trans s3),h3⟩) dr
 ·have e:i=xs.length:=by omega
  subst e
  exact .inl ⟨sstop (Nat.le_refl _),dn σ' H' R' Γ' E' (s1.trans s') (hend Γ' hI)⟩
def tE:Option Ent->Ent
 | some (.im r x)=>.im r x
 | _=>.no
def cu (own:List Str)(ix:List Nat)(Γ:Ga):Ga:=List.replicate own.length .no++ix.map λi=>tE Γ[i]?
theorem lJ {K:PySem.W.Frag}{σ:St}{H0 R0 H R:Hp}(E:aq K σ H0 R0 H R Γ)(own:List Str)(ix:List Nat):aq K (eM own ix σ) H R H R (cu own ix Γ):=by
 have noown:∀(i:Nat) (e:Ent) (o:Option V),(cu own ix Γ)[i]?=some e->e.fp o=[]:=λi e o q=>by
  unfold cu at q
  rcases List.mem_append.mp (List.mem_of_getElem? q) with z | z
  ·obtain ⟨_,rfl⟩:=List.mem_replicate.mp z;rfl
  ·obtain ⟨k,_,rfl⟩:=List.mem_map.mp z
   unfold tE
   split<;>rfl
 refine ⟨Ext.refl E.sub,λi e q=>?_,λi e a q w=>absurd w (by rw [noown i e _ q];exact List.not_mem_nil),λi j e e' a q _ w=>absurd w (by rw [noown i e _ q];exact List.not_mem_nil),by unfold cu eM;simp⟩
 unfold cu at q
 unfold eM
 by_cases hi:i < own.length
 ·rw [List.getElem?_append_left (by simpa using hi),List.getElem?_replicate] at q
  rw [if_pos hi] at q
  cases q;trivial
 ·rw [List.getElem?_append_right (by simpa using hi),List.length_replicate,List.getElem?_map] at q
  rw [List.getElem?_append_right (by simpa using hi),List.length_replicate,List.getElem?_map]
  cases ek:ix[i - own.length]? with
  | none=>rw [ek] at q;cases q
  | some k=>
    rw [ek] at q
    have q':tE Γ[k]?=e:=Option.some.inj q
    subst q'
    show (tE Γ[k]?).ok K H R (σ[k]?).join
    cases eg:Γ[k]? with
    | none=>trivial
    | some e=>
      cases e with
      | im r x=>exact E.ent k _ eg
      | no=>trivial
      | mu r x=>trivial
      | di x=>trivial
      | ob x=>trivial
theorem kf {own:List Str}{J:It}{σ:St}{H0 R0 H1 R1:Hp}{Q:VK}(E1:aq X.K σ H0 R0 H1 R1 Γ1)(src:Src X.K J R1 ra xs)(hz:xs.length<=sizeLine)
 (hb:∀(C:Addr) (s:Shared) (H:Hp) (ex:List Addr),BG (aK X scope cl C (own++fr) s H ex) tg ra bf) (hw:∀x,Wk (bf x (cu own ix Γ1)) (cu own ix Γ1))
 (ht:∀(C:Addr) (s:Shared) (H:Hp) (ex:List Addr) x,x∈xs->TF (aK X scope cl C (own++fr) s H ex) ifs (bf x (cu own ix Γ1)) (p x) (bf x (cu own ix Γ1)))
 (he:∀(C:Addr) (s:Shared) (H:Hp) (ex:List Addr) x,x∈xs->p x=true->EV (aK X scope cl C (own++fr) s H ex) elt (bf x (cu own ix Γ1)) rb (f x) (bf x (cu own ix Γ1)))
 (q:∀a vs H' R',Ext H1 R1 H' R'->H' a=none->PySem.Paired (rb.R X.K R') vs ((xs.filter p).map f)->Q (.ref a) (upd H' a (.lst vs))):
 ∃W:Nat->Nat->List V->St->Hp->Prop,(∃m,W 0 m [] (eM own ix σ) H1)/\∀i m ys σ' H',W i m ys σ' H'->
  ys.length<=sizeLine/\((J.stop i H'/\∀p,H' p=none->Q (.ref p) (upd H' p (.lst ys)))∨
  (J.go i H'/\∀x H2,J.yld i H' x H2->(λv σ H Q=>∀C s Hh ex,ic (aK X scope cl C (own++fr) s Hh ex) tg v σ H Q:TG) x σ' H2 λσ2 H3=>(λσ H Q=>∀C s Hh ex,iK (aK X scope cl C (own++fr) s Hh ex) ifs σ H Q:TT) σ2 H3 λb H4=>
    if b=true then (λσ H Q=>∀C s Hh ex,d6 (aK X scope cl C (own++fr) s Hh ex) elt σ H Q:TE) σ2 H4 λv H5=>∃m',m' < m/\W (i + 1) m' (ys++[v]) σ2 H5 else∃m',m' < m/\W (i + 1) m' ys σ2 H4)):=by
 refine ⟨λi m ys σ' H'=>m=xs.length - i/\i<=xs.length/\∃R',aq X.K σ' H1 R1 H' R' (cu own ix Γ1)/\PySem.Paired (rb.R X.K R') ys (((xs.take i).filter p).map f),⟨_,rfl,Nat.zero_le _,R1,lJ E1 own ix,.nil⟩,?_⟩
 rintro i m ys σ' H' ⟨rfl,hle,R',E',pp⟩
 have hys:ys.length<=sizeLine:=by
  rw [pp.length,List.length_map]
  refine Nat.le_trans (List.length_filter_le _ _) (Nat.le_trans ?_ hz)
  rw [List.length_take];omega
 obtain ⟨sgo,sstop⟩:=src H' R' E'.ext.r E'.sub i
 refine ⟨hys,?_⟩
 by_cases hlt:i < xs.length
 ·obtain ⟨go,yl⟩:=sgo _ (List.getElem?_eq_getElem hlt)
  have hmem:xs[i]∈xs:=List.getElem_mem hlt
  have tk:(xs.take (i + 1))=xs.take i++[xs[i]]:=by rw [List.take_succ,List.getElem?_eq_getElem hlt];rfl
  refine .inr ⟨go,λv H2 hy C s Hh ex=>?_⟩
  obtain ⟨R2,x2,hr⟩:=yl v H2 hy
  refine hb C s Hh ex σ' H1 R1 H2 R2 _ v _ (E'.grow x2) hr _ λσ2 E2=>?_
  intro C s Hh ex
  refine ht C s Hh ex _ hmem σ2 H1 R1 H2 R2 E2 _ λH4 R4 E4 s4=>?_
  cases hpx:p xs[i] with
  | false=>
    rw [if_neg Bool.false_ne_true]
    refine ⟨xs.length - (i + 1),by omega,rfl,hlt,R4,E4.weak (hw _),?_⟩
    rw [tk,List.filter_append,List.filter_cons,hpx,if_neg Bool.false_ne_true,List.filter_nil,List.append_nil]
    exact Paired.map (λ_ _=>rb.mono (x2.r.trans s4)) pp
  | true=>
    rw [if_pos rfl]
    intro C s Hh ex
    refine he C s Hh ex _ hmem hpx σ2 H1 R1 H4 R4 E4 _ λw H5 R5 E5 s5 e5=>?_
    refine ⟨xs.length - (i + 1),by omega,rfl,hlt,R5,E5.weak (hw _),?_⟩
    rw [tk,List.filter_append,List.filter_cons,hpx,if_pos rfl,List.filter_nil,List.map_append]
    exact bP (Paired.map (λ_ _=>rb.mono (x2.r.trans (s4.trans s5))) pp) (.cons e5 .nil)
 ·have e:i=xs.length:=by omega
  subst e
  rw [List.take_length] at pp
  exact .inl ⟨sstop (Nat.le_refl _),λa ha=>q a ys H' R' E'.ext ha pp⟩
theorem bN {own:List Str}
 (S:dq X scope cl own fr ix) (hit:IV X tg iter Γ ra xs Γ1)
 (hb:∀(C:Addr) (s:Shared) (H:Hp) (ex:List Addr),BG (aK X scope cl C (own++fr) s H ex) tg ra bf) (hw:∀x,Wk (bf x (cu own ix Γ1)) (cu own ix Γ1))
 (ht:∀(C:Addr) (s:Shared) (H:Hp) (ex:List Addr) x,x∈xs->TF (aK X scope cl C (own++fr) s H ex) ifs (bf x (cu own ix Γ1)) (p x) (bf x (cu own ix Γ1)))
 (he:∀(C:Addr) (s:Shared) (H:Hp) (ex:List Addr) x,x∈xs->p x=true->EV (aK X scope cl C (own++fr) s H ex) elt (bf x (cu own ix Γ1)) rb (f x) (bf x (cu own ix Γ1)))
 (hc:autoParam (X.calm=true) Fc.ag) (hs:autoParam (∀x,foldedSetIterable iter X.env x=pure x) Fc.c9):bc X (.ListComp elt [⟨tg,iter,ifs,0⟩] scope pos) Γ rb ((xs.filter p).map f) Γ1:=by
 intro σ H0 R0 H R E Q q
 obtain ⟨wi,hi,hit⟩:=hit
 refine eS (rG (g:=λv σ H Q=>∀C s Hh ex,ic (aK X scope cl C (own++fr) s Hh ex) tg v σ H Q) (tc:=λσ H Q=>∀C s Hh ex,iK (aK X scope cl C (own++fr) s Hh ex) ifs σ H Q) (te:=λσ H Q=>∀C s Hh ex,d6 (aK X scope cl C (own++fr) s Hh ex) elt σ H Q) hc S hi
  (λC s H ex=>⟨λpins s1 σ H v u Q I r h=>h C s _ ex pins s1 u I r,λpins s1 σ H Q I h=>h C s _ ex pins s1 I,λpins s1 σ H Q I h=>h C s _ ex pins s1 I⟩) hs) ?_
 refine hit σ H0 R0 H R E _ λJ H1 R1 E1 s1 hz src=>kf E1 src hz hb hw ht he λa vs H' R' xx ha pp=>?_
 have E2:=E1.grow xx
 exact q a vs _ R' (E2.grow (Ext.dW E2.sub ha _)) (s1.trans xx.r) az (E2.sub.free ha) (E2.ext.h.free ha) (E2.off ha) pp (by
  rw [List.length_map];exact Nat.le_trans (List.length_filter_le _ _) hz)
theorem fI (i:Nat){y:Str}{py spos:Pos}{own:List Str}
 (S:dq X scope cl own fr ix) (hit:IV X tg iter Γ ra xs Γ1)
 (hb:∀(C:Addr) (s:Shared) (H:Hp) (ex:List Addr),BG (aK X scope cl C (own++fr) s H ex) tg ra bf) (hw:∀x,Wk (bf x (cu own ix Γ1)) (cu own ix Γ1))
 (ht:∀(C:Addr) (s:Shared) (H:Hp) (ex:List Addr) x,x∈xs->TF (aK X scope cl C (own++fr) s H ex) ifs (bf x (cu own ix Γ1)) (p x) (bf x (cu own ix Γ1)))
 (he:∀(C:Addr) (s:Shared) (H:Hp) (ex:List Addr) x,x∈xs->p x=true->EV (aK X scope cl C (own++fr) s H ex) elt (bf x (cu own ix Γ1)) rb (f x) (bf x (cu own ix Γ1)))
 (h:N (Γ1.set i (.mu rb ((xs.filter p).map f))))
 (hsw:autoParam (swapsWith (.ListComp elt [⟨tg,iter,ifs,0⟩] scope pos) (some (.Name y py)) spos.line X.env=pure true) Fc.ag)
 (hN:autoParam (X.N.Nodup) Fc.fj) (hi':X.N[i]?=some y:=by rfl) (hx:autoParam (Loc X.env.scope y) Fc.fi)
 (hc:autoParam (X.calm=true) Fc.ag) (hs:autoParam (∀x,foldedSetIterable iter X.env x=pure x) Fc.c9) (hf:autoParam (X.fn y=true∨X.env.scope.names.lookup y=some .local) Fc.iy):
 W1 X (.Assign [.Name y py] (.ListComp elt [⟨tg,iter,ifs,0⟩] scope pos) spos) Γ N T:=λσ H0 R0 H R E D dn dr=>by
 obtain ⟨wi,hi,hit⟩:=hit
 refine sS (jw (i:=i) (g:=λv σ H Q=>∀C s Hh ex,ic (aK X scope cl C (own++fr) s Hh ex) tg v σ H Q) (tc:=λσ H Q=>∀C s Hh ex,iK (aK X scope cl C (own++fr) s Hh ex) ifs σ H Q) (te:=λσ H Q=>∀C s Hh ex,d6 (aK X scope cl C (own++fr) s Hh ex) elt σ H Q) hsw hN hi' hx hc S hi
  (λC s H ex=>⟨λpins s1 σ H v u Q I r h=>h C s _ ex pins s1 u I r,λpins s1 σ H Q I h=>h C s _ ex pins s1 I,λpins s1 σ H Q I h=>h C s _ ex pins s1 I⟩) hs hf) ?_
 refine hit σ H0 R0 H R E _ λJ H1 R1 E1 s1 hz src=>kf (Q:=λv H'=>D.nx (σ.set i (some v)) H') E1 src hz hb hw ht he λa vs H' R' xx ha pp=>?_
 have E2:=E1.grow xx
 exact dn _ _ R' _ ((E2.grow (Ext.dW E2.sub ha _)).tI (u:=.lst vs) (en:=.mu rb ((xs.filter p).map f)) i ⟨a,vs,rfl,az,E2.sub.free ha,pp⟩ (E2.ext.h.free ha) λj e _ q w=>E2.off ha j e q w) (s1.trans xx.r) h
end
section
variable {X:Cx}{Γ Γ1 Γ2 Γ3:Ga}{α β γ δ:Type}{N:Ga->Prop}{T:RT}
variable {r:Rep α}{xs:List α}{pins:List (Addr×Obj)}{σ:St}{H:Hp}{s:Shared}{K:PySem.W.Frag}{n:Nat}{a:Addr}{A:Around}{R:Hp}{ys:List α}{es:List Expr}{tp p pos:Pos}{b:Addr}
theorem kx {h':Heap}{t':Nat}{fp:List Addr}(I:Inv X pins σ H s)(k:∀b o,b∉fp->s.heap.get? b=some o->h'.get? b=some o)(hf:∀b∈fp,iH X pins H b):Inv X pins σ H {s with heap:=h',toks:=t'}:=by
 have nit:∀b u,H b=some u->b∉fp:=λb u e z=>by rw [(hf b z).1] at e;cases e
 refine I.step (g':=s.gens) (d':=s.drawn) (ch:=fp) (λb hb=>⟨(hf b hb).2.2.2.1,(hf b hb).2.1,(hf b hb).2.2.2.2.1,(hf b hb).2.2.2.2.2⟩) (λb o _ _ hc e _=>k b o hc e) (λb o _ _ hc e _=>⟨o.slots,k b o hc e⟩) (λ_ _ _ _ n=>n)
  (λb o hc e=>⟨o,k b o hc e⟩) (λ_ _ e=>e) (λ_ _ _ e=>e) (λb ps e=>⟨#[],by rw [e];simp⟩) (λm hm=>?_) (λb u e=>?_) I.bare
 ·obtain ⟨o,es,ep,ho,r⟩:=hm
  exact ⟨o,es,ep,k _ o (λz=>(hf _ z).2.1 rfl) ho,r⟩
 ·refine (I.hok b u e).stay (λc v hc q=>k c v ?_ q) (λ_ q=>q) λ_ _ q=>q
  rcases hc with z | z
  ·rw [z];exact nit b u e
  ·exact nit c _ z
theorem adopt {o:HO}(I:Inv X pins σ H s)(hf:iH X pins H a)(hy:X.s₀.heap.objs.size<=a)(new:bT X.prog X.w (upd H a o) s.heap a o):Inv X pins σ (upd H a o) s:=by
 have ne:∀{b:Addr} {u:HO},H b=some u->b≠a:=λe=>cK e hf.1
 have ne0:∀{b:Addr} {u:Obj},X.s₀.heap.get? b=some u->b≠a:=λe z=>absurd (Nat.lt_of_lt_of_le (Heap.lt_size e) hy) (by rw [z];exact Nat.lt_irrefl _)
 refine ⟨I.ok,I.os,I.bare,⟨I.base.keep,I.base.slot,λb u e n hx=>by rw [aH (ne0 e)];exact I.base.free b u e n hx,I.base.there,λb xs e=>?_,λb u v e=>?_,λb ps e=>?_⟩,I.loc,I.cell,?_,λx c e=>?_,λp hp=>?_,λb u e=>?_,I.len⟩
 ·have q:=I.base.tups b xs e;rw [aH (ne q)];exact q
 ·have q:=I.base.frzs b u v e;rw [aH (ne q)];exact q
 ·obtain ⟨m,q⟩:=I.base.tbls b ps e;exact ⟨m,by rw [aH (ne q)];exact q⟩
 ·rw [aH (Ne.symm hf.2.1)];exact I.free
 ·rw [aH (hf.2.2.2.2.1 x c e)];exact I.freeC x c e
 ·obtain ⟨e,n,r⟩:=I.pin p hp
  exact ⟨e,by rw [aH (hf.2.2.2.2.2 p hp)];exact n,r⟩
 ·by_cases hb:b=a
  ·subst hb;rw [az] at e;cases e;exact new
  ·rw [aH hb] at e
   exact (I.hok b u e).stay (λc v _ q=>q) (λc q=>by rw [aH (ne q)];exact q) λc xs q=>by rw [aH (ne q)];exact q
def EX (K:PySem.W.Frag)(a:Addr):It:=
 ⟨λi H=>∃xs x,aL K H a xs/\xs[i]?=some x,λi H v H'=>∃p x,H p=none/\v= .ref p/\H'=upd H p (.tup [.int i,x])/\∀xs,aL K H a xs->xs[i]?=some x,λi H=>∃xs,aL K H a xs/\xs.length<=i⟩
theorem uj {P:Program}{w:World}{k:Nat}(a e it:Addr)(hei:e≠it):Turn P w K (.Tuple es k tp) (EX K a) [e,it] e (λi h=>(∃old,IsEnum h e it i old)/\h.IsListIter it a i) where
 mem:=by simp
 obj:=λi h st b hb=>by
  obtain ⟨⟨old,he⟩,o,ho,hc,hd⟩:=st
  rcases List.mem_cons.mp hb with rfl | hb
  ·exact ⟨_,he,λv z=>by cases z⟩
  ·have e2:b=it:=by simpa using hb
   subst e2
   exact ⟨o,ho,λv z=>by rw [hd] at z;cases z⟩
 keep:=λi h h' st kk=>⟨st.1.elim λold he=>⟨old,kk e (by simp) _ he⟩,st.2.at λo x=>kk it (by simp) o x⟩
 item:=by
  intro X hP hw hK hc i pins s σ H E I hf st hg
  subst hP hw hK
  obtain ⟨⟨old,he⟩,hit⟩:=st
  obtain ⟨xs,x,hq,hx⟩:=hg
  obtain ⟨its,r,pl,hz⟩:=I.list hq
  obtain ⟨u,hu,rx⟩:=r.get hx
  have hn:H s.heap.objs.size=none:=I.hok.fresh (Nat.le_refl _)
  refine wpAny_pyNext_enum_item he hit pl.isList (x:=u) (by simpa using hu) hei λh' ho hit' hT hsz hk=>?_
  refine ⟨_,rfl,?_⟩
  refine wpAny_letOwnedTupleGo_enum (s:={s with heap:=h',toks:=s.toks + 1}) ho λh2 he2 hs2=>?_
  have hk2:∀b o,b∉[e,it]->s.heap.get? b=some o->h2.get? b=some o:=λb o hb q=>by
   have hbe:b≠e:=λz=>hb (by simp [z])
   exact hs2.extBut b o hbe (hk b o hbe (λz=>hb (by simp [z])) q)
  have I1:Inv X pins σ H {s with heap:=h2,toks:=s.toks + 1}:=kx I hk2 hf
  have hel:e≠s.heap.objs.size:=Nat.ne_of_lt (Heap.lt_size he)
  have hT2:h2.get? s.heap.objs.size=some {cls:=.type "tuple",data:=.seq #[.int i s.toks,u]}:=(hs2.2 _ (Ne.symm hel)).trans hT
  have I2:Inv X pins σ (upd H s.heap.objs.size (.tup [.int i,x])) {s with heap:=h2,toks:=s.toks + 1}:=
   adopt I1 (I.j5 (Nat.le_refl _) hn) (I.sz) ⟨by show 2<=sizeLine;decide,[.int i s.toks,u],.cons ⟨_,rfl⟩ (.cons rx .nil),⟨_,hT2,rfl,_,rfl⟩⟩
  refine ⟨.ref s.heap.objs.size,_,I2,rfl,⟨s.heap.objs.size,x,hn,rfl,rfl,λys hy=>?_⟩,⟨⟨u,by simpa using he2⟩,hit'.at λo y=>(hs2.2 it (Ne.symm hei)).trans y⟩,λb hb=>?_⟩
  ·rw [I.js hy hq];exact hx
  ·have hlt:b < s.heap.objs.size:=by
    rcases List.mem_cons.mp hb with rfl | hb
    ·exact Heap.lt_size he
    ·have e2:b=it:=by simpa using hb
     subst e2
     obtain ⟨o,ho,_⟩:=hit
     exact Heap.lt_size ho
   rw [aH (Nat.ne_of_lt hlt)]
   exact (hf b hb).1
 done:=by
  intro X hP hw hK hc i pins s σ H E I hf st hg
  subst hP hw hK
  obtain ⟨⟨old,he⟩,hit⟩:=st
  obtain ⟨xs,hq,hx⟩:=hg
  obtain ⟨its,r,pl,hz⟩:=I.list hq
  refine wpAny_pyNext_enum_end (I.ok.hd hc) he hit pl.isList (by have:=r.length;simp;omega) λh' hk=>⟨rfl,?_⟩
  exact kx (t':=s.toks) I (λb o hb q=>hk b o (λz=>hb (by simp [z])) q) hf
 self:=λ_ _ _ _ _ st h=>st.1.elim λold he=>wpAny_pyIter_enum he h
def Dz (K:PySem.W.Frag)(ta:TA):TI:=λσ H R=>ta σ H λvs H1=>∃a xs,vs=[.ref a]/\aL K H1 a xs/\R (EX K a) H1
theorem yD {a:Expr}{ta:TA}{k:Nat}(hg:Gl X "enumerate")(hm:X.mg "enumerate"=none)(ha:PA X [a] ta)(hs:autoParam (starEach [a] X.env=[(false,eval a X.env)]) Fc.ag):PI X (.Tuple es k tp) (.Call (.Name "enumerate" p) [a] [] pos) (Dz X.K ta):=by
 intro pins s σ H R I h
 refine Call_ (fN I hg hm boot_enumerate (PyProof.Rows.callWith_type1 (aO (ha pos pins s σ H _ I h) λus s1 ⟨vs,H1,I1,r1,q1⟩=>?_) hs rfl))
 obtain ⟨l,xs,e,hq,q⟩:=q1
 subst e
 cases r1 with
 | cons r rr=>
   cases rr
   cases r
   obtain ⟨its,r',pl,hz⟩:=I1.list hq
   refine call_enumerate_list pl.isList λh' he hit hsz hk=>?_
   refine wpAny_pyIter_enum he ?_
   have I2:Inv X pins σ H1 {s1 with heap:=h'}:=I1.kept (t':=s1.toks) hk
   have f0:H1 s1.heap.objs.size=none:=I1.hok.fresh (Nat.le_refl _)
   have f1:H1 (s1.heap.objs.size + 1)=none:=I1.hok.fresh (Nat.le_succ _)
   refine ⟨s1.heap.objs.size + 1,[s1.heap.objs.size + 1,s1.heap.objs.size],_,_,H1,rfl,I2,uj l (s1.heap.objs.size + 1) s1.heap.objs.size (Nat.ne_of_gt (Nat.lt_succ_self _)),⟨⟨.none,he⟩,hit⟩,λb hb=>?_,q⟩
   rcases List.mem_cons.mp hb with rfl | hb
   ·exact I1.j5 (Nat.le_succ _) f1
   ·have e2:b=s1.heap.objs.size:=by simpa using hb
    subst e2
    exact I1.j5 (Nat.le_refl _) f0
def nums (xs:List α):List (Int×α):=(xs.zipIdx).map λp=>((p.2:Int),p.1)
theorem gq (xs:List α):(nums xs).length=xs.length:=by unfold nums;rw [List.length_map,List.length_zipIdx]
theorem iY {i:Nat}{y:Int×α}(h:(nums xs)[i]?=some y):y.1=(i:Int)/\xs[i]?=some y.2:=by
 unfold nums at h
 rw [List.getElem?_map,List.getElem?_zipIdx] at h
 cases e:xs[i]? with
 | none=>rw [e] at h;cases h
 | some x=>rw [e] at h;cases h;exact ⟨by simp,rfl⟩
theorem kC {a:Expr}{k:Nat}(hm:X.mg "enumerate"=none)(ha:EV X a Γ (af r) xs Γ1)(hs:autoParam (starEach [a] X.env=[(false,eval a X.env)]) Fc.ag)(hg:autoParam (Gl X "enumerate") Fc.ag):
 IV X (.Tuple es k tp) (.Call (.Name "enumerate" p) [a] [] pos) Γ (ay ae r) (nums xs) Γ1:=by
 refine ⟨_,yD hg hm (aD aI bp hs) hs,λσ H0 R0 H R E Rq q=>ha σ H0 R0 H R E _ λv H1 R1 E1 s1 e1=>?_⟩
 obtain ⟨a,vs,rfl,hp,pp,z⟩:=e1
 refine ⟨a,vs,rfl,aL.of (E1.sub _ _ hp),q _ H1 R1 E1 s1 (by rw [gq];exact z) λH' R' sR sH i=>⟨λy hy=>?_,λhi=>?_⟩⟩
 ·have hq:aL X.K H' a vs:=aL.of (sH _ _ (sR _ _ hp))
  obtain ⟨e1,e2⟩:=iY hy
  obtain ⟨v,hv,hr⟩:=dt pp e2
  refine ⟨⟨vs,v,hq,hv⟩,λv' H2 hyl=>?_⟩
  obtain ⟨p,x,hpn,rfl,rfl,hy⟩:=hyl
  have:=hy vs hq
  rw [hv] at this
  cases this
  have s2:ar R' (upd R' p (.tup [.int i,v])):=ar.fresh (sH.free hpn) _
  exact ⟨upd R' p (.tup [.int i,v]),Ext.fresh sH hpn _,p,_,_,rfl,az,by rw [e1];rfl,r.mono s2 (r.mono sR hr)⟩
 ·exact ⟨vs,aL.of (sH _ _ (sR _ _ hp)),by rw [pp.length,← gq xs];exact hi⟩
theorem qB:dR X (.builtin "isinstance") (λxs H Q=>∃x c t b,xs=[x,.ty c]/\d7 X.K H x t/\PySem.W.kitOne X.K t (.type c)=some b/\Q (.bl b) H):=by
 intro pins s σ H xs us Q I r h
 obtain ⟨x,c,t,b,rfl,ty,e,q⟩:=h
 obtain ⟨u,u2,rfl,r1,r2⟩:=vals2 r
 cases (show u2=Value.type c from r2)
 exact u4 I r1 ty e λtk=>⟨.bl b,H,I.tok tk,rfl,q⟩
theorem dM {e:Expr}{y:Str}{p2:Pos}{x:α}{c:String}{t:Value}{b:Bool}(hm:X.mg "isinstance"=none)(hmy:X.mg y=none)(hvy:bootBuiltins y=some (.type c))(he:EV X e Γ r x Γ1)
 (ty:∀(R H:Hp) v,ar R H->r.R X.K R v x->d7 X.K H v t) (ht:∀K:PySem.W.Frag,PySem.W.kitOne K t (.type c)=some b:=by intro;rfl)
 (hs:autoParam (starEach [e,.Name y p2] X.env=(false,eval e X.env)::starEach [.Name y p2] X.env) Fc.ag) (hg:autoParam (Gl X "isinstance") Fc.ag) (hgy:autoParam (Gl X y) Fc.ag) (hny:autoParam (y≠"__name__") Fc.av) (hdy:autoParam ((y==("__debug__":Str))=false) Fc.av):EV X (.Call (.Name "isinstance" p) [e,.Name y p2] [] pos) Γ aR b Γ1:=by
 intro σ H0 R0 H R E Q q
 refine eS (da qB hg hm PyProof.Rows.boot_isinstance (aD aI (aD (rn (v:=.ty c) hgy hmy hvy rfl hny hdy) bp rfl) hs) (by decide) (by decide) hs rfl) (he σ H0 R0 H R E _ λv H1 R1 E1 s1 e1=>?_)
 exact ⟨v,c,t,b,rfl,ty R1 H1 v E1.sub e1,ht _,q _ H1 R1 E1 s1 rfl⟩
theorem ty_int {x:Int}(R H:Hp)(v:V)(_:ar R H)(h:ae.R K R v x):d7 K H v (.type "int"):=by cases h;exact .int _
theorem ty_bool {x:Bool}(R H:Hp)(v:V)(_:ar R H)(h:aR.R K R v x):d7 K H v (.type "bool"):=by cases h;exact .bl _
theorem ty_list (R H:Hp)(v:V)(s:ar R H)(h:(af r).R K R v xs):d7 K H v (.type "list"):=by obtain ⟨a,vs,rfl,e,_⟩:=h;exact .lst (s _ _ e)
theorem zH {r':Rep β}{x:α×β}(R H:Hp)(v:V)(s:ar R H)(h:(ay r r').R K R v x):d7 K H v (.type "tuple"):=by obtain ⟨a,_,_,rfl,e,_⟩:=h;exact .tup (s _ _ e)
theorem Ay {x:Row}(R H:Hp)(v:V)(s:ar R H)(h:aB.R K R v x):d7 K H v (.type "tuple"):=by obtain ⟨a,rfl,e⟩:=h;exact .tup (s _ _ e)
structure c7 (r:Rep α) [DecidableEq α] (n:Nat):Prop where
 inj:∀{K:PySem.W.Frag} {R:Hp} {v:V} {x y:α},r.R K R v x->r.R K R v y->x=y
 eq:∀{X:Cx} {pins:List (Addr×Obj)} {σ:St} {H:Hp} {s:Shared} {R:Hp} {A:Around} (I:Inv X pins σ H s) (sub:ar R H) {v u:V} {vv uu:Value} {x y:α},RelV v vv->RelV u uu->r.R X.K R v x->r.R X.K R u y->A.units + n < cLine->SeqAt.EqAt A s vv uu (decide (x=y))
theorem eq_int:c7 ae 0:=by
 refine ⟨by rintro K R v x y h1 h2;cases h1;cases h2;rfl,?_⟩
 intro X pins σ H s R A I sub v u vv uu x y rv ru h1 h2 hu
 cases h1
 cases h2
 obtain ⟨t,rfl⟩:=rv
 obtain ⟨t',rfl⟩:=ru
 intro prog w E Q hq
 refine wpAny_eqBool_int ?_
 rw [Bool.beq_eq_decide_eq];exact hq
theorem in1_units (A:Around):A.in1.units=A.units + 1:=rfl
theorem nG [DecidableEq α](e:c7 r n){X:Cx}(I:Inv X pins σ H s)(sub:ar R H)(hu:A.units + n < cLine):
 ∀{vs ws:List V} {us us':List Value} {xs ys:List α},Vals vs us->Vals ws us'->PySem.Paired (r.R X.K R) vs xs->PySem.Paired (r.R X.K R) ws ys->∀(j:Nat) (h1:j < us.toArray.size) (h2:j < us'.toArray.size),SeqAt.EqAt A s us.toArray[j] us'.toArray[j] (decide (xs[j]?=ys[j]?)):=by
 intro vs ws us us' xs ys hv hw px py j h1 h2
 have h1':j < us.length:=by simpa using h1
 have h2':j < us'.length:=by simpa using h2
 have l1:j < vs.length:=by rw [hv.length];exact h1'
 have l2:j < ws.length:=by rw [hw.length];exact h2'
 obtain ⟨u,e1,r1⟩:=hv.get (List.getElem?_eq_getElem l1)
 obtain ⟨u',e2,r2⟩:=hw.get (List.getElem?_eq_getElem l2)
 obtain ⟨x,e3,q1⟩:=jt px (List.getElem?_eq_getElem l1)
 obtain ⟨y,e4,q2⟩:=jt py (List.getElem?_eq_getElem l2)
 rw [List.getElem?_eq_getElem h1'] at e1
 rw [List.getElem?_eq_getElem h2'] at e2
 have e1:=Option.some.inj e1
 have e2:=Option.some.inj e2
 have key:=e.eq (A:=A) I sub r1 r2 q1 q2 hu
 have d:decide (xs[j]?=ys[j]?)=decide (x=y):=by rw [e3,e4];simp
 rw [d]
 simp only [List.getElem_toArray]
 rw [e1,e2]
 exact key
theorem all_eq [DecidableEq α](h:xs.length=ys.length):((List.range xs.length).all λj=>decide (xs[j]?=ys[j]?))=decide (xs=ys):=by
 rw [Bool.eq_iff_iff,List.all_eq_true]
 simp only [List.mem_range,decide_eq_true_eq]
 constructor
 ·intro hh
  refine List.ext_getElem? λi=>?_
  by_cases hi:i < xs.length
  ·exact hh i hi
  ·have a1:xs[i]?=none:=List.getElem?_eq_none (by omega)
   have a2:ys[i]?=none:=List.getElem?_eq_none (by omega)
   rw [a1,a2]
 ·rintro rfl j _;rfl
theorem ma {F:α->β->Prop}(inj:∀v x y,F v x->F v y->x=y):∀{vs:List α} {xs ys:List β},PySem.Paired F vs xs->PySem.Paired F vs ys->xs=ys
 | _,_,_,.nil,.nil=>rfl
 | _,_,_,.cons h t,.cons h' t'=>by rw [inj _ _ _ h h',ma inj t t']
theorem ni [DecidableEq α](e:c7 r n){X:Cx}(I:Inv X pins σ H s)(sub:ar R H){vs ws:List V}(ha:R a=some (.lst vs))(hb:R b=some (.lst ws))(px:PySem.Paired (r.R X.K R) vs xs)(py:PySem.Paired (r.R X.K R) ws ys)(hu:A.units + (n + 1) < cLine):
 SeqAt.RcAt A s (.ref a) (.ref b) (decide (xs=ys))/\SeqAt.RcNeAt A s (.ref a) (.ref b) (!decide (xs=ys)):=by
 obtain ⟨us,hv,pl,_⟩:=I.list (aL.of (sub _ _ ha))
 obtain ⟨us',hw,pl',_⟩:=I.list (aL.of (sub _ _ hb))
 have lx:us.toArray.size=xs.length:=by rw [List.size_toArray,← hv.length,px.length]
 have ly:us'.toArray.size=ys.length:=by rw [List.size_toArray,← hw.length,py.length]
 by_cases hl:xs.length=ys.length
 ·have he:=nG (A:=A.in1) e I sub (by rw [in1_units];omega) hv hw px py
  have r1:=SeqAt.RcAt.lists pl.isList pl'.isList (lx.trans (hl.trans ly.symm)) (by omega) he
  have r2:=SeqAt.RcNeAt.lists pl.isList pl'.isList (lx.trans (hl.trans ly.symm)) (by omega) he
  rw [lx,all_eq hl] at r1 r2
  exact ⟨r1,r2⟩
 ·have hne:(us.toArray.size != us'.toArray.size)=true:=by rw [lx,ly];simpa using hl
  have d:decide (xs=ys)=false:=decide_eq_false λz=>hl (by rw [z])
  rw [d]
  exact ⟨SeqAt.RcAt.lists_lengths pl.isList pl'.isList hne (by omega),SeqAt.RcNeAt.lists_lengths pl.isList pl'.isList hne (by omega)⟩
theorem eq_list [DecidableEq α](e:c7 r n):c7 (af r) (n + 1):=by
 have inj:∀{K:PySem.W.Frag} {R:Hp} {v:V} {x y:List α},(af r).R K R v x->(af r).R K R v y->x=y:=by
  rintro K R v x y ⟨a,vs,rfl,h,p,_⟩ ⟨a',vs',e1,h',p',_⟩
  cases e1
  rw [h] at h'
  cases h'
  exact ma (F:=r.R K R) (λ_ _ _ h1 h2=>e.inj h1 h2) p p'
 refine ⟨inj,?_⟩
 intro X pins σ H s R A I sub v u vv uu x y rv ru h1 h2 hu
 have h1':=h1
 have h2':=h2
 obtain ⟨a,vs,rfl,ha,px,_⟩:=h1
 obtain ⟨b,ws,rfl,hb,py,_⟩:=h2
 cases rv
 cases ru
 by_cases hab:a=b
 ·subst hab
  rw [decide_eq_true (inj h1' h2')]
  exact SeqAt.EqAt.same _
 ·exact SeqAt.EqAt.of_refs hab (ni e I sub ha hb px py hu).1
theorem qt {X:Cx}(I:Inv X pins σ H s)(sub:ar R H){vs ws:List V}{k:Nat->Bool}(ha:R a=some (.tup vs))(hb:R b=some (.tup ws))(hl:vs.length=ws.length)(hu:A.units < cLine)
 (he:∀(us us':List Value),Vals vs us->Vals ws us'->∀(j:Nat) (h1:j < us.toArray.size) (h2:j < us'.toArray.size),SeqAt.EqAt A.in1 s us.toArray[j] us'.toArray[j] (k j)):
 SeqAt.RcAt A s (.ref a) (.ref b) ((List.range vs.length).all k)/\SeqAt.RcNeAt A s (.ref a) (.ref b) (!(List.range vs.length).all k):=by
 obtain ⟨us,hv,pl,_⟩:=I.tuple (dY.of (sub _ _ ha))
 obtain ⟨us',hw,pl',_⟩:=I.tuple (dY.of (sub _ _ hb))
 have lx:us.toArray.size=vs.length:=by rw [List.size_toArray,← hv.length]
 have ly:us'.toArray.size=vs.length:=by rw [List.size_toArray,← hw.length,hl]
 have r1:=SeqAt.RcAt.tuples (A:=A) pl pl' hu (he us us' hv hw)
 have r2:=SeqAt.RcNeAt.tuples (A:=A) pl pl' hu (he us us' hv hw)
 rw [lx,ly,Nat.min_self] at r1 r2
 simp only [beq_self_eq_true,Bool.and_true] at r1 r2
 exact ⟨r1,r2⟩
theorem Au {X:Cx}(I:Inv X pins σ H s)(sub:ar R H){x y:Row}(ha:R a=some (.tup [.int x.1,.int x.2.1,.int x.2.2.1,.int x.2.2.2]))(hb:R b=some (.tup [.int y.1,.int y.2.1,.int y.2.2.1,.int y.2.2.2]))(hu:A.units + 1 < cLine):
 SeqAt.RcAt A s (.ref a) (.ref b) (decide (x=y)):=by
 have aints:∀ys:List Int,PySem.Paired (ae.R X.K R) (ys.map V.int) ys:=λys=>by
  induction ys with
  | nil=>exact .nil
  | cons y r ih=>exact .cons rfl ih
 have r1:=(qt (A:=A) I sub ha hb rfl (by omega) λus us' hv hw=>nG (A:=A.in1) eq_int I sub (by rw [in1_units];omega) hv hw (aints [x.1,x.2.1,x.2.2.1,x.2.2.2]) (aints [y.1,y.2.1,y.2.2.1,y.2.2.2])).1
 have e1:=all_eq (xs:=[x.1,x.2.1,x.2.2.1,x.2.2.2]) (ys:=[y.1,y.2.1,y.2.2.1,y.2.2.2]) rfl
 have e2:decide ([x.1,x.2.1,x.2.2.1,x.2.2.2]=[y.1,y.2.1,y.2.2.1,y.2.2.2])=decide (x=y):=by
  obtain ⟨a1,a2,a3,a4⟩:=x
  obtain ⟨b1,b2,b3,b4⟩:=y
  simp
 rw [e2] at e1
 rw [← e1]
 exact r1
theorem zQ:c7 aB 1:=by
 have inj:∀{K:PySem.W.Frag} {R:Hp} {v:V} {x y:Row},aB.R K R v x->aB.R K R v y->x=y:=by
  rintro K R v x y ⟨a,rfl,h⟩ ⟨a',e1,h'⟩
  cases e1
  rw [h] at h'
  obtain ⟨a1,a2,a3,a4⟩:=x
  obtain ⟨b1,b2,b3,b4⟩:=y
  simp at h'
  simp [h']
 refine ⟨inj,?_⟩
 intro X pins σ H s R A I sub v u vv uu x y rv ru h1 h2 hu
 have h1':=h1
 have h2':=h2
 obtain ⟨a,rfl,ha⟩:=h1
 obtain ⟨b,rfl,hb⟩:=h2
 cases rv
 cases ru
 by_cases hab:a=b
 ·subst hab
  rw [decide_eq_true (inj h1' h2')]
  exact SeqAt.EqAt.same _
 ·exact SeqAt.EqAt.of_refs hab (Au I sub ha hb hu)
theorem yx [DecidableEq α](e:c7 r n)(hu:X.A.units + (n + 1) < cLine):fP X .Eq (af r) (af r) xs ys (decide (xs=ys)):=
 ⟨λv u H Q=>∃R,ar R H/\∃xs ys,(af r).R X.K R v xs/\(af r).R X.K R u ys/\Q (.bl (decide (xs=ys))) H,λpins s σ H x y v u Q I rx ry ⟨R,sub,xs,ys,h1,h2,q⟩=>by
  obtain ⟨a,vs,rfl,ha,px,_⟩:=h1
  obtain ⟨b,ws,rfl,hb,py,_⟩:=h2
  cases rx
  cases ry
  exact (ni (A:=X.A) e I sub ha hb px py hu).1 _ _ _ _ ⟨.bl _,H,I,rfl,q⟩,λR H v u Q s h1 h2 q=>⟨R,s,xs,ys,h1,h2,q⟩⟩
theorem tL [DecidableEq α](e:c7 r n)(hu:X.A.units + (n + 1) < cLine):fP X .NotEq (af r) (af r) xs ys (!decide (xs=ys)):=
 ⟨λv u H Q=>∃R,ar R H/\∃xs ys,(af r).R X.K R v xs/\(af r).R X.K R u ys/\Q (.bl (!decide (xs=ys))) H,λpins s σ H x y v u Q I rx ry ⟨R,sub,xs,ys,h1,h2,q⟩=>by
  obtain ⟨a,vs,rfl,ha,px,_⟩:=h1
  obtain ⟨b,ws,rfl,hb,py,_⟩:=h2
  cases rx
  cases ry
  exact (ni (A:=X.A) e I sub ha hb px py hu).2 _ _ _ _ ⟨.bl _,H,I,rfl,q⟩,λR H v u Q s h1 h2 q=>⟨R,s,xs,ys,h1,h2,q⟩⟩
theorem DV {r':Rep β} [DecidableEq α] [DecidableEq β]{m:Nat}(e:c7 r n)(e':c7 r' m)(hu:X.A.units + (n + 1) < cLine)(hu':X.A.units + (m + 1) < cLine){x y:α×β}:fP X .NotEq (ay r r') (ay r r') x y (!decide (x=y)):=
 ⟨λv u H Q=>∃R,ar R H/\(ay r r').R X.K R v x/\(ay r r').R X.K R u y/\Q (.bl (!decide (x=y))) H,λpins s σ H v1 u1 v u Q I rx ry ⟨R,sub,h1,h2,q⟩=>by
  obtain ⟨a,v1,v2,rfl,ha,p1,p2⟩:=h1
  obtain ⟨b,w1,w2,rfl,hb,q1,q2⟩:=h2
  cases rx
  cases ry
  have key:=(qt (A:=X.A) (k:=λj=>if j=0 then decide (x.1=y.1) else decide (x.2=y.2)) I sub ha hb rfl (by omega) λus us' hv hw j h1 h2=>by
   cases hv with
   | cons a1 t=>cases t with
     | cons a2 t=>cases t;cases hw with
       | cons b1 t=>cases t with
         | cons b2 t=>
           cases t
           match j,h1 with
           | 0,_=>exact e.eq (A:=X.A.in1) I sub a1 b1 p1 q1 (by rw [in1_units];omega)
           | 1,_=>exact e'.eq (A:=X.A.in1) I sub a2 b2 p2 q2 (by rw [in1_units];omega)
           | j + 2,h=>exact absurd h (by simp)).2
  have d:(List.range [v1,v2].length).all (λj=>if j=0 then decide (x.1=y.1) else decide (x.2=y.2))=decide (x=y):=by
   obtain ⟨x1,x2⟩:=x
   obtain ⟨y1,y2⟩:=y
   simp [List.range_succ,Bool.eq_iff_iff]
  rw [d] at key
  exact key _ _ _ _ ⟨.bl _,H,I,rfl,q⟩,λR H v u Q s h1 h2 q=>⟨R,s,h1,h2,q⟩⟩
end
def nr (scope:Scope)(env:Env):List (Str×Addr):=(scope.names.filterMap λp=>if p.2== .free then (env.cells.lookup p.1).map (λc=>(p.1,c)) else none).reverse
theorem mG {env:Env}:∀(names:List (Str×NameKind)) (acc:List (Str×Addr)),(∀y∈names,y.2= .free->∃c,env.cells.lookup y.1=some c)->
 (forIn names acc λ(x:Str×NameKind) (r:List (Str×Addr))=>if (x.2==NameKind.free)=true then do let a ← cellOf env x.1;pure (ForInStep.yield ((x.1,a)::r)) else pure (ForInStep.yield r):Sem (List (Str×Addr)))
  =pure ((names.filterMap λp=>if p.2== .free then (env.cells.lookup p.1).map (λc=>(p.1,c)) else none).reverse++acc)
 | [],acc,_=>rfl
 | (n,k)::r,acc,h=>by
   have ih:=mG (env:=env) r
   rw [List.forIn_cons,List.filterMap_cons]
   cases hk:(k==NameKind.free) with
   | false=>
     simp only [hk,Bool.false_eq_true,if_false]
     rw [pure_bind]
     exact ih acc λy hy=>h y (List.mem_cons_of_mem _ hy)
   | true=>
     obtain ⟨c,hc⟩:=h (n,k) List.mem_cons_self (eq_of_beq hk)
     have hcell:cellOf env n=pure c:=by unfold cellOf;rw [hc]
     simp only [hk,if_true,hc,Option.map_some,hcell]
     rw [pure_bind,pure_bind]
     show forIn r ((n,c)::acc) _=_
     rw [ih ((n,c)::acc) λy hy=>h y (List.mem_cons_of_mem _ hy)]
     simp
theorem tJ {X:Cx}{scope:Scope}{own fr:List Str}{ix:List Nat}(hk:scope.kind= .function)(hn:∀y∈scope.names,y.2≠ .cell)(hl:∀y∈scope.names,y.2= .local->scope.names.lookup y.1=some .local)
 (hc:∀x,X.env.scope.names.lookup x=some .cell->∃c,X.env.cells.lookup x=some c) (hf:∀y∈scope.names,y.2= .free->X.env.scope.names.lookup y.1=some .cell)
 (hfr:∀x∈fr,scope.names.lookup x=some .free) (hlen:fr.length=ix.length) (hat:∀(k i:Nat) (x:Str),ix[k]?=some i->fr[k]?=some x->X.N[i]?=some x):dq X scope (nr scope X.env) own fr ix:=by
 have free:∀y∈scope.names,y.2= .free->∃c,X.env.cells.lookup y.1=some c:=λy hy e=>hc _ (hf y hy e)
 refine ⟨?_,λx c e=>?_,hk,hn,hl,λx e=>?_,hfr,hlen,λk i x e1 e2=>⟨hat k i x e1 e2,hf (x,.free) (PySem.mem_of_lookup (hfr x (List.mem_of_getElem? e2))) rfl⟩⟩
 ·have:=mG (env:=X.env) scope.names [] free
  rw [List.append_nil] at this
  have e:closureFor scope X.env=((forIn scope.names [] λ(x:Str×NameKind) (r:List (Str×Addr))=>if (x.2==NameKind.free)=true then do let a ← cellOf X.env x.1;pure (ForInStep.yield ((x.1,a)::r)) else pure (ForInStep.yield r):Sem (List (Str×Addr))) >>=λcs=>pure cs):=rfl
  rw [e,this,pure_bind]
  rfl
 ·have m:=PySem.mem_of_lookup e
  unfold nr at m
  obtain ⟨p,_,hp⟩:=List.mem_filterMap.mp (List.mem_reverse.mp m)
  split at hp
  ·cases q:X.env.cells.lookup p.1 with
   | none=>rw [q] at hp;cases hp
   | some c'=>rw [q] at hp;cases hp;exact q
  ·cases hp
 ·have m:=PySem.mem_of_lookup e
  obtain ⟨c,hcc⟩:=free _ m rfl
  have m2:(x,c)∈nr scope X.env:=by
   unfold nr
   refine List.mem_reverse.mpr (List.mem_filterMap.mpr ⟨(x,.free),m,?_⟩)
   simp [hcc]
  cases q:(nr scope X.env).lookup x with
  | some c'=>exact ⟨c',rfl⟩
  | none=>
    rw [List.lookup_eq_none_iff] at q
    exact absurd (q _ m2) (by simp)
def uN (scope so:Scope)(N0 fr:List Str)(ix:List Nat):Bool:=
 decide (scope.kind= .function)&&scope.names.all (λy=>decide (y.2≠ .cell)&&(decide (y.2≠ .local) ||decide (scope.names.lookup y.1=some .local))&&(decide (y.2≠ .free) ||decide (so.names.lookup y.1=some .cell)))
  &&fr.all (λx=>decide (scope.names.lookup x=some .free))&&decide (fr.length=ix.length)&&(List.range ix.length).all λk=>match ix[k]?,fr[k]? with | some i,some x=>decide (N0[i]?=some x) | _,_=>true
theorem bb {X:Cx}{scope so:Scope}{N0 own fr:List Str}{ix:List Nat}(hso:X.env.scope=so)(hN0:X.N=N0)(hc:∀x,X.env.scope.names.lookup x=some .cell->∃c,X.env.cells.lookup x=some c)(h:uN scope so N0 fr ix=true):dq X scope (nr scope X.env) own fr ix:=by
 unfold uN at h
 simp only [Bool.and_eq_true,Bool.or_eq_true,decide_eq_true_eq,List.all_eq_true] at h
 obtain ⟨⟨⟨⟨h1,h2⟩,h3⟩,h4⟩,h5⟩:=h
 refine tJ h1 (λy hy=>(h2 y hy).1.1) (λy hy e=>(h2 y hy).1.2.resolve_left λz=>z e) hc (λy hy e=>by rw [hso];exact (h2 y hy).2.resolve_left λz=>z e) h3 h4 λk i x e1 e2=>?_
 have hk:k < ix.length:=(List.getElem?_eq_some_iff.mp e1).1
 have:=h5 k (List.mem_range.mpr hk)
 rw [e1,e2] at this
 rw [hN0]
 simpa using this
section
variable {X:Cx}{Γ Γ1 Γ2 Γ3:Ga}{α β γ δ:Type}{N:Ga->Prop}{T:RT}
variable {r:Rep α}
theorem ja (i:Nat){S:cq}{x y:Str}{k:Nat}{e:Expr}{es:List Expr}{p p1 p2 pos:Pos}{ps:List Pk}{Pd:α->Prop}(C:aF X.prog X.w X.K X.mg X.base x k (aQ S X.K))(hr:bA k X.A)(ha:HA X (e::es) Γ ps Γ1)(hS:S X.K ps (bE X.K r Pd))(h:∀z,Pd z->N (Γ1.set i (.im r z)))
 (hg:autoParam (Gl X x) Fc.ag) (hdb:autoParam ((x==("__debug__":Str))=false) Fc.av) (he:autoParam (starEach (e::es) X.env=(false,eval e X.env)::starEach es X.env) Fc.ag) (hpl:autoParam ((backTo p2 (starEach es X.env)).any (·.1)=false) Fc.ag)
 (hN:autoParam (X.N.Nodup) Fc.fj) (hi:autoParam (X.N[i]?=some y) Fc.ag) (hx:autoParam (Loc X.env.scope y) Fc.fi)
 (hs:autoParam (swapsWith (.Call (.Name x p) (e::es) [] p2) (some (.Name y p1)) pos.line X.env=pure false) Fc.ag) (hf:autoParam (X.fn y=true∨X.env.scope.names.lookup y=some .local) Fc.iy):
 W1 X (.Assign [.Name y p1] (.Call (.Name x p) (e::es) [] p2) pos) Γ N T:=λσ H0 R0 H R E D dn dr=>
 sS (eY hN hi hx aI hs hf) (eB C hr ha hS E (λH1 R1 v H' R' E1 s1 xx t=>by
  obtain ⟨z,e1,hz⟩:=t
  exact dn _ H' R' _ ((E1.grow xx).set i e1) (s1.trans xx.r) (h z hz)) hg hdb he hpl)
theorem B9 {tg iter:Expr}{w:Row}(h:EV X iter Γ aB w Γ1):IV X tg iter Γ ae [w.1,w.2.1,w.2.2.1,w.2.2.2] Γ1:=by
 refine ⟨_,Bw aI,λσ H0 R0 H R E Rq q=>h σ H0 R0 H R E _ λv H1 R1 E1 s1 e1=>?_⟩
 obtain ⟨a,rfl,ha⟩:=e1
 have hq0:∀H' R':Hp,ar R1 R'->ar R' H'->dY X.K H' a [.int w.1,.int w.2.1,.int w.2.2.1,.int w.2.2.2]:=λH' R' sR sH=>dY.of (sH _ _ (sR _ _ ha))
 refine ⟨a,rfl,⟨_,hq0 H1 R1 (ar.refl _) E1.sub⟩,q _ H1 R1 E1 s1 (by show 4<=sizeLine;decide) λH' R' sR sH i=>⟨λx hx=>?_,λhi=>⟨_,hq0 H' R' sR sH,hi⟩⟩⟩
 have e2:([.int w.1,.int w.2.1,.int w.2.2.1,.int w.2.2.2]:List V)[i]?=some (.int x):=by
  have:=congrArg (Option.map V.int) hx
  rw [← List.getElem?_map] at this
  exact this
 refine ⟨⟨_,_,hq0 H' R' sR sH,e2⟩,λv H2 hy=>?_⟩
 obtain ⟨rfl,hy⟩:=hy
 have:=hy _ (hq0 _ R' sR sH)
 rw [e2] at this
 cases this
 exact ⟨R',Ext.refl sH,rfl⟩
theorem r9 {a:Expr}{p pos:Pos}{x:α}{n:Nat}(hm:X.mg "len"=none)(ha:EV X a Γ r x Γ1)(ht:∀(R:Hp) v,r.R X.K R v x->∃q vs,v= .ref q/\R q=some (.tup vs)/\vs.length=n)(hs:autoParam (starEach [a] X.env=[(false,eval a X.env)]) Fc.ag)(hg:autoParam (Gl X "len") Fc.ag):EV X (.Call (.Name "len" p) [a] [] pos) Γ ae (n:Int) Γ1:=by
 intro σ H0 R0 H R E Q q
 refine eS (da eJ hg hm PySem.boot_len (aD aI bp hs) (by decide) (by decide) hs) (ha σ H0 R0 H R E _ λv H1 R1 E1 s1 e1=>?_)
 obtain ⟨p,vs,rfl,hp,hl⟩:=ht R1 v e1
 refine ⟨p,vs,rfl,.inr (dY.of (E1.sub _ _ hp)),?_⟩
 rw [hl]
 exact q _ H1 R1 E1 s1 rfl
theorem zv {K:PySem.W.Frag}{r':Rep β}{x:α×β}(R:Hp)(v:V)(h:(ay r r').R K R v x):∃q vs,v= .ref q/\R q=some (.tup vs)/\vs.length=2:=by
 obtain ⟨a,v1,v2,rfl,ha,_⟩:=h
 exact ⟨a,_,rfl,ha,rfl⟩
theorem Bt {K:PySem.W.Frag}{x:Row}(R:Hp)(v:V)(h:aB.R K R v x):∃q vs,v= .ref q/\R q=some (.tup vs)/\vs.length=4:=by
 obtain ⟨a,rfl,ha⟩:=h
 exact ⟨a,_,rfl,ha,rfl⟩
end
inductive Reach (es:List (Int×Int)) (s:Int):Int->Prop
 | base:Reach es s s
 | step {a b:Int}:Reach es s a->(a,b)∈es->Reach es s b
theorem Reach.sub {es:List (Int×Int)}{s:Int}{P:Int->Prop}(h0:P s)(hc:∀a b,P a->(a,b)∈es->P b):∀{k:Int},Reach es s k->P k
 | _,.base=>h0
 | _,.step r m=>hc _ _ (Reach.sub h0 hc r) m
section
variable {X:Cx}{Γ Γ1 Γ2 Γ3:Ga}{α β γ δ:Type}{N:Ga->Prop}{T:RT}
theorem zk:dJ X (binaryOp .Mult) (rI IntMulOk λi j=>.int (i * j)):=uf λ_ _ _ _ _ _ _ hc q=>mul_int q hc
theorem f6 {a b:Expr}{pos:Pos}{x y:Int}(ha:EV X a Γ ae x Γ1)(hb:EV X b Γ1 ae y Γ2)(h:IntMulOk x y):EV X (.BinOp a .Mult b pos) Γ ae (x * y) Γ2:=jv zk ha hb λR v u H Q e1 e2 q=>⟨x,y,e1,e2,h,q _ rfl⟩
def bU (a:Addr)(r:Rep α)(xs:List α):k4 where
 fp:=[a]
 R:=λK H R v=>v= .ref a/\∃vs,H a=some (.lst vs)/\PySem.Paired (r.R K R) vs xs
 loc:=λhH hR ⟨e,vs,h,p⟩=>⟨e,vs,(hH a (List.mem_singleton.mpr rfl)).trans h,Paired.map (λ_ _=>r.mono hR) p⟩
 has:=λ⟨e,vs,h,p⟩ b hb=>by rw [List.mem_singleton.mp hb,h];exact Option.some_ne_none _
theorem iO {K:PySem.W.Frag}{H R:Hp}{a:Addr}{r:Rep α}{xs:List α}{vs:List V}(h:H a=some (.lst vs))(hR:R a=none)(p:PySem.Paired (r.R K R) vs xs):(Ent.ob (bU a r xs)).ok K H R (some (.ref a)):=
 ⟨⟨_,rfl,rfl,vs,h,p⟩,λb hb=>by rw [List.mem_singleton.mp hb];exact hR⟩
theorem fo {K:PySem.W.Frag}{H R:Hp}{a:Addr}{r:Rep α}{xs:List α}{o:Option V}(h:(Ent.ob (bU a r xs)).ok K H R o):o=some (.ref a)/\(∃vs,H a=some (.lst vs)/\PySem.Paired (r.R K R) vs xs)/\R a=none:=by
 obtain ⟨⟨v,rfl,rfl,q⟩,n⟩:=h
 exact ⟨rfl,q,n a (List.mem_singleton.mpr rfl)⟩
theorem EV.box (i:Nat){e:Expr}{a:Addr}{r:Rep α}{xs xs':List α}{rr:Rep β}{y:β}(h:EV X e (Γ.set i (.mu r xs)) rr y Γ1)(hΓ:Γ[i]?=some (.ob (bU a r xs)))(hΓ1:Γ1[i]?=some (.mu r xs')):EV X e Γ rr y (Γ1.set i (.ob (bU a r xs'))):=by
 intro σ H0 R0 H R E Q q
 obtain ⟨ea,⟨vs,ha,pp⟩,hR⟩:=fo (E.ent i _ hΓ)
 refine h σ H0 R0 H R (E.tell hΓ (by rw [ea];exact ⟨a,vs,rfl,ha,hR,pp⟩) λb w=>by rw [cb.mp w] at ea;cases ea;exact List.mem_singleton.mpr rfl) Q λv H' R' E' s' hr=>q v H' R' ?_ s' hr
 obtain ⟨a',vs',ea',ha',hR',pp'⟩:=E'.ent i _ hΓ1
 rw [ea] at ea';cases ea'
 exact E'.tell hΓ1 (by rw [ea];exact iO ha' hR' pp') λb w=>by rw [show b=a from List.mem_singleton.mp w];exact cb.mpr ea
theorem TV.box (i:Nat){e:Expr}{a:Addr}{r:Rep α}{xs xs':List α}{y:Bool}(h:TV X e (Γ.set i (.mu r xs)) y Γ1)(hΓ:Γ[i]?=some (.ob (bU a r xs)))(hΓ1:Γ1[i]?=some (.mu r xs')):TV X e Γ y (Γ1.set i (.ob (bU a r xs'))):=by
 intro σ H0 R0 H R E Q q
 obtain ⟨ea,⟨vs,ha,pp⟩,hR⟩:=fo (E.ent i _ hΓ)
 refine h σ H0 R0 H R (E.tell hΓ (by rw [ea];exact ⟨a,vs,rfl,ha,hR,pp⟩) λb w=>by rw [cb.mp w] at ea;cases ea;exact List.mem_singleton.mpr rfl) Q λH' R' E' s'=>q H' R' ?_ s'
 obtain ⟨a',vs',ea',ha',hR',pp'⟩:=E'.ent i _ hΓ1
 rw [ea] at ea';cases ea'
 exact E'.tell hΓ1 (by rw [ea];exact iO ha' hR' pp') λb w=>by rw [show b=a from List.mem_singleton.mp w];exact cb.mpr ea
theorem iP (j:Nat){x:Str}{p1:Pos}{b:Expr}{pos:Pos}{a:Addr}{r:Rep α}{xs:List α}{i:Int}{y:α}(hb:EV X b Γ ae i Γ)(hΓ:Γ[j]?=some (.ob (bU a r xs)))(h:bW xs i=some y)(hN:autoParam (X.N[j]?=some x) Fc.ag)(hv:autoParam (bR X.env.scope x) Fc.bq)
 (hs:autoParam (dD b) Fc.jG) (hd:autoParam ((x==("__debug__":Str))=false) Fc.av) (hcd:autoParam ((x==("__classdict__":Str))=false) Fc.av):EV X (.Subscript (.Name x p1) b pos) Γ r y Γ:=by
 intro σ H0 R0 H R E Q q
 obtain ⟨ea,⟨vs,ha,pp⟩,hR⟩:=fo (E.ent j _ hΓ)
 refine eS (gO fA (aU hN hv hd hcd) aI hs) ⟨.ref a,at_of ea,hb σ H0 R0 H R E _ λu H2 R2 E2 s2 e2=>?_⟩
 obtain ⟨ea',⟨vs',ha',pp'⟩,hR'⟩:=fo (E2.ent j _ hΓ)
 obtain ⟨w,e3,e4⟩:=fL pp' h
 exact ⟨a,vs',i,w,rfl,e2,aL.of ha',e3,q w H2 R2 E2 s2 e4⟩
theorem qu (i:Nat){x:Str}{b e:Expr}{p1 p2 pos:Pos}{a:Addr}{r:Rep α}{xs:List α}{y:α}{k:Int}{j:Nat}(he:EV X e Γ r y Γ1)(hb:EV X b Γ1 ae k Γ2)(hΓ1:Γ1[i]?=some (.ob (bU a r xs)))(hΓ2:Γ2[i]?=some (.ob (bU a r xs)))(hj:dO xs.length k=some j)(h:N (Γ2.set i (.ob (bU a r (xs.set j y)))))
 (hN:autoParam (X.N[i]?=some x) Fc.ag) (hv:autoParam (bR X.env.scope x) Fc.bq)
 (hd:autoParam ((x==("__debug__":Str))=false) Fc.av) (hcd:autoParam ((x==("__classdict__":Str))=false) Fc.av)
 (ha:autoParam (∀v,assign (.Subscript (.Name x p1) b p2) X.env v=(do
  let ov ← holding [v] (eval (.Name x p1) X.env)
  let iv ← holding [v,ov] (eval b X.env)
  standAt p2
  holding [v,ov,iv] (setItem ov iv v)
  release [v,ov,iv] [])) Fc.c9)
 (hs:autoParam (swapsWithSole [.Subscript (.Name x p1) b p2] e pos.line X.env=pure false) Fc.ag) (hw:autoParam (swappedStores [.Subscript (.Name x p1) b p2] e X.env=pure none) Fc.ag) (h1:autoParam ((assignEach [.Subscript (.Name x p1) b p2] X.env).map (·.2)=[assign (.Subscript (.Name x p1) b p2) X.env]) Fc.ag):
 W1 X (.Assign [.Subscript (.Name x p1) b p2] e pos) Γ N T:=λσ H0 R0 H R E D dn dr=>by
 refine sS (jM aI (pF (aU hN hv hd hcd) aI set_list ha) hs hw h1) (he σ H0 R0 H R E _ λv H1 R1 E1 s1 e1=>?_)
 obtain ⟨ea,⟨vs,hp,pp⟩,hR⟩:=fo (E1.ent i _ hΓ1)
 refine ⟨.ref a,at_of ea,hb σ H0 R0 H1 R1 E1 _ λu H2 R2 E2 s2 e2=>?_⟩
 obtain ⟨ea',⟨vs',ha',pp'⟩,hR'⟩:=fo (E2.ent i _ hΓ2)
 refine ⟨a,vs',k,j,rfl,e2,ha',by rw [pp'.length];exact hj,?_⟩
 exact dn σ _ R2 _ (E2.gY (en:=.ob (bU a r (xs.set j y))) hΓ2 (List.mem_singleton.mpr rfl) (by rw [ea'];exact iO az hR' (gN (r.mono s2 e1) j pp')) λb w=>.inl w) (s1.trans s2) h
def del (H:Hp)(a:Addr):Hp:=λb=>if b=a then none else H b
theorem jA {H:Hp}{a:Addr}:del H a a=none:=if_pos rfl
theorem gv {H:Hp}{a b:Addr}(h:b≠a):del H a b=H b:=if_neg h
theorem zm {H:Hp}{a:Addr}:ar (del H a) H:=λb o q=>by
 by_cases h:b=a
 ·subst h;rw [jA] at q;cases q
 ·rwa [gv h] at q
theorem aq.oD {K:PySem.W.Frag}{σ:St}{H0 R0 H R H' R':Hp}(E:aq K σ H0 R0 H R Γ){a:Addr}(off:Off a σ Γ)(h0:H0 a=none)(x:Ext (del H a) R H' R'):aq K σ H0 R0 H' R' Γ:=by
 have ne:∀{b:Addr},H0 b≠none->b≠a:=λh e=>h (e▸h0)
 refine ⟨⟨λb o q=>?_,E.ext.r.trans x.r,x.s,λb hb=>?_⟩,λi e q=>?_,E.nw,E.ds,E.len⟩
 ·exact x.h b o (by rw [gv (ne (by rw [q];exact Option.some_ne_none _))];exact E.ext.h b o q)
 ·refine (x.old b ?_).trans (E.ext.old b hb)
  rw [gv (ne hb)];exact ar.some E.ext.h hb
 ·have h1:=E.ent i e q
  have na:∀b∈e.fp (σ[i]?).join,b≠a:=λb hb z=>off i e q (z▸hb)
  refine h1.loc (λb hb=>?_) x.r λb hb=>?_
  ·cases e2:H b with
   | none=>exact absurd e2 (Ent.dz h1 hb).1
   | some u=>exact x.h b u (by rw [gv (na b hb)];exact e2)
  ·exact (x.old b (by rw [gv (na b hb)];exact (Ent.dz h1 hb).1)).trans (Ent.dz h1 hb).2
theorem aq.mI {K:PySem.W.Frag}{σ:St}{H0 R0 H R:Hp}(E:aq K σ H0 R0 H R Γ){i:Nat}{e0 en:Ent}(hi:Γ[i]?=some e0)(ho:en.ok K H R (σ[i]?).join)(hsub:∀b∈en.fp (σ[i]?).join,H0 b=none/\∀(j:Nat) (e:Ent),j≠i->Γ[j]?=some e->b∉e.fp (σ[j]?).join):aq K σ H0 R0 H R (Γ.set i en):=by
 refine ⟨E.ext,λj e q=>?_,λj e b q w=>?_,λj k e e' b q q' w w'=>?_,by rw [List.length_set];exact E.len⟩
 ·rcases set_at q with ⟨rfl,rfl,_⟩ | ⟨hj,q1⟩
  ·exact ho
  ·exact E.ent j e q1
 ·rcases set_at q with ⟨rfl,rfl,_⟩ | ⟨hj,q1⟩
  ·exact (hsub b w).1
  ·exact E.nw j e b q1 w
 ·rcases set_at q with ⟨rfl,rfl,_⟩ | ⟨hj,q1⟩
  ·rcases set_at q' with ⟨rfl,rfl,_⟩ | ⟨hk,q1'⟩
   ·rfl
   ·exact absurd w' ((hsub b w).2 k e' hk q1')
  ·rcases set_at q' with ⟨rfl,rfl,_⟩ | ⟨hk,q1'⟩
   ·exact absurd w ((hsub b w').2 j e hj q1)
   ·exact E.ds _ _ _ _ b q1 q1' w w'
abbrev eU (α:Type):=PySem.W.Frag->List α->List Pk->(List α->RT)->Prop
def fu (r:Rep α)(S:eU α)(K:PySem.W.Frag):Sp:=λvs H Q _=>∃R a ws xs vs' ps T,vs= .ref a::vs'/\ar R H/\R a=none/\H a=some (.lst ws)/\PySem.Paired (r.R K R) ws xs/\eZ K R vs' ps/\S K xs ps T/\
 ∀v H' R' ws' xs',Ext (del H a) R H' R'->H' a=some (.lst ws')->R' a=none->PySem.Paired (r.R K R') ws' xs'->T xs' (del H a) v H' R'->Q v H'
theorem uo {r:Rep α}{S:eU α}{x y:Str}{k:Nat}{es:List Expr}{p p1 pos:Pos}{ps:List Pk}{xs:List α}{TM:List α->RT}{Q:VK}{σ:St}{H0 R0 H R:Hp}(i:Nat)(C:aF X.prog X.w X.K X.mg X.base x k (fu r S X.K))(hr:bA k X.A)(ha:HA X es Γ ps Γ1)(hΓ:Γ[i]?=some (.mu r xs))(hΓ1:Γ1[i]?=some (.mu r xs))(hS:S X.K xs ps TM)(E:aq X.K σ H0 R0 H R Γ)
 (q:∀H1 v H' R' xs',aq X.K σ H0 R0 H' R' (Γ1.set i (.mu r xs'))->ar R R'->TM xs' H1 v H' R'->Q v H')
 (hg:Gl X x) (hdb:(x==("__debug__":Str))=false) (he:starEach (.Name y p1::es) X.env=(false,eval (.Name y p1) X.env)::starEach es X.env) (hpl:(backTo pos (starEach es X.env)).any (·.1)=false)
 (hN:X.N[i]?=some y) (hv:bR X.env.scope y) (hd:(y==("__debug__":Str))=false) (hcd:(y==("__classdict__":Str))=false):d6 X (.Call (.Name x p) (.Name y p1::es) [] pos) σ H Q:=by
 obtain ⟨f,fd,pn,F,hm,hk,hb⟩:=C.ex
 obtain ⟨a,vs,ea,_,_,_⟩:=E.ent i _ hΓ
 refine eS (eh F hr hg hm hk hb .nil gL (aD (aU hN hv hd hcd) jJ he) hdb he hpl) ⟨.ref a,at_of ea,ha σ H0 R0 H R E _ λus H1 R1 E1 s1 p1=>?_⟩
 obtain ⟨a',ws,ea',hp,hR,pp⟩:=E1.ent i _ hΓ1
 rw [ea] at ea';cases ea'
 have h0:H0 a=none:=E1.new i _ a hΓ1 rfl ea
 refine ⟨R1,a,ws,xs,us,ps,TM,by rw [List.append_nil],E1.sub,hR,hp,pp,p1,hS,λv H' R' ws' xs' xx h1 h2 pq t=>q _ v H' R' xs' ?_ (s1.trans xx.r) t⟩
 have apart:∀(j:Nat) (e:Ent),j≠i->Γ1[j]?=some e->a∉e.fp (σ[j]?).join:=λj e hj qj w=>hj (E1.ds j i e _ a qj hΓ1 w (cb.mpr ea))
 have E2:aq X.K σ H0 R0 H1 R1 (Γ1.set i .no):=E1.tell hΓ1 trivial λb w=>by cases w
 have E3:=E2.oD (a:=a) (λj e qj w=>by
  rcases set_at qj with ⟨rfl,rfl,_⟩ | ⟨hj,q1⟩
  ·cases w
  ·exact apart j e hj q1 w) h0 xx
 have hl:i < Γ1.length:=(List.getElem?_eq_some_iff.mp hΓ1).1
 have E4:=E3.mI (i:=i) (e0:=.no) (en:=.mu r xs') (List.getElem?_set_self hl) (by rw [ea];exact ⟨a,ws',rfl,h1,h2,pq⟩) λb w=>by
  have eb:b=a:=by rw [cb.mp w] at ea;cases ea;rfl
  subst eb
  exact ⟨h0,λj e hj qj=>apart j e hj (by rwa [List.getElem?_set_ne (Ne.symm hj)] at qj)⟩
 rw [List.set_set] at E4
 exact E4
theorem fY (i:Nat){r:Rep α}{S:eU α}{x y:Str}{k:Nat}{es:List Expr}{p p1 pos:Pos}{ps:List Pk}{xs st:List α}{rr:Rep β}{z:β}(C:aF X.prog X.w X.K X.mg X.base x k (fu r S X.K))(hr:bA k X.A)(ha:HA X es Γ ps Γ1)(hΓ:Γ[i]?=some (.mu r xs))(hΓ1:Γ1[i]?=some (.mu r xs))(hS:S X.K xs ps (λxs'=>bE X.K rr λw=>xs'=st/\w=z))
 (hg:autoParam (Gl X x) Fc.ag) (hdb:autoParam ((x==("__debug__":Str))=false) Fc.av) (he:autoParam (starEach (.Name y p1::es) X.env=(false,eval (.Name y p1) X.env)::starEach es X.env) Fc.ag) (hpl:autoParam ((backTo pos (starEach es X.env)).any (·.1)=false) Fc.ag)
 (hN:autoParam (X.N[i]?=some y) Fc.ag) (hv:autoParam (bR X.env.scope y) Fc.bq) (hd:autoParam ((y==("__debug__":Str))=false) Fc.av) (hcd:autoParam ((y==("__classdict__":Str))=false) Fc.av):
 EV X (.Call (.Name x p) (.Name y p1::es) [] pos) Γ rr z (Γ1.set i (.mu r st)):=λσ H0 R0 H R E Q q=>
 uo i C hr ha hΓ hΓ1 hS E (λH1 v H' R' xs' E' s' t=>by
  obtain ⟨w,e1,rfl,rfl⟩:=t
  exact q v H' R' E' s' e1) hg hdb he hpl hN hv hd hcd
theorem cQ (i:Nat){r:Rep α}{S:eU α}{x y:Str}{k:Nat}{a:Addr}{es:List Expr}{p p1 pos:Pos}{ps:List Pk}{xs st:List α}{rr:Rep β}{z:β}(C:aF X.prog X.w X.K X.mg X.base x k (fu r S X.K))(hr:bA k X.A)(ha:HA X es (Γ.set i (.mu r xs)) ps (Γ.set i (.mu r xs)))(hΓ:Γ[i]?=some (.ob (bU a r xs)))(hS:S X.K xs ps (λxs'=>bE X.K rr λw=>xs'=st/\w=z))
 (hg:autoParam (Gl X x) Fc.ag) (hdb:autoParam ((x==("__debug__":Str))=false) Fc.av) (he:autoParam (starEach (.Name y p1::es) X.env=(false,eval (.Name y p1) X.env)::starEach es X.env) Fc.ag) (hpl:autoParam ((backTo pos (starEach es X.env)).any (·.1)=false) Fc.ag)
 (hN:autoParam (X.N[i]?=some y) Fc.ag) (hv:autoParam (bR X.env.scope y) Fc.bq) (hd:autoParam ((y==("__debug__":Str))=false) Fc.av) (hcd:autoParam ((y==("__classdict__":Str))=false) Fc.av):
 EV X (.Call (.Name x p) (.Name y p1::es) [] pos) Γ rr z (Γ.set i (.ob (bU a r st))):=by
 have hl:i < Γ.length:=(List.getElem?_eq_some_iff.mp hΓ).1
 have h:=EV.box i (xs':=st) (fY (p:=p) i C hr ha (List.getElem?_set_self hl) (List.getElem?_set_self hl) hS hg hdb he hpl hN hv hd hcd) hΓ (by rw [List.set_set];exact List.getElem?_set_self hl)
 rwa [List.set_set,List.set_set] at h
theorem oh {r:Rep α}{S:eU α}{x:Str}{k:Nat}{e0:Expr}{es:List Expr}{p pos:Pos}{ps:List Pk}{xs:List α}{TM:List α->RT}{Q:VK}{σ:St}{H0 R0 H R:Hp}(C:aF X.prog X.w X.K X.mg X.base x k (fu r S X.K))(hr:bA k X.A)(h0:bc X e0 Γ r xs Γ1)
 (ha:∀(H1 R1:Hp),aq X.K σ H0 R0 H1 R1 Γ1->∀Q:List V->Hp->Prop,(∀us,eZ X.K R1 us ps->Q us H1)->ji X es σ H1 Q) (hS:S X.K xs ps TM) (E:aq X.K σ H0 R0 H R Γ)
 (q:∀H1 v H' R' xs',aq X.K σ H0 R0 H' R' Γ1->ar R R'->TM xs' H1 v H' R'->Q v H')
 (hg:Gl X x) (hdb:(x==("__debug__":Str))=false) (he:starEach (e0::es) X.env=(false,eval e0 X.env)::starEach es X.env) (hpl:(backTo pos (starEach es X.env)).any (·.1)=false):d6 X (.Call (.Name x p) (e0::es) [] pos) σ H Q:=by
 obtain ⟨f,fd,pn,F,hm,hk,hb⟩:=C.ex
 refine eS (eh F hr hg hm hk hb .nil gL (aD aI jJ he) hdb he hpl) (h0 σ H0 R0 H R E _ λa ws H1 R1 E1 s1 hp hR hf off pp z=>?_)
 refine ha H1 R1 E1 _ λus p1=>?_
 exact ⟨R1,a,ws,xs,us,ps,TM,by rw [List.append_nil],E1.sub,hR,hp,pp,p1,hS,λv H' R' ws' xs' xx h1 h2 pq t=>q _ v H' R' xs' (E1.oD off hf xx) (s1.trans xx.r) t⟩
def mL (K:PySem.W.Frag)(a:Addr)(r:Rep α)(T:List α->RT):RT:=λH0 v H' R'=>∃ws' xs',H' a=some (.lst ws')/\R' a=none/\PySem.Paired (r.R K R') ws' xs'/\T xs' H0 v H' R'
theorem fJ (i:Nat){e:Expr}{pos:Pos}{a:Addr}{r:Rep α}{xs:List α}{rr:Rep β}{y:β}{P:List α->β->Prop}(he:EV X e Γ rr y Γ1)(hΓ1:Γ1[i]?=some (.ob (bU a r xs)))(h:P xs y):W1 X (.Return (some e) pos) Γ N (mL X.K a r λxs'=>bE X.K rr (P xs')):=λσ H0 R0 H R E D dn dr=>
 sS (e7 aI) (he σ H0 R0 H R E _ λv H1 R1 E1 s1 e1=>by
  obtain ⟨ea,⟨vs,ha,pp⟩,hR⟩:=fo (E1.ent i _ hΓ1)
  exact dr v H1 R1 E1.ext ⟨vs,xs,ha,hR,pp,y,e1,h⟩)
theorem mw {K:PySem.W.Frag}{R H:Hp}{a:Addr}{r:Rep α}{ws:List V}{xs:List α}{vs:List V}{ps:List Pk}{N:List Str}(s:ar R H)(hR:R a=none)(ha:H a=some (.lst ws))(pp:PySem.Paired (r.R K R) ws xs)(p:eZ K R vs ps)(hl:ps.length + 1<=N.length):
 aq K (L2.start N (.ref a::vs)) (del H a) R H R (.ob (bU a r xs)::dB ps (N.length - 1)):=by
 obtain ⟨n0,N',rfl⟩:∃n0 N',N=n0::N':=by cases N with
  | nil=>exact absurd hl (by simp)
  | cons n N'=>exact ⟨n,N',rfl⟩
 have hl':ps.length<=N'.length:=by simpa using hl
 have E0:=eA (N:=N') s p hl'
 have es:L2.start (n0::N') (.ref a::vs)=some (.ref a)::L2.start N' vs:=by unfold L2.start;simp
 rw [es]
 have noown:∀(i:Nat) (e:Ent) (o:Option V),(dB ps N'.length)[i]?=some e->e.fp o=[]:=λi e o q=>by
  unfold dB at q
  rcases List.mem_append.mp (List.mem_of_getElem? q) with z | z
  ·obtain ⟨p,_,rfl⟩:=List.mem_map.mp z;rfl
  ·obtain ⟨_,rfl⟩:=List.mem_replicate.mp z;rfl
 refine ⟨⟨zm,ar.refl _,s,λ_ _=>rfl⟩,λi e q=>?_,λi e b q w=>?_,λi j e e' b q q' w w'=>?_,?_⟩
 ·cases i with
  | zero=>simp at q;subst q;exact iO ha hR pp
  | succ i=>simp at q;simpa using E0.ent i e q
 ·cases i with
  | zero=>simp at q;subst q;rw [show b=a from List.mem_singleton.mp w];exact jA
  | succ i=>simp at q;rw [noown i e _ q] at w;cases w
 ·cases i with
  | succ i=>simp at q;rw [noown i e _ q] at w;cases w
  | zero=>
    cases j with
    | zero=>rfl
    | succ j=>simp at q';rw [noown j e' _ q'] at w';cases w'
 ·have:=E0.len
  simp [this]
variable {P:Program}{w:World}{K:PySem.W.Frag}{mg:Str->Option Value}{base:Heap}
theorem o8 {r:Rep α}{S:eU α}{x qual:Str}{st:Stmt}{f:Addr}{fd:FuncData}{N ps:List Str}{k:Nat}(F:bH K x qual st f fd)(Sc:aC N ps (ai st))(hm:mg x=some (.ref f))(hb:Binds K fd ps [])(len:∀xs qs T,S K xs qs T->qs.length + 1=ps.length)
 (hbody:∀(cdv:Value) (A:Around) (outer:List Env) (s:Shared) (H:Hp) (E:XK) (a:Addr) (xs:List α) (qs:List Pk) (T:List α->RT),bA k (A.deeper (envOfC qual (ai st) s.heap.objs.size f cdv))->S K xs qs T->
  WS (cL dQ P w K mg base N qual (ai st) f cdv A outer s H E).c8 (br st) (.ob (bU a r xs)::dB qs (N.length - 1)) (λ_=>False) (mL K a r T)):aF P w K mg base x (k + 1) (fu r S K):=by
 refine ⟨f,fd,ps,?_,hm,F.kp,hb⟩
 refine F.ok Sc (λvs H Q E h=>?_) (λcdv A outer s H vs Q E hr h=>?_)
 ·obtain ⟨R,a,ws,xs,vs',qs,T,rfl,_,_,_,_,p,hS,_⟩:=h
  rw [List.length_cons,p.length];exact len xs qs T hS
 ·obtain ⟨R,a,ws,xs,vs',qs,T,rfl,sR,hR,ha,pp,p,hS,q⟩:=h
  have hl:qs.length + 1<=N.length:=by
   rw [len xs qs T hS]
   have:=congrArg List.length Sc.pre
   rw [List.length_take] at this
   omega
  refine ⟨_,eI,hbody cdv A outer s H E a xs qs T hr hS (L2.start N (.ref a::vs')) (del H a) R H R (mw sR hR ha pp p hl) {nx:=λ_ H'=>Q .non H',rt:=Q} (λ_ _ _ _ _ _ f=>f.elim) λv H' R' xx t=>?_⟩
  obtain ⟨ws',xs',h1,h2,h3,h4⟩:=t
  exact q v H' R' ws' xs' xx h1 h2 h3 h4
end
section
variable {α:Type}{y:α}{xs:List α}
def cP (k:Nat)(y:α)(xs:List α):List α:=xs.take k++y::xs.drop k
theorem dw {k:Nat}:(cP k y xs).length=xs.length + 1:=by
 unfold cP;rw [List.length_append,List.length_cons,List.length_take,List.length_drop];omega
theorem jf {k:Nat}(hk:k<=xs.length){i:Nat}{z:α}(h:(cP k y xs)[i]?=some z):(i < k/\xs[i]?=some z)∨(i=k/\z=y)∨(k < i/\xs[i - 1]?=some z):=by
 unfold cP at h
 have lt:(xs.take k).length=k:=by rw [List.length_take];omega
 by_cases h1:i < k
 ·rw [List.getElem?_append_left (by omega),List.getElem?_take,if_pos h1] at h
  exact .inl ⟨h1,h⟩
 ·rw [List.getElem?_append_right (by omega),lt] at h
  by_cases h2:i=k
  ·subst h2;simp at h;exact .inr (.inl ⟨rfl,h.symm⟩)
  ·obtain ⟨j,rfl⟩:∃j,i=k + (j + 1):=⟨i - k - 1,by omega⟩
   rw [show k + (j + 1) - k=j + 1 by omega,List.getElem?_cons_succ,List.getElem?_drop] at h
   exact .inr (.inr ⟨by omega,by rw [show k + (j + 1) - 1=k + j by omega];exact h⟩)
theorem gx {k:Nat}{z:α}:z∈cP k y xs↔z=y∨z∈xs:=by
 unfold cP
 rw [List.mem_append,List.mem_cons]
 have:z∈xs↔z∈xs.take k∨z∈xs.drop k:=by rw [← List.mem_append,List.take_append_drop]
 rw [this]
 constructor
 ·rintro (h | h | h)
  ·exact .inr (.inl h)
  ·exact .inl h
  ·exact .inr (.inr h)
 ·rintro (h | h | h)
  ·exact .inr (.inl h)
  ·exact .inl h
  ·exact .inr (.inr h)
theorem qG {k:Nat}(h:xs.Nodup)(hy:y∉xs):(cP k y xs).Nodup:=by
 have p:(cP k y xs).Perm (y::xs):=by
  unfold cP
  have:=List.perm_middle (a:=y) (l₁:=xs.take k) (l₂:=xs.drop k)
  rwa [List.take_append_drop] at this
 rw [p.nodup_iff]
 exact List.nodup_cons.mpr ⟨hy,h⟩
theorem tQ {β:Type}(f:α->β){k:Nat}:(cP k y xs).map f=cP k (f y) (xs.map f):=by
 unfold cP;rw [List.map_append,List.map_cons,List.map_take,List.map_drop]
end
section
variable {X:Cx}{Γ Γ1 Γ2 Γ3:Ga}{α β γ δ:Type}{N:Ga->Prop}{T:RT}
variable {as:List Addr}{rs:List Row}{r:Row}{b a:Addr}{H:Hp}{pos p1:Pos}{j:Nat}{r':Row}{sts:List Stmt}{x:Str}
def yG:V->List V->Hp->VK->Prop:=λx vs H Q=>∃l xs i y,x= .ref l/\vs=[.int i,y]/\H l=some (.lst xs)/\0<=i/\i<=(xs.length:Int)/\xs.length < sizeLine/\Q .non (upd H l (.lst (cP i.toNat y xs)))
theorem uC:yi X "list.insert" yG:=by
 intro pins s σ H x vs v us Q I rx rv h
 obtain ⟨l,xs,i,y,rfl,rfl,hH,h0,h1,hz,q⟩:=h
 cases rx
 obtain ⟨u1,u2,rfl,⟨t,rfl⟩,r2⟩:=vals2 rv
 obtain ⟨z,its,n,r,hl,e⟩:=I.jk hH
 have hfit:Builtin.List.listFitsIndex i=true:=fitsIndex_both (by omega) (by
  have:sizeLine < 2 ^ 63:=by decide
  omega)
 refine call_meets PySem.F.slot_list_insert ⟨_,e,rfl⟩ PySem.F.entry_list_insert (PySem.F.args_list_insert_3 _ _ _) (PySem.AutoSeq1.list_insert_list_int_val_1 l _ n i t u2 (by simp [hfit]) (by rw [List.size_toArray];omega)) ⟨e,?_⟩
 refine ⟨.non,_,I.sN (its':=cP i.toNat u2 its) hH e ?_ ?_ ?_,rfl,q⟩
 ·have hk:(if i < 0 then (i + ((its.toArray.size:Nat):Int)).toNat else min i.toNat its.toArray.size)=i.toNat:=by
   rw [if_neg (by omega),List.size_toArray];omega
  dsimp only
  rw [hk]
  unfold cP
  apply Array.ext'
  simp
  exact List.take_of_length_le (by rw [List.length_drop];exact Nat.le_refl _)
 ·unfold cP;exact (r.take _).append (.cons r2 (r.drop _))
 ·rw [dw];omega
def hX (r:Row):List V:=[.int r.1,.int r.2.1,.int r.2.2.1,.int r.2.2.2]
def jm:Rep Addr:=⟨λ_ _ v a=>v= .ref a,λ_ h=>h⟩
def oJ:Rep Row:=⟨λ_ H v r=>∃b,v= .ref b/\H b=some (.lst (hX r)),λs ⟨b,e,h⟩=>⟨b,e,s _ _ h⟩⟩
def yt:Rep (Addr×Row):=⟨λ_ H v x=>v= .ref x.1/\H x.1=some (.lst (hX x.2)),λs ⟨e,h⟩=>⟨e,s _ _ h⟩⟩
def dg (H:Hp)(as:List Addr)(rs:List Row):Prop:=as.length=rs.length/\∀(i:Nat) (b:Addr) (r:Row),as[i]?=some b->rs[i]?=some r->H b=some (.lst (hX r))
theorem dg.row (h:dg H as rs)(hb:b∈as):∃r,H b=some (.lst (hX r)):=by
 obtain ⟨i,hi,rfl⟩:=List.mem_iff_getElem.mp hb
 exact ⟨_,h.2 i _ _ (List.getElem?_eq_getElem hi) (List.getElem?_eq_getElem (by rw [← h.1];exact hi))⟩
theorem dg.loc {H':Hp}(h:dg H as rs)(e:∀a∈as,H' a=H a):dg H' as rs:=
 ⟨h.1,λi b r h1 h2=>(e b (List.mem_of_getElem? h1)).trans (h.2 i b r h1 h2)⟩
theorem dg.put (h:dg H as rs)(nd:as.Nodup)(hb:as[j]?=some b):dg (upd H b (.lst (hX r))) as (rs.set j r):=by
 refine ⟨by rw [List.length_set];exact h.1,λi c q h1 h2=>?_⟩
 by_cases hij:i=j
 ·subst hij
  rw [hb] at h1;cases h1
  have hl:i < rs.length:=by rw [← h.1];exact (List.getElem?_eq_some_iff.mp hb).1
  rw [List.getElem?_set_self hl] at h2;cases h2
  exact az
 ·rw [List.getElem?_set_ne (Ne.symm hij)] at h2
  have:c≠b:=λz=>by
   subst z
   have l1:=(List.getElem?_eq_some_iff.mp h1)
   have l2:=(List.getElem?_eq_some_iff.mp hb)
   exact hij ((List.getElem_inj (h₀:=l1.1) (h₁:=l2.1) nd).mp (l1.2.trans l2.2.symm))
  rw [aH this];exact h.2 i c q h1 h2
theorem dg.ins (h:dg H as rs){k:Nat}(hk:k<=as.length)(hb:H b=some (.lst (hX r))):dg H (cP k b as) (cP k r rs):=by
 refine ⟨by rw [dw,dw,h.1],λi c q h1 h2=>?_⟩
 rcases jf hk h1 with ⟨a1,a2⟩ | ⟨a1,a2⟩ | ⟨a1,a2⟩
 ·rcases jf (by rw [← h.1];exact hk) h2 with ⟨b1,b2⟩ | ⟨b1,b2⟩ | ⟨b1,b2⟩
  ·exact h.2 i c q a2 b2
  ·omega
  ·omega
 ·rcases jf (by rw [← h.1];exact hk) h2 with ⟨b1,b2⟩ | ⟨b1,b2⟩ | ⟨b1,b2⟩
  ·omega
  ·rw [a2,b2];exact hb
  ·omega
 ·rcases jf (by rw [← h.1];exact hk) h2 with ⟨b1,b2⟩ | ⟨b1,b2⟩ | ⟨b1,b2⟩
  ·omega
  ·omega
  ·exact h.2 (i - 1) c q a2 b2
def dP (a:Addr)(as:List Addr)(rs:List Row):k4 where
 fp:=a::as
 R:=λK H R v=>v= .ref a/\H a=some (.lst (as.map .ref))/\dg H as rs/\(a::as).Nodup
 loc:=λhH hR ⟨e,h1,h2,h3⟩=>⟨e,(hH a List.mem_cons_self).trans h1,h2.loc λb hb=>hH b (List.mem_cons_of_mem _ hb),h3⟩
 has:=λ⟨e,h1,h2,h3⟩ b hb=>by
  rcases List.mem_cons.mp hb with rfl | hb
  ·rw [h1];exact Option.some_ne_none _
  ·obtain ⟨r,hr⟩:=h2.row hb
   rw [hr];exact Option.some_ne_none _
def g9 (a:Addr)(as:List Addr)(rs:List Row):k4 where
 fp:=as
 R:=λK H R v=>v= .ref a/\R a=some (.lst (as.map .ref))/\dg H as rs/\as.Nodup
 loc:=λhH hR ⟨e,h1,h2,h3⟩=>⟨e,hR _ _ h1,h2.loc λb hb=>hH b hb,h3⟩
 has:=λ⟨e,h1,h2,h3⟩ b hb=>by
  obtain ⟨r,hr⟩:=h2.row hb
  rw [hr];exact Option.some_ne_none _
structure md (B B':k4) (b:Addr) (r r':Row):Prop where
 mem:b∈B.fp
 fp:B'.fp=B.fp
 get:∀{K:PySem.W.Frag} {H R:Hp} {v:V},B.R K H R v->H b=some (.lst (hX r))
 set:∀{K:PySem.W.Frag} {H R:Hp} {v:V},B.R K H R v->B'.R K (upd H b (.lst (hX r'))) R v
theorem yV (hb:as[j]?=some b)(hr:rs[j]?=some r):md (dP a as rs) (dP a as (rs.set j r')) b r r' where
 mem:=List.mem_cons_of_mem _ (List.mem_of_getElem? hb)
 fp:=rfl
 get:=λh=>h.2.2.1.2 j b r hb hr
 set:=λ⟨e,h1,h2,h3⟩=>by
  obtain ⟨n1,n2⟩:=List.nodup_cons.mp h3
  exact ⟨e,by rw [aH (show a≠b from λz=>n1 (z▸List.mem_of_getElem? hb))];exact h1,h2.put n2 hb,h3⟩
theorem ky (hb:as[j]?=some b)(hr:rs[j]?=some r):md (g9 a as rs) (g9 a as (rs.set j r')) b r r' where
 mem:=List.mem_of_getElem? hb
 fp:=rfl
 get:=λh=>h.2.2.1.2 j b r hb hr
 set:=λ⟨e,h1,h2,h3⟩=>⟨e,h1,h2.put h3 hb,h3⟩
theorem qr (i:Nat){o:Expr}{c:Int}{B B':k4}{y:Int}(ho:EV X o Γ jm b Γ1)(hΓ1:Γ1[i]?=some (.ob B))(hB:md B B' b r r')(hy:bW (hX r) c=some (.int y)):EV X (.Subscript o (.Constant (.int c) j p1) pos) Γ ae y Γ1:=by
 intro σ H0 R0 H R E Q q
 refine eS (gO fA aI ef (λ_ _=>rfl)) (ho σ H0 R0 H R E _ λv H1 R1 E1 s1 e1=>?_)
 cases e1
 obtain ⟨⟨v,ev,hv⟩,_⟩:=E1.ent i _ hΓ1
 exact ⟨b,_,c,_,rfl,rfl,aL.of (hB.get hv),hy,q _ H1 R1 E1 s1 rfl⟩
theorem oZ (i:Nat){o e:Expr}{k:Nat}{p2:Pos}{B B':k4}{y:Int}(he:EV X e Γ ae y Γ1)(ho:EV X o Γ1 jm b Γ2)(hΓ2:Γ2[i]?=some (.ob B))(hB:md B B' b r (r.1,r.2.1,r.2.2.1,y))(h:N (Γ2.set i (.ob B')))
 (ha:autoParam (∀v,assign (.Subscript o (.Constant (.int 3) k p1) p2) X.env v=(do
  let ov ← holding [v] (eval o X.env)
  let iv ← holding [v,ov] (eval (.Constant (.int 3) k p1) X.env)
  standAt p2
  holding [v,ov,iv] (setItem ov iv v)
  release [v,ov,iv] [])) Fc.c9)
 (hs:autoParam (swapsWithSole [.Subscript o (.Constant (.int 3) k p1) p2] e pos.line X.env=pure false) Fc.ag) (hw:autoParam (swappedStores [.Subscript o (.Constant (.int 3) k p1) p2] e X.env=pure none) Fc.ag) (h1:autoParam ((assignEach [.Subscript o (.Constant (.int 3) k p1) p2] X.env).map (·.2)=[assign (.Subscript o (.Constant (.int 3) k p1) p2) X.env]) Fc.ag):
 W1 X (.Assign [.Subscript o (.Constant (.int 3) k p1) p2] e pos) Γ N T:=λσ H0 R0 H R E D dn dr=>by
 refine sS (jM aI (pF aI ef set_list ha) hs hw h1) (he σ H0 R0 H R E _ λv H1 R1 E1 s1 e1=>ho σ H0 R0 H1 R1 E1 _ λu H2 R2 E2 s2 e2=>?_)
 cases e2
 cases e1
 obtain ⟨⟨v,ev,hv⟩,hn⟩:=E2.ent i _ hΓ2
 refine ⟨b,_,3,3,rfl,rfl,hB.get hv,rfl,?_⟩
 exact dn σ _ R2 _ (E2.gY (u:=.lst (hX (r.1,r.2.1,r.2.2.1,y))) (en:=.ob B') hΓ2 hB.mem ⟨⟨v,ev,hB.set hv⟩,by rw [hB.fp];exact hn⟩ λb' w=>.inl (by rw [Ent.fp,hB.fp] at w;exact w)) (s1.trans s2) h
theorem WS.zw (i:Nat){r:Rep α}(hΓ:Γ[i]?=some (.mu r []))(h:∀a,WS X sts (Γ.set i (.ob (dP a [] []))) N T):WS X sts Γ N T:=λσ H0 R0 H R E D dn dr=>by
 obtain ⟨a,vs,ea,ha,hR,pp⟩:=E.ent i _ hΓ
 cases pp
 refine h a σ H0 R0 H R (E.tell hΓ ⟨⟨.ref a,ea,rfl,ha,⟨rfl,λi b r h1=>by simp at h1⟩,by simp⟩,λb hb=>?_⟩ λb w=>?_) D dn dr
 ·rw [show b=a by simpa [dP] using hb];exact hR
 ·rw [show b=a by simpa [Ent.fp,dP] using w];exact cb.mpr ea
theorem si (i:Nat){p:Pos}(hm:X.mg "len"=none)(hΓ:Γ[i]?=some (.ob (dP a as rs)))(hN:autoParam (X.N[i]?=some x) Fc.ag)(hv:autoParam (bR X.env.scope x) Fc.bq)
 (hd:autoParam ((x==("__debug__":Str))=false) Fc.av) (hcd:autoParam ((x==("__classdict__":Str))=false) Fc.av) (hg:autoParam (Gl X "len") Fc.ag):EV X (.Call (.Name "len" p) [.Name x p1] [] pos) Γ ae (rs.length:Int) Γ:=by
 intro σ H0 R0 H R E Q q
 obtain ⟨⟨v,ea,rfl,ha,hr,_⟩,hR⟩:=E.ent i _ hΓ
 refine eS (da eJ hg hm PySem.boot_len (aD (aU hN hv hd hcd) bp rfl) (by decide) (by decide) rfl) ⟨.ref a,at_of ea,a,_,rfl,.inl (aL.of ha),?_⟩
 rw [List.length_map,hr.1]
 exact q _ H R E (ar.refl _) rfl
theorem wg (i:Nat){e1 e2:Expr}{ap cp:Pos}{k:Int}(h1:EV X e1 Γ ae k Γ1)(h2:bc X e2 Γ1 ae [r.1,r.2.1,r.2.2.1,r.2.2.2] Γ2)(hΓ:Γ[i]?=some (.ob (dP a as rs)))(hΓ2:Γ2[i]?=some (.ob (dP a as rs)))
 (k0:0<=k) (k1:k<=(rs.length:Int)) (hz:rs.length < sizeLine) (h:∀b,N (Γ2.set i (.ob (dP a (cP k.toNat b as) (cP k.toNat r rs)))))
 (hN:autoParam (X.N[i]?=some x) Fc.ag) (hv:autoParam (bR X.env.scope x) Fc.bq)
 (hd:autoParam ((x==("__debug__":Str))=false) Fc.av) (hcd:autoParam ((x==("__classdict__":Str))=false) Fc.av)
 (hsw:autoParam (swapsWith (.Call (.Attribute (.Name x p1) "insert" ap) [e1,e2] [] cp) none pos.line X.env=pure false) Fc.ag)
 (hbase:autoParam (attributeBase (.Name x p1) "insert" X.env (eval (.Name x p1) X.env)=eval (.Name x p1) X.env) Fc.ag)
 (hfew:autoParam (((backTo cp (starEach [e1,e2] X.env)).all (λx=> !x.1)&&(backToKw cp (keywordEach [] X.env)).all (λx=>x.1.isSome)
  &&decide ([e1,e2].length + ([]:List Keyword).length + (if ([]:List Keyword).isEmpty then 0 else 1) < 30))=true) Fc.ag)
 (hline:autoParam ((ap.endLine==cp.line)=true) Fc.ag) (hs:autoParam (starEach [e1,e2] X.env=(false,eval e1 X.env)::starEach [e2] X.env) Fc.ag) (hs2:autoParam (starEach [e2] X.env=(false,eval e2 X.env)::starEach [] X.env) Fc.ag) (hpl:autoParam ((backTo cp (starEach [e2] X.env)).any (·.1)=false) Fc.ag):
 W1 X (.Expr (.Call (.Attribute (.Name x p1) "insert" ap) [e1,e2] [] cp) pos) Γ N T:=λσ H0 R0 H R E D dn dr=>by
 obtain ⟨⟨v,ea,rfl,ha,hr,_⟩,hR⟩:=E.ent i _ hΓ
 refine sS (d5 (gr PySem.F.plainAttrs_list PySem.F.slot_list_insert PySem.F.type_list_insert uC (aU hN hv hd hcd) (aD aI (aD aI bp hs2) hs) hbase hfew hline hs hpl) hsw) ?_
 refine ⟨.ref a,at_of ea,.inl ⟨rfl,_,aL.of ha⟩,h1 σ H0 R0 H R E _ λv1 H1 R1 E1 s1 q1=>h2 σ H0 R0 H1 R1 E1 _ λb vs H2 R2 E2 s2 hb hRb h0b offb pp _=>?_⟩
 cases q1
 have ev:=eR pp
 subst ev
 obtain ⟨⟨v,ea2,rfl,ha2,hr2,nd2⟩,hR2⟩:=E2.ent i _ hΓ2
 obtain ⟨n1,n2⟩:=List.nodup_cons.mp nd2
 have hl:as.length=rs.length:=hr2.1
 have bne:b∉a::as:=λz=>offb i _ hΓ2 z
 have bna:b≠a:=λz=>bne (z▸List.mem_cons_self)
 refine ⟨a,_,k,.ref b,rfl,rfl,ha2,k0,by rw [List.length_map,hl];exact k1,by rw [List.length_map,hl];exact hz,?_⟩
 refine dn σ _ R2 _ (E2.gY (en:=.ob (dP a (cP k.toNat b as) (cP k.toNat r rs))) hΓ2 List.mem_cons_self ⟨⟨.ref a,ea2,rfl,?_,?_,?_⟩,λc hc=>?_⟩ λc w=>?_) (s1.trans s2) (h b)
 ·rw [az,tQ]
 ·refine (hr2.ins (k:=k.toNat) (by omega) hb).loc λc hc=>aH λz=>?_
  rw [z] at hc
  rcases gx.mp hc with q | q
  ·exact bna q.symm
  ·exact n1 q
 ·refine List.nodup_cons.mpr ⟨λz=>?_,qG n2 λz=>bne (List.mem_cons_of_mem _ z)⟩
  rcases gx.mp z with q | q
  ·exact bna q.symm
  ·exact n1 q
 ·rcases List.mem_cons.mp hc with rfl | hc
  ·exact hR2 _ List.mem_cons_self
  ·rcases gx.mp hc with rfl | q
   ·exact hRb
   ·exact hR2 _ (List.mem_cons_of_mem _ q)
 ·rcases List.mem_cons.mp w with rfl | w
  ·exact .inl List.mem_cons_self
  ·rcases gx.mp w with rfl | q
   ·exact .inr ⟨h0b,offb⟩
   ·exact .inl (List.mem_cons_of_mem _ q)
theorem aq.tP {K:PySem.W.Frag}{σ:St}{H0 R0:Hp}:∀(as:List Addr) {R:Hp},aq K σ H0 R0 H R Γ->(∀b∈as,H b≠none/\H0 b=none/\Off b σ Γ)->∃R',aq K σ H0 R0 H R' Γ/\ar R R'/\∀b∈as,R' b=H b
 | [],R,E,_=>⟨R,E,ar.refl _,λb hb=>by cases hb⟩
 | b::as,R,E,h=>by
   obtain ⟨h1,h2,h3⟩:=h b List.mem_cons_self
   obtain ⟨u,hu⟩:∃u,H b=some u:=by cases q:H b with
    | none=>exact absurd q h1
    | some u=>exact ⟨u,rfl⟩
   have key:∃R1,aq K σ H0 R0 H R1 Γ/\ar R R1/\R1 b=some u:=by
    cases q:R b with
    | none=>exact ⟨_,E.jr hu q h2 h3,ar.fresh q _,az⟩
    | some u'=>
      have:=E.sub b u' q
      rw [hu] at this
      cases this
      exact ⟨R,E,ar.refl _,q⟩
   obtain ⟨R1,E1,s1,r1⟩:=key
   obtain ⟨R2,E2,s2,r2⟩:=aq.tP as E1 λc hc=>h c (List.mem_cons_of_mem _ hc)
   refine ⟨R2,E2,s1.trans s2,λc hc=>?_⟩
   rcases List.mem_cons.mp hc with rfl | hc
   ·rw [s2 _ _ r1,hu]
   ·exact r2 c hc
theorem WS.outer (i:Nat)(hΓ:Γ[i]?=some (.ob (dP a as rs)))(h:WS X sts (Γ.set i (.ob (g9 a as rs))) N T):WS X sts Γ N T:=λσ H0 R0 H R E D dn dr=>by
 obtain ⟨⟨v,ea,rfl,ha,hr,nd⟩,hR⟩:=E.ent i _ hΓ
 obtain ⟨n1,n2⟩:=List.nodup_cons.mp nd
 have hl:i < Γ.length:=(List.getElem?_eq_some_iff.mp hΓ).1
 have apart:∀(j:Nat) (e:Ent),j≠i->Γ[j]?=some e->∀b∈a::as,b∉e.fp (σ[j]?).join:=λj e hj qj b hb w=>hj (E.ds j i e _ b qj hΓ w hb)
 have E1:aq X.K σ H0 R0 H R (Γ.set i .no):=E.tell hΓ trivial λb w=>by cases w
 have E2:=E1.jr ha (hR a List.mem_cons_self) (E.nw i _ a hΓ List.mem_cons_self) λj e qj w=>by
  rcases set_at qj with ⟨rfl,rfl,_⟩ | ⟨hj,q1⟩
  ·cases w
  ·exact apart j e hj q1 a List.mem_cons_self w
 have s2:ar R (upd R a (.lst (as.map .ref))):=ar.fresh (hR a List.mem_cons_self) _
 have E3:=E2.mI (i:=i) (e0:=.no) (en:=.ob (g9 a as rs)) (List.getElem?_set_self hl) ⟨⟨.ref a,ea,rfl,az,hr,n2⟩,λb hb=>by
  rw [aH (show b≠a from λz=>n1 (z▸hb))];exact hR b (List.mem_cons_of_mem _ hb)⟩ λb w=>⟨E.nw i _ b hΓ (List.mem_cons_of_mem _ w),λj e hj qj=>apart j e hj (by rwa [List.getElem?_set_ne (Ne.symm hj)] at qj) b (List.mem_cons_of_mem _ w)⟩
 rw [List.set_set] at E3
 exact h σ H0 R0 H _ E3 D (λσ2 H2 R2 Γ2 E2 s2'=>dn σ2 H2 R2 Γ2 E2 (s2.trans s2')) dr
theorem kT {K:PySem.W.Frag}{H:Hp}:∀{as:List Addr} {rs:List Row},dg H as rs->PySem.Paired (oJ.R K H) (as.map .ref) rs
 | [],[],_=>.nil
 | [],_::_,h=>absurd h.1 (by simp)
 | _::_,[],h=>absurd h.1 (by simp)
 | a::as,r::rs,h=>.cons ⟨a,rfl,h.2 0 a r rfl rfl⟩ (kT ⟨by simpa using h.1,λi b q h1 h2=>h.2 (i + 1) b q (by simpa using h1) (by simpa using h2)⟩)
theorem mU {K:PySem.W.Frag}{H:Hp}:∀{as:List Addr} {rs:List Row},dg H as rs->PySem.Paired (yt.R K H) (as.map .ref) (as.zip rs)
 | [],[],_=>.nil
 | [],_::_,h=>absurd h.1 (by simp)
 | _::_,[],h=>absurd h.1 (by simp)
 | a::as,r::rs,h=>.cons ⟨rfl,h.2 0 a r rfl rfl⟩ (mU ⟨by simpa using h.1,λi b q h1 h2=>h.2 (i + 1) b q (by simpa using h1) (by simpa using h2)⟩)
theorem kS {K:PySem.W.Frag}{H:Hp}:∀(as:List Addr),PySem.Paired (jm.R K H) (as.map .ref) as
 | []=>.nil
 | _::as=>.cons rfl (kS as)
theorem WS.yF (i:Nat)(hΓ:Γ[i]?=some (.ob (g9 a as rs)))(hz:rs.length<=sizeLine)(h:WS X sts (Γ.set i (.im (af oJ) rs)) N T):WS X sts Γ N T:=λσ H0 R0 H R E D dn dr=>by
 obtain ⟨⟨v,ea,rfl,ha,hr,nd⟩,hR⟩:=E.ent i _ hΓ
 have hl:i < Γ.length:=(List.getElem?_eq_some_iff.mp hΓ).1
 have E1:aq X.K σ H0 R0 H R (Γ.set i .no):=E.tell hΓ trivial λb w=>by cases w
 obtain ⟨R',E2,s',rr⟩:=E1.tP as λb hb=>⟨(Ent.dz (E.ent i _ hΓ) hb).1,E.nw i _ b hΓ hb,λj e qj w=>by
  rcases set_at qj with ⟨rfl,rfl,_⟩ | ⟨hj,q1⟩
  ·cases w
  ·exact hj (E.ds j i e _ b q1 hΓ w hb)⟩
 have hr':dg R' as rs:=hr.loc rr
 have E3:=E2.mI (i:=i) (e0:=.no) (en:=.im (af oJ) rs) (List.getElem?_set_self hl) ⟨.ref a,ea,a,_,rfl,s' _ _ ha,kT hr',hz⟩ λb w=>by cases w
 rw [List.set_set] at E3
 exact h σ H0 R0 H _ E3 D (λσ2 H2 R2 Γ2 E2 s2'=>dn σ2 H2 R2 Γ2 E2 (s'.trans s2')) dr
theorem y8 (i:Nat)(hΓ:Γ[i]?=some (.ob (g9 a as rs)))(hz:as.length<=sizeLine)(hN:autoParam (X.N[i]?=some x) Fc.ag)(hv:autoParam (bR X.env.scope x) Fc.bq)
 (hd:autoParam ((x==("__debug__":Str))=false) Fc.av) (hcd:autoParam ((x==("__classdict__":Str))=false) Fc.av):EV X (.Name x p1) Γ (af jm) as Γ:=by
 intro σ H0 R0 H R E Q q
 obtain ⟨⟨v,ea,rfl,ha,hr,nd⟩,hR⟩:=E.ent i _ hΓ
 exact eS (aU hN hv hd hcd) ⟨.ref a,at_of ea,q _ H R E (ar.refl _) ⟨a,_,rfl,ha,kS as,hz⟩⟩
def oG:Ent->Ent
 | .im r x=>.im r x
 | _=>.no
theorem aq.frz {K:PySem.W.Frag}{σ:St}{H0 R0 R:Hp}(E:aq K σ H0 R0 H R Γ):aq K σ H H H H (Γ.map oG):=by
 have noown:∀(i:Nat) (e:Ent) (o:Option V),(Γ.map oG)[i]?=some e->e.fp o=[]:=λi e o q=>by
  rw [List.getElem?_map] at q
  cases h:Γ[i]? with
  | none=>rw [h] at q;cases q
  | some e'=>rw [h] at q;cases q;cases e'<;>rfl
 refine ⟨Ext.refl (ar.refl _),λi e q=>?_,λi e a q w=>absurd w (by rw [noown i e _ q];exact List.not_mem_nil),λi j e e' a q _ w=>absurd w (by rw [noown i e _ q];exact List.not_mem_nil),by rw [List.length_map];exact E.len⟩
 rw [List.getElem?_map] at q
 cases h:Γ[i]? with
 | none=>rw [h] at q;cases q
 | some e'=>
   rw [h] at q;cases q
   have:=E.ent i e' h
   cases e' with
   | im r x=>obtain ⟨v,e,hr⟩:=this;exact ⟨v,e,r.mono E.sub hr⟩
   | no=>trivial
   | mu r x=>trivial
   | di x=>trivial
   | ob x=>trivial
theorem zp (i:Nat){Γf:Ga}(hF:∀(σ:St) (H0 R0 H R:Hp),aq X.K σ H0 R0 H R Γ->aq X.K σ H H H H Γf){y:Str}{py spos:Pos}{tg elt iter:Expr}{ifs:List Expr}{scope:Scope}{cl:List (Str×Addr)}{own fr:List Str}{ix:List Nat}{ra:Rep α}{rb:Rep β}{xs:List α}{p:α->Bool}{f:α->β}{bf:α->Ga->Ga}
 (flat:∀(K:PySem.W.Frag) (H H':Hp) v y,rb.R K H v y->rb.R K H' v y)
 (S:dq X scope cl own fr ix) (hit:IV X tg iter Γf ra xs Γf)
 (hb:∀(C:Addr) (s:Shared) (H:Hp) (ex:List Addr),BG (aK X scope cl C (own++fr) s H ex) tg ra bf) (hw:∀x,Wk (bf x (cu own ix Γf)) (cu own ix Γf))
 (ht:∀(C:Addr) (s:Shared) (H:Hp) (ex:List Addr) x,x∈xs->TF (aK X scope cl C (own++fr) s H ex) ifs (bf x (cu own ix Γf)) (p x) (bf x (cu own ix Γf)))
 (he:∀(C:Addr) (s:Shared) (H:Hp) (ex:List Addr) x,x∈xs->p x=true->EV (aK X scope cl C (own++fr) s H ex) elt (bf x (cu own ix Γf)) rb (f x) (bf x (cu own ix Γf)))
 (h:N (Γ.set i (.mu rb ((xs.filter p).map f))))
 (hsw:autoParam (swapsWith (.ListComp elt [⟨tg,iter,ifs,0⟩] scope pos) (some (.Name y py)) spos.line X.env=pure true) Fc.ag)
 (hN:autoParam (X.N.Nodup) Fc.fj) (hi':X.N[i]?=some y:=by rfl) (hx:autoParam (Loc X.env.scope y) Fc.fi)
 (hc:autoParam (X.calm=true) Fc.ag) (hs:autoParam (∀x,foldedSetIterable iter X.env x=pure x) Fc.c9) (hf:autoParam (X.fn y=true∨X.env.scope.names.lookup y=some .local) Fc.iy):
 W1 X (.Assign [.Name y py] (.ListComp elt [⟨tg,iter,ifs,0⟩] scope pos) spos) Γ N T:=λσ H0 R0 H R E D dn dr=>by
 obtain ⟨wi,hi,hit⟩:=hit
 refine sS (jw (i:=i) (g:=λv σ H Q=>∀C s Hh ex,ic (aK X scope cl C (own++fr) s Hh ex) tg v σ H Q) (tc:=λσ H Q=>∀C s Hh ex,iK (aK X scope cl C (own++fr) s Hh ex) ifs σ H Q) (te:=λσ H Q=>∀C s Hh ex,d6 (aK X scope cl C (own++fr) s Hh ex) elt σ H Q) hsw hN hi' hx hc S hi
  (λC s H ex=>⟨λpins s1 σ H v u Q I r h=>h C s _ ex pins s1 u I r,λpins s1 σ H Q I h=>h C s _ ex pins s1 I,λpins s1 σ H Q I h=>h C s _ ex pins s1 I⟩) hs hf) ?_
 refine hit σ H H H H (hF σ H0 R0 H R E) _ λJ H1 R1 E1 s1 hz src=>kf (Q:=λv H'=>D.nx (σ.set i (some v)) H') E1 src hz hb hw ht he λa vs H' R' xx ha pp=>?_
 have sH:ar H H':=E1.ext.h.trans xx.h
 have E2:=E.grow (H':=H') (R':=R) ⟨sH,ar.refl _,E.sub.trans sH,λ_ _=>rfl⟩
 exact dn _ _ R _ ((E2.grow (Ext.dW E2.sub ha _)).tI (u:=.lst vs) (en:=.mu rb ((xs.filter p).map f)) i ⟨a,vs,rfl,az,E2.sub.free ha,Paired.map (λ_ _=>flat X.K R' R _ _) pp⟩ (E2.ext.h.free ha) λj e _ q w=>E2.off ha j e q w) (ar.refl _) h
theorem uT {a:Expr}{p:Pos}(hm:X.mg "tuple"=none)(ha:EV X a Γ oJ r Γ1)(hs:autoParam (starEach [a] X.env=[(false,eval a X.env)]) Fc.ag)(hg:autoParam (Gl X "tuple") Fc.ag):EV X (.Call (.Name "tuple" p) [a] [] pos) Γ aB r Γ1:=by
 intro σ H0 R0 H R E Q q
 refine eS (kr oz hg hm PyProof.Rows.boot_tuple (aD aI bp hs) (by decide) (by decide) hs) (ha σ H0 R0 H R E _ λv H1 R1 E1 s1 e1=>?_)
 obtain ⟨b,rfl,hb⟩:=e1
 refine ⟨b,_,rfl,.inl ⟨aL.of (E1.sub _ _ hb),λl hl=>?_⟩⟩
 exact q _ _ (upd R1 l _) (E1.grow (Ext.fresh E1.sub hl _)) (s1.trans (ar.fresh (E1.sub.free hl) _)) ⟨l,rfl,az⟩
end
variable {P:Program}{w:World}{K:PySem.W.Frag}{mg:Str->Option Value}{base:Heap}
theorem AQ {S:cq}{x qual:Str}{st:Stmt}{f:Addr}{fd:FuncData}{N ps:List Str}{k:Nat}(F:bH K x qual st f fd)(Sc:aC N ps (ai st))(len:∀qs T,S K qs T->qs.length=ps.length)
 (hbody:∀(cdv:Value) (A:Around) (outer:List Env) (s:Shared) (H:Hp) (E:XK) (qs:List Pk) (T:RT),bA k (A.deeper (envOfC qual (ai st) s.heap.objs.size f cdv))->S K qs T->
  WS (cL dQ P w K mg base N qual (ai st) f cdv A outer s H E).c8 (br st) (dB qs N.length) (λ_=>False) T):eV P w K mg base dQ (k + 1) f fd ps (aQ S K):=by
 refine F.ok Sc (λvs H Q E h=>?_) (λcdv A outer s H vs Q E hr h=>?_)
 ·obtain ⟨R,qs,T,_,p,hS,_⟩:=h
  rw [p.length];exact len qs T hS
 ·obtain ⟨R,qs,T,sR,p,hS,q⟩:=h
  have hl:qs.length<=N.length:=by
   rw [len qs T hS]
   have:=congrArg List.length Sc.pre
   rw [List.length_take] at this
   omega
  exact ⟨_,eI,hbody cdv A outer s H E qs T hr hS (L2.start N vs) H R H R (eA sR p hl) {nx:=λ_ H'=>Q .non H',rt:=Q} (λ_ _ _ _ _ _ f=>f.elim) λv H' R' xx t=>q v H' R' xx t⟩
def Def (K:PySem.W.Frag)(mg:Str->Option Value)(x:Str)(st:Stmt)(ps:List Str):Prop:=∃f fd,bH K x x st f fd/\mg x=some (.ref f)/\Binds K fd ps []
theorem aX {h:Heap}{x:Str}{st:Stmt}{ps:List Str}{f:Addr}{oc:Value}{od an:Option Addr}{osl:Array (Option Value)}{kV doc pm cdv ct:Value}(KX:K.In h)(G:h.Ns mainGlobals mg)
 (a:PySem.W.nsIn K mainGlobals x=some (some (.ref f))) (l:K.lookup f=some ⟨oc,od,.func (PySem.W.fnOf x x (ft st) (br st) (ai st) .none kV doc pm an cdv ct),osl⟩) (c:PySem.W.codeIn K cdv x=true) (k:PySem.W.keepIn K (.ref f)=true)
 (b:∀(kV doc pm:Value) (an:Option Addr) (cdv ct:Value) (us:List Value),us.length=ps.length->bindArgs (PySem.W.fnOf x x (ft st) (br st) (ai st) .none kV doc pm an cdv ct) ⟨us,[]⟩=pure (ps.zip us)):Def K mg x st ps:=
 ⟨f,_,pR l c k,PySem.W.mg_of KX G a,(pR l c k).binds b⟩
open PySem.Builtin.Int (intBits)
theorem qP {ns:List Int}(h:PySem.W.WData.layableAll [.list (ns.map .int)]=true):∀n∈ns,intBits n<=2 ^ 20:=λn hn=>by
 have h1:=PySem.W.layableW_arg h _ (List.mem_singleton.mpr rfl)
 have h2:=PySem.W.layableW_item h1 (.int n) (List.mem_map.mpr ⟨n,hn,rfl⟩)
 exact PySem.PyData.bits_of_layable h2
end Fc
namespace Att
open PySem PySem.W PySem.Calls PyProof.Rows
open PySem.Builtin.Int (intBits)
theorem pX {l:OpenLaw}{n:Nat}{q:Program}{loose:List Str}{XP:(Str->Option Value)->Heap->Prop}{YP:World->Heap->Prop}{d:DefRec}
 (hn:l.most=some n) (hdf:d.params.defaults=[])
 (call:∀(w:World) (s₀ s₁:Shared) (mg mb:Str->Option Value) (fa:Addr) (o:Obj) (pm cd doc:Value) (a:Addr) (vs:List Value) (ns:List Int),
  Ground q loose [] XP w s₀ mg mb s₁.heap->YP w s₁.heap->
  s₁.heap.get? fa=some o->o.data= .func (docDef d.name d.params d.body d.scope pm cd doc)->s₁.heap.CodeRec cd d.name->mg d.name=some (.ref fa)->
  s₁.heap.get? a=some {cls:=.type "list",data:=.seq vs.toArray}->IntsAre vs ns->ns.length<=n->(∀m∈ns,intBits m<=2 ^ 20)->s₁.gens= #[]->
  codeAny (model l.prog w) callerA (.call (.ref fa) ⟨[.ref a],[]⟩) (λr s'=>r= .ok (.ret (.bool true))/\OldK s₁.heap s'.heap/\s'.os=s₁.os/\AllBare s'.gens) s₁):
 WalkO q loose XP YP l.row.toRowW d [] (λf vs=>PySem.call f vs):=by
 intro w s₀ s₁ mg mb G Y fa o pm cd doc dV kV ho hd hcd hD hmg hg args vals as hpre hlay hrd hwl hlo
 obtain rfl:dV= .none:=Dflts.none hD hdf
 obtain rfl:kV= .none:=Dflts.noKw hD
 obtain ⟨a,vs,ns,rfl,rfl,hobj,hints,hlen⟩:=uD hn hpre hwl
 refine enter_call (codeAny_mono (call w s₀ s₁ mg mb fa o pm cd doc a vs ns G Y ho (fd_plain hd) hcd hmg hobj hints hlen (Fc.qP hlay) hg) λr s' hq=>?_)
 obtain ⟨rfl,h2,h3,h4⟩:=hq
 exact ⟨.inl ⟨.bool true,.bool true,[],rfl,λ_=>rfl,.bool true,vE l _,λ_=>⟨List.Pairwise.nil,λ_ hm=>(nomatch hm)⟩⟩,h2,h3,h4⟩
end Att
namespace L2
open PySem PySem.Spec PyProof.Rows
open PySem.Builtin.Int (intBits)
theorem wO {l:PySem.W.OpenLaw}{n k:Nat}{q:Program}{loose:List Str}{XP:(Str->Option Value)->Heap->Prop}{YP:World->Heap->Prop}{d:DefRec}{K:Params->PySem.W.Frag}{CX:World->i9}{sp:World->Sp}{x:Str}
 (hn:l.most=some n) (hn2:n<=sizeLine) (hdf:d.params.defaults=[]) (hr:bA k callerA)
 (hY:∀(w:World) (h:Heap),YP w h->(K w.params).In h)
 (F:∀(w:World) (mg:Str->Option Value) (fa:Addr) (h:Heap),(K w.params).In h->h.Ns mainGlobals mg->mg d.name=some (.ref fa)->
  ∃fd:FuncData,(∀(s:Shared) (u:Value),BindsTo s fd ⟨[u],[]⟩ [(x,u)])/\
   ∀base:Heap,(K w.params).In base->base.Ns mainGlobals mg->eV l.prog w (K w.params) mg base (CX w) k fa fd [x] (sp w))
 (hsp:∀(w:World) (H:Hp) (a:Addr) (ns:List Int),ns.length<=n->(∀m∈ns,intBits m<=2 ^ 20)->xu H->aL (K w.params) H a (ns.map V.int)->sp w [.ref a] H (λv _=>v= .bl true) λ_ _ _=>False)
 (hCX:∀(w:World) (H:Hp) (s:Shared) (e:Value) (s':Shared),CX w [] H s (λ_ _ _=>False) e s'->False):
 PySem.W.WalkO q loose XP YP l.row.toRowW d [] (λf vs=>PySem.call f vs):=by
 refine Att.pX hn hdf λw s₀ s₁ mg mb fa o pm cd doc a vs ns G Y ho hd hcd hmg hobj hints hlen hbits hg=>?_
 have KX:=hY w _ Y
 obtain ⟨fd,hb,hF⟩:=F w mg fa _ KX G.T.g hmg
 exact xo KX G.T.g G.T.b G.T.builtins G.T.nolimit hg hobj hints (Nat.le_trans hlen hn2) hr hF hb (λH hO hS=>hsp w H a ns hlen hbits hO hS) λH e s'=>hCX w H s₁ e s'
end L2
namespace Fc
open PySem PySem.Spec L2
open PyProof.Rows hiding St
section
variable {H:Hp}{h:Heap}{P:Program}{w:World}{h':Heap}
structure xX (h0 h:Heap) (H:Hp) (e T:Addr) (cls:Value):Prop where
 ex:∃oe vs oT ts a0,h.get? e=some oe/\(oe.cls=cls/\vs[0]?=some a0)/\oe.data= .fields vs/\vs[1]?=some (.ref T)/\T≠e/\h.get? T=some oT/\oT.data= .fields ts/\ts[3]?=some .none
 ne:h0.get? e=none
 nT:h0.get? T=none
 fe:H e=none
 fT:H T=none
def mH (P:Program)(w:World):i9:=λouter H s E ev s'=>∃e T cls H',ev= .ref e/\s'.os=s.os/\AllBare s'.gens/\Un (c4 outer) [] H H' s.heap s'.heap/\cG P w H' s'.heap/\xX s.heap s'.heap H' e T cls/\E cls none H'
theorem iN {h b0 h0:Heap}{fs:List Addr}:∀{l:List Env},h.FunFrames b0 l->(∀b∈c4 l,b∈fs)->h.FunFrames (PySem.W.hideAll h0 fs) l
 | [],_,_=>trivial
 | env::rest,hl,hs=>by
   obtain ⟨hk,⟨L,o,hf,hn,ho,hd⟩,hr⟩:=hl
   refine ⟨hk,⟨L,o,hf,PySem.W.hideAll_none fs (hs L ?_),ho,hd⟩,iN hr λb hb=>hs b ?_⟩
   ·show L∈(env::rest).filterMap (·.frame)
    rw [List.filterMap_cons,hf];exact List.mem_cons_self
   ·show b∈(env::rest).filterMap (·.frame)
    rw [List.filterMap_cons,hf];exact List.mem_cons_of_mem _ hb
theorem Un.shrink {fs fs' ex:List Addr}{H':Hp}(u:Un fs ex H H' h h')(hs:∀b o,h.get? b=some o->b∈fs->b∈fs'):Un fs' ex H H' h h':=
 ⟨λb o q n hb he=>u.keep b o q n (λz=>hb (hs b o q z)) he,λb o q n _ he=>u.any q n he,u.free,u.there,u.tups,u.frzs,u.tbls⟩
theorem bT.there {a:Addr}{o:HO}(x:bT P w H h a o):∃ob,h.get? a=some ob:=by
 cases o with
 | lst xs=>obtain ⟨_,_,_,_,e⟩:=x;exact ⟨_,e⟩
 | tup xs=>obtain ⟨_,_,_,p⟩:=x;obtain ⟨o,e,_⟩:=p;exact ⟨o,e⟩
 | dK kvs=>obtain ⟨_,_,_,_,o,_,_,e,_⟩:=x;exact ⟨_,e⟩
 | dT kvs=>obtain ⟨_,_,_,_,o,_,_,e,_⟩:=x;exact ⟨_,e⟩
 | set S n=>obtain ⟨o,_,_,_,e,_⟩:=x;exact ⟨_,e⟩
 | ins C dx fs=>obtain ⟨_,_,_,e,_⟩:=x;exact ⟨_,e⟩
 | own y=>obtain ⟨_,e⟩:=x;exact ⟨_,e⟩
 | xd fs=>obtain ⟨_,⟨_,_,_,e,_⟩,_⟩:=x;exact ⟨_,e⟩
 | rng lo hi=>obtain ⟨_,_,_,e⟩:=x;exact ⟨_,e⟩
 | frz ob u=>obtain ⟨e,_⟩:=x;exact ⟨_,e⟩
 | tbl ps=>exact ⟨_,show h.get? a=some _ from x⟩
 | met f y=>exact ⟨_,show h.get? a=some _ from x⟩
 | ext φ=>obtain ⟨_,⟨_,e⟩,_⟩:=x;exact ⟨_,e⟩
theorem cG.none_of (x:cG P w H h){a:Addr}(e:h.get? a=none):H a=none:=by
 cases q:H a with
 | none=>rfl
 | some u=>
   obtain ⟨ob,r⟩:=bT.there (x a u q)
   rw [e] at r;cases r
theorem xc {fs:List Addr}(hok:cG P w H h)(hf:∀b∈fs,H b=none)(st:(PySem.W.hideAll h fs).StaysIn h')(up:∀b o,h.get? b=some o->b∈fs->∃sl,h'.get? b=some {o with slots:=sl}):
 Un fs [] H H h h'/\cG P w H h':=by
 have keep:∀b o,h.get? b=some o->b∉fs->h'.get? b=some o:=λb o q hb=>st b o (PySem.W.hideAll_get fs q hb)
 refine ⟨⟨λb o q _ hb _=>keep b o q hb,λb o q _ hb _=>up b o q hb,λ_ _ _ n _=>n,λb o q _=>?_,λ_ _ q=>q,λ_ _ _ q=>q,λ_ ps q=>⟨#[],by rw [q];simp⟩⟩,λb u q=>?_⟩
 ·by_cases hb:b∈fs
  ·obtain ⟨sl,e⟩:=up b o q hb;exact ⟨_,e⟩
  ·exact ⟨o,keep b o q hb⟩
 ·refine (hok b u q).stay (λc v hc r=>keep c v r λz=>?_) (λ_ r=>r) λ_ _ r=>r
  have n:=hf c z
  rcases hc with rfl | hc
  ·rw [q] at n;cases n
  ·rw [hc] at n;cases n
theorem mi {fs:List Addr}{H':Hp}(u:Un fs [] H H' h h'){b:Addr}(e:h'.get? b=none):h.get? b=none:=by
 cases q:h.get? b with
 | none=>rfl
 | some o=>
   obtain ⟨o',r⟩:=u.there b o q List.not_mem_nil
   rw [e] at r;cases r
theorem pO {K:PySem.W.Frag}{mg:Str->Option Value}{base:Heap}{N:List Str}{qual:Str}{scope:Scope}{f:Addr}{cd:Value}{A:Around}{outer:List Env}{s:Shared}{E:XK}
 {pins:List (Addr×Obj)} {σ:St} {H1:Hp} {s1:Shared} {h2:Heap} {e:Addr} {cls:Value} {args:List Value} (I:Inv (cL (mH P w) P w K mg base N qual scope f cd A outer s H E) pins σ H1 s1)
 (m:Heap.MadeExcOf s1.heap h2 e cls args) (q:E cls none H1):(cL (mH P w) P w K mg base N qual scope f cd A outer s H E).xe (.ref e) {s1 with heap:=h2}:=by
 have hst:s1.heap.FunFrames base (envOfC qual scope s.heap.objs.size f cd::outer):=I.stack
 have hfree:∀b∈c4 (envOfC qual scope s.heap.objs.size f cd::outer),H1 b=none:=I.iQ
 show wpAny (model P w) (A.deeper (envOfC qual scope s.heap.objs.size f cd)) (leaving (envOfC qual scope s.heap.objs.size f cd) (.ref e)) _ _ _
 refine wpAny_leaves_madeW (h:=s1.heap) (base:=PySem.W.hideAll s1.heap (c4 (envOfC qual scope s.heap.objs.size f cd::outer))) I.ok.frames rfl (λb o z=>PySem.W.of_hideAll _ z) (iN hst λ_ z=>z) m λh' t fl _ _ up=>?_
 obtain ⟨st,hen,hfr,oe,vs,T,oT,ts,he,hc,hd,h1,hnT,hTe,hT,hdT,h3⟩:=fl
 have up2:∀b o,s1.heap.get? b=some o->b∈c4 (envOfC qual scope s.heap.objs.size f cd::outer)->∃sl,h'.get? b=some {o with slots:=sl}:=λb o r z=>by
  obtain ⟨_,o2,r2,nf⟩:=hst.mem z
  rw [r] at r2;cases r2
  exact up b o (m.keeps b o r) nf
 obtain ⟨un,hok⟩:=xc (P:=P) (w:=w) I.hok hfree st up2
 have nT:s1.heap.get? T=none:=by
  cases r:s1.heap.get? T with
  | none=>rfl
  | some o=>
    exfalso
    by_cases z:T∈c4 (envOfC qual scope s.heap.objs.size f cd::outer)
    ·obtain ⟨_,o2,r2,nf⟩:=hst.mem z
     rw [r] at r2;cases r2
     obtain ⟨sl,r3⟩:=up2 T o r z
     rw [hT] at r3;cases r3
     exact nf ts hdT
    ·rw [PySem.W.hideAll_get _ r z] at hnT;cases hnT
 have base0:Un (c4 outer) [] H H1 s.heap s1.heap:=I.base
 have un2:Un (c4 outer) [] H H1 s.heap h':=by
  refine Un.shrink ((base0.mono (fs':=c4 (envOfC qual scope s.heap.objs.size f cd::outer)) (λb z=>?_) λ_ z=>z).trans un) λb o r z=>?_
  ·show b∈(envOfC qual scope s.heap.objs.size f cd::outer).filterMap (·.frame)
   rw [List.filterMap_cons]
   exact List.mem_cons_of_mem _ z
  ·have z':b∈(envOfC qual scope s.heap.objs.size f cd::outer).filterMap (·.frame):=z
   rw [List.filterMap_cons] at z'
   rcases List.mem_cons.mp z' with y | y
   ·have:=Heap.lt_size r
    rw [y] at this
    exact absurd this (Nat.lt_irrefl _)
   ·exact y
 exact ⟨e,T,cls,H1,rfl,I.os,I.bare,un2,hok,⟨⟨oe,vs,oT,ts,_,he,hc,hd,h1,hTe,hT,hdT,h3⟩,mi base0 m.new,mi base0 nT,cG.none_of I.hok m.new,cG.none_of I.hok nT⟩,q⟩
abbrev Cm:List Value:=[.type "ValueError",.type "Exception",.type "BaseException",.type "object"]
structure pC (K:PySem.W.Frag) (mg:Str->Option Value) (x:Str) (C:Addr):Prop where
 bound:mg x=some (.ref C)
 here:PySem.W.excIn K C Cm "ValueError.__new__"=true
theorem pC.own {K:PySem.W.Frag}{mg:Str->Option Value}{x:Str}{C:Addr}(c:pC K mg x C)(X:K.In h):OwnCls x C Cm "ValueError.__new__" mg h:=by
 refine ⟨c.bound,?_⟩
 have q:=c.here
 unfold PySem.W.excIn at q
 split at q
 ·rename_i dd cd sl ho
  split at q
  ·rename_i C' bm k0 k1 k2 k3 n k5 hm hs
   simp only [Bool.and_eq_true,beq_iff_eq,Bool.not_eq_true'] at q
   obtain ⟨⟨⟨⟨⟨rfl,rfl⟩,hdel⟩,ht⟩,hok⟩,hni⟩:=q
   obtain ⟨nm,bs,mro,ns,qn,hd,sn,sub,ab,col,del⟩:=cd
   dsimp only at hm hdel hok hni
   subst hm hdel
   have hsl:sl= #[k0,k1,k2,k3,some (.builtin "ValueError.__new__"),k5]:=by
    obtain ⟨l⟩:=sl
    simp only at hs
    rw [hs]
   subst hsl
   exact ⟨bm,ns,nm,qn,bs,hd,sn,sub,ab,col,dd,k0,k1,k2,k3,k5,_,X _ _ ho,.of_isNs (PySem.W.isNs_of_in X hok),PySem.W.nsMap_none_of_in X hok hni,PySem.W.tail_of_in X ht⟩
  ·cases q
 ·cases q
end
section
variable {X:Cx}{Γ Γ1:Ga}
def RS (X:Cx)(H0 R0:Hp)(sts:List Stmt)(Γ:Ga):Prop:=∀(σ:St) (H R:Hp),aq X.K σ H0 R0 H R Γ->∀D:Ends,jz X sts D σ H
theorem lL.c8 {e:Expr}{Q:Bool->Hp->Prop}{σ:St}{H:Hp}(h:lL X.c8 e σ H Q):lL X e σ H Q:=λpins s I=>
 wpAny_mono (h pins s (I.gF _)) (λ_ _ ⟨H',I',q⟩=>⟨H',I'.e8,q⟩) λ_ _ z=>False.elim z
theorem Dl {H0 R0:Hp}{c:Expr}{a b rest:List Stmt}{pos:Pos}(hc:TV X.c8 c Γ true Γ1)(h:RS X H0 R0 a Γ1):RS X H0 R0 (.If c a b pos::rest) Γ:=λσ H R E D=>by
 refine λpins s I=>wpAny_execs_cons ?_
 have:=lL.c8 (hc σ H0 R0 H R E (λb H'=>b=true/\∀D,jz X a D σ H') λH' R' E' _=>⟨rfl,λD=>h σ H' R' E' D⟩) pins s I
 refine PySem.wpAny_If (aO this λb s1 ⟨H',I',hb,q⟩=>?_)
 subst hb
 rw [if_pos rfl]
 refine aO (q {nx:=λ_ _=>False,rt:=λ_ _=>False} pins s1 I') λf s2 z=>?_
 cases f with
 | next=>obtain ⟨_,_,_,z⟩:=z;exact z.elim
 | brk=>obtain ⟨_,_,_,z⟩:=z;exact z.elim
 | cont=>obtain ⟨_,_,_,z⟩:=z;exact z.elim
 | ret u=>obtain ⟨_,_,_,_,_,z⟩:=z;exact z.elim
end
theorem wI {P:Program}{w:World}{K:PySem.W.Frag}{mg:Str->Option Value}{base:Heap}{N:List Str}{qual:Str}{scope:Scope}{f:Addr}{cd:Value}{A:Around}{outer:List Env}{s:Shared}{H R:Hp}{E:XK}{Γ:Ga}
 {x:Str} {C:Addr} {np cp pos sp:Pos} {txt:Str} {j:Nat} {rest:List Stmt} (hC:pC K mg x C) (q:∀H' R',Ext H R H' R'->E (.ref C) none H')
 (hg:autoParam (Gl (cL (mH P w) P w K mg base N qual scope f cd A outer s H E) x) Fc.ag) (hdb:autoParam ((x==("__debug__":Str))=false) Fc.av):
 RS (cL (mH P w) P w K mg base N qual scope f cd A outer s H E) H R (.Raise (some (.Call (.Name x np) [.Constant (.str txt) j sp] [] cp)) none pos::rest) Γ:=λσ H1 R1 EO D pins s1 I=>by
 refine wpAny_execs_cons ?_
 obtain ⟨bm,Nn,nm,qn,bs,hdct,sn,sub,ab,col,dd,k0,k1,k2,k3,k5,mN,hCo,hN,hni,TL⟩:=(hC.own I.eL).obj
 refine wpAny_Raise_call_subT (C:=C) (nm:=nm) (q:=qn) (N:=Nn) (bs:=bs) (bm:=bm) (hdct:=hdct) (sn:=sn) (sub:=sub) (ab:=ab) (col:=col) (dd:=dd) (k0:=k0) (k1:=k1) (k2:=k2) (k3:=k3) (k5:=k5) (mN:=mN) PySem.F.excBase_ValueError (TL.hasType PySem.F.excBase_ValueError.hasBase) (I.ok.hd rfl) rfl hni (iR I hg hC.bound ⟨rfl,?_⟩ hdb)
 refine Calls.evalArgs_plain (Calls.spliced_cons (Calls.Constant_str (k:=j) (pos:=sp) (Calls.spliced_nil ⟨rfl,by show 1<=sizeLine;decide,hCo,hN,TL,λh' e m=>?_⟩)))
 exact pO (I.tok _) m (q H1 R1 EO.ext)
inductive Out
 | ret (T:RT)
 | exc (cls:Value)
abbrev rV:=PySem.W.Frag->List Pk->Out->Prop
def Out.meets (H R:Hp)(Q:VK)(E:XK):Out->Prop
 | .ret T=>∀v H' R',Ext H R H' R'->T H v H' R'->Q v H'
 | .exc c=>∀H' R',Ext H R H' R'->E c none H'
def nJ (S:rV)(K:PySem.W.Frag):Sp:=λvs H Q E=>∃R ps o,ar R H/\eZ K R vs ps/\S K ps o/\o.meets H R Q E
structure iJ (P:Program) (w:World) (K:PySem.W.Frag) (mg:Str->Option Value) (base:Heap) (x:Str) (k:Nat) (sp:Sp):Prop where
 ex:∃f fd ps,eV P w K mg base (mH P w) k f fd ps sp/\mg x=some (.ref f)/\PySem.W.keepIn K (.ref f)=true/\Binds K fd ps []
theorem iJ.mono {P:Program}{w:World}{K:PySem.W.Frag}{mg:Str->Option Value}{base:Heap}{x:Str}{j k:Nat}{sp:Sp}(c:iJ P w K mg base x j sp)(h:j<=k):iJ P w K mg base x k sp:=by
 obtain ⟨f,fd,ps,F,a,b,c⟩:=c.ex
 exact ⟨f,fd,ps,F.mono h,a,b,c⟩
section
variable {P:Program}{w:World}{K:PySem.W.Frag}{mg:Str->Option Value}{base:Heap}
theorem Ao {S:rV}{x qual:Str}{st:Stmt}{f:Addr}{fd:FuncData}{N ps:List Str}{k:Nat}(F:bH K x qual st f fd)(Sc:aC N ps (ai st))(hm:mg x=some (.ref f))(hb:Binds K fd ps [])(len:∀qs o,S K qs o->qs.length=ps.length)
 (hret:∀(cdv:Value) (A:Around) (outer:List Env) (s:Shared) (H:Hp) (E:XK) (qs:List Pk) (T:RT),bA k (A.deeper (envOfC qual (ai st) s.heap.objs.size f cdv))->S K qs (.ret T)->
  WS (cL dQ P w K mg base N qual (ai st) f cdv A outer s H E).c8 (br st) (dB qs N.length) (λ_=>False) T)
 (hexc:∀(cdv:Value) (A:Around) (outer:List Env) (s:Shared) (H R:Hp) (E:XK) (qs:List Pk) (c:Value),bA k (A.deeper (envOfC qual (ai st) s.heap.objs.size f cdv))->S K qs (.exc c)->(∀H' R',Ext H R H' R'->E c none H')->
  RS (cL (mH P w) P w K mg base N qual (ai st) f cdv A outer s H E) H R (br st) (dB qs N.length)):iJ P w K mg base x (k + 1) (nJ S K):=by
 obtain ⟨oc,od,kV,doc,pm,an,cdv,ct,osl,rfl,lk,hcd⟩:=F.ex
 refine ⟨f,_,ps,?_,hm,F.kp,hb⟩
 refine yp lk hcd Sc (λvs H Q E h=>?_) (λA outer s H vs Q E hr h=>?_)
 ·obtain ⟨R,qs,o,_,p,hS,_⟩:=h
  rw [p.length];exact len qs o hS
 ·obtain ⟨R,qs,o,sR,p,hS,q⟩:=h
  have hl:qs.length<=N.length:=by
   rw [len qs o hS]
   have:=congrArg List.length Sc.pre
   rw [List.length_take] at this
   omega
  cases o with
  | ret T=>
    have hw:=hret cdv A outer s H E qs T hr hS (L2.start N vs) H R H R (eA sR p hl) {nx:=λ_ H'=>Q .non H',rt:=Q} (λ_ _ _ _ _ _ f=>f.elim) λv H' R' xx t=>q v H' R' xx t
    have hp:gI (cL (mH P w) P w K mg base N qual (ai st) f cdv A outer s H E).c8 (br st) (jz (cL (mH P w) P w K mg base N qual (ai st) f cdv A outer s H E).c8 (br st)):=eI
    exact ⟨_,hp.c8,hw⟩
  | exc c=>exact ⟨_,eI,hexc cdv A outer s H R E qs c hr hS q (L2.start N vs) H R (eA sR p hl) _⟩
end
abbrev ik (X:Cx)(e:Addr)(o:Obj):Cx:={X with pn:=(e,o)::X.pn}
theorem Ok.pin {X:Cx}(ok:X.Ok)(e:Addr)(o:Obj):(ik X e o).Ok:=
 ⟨ok.mod,ok.kind,ok.glob,ok.blt,ok.above,ok.inj,ok.has,ok.cab,ok.hd,ok.frames,ok.stk,ok.exf,ok.bs,ok.bsz,ok.noex,ok.exfs,ok.funs,ok.frf⟩
theorem Ok.sr {X:Cx}{e:Addr}{o:Obj}(ok:(ik X e o).Ok):X.Ok:=
 ⟨ok.mod,ok.kind,ok.glob,ok.blt,ok.above,ok.inj,ok.has,ok.cab,ok.hd,ok.frames,ok.stk,ok.exf,ok.bs,ok.bsz,ok.noex,ok.exfs,ok.funs,ok.frf⟩
section
variable {X:Cx}{pins:List (Addr×Obj)}{σ:St}{H:Hp}{s:Shared}{e:Addr}{o:Obj}
theorem Inv.pinned (I:Inv X pins σ H s)(h:s.heap.get? e=some o/\H e=none/\e≠X.env.locals/\e∉X.fs/\∀v,o.data≠ .cell v):Inv (ik X e o) pins σ H s:=
 ⟨Ok.pin I.ok e o,I.os,I.bare,I.base,I.loc,I.cell,I.free,I.freeC,λp hp=>by
  rcases List.mem_cons.mp hp with rfl | hp
  ·exact h
  ·exact I.pin p hp,I.hok,I.len⟩
theorem Inv.eC (I:Inv (ik X e o) pins σ H s):Inv X pins σ H s:=
 ⟨Ok.sr I.ok,I.os,I.bare,I.base,I.loc,I.cell,I.free,I.freeC,λp hp=>I.pin p (List.mem_cons_of_mem _ hp),I.hok,I.len⟩
theorem SP.sr {D:Ends}{f:Flow}{s':Shared}(h:SP (ik X e o) pins D f s'):SP X pins D f s':=by
 cases f with
 | next=>obtain ⟨σ',H',I,q⟩:=h;exact ⟨σ',H',Inv.eC I,q⟩
 | brk=>obtain ⟨σ',H',I,q⟩:=h;exact ⟨σ',H',Inv.eC I,q⟩
 | cont=>obtain ⟨σ',H',I,q⟩:=h;exact ⟨σ',H',Inv.eC I,q⟩
 | ret u=>obtain ⟨v,σ',H',I,r,q⟩:=h;exact ⟨v,σ',H',Inv.eC I,r,q⟩
abbrev markX (X:Cx)(v:Value):Cx:={X with A:=X.A.mark (some v),calm:=false,xe:=λ_ _=>False}
theorem Inv.marked (I:Inv X pins σ H s)(v:Value):Inv (markX X v) pins σ H s:=
 ⟨⟨I.ok.mod,I.ok.kind,I.ok.glob,I.ok.blt,I.ok.above,I.ok.inj,I.ok.has,I.ok.cab,(λz=>by cases z),I.ok.frames,I.ok.stk,I.ok.exf,I.ok.bs,I.ok.bsz,I.ok.noex,I.ok.exfs,I.ok.funs,I.ok.frf⟩,
   I.os,I.bare,I.base,I.loc,I.cell,I.free,I.freeC,I.pin,I.hok,I.len⟩
theorem Inv.unmarked {v:Value}(c:X.calm=true->X.A.handled=none)(I:Inv (markX X v) pins σ H s):Inv X pins σ H s:=
 ⟨⟨I.ok.mod,I.ok.kind,I.ok.glob,I.ok.blt,I.ok.above,I.ok.inj,I.ok.has,I.ok.cab,c,I.ok.frames,I.ok.stk,I.ok.exf,I.ok.bs,I.ok.bsz,I.ok.noex,I.ok.exfs,I.ok.funs,I.ok.frf⟩,
   I.os,I.bare,I.base,I.loc,I.cell,I.free,I.freeC,I.pin,I.hok,I.len⟩
theorem vq {M:Model}{A:Around}{E:Value->Shared->Prop}{i:Nat}{x:Str}{pos:Pos}{Q:Unit->Shared->Prop}(I:Inv X pins σ H s)(hN:X.N.Nodup)(hi:X.N[i]?=some x)(hk:X.env.scope.names.lookup x=some .local)
 (h:∀s',Inv X pins (σ.set i none) H s'->Q () s'):wpAny M A (do bindName X.env x .none;unbindBehindTheSuite X.env x pos) Q E s:=by
 obtain ⟨m,hn,hl⟩:=id I.loc
 have hcls:(X.env.scope.kind== .class ||(X.env.scope.kind== .module&&X.env.locals != X.env.globals))=false:=by rw [I.ok.kind];rfl
 have cne:=I.cne
 refine wpAny_nameGoes_keeps hk hn hcls λh' v hn' hs=>?_
 obtain ⟨oL,_,_,hoL,_⟩:=id hn
 have tracked:cG X.prog X.w H h':=λb ob e=>by
  refine (I.hok b ob e).stay (λc w' hc q=>(hs.2 c ?_).trans q) (λ_ q=>q) λ_ _ q=>q
  rintro rfl
  rcases hc with rfl | hc
  ·rw [I.free] at e;cases e
  ·rw [I.free] at hc;cases hc
 refine h _ ⟨I.ok,I.os,I.bare,⟨λb o e n hb hx=>?_,λb o e n hb hx=>?_,I.base.free,λb o e hx=>?_,I.base.tups,I.base.frzs,I.base.tbls⟩,⟨_,hn',λj y v' e1 e2 e3=>?_⟩,λy c e=>?_,I.free,I.freeC,λp hp=>?_,tracked,by simpa using I.len⟩
 ·exact (hs.2 b (Nat.ne_of_lt (Nat.lt_of_lt_of_le (Heap.lt_size e) I.ok.above))).trans (I.base.keep b o e n hb hx)
 ·obtain ⟨sl,e1⟩:=I.base.slot b o e n hb hx
  exact ⟨sl,(hs.2 b (Nat.ne_of_lt (Nat.lt_of_lt_of_le (Heap.lt_size e) I.ok.above))).trans e1⟩
 ·obtain ⟨o',e1⟩:=I.base.there b o e hx
  exact ⟨o',(hs.2 b (Nat.ne_of_lt (Nat.lt_of_lt_of_le (Heap.lt_size e) I.ok.above))).trans e1⟩
 ·by_cases hj:j=i
  ·subst hj
   rw [List.getElem?_set] at e2
   split at e2
   ·split at e2<;>cases e2
   ·rename_i z;exact absurd rfl z
  ·rw [List.getElem?_set_ne (Ne.symm hj)] at e2
   obtain ⟨u',r',q⟩:=hl j y v' e1 e2 e3
   refine ⟨u',r',?_⟩
   rcases q with ⟨k,e⟩ | ⟨k,c,e,z⟩
   ·refine .inl ⟨k,?_⟩
    have:y≠x:=λe=>hj (lI hN e1 (e▸hi))
    simp [this,e]
   ·exact .inr ⟨k,c,e,z.sameBut hs (cne y c e)⟩
 ·obtain ⟨w',z⟩:=I.cell y c e
  exact ⟨w',z.sameBut hs (cne y c e)⟩
 ·obtain ⟨e,n,ne,nf,d⟩:=I.pin p hp
  exact ⟨(hs.2 p.1 ne).trans e,n,ne,nf,d⟩
end
section
variable {X:Cx}{σ:St}{cls:Value}
theorem ji.c8 {es:List Expr}{Q:List V->Hp->Prop}{H:Hp}(h:ji X.c8 es σ H Q)(E:Value->Shared->Prop):∀(pos:Pos) (pins:List (Addr×Obj)) (s:Shared),Inv X pins σ H s->wpAny (model X.prog X.w) X.A (spliced (backTo pos (starEach es X.env))) (AP X pins σ Q) E s:=λpos pins s I=>
 wpAny_mono (h pos pins s (I.gF _)) (λ_ _ ⟨vs,H',I',r,q⟩=>⟨vs,H',I'.e8,r,q⟩) λ_ _ z=>False.elim z
theorem xi {S:rV}{x:Str}{k:Nat}{e:Expr}{es:List Expr}{p pos:Pos}{ps:List Pk}{H0 R0 H R:Hp}{Γ Γ1:Ga}{pins:List (Addr×Obj)}{s:Shared}{Q:Value->Shared->Prop}{Ex:Value->Shared->Prop}
 (C:iJ X.prog X.w X.K X.mg X.base x k (nJ S X.K)) (hr:bA k X.A) (ha:HA X.c8 (e::es) Γ ps Γ1) (hS:S X.K ps (.exc cls)) (E:aq X.K σ H0 R0 H R Γ) (I:Inv X pins σ H s)
 (q:∀s1 H1 ea T H' R' s',Inv X pins σ H1 s1->s'.os=s1.os->AllBare s'.gens->Un (c4 X.stack) [] H1 H' s1.heap s'.heap->cG X.prog X.w H' s'.heap->xX s1.heap s'.heap H' ea T cls->aq X.K σ H0 R0 H' R' Γ1->ar R R'->Ex (.ref ea) s')
 (hg:Gl X x) (hdb:(x==("__debug__":Str))=false) (he:starEach (e::es) X.env=(false,eval e X.env)::starEach es X.env) (hpl:(backTo pos (starEach es X.env)).any (·.1)=false):
 wpAny (model X.prog X.w) X.A (eval (.Call (.Name x p) (e::es) [] pos) X.env) Q Ex s:=by
 obtain ⟨f,fd,pn,F,hm,hk,hb⟩:=C.ex
 refine wpAny_Call_Name_kw (iR I hg hm ?_ hdb)
 refine PySem.W.callWith_K (h₀:=X.base) I.ok.mod.kin hk (aO (ji.c8 (ha σ H0 R0 H R E (λvs H1=>∃R1,aq X.K σ H0 R0 H1 R1 Γ1/\ar R R1/\eZ X.K R1 vs ps) λvs H1 R1 E1 s1 p1=>⟨R1,E1,s1,p1⟩) Ex pos pins s I) λus s1 ⟨vs,H1,I1,r,R1,E1,sR,p1⟩=>⟨I1.eL,?_⟩) he hpl
 have r2:Vals (vs++[]) (us++[]):=by rw [List.append_nil,List.append_nil];exact r
 have sp:nJ S X.K (vs++[]) H1 (λ_ _=>False) (λc _ H'=>c=cls/\∃R',Ext H1 R1 H' R'):=⟨R1,ps,.exc cls,E1.sub,by rw [List.append_nil];exact p1,hS,λH' R' xx=>⟨rfl,R',xx⟩⟩
 have hl:(us++[]).length=pn.length:=by rw [← r2.length];exact F.len _ _ _ _ sp
 refine wpAny_call (codeAny_mono (F.run X.A X.stack s1 H1 ⟨us,[]⟩ (us++[]) (vs++[]) _ _ hr I1.A3 (hb s1 us I1.eL hl) r2 sp) λr s' hq=>?_)
 cases r with
 | error ev=>
   obtain ⟨ea,T,c,H',rfl,ho,bare,un,hok,fly,rfl,R',xx⟩:=hq
   exact q s1 H1 ea T H' R' s' I1 ho bare un hok fly (E1.grow xx) (sR.trans xx.r)
 | ok fl=>
   cases fl with
   | ret u=>obtain ⟨_,_,_,_,_,_,_,z⟩:=hq;exact z.elim
   | next=>exact False.elim hq
   | brk=>exact False.elim hq
   | cont=>exact False.elim hq
theorem uz {P:Program}{w:World}{fs:List Addr}{H1 H':Hp}{h1 h' h2:Heap}{e T:Addr}(u:Un fs [] H1 H' h1 h')(hok:cG P w H' h')(fly:xX h1 h' H' e T cls)(hf:∀b∈fs,H' b=none)
 (st:(PySem.W.hideAll h' (e::T::fs)).StaysIn h2) (up:∀b o,h'.get? b=some o->b∈fs->∃sl,h2.get? b=some {o with slots:=sl}):Un fs [] H1 H' h1 h2/\cG P w H' h2:=by
 have keep:∀b o,h'.get? b=some o->b∉fs->b≠e->b≠T->h2.get? b=some o:=λb o q hb n1 n2=>st b o (PySem.W.hideAll_get _ q λz=>by
  rcases List.mem_cons.mp z with z | z
  ·exact n1 z
  ·rcases List.mem_cons.mp z with z | z
   ·exact n2 z
   ·exact hb z)
 have n1:∀b o,h1.get? b=some o->b≠e:=λb o q z=>by rw [z,fly.ne] at q;cases q
 have n2:∀b o,h1.get? b=some o->b≠T:=λb o q z=>by rw [z,fly.nT] at q;cases q
 refine ⟨⟨λb o q n hb hx=>keep b o (u.keep b o q n hb hx) hb (n1 b o q) (n2 b o q),λb o q n hb hx=>?_,u.free,λb o q hx=>?_,u.tups,u.frzs,u.tbls⟩,λb x q=>?_⟩
 ·obtain ⟨sl,r⟩:=u.slot b o q n hb hx
  obtain ⟨sl',r'⟩:=up b _ r hb
  exact ⟨sl',r'⟩
 ·obtain ⟨o',r⟩:=u.there b o q hx
  by_cases hb:b∈fs
  ·obtain ⟨sl',r'⟩:=up b _ r hb;exact ⟨_,r'⟩
  ·exact ⟨_,keep b o' r hb (n1 b o q) (n2 b o q)⟩
 ·refine (hok b x q).stay (λc v hc r=>?_) (λ_ r=>r) λ_ _ r=>r
  have hc':H' c≠none:=by
   rcases hc with rfl | hc
   ·rw [q];exact Option.some_ne_none _
   ·rw [hc];exact Option.some_ne_none _
  exact keep c v r (λz=>hc' (hf c z)) (λz=>hc' (z▸fly.fe)) λz=>hc' (z▸fly.fT)
theorem j9 {h h' b0 h0:Heap}{fs:List Addr}:∀{l:List Env},h.FunFrames b0 l->(∀b∈c4 l,∀o,h.get? b=some o->∃sl,h'.get? b=some {o with slots:=sl})->(∀b∈c4 l,b∈fs)->h'.FunFrames (PySem.W.hideAll h0 fs) l
 | [],_,_,_=>trivial
 | env::rest,hl,hk',hs=>by
   obtain ⟨hk,⟨L,o,hf,hn,ho,hd⟩,hr⟩:=hl
   have hL:L∈c4 (env::rest):=by
    show L∈(env::rest).filterMap (·.frame)
    rw [List.filterMap_cons,hf];exact List.mem_cons_self
   have hT:∀b∈c4 rest,b∈c4 (env::rest):=λb hb=>by
    show b∈(env::rest).filterMap (·.frame)
    rw [List.filterMap_cons,hf];exact List.mem_cons_of_mem _ hb
   obtain ⟨sl,e⟩:=hk' L hL o ho
   exact ⟨hk,⟨L,_,hf,PySem.W.hideAll_none fs (hs L hL),e,hd⟩,j9 hr (λb hb=>hk' b (hT b hb)) λb hb=>hs b (hT b hb)⟩
theorem Cc {H1 H':Hp}{pins:List (Addr×Obj)}{s1 s':Shared}{e T:Addr}{Q:Flow->Shared->Prop}{ce n y:Str}{CE:Addr}{np p1 p2 p3 hp:Pos}{i j:Nat}
 (I1:Inv X pins σ H1 s1) (ho:s'.os=s1.os) (bare:AllBare s'.gens) (un:Un (c4 X.stack) [] H1 H' s1.heap s'.heap) (hok:cG X.prog X.w H' s'.heap) (fly:xX s1.heap s'.heap H' e T cls)
 (hst:X.stack=X.env::X.outer) (hef:X.env.frame=some X.env.locals) (hm:X.mg ce=some (.ref CE)) (hx:PySem.W.exmOne X.K cls (.ref CE)=some true) (hg:Gl X ce) (hdb:(ce==("__debug__":Str))=false)
 (hN:X.N.Nodup) (hi:X.N[i]?=some n) (hj:X.N[j]?=some y) (hin:X.env.scope.names.lookup n=some .local) (hjy:X.env.scope.names.lookup y=some .local)
 (hs:swapsWith (.Name n p2) (some (.Name y p1)) p3.line X.env=pure false) (hnd:(n==("__debug__":Str))=false) (hnc:(n==("__classdict__":Str))=false)
 (q:∀oe s6,oe.cls=cls->Inv (ik X e oe) pins (((σ.set i (some (.ref e))).set j (some (.ref e))).set i none) H' s6->Q .next s6):
 wpAny (model X.prog X.w) X.A (noteFrame (.ref e) X.env) (λ_ s₂=>wpAny (model X.prog X.w) X.A (setFlight (.ref e) none) (λ_ s₃=>
  wpAny (model X.prog X.w) X.A (handleBy (.ref e) X.env [.ExceptHandler (some (.Name ce np)) (some n) [.Assign [.Name y p1] (.Name n p2) p3] hp]) Q X.xe s₃) X.xe s₂) X.xe s':=by
 have hA:X.A.frames=some (X.env::X.outer):=by rw [← hst];exact I1.ok.frames
 have hfs:∀b∈c4 X.stack,H' b=none:=λb hb=>by
  obtain ⟨_,o,r,_⟩:=I1.stack.mem hb
  exact un.free b o r (I1.iQ b hb) List.not_mem_nil
 have hsl:∀b∈c4 X.stack,∀o,s1.heap.get? b=some o->∃sl,s'.heap.get? b=some {o with slots:=sl}:=λb hb o r=>un.slot b o r (I1.iQ b hb) hb List.not_mem_nil
 have hff:s'.heap.FunFrames (PySem.W.hideAll s'.heap (e::T::c4 X.stack)) (X.env::X.outer):=by
  have:=j9 (h0:=s'.heap) (fs:=e::T::c4 X.stack) I1.stack hsl λb hb=>List.mem_cons_of_mem _ (List.mem_cons_of_mem _ hb)
  rw [hst] at this ⊢;exact this
 obtain ⟨oe,vs,oT,ts,a0,he,hc,hd,h1,hTe,hT,hdT,h3⟩:=fly.ex
 have hfl:Heap.FlyingW (PySem.W.hideAll s'.heap (e::T::c4 X.stack)) (X.env::X.outer) e cls a0 s'.heap:=
  ⟨λb o z=>PySem.W.of_hideAll _ z,PySem.W.hideAll_none _ List.mem_cons_self,hff,oe,vs,T,oT,ts,he,hc,hd,h1,PySem.W.hideAll_none _ (List.mem_cons_of_mem _ List.mem_cons_self),hTe,hT,hdT,h3⟩
 have upF:∀{h2:Heap},s'.heap.UpToSlots h2->∀b o,s'.heap.get? b=some o->b∈c4 X.stack->∃sl,h2.get? b=some {o with slots:=sl}:=λ{h2} up b o r hb=>by
  have hb':b∈(X.env::X.outer).filterMap (·.frame):=by rw [← hst];exact hb
  obtain ⟨_,o2,r2,nf⟩:=hff.mem hb'
  rw [r] at r2;cases r2
  exact up b o r nf
 have nL:e≠X.env.locals:=λz=>by
  obtain ⟨m,⟨o,_,_,r,_⟩,_⟩:=id I1.loc
  rw [← z,fly.ne] at r;cases r
 have nF:e∉X.fs:=λz=>by
  have z':e∈c4 X.stack:=by
   rw [hst]
   show e∈(X.env::X.outer).filterMap (·.frame)
   rw [List.filterMap_cons,hef];exact List.mem_cons_of_mem _ z
  obtain ⟨_,o,r,_⟩:=I1.stack.mem z'
  rw [fly.ne] at r;cases r
 refine wpAny_looks_onW hA hef hfl λh4 held4 up4=>?_
 refine wpAny_landsW held4 λh5 fl5 up5=>?_
 obtain ⟨u5,ok5⟩:=uz un hok fly hfs fl5.1 (upF (up4.trans up5))
 have I5:Inv X pins σ H' {s' with heap:=h5}:=Inv.sC (ch:=[]) (s':={s' with heap:=h5}) I1 ho u5 ok5 bare λb z=>absurd z List.not_mem_nil
 refine wpAny_handleBy_cons (codeAny_handlers_test (iR (Inv.marked I5 (.ref e)) hg hm ?_ hdb)) (by intro q;cases q)
 obtain ⟨oe5,vs5,he5,hc5,hd5,_⟩:=fl5.first
 have LT:PySem.W.Looks (model X.prog X.w) h5 (typeOf (.ref e)) cls:=hc5▸(PySem.W.Looks.ld he5).andThen .now
 refine (PySem.W.exm_one (M:=model X.prog X.w) (show X.K.In h5 from I5.eL) LT hx).here ?_
 refine codeAny_handlers_suite_as (lands_againW fl5 λh6 fl6 up6=>?_)
 obtain ⟨u6,ok6⟩:=uz un hok fly hfs fl6.1 (upF ((up4.trans up5).trans up6))
 have I6:Inv X pins σ H' {s' with heap:=h6}:=Inv.sC (ch:=[]) (s':={s' with heap:=h6}) I1 ho u6 ok6 bare λb z=>absurd z List.not_mem_nil
 obtain ⟨oe6,vs6,he6,hc6,hd6,_⟩:=fl6.first
 have I6p:Inv (ik X e oe6) pins σ H' {s' with heap:=h6}:=Inv.pinned I6 ⟨he6,fly.fe,nL,nF,λv z=>by rw [hd6] at z;cases z⟩
 refine lr (X:=ik X e oe6) I6p hN hi (.inl hin) (v:=.ref e) rfl (λs7 I7=>?_) (.inr hin)
 have P7:=(eY (X:=markX (ik X e oe6) (.ref e)) (i:=j) (pos:=p3) hN hj (.inl hjy) (aU (i:=i) (pos:=p2) hi (.inl hin) hnd hnc) hs (.inr hjy)) pins s7 _ H' {nx:=λσ' H2=>σ'=(σ.set i (some (.ref e))).set j (some (.ref e))/\H2=H',rt:=λ_ _=>False} (Inv.marked I7 (.ref e))
  ⟨.ref e,List.getElem?_set_self (by rw [I1.len];exact (List.getElem?_eq_some_iff.mp hi).1),rfl,rfl⟩
 refine wpAny_execs_cons (wpAny_mono P7 (λf s8 z=>?_) λ_ _ z=>False.elim z)
 cases f with
 | next=>
   obtain ⟨σ',H2,I8,rfl,rfl⟩:=z
   refine wpAny_execs_nil ?_
   exact vq (X:=ik X e oe6) (Inv.unmarked (λ_=>I6p.ok.hd (by assumption)) I8) hN hi hin λs9 I9=>q oe6 s9 hc6 I9
 | brk=>obtain ⟨_,_,_,z⟩:=z;exact z.elim
 | cont=>obtain ⟨_,_,_,z⟩:=z;exact z.elim
 | ret u=>obtain ⟨_,_,_,_,_,z⟩:=z;exact z.elim
end
end Fc
namespace Fc
open PySem PySem.Spec PySem.W PySem.Calls PySem.Builtin.ObjectAttr PySem.Builtin.Getset_descriptor L2
open PyProof.Rows hiding St
def kz (x D:Addr)(h:Heap):Prop:=∃ox,h.get? x=some ox/\ox.cls= .ref D
theorem kz.ty {M:Model}{h:Heap}{x D:Addr}(p:kz x D h):Looks M h (typeOf (.ref x)) (.ref D):=by
 obtain ⟨ox,h1,h2⟩:=p
 exact h2▸(Looks.ld h1).andThen .now
def dF (K:Frag)(D:Addr):Bool:=(findIn K (.ref D) "__getattribute__"==some (some (.builtin "BaseException.__getattribute__")))&&(findIn K (.ref D) "__getattr__"==some none)&&(findIn K (.ref D) "__class__"==some (some (.builtin "object.__class__")))&&(specialIn K (.builtin "object.__class__") "__get__"==some (some (.builtin "getset_descriptor.__get__")))
 &&(takesIn K (.builtin "object.__class__")==some true)&&(mroIn K D (.type "object")==some true)&&(subIn K (.ref D) (.type "BaseException")==some true)&&(clsIn K D).isSome
section
variable {K:Frag}{D x:Addr}{prog:Program}{w:World}{A:Around}{E:Value->Shared->Prop}{s:Shared}
theorem uJ {Q:Option Value->Shared->Prop}(e:dF K D=true)(X:K.In s.heap)(p:kz x D s.heap)(h:Q (some (.ref D)) {s with toks:=s.toks + 1}):wpAny (model prog w) A (getAttr? (.ref x) "__class__") Q E s:=by
 unfold dF at e
 simp only [Bool.and_eq_true,beq_iff_eq] at e
 obtain ⟨⟨⟨⟨⟨⟨⟨hga,hgk⟩,ha⟩,hn⟩,htk⟩,hm⟩,hsb⟩,hc⟩:=e
 obtain ⟨hh,g,d,t,os⟩:=s
 have X:K.In hh:=X
 have p:kz x D hh:=p
 have L0:=p.ty (M:=model prog w)
 have L1:=looks_findIn (M:=model prog w) X hga
 have L2:=looks_findIn (M:=model prog w) X hgk
 have LB:Looks (model prog w) hh (isSubtype (.ref D) (.type "BaseException")) true:=looks_subIn X hsb
 have F1:Looks (model prog w) hh (find (.ref x) (.ref D) "__class__") (.bind (.builtin "getset_descriptor.__get__") (.builtin "object.__class__")):=by
  refine (looks_findIn X ha).andThen ((show Looks _ hh (getOf (some (.builtin "object.__class__"))) (some (.builtin "getset_descriptor.__get__")) from looks_specialIn X hn).andThen ?_)
  exact (show Looks _ hh (dataDescriptor? (some (.builtin "object.__class__")) (some (.builtin "getset_descriptor.__get__"))) (some (.builtin "getset_descriptor.__get__",.builtin "object.__class__")) from (looks_takesIn X htk).andThen .now).andThen (Looks.tag .now)
 have M1:=looks_mroIn (M:=model prog w) X hm
 have hx2:(Value.builtin "BaseException.__getattribute__"==Value.builtin "object.__getattribute__")=false:=by decide +kernel
 have hx1:(onTheHeap (Value.ref D)&&Value.builtin "BaseException.__getattribute__"==Value.builtin "object.__getattribute__")=false:=by rw [hx2];rfl
 unfold getAttr? getAttrBy? getAttrBy
 refine wpAny_bind (wpAny_mkText (wpAny_bind (wpAny_attempt (wpAny_holding (wpAny_bind (L0.at (wpAny_bind (L1.at ?_))))))))
 dsimp only
 rw [hx1]
 simp only [Bool.false_eq_true,if_false]
 unfold getAttrByItsOwn hookBefore
 have f3:=PySem.F.attr_ValueError.ga.bind (.ref x)
 refine wpAny_bind (L2.at ?_)
 refine wpAny_bind (wpAny_attempt (wpAny_holding ?_))
 show wpAny _ _ (boundAndCalled _ _ _) _ _ _
 unfold boundAndCalled
 refine wpAny_bind (wpAny_of_eq f3 ?_)
 have hkd:builtinKind "BaseException.__getattribute__"=some .slot:=by decide +kernel
 have hsplit:splitId "BaseException.__getattribute__"=some ("BaseException","__getattribute__"):=by decide +kernel
 have hargs:=PySem.F.args_bexc_ga (.ref x) (.str "__class__" t)
 refine wpAny_call (codeAny_call_builtin PySem.F.attr_ValueError.ga.plain PySem.F.entry_bexc_ga ?_)
 show wpAny _ _ (checkBuiltinCall "BaseException.__getattribute__" ⟨[.ref x,.str "__class__" t],[]⟩) _ _ _
 simp only [checkBuiltinCall,hkd,hsplit]
 refine wpAny_bind ?_
 unfold isInstance
 repeat lk
 refine wpAny_run ?_
 refine codeAny_call_builtin KF.slot_gs.plain KF.entry_gs (KF.slot_gs.check _ _ _ _ _ _ _ _ KF.type_class (KF.args_gs _ _ _) ?_)
 unfold Builtin.«getset_descriptor.__get__» descrGet
 rw [dga_obj]
 refine wpAny_bind (wpAny_pure ?_)
 unfold descrGetter descrCheckInstance descrNameAndClass isInstance
 simp only [KF.owner_class]
 repeat lk
 refine ⟨Code.quiet_builtin _ (by decide +kernel),codeAny_builtin KF.entry_class ?_⟩
 unfold Builtin.«object.__class__» shownTypeOf
 repeat lk
 exact h
theorem pS (e:dF K D=true):KitX K (.ref x) (.ref D) (kz x D) where
 ty:=λ_ _ _ p=>p.ty
 it:=λ_ _ X _=>by
  unfold dF at e
  rw [Bool.and_eq_true] at e
  have hc:=e.2
  unfold clsIn at hc
  split at hc
  ·rename_i c' d' cd' sl' ho
   intro A' Q' E' s' k q
   unfold isType loadHead
   exact wpAny_bind (wpAny_loadPart (k _ _ (X _ _ ho)) (wpAny_pure q))
  ·cases hc
 ne:=λh tp dd its n sl X htp=>by
  unfold dF at e
  rw [Bool.and_eq_true] at e
  have hc:=e.2
  refine Bool.eq_false_iff.mpr λq=>?_
  have z:D=tp:=Value.ref.inj (beq_iff_eq.mp q)
  subst z
  unfold clsIn at hc
  split at hc
  ·rename_i c' d' cd' sl' ho
   have z:=(X _ _ ho).symm.trans htp
   cases z
  ·cases hc
 ca:=λX p k=>uJ e X p k
end
section
variable {X:Cx}{Γ Γ1:Ga}{ea D:Addr}{oe:Obj}
variable {i:Nat}{x:Str}{p p1 p2 pos:Pos}{b:Bool}
theorem pJ {pins:List (Addr×Obj)}{σ:St}{H:Hp}{s:Shared}(I:Inv X pins σ H s)(hp:(ea,oe)∈X.pn)(hc:oe.cls= .ref D):kz ea D s.heap:=
 ⟨oe,(I.pin _ (List.mem_append_left _ hp)).1,hc⟩
theorem nW (hp:(ea,oe)∈X.pn)(hc:oe.cls= .ref D)(el:dF X.K D=true):dR X (.builtin "isinstance") (λxs H Q=>∃c cv b,xs=[.ref ea,c]/\RelV c cv/\(∀u,RelV c u->u=cv)/\kitOne X.K (.ref D) cv=some b/\Q (.bl b) H):=by
 intro pins s σ H xs us Q I r h
 obtain ⟨c,cv,b,rfl,_,hu,e,q⟩:=h
 obtain ⟨u,u2,rfl,r1,r2⟩:=vals2 r
 cases (show u=Value.ref ea from r1)
 cases hu u2 r2
 exact kia_one (pS el) I.eL (pJ I hp hc) e (λz=>nomatch z) λtk=>⟨.bl b,H,I.tok tk,rfl,q⟩
theorem vb (hp:(ea,oe)∈X.pn)(hc:oe.cls= .ref D)(el:dF X.K D=true):dR X (.builtin "isinstance") (λxs H Q=>∃(a:Addr) (cs:List Addr) (b:Bool),xs=[.ref ea,.ref a]/\H a=some (.tup (cs.map V.ref))/\kitAny X.K (.ref D) (cs.map Value.ref)=some b/\Q (.bl b) H):=by
 intro pins s σ H xs us Q I r h
 obtain ⟨a,cs,b,rfl,ha,e,q⟩:=h
 obtain ⟨u,u2,rfl,r1,r2⟩:=vals2 r
 cases (show u=Value.ref ea from r1)
 cases (show u2=Value.ref a from r2)
 obtain ⟨_,its,vs,tp⟩:=(show bT X.prog X.w H s.heap a (.tup (cs.map V.ref)) from I.hok a _ ha)
 have hi:its=cs.map Value.ref:=by
  have key:∀{cs:List Addr} {its:List Value},Vals (cs.map V.ref) its->its=cs.map Value.ref:=by
   intro cs
   induction cs with
   | nil=>intro its v;cases v;rfl
   | cons c cs ih=>
     intro its v
     cases v with
     | cons h t=>rw [ih t];cases (show _=Value.ref c from h);rfl
  exact key vs
 subst hi
 obtain ⟨o,h1,h2,n,h3⟩:=tp
 obtain ⟨oc,od,odt,osl⟩:=o
 dsimp only at h2 h3
 subst h2 h3
 exact kia_tup (pS el) I.eL (pJ I hp hc) h1 e (λz=>nomatch z) λtk=>⟨.bl b,H,I.tok tk,rfl,q⟩
def lD (ea:Addr):Rep Unit:=⟨λ_ _ v _=>v= .ref ea,λ_ h=>h⟩
theorem y4 {y:Str}{C:Addr}(hp:(ea,oe)∈X.pn)(hc:oe.cls= .ref D)(el:dF X.K D=true)(hm:X.mg "isinstance"=none)(hΓ:Γ[i]?=some (.im (lD ea) ()))(hmy:X.mg y=some (.ref C))(ht:kitOne X.K (.ref D) (.ref C)=some b)
 (hN:autoParam (X.N[i]?=some x) Fc.ag) (hv:autoParam (bR X.env.scope x) Fc.bq) (hd:autoParam ((x==("__debug__":Str))=false) Fc.av) (hcd:autoParam ((x==("__classdict__":Str))=false) Fc.av)
 (hs:autoParam (starEach [.Name x p1,.Name y p2] X.env=(false,eval (.Name x p1) X.env)::starEach [.Name y p2] X.env) Fc.ag) (hg:autoParam (Gl X "isinstance") Fc.ag) (hgy:autoParam (Gl X y) Fc.ag) (hdy:autoParam ((y==("__debug__":Str))=false) Fc.av):
 EV X (.Call (.Name "isinstance" p) [.Name x p1,.Name y p2] [] pos) Γ aR b Γ:=by
 intro σ H0 R0 H R E Q q
 refine eS (da (nW hp hc el) hg hm PyProof.Rows.boot_isinstance (aD aI (aD (iZ (v:=.ref C) hgy hmy rfl hdy) bp rfl) hs) (by decide) (by decide) hs rfl) (aa i hΓ hN hv hd hcd σ H0 R0 H R E _ λv H1 R1 E1 s1 e1=>?_)
 cases (show v=V.ref ea from e1)
 exact ⟨.ref C,.ref C,b,rfl,rfl,λu h=>h,ht,q _ H1 R1 E1 s1 rfl⟩
theorem yZ {y:Str}{c:String}(hp:(ea,oe)∈X.pn)(hc:oe.cls= .ref D)(el:dF X.K D=true)(hm:X.mg "isinstance"=none)(hΓ:Γ[i]?=some (.im (lD ea) ()))(hmy:X.mg y=none)(hvy:bootBuiltins y=some (.type c))(ht:kitOne X.K (.ref D) (.type c)=some b)
 (hN:autoParam (X.N[i]?=some x) Fc.ag) (hv:autoParam (bR X.env.scope x) Fc.bq) (hd:autoParam ((x==("__debug__":Str))=false) Fc.av) (hcd:autoParam ((x==("__classdict__":Str))=false) Fc.av)
 (hs:autoParam (starEach [.Name x p1,.Name y p2] X.env=(false,eval (.Name x p1) X.env)::starEach [.Name y p2] X.env) Fc.ag) (hg:autoParam (Gl X "isinstance") Fc.ag) (hgy:autoParam (Gl X y) Fc.ag) (hny:autoParam (y≠"__name__") Fc.av) (hdy:autoParam ((y==("__debug__":Str))=false) Fc.av):
 EV X (.Call (.Name "isinstance" p) [.Name x p1,.Name y p2] [] pos) Γ aR b Γ:=by
 intro σ H0 R0 H R E Q q
 refine eS (da (nW hp hc el) hg hm PyProof.Rows.boot_isinstance (aD aI (aD (rn (v:=.ty c) hgy hmy hvy rfl hny hdy) bp rfl) hs) (by decide) (by decide) hs rfl) (aa i hΓ hN hv hd hcd σ H0 R0 H R E _ λv H1 R1 E1 s1 e1=>?_)
 cases (show v=V.ref ea from e1)
 exact ⟨.ty c,.type c,b,rfl,rfl,λu h=>h,ht,q _ H1 R1 E1 s1 rfl⟩
theorem zf {y1 y2 y3:Str}{p3 p4 tp:Pos}{k:Nat}{C1 C2 C3:Addr}(hp:(ea,oe)∈X.pn)(hc:oe.cls= .ref D)(el:dF X.K D=true)(hm:X.mg "isinstance"=none)(hΓ:Γ[i]?=some (.im (lD ea) ()))
 (h1:X.mg y1=some (.ref C1)) (h2:X.mg y2=some (.ref C2)) (h3:X.mg y3=some (.ref C3)) (ht:kitAny X.K (.ref D) [.ref C1,.ref C2,.ref C3]=some b)
 (hN:autoParam (X.N[i]?=some x) Fc.ag) (hv:autoParam (bR X.env.scope x) Fc.bq) (hd:autoParam ((x==("__debug__":Str))=false) Fc.av) (hcd:autoParam ((x==("__classdict__":Str))=false) Fc.av)
 (hs:autoParam (starEach [.Name x p1,.Tuple [.Name y1 p2,.Name y2 p3,.Name y3 p4] k tp] X.env=(false,eval (.Name x p1) X.env)::starEach [.Tuple [.Name y1 p2,.Name y2 p3,.Name y3 p4] k tp] X.env) Fc.ag) (hg:autoParam (Gl X "isinstance") Fc.ag)
 (g1:autoParam (Gl X y1) Fc.ag) (g2:autoParam (Gl X y2) Fc.ag) (g3:autoParam (Gl X y3) Fc.ag) (d1:autoParam ((y1==("__debug__":Str))=false) Fc.av) (d2:autoParam ((y2==("__debug__":Str))=false) Fc.av) (d3:autoParam ((y3==("__debug__":Str))=false) Fc.av):
 EV X (.Call (.Name "isinstance" p) [.Name x p1,.Tuple [.Name y1 p2,.Name y2 p3,.Name y3 p4] k tp] [] pos) Γ aR b Γ:=by
 intro σ H0 R0 H R E Q q
 refine eS (da (vb hp hc el) hg hm PyProof.Rows.boot_isinstance (aD aI (aD (uY (aD (iZ (v:=.ref C1) g1 h1 rfl d1) (aD (iZ (v:=.ref C2) g2 h2 rfl d2) (aD (iZ (v:=.ref C3) g3 h3 rfl d3) bp rfl) rfl) rfl)) bp rfl) hs) (by decide) (by decide) hs rfl) (aa i hΓ hN hv hd hcd σ H0 R0 H R E _ λv H1 R1 E1 s1 e1=>?_)
 cases (show v=V.ref ea from e1)
 refine ⟨by show 3<=sizeLine;decide,λa ha=>⟨a,[C1,C2,C3],b,rfl,az,ht,?_⟩⟩
 exact q _ _ (upd R1 a (.tup [.ref C1,.ref C2,.ref C3])) (E1.grow (Ext.fresh E1.sub ha _)) (s1.trans (ar.fresh (E1.sub.free ha) _)) rfl
end
theorem aq.gone {K:PySem.W.Frag}{σ:St}{H0 R0 H R:Hp}{Γ:Ga}(E:aq K σ H0 R0 H R Γ)(i:Nat):aq K (σ.set i none) H0 R0 H R (Γ.set i .no):=by
 have key:∀(j:Nat) (e:Ent),(Γ.set i Ent.no)[j]?=some e->e= .no∨(Γ[j]?=some e/\(σ.set i none)[j]?=σ[j]?):=λj e q=>by
  by_cases hj:j=i
  ·subst hj
   rw [List.getElem?_set] at q
   split at q
   ·split at q
    ·cases q;exact .inl rfl
    ·cases q
   ·rename_i z;exact absurd rfl z
  ·rw [List.getElem?_set_ne (Ne.symm hj)] at q
   exact .inr ⟨q,List.getElem?_set_ne (Ne.symm hj)⟩
 refine ⟨E.ext,λj e q=>?_,λj e a q z=>?_,λj k e e' a q q' z z'=>?_,by rw [List.length_set,List.length_set];exact E.len⟩
 ·rcases key j e q with rfl | ⟨q,h⟩
  ·trivial
  ·rw [h];exact E.ent j e q
 ·rcases key j e q with rfl | ⟨q,h⟩
  ·cases z
  ·rw [h] at z;exact E.nw j e a q z
 ·rcases key j e q with rfl | ⟨q,h⟩
  ·cases z
  ·rcases key k e' q' with rfl | ⟨q',h'⟩
   ·cases z'
   ·rw [h] at z;rw [h'] at z';exact E.ds j k e e' a q q' z z'
theorem An {X:Cx}{Γ Γ1:Ga}{N:Ga->Prop}{T:RT}{S:rV}{f ce n y:Str}{k:Nat}{e0:Expr}{es:List Expr}{p pos ep np p1 p2 p3 hp tp:Pos}{ps:List Pk}{D CE:Addr}{rest:List Stmt}(i j:Nat)
 (C:iJ X.prog X.w X.K X.mg X.base f k (nJ S X.K)) (hr:bA k X.A) (ha:HA X.c8 (e0::es) Γ ps Γ1) (hS:S X.K ps (.exc (.ref D))) (hm:X.mg ce=some (.ref CE)) (hx:exmOne X.K (.ref D) (.ref CE)=some true)
 (hrest:∀ea oe,oe.cls= .ref D->WS (ik X ea oe) rest (((Γ1.set i (.im (lD ea) ())).set j (.im (lD ea) ())).set i .no) N T)
 (hst:autoParam (X.stack=X.env::X.outer) Fc.ag) (hef:autoParam (X.env.frame=some X.env.locals) Fc.ag) (hN:autoParam (X.N.Nodup) Fc.fj) (hi:autoParam (X.N[i]?=some n) Fc.ag) (hj:autoParam (X.N[j]?=some y) Fc.ag)
 (hin:autoParam (X.env.scope.names.lookup n=some .local) Fc.ag) (hjy:autoParam (X.env.scope.names.lookup y=some .local) Fc.ag) (hg:autoParam (Gl X ce) Fc.ag) (hgf:autoParam (Gl X f) Fc.ag)
 (hs:autoParam (swapsWith (.Name n p2) (some (.Name y p1)) p3.line X.env=pure false) Fc.ag) (hsc:autoParam (swapsWith (.Call (.Name f p) (e0::es) [] pos) none ep.line X.env=pure false) Fc.ag)
 (he:autoParam (starEach (e0::es) X.env=(false,eval e0 X.env)::starEach es X.env) Fc.ag) (hpl:autoParam ((backTo pos (starEach es X.env)).any (·.1)=false) Fc.ag)
 (d1:autoParam ((ce==("__debug__":Str))=false) Fc.av) (d2:autoParam ((f==("__debug__":Str))=false) Fc.av) (d3:autoParam ((n==("__debug__":Str))=false) Fc.av) (d4:autoParam ((n==("__classdict__":Str))=false) Fc.av):
 WS X (.Try [.Expr (.Call (.Name f p) (e0::es) [] pos) ep] [.ExceptHandler (some (.Name ce np)) (some n) [.Assign [.Name y p1] (.Name n p2) p3] hp] [] [] tp::rest) Γ N T:=by
 intro σ H0 R0 H R E D dn dr pins s I
 refine wpAny_execs_cons (wpAny_Try_except (wpAny_execs_cons (wpAny_Expr_any ?_ I.quiet hsc)))
 refine xi C hr ha hS E I (λs1 H1 ea T H' R' s' I1 ho bare un hok fly E' sR=>?_) hgf d2 he hpl
 refine Cc I1 ho bare un hok fly hst hef hm hx hg d1 hN hi hj hin hjy hs d3 d4 λoe s6 hc I6=>?_
 have E3:=aq.gone ((E'.set i (r:=lD ea) (v:=.ref ea) (x:=()) rfl).set j (r:=lD ea) (v:=.ref ea) (x:=()) rfl) i
 exact aO (hrest ea oe hc _ H0 R0 H' R' E3 D (λσ2 H2 R2 Γ2 E2 s2=>dn σ2 H2 R2 Γ2 E2 (sR.trans s2)) dr pins s6 I6) λf s7 z=>SP.sr z
end Fc
namespace K1
open PySem
abbrev top (i:Nat):Stmt:=PySem.Challenge.pw_fewcounters_k06_whole_heaps_of_counts.main.body.getD i (.Pass ⟨0,0,0,0⟩)
abbrev qK:Nat:=15
abbrev qa:Nat:=16
abbrev vL:Nat:=17
abbrev mv:Nat:=18
abbrev mR:Nat:=19
abbrev lg:Nat:=20
abbrev lX:Nat:=21
abbrev p8:Nat:=22
abbrev mf:Nat:=23
abbrev tG:Nat:=24
abbrev qO:Nat:=25
abbrev mY:Nat:=26
abbrev j6:Nat:=28
abbrev pj:Nat:=29
abbrev kM:Nat:=30
abbrev tX:Nat:=31
abbrev lF:Nat:=32
abbrev ot:Nat:=33
abbrev qL:Nat:=34
abbrev mT:Nat:=35
abbrev oj:Nat:=36
abbrev tK:Nat:=37
abbrev pP:Nat:=38
abbrev qQ:Nat:=39
abbrev kL:Nat:=40
abbrev jO:Nat:=41
abbrev qH:Nat:=42
abbrev qR:Nat:=44
abbrev lY:Nat:=45
abbrev oN:Nat:=46
abbrev pL:Nat:=47
abbrev p5:Nat:=48
abbrev qN:Nat:=49
abbrev qc:Nat:=50
abbrev qI:Nat:=51
abbrev my:Nat:=52
abbrev nk:Nat:=53
abbrev qC:Nat:=54
abbrev qy:Nat:=55
abbrev oB:Nat:=56
abbrev oA:Nat:=57
abbrev om:Nat:=58
abbrev ou:Nat:=59
abbrev j7:Nat:=60
abbrev oy:Nat:=61
abbrev mD:Nat:=62
abbrev lZ:Nat:=63
abbrev AN:Nat:=64
end K1
namespace K1
open PySem L2 Fc
open PySem.Spec hiding Row
open PyProof.Rows hiding St
structure bO (mg:Str->Option Value):Prop where
 mostParts:∃t,mg "MOST_PARTS"=some (.int 4 t)
 leastPlaces:∃t,mg "LEAST_PLACES"=some (.int 2 t)
 mostPlaces:∃t,mg "MOST_PLACES"=some (.int 16 t)
 mostRows:∃t,mg "MOST_ROWS"=some (.int 60 t)
 firstPart:∃t,mg "FIRST_PART"=some (.int 0 t)
 begin_:∃t,mg "BEGIN"=some (.int 0 t)
 end_:∃t,mg "END"=some (.int 1 t)
 noCall:∃t,mg "NO_CALL"=some (.int (-1) t)
 len:mg "len"=none
 all:mg "all"=none
 any:mg "any"=none
 range:mg "range"=none
 enumerate:mg "enumerate"=none
 isinstance:mg "isinstance"=none
 int:mg "int"=none
 bool:mg "bool"=none
 list:mg "list"=none
 tuple:mg "tuple"=none
 min:mg "min"=none
 max:mg "max"=none
 sorted:mg "sorted"=none
 sum:mg "sum"=none
 zip:mg "zip"=none
 reversed:mg "reversed"=none
theorem boot_bool:bootBuiltins "bool"=some (.type "bool"):=by decide +kernel
section
variable {P:Program}{w:World}{K:PySem.W.Frag}{mg:Str->Option Value}{base:Heap}{f:Addr}{fd:FuncData}
theorem cx {xs:List Int}{i:Int}(h0:0<=i)(h1:i < xs.length):bW xs i=some (xs.getD i.toNat 0):=by
 rw [eD h0 h1,List.getElem?_eq_getElem (by omega),List.getD_eq_getElem?_getD,List.getElem?_eq_getElem (by omega)];rfl
abbrev xZ:Stmt:=top qK
theorem BC:aC ["value"] ["value"] (ai xZ):=⟨rfl,rfl,rfl,by decide +kernel,rfl,by decide +kernel,by decide +kernel⟩
def FC:cq:=λK ps T=>∃x:Int,ps=[⟨ae,x⟩]/\T=bE K aR (· =true)
theorem DW (M:bO mg)(F:bH K "is_whole" "is_whole" xZ f fd)(hm:mg "is_whole"=some (.ref f))(hb:Binds K fd ["value"] []):aF P w K mg base "is_whole" 1 (aQ FC K):=by
 have nd:=BC.nd
 refine bD F BC hm hb (λqs T ⟨x,e,_⟩=>by rw [e];rfl) (λcdv A outer s H E qs T hr hS=>?_)
 obtain ⟨x,rfl,rfl⟩:=hS
 exact ao (bg (gA (dM M.isinstance M.int PyProof.Rows.boot_int (aa 0 rfl) ty_int) (λ_=>fR (AE (dM M.isinstance M.bool boot_bool (aa 0 rfl) ty_int)))) rfl)
abbrev rT:Stmt:=top qa
theorem Cd:aC ["values"] ["values"] (ai rT):=⟨rfl,rfl,rfl,by decide +kernel,rfl,by decide +kernel,by decide +kernel⟩
def yo:cq:=λK ps T=>((∃ns:List Int,ps=[⟨af ae,ns⟩])∨(∃r:Row,ps=[⟨aB,r⟩]))/\T=bE K aR (· =true)
theorem all_true {α:Type}(xs:List α):((xs.filter λ_=>true).map λ_=>true).all id=true:=by
 rw [List.all_eq_true];intro b hb
 obtain ⟨_,_,rfl⟩:=List.mem_map.mp hb;rfl
theorem D8 (M:bO mg)(CI:aF P w K mg base "is_whole" 1 (aQ FC K))(F:bH K "are_whole" "are_whole" rT f fd)(hm:mg "are_whole"=some (.ref f))(hb:Binds K fd ["values"] []):aF P w K mg base "are_whole" 2 (aQ yo K):=by
 have nd:=Cd.nd
 have ndc:List.Nodup [("value":Str)]:=by decide
 refine bD F Cd hm hb (λqs T ⟨e,_⟩=>by rcases e with ⟨_,e⟩ | ⟨_,e⟩<;>(rw [e];rfl)) (λcdv A outer s H E qs T hr hS=>?_)
 obtain ⟨⟨ns,rfl⟩ | ⟨r,rfl⟩,rfl⟩:=hS
 ·exact ao (bg (gu M.all (bc.im (bN (own:=["value"]) (fr:=[]) (ix:=[]) (p:=λ_=>true) (f:=λ_=>true) (bb (so:=ai rT) (N0:=["values"]) rfl rfl (λx h=>aT h) (by decide +kernel)) (bj (aa 0 rfl))
   (λC s H ex=>aG 0) (λx=>⟨.inr rfl,trivial⟩) (λC s H ex x hx=>cy) (λC s H ex x hx _=>bt CI hr (ah (aa 0 rfl) aw) ⟨_,rfl,rfl⟩)))) (all_true ns))
 ·exact ao (bg (gu M.all (bc.im (bN (own:=["value"]) (fr:=[]) (ix:=[]) (p:=λ_=>true) (f:=λ_=>true) (bb (so:=ai rT) (N0:=["values"]) rfl rfl (λx h=>aT h) (by decide +kernel)) (B9 (aa 0 rfl))
   (λC s H ex=>aG 0) (λx=>⟨.inr rfl,trivial⟩) (λC s H ex x hx=>cy) (λC s H ex x hx _=>bt CI hr (ah (aa 0 rfl) aw) ⟨_,rfl,rfl⟩)))) (all_true _))
end
section
variable {P:Program}{w:World}{K:PySem.W.Frag}{mg:Str->Option Value}{base:Heap}{f:Addr}{fd:FuncData}
abbrev x6:Stmt:=top mR
theorem BB:aC ["row"] ["row"] (ai x6):=⟨rfl,rfl,rfl,by decide +kernel,rfl,by decide +kernel,by decide +kernel⟩
def Fz:cq:=λK ps T=>∃r:Row,ps=[⟨aB,r⟩]/\T=bE K aR (· =true)
theorem Ds (M:bO mg)(CA:aF P w K mg base "are_whole" 2 (aQ yo K))(F:bH K "has_row_form" "has_row_form" x6 f fd)(hm:mg "has_row_form"=some (.ref f))(hb:Binds K fd ["row"] []):aF P w K mg base "has_row_form" 3 (aQ Fz K):=by
 have nd:=BB.nd
 refine bD F BB hm hb (λqs T ⟨x,e,_⟩=>by rw [e];rfl) (λcdv A outer s H E qs T hr hS=>?_)
 obtain ⟨r,rfl,rfl⟩:=hS
 exact ao (bg (gA (dM M.isinstance M.tuple PyProof.Rows.boot_tuple (aa 0 rfl) Ay) (λ_=>gA (bZ bI (r9 M.len (aa 0 rfl) Bt) ak) (λ_=>fR (bt CA hr (ah (aa 0 rfl) aw) ⟨.inr ⟨_,rfl⟩,rfl⟩)))) rfl)
abbrev tO:Stmt:=top mv
theorem Bz:aC ["web","places","rows"] ["web"] (ai tO):=⟨rfl,rfl,rfl,by decide +kernel,rfl,by decide +kernel,by decide +kernel⟩
def Fl:cq:=λK ps T=>∃v:ax,ps=[⟨bx,v⟩]/\T=bE K aR (· =true)
theorem Dr (M:bO mg)(CA:aF P w K mg base "are_whole" 2 (aQ yo K))(CR:aF P w K mg base "has_row_form" 3 (aQ Fz K))(F:bH K "has_web_form" "has_web_form" tO f fd)(hm:mg "has_web_form"=some (.ref f))(hb:Binds K fd ["web"] []):aF P w K mg base "has_web_form" 4 (aQ Fl K):=by
 have nd:=Bz.nd
 have ndc:List.Nodup [("row":Str)]:=by decide
 refine bD F Bz hm hb (λqs T ⟨x,e,_⟩=>by rw [e];rfl) (λcdv A outer s H E qs T hr hS=>?_)
 obtain ⟨v,rfl,rfl⟩:=hS
 refine aj (bh (TW.tv (dA (cD (cc (dM M.isinstance M.tuple PyProof.Rows.boot_tuple (aa 0 rfl) (zH (r:=af ae) (r':=af aB))))) (λ_=>dI (aA ip (r9 M.len (aa 0 rfl) (zv (r:=af ae) (r':=af aB))) ak)))) (λh=>absurd h (by decide)) (λ_=>aV ?_))
 refine aj (bo 1 (bQ (r:=af ae) (r':=af aB) (aa 0 rfl)) (aj (bo 2 (aJ (r:=af ae) (r':=af aB) (aa 0 rfl)) ?_)))
 refine aj (bh (TW.tv (dA (cD (cc (dM M.isinstance M.list PyProof.Rows.boot_list (aa 1 rfl) ty_list))) (λ_=>dI (cD (cc (dM M.isinstance M.list PyProof.Rows.boot_list (aa 2 rfl) ty_list)))))) (λh=>absurd h (by decide)) (λ_=>aV ?_))
 exact ao (bg (gA (bt (CA.mono (by decide:2<=3)) hr (ah (aa 1 rfl) aw) ⟨.inl ⟨_,rfl⟩,rfl⟩) (λ_=>fR (gu M.all (bc.im (bN (own:=["row"]) (fr:=[]) (ix:=[]) (p:=λ_=>true) (f:=λ_=>true) (bb (so:=ai tO) (N0:=["web","places","rows"]) rfl rfl (λx h=>aT h) (by decide +kernel)) (bj (aa 2 rfl))
  (λC s H ex=>aG 0) (λx=>⟨.inr rfl,trivial⟩) (λC s H ex x hx=>cy) (λC s H ex x hx _=>bt CR hr (ah (aa 0 rfl) aw) ⟨_,rfl,rfl⟩)))))) (by rw [all_true];rfl))
abbrev uI:Stmt:=top lg
theorem A4:aC ["web","places","rows"] ["web"] (ai uI):=⟨rfl,rfl,rfl,by decide +kernel,rfl,by decide +kernel,by decide +kernel⟩
def sizes (v:ax):Bool:=
 if !(decide ((1:Int)<=(v.1.length:Int))&&decide ((v.1.length:Int)<=4)) || !(decide ((1:Int)<=(v.2.length:Int))&&decide ((v.2.length:Int)<=60)) then false
 else ((v.1.filter λ_=>true).map λn=>decide ((2:Int)<=n)&&decide (n<=16)).all id
def Fw:cq:=λK ps T=>∃v:ax,ps=[⟨bx,v⟩]/\T=bE K aR (· =sizes v)
theorem DM (M:bO mg)(F:bH K "has_web_sizes" "has_web_sizes" uI f fd)(hm:mg "has_web_sizes"=some (.ref f))(hb:Binds K fd ["web"] []):aF P w K mg base "has_web_sizes" 1 (aQ Fw K):=by
 have nd:=A4.nd
 have ndc:List.Nodup [("size":Str)]:=by decide
 obtain ⟨t1,h1⟩:=M.mostParts
 obtain ⟨t2,h2⟩:=M.mostRows
 obtain ⟨t3,h3⟩:=M.leastPlaces
 obtain ⟨t4,h4⟩:=M.mostPlaces
 refine bD F A4 hm hb (λqs T ⟨x,e,_⟩=>by rw [e];rfl) (λcdv A outer s H E qs T hr hS=>?_)
 obtain ⟨v,rfl,rfl⟩:=hS
 refine aj (bo 1 (bQ (r:=af ae) (r':=af aB) (aa 0 rfl)) (aj (bo 2 (aJ (r:=af ae) (r':=af aB) (aa 0 rfl)) ?_)))
 refine aj (bh (TW.tv (dA (cD (ib iM iM ak (aM M.len (aa 1 rfl)) (cB h1))) (λ_=>dI (cD (ib iM iM ak (aM M.len (aa 2 rfl)) (cB h2)))))) (λh=>?_) (λh=>aV ?_))
 ·exact ao (bg dv (by rw [sizes,if_pos h]))
 ·exact ao (bg (gu M.all (bc.im (bN (own:=["size"]) (fr:=[]) (ix:=[]) (p:=λ_=>true) (f:=λn=>decide ((2:Int)<=n)&&decide (n<=16)) (bb (so:=ai uI) (N0:=["web","places","rows"]) rfl rfl (λx h=>aT h) (by decide +kernel)) (bj (aa 1 rfl))
   (λC s H ex=>aG 0) (λx=>⟨.inr rfl,trivial⟩) (λC s H ex x hx=>cy) (λC s H ex x hx _=>pB iM iM (cB h3) (aa 0 rfl) (cB h4))))) (by rw [sizes,if_neg (by rw [h];decide)]))
abbrev yg:Stmt:=top lX
theorem B5:aC ["places","row","part"] ["places","row"] (ai yg):=⟨rfl,rfl,rfl,by decide +kernel,rfl,by decide +kernel,by decide +kernel⟩
def gP (ns:List Int)(r:Row):Bool:=
 if !(decide (0<=r.1)&&decide (r.1 < (ns.length:Int))) then false
 else if !(decide (0<=r.2.1)&&decide (r.2.1 < ns.getD r.1.toNat 0)) || !(decide (0<=r.2.2.1)&&decide (r.2.2.1 < ns.getD r.1.toNat 0)) then false
 else (!decide (r.2.1=1))&&(decide (r.2.2.2= -1) ||(decide (r.1 < r.2.2.2)&&decide (r.2.2.2 < (ns.length:Int))))
def Ez:cq:=λK ps T=>∃ns r,ps=[⟨af ae,ns⟩,⟨aB,r⟩]/\T=bE K aR (· =gP ns r)
theorem Dm (M:bO mg)(F:bH K "leads_within" "leads_within" yg f fd)(hm:mg "leads_within"=some (.ref f))(hb:Binds K fd ["places","row"] []):aF P w K mg base "leads_within" 1 (aQ Ez K):=by
 have nd:=B5.nd
 obtain ⟨t1,hEND⟩:=M.end_
 obtain ⟨t2,hNC⟩:=M.noCall
 refine bD F B5 hm hb (λqs T ⟨ns,r,e,_⟩=>by rw [e];rfl) (λcdv A outer s H E qs T hr hS=>?_)
 obtain ⟨ns,r,rfl,rfl⟩:=hS
 refine aj (bo 2 (dS (aa 1 rfl)) ?_)
 refine aj (bh (cD (ib iM gm ak (aa 2 rfl) (aM M.len (aa 0 rfl)))) (λh=>?_) (λh=>?_))
 ·exact ao (bg dv (by rw [gP,if_pos h]))
 refine aV ?_
 have h':0<=r.1/\r.1 < (ns.length:Int):=by simpa using h
 have hix:bW ns r.1=some (ns.getD r.1.toNat 0):=cx h'.1 h'.2
 refine aj (bh (TW.tv (dA (cD (ib iM gm ak (dG (aa 1 rfl)) (aP (aa 0 rfl) (aa 2 rfl) hix))) (λ_=>dI (cD (ib iM gm ak (c3 (aa 1 rfl)) (aP (aa 0 rfl) (aa 2 rfl) hix)))))) (λh2=>?_) (λh2=>?_))
 ·exact ao (bg dv (by rw [gP,if_neg (by rw [h];decide),if_pos h2]))
 refine aV (ao (bg (gA (bZ ip (dG (aa 1 rfl)) (cB hEND)) (λ_=>fR (xB (bZ bI (du (aa 1 rfl)) (cB hNC)) (λ_=>fR (pB gm gm (aa 2 rfl) (du (aa 1 rfl)) (aM M.len (aa 0 rfl))))))) ?_))
 rw [gP,if_neg (by rw [h];decide),if_neg (by rw [h2];decide)]
abbrev ue:Stmt:=top p8
theorem AG:aC ["rows","part"] ["rows","part"] (ai ue):=⟨rfl,rfl,rfl,by decide +kernel,rfl,by decide +kernel,by decide +kernel⟩
def called (rs:List Row)(p:Int):Bool:=((rs.filter λ_=>true).map λr=>decide (r.2.2.2=p)).any id
def Ey:cq:=λK ps T=>∃(rs:List Row) (p:Int),ps=[⟨af aB,rs⟩,⟨ae,p⟩]/\T=bE K aR (· =called rs p)
theorem DA (M:bO mg)(F:bH K "is_called" "is_called" ue f fd)(hm:mg "is_called"=some (.ref f))(hb:Binds K fd ["rows","part"] []):aF P w K mg base "is_called" 1 (aQ Ey K):=by
 have nd:=AG.nd
 have ndc:List.Nodup [("row":Str),"part"]:=by decide
 refine bD F AG hm hb (λqs T ⟨_,_,e,_⟩=>by rw [e];rfl) (λcdv A outer s H E qs T hr hS=>?_)
 obtain ⟨rs,p,rfl,rfl⟩:=hS
 exact ao (bg (BQ M.any (bc.im (bN (own:=["row"]) (fr:=["part"]) (ix:=[1]) (p:=λ_=>true) (f:=λr=>decide (r.2.2.2=p)) (bb (so:=ai ue) (N0:=["rows","part"]) rfl rfl (λx h=>aT h) (by decide +kernel)) (bj (aa 0 rfl))
  (λC s H ex=>aG 0) (λx=>⟨.inr rfl,.inl rfl,trivial⟩) (λC s H ex x hx=>cy) (λC s H ex x hx _=>bZ bI (du (aa 0 rfl)) (aa 1 rfl))))) rfl)
end
end K1
namespace K1
open PySem L2 Fc
open PySem.Spec hiding Row
open PyProof.Rows hiding St
open PySem.Builtin.Int (intBits)
def oR (n k:Int):Int:=
 let m:=(n * n + k * n + 7 * k * k) * 1103515245 % 2147483629
 m * m % 2147483587
def kI (c m k b:Int):Int:=if m=0 then oR c (k + 1) * (oR c (k + 1) + 2) % 2147483579 % b else c % b
def oI (c m k b:Int):List Int:=[if m=0 then c else c / b,m,k + 1]
theorem um {a b:Int}{m:Nat}(hb:0 < b)(ha:intBits a<=m):intBits (a / b)<=m:=by
 rw [← Int.fdiv_eq_ediv_of_nonneg a (Int.le_of_lt hb)];exact bits_fdiv ha
theorem iz {x y:Int}(h0:0<=x)(h1:x < 4294967296):IntMulOk x y:=.of_left (intBits_le_64 (by omega) (by omega))
structure fc (n:Int) (xs:List Int):Prop where
 ex:∃c m k,xs=[c,m,k]/\intBits c<=2 ^ 20/\0<=k/\k<=n
theorem fc.mono {n n':Int}{xs:List Int}(h:fc n xs)(hn:n<=n'):fc n' xs:=by
 obtain ⟨c,m,k,e,a,b,d⟩:=h.ex
 exact ⟨c,m,k,e,a,b,by omega⟩
section
variable {P:Program}{w:World}{K:PySem.W.Frag}{mg:Str->Option Value}{base:Heap}{f:Addr}{fd:FuncData}
abbrev xI:Stmt:=top qR
theorem Cq:aC ["_law_number","_law_k","_law_mixed"] ["_law_number","_law_k"] (ai xI):=⟨rfl,rfl,rfl,by decide +kernel,rfl,by decide +kernel,by decide +kernel⟩
def EZ:cq:=λK ps T=>∃n k:Int,ps=[⟨ae,n⟩,⟨ae,k⟩]/\intBits n<=2 ^ 20/\0<=k/\k<=1000000/\T=bE K ae (· =oR n k)
theorem Dg (F:bH K "_law_mix" "_law_mix" xI f fd)(hm:mg "_law_mix"=some (.ref f))(hb:Binds K fd ["_law_number","_law_k"] []):aF P w K mg base "_law_mix" 1 (aQ EZ K):=by
 have nd:=Cq.nd
 refine bD F Cq hm hb (λqs T ⟨n,k,e,_⟩=>by rw [e];rfl) (λcdv A outer s H E qs T hr hS=>?_)
 obtain ⟨n,k,rfl,hn,k0,k1,rfl⟩:=hS
 change WS _ _ [.im ae n,.im ae k,.no] _ _
 have m0:0<=(n * n + k * n + 7 * k * k) * 1103515245 % 2147483629:=Int.emod_nonneg _ (by decide)
 have m1:(n * n + k * n + 7 * k * k) * 1103515245 % 2147483629 < 2147483629:=Int.emod_lt_of_pos _ (by decide)
 refine aj (bo 2 (iq (f6 (bu (bu (f6 (aa 0 rfl) (aa 0 rfl) (mulOk_of_bits hn hn (by decide))) (f6 (aa 1 rfl) (aa 0 rfl) (iz k0 (by omega)))) (f6 (f6 ak (aa 1 rfl) (iz (by decide) (by decide))) (aa 1 rfl) (.of_right (intBits_le_64 (by omega) (by omega))))) ak (.of_right (by decide))) ak (by decide)) ?_)
 exact ao (bg (iq (f6 (aa 2 rfl) (aa 2 rfl) (iz m0 (by omega))) ak (by decide)) rfl)
abbrev xw:Stmt:=top lY
theorem Cp:aC ["_law_script","_law_k"] ["_law_script","_law_k"] (ai xw):=⟨rfl,rfl,rfl,by decide +kernel,rfl,by decide +kernel,by decide +kernel⟩
def EW:cq:=λK ps T=>∃(ns:List Int) (k:Int),ps=[⟨cX,ns⟩,⟨ae,k⟩]/\0<=k/\T=bE K ae (· =ns.getD k.toNat 0)
theorem Dw (M:bO mg)(F:bH K "_law_cell_at" "_law_cell_at" xw f fd)(hm:mg "_law_cell_at"=some (.ref f))(hb:Binds K fd ["_law_script","_law_k"] []):aF P w K mg base "_law_cell_at" 1 (aQ EW K):=by
 have nd:=Cp.nd
 refine bD F Cp hm hb (λqs T ⟨n,k,e,_⟩=>by rw [e];rfl) (λcdv A outer s H E qs T hr hS=>?_)
 obtain ⟨ns,k,rfl,k0,rfl⟩:=hS
 change WS _ _ [.im cX ns,.im ae k] _ _
 refine aj (bh (aA gm (aa 1 rfl) (zc M.len (aa 0 rfl))) (λh=>?_) (λh=>aV ?_))
 ·have h:=of_decide_eq_true h
  exact ao (bg (zW (aa 0 rfl) (aa 1 rfl) (cx k0 h)) rfl)
 ·have h:=of_decide_eq_false h
  refine ao (bg ak ?_)
  show (0:Int)=_
  rw [List.getD_eq_getElem?_getD,List.getElem?_eq_none (by omega)];rfl
abbrev yf:Stmt:=top oN
theorem Ck:aC ["_law_script","_law_k","_law_cell"] ["_law_script","_law_k"] (ai yf):=⟨rfl,rfl,rfl,by decide +kernel,rfl,by decide +kernel,by decide +kernel⟩
def mF (c:Int):List Int:=if c < 10 ^ 18 then [c,0,0] else [c - 10 ^ 18,1,0]
def ye:cq:=λK ps T=>∃(ns:List Int) (k:Int),ps=[⟨cX,ns⟩,⟨ae,k⟩]/\0<=k/\T=i6 K ae (· =mF (ns.getD k.toNat 0))
theorem CY (CC:aF P w K mg base "_law_cell_at" 1 (aQ EW K))(F:bH K "_law_left" "_law_left" yf f fd)(hm:mg "_law_left"=some (.ref f))(hb:Binds K fd ["_law_script","_law_k"] []):aF P w K mg base "_law_left" 2 (aQ ye K):=by
 have nd:=Ck.nd
 refine bD F Ck hm hb (λqs T ⟨n,k,e,_⟩=>by rw [e];rfl) (λcdv A outer s H E qs T hr hS=>?_)
 obtain ⟨ns,k,rfl,k0,rfl⟩:=hS
 change WS _ _ [.im cX ns,.im ae k,.no] _ _
 refine aj (bo 2 (bt CC hr (ah (aa 0 rfl) (ah (aa 1 rfl) aw)) ⟨_,_,rfl,k0,rfl⟩) ?_)
 refine aj (bh (aA gm (aa 2 rfl) (tZ ak ak ⟨by decide,by decide,by decide⟩)) (λh=>?_) (λh=>aV ?_))
 ·have h:ns.getD k.toNat 0 < 10 ^ 18:=of_decide_eq_true h
  exact ao (jR (aN (aZ (aa 2 rfl) (aZ ak (aZ ak aY))) (by show 3<=sizeLine;decide)) (by show [ns.getD k.toNat 0,0,0]=_;rw [mF,if_pos h]))
 ·have h:¬ns.getD k.toNat 0 < 10 ^ 18:=of_decide_eq_false h
  exact ao (jR (aN (aZ (fG (aa 2 rfl) (tZ ak ak ⟨by decide,by decide,by decide⟩)) (aZ ak (aZ ak aY))) (by show 3<=sizeLine;decide)) (by rw [mF,if_neg h];rfl))
theorem tw {c:Int}(h:intBits c<=2 ^ 20)(h1:¬c < 10 ^ 18):intBits (c - 10 ^ 18)<=2 ^ 20:=bits_of_natAbs_le (by omega) h
theorem gW {ns:List Int}(hb:∀n∈ns,intBits n<=2 ^ 20)(k:Nat):fc 0 (mF (ns.getD k 0)):=by
 have hc:intBits (ns.getD k 0)<=2 ^ 20:=by
  rw [List.getD_eq_getElem?_getD]
  cases e:ns[k]? with
  | none=>show intBits 0<=2 ^ 20;decide
  | some n=>exact hb n (List.mem_of_getElem? e)
 unfold mF
 split
 ·exact ⟨_,_,_,rfl,hc,by decide,by decide⟩
 ·rename_i h
  exact ⟨_,_,_,rfl,tw hc h,by decide,by decide⟩
abbrev ym:Stmt:=top pL
theorem Aj:aC ["_law_left_here","_law_base","_law_mixed","_law_digit"] ["_law_left_here","_law_base"] (ai ym):=⟨rfl,rfl,rfl,by decide +kernel,rfl,by decide +kernel,by decide +kernel⟩
def mO:eU Int:=λK xs ps T=>∃c m k b,xs=[c,m,k]/\intBits c<=2 ^ 20/\0<=k/\k < 1000000/\ps=[⟨ae,b⟩]/\0 < b/\b < 1073741824/\T=λxs'=>bE K ae λy=>xs'=oI c m k b/\y=kI c m k b
theorem CU (CM:aF P w K mg base "_law_mix" 1 (aQ EZ K))(F:bH K "_law_draw" "_law_draw" ym f fd)(hm:mg "_law_draw"=some (.ref f))(hb:Binds K fd ["_law_left_here","_law_base"] []):aF P w K mg base "_law_draw" 2 (fu ae mO K):=by
 have nd:=Aj.nd
 refine o8 F Aj hm hb (λxs qs T ⟨c,m,k,b,_,_,_,_,e,_⟩=>by rw [e];rfl) (λcdv A outer s H E a xs qs T hr hS=>?_)
 obtain ⟨c,m,k,b,rfl,hc,k0,k1,rfl,b0,b1,rfl⟩:=hS
 change WS _ _ [.ob (bU a ae [c,m,k]),.im ae b,.no,.no] _ _
 refine aj (qu 0 (j:=2) (bu (iP 0 ak rfl (y:=k) rfl) ak) ak rfl rfl rfl ?_)
 show WS _ _ (.ob (bU a ae [c,m,k + 1])::_) _ _
 refine aj (bh (aA bI (iP 0 ak rfl (y:=m) rfl) ak) (λh=>?_) (λh=>aV ?_))
 ·have h:=of_decide_eq_true h
  refine aj (bo 2 (bt CM hr (ah (iP 0 ak rfl (y:=c) rfl) (ah (iP 0 ak rfl (y:=k + 1) rfl) aw)) ⟨_,_,rfl,hc,by omega,by omega,rfl⟩) ?_)
  have m0:0<=oR c (k + 1):=Int.emod_nonneg _ (by decide)
  have m1:oR c (k + 1) < 2147483587:=Int.emod_lt_of_pos _ (by decide)
  refine ao (fJ 0 (iq (iq (f6 (aa 2 rfl) (bu (aa 2 rfl) ak) (iz m0 (by omega))) ak (by decide)) (aa 1 rfl) b0) rfl ⟨?_,?_⟩)
  ·rw [oI,if_pos h]
  ·rw [kI,if_pos h]
 ·have h:=of_decide_eq_false h
  refine aj (bo 3 (iq (iP 0 ak rfl (y:=c) rfl) (aa 1 rfl) b0) ?_)
  refine aj (qu 0 (j:=0) (y6 (iP 0 ak rfl (y:=c) rfl) (aa 1 rfl) ⟨b0,b1⟩) ak rfl rfl rfl ?_)
  refine ao (fJ 0 (aa 3 rfl) rfl ⟨?_,?_⟩)
  ·rw [oI,if_neg h];rfl
  ·rw [kI,if_neg h]
theorem cV {n:Int}{xs:List Int}(h:fc n xs)(hn:n < 1000000){b:Int}(b0:0 < b)(b1:b < 1073741824):∃y st,0<=y/\y < b/\fc (n + 1) st/\∀K,mO K xs [⟨ae,b⟩] (λxs'=>bE K ae λz=>xs'=st/\z=y):=by
 obtain ⟨c,m,k,rfl,hc,k0,k1⟩:=h.ex
 refine ⟨kI c m k b,oI c m k b,?_,?_,⟨_,_,_,rfl,?_,by omega,by omega⟩,λK=>⟨c,m,k,b,rfl,hc,k0,by omega,rfl,b0,b1,rfl⟩⟩
 ·unfold kI;split<;>exact Int.emod_nonneg _ (by omega)
 ·unfold kI;split<;>exact Int.emod_lt_of_pos _ b0
 ·split
  ·exact hc
  ·exact um b0 hc
end
def bump (n:Int)(t:Int×Int):Int×Int:=(t.1 + (if decide (n<=t.1) then 1 else 0),t.2 + (if decide (n<=t.2) then 1 else 0))
def bY (n:Int)(ties:List (Int×Int)):List (Int×Int):=(ties.filter λ_=>true).map (bump n)
theorem fB (n:Int)(ties:List (Int×Int)):bY n ties=ties.map (bump n):=by unfold bY;rw [List.filter_eq_self.mpr (by simp)]
inductive Made:Nat->Int->List (Int×Int)->Prop
 | base:Made 0 2 [(0,1)]
 | split {n:Nat} {many:Int} {ties:List (Int×Int)} {at_:Nat} {new:Int} {t:Int×Int}:Made n many ties->(bY new ties)[at_]?=some t->2<=new->new<=many->Made (n + 1) (many + 1) ((bY new ties++[(new,t.2)]).set at_ (t.1,new))
 | tie {n:Nat} {many:Int} {ties:List (Int×Int)} {start e:Int}:Made n many ties->0<=start->start < many - 1->0<=e->e < many->Made (n + 1) many (ties++[(start + (if decide (0 < start) then 1 else 0),e)])
theorem Made.sizes {n:Nat}{many:Int}{ties:List (Int×Int)}(h:Made n many ties):2<=many/\many<=2 + n/\ties.length=n + 1:=by
 induction h with
 | base=>exact ⟨by decide,by decide,rfl⟩
 | split h e a b ih=>
   refine ⟨by omega,by push_cast;omega,?_⟩
   rw [List.length_set,List.length_append,fB,List.length_map,ih.2.2];rfl
 | tie h a b c d ih=>exact ⟨ih.1,by push_cast;omega,by rw [List.length_append,ih.2.2];rfl⟩
theorem dH {n:Nat}{i:Int}(h0:0<=i)(h1:i < n):dO n i=some i.toNat:=by unfold dO;rw [if_pos h0,if_pos h1]
abbrev bX:Rep (Int×Int):=ay ae ae
section
variable {P:Program}{w:World}{K:PySem.W.Frag}{mg:Str->Option Value}{base:Heap}{f:Addr}{fd:FuncData}
abbrev uP:Stmt:=top p5
abbrev ED:List Str:=["_law_left_here","_law_most","_law_many","_law_ties","_law_turn","_law_at","_law_new","_law_start"]
theorem zZ:aC ED ["_law_left_here","_law_most"] (ai uP):=⟨rfl,rfl,rfl,by decide +kernel,rfl,by decide +kernel,by decide +kernel⟩
def Fh:eU Int:=λK xs ps T=>∃most:Int,fc 0 xs/\ps=[⟨ae,most⟩]/\0<=most/\most<=1000/\T=λ_=>bE K (ay ae (af bX)) λz=>∃n:Nat,(n:Int)<=most/\Made n z.1 z.2
theorem Cz (M:bO mg)(CD:aF P w K mg base "_law_draw" 2 (fu ae mO K))(F:bH K "_law_part" "_law_part" uP f fd)(hm:mg "_law_part"=some (.ref f))(hb:Binds K fd ["_law_left_here","_law_most"] []):aF P w K mg base "_law_part" 3 (fu ae Fh K):=by
 have nd:=zZ.nd
 have ndc:List.Nodup [("_law_a":Str),"_law_b","_law_new"]:=by decide
 refine o8 F zZ hm hb (λxs qs T ⟨most,_,e,_⟩=>by rw [e];rfl) (λcdv A outer s H E a xs qs T hr hS=>?_)
 obtain ⟨most,hD,rfl,h0,h1,rfl⟩:=hS
 change WS _ _ [.ob (bU a ae xs),.im ae most,.no,.no,.no,.no,.no,.no] _ _
 refine aj (bo 2 ak (aj (bG 3 (aN (aZ (cg (ah ak (ah ak aw))) aY) (by show 1<=sizeLine;decide)) ?_)))
 obtain ⟨n,st,n0,n1,hD1,hS⟩:=cV hD (by decide) (b:=most + 1) (by omega) (by omega)
 refine aj (bS (r:=ae) (λi Γ=>∃st many ties v4 v5 v6 v7,Γ=[.ob (bU a ae st),.im ae most,.im ae many,.mu bX ties,v4,v5,v6,v7]/\fc (1 + 4 * i) st/\Made i many ties)
  (bB M.range (cQ 0 CD hr (ah (bu (aa 1 rfl) ak) aw) rfl (hS _)) ⟨by omega,by omega⟩) (aG 4) ⟨st,2,[(0,1)],.no,.no,.no,.no,rfl,hD1.mono (by decide),.base⟩ ?_ ?_)
 ·rintro i x Γ hx ⟨st,many,ties,v4,v5,v6,v7,rfl,hD,hM⟩
  obtain ⟨hi,rfl⟩:=gz hx
  obtain ⟨s1,s2,s3⟩:=hM.sizes
  have hin:(i:Int) < n:=by omega
  obtain ⟨c,st1,c0,c1,hD1,hS1⟩:=cV hD (by omega) (b:=2) (by decide) (by decide)
  refine ao (bh (aA bI (cQ 0 CD hr (ah ak aw) rfl (hS1 _)) ak) (λh=>?_) (λh=>?_))
  ·obtain ⟨k,st2,k0,k1,hD2,hS2⟩:=cV hD1 (by omega) (b:=(ties.length:Int)) (by omega) (by omega)
   refine aj (bo 5 (cQ 0 CD hr (ah (eO 3 M.len rfl) aw) rfl (hS2 _)) ?_)
   obtain ⟨d,st3,d0,d1,hD3,hS3⟩:=cV hD2 (by omega) (b:=many - 1) (by omega) (by omega)
   refine aj (bo 6 (bu ak (cQ 0 CD hr (ah (fG (aa 2 rfl) ak) aw) rfl (hS3 _))) ?_)
   refine aj (fI 3 (own:=["_law_a","_law_b"]) (fr:=["_law_new"]) (ix:=[6]) (p:=λ_=>true) (f:=bump (2 + d)) (bb (so:=ai uP) (N0:=ED) rfl rfl (λx h=>aT h) (by decide +kernel)) (bj (cI 3 rfl (by rw [s3];exact Nat.le_trans (show i + 1<=2000 by omega) (by decide))))
    (λC s H ex=>dC 0 1) (λx=>⟨.inr rfl,.inr rfl,.inl rfl,trivial⟩) (λC s H ex x hx=>cy)
    (λC s H ex x hx _=>cg (ah (bu (aa 0 rfl) (dX M.int (bZ kn (aa 0 rfl) (aa 2 rfl)))) (ah (bu (aa 1 rfl) (dX M.int (bZ kn (aa 1 rfl) (aa 2 rfl)))) aw))) ?_)
   change WS _ _ [.ob (bU a ae st3),.im ae most,.im ae many,.mu bX (bY (2 + d) ties),.im ae (0 + (i:Int)),.im ae k,.im ae (2 + d),v7] _ _
   have lb:(bY (2 + d) ties).length=ties.length:=by rw [fB,List.length_map]
   obtain ⟨t,ht⟩:∃t,(bY (2 + d) ties)[k.toNat]?=some t:=⟨_,List.getElem?_eq_getElem (by omega)⟩
   have at1:bW (bY (2 + d) ties) k=some t:=by rw [eD k0 (by omega),ht]
   have hsz:(bY (2 + d) ties).length < sizeLine:=by rw [lb,s3];exact Nat.lt_of_lt_of_le (show i + 1 < 2000 by omega) (by decide)
   refine aj (cw 3 (cg (ah (aa 6 rfl) (ah (aJ (dh 3 (aa 5 rfl) rfl rfl at1)) aw))) rfl rfl hsz ?_)
   have at2:bW (bY (2 + d) ties++[(2 + d,t.2)]) k=some t:=by
    rw [eD k0 (by rw [List.length_append];simp;omega),List.getElem?_append_left (by omega),ht]
   have ixk:dO (bY (2 + d) ties++[(2 + d,t.2)]).length k=some k.toNat:=dH k0 (by rw [List.length_append,lb];simp;omega)
   refine aj (eN 3 (cg (ah (bQ (dh 3 (aa 5 rfl) rfl rfl at2)) (ah (aa 6 rfl) aw))) (aa 5 rfl) rfl rfl ixk ?_)
   refine ao (bo 2 (bu (aa 2 rfl) ak) ?_)
   exact ⟨st3,_,_,_,_,_,_,rfl,hD3.mono (by push_cast;omega),hM.split ht (by omega) (by omega)⟩
  ·obtain ⟨k,st2,k0,k1,hD2,hS2⟩:=cV hD1 (by omega) (b:=many - 1) (by omega) (by omega)
   refine aj (bo 7 (cQ 0 CD hr (ah (fG (aa 2 rfl) ak) aw) rfl (hS2 _)) ?_)
   obtain ⟨d,st3,d0,d1,hD3,hS3⟩:=cV hD2 (by omega) (b:=many) (by omega) (by omega)
   refine ao (cw 3 (cg (ah (bu (aa 7 rfl) (dX M.int (bZ gj (aa 7 rfl) ak))) (ah (cQ 0 CD hr (ah (aa 2 rfl) aw) rfl (hS3 _)) aw))) rfl rfl (by rw [s3];exact Nat.lt_of_lt_of_le (show i + 1 < 2000 by omega) (by decide)) ?_)
   exact ⟨st3,_,_,_,_,_,_,rfl,hD3.mono (by push_cast;omega),hM.tie k0 k1 d0 d1⟩
 ·rintro Γ ⟨st,many,ties,v4,v5,v6,v7,rfl,hD,hM⟩
  rw [au] at hM
  obtain ⟨s1,s2,s3⟩:=hM.sizes
  exact ao (fJ 0 (P:=λ_ z=>∃n:Nat,(n:Int)<=most/\Made n z.1 z.2) (cg (ah (aa 2 rfl) (ah (cI 3 rfl (by rw [s3];exact Nat.le_trans (show n.toNat + 1<=2000 by omega) (by decide))) aw))) rfl ⟨n.toNat,by omega,hM⟩)
end
end K1
namespace Fc
open PySem PySem.Spec L2
open PyProof.Rows hiding St
section
variable {X:Cx}{Γ Γ1 Γ2 Γ3:Ga}{α β γ δ:Type}{N:Ga->Prop}{T:RT}
variable {r:Rep α}
theorem EV.rep {e:Expr}{x:α}{r':Rep β}{y:β}(h:EV X e Γ r x Γ1)(c:∀(R:Hp) v,r.R X.K R v x->r'.R X.K R v y):EV X e Γ r' y Γ1:=λσ H0 R0 H R E Q q=>h σ H0 R0 H R E Q λv H' R' E' s' e'=>q v H' R' E' s' (c R' v e')
theorem zg {a:Expr}{c:Int}{j:Nat}{p1 pos:Pos}{x:Addr×Row}{y:Int}(ha:EV X a Γ yt x Γ1)(hy:bW (hX x.2) c=some (.int y)):EV X (.Subscript a (.Constant (.int c) j p1) pos) Γ ae y Γ1:=by
 intro σ H0 R0 H R E Q q
 refine eS (gO fA aI ef (λ_ _=>rfl)) (ha σ H0 R0 H R E _ λv H1 R1 E1 s1 e1=>?_)
 obtain ⟨rfl,hp⟩:=e1
 exact ⟨_,_,c,_,rfl,rfl,aL.of (E1.sub _ _ hp),hy,q _ H1 R1 E1 s1 rfl⟩
def nZ (X:Cx)(es:List Expr)(Γ:Ga)(ps:List Pk):Prop:=∀(σ:St) (H0 R0 H R:Hp),aq X.K σ H0 R0 H R Γ->∀Q:List V->Hp->Prop,(∀us,eZ X.K R us ps->Q us H)->ji X es σ H Q
theorem m5:nZ X [] Γ []:=λσ H0 R0 H R E Q q=>aS bp (q [] .nil)
theorem qf (i:Nat){x:Str}{p1:Pos}{es:List Expr}{ps:List Pk}{y:α}(hΓ:Γ[i]?=some (.im r y))(h:nZ X es Γ ps)(hN:autoParam (X.N[i]?=some x) Fc.ag)(hv:autoParam (bR X.env.scope x) Fc.bq)
 (hd:autoParam ((x==("__debug__":Str))=false) Fc.av) (hcd:autoParam ((x==("__classdict__":Str))=false) Fc.av) (hs:autoParam (starEach (.Name x p1::es) X.env=(false,eval (.Name x p1) X.env)::starEach es X.env) Fc.ag):nZ X (.Name x p1::es) Γ (⟨r,y⟩::ps):=λσ H0 R0 H R E Q q=>by
 obtain ⟨v,e,hr⟩:=E.ent i _ hΓ
 exact aS (aD (aU hN hv hd hcd) jJ hs) ⟨v,at_of e,h σ H0 R0 H R E _ λus p=>q (v::us) (.cons hr p)⟩
theorem wo {tg:Expr}{S:eU α}{x:Str}{k:Nat}{e0:Expr}{es:List Expr}{p p2 pos:Pos}{ps:List Pk}{xs:List α}{rr:Rep β}{Pd:List α->β->Prop}{bf:β->Ga->Ga}(C:aF X.prog X.w X.K X.mg X.base x k (fu r S X.K))(hr:bA k X.A)(h0:bc X e0 Γ r xs Γ1)(ha:nZ X es Γ1 ps)(hS:S X.K xs ps (λxs'=>bE X.K rr (Pd xs')))(hb:BG X tg rr bf)(h:∀xs' z,Pd xs' z->N (bf z Γ1))
 (hg:autoParam (Gl X x) Fc.ag) (hdb:autoParam ((x==("__debug__":Str))=false) Fc.av) (he:autoParam (starEach (e0::es) X.env=(false,eval e0 X.env)::starEach es X.env) Fc.ag) (hpl:autoParam ((backTo p2 (starEach es X.env)).any (·.1)=false) Fc.ag)
 (hs:autoParam (swapsWithSole [tg] (.Call (.Name x p) (e0::es) [] p2) pos.line X.env=pure false) Fc.ag) (hw:autoParam (swappedStores [tg] (.Call (.Name x p) (e0::es) [] p2) X.env=pure none) Fc.ag) (h1:autoParam ((assignEach [tg] X.env).map (·.2)=[assign tg X.env]) Fc.ag):
 W1 X (.Assign [tg] (.Call (.Name x p) (e0::es) [] p2) pos) Γ N T:=λσ H0 R0 H R E D dn dr=>
 sS (jM aI rh hs hw h1) (oh C hr h0 (λH1 R1 E1 Q q=>ha σ H0 R0 H1 R1 E1 Q q) hS E (λH1 v H' R' xs' E' s' t=>by
  obtain ⟨z,e1,hz⟩:=t
  exact hb σ H0 R0 H' R' Γ1 v z E' e1 _ λσ' E''=>dn σ' H' R' _ E'' s' (h xs' z hz)) hg hdb he hpl)
theorem wH {i:Nat}{a:Addr}{as:List Addr}{rs:List Row}(hΓ:Γ[i]?=some (.ob (dP a as rs)))(hz:as.length<=sizeLine)(σ:St)(H0 R0 H R:Hp)(E:aq X.K σ H0 R0 H R Γ):aq X.K σ H H H H ((Γ.map oG).set i (.im (af yt) (as.zip rs))):=by
 obtain ⟨⟨v,ea,rfl,ha,hr,nd⟩,hR⟩:=E.ent i _ hΓ
 refine E.frz.mI (i:=i) (e0:=.no) (by rw [List.getElem?_map,hΓ];rfl) ⟨.ref a,ea,a,_,rfl,ha,mU hr,?_⟩ λb w=>by cases w
 rw [List.length_zip,hr.1,Nat.min_self,← hr.1];exact hz
end
end Fc
namespace K1
open PySem L2 Fc
open PySem.Spec hiding Row
open PyProof.Rows hiding St
open PySem.Builtin.Int (intBits)
section
variable {rs:List Row}
inductive jU (p:Int) (rs:List Row):List (Int×Int)->List Row->Prop
 | nil:jU p rs [] rs
 | snoc {ts:List (Int×Int)} {cur:List Row} {k:Nat} {t:Int×Int}:jU p rs ts cur->k<=cur.length->jU p rs (ts++[t]) (cP k (p,t.1,t.2, -1) cur)
inductive gE (most:Int):Nat->List Int->List Row->Prop
 | nil:gE most 0 [] []
 | first {n:Nat} {many:Int} {ties:List (Int×Int)} {rs':List Row}:Made n many ties->(n:Int)<=most->jU 0 [] ties rs'->gE most 1 [many] rs'
 | more {i:Nat} {places:List Int} {rs:List Row} {j:Nat} {r:Row} {n:Nat} {many:Int} {ties:List (Int×Int)} {rs':List Row}:gE most i places rs->0 < i->rs[j]?=some r->r.2.2.2= -1->Made n many ties->(n:Int)<=most->
  jU i (rs.set j (r.1,r.2.1,r.2.2.1,(i:Int))) ties rs'->gE most (i + 1) (places++[many]) rs'
theorem jU.mem {p:Int}{ts:List (Int×Int)}{cur:List Row}(h:jU p rs ts cur):∀r,r∈cur↔r∈rs∨∃t∈ts,r=(p,t.1,t.2, -1):=by
 induction h with
 | nil=>intro r;simp
 | snoc h hk ih=>
   intro r
   rw [gx,ih]
   constructor
   ·rintro (h | h | ⟨t,ht,e⟩)
    ·exact .inr ⟨_,List.mem_append_right _ (List.mem_singleton.mpr rfl),h⟩
    ·exact .inl h
    ·exact .inr ⟨t,List.mem_append_left _ ht,e⟩
   ·rintro (h | ⟨t,ht,e⟩)
    ·exact .inr (.inl h)
    ·rcases List.mem_append.mp ht with q | q
     ·exact .inr (.inr ⟨t,q,e⟩)
     ·rw [List.mem_singleton.mp q] at e;exact .inl e
theorem jU.length {p:Int}{ts:List (Int×Int)}{cur:List Row}(h:jU p rs ts cur):cur.length=rs.length + ts.length:=by
 induction h with
 | nil=>rfl
 | snoc h hk ih=>rw [dw,ih,List.length_append];rfl
structure By (most:Int) (i:Nat) (places:List Int) (rs:List Row):Prop where
 len:places.length=i
 sizes:∀m∈places,2<=m/\m<=2 + most
 part:∀r∈rs,0<=r.1/\r.1 < (i:Int)
 free:0 < i->∃r∈rs,r.2.2.2= -1
 many:(rs.length:Int)<=(i:Int) * (1 + most)
theorem gE.facts {most:Int}{i:Nat}{places:List Int}(h:gE most i places rs):By most i places rs:=by
 induction h with
 | nil=>exact ⟨rfl,by simp,by simp,by omega,by simp⟩
 | @first n many ties rs' hM hn hI=>
   obtain ⟨a,b,c⟩:=hM.sizes
   refine ⟨rfl,λm hm=>?_,λr hr=>?_,λ_=>?_,?_⟩
   ·rw [List.mem_singleton.mp hm];exact ⟨a,by omega⟩
   ·rcases (hI.mem r).mp hr with q | ⟨t,_,e⟩
    ·cases q
    ·rw [e];exact ⟨Int.le_refl _,by show (0:Int) < 1;decide⟩
   ·cases ties with
    | nil=>simp at c
    | cons t ts=>exact ⟨_,(hI.mem _).mpr (.inr ⟨t,List.mem_cons_self,rfl⟩),rfl⟩
   ·rw [hI.length,c];simp;omega
 | @more i places rs j r n many ties rs' hW hi hr hc hM hn hI ih=>
   obtain ⟨a,b,c⟩:=hM.sizes
   refine ⟨by rw [List.length_append,ih.len];rfl,λm hm=>?_,λq hq=>?_,λ_=>?_,?_⟩
   ·rcases List.mem_append.mp hm with q | q
    ·exact ih.sizes m q
    ·rw [List.mem_singleton.mp q];exact ⟨a,by omega⟩
   ·rcases (hI.mem q).mp hq with z | ⟨t,_,e⟩
    ·rcases List.mem_or_eq_of_mem_set z with z | z
     ·have:=ih.part q z;push_cast;omega
     ·rw [z];have:=ih.part r (List.mem_of_getElem? hr);push_cast;exact ⟨this.1,by show r.1 < _;omega⟩
    ·rw [e];push_cast;exact ⟨by omega,by show (i:Int) < _;omega⟩
   ·cases ties with
    | nil=>simp at c
    | cons t ts=>exact ⟨_,(hI.mem _).mpr (.inr ⟨t,List.mem_cons_self,rfl⟩),rfl⟩
   ·rw [hI.length,List.length_set,c]
    have:=ih.many
    have e:((i + 1:Nat):Int) * (1 + most)=(i:Int) * (1 + most) + (1 + most):=by push_cast;rw [Int.add_mul,Int.one_mul]
    rw [e];push_cast;omega
structure sV (parts:Int) (i:Nat) (rs0 rs:List Row):Prop where
 len:rs.length=rs0.length
 row:∀(j:Nat) (r0 r:Row),rs0[j]?=some r0->rs[j]?=some r->r=r0∨(r0.2.2.2= -1/\r0.1 < r.2.2.2/\r.2.2.2 < parts/\r=(r0.1,r0.2.1,r0.2.2.1,r.2.2.2))
 later:∀(j:Nat),i<=j->rs[j]?=rs0[j]?
def oF (pm most:Int)(v:ax):Prop:=∃(k:Nat) (rs0:List Row),0 < k/\(k:Int)<=pm/\gE most k v.1 rs0/\sV k rs0.length rs0 v.2
end
section
variable {P:Program}{w:World}{K:PySem.W.Frag}{mg:Str->Option Value}{base:Heap}{f:Addr}{fd:FuncData}
abbrev oi:Stmt:=top qN
abbrev xN:List Str:=["_law_script","_law_parts_most","_law_most","_law_first","_law_parts","_law_places","_law_rows","_law_part_here","_law_many","_law_ties","_law_row","_law_some","_law_start","_law_end","_law_later"]
theorem Az:aC xN ["_law_script","_law_parts_most","_law_most"] (ai oi):=⟨rfl,rfl,rfl,by decide +kernel,rfl,by decide +kernel,by decide +kernel⟩
def EK:cq:=λK ps T=>∃(ns:List Int) (pm most:Int),ps=[⟨cX,ns⟩,⟨ae,pm⟩,⟨ae,most⟩]/\(∀n∈ns,intBits n<=2 ^ 20)/\0 < pm/\pm<=100/\0<=most/\most<=1000/\T=bE K bx (oF pm most)
theorem picked {as:List Addr}{rs:List Row}{b:Addr}(h:b∈((as.zip rs).filter λx=>decide (x.2.2.2.2= -1)).map (·.1)):∃(j:Nat) (r:Row),as[j]?=some b/\rs[j]?=some r/\r.2.2.2= -1:=by
 obtain ⟨⟨b',r⟩,hm,rfl⟩:=List.mem_map.mp h
 obtain ⟨h1,h2⟩:=List.mem_filter.mp hm
 obtain ⟨j,hj⟩:=List.mem_iff_getElem?.mp h1
 rw [List.getElem?_zip_eq_some] at hj
 exact ⟨j,r,hj.1,hj.2,of_decide_eq_true h2⟩
theorem uX {as:List Addr}{rs:List Row}(hl:as.length=rs.length)(h:∃r∈rs,r.2.2.2= -1):0 < (((as.zip rs).filter λx=>decide (x.2.2.2.2= -1)).map (·.1)).length:=by
 obtain ⟨r,hr,hc⟩:=h
 obtain ⟨j,hj⟩:=List.mem_iff_getElem?.mp hr
 have hjl:j < as.length:=by rw [hl];exact (List.getElem?_eq_some_iff.mp hj).1
 refine List.length_pos_of_mem (a:=as[j]) (List.mem_map.mpr ⟨(as[j],r),List.mem_filter.mpr ⟨?_,decide_eq_true hc⟩,rfl⟩)
 exact List.mem_iff_getElem?.mpr ⟨j,by rw [List.getElem?_zip_eq_some];exact ⟨List.getElem?_eq_getElem hjl,hj⟩⟩
theorem zr (as:List Addr)(rs:List Row):(((as.zip rs).filter λx=>decide (x.2.2.2.2= -1)).map (·.1)).length<=rs.length:=by
 rw [List.length_map]
 refine Nat.le_trans (List.length_filter_le _ _) ?_
 rw [List.length_zip];exact Nat.min_le_right _ _
theorem De (M:bO mg)(CL:aF P w K mg base "_law_left" 2 (aQ ye K))(CD:aF P w K mg base "_law_draw" 2 (fu ae mO K))(CP:aF P w K mg base "_law_part" 3 (fu ae Fh K))(F:bH K "_law_web" "_law_web" oi f fd)(hm:mg "_law_web"=some (.ref f))(hb:Binds K fd ["_law_script","_law_parts_most","_law_most"] []):aF P w K mg base "_law_web" 4 (aQ EK K):=by
 have nd:=Az.nd
 have ndc:List.Nodup [("_law_row":Str)]:=by decide
 have CL:=CL.mono (show 2<=3 by decide)
 have CD:=CD.mono (show 2<=3 by decide)
 refine bD F Az hm hb (λqs T ⟨_,_,_,e,_⟩=>by rw [e];rfl) (λcdv A outer s H E qs T hr hS=>?_)
 obtain ⟨ns,pm,most,rfl,hbits,p0,p1,m0,m1,rfl⟩:=hS
 change WS _ _ [.im cX ns,.im ae pm,.im ae most,.no,.no,.no,.no,.no,.no,.no,.no,.no,.no,.no,.no] _ _
 refine aj (bG 3 (d9 CL hr (ah (aa 0 rfl) (ah ak aw)) ⟨_,_,rfl,by decide,rfl⟩) ?_)
 obtain ⟨d,st,d0,d1,hD,hS⟩:=cV (gW hbits 0) (by decide) (b:=pm) p0 (by omega)
 refine aj (bo 4 (bu ak (fY 3 CD hr (ah (aa 1 rfl) aw) rfl rfl (hS _))) ?_)
 refine aj (bG 5 (r:=ae) (aN aY (by decide)) (aj (bG 6 (r:=ae) (aN aY (by decide)) ?_)))
 refine WS.zw 6 rfl λa=>?_
 have hz:∀{n:Nat},n<=200000->n<=sizeLine:=λh=>Nat.le_trans h (by decide)
 have hzl:∀{n:Nat},n<=200000->n < sizeLine:=λh=>Nat.lt_of_le_of_lt h (by decide)
 have mulb:∀i:Nat,(i:Int)<=100->(i:Int) * (1 + most)<=100100:=λi hi=>by
  have h1:(i:Int) * (1 + most)<=100 * (1 + most):=Int.mul_le_mul_of_nonneg_right hi (by omega)
  omega
 refine aj (bS (r:=ae) (λi Γ=>∃st places as rs v7 v8 v9 v10 v11 v12 v13 v14,Γ=[.im cX ns,.im ae pm,.im ae most,.mu ae st,.im ae (1 + d),.mu ae places,.ob (dP a as rs),v7,v8,v9,v10,v11,v12,v13,v14]/\fc (1 + i + rs.length) st/\as.length=rs.length/\gE most i places rs)
  (bB M.range (aa 4 rfl) ⟨by omega,by omega⟩) (aG 7) ⟨st,[],[],[],.no,.no,.no,.no,.no,.no,.no,.no,rfl,hD.mono (by simp),rfl,.nil⟩ ?_ ?_)
 ·rintro i x Γ hx ⟨st,places,as,rs,v7,v8,v9,v10,v11,v12,v13,v14,rfl,hD,hl,hW⟩
  obtain ⟨hi,rfl⟩:=gz hx
  have hi':(i:Int) < 1 + d:=by omega
  have fa:=hW.facts
  have rsl:(rs.length:Int)<=100100:=Int.le_trans fa.many (mulb i (by omega))
  change WS _ _ [.im cX ns,.im ae pm,.im ae most,.mu ae st,.im ae (1 + d),.mu ae places,.ob (dP a as rs),.im ae (0 + (i:Int)),v8,v9,v10,v11,v12,v13,v14] _ _
  rw [Int.zero_add]
  refine aj (wo CP hr (d9 CL hr (ah (aa 0 rfl) (ah (bu ak (aa 7 rfl)) aw)) ⟨_,_,rfl,by omega,rfl⟩) (qf 2 rfl m5) ⟨most,gW hbits _,rfl,m0,m1,rfl⟩ (dC 8 9) ?_)
  rintro _ ⟨many,ties⟩ ⟨n,hn,hM⟩
  replace hM:Made n many ties:=hM
  obtain ⟨z1,z2,z3⟩:=hM.sizes
  refine aj (cw 5 (aa 8 rfl) rfl rfl (hzl (by rw [fa.len];omega)) ?_)
  -- the loop over the ties,from some rows on
  have tail:∀(st1:List Int) (rs1:List Row) (w10 w11:Ent),fc (2 + i + rs1.length) st1->as.length=rs1.length->rs1.length=rs.length->(∀rs',jU i rs1 ties rs'->gE most (i + 1) (places++[many]) rs')->
   WS (cL dQ P w K mg base xN "_law_web" (ai oi) f cdv A outer s H E).c8
    [((br oi).getD 4 (.Pass ⟨0,0,0,0⟩) |> fun | .For _ _ b _ _=>b.getD 3 (.Pass ⟨0,0,0,0⟩) | _=>.Pass ⟨0,0,0,0⟩)]
    [.im cX ns,.im ae pm,.im ae most,.mu ae st1,.im ae (1 + d),.mu ae (places++[many]),.ob (dP a as rs1),.im ae (i:Int),.im ae many,.im (af bX) ties,w10,w11,v12,v13,v14]
    (λΓ=>∃st places as rs v7 v8 v9 v10 v11 v12 v13 v14,Γ=[.im cX ns,.im ae pm,.im ae most,.mu ae st,.im ae (1 + d),.mu ae places,.ob (dP a as rs),v7,v8,v9,v10,v11,v12,v13,v14]/\fc (1 + ((i + 1:Nat):Int) + rs.length) st/\as.length=rs.length/\gE most (i + 1) places rs)
    (bE K bx (oF pm most)):=by
   intro st1 rs1 w10 w11 hD1 hl1 hlr hfin
   refine ao (bS (r:=bX) (λk Γ=>∃st as rs' v12 v13,Γ=[.im cX ns,.im ae pm,.im ae most,.mu ae st,.im ae (1 + d),.mu ae (places++[many]),.ob (dP a as rs'),.im ae (i:Int),.im ae many,.im (af bX) ties,w10,w11,v12,v13,v14]/\fc (2 + i + rs'.length) st/\as.length=rs'.length/\jU i rs1 (ties.take k) rs')
    (bj (aa 9 rfl)) (dC 12 13) ⟨st1,as,rs1,v12,v13,rfl,hD1,hl1,.nil⟩ ?_ ?_)
   ·rintro k t Γ ht ⟨st2,as2,rs2,u12,u13,rfl,hD2,hl2,hI⟩
    have hlen:=hI.length
    have hk:k < ties.length:=(List.getElem?_eq_some_iff.mp ht).1
    rw [List.length_take] at hlen
    have r2:(rs2.length:Int)<=150000:=by omega
    obtain ⟨q,st3,q0,q1,hD3,hS3⟩:=cV hD2 (by omega) (b:=(rs2.length:Int) + 1) (by omega) (by omega)
    refine ao (wg 6 (r:=((i:Int),t.1,t.2, -1)) (fY 3 CD hr (ah (bu (si 6 M.len rfl) ak) aw) rfl rfl (hS3 _)) (aN (aZ (aa 7 rfl) (aZ (aa 12 rfl) (aZ (aa 13 rfl) (aZ (cO ak) aY)))) (by show 4<=sizeLine;decide)) rfl rfl q0 (by omega) (hzl (by omega)) λb=>?_)
    refine ⟨st3,_,_,_,_,rfl,hD3.mono (by rw [dw];push_cast;omega),by rw [dw,dw,hl2],?_⟩
    have tk:ties.take (k + 1)=ties.take k++[t]:=by rw [List.take_succ,ht];rfl
    rw [tk]
    exact hI.snoc (by omega)
   ·rintro Γ ⟨st2,as2,rs2,u12,u13,rfl,hD2,hl2,hI⟩
    rw [List.take_length] at hI
    exact ⟨st2,_,as2,rs2,_,_,_,_,_,_,_,_,rfl,hD2.mono (by push_cast;omega),hl2,hfin rs2 hI⟩
  refine aj (bh (aA gj (aa 7 rfl) ak) (λh=>?_) (λh=>aV ?_))
  ·have h:0 < (i:Int):=of_decide_eq_true h
   have hfree:=fa.free (by omega)
   have lpos:=uX (as:=as) hl hfree
   have lle:=zr as rs
   refine aj (zp 11 (wH (i:=6) rfl (hz (by omega))) (own:=["_law_row"]) (fr:=[]) (ix:=[]) (ra:=yt) (rb:=jm) (xs:=as.zip rs) (p:=λx=>decide (x.2.2.2.2= -1)) (f:=(·.1)) (λ_ _ _ _ _ h=>h) (bb (so:=ai oi) (N0:=xN) rfl rfl (λx h=>aT h) (by decide +kernel)) (bj (aa 6 rfl))
    (λC s H ex=>aG 0) (λx=>⟨.inr rfl,trivial⟩) (λC s H ex x hx=>eX (aA bI (zg (aa 0 rfl) rfl) (cO ak))) (λC s H ex x hx _=>EV.rep (aa 0 rfl) λR v hv=>hv.1) ?_)
   generalize hLd:((as.zip rs).filter λx=>decide (x.2.2.2.2= -1)).map (·.1)=L at lpos lle ⊢
   obtain ⟨q,st3,q0,q1,hD3,hS3⟩:=cV hD (by omega) (b:=(L.length:Int)) (by omega) (by omega)
   obtain ⟨b,hbL⟩:∃b,L[q.toNat]?=some b:=⟨_,List.getElem?_eq_getElem (by omega)⟩
   have hbm:b∈L:=List.mem_of_getElem? hbL
   rw [← hLd] at hbm
   obtain ⟨j,r,hj1,hj2,hj3⟩:=picked hbm
   refine ao (oZ 6 (aa 7 rfl) (dh 11 (fY 3 CD hr (ah (eO 11 M.len rfl) aw) rfl rfl (hS3 _)) rfl rfl (by rw [eD q0 (by omega)];exact hbL)) rfl (yV hj1 hj2) ?_)
   exact tail st3 (rs.set j (r.1,r.2.1,r.2.2.1,(i:Int))) _ _ (hD3.mono (by rw [List.length_set];omega)) (by rw [List.length_set];exact hl) (List.length_set ..) λrs' hI=>hW.more (by omega) hj2 hj3 hM hn hI
  ·have h:¬0 < (i:Int):=of_decide_eq_false h
   have hi0:i=0:=by omega
   subst hi0
   cases hW
   exact tail st [] _ _ (hD.mono (by simp)) hl rfl λrs' hI=>.first hM hn hI
 ·rintro Γ ⟨st,places,as,rs,v7,v8,v9,v10,v11,v12,v13,v14,rfl,hD,hl,hW⟩
  rw [au] at hW hD
  have hk:((1 + d).toNat:Int)=1 + d:=by omega
  have fa:=hW.facts
  have rsl:(rs.length:Int)<=100100:=Int.le_trans fa.many (mulb _ (by omega))
  refine WS.outer 6 rfl ?_
  refine aj (bS (r:=jm) (λi Γ=>∃st rs' v10 v14,Γ=[.im cX ns,.im ae pm,.im ae most,.mu ae st,.im ae (1 + d),.mu ae places,.ob (g9 a as rs'),v7,v8,v9,v10,v11,v12,v13,v14]/\fc (1 + (1 + d) + rs.length + i) st/\sV (1 + d) i rs rs')
   (bj (y8 6 rfl (hz (by omega)))) (aG 10) ⟨st,rs,v10,v14,rfl,hD.mono (by rw [hk];simp),⟨rfl,λj r0 r h1 h2=>.inl (by rw [h1] at h2;exact (Option.some.inj h2).symm),λj _=>rfl⟩⟩ ?_ ?_)
  ·rintro i b Γ hib ⟨st1,rs1,u10,u14,rfl,hD1,hF⟩
   have hil:i < as.length:=(List.getElem?_eq_some_iff.mp hib).1
   obtain ⟨r,hr0⟩:∃r,rs[i]?=some r:=⟨_,List.getElem?_eq_getElem (by omega)⟩
   have hr1:rs1[i]?=some r:=by rw [hF.later i (Nat.le_refl _)];exact hr0
   have pr:=fa.part r (List.mem_of_getElem? hr0)
   obtain ⟨q,st3,q0,q1,hD3,hS3⟩:=cV hD1 (by omega) (b:=1 + d - r.1) (by omega) (by omega)
   refine aj (bo 14 (fY 3 CD hr (ah (fG (aa 4 rfl) (qr 6 (aa 10 rfl) rfl (ky (r':=r) hib hr1) rfl)) aw) rfl rfl (hS3 _)) ?_)
   refine ao (bh (TW.tv (dy (aA bI (qr 6 (aa 10 rfl) rfl (ky (r':=r) hib hr1) rfl) (cO ak)) (λ_=>dZ (aA gj (aa 14 rfl) ak)))) (λh=>?_) (λh=>aV ?_))
   ·rw [Bool.and_eq_true] at h
    have hc:r.2.2.2= -1:=of_decide_eq_true h.1
    have hq:0 < q:=of_decide_eq_true h.2
    refine ao (oZ 6 (bu (qr 6 (aa 10 rfl) rfl (ky (r':=r) hib hr1) rfl) (aa 14 rfl)) (aa 10 rfl) rfl (ky hib hr1) ?_)
    refine ⟨st3,_,_,_,rfl,hD3.mono (by push_cast;omega),⟨by rw [List.length_set];exact hF.len,λj r0 rr h1 h2=>?_,λj hj=>?_⟩⟩
    ·by_cases hji:j=i
     ·subst hji
      rw [List.getElem?_set_self (by rw [hF.len];omega)] at h2
      rw [hr0] at h1
      cases h1;cases h2
      exact .inr ⟨hc,by show r.1 < r.1 + q;omega,by show r.1 + q < 1 + d;omega,rfl⟩
     ·rw [List.getElem?_set_ne (Ne.symm hji)] at h2
      exact hF.row j r0 rr h1 h2
    ·rw [List.getElem?_set_ne (by omega)]
     exact hF.later j (by omega)
   ·exact ⟨st3,rs1,_,_,rfl,hD3.mono (by push_cast;omega),⟨hF.len,hF.row,λj hj=>hF.later j (by omega)⟩⟩
  ·rintro Γ ⟨st1,rs1,u10,u14,rfl,hD1,hF⟩
   refine WS.yF 6 rfl (hz (by rw [hF.len];omega)) ?_
   refine ao (bg (cg (ah (cI 5 rfl (hz (by rw [fa.len];omega))) (ah (bc.im (bN (own:=["_law_row"]) (fr:=[]) (ix:=[]) (p:=λ_=>true) (f:=id) (bb (so:=ai oi) (N0:=xN) rfl rfl (λx h=>aT h) (by decide +kernel)) (bj (aa 6 rfl))
    (λC s H ex=>aG 0) (λx=>⟨.inr rfl,trivial⟩) (λC s H ex x hx=>cy) (λC s H ex x hx _=>uT M.tuple (aa 0 rfl)))) aw))) ?_)
   refine ⟨(1 + d).toNat,rs,by omega,by omega,hW,?_⟩
   rw [hk]
   have e:((rs1.filter λ_=>true).map id)=rs1:=by rw [List.map_id,List.filter_eq_self.mpr (by simp)]
   show sV (1 + d) rs.length rs ((rs1.filter λ_=>true).map id)
   rw [e]
   have hll:as.length=rs.length:=hl
   rw [hll] at hF
   exact hF
end
theorem et {α:Type} [DecidableEq α]:∀{xs ys:List α},xs.Nodup->(∀x∈xs,x∈ys)->xs.length<=ys.length
 | [],_,_,_=>Nat.zero_le _
 | x::xs,ys,h,hs=>by
   obtain ⟨h1,h2⟩:=List.nodup_cons.mp h
   have hx:x∈ys:=hs x List.mem_cons_self
   have:=et (xs:=xs) (ys:=ys.erase x) h2 λy hy=>(List.mem_erase_of_ne (show y≠x from λe=>h1 (e▸hy))).mpr (hs y (List.mem_cons_of_mem _ hy))
   rw [List.length_erase_of_mem hx] at this
   have:=List.length_pos_of_mem hx
   rw [List.length_cons]
   omega
theorem vJ {α:Type} [DecidableEq α]{xs ys:List α}(h:xs.Nodup)(h':ys.Nodup)(e:∀x,x∈xs↔x∈ys):xs.length=ys.length:=
 Nat.le_antisymm (et h λx hx=>(e x).mp hx) (et h' λx hx=>(e x).mpr hx)
def kY (ks:List Int):List (Int×V):=ks.map λk=>(k,.bl true)
theorem nq (ks:List Int)(k:Int):gG (kY ks) k=decide (k∈ks):=by
 unfold gG kY
 rw [List.any_map,Bool.eq_iff_iff,List.any_eq_true]
 simp
structure qh (es:List (Int×Int)) (s:Int) (ks ws:List Int):Prop where
 nd:ks.Nodup
 re:∀k∈ks,Reach es s k
 st:s∈ks
 wt:∀k∈ws,k∈ks
 bd:∀k∈ks,k∈s::es.map (·.2)
theorem qh.le {es:List (Int×Int)}{s:Int}{ks ws:List Int}(h:qh es s ks ws):ks.length<=es.length + 1:=by
 have:=et h.nd h.bd
 simpa using this
section
variable {P:Program}{w:World}{K:PySem.W.Frag}{mg:Str->Option Value}{base:Heap}{f:Addr}{fd:FuncData}
abbrev yh:Stmt:=top tG
abbrev nRE:List Str:=["leads","start","found","waiting","place","lead"]
theorem Bn:aC nRE ["leads","start"] (ai yh):=⟨rfl,rfl,rfl,by decide +kernel,rfl,by decide +kernel,by decide +kernel⟩
def zO:cq:=λK ps T=>∃(es:List (Int×Int)) (s:Int),ps=[⟨af bX,es⟩,⟨ae,s⟩]/\es.length<=100000/\T=bE K mC λkvs=>(kvs.map (·.1)).Nodup/\∀k,k∈kvs.map (·.1)↔Reach es s k
theorem C8 (F:bH K "reached" "reached" yh f fd)(hm:mg "reached"=some (.ref f))(hb:Binds K fd ["leads","start"] []):aF P w K mg base "reached" 1 (aQ zO K):=by
 have nd:=Bn.nd
 refine bD F Bn hm hb (λqs T ⟨_,_,e,_⟩=>by rw [e];rfl) (λcdv A outer s H E qs T hr hS=>?_)
 obtain ⟨es,s0,rfl,hlen,rfl⟩:=hS
 have hu:=oH hr
 change WS _ _ [.im (af bX) es,.im ae s0,.no,.no,.no,.no] _ _
 refine aj (qV 2 (sT 1 rfl) sW (aj (bG 3 (aN (aZ (aa 1 rfl) aY) (by show 1<=sizeLine;decide)) ?_)))
 refine aj (fq (λm Γ=>∃ks ws v4 v5,Γ=[.im (af bX) es,.im ae s0,.di (kY ks),.mu ae ws,v4,v5]/\qh es s0 ks ws/\m=2 * (es.length + 1 - ks.length) + ws.length/\m<=2 * es.length + 1/\∀k∈ks,k∉ws->∀b,(k,b)∈es->b∈ks) (m0:=2 * (es.length + 1 - 1) + 1)
  ⟨[s0],[s0],.no,.no,rfl,⟨by simp,λk hk=>by rw [List.mem_singleton.mp hk];exact .base,List.mem_singleton.mpr rfl,λk hk=>hk,λk hk=>by rw [List.mem_singleton.mp hk];exact List.mem_cons_self⟩,rfl,Nat.le_refl _,λk hk hn=>absurd hk hn⟩ ?_)
 rintro m Γ ⟨ks,ws,v4,v5,rfl,hI,rfl,hmb,hcl⟩
 refine ⟨!ws.isEmpty,_,jS 3 rfl,λhne=>?_,λhe=>?_⟩
 ·have hws:ws≠[]:=by intro e;rw [e] at hne;exact absurd hne (by decide)
  have hpos:0 < ws.length:=List.length_pos_iff.mpr hws
  obtain ⟨p,hp⟩:∃p,ws[ws.length - 1]?=some p:=⟨_,List.getElem?_eq_getElem (by omega)⟩
  have hpm:p∈ws:=List.mem_of_getElem? hp
  have hsplit:ws=ws.dropLast++[p]:=by
   have e:=List.dropLast_concat_getLast hws
   rw [List.getLast_eq_getElem,] at e
   rw [List.getElem?_eq_getElem (by omega)] at hp
   rw [Option.some.inj hp] at e
   exact e.symm
  have hdl:ws.dropLast.length=ws.length - 1:=List.length_dropLast
  refine aj (bo 4 (j8 3 rfl hp) ?_)
  refine ao (bS (r:=bX) (λi Γ=>∃ks1 ws1 v5,Γ=[.im (af bX) es,.im ae s0,.di (kY ks1),.mu ae ws1,.im ae p,v5]/\qh es s0 ks1 ws1/\p∈ks1/\2 * (es.length + 1 - ks1.length) + ws1.length < 2 * (es.length + 1 - ks.length) + ws.length/\(∀k∈ks1,k∉ws1->k≠p->∀b,(k,b)∈es->b∈ks1)/\∀(j:Nat) b,j < i->es[j]?=some (p,b)->b∈ks1)
   (bj (aa 0 rfl)) (aG 5) ⟨ks,ws.dropLast,v5,rfl,⟨hI.nd,hI.re,hI.st,λk hk=>hI.wt k (List.dropLast_subset _ hk),hI.bd⟩,hI.wt p hpm,by omega,λk hk hn hkp=>hcl k hk λhw=>?_,λj b hj=>absurd hj (Nat.not_lt_zero _)⟩ ?_ ?_)
  ·rw [hsplit] at hw
   rcases List.mem_append.mp hw with q | q
   ·exact hn q
   ·exact hkp (List.mem_singleton.mp q)
  ·rintro i t Γ ht ⟨ks1,ws1,u5,rfl,hJ,hp1,hme,hc1,hc2⟩
   have htm:t∈es:=List.mem_of_getElem? ht
   refine ao (bh (TW.tv (dy (aA bI (bQ (aa 5 rfl)) (aa 4 rfl)) (λ_=>dZ (rq 2 true hu (aJ (aa 5 rfl)) rfl)))) (λh=>?_) (λh=>aV ?_))
   ·rw [Bool.and_eq_true] at h
    have h1:t.1=p:=of_decide_eq_true h.1
    have h2:t.2∉ks1:=by
     have:=h.2
     rw [if_pos rfl,nq] at this
     simpa using this
    have hJ':qh es s0 (ks1++[t.2]) (ws1++[t.2]):=by
     refine ⟨eT hJ.nd h2,λk hk=>?_,List.mem_append_left _ hJ.st,λk hk=>?_,λk hk=>?_⟩
     ·rcases List.mem_append.mp hk with q | q
      ·exact hJ.re k q
      ·rw [List.mem_singleton.mp q]
       exact .step (hJ.re p hp1) (by rw [← h1];exact htm)
     ·rcases List.mem_append.mp hk with q | q
      ·exact List.mem_append_left _ (hJ.wt k q)
      ·exact List.mem_append_right _ q
     ·rcases List.mem_append.mp hk with q | q
      ·exact hJ.bd k q
      ·rw [List.mem_singleton.mp q]
       exact List.mem_cons_of_mem _ (List.mem_map.mpr ⟨t,htm,rfl⟩)
    have hle:=hJ'.le
    have hle1:=hJ.le
    rw [List.length_append,List.length_singleton] at hle
    refine aj (vH 2 hu (aJ (aa 5 rfl)) sW rfl (by rw [nq];exact decide_eq_false h2) (by unfold kY;rw [List.length_map];exact Nat.lt_of_le_of_lt (show ks1.length<=100001 by omega) (by decide)) ?_)
    have ed:kY ks1++[(t.2,V.bl true)]=kY (ks1++[t.2]):=by unfold kY;rw [List.map_append];rfl
    rw [ed]
    have hwl:ws1.length<=400000:=by
     omega
    refine ao (cw 3 (aJ (aa 5 rfl)) rfl rfl (Nat.lt_of_le_of_lt hwl (by decide)) ?_)
    refine ⟨ks1++[t.2],ws1++[t.2],_,rfl,hJ',List.mem_append_left _ hp1,?_,λk hk hn hkp b hb=>?_,λj b hj hjb=>?_⟩
    ·rw [List.length_append,List.length_append,List.length_singleton];omega
    ·rcases List.mem_append.mp hk with q | q
     ·exact List.mem_append_left _ (hc1 k q (λz=>hn (List.mem_append_left _ z)) hkp b hb)
     ·exact absurd (List.mem_append_right _ q) hn
    ·rcases Nat.lt_or_ge j i with q | q
     ·exact List.mem_append_left _ (hc2 j b q hjb)
     ·have:j=i:=by omega
      subst this
      rw [ht] at hjb
      cases hjb
      exact List.mem_append_right _ (List.mem_singleton.mpr rfl)
   ·refine ⟨ks1,ws1,_,rfl,hJ,hp1,hme,hc1,λj b hj hjb=>?_⟩
    rcases Nat.lt_or_ge j i with q | q
    ·exact hc2 j b q hjb
    ·have:j=i:=by omega
     subst this
     rw [ht] at hjb
     cases hjb
     have h':=h
     rw [Bool.and_eq_false_iff] at h'
     rcases h' with z | z
     ·exact absurd rfl (of_decide_eq_false z)
     ·rw [if_pos rfl,nq] at z
      simpa using z
  ·rintro Γ ⟨ks1,ws1,u5,rfl,hJ,hp1,hme,hc1,hc2⟩
   refine ⟨_,hme,ks1,ws1,_,_,rfl,hJ,rfl,by omega,λk hk hn b hb=>?_⟩
   by_cases hkp:k=p
   ·subst hkp
    obtain ⟨j,hj⟩:=List.mem_iff_getElem?.mp hb
    exact hc2 j b (List.getElem?_eq_some_iff.mp hj).1 hj
   ·exact hc1 k hk hn hkp b hb
 ·have hws:ws=[]:=by
   cases ws with
   | nil=>rfl
   | cons _ _=>simp at he
  subst hws
  refine ao (A5 2 rfl ?_)
  have em:(kY ks).map (·.1)=ks:=by unfold kY;rw [List.map_map];exact List.map_id ks
  rw [em]
  exact ⟨hI.nd,λk=>⟨hI.re k,λhk=>Reach.sub (P:=λk=>k∈ks) hI.st (λa b ha hab=>hcl a ha (by simp) b hab) hk⟩⟩
open Classical in
noncomputable def iW (es:List (Int×Int))(s n:Int):Bool:=decide (∃ks:List Int,ks.Nodup/\(∀k,k∈ks↔Reach es s k)/\(ks.length:Int)=n)
open Classical in
theorem og {es:List (Int×Int)}{s n:Int}{ks:List Int}(h:ks.Nodup)(e:∀k,k∈ks↔Reach es s k):decide ((ks.length:Int)=n)=iW es s n:=by
 unfold iW
 by_cases hn:(ks.length:Int)=n
 ·rw [decide_eq_true hn,decide_eq_true];exact ⟨ks,h,e,hn⟩
 ·rw [decide_eq_false hn,decide_eq_false]
  rintro ⟨ks',h',e',hn'⟩
  exact hn (by rw [← hn',vJ h h' λk=>(e k).trans (e' k).symm])
def fwd (rs:List Row)(p:Int):List (Int×Int):=(rs.filter λr=>decide (r.1=p)).map λr=>(r.2.1,r.2.2.1)
def bwd (rs:List Row)(p:Int):List (Int×Int):=(rs.filter λr=>decide (r.1=p)).map λr=>(r.2.2.1,r.2.1)
noncomputable def qp (rs:List Row)(p n:Int):Bool:=iW (fwd rs p) 0 n&&iW (bwd rs p) 1 n
abbrev qT:Stmt:=top mf
abbrev BI:List Str:=["rows","part","size","ahead","behind"]
theorem A0:aC BI ["rows","part","size"] (ai qT):=⟨rfl,rfl,rfl,by decide +kernel,rfl,by decide +kernel,by decide +kernel⟩
def Es:cq:=λK ps T=>∃(rs:List Row) (p n:Int),ps=[⟨af aB,rs⟩,⟨ae,p⟩,⟨ae,n⟩]/\rs.length<=1000/\T=bE K aR (· =qp rs p n)
theorem Dq (M:bO mg)(CR:aF P w K mg base "reached" 1 (aQ zO K))(F:bH K "lies_on_ways" "lies_on_ways" qT f fd)(hm:mg "lies_on_ways"=some (.ref f))(hb:Binds K fd ["rows","part","size"] []):aF P w K mg base "lies_on_ways" 2 (aQ Es K):=by
 have nd:=A0.nd
 have ndc:List.Nodup [("row":Str),"part"]:=by decide
 obtain ⟨t1,hB⟩:=M.begin_
 obtain ⟨t2,hE⟩:=M.end_
 refine bD F A0 hm hb (λqs T ⟨_,_,_,e,_⟩=>by rw [e];rfl) (λcdv A outer s H E qs T hr hS=>?_)
 obtain ⟨rs,p,n,rfl,hl,rfl⟩:=hS
 change WS _ _ [.im (af aB) rs,.im ae p,.im ae n,.no,.no] _ _
 have lf:∀g:Row->Int×Int,((rs.filter λr=>decide (r.1=p)).map g).length<=100000:=λg=>by
  rw [List.length_map]
  have:=List.length_filter_le (λr:Row=>decide (r.1=p)) rs
  omega
 refine aj (ja 3 CR hr (ah (bc.im (bN (own:=["row"]) (fr:=["part"]) (ix:=[1]) (p:=λr=>decide (r.1=p)) (f:=λr=>(r.2.1,r.2.2.1)) (bb (so:=ai qT) (N0:=BI) rfl rfl (λx h=>aT h) (by decide +kernel)) (bj (aa 0 rfl))
  (λC s H ex=>aG 0) (λx=>⟨.inr rfl,.inl rfl,trivial⟩) (λC s H ex x hx=>eX (aA bI (dS (aa 0 rfl)) (aa 1 rfl))) (λC s H ex x hx _=>cg (ah (dG (aa 0 rfl)) (ah (c3 (aa 0 rfl)) aw))))) (ah (cB hB) aw)) ⟨_,_,rfl,lf _,rfl⟩ ?_)
 rintro kv1 ⟨n1,e1⟩
 refine aj (ja 4 CR hr (ah (bc.im (bN (own:=["row"]) (fr:=["part"]) (ix:=[1]) (p:=λr=>decide (r.1=p)) (f:=λr=>(r.2.2.1,r.2.1)) (bb (so:=ai qT) (N0:=BI) rfl rfl (λx h=>aT h) (by decide +kernel)) (bj (aa 0 rfl))
  (λC s H ex=>aG 0) (λx=>⟨.inr rfl,.inl rfl,trivial⟩) (λC s H ex x hx=>eX (aA bI (dS (aa 0 rfl)) (aa 1 rfl))) (λC s H ex x hx _=>cg (ah (c3 (aa 0 rfl)) (ah (dG (aa 0 rfl)) aw))))) (ah (cB hE) aw)) ⟨_,_,rfl,lf _,rfl⟩ ?_)
 rintro kv2 ⟨n2,e2⟩
 refine ao (bg (gA (bZ bI (rQ M.len (aa 3 rfl)) (aa 2 rfl)) (λ_=>fR (bZ bI (rQ M.len (aa 4 rfl)) (aa 2 rfl)))) ?_)
 have q1:=og (n:=n) n1 e1
 have q2:=og (n:=n) n2 e2
 rw [List.length_map] at q1 q2
 show (decide ((kv1.length:Int)=n)&&decide ((kv2.length:Int)=n))=qp rs p n
 rw [q1,q2];rfl
abbrev pD:Stmt:=top vL
abbrev xH:List Str:=["web","places","rows"]
theorem Bj:aC xH ["web"] (ai pD):=⟨rfl,rfl,rfl,by decide +kernel,rfl,by decide +kernel,by decide +kernel⟩
noncomputable def lA (v:ax):Bool:=
 if !sizes v then false
 else if !((v.2.filter λ_=>true).map (gP v.1)).all id then false
 else if !(((ups (0 + 1) ((v.1.length:Int) - (0 + 1)).toNat).filter λ_=>true).map (called v.2)).all id then false
 else (((nums v.1).filter λ_=>true).map λx=>qp v.2 x.1 x.2).all id
def Fd:cq:=λK ps T=>∃v:ax,ps=[⟨bx,v⟩]/\v.1.length<=1000/\v.2.length<=1000/\T=bE K aR (· =lA v)
theorem D9 (M:bO mg)(C1:aF P w K mg base "has_web_form" 4 (aQ Fl K))(C2:aF P w K mg base "has_web_sizes" 1 (aQ Fw K))(C3:aF P w K mg base "leads_within" 1 (aQ Ez K))(C4:aF P w K mg base "is_called" 1 (aQ Ey K))(C5:aF P w K mg base "lies_on_ways" 2 (aQ Es K))(F:bH K "is_web" "is_web" pD f fd)(hm:mg "is_web"=some (.ref f))(hb:Binds K fd ["web"] []):aF P w K mg base "is_web" 5 (aQ Fd K):=by
 have nd:=Bj.nd
 have C2:=C2.mono (show 1<=4 by decide)
 have C3:=C3.mono (show 1<=4 by decide)
 have C4:=C4.mono (show 1<=4 by decide)
 have C5:=C5.mono (show 2<=4 by decide)
 have nd1:List.Nodup [("row":Str),"places"]:=by decide
 have nd2:List.Nodup [("part":Str),"rows"]:=by decide
 have nd3:List.Nodup [("part":Str),"size","rows"]:=by decide
 obtain ⟨t1,hFP⟩:=M.firstPart
 refine bD F Bj hm hb (λqs T ⟨_,e,_⟩=>by rw [e];rfl) (λcdv A outer s H E qs T hr hS=>?_)
 obtain ⟨v,rfl,l1,l2,rfl⟩:=hS
 change WS _ _ [.im bx v,.no,.no] _ _
 refine aj (bh (TW.tv (dA (cD (cc (bt C1 hr (ah (aa 0 rfl) aw) ⟨v,rfl,rfl⟩))) (λ_=>dI (cD (cc (bt C2 hr (ah (aa 0 rfl) aw) ⟨v,rfl,rfl⟩)))))) (λh=>?_) (λh=>aV ?_))
 ·have h:(!sizes v)=true:=by simpa using h
  exact ao (bg dv (by rw [lA,if_pos h]))
 have h1:(!sizes v)=false:=by simpa using h
 refine aj (bo 1 (bQ (r:=af ae) (r':=af aB) (aa 0 rfl)) (aj (bo 2 (aJ (r:=af ae) (r':=af aB) (aa 0 rfl)) ?_)))
 refine aj (bh (cD (cc (gu M.all (bc.im (bN (own:=["row"]) (fr:=["places"]) (ix:=[1]) (p:=λ_=>true) (f:=gP v.1) (bb (so:=ai pD) (N0:=xH) rfl rfl (λx h=>aT h) (by decide +kernel)) (bj (aa 2 rfl))
  (λC s H ex=>aG 0) (λx=>⟨.inr rfl,.inl rfl,trivial⟩) (λC s H ex x hx=>cy) (λC s H ex x hx _=>bt C3 hr (ah (aa 1 rfl) (ah (aa 0 rfl) aw)) ⟨_,_,rfl,rfl⟩)))))) (λh=>?_) (λh=>aV ?_))
 ·exact ao (bg dv (by rw [lA,if_neg (by rw [h1];decide),if_pos h]))
 have h2:=h
 refine aj (bh (cD (cc (gu M.all (bc.im (bN (own:=["part"]) (fr:=["rows"]) (ix:=[2]) (p:=λ_=>true) (f:=called v.2) (bb (so:=ai pD) (N0:=xH) rfl rfl (λx h=>aT h) (by decide +kernel)) (iC M.range (bu (cB hFP) ak) (aM M.len (aa 1 rfl)) ⟨by decide,by decide,by omega,by omega⟩)
  (λC s H ex=>aG 0) (λx=>⟨.inr rfl,.inl rfl,trivial⟩) (λC s H ex x hx=>cy) (λC s H ex x hx _=>bt C4 hr (ah (aa 1 rfl) (ah (aa 0 rfl) aw)) ⟨_,_,rfl,rfl⟩)))))) (λh=>?_) (λh=>aV ?_))
 ·exact ao (bg dv (by rw [lA,if_neg (by rw [h1];decide),if_neg (by rw [h2];decide),if_pos h]))
 have h3:=h
 refine ao (bg (gu M.all (bc.im (bN (own:=["part","size"]) (fr:=["rows"]) (ix:=[2]) (p:=λ_=>true) (f:=λx=>qp v.2 x.1 x.2) (bb (so:=ai pD) (N0:=xH) rfl rfl (λx h=>aT h) (by decide +kernel)) (kC M.enumerate (aa 1 rfl))
  (λC s H ex=>dC 0 1) (λx=>⟨.inr rfl,.inr rfl,.inl rfl,trivial⟩) (λC s H ex x hx=>cy) (λC s H ex x hx _=>bt C5 hr (ah (aa 2 rfl) (ah (aa 0 rfl) (ah (aa 1 rfl) aw))) ⟨_,_,_,rfl,l2,rfl⟩)))) ?_)
 rw [lA,if_neg (by rw [h1];decide),if_neg (by rw [h2];decide),if_neg (by rw [h3];decide)]
end
end K1
namespace Fc
open PySem PySem.Spec L2
open PyProof.Rows hiding St
section
variable {X:Cx}{Γ Γ1 Γ2 Γ3:Ga}{α β γ δ:Type}{N:Ga->Prop}{T:RT}
end
end Fc
namespace K1
open PySem L2 Fc
open PySem.Spec hiding Row
open PyProof.Rows hiding St
open PySem.Builtin.Int (intBits)
theorem bz {n:Nat}{k:Int}:k∈ups 0 n↔0<=k/\k < n:=by
 unfold ups
 rw [List.mem_map]
 constructor
 ·rintro ⟨j,hj,rfl⟩
  have:=List.mem_range.mp hj
  omega
 ·rintro ⟨h0,h1⟩
  exact ⟨k.toNat,List.mem_range.mpr (by omega),by omega⟩
theorem wN (n:Nat):(ups 0 n).Pairwise (· < ·):=by
 unfold ups
 rw [List.pairwise_map]
 exact List.pairwise_lt_range.imp λh=>by omega
theorem tU (n:Nat):(ups 0 n).Nodup:=(wN n).imp λh=>by omega
section
variable {P:Program}{w:World}{K:PySem.W.Frag}{mg:Str->Option Value}{base:Heap}{f:Addr}{fd:FuncData}
abbrev yu:Stmt:=top qc
theorem Cg:aC ["_law_web_here"] ["_law_web_here"] (ai yu):=⟨rfl,rfl,rfl,by decide +kernel,rfl,by decide +kernel,by decide +kernel⟩
def Eu:cq:=λK ps T=>∃v:ax,ps=[⟨bx,v⟩]/\T=bE K bx (· =v)
theorem D4 (M:bO mg)(F:bH K "_law_copy" "_law_copy" yu f fd)(hm:mg "_law_copy"=some (.ref f))(hb:Binds K fd ["_law_web_here"] []):aF P w K mg base "_law_copy" 1 (aQ Eu K):=by
 have nd:=Cg.nd
 refine bD F Cg hm hb (λqs T ⟨_,e,_⟩=>by rw [e];rfl) (λcdv A outer s H E qs T hr hS=>?_)
 obtain ⟨v,rfl,rfl⟩:=hS
 change WS _ _ [.im bx v] _ _
 exact ao (bg (r:=ay (af ae) (af aB)) (cg (ah (bc.im (hU M.list (bQ (r:=af ae) (r':=af aB) (aa 0 rfl)))) (ah (bc.im (hU M.list (aJ (r:=af ae) (r':=af aB) (aa 0 rfl)))) aw))) rfl)
end
end K1
namespace K1
open PySem L2 Fc
open PySem.Spec hiding Row
open PyProof.Rows hiding St
section
variable {rs:List Row}{v:ax}{a b:Int}
theorem ee {es es':List (Int×Int)}{s:Int}(h:∀t∈es,t∈es'):∀{k:Int},Reach es s k->Reach es' s k
 | _,.base=>.base
 | _,.step r m=>.step (ee h r) (h _ m)
def rF (t:Int×Int):Int×Int:=(t.2,t.1)
theorem gQ {es:List (Int×Int)}:(a,b)∈es.map rF↔(b,a)∈es:=by
 rw [List.mem_map]
 constructor
 ·rintro ⟨⟨x,y⟩,h,e⟩
  simp [rF] at e
  rw [← e.1,← e.2];exact h
 ·intro h;exact ⟨(b,a),h,rfl⟩
structure yy (many:Int) (ties:List (Int×Int)):Prop where
 m2:2<=many
 bd:∀t∈ties,0<=t.1/\t.1 < many/\t.1≠1/\0<=t.2/\t.2 < many
 fw:∀k,0<=k->k < many->Reach ties 0 k
 bw:∀k,0<=k->k < many->Reach (ties.map rF) 1 k
def ej (n k:Int):Int:=k + (if decide (n<=k) then 1 else 0)
theorem mj {n k:Int}(h:k < n):ej n k=k:=by unfold ej;rw [decide_eq_false (by omega)];simp
theorem uQ {n k:Int}(h:n<=k):ej n k=k + 1:=by unfold ej;rw [decide_eq_true h];simp
theorem kR {n:Int}{ties:List (Int×Int)}{at_:Nat}{t:Int×Int}(ht:(bY n ties)[at_]?=some t){s:Int}:
 ∀{k:Int},Reach ties s k->Reach ((bY n ties++[(n,t.2)]).set at_ (t.1,n)) (ej n s) (ej n k)
 | _,.base=>.base
 | _,.step (a:=x) (b:=y) r m=>by
   have ih:=kR ht r
   obtain ⟨j,hj⟩:=List.mem_iff_getElem?.mp m
   have hb:(bY n ties)[j]?=some (ej n x,ej n y):=by rw [fB,List.getElem?_map,hj];rfl
   have hjl:j < (bY n ties).length:=(List.getElem?_eq_some_iff.mp hb).1
   have hal:at_ < (bY n ties).length:=(List.getElem?_eq_some_iff.mp ht).1
   by_cases e:j=at_
   ·subst e
    rw [ht] at hb
    have e1:t.1=ej n x:=by rw [Option.some.inj hb]
    have e2:t.2=ej n y:=by rw [Option.some.inj hb]
    refine .step (.step ih (b:=n) ?_) ?_
    ·refine List.mem_iff_getElem?.mpr ⟨j,?_⟩
     rw [List.getElem?_set_self (by rw [List.length_append];omega),e1]
    ·refine List.mem_iff_getElem?.mpr ⟨(bY n ties).length,?_⟩
     rw [List.getElem?_set_ne (by omega),List.getElem?_append_right (Nat.le_refl _),Nat.sub_self,e2];rfl
   ·refine .step ih (List.mem_iff_getElem?.mpr ⟨j,?_⟩)
    rw [List.getElem?_set_ne (by omega),List.getElem?_append_left hjl,hb]
theorem mq {n:Int}{ties:List (Int×Int)}{at_:Nat}{t:Int×Int}(ht:(bY n ties)[at_]?=some t){s:Int}:
 ∀{k:Int},Reach (ties.map rF) s k->Reach (((bY n ties++[(n,t.2)]).set at_ (t.1,n)).map rF) (ej n s) (ej n k)
 | _,.base=>.base
 | _,.step (a:=y) (b:=x) r m=>by
   have ih:=mq ht r
   obtain ⟨j,hj⟩:=List.mem_iff_getElem?.mp (gQ.mp m)
   have hb:(bY n ties)[j]?=some (ej n x,ej n y):=by rw [fB,List.getElem?_map,hj];rfl
   have hjl:j < (bY n ties).length:=(List.getElem?_eq_some_iff.mp hb).1
   by_cases e:j=at_
   ·subst e
    rw [ht] at hb
    have e1:t.1=ej n x:=by rw [Option.some.inj hb]
    have e2:t.2=ej n y:=by rw [Option.some.inj hb]
    refine .step (.step ih (b:=n) (gQ.mpr ?_)) (gQ.mpr ?_)
    ·refine List.mem_iff_getElem?.mpr ⟨(bY n ties).length,?_⟩
     rw [List.getElem?_set_ne (by omega),List.getElem?_append_right (Nat.le_refl _),Nat.sub_self,e2];rfl
    ·refine List.mem_iff_getElem?.mpr ⟨j,?_⟩
     rw [List.getElem?_set_self (by rw [List.length_append];omega),e1]
   ·refine .step ih (gQ.mpr (List.mem_iff_getElem?.mpr ⟨j,?_⟩))
    rw [List.getElem?_set_ne (by omega),List.getElem?_append_left hjl,hb]
theorem Made.good {n:Nat}{many:Int}{ties:List (Int×Int)}(h:Made n many ties):yy many ties:=by
 induction h with
 | base=>
   refine ⟨by decide,by simp,λk h0 h1=>?_,λk h0 h1=>?_⟩
   ·rcases (show k=0∨k=1 by omega) with rfl | rfl
    ·exact .base
    ·exact .step .base (List.mem_singleton.mpr rfl)
   ·rcases (show k=0∨k=1 by omega) with rfl | rfl
    ·exact .step .base (List.mem_singleton.mpr rfl)
    ·exact .base
 | @split n many ties at_ new t h ht h2 hm ih=>
   have tm:∃u∈ties,bump new u=t:=by
    have:=List.mem_of_getElem? ht
    rw [fB] at this
    exact List.mem_map.mp this
   obtain ⟨u,hu,rfl⟩:=tm
   have ub:=ih.bd u hu
   have b1:∀k:Int,0<=k->k < many->0<=ej new k/\ej new k < many + 1/\(k≠1->ej new k≠1):=λk h0 h1=>by
    by_cases hk:new<=k
    ·rw [uQ hk];omega
    ·rw [mj (by omega)];omega
   have hal:at_ < (bY new ties).length:=(List.getElem?_eq_some_iff.mp ht).1
   have q0:ej new 0=0:=mj (by omega)
   have q1:ej new 1=1:=mj (by omega)
   have pre:∀k,0<=k->k < many + 1->k=new∨∃j,0<=j/\j < many/\ej new j=k:=λk h0 h1=>by
    rcases (show k=new∨k < new∨new < k by omega) with e | e | e
    ·exact .inl e
    ·exact .inr ⟨k,h0,by omega,mj e⟩
    ·exact .inr ⟨k - 1,by omega,by omega,by rw [uQ (by omega)];omega⟩
   have fw':∀j,0<=j->j < many->Reach ((bY new ties++[(new,(bump new u).2)]).set at_ ((bump new u).1,new)) 0 (ej new j):=λj h0 h1=>by
    have:=kR ht (ih.fw j h0 h1)
    rwa [q0] at this
   have bw':∀j,0<=j->j < many->Reach (((bY new ties++[(new,(bump new u).2)]).set at_ ((bump new u).1,new)).map rF) 1 (ej new j):=λj h0 h1=>by
    have:=mq ht (ih.bw j h0 h1)
    rwa [q1] at this
   refine ⟨by omega,λx hx=>?_,λk h0 h1=>?_,λk h0 h1=>?_⟩
   ·rcases List.mem_or_eq_of_mem_set hx with q | q
    ·rcases List.mem_append.mp q with q | q
     ·rw [fB] at q
      obtain ⟨y,hy,rfl⟩:=List.mem_map.mp q
      have yb:=ih.bd y hy
      have c1:=b1 y.1 yb.1 yb.2.1
      have c2:=b1 y.2 yb.2.2.2.1 yb.2.2.2.2
      exact ⟨c1.1,c1.2.1,c1.2.2 yb.2.2.1,c2.1,c2.2.1⟩
     ·rw [List.mem_singleton.mp q]
      have c2:=b1 u.2 ub.2.2.2.1 ub.2.2.2.2
      exact ⟨by show (0:Int)<=new;omega,by show new < _;omega,by show new≠1;omega,c2.1,c2.2.1⟩
    ·rw [q]
     have c1:=b1 u.1 ub.1 ub.2.1
     exact ⟨c1.1,c1.2.1,c1.2.2 ub.2.2.1,by show (0:Int)<=new;omega,by show new < _;omega⟩
   ·rcases pre k h0 h1 with rfl | ⟨j,j0,j1,rfl⟩
    ·refine .step (fw' u.1 ub.1 ub.2.1) (List.mem_iff_getElem?.mpr ⟨at_,?_⟩)
     rw [List.getElem?_set_self (by rw [List.length_append];omega)];rfl
    ·exact fw' j j0 j1
   ·rcases pre k h0 h1 with rfl | ⟨j,j0,j1,rfl⟩
    ·refine .step (bw' u.2 ub.2.2.2.1 ub.2.2.2.2) (gQ.mpr (List.mem_iff_getElem?.mpr ⟨(bY k ties).length,?_⟩))
     rw [List.getElem?_set_ne (by omega),List.getElem?_append_right (Nat.le_refl _),Nat.sub_self];rfl
    ·exact bw' j j0 j1
 | @tie n many ties start e h s0 s1 e0 e1 ih=>
   refine ⟨ih.m2,λx hx=>?_,λk h0 h1=>ee (λt ht=>List.mem_append_left _ ht) (ih.fw k h0 h1),λk h0 h1=>ee (λt ht=>?_) (ih.bw k h0 h1)⟩
   ·rcases List.mem_append.mp hx with q | q
    ·exact ih.bd x q
    ·rw [List.mem_singleton.mp q]
     dsimp only
     by_cases hs:0 < start
     ·rw [decide_eq_true hs];simp;omega
     ·rw [decide_eq_false hs];simp;omega
   ·rw [List.map_append];exact List.mem_append_left _ ht
structure mW (k:Nat) (places:List Int) (rs:List Row):Prop where
 len:places.length=k
 part:∀(i:Nat) (m:Int),places[i]?=some m->∃ties,yy m ties/\∀a b,(∃r∈rs,r.1=(i:Int)/\r.2.1=a/\r.2.2.1=b)↔(a,b)∈ties
 row:∀r∈rs,0<=r.1/\r.1 < (k:Int)/\(r.2.2.2= -1∨(r.1 < r.2.2.2/\r.2.2.2 < (k:Int)))
 call:∀i:Nat,0 < i->i < k->∃r∈rs,r.2.2.2=(i:Int)
theorem gE.good {most:Int}{k:Nat}{places:List Int}(h:gE most k places rs):mW k places rs:=by
 induction h with
 | nil=>exact ⟨rfl,by simp,by simp,by omega⟩
 | @first n many ties rs' hM hn hI=>
   refine ⟨rfl,λi m hi=>?_,λr hr=>?_,by omega⟩
   ·have hi0:i=0:=by
     have:=(List.getElem?_eq_some_iff.mp hi).1
     simp at this;exact this
    subst hi0
    simp at hi
    subst hi
    refine ⟨ties,hM.good,λa b=>⟨?_,λhab=>⟨(0,a,b, -1),(hI.mem _).mpr (.inr ⟨(a,b),hab,rfl⟩),rfl,rfl,rfl⟩⟩⟩
    rintro ⟨r,hr,_,e1,e2⟩
    rcases (hI.mem r).mp hr with q | ⟨t,ht,rfl⟩
    ·cases q
    ·rw [← e1,← e2];exact ht
   ·rcases (hI.mem r).mp hr with q | ⟨t,_,rfl⟩
    ·cases q
    ·exact ⟨Int.le_refl _,by show (0:Int) < 1;decide,.inl rfl⟩
 | @more i places rs j r n many ties rs' hW hi hr hc hM hn hI ih=>
   have hrm:r∈rs:=List.mem_of_getElem? hr
   have hjl:j < rs.length:=(List.getElem?_eq_some_iff.mp hr).1
   -- the rows with the call put in
   have up:∀x∈rs,∃y∈rs.set j (r.1,r.2.1,r.2.2.1,(i:Int)),y.1=x.1/\y.2.1=x.2.1/\y.2.2.1=x.2.2.1/\(x.2.2.2≠ -1->y.2.2.2=x.2.2.2):=λx hx=>by
    obtain ⟨q,hq⟩:=List.mem_iff_getElem?.mp hx
    by_cases e:q=j
    ·subst e
     rw [hr] at hq;cases hq
     exact ⟨_,List.mem_iff_getElem?.mpr ⟨q,List.getElem?_set_self hjl⟩,rfl,rfl,rfl,λz=>absurd hc z⟩
    ·exact ⟨x,List.mem_iff_getElem?.mpr ⟨q,by rw [List.getElem?_set_ne (by omega)];exact hq⟩,rfl,rfl,rfl,λ_=>rfl⟩
   have dn:∀y∈rs.set j (r.1,r.2.1,r.2.2.1,(i:Int)),∃x∈rs,y.1=x.1/\y.2.1=x.2.1/\y.2.2.1=x.2.2.1/\(y.2.2.2=x.2.2.2∨y.2.2.2=(i:Int)):=λy hy=>by
    rcases List.mem_or_eq_of_mem_set hy with q | q
    ·exact ⟨y,q,rfl,rfl,rfl,.inl rfl⟩
    ·exact ⟨r,hrm,by rw [q],by rw [q],by rw [q],.inr (by rw [q])⟩
   refine ⟨by rw [List.length_append,ih.len];rfl,λp m hp=>?_,λy hy=>?_,λp p0 p1=>?_⟩
   ·rcases Nat.lt_or_ge p places.length with hlt | hge
    ·rw [List.getElem?_append_left hlt] at hp
     obtain ⟨ts,hg,hts⟩:=ih.part p m hp
     refine ⟨ts,hg,λa b=>?_⟩
     rw [← hts]
     constructor
     ·rintro ⟨y,hy,e1,e2,e3⟩
      rcases (hI.mem y).mp hy with q | ⟨t,_,rfl⟩
      ·obtain ⟨x,hx,f1,f2,f3,_⟩:=dn y q
       exact ⟨x,hx,by rw [← f1];exact e1,by rw [← f2];exact e2,by rw [← f3];exact e3⟩
      ·have e1:(i:Int)=(p:Int):=e1
       have:=ih.len
       omega
     ·rintro ⟨x,hx,e1,e2,e3⟩
      obtain ⟨y,hy,f1,f2,f3,_⟩:=up x hx
      exact ⟨y,(hI.mem y).mpr (.inl hy),by rw [f1];exact e1,by rw [f2];exact e2,by rw [f3];exact e3⟩
    ·have hpe:p=i:=by
      have:=(List.getElem?_eq_some_iff.mp hp).1
      rw [List.length_append,ih.len] at this
      have:=ih.len
      simp at *;omega
     subst hpe
     rw [List.getElem?_append_right hge,ih.len,Nat.sub_self] at hp
     simp at hp
     subst hp
     refine ⟨ties,hM.good,λa b=>⟨?_,λhab=>⟨((p:Int),a,b, -1),(hI.mem _).mpr (.inr ⟨(a,b),hab,rfl⟩),rfl,rfl,rfl⟩⟩⟩
     rintro ⟨y,hy,e0,e1,e2⟩
     rcases (hI.mem y).mp hy with q | ⟨t,ht,rfl⟩
     ·obtain ⟨x,hx,f1,_⟩:=dn y q
      have:=(ih.row x hx).2.1
      omega
     ·rw [← e1,← e2];exact ht
   ·rcases (hI.mem y).mp hy with q | ⟨t,_,rfl⟩
    ·obtain ⟨x,hx,f1,f2,f3,f4⟩:=dn y q
     have xr:=ih.row x hx
     rw [f1]
     refine ⟨xr.1,by push_cast;omega,?_⟩
     rcases f4 with f4 | f4
     ·rw [f4]
      rcases xr.2.2 with z | z
      ·exact .inl z
      ·exact .inr ⟨z.1,by push_cast;omega⟩
     ·rw [f4];exact .inr ⟨xr.2.1,by push_cast;omega⟩
    ·exact ⟨by show (0:Int)<=(i:Int);omega,by show (i:Int) < _;push_cast;omega,.inl rfl⟩
   ·rcases Nat.lt_or_ge p i with hlt | hge
    ·obtain ⟨x,hx,e⟩:=ih.call p p0 hlt
     obtain ⟨y,hy,_,_,_,f4⟩:=up x hx
     exact ⟨y,(hI.mem y).mpr (.inl hy),by rw [f4 (by omega)];exact e⟩
    ·have:p=i:=by omega
     subst this
     exact ⟨_,(hI.mem _).mpr (.inl (List.mem_iff_getElem?.mpr ⟨j,List.getElem?_set_self hjl⟩)),rfl⟩
theorem mW.fin {k:Nat}{places:List Int}{rs0:List Row}(h:mW k places rs0)(hF:sV k rs0.length rs0 rs):mW k places rs:=by
 have up:∀x∈rs0,∃y∈rs,y.1=x.1/\y.2.1=x.2.1/\y.2.2.1=x.2.2.1/\(x.2.2.2≠ -1->y.2.2.2=x.2.2.2):=λx hx=>by
  obtain ⟨q,hq⟩:=List.mem_iff_getElem?.mp hx
  have hl:q < rs.length:=by rw [hF.len];exact (List.getElem?_eq_some_iff.mp hq).1
  refine ⟨rs[q],List.getElem_mem hl,?_⟩
  rcases hF.row q x _ hq (List.getElem?_eq_getElem hl) with e | ⟨c,_,_,e⟩
  ·rw [e];exact ⟨rfl,rfl,rfl,λ_=>rfl⟩
  ·exact ⟨by rw [e],by rw [e],by rw [e],λz=>absurd c z⟩
 have dn:∀y∈rs,∃x∈rs0,y.1=x.1/\y.2.1=x.2.1/\y.2.2.1=x.2.2.1/\(y.2.2.2=x.2.2.2∨(x.1 < y.2.2.2/\y.2.2.2 < (k:Int))):=λy hy=>by
  obtain ⟨q,hq⟩:=List.mem_iff_getElem?.mp hy
  have hl:q < rs0.length:=by rw [← hF.len];exact (List.getElem?_eq_some_iff.mp hq).1
  refine ⟨rs0[q],List.getElem_mem hl,?_⟩
  rcases hF.row q _ y (List.getElem?_eq_getElem hl) hq with e | ⟨c,c1,c2,e⟩
  ·rw [e];exact ⟨rfl,rfl,rfl,.inl rfl⟩
  ·exact ⟨by rw [e],by rw [e],by rw [e],.inr ⟨c1,c2⟩⟩
 refine ⟨h.len,λi m hi=>?_,λy hy=>?_,λi i0 i1=>?_⟩
 ·obtain ⟨ts,hg,hts⟩:=h.part i m hi
  refine ⟨ts,hg,λa b=>?_⟩
  rw [← hts]
  constructor
  ·rintro ⟨y,hy,e1,e2,e3⟩
   obtain ⟨x,hx,f1,f2,f3,_⟩:=dn y hy
   exact ⟨x,hx,by rw [← f1];exact e1,by rw [← f2];exact e2,by rw [← f3];exact e3⟩
  ·rintro ⟨x,hx,e1,e2,e3⟩
   obtain ⟨y,hy,f1,f2,f3,_⟩:=up x hx
   exact ⟨y,hy,by rw [f1];exact e1,by rw [f2];exact e2,by rw [f3];exact e3⟩
 ·obtain ⟨x,hx,f1,f2,f3,f4⟩:=dn y hy
  have xr:=h.row x hx
  rw [f1]
  refine ⟨xr.1,xr.2.1,?_⟩
  rcases f4 with f4 | f4
  ·rw [f4];exact xr.2.2
  ·exact .inr f4
 ·obtain ⟨x,hx,e⟩:=h.call i i0 i1
  obtain ⟨y,hy,_,_,_,f4⟩:=up x hx
  exact ⟨y,hy,by rw [f4 (by omega)];exact e⟩
structure ba (v:ax):Prop where
 good:mW v.1.length v.1 v.2
 pl:1<=v.1.length/\v.1.length<=4
 rl:1<=v.2.length/\v.2.length<=60
 sz:∀m∈v.1,2<=m/\m<=16
theorem oF.g {pm most:Int}(h:oF pm most v)(hp:pm<=4)(m0:0<=most)(hm:most<=14)(hpm:pm * (1 + most)<=60):ba v:=by
 obtain ⟨k,rs0,k0,k1,hW,hF⟩:=h
 have fa:=hW.facts
 have hg:=hW.good.fin hF
 have l1:v.1.length=k:=fa.len
 have l2:v.2.length=rs0.length:=hF.len
 have hl:(rs0.length:Int)<=60:=by
  have h1:=fa.many
  have h2:(k:Int) * (1 + most)<=pm * (1 + most):=Int.mul_le_mul_of_nonneg_right k1 (by omega)
  omega
 have hpos:0 < rs0.length:=by
  obtain ⟨r,hr,_⟩:=fa.free k0
  exact List.length_pos_of_mem hr
 refine ⟨by rw [l1];exact hg,by omega,by omega,λm hm'=>?_⟩
 have:=fa.sizes m hm'
 omega
theorem wU {xs:List Int}{x:Int×Int}:x∈nums xs↔∃i:Nat,x.1=(i:Int)/\xs[i]?=some x.2:=by
 constructor
 ·intro h
  obtain ⟨i,hi⟩:=List.mem_iff_getElem?.mp h
  exact ⟨i,iY hi⟩
 ·rintro ⟨i,h1,h2⟩
  refine List.mem_iff_getElem?.mpr ⟨i,?_⟩
  unfold nums
  rw [List.getElem?_map,List.getElem?_zipIdx,h2]
  obtain ⟨a,b⟩:=x
  simp at h1
  simp [h1]
theorem all_map {α:Type}{xs:List α}{g:α->Bool}:((xs.filter λ_=>true).map g).all id=true↔∀x∈xs,g x=true:=by
 rw [List.filter_eq_self.mpr (by simp),List.all_map,List.all_eq_true];rfl
structure BM (ns:List Int) (r:Row):Prop where
 p0:0<=r.1
 p1:r.1 < (ns.length:Int)
 s1:r.2.1≠1
 c0: -1<=r.2.2.2
 c1:r.2.2.2 < (ns.length:Int)
 s0:0<=r.2.1
 e0:0<=r.2.2.1
 sn:r.2.1 < ns.getD r.1.toNat 0
 en:r.2.2.1 < ns.getD r.1.toNat 0
 cp:¬(0<=r.2.2.2/\r.2.2.2<=r.1)
theorem vK {ns:List Int}{r:Row}(q:BM ns r):gP ns r=true:=by
 unfold gP
 have:=q.p0;have:=q.p1;have:=q.s1;have:=q.c0;have:=q.c1;have:=q.s0;have:=q.e0;have h1:=q.sn;have h2:=q.en;have:=q.cp
 rw [List.getD_eq_getElem?_getD] at h1 h2
 rw [if_neg (by simp;omega),if_neg (by simp [List.getD_eq_getElem?_getD];omega)]
 simp
 omega
theorem ba.eW (h:ba v){r:Row}(hr:r∈v.2):BM v.1 r:=by
 have q:=h.good.row r hr
 obtain ⟨m,hm⟩:∃m,v.1[r.1.toNat]?=some m:=⟨_,List.getElem?_eq_getElem (by omega)⟩
 obtain ⟨ts,hg,hts⟩:=h.good.part _ _ hm
 have b:=hg.bd (r.2.1,r.2.2.1) ((hts _ _).mp ⟨r,hr,by omega,rfl,rfl⟩)
 have e:v.1.getD r.1.toNat 0=m:=by rw [List.getD_eq_getElem?_getD,hm];rfl
 refine ⟨q.1,q.2.1,b.2.2.1,by omega,by omega,b.1,b.2.2.2.1,by rw [e];exact b.2.1,by rw [e];exact b.2.2.2.2,by omega⟩
theorem rf {p:Int}:(a,b)∈fwd rs p↔∃r∈rs,r.1=p/\r.2.1=a/\r.2.2.1=b:=by
 unfold fwd
 simp only [List.mem_map,List.mem_filter,decide_eq_true_eq,Prod.mk.injEq]
 constructor
 ·rintro ⟨r,⟨h1,h2⟩,h3,h4⟩;exact ⟨r,h1,h2,h3,h4⟩
 ·rintro ⟨r,h1,h2,h3,h4⟩;exact ⟨r,⟨h1,h2⟩,h3,h4⟩
theorem nv {p:Int}:(a,b)∈bwd rs p↔∃r∈rs,r.1=p/\r.2.2.1=a/\r.2.1=b:=by
 unfold bwd
 simp only [List.mem_map,List.mem_filter,decide_eq_true_eq,Prod.mk.injEq]
 constructor
 ·rintro ⟨r,⟨h1,h2⟩,h3,h4⟩;exact ⟨r,h1,h2,h3,h4⟩
 ·rintro ⟨r,h1,h2,h3,h4⟩;exact ⟨r,⟨h1,h2⟩,h3,h4⟩
theorem ba.toEnd (h:ba v){i:Nat}{m:Int}(hi:v.1[i]?=some m){k:Int}(k0:0<=k)(k1:k < m):Reach (bwd v.2 i) 1 k:=by
 obtain ⟨ts,hg,hts⟩:=h.good.part i m hi
 refine ee (λt ht=>?_) (hg.bw k k0 k1)
 obtain ⟨a,b⟩:=t
 obtain ⟨r,hr,e0,e1,e2⟩:=(hts b a).mpr (gQ.mp ht)
 exact nv.mpr ⟨r,hr,e0,e2,e1⟩
theorem ba.vc (h:ba v){i:Nat}{m:Int}(hi:v.1[i]?=some m){k:Int}(k0:0<=k)(k1:k < m):Reach (fwd v.2 i) 0 k:=by
 obtain ⟨ts,hg,hts⟩:=h.good.part i m hi
 refine ee (λt ht=>?_) (hg.fw k k0 k1)
 obtain ⟨a,b⟩:=t
 obtain ⟨r,hr,e0,e1,e2⟩:=(hts a b).mpr ht
 exact rf.mpr ⟨r,hr,e0,e1,e2⟩
open Classical in
theorem l3 {es:List (Int×Int)}{s n:Int}(hes:∀a b,(a,b)∈es->0<=b/\b < n)(h0:0<=s)(h1:s < n)(h:∀k,0<=k->k < n->Reach es s k):iW es s n=true:=by
 unfold iW
 rw [decide_eq_true_eq]
 refine ⟨ups 0 n.toNat,tU _,λk=>⟨λhk=>?_,λhk=>?_⟩,by rw [au];omega⟩
 ·have:=bz.mp hk
  exact h k (by omega) (by omega)
 ·have:0<=k/\k < n:=by
   cases hk with
   | base=>exact ⟨h0,h1⟩
   | step _ m=>exact hes _ _ m
  exact bz.mpr (by omega)
theorem ba.DU {v:ax}(h:ba v):lA v=true:=by
 have pl:=h.pl
 have rl:=h.rl
 have hsz:sizes v=true:=by
  unfold sizes
  rw [if_neg (by simp;omega),all_map]
  intro m hm
  have:=h.sz m hm
  simp;omega
 unfold lA
 rw [if_neg (by rw [hsz];decide)]
 have h2:(List.map (gP v.1) (List.filter (λ_=>true) v.2)).all id=true:=all_map.mpr λr hr=>vK (h.eW hr)
 rw [if_neg (by rw [h2];decide)]
 have h3:(List.map (called v.2) (List.filter (λ_=>true) (ups (0 + 1) ((v.1.length:Int) - (0 + 1)).toNat))).all id=true:=all_map.mpr λp hp=>by
  unfold ups at hp
  obtain ⟨k,hk,rfl⟩:=List.mem_map.mp hp
  have hk:=List.mem_range.mp hk
  obtain ⟨r,hr1,hr2⟩:=h.good.call (k + 1) (by omega) (by omega)
  unfold called
  rw [List.filter_eq_self.mpr (by simp),List.any_map,List.any_eq_true]
  exact ⟨r,hr1,by simp [hr2];omega⟩
 rw [if_neg (by rw [h3];decide)]
 refine all_map.mpr λx hx=>?_
 obtain ⟨i,h1,hi⟩:=wU.mp hx
 have nb:=h.sz _ (List.mem_of_getElem? hi)
 have hd:∀r∈v.2,r.1=(i:Int)->v.1.getD r.1.toNat 0=x.2:=λr hr hp=>by
  rw [hp,List.getD_eq_getElem?_getD,show ((i:Int)).toNat=i by omega,hi];rfl
 unfold qp
 rw [h1,Bool.and_eq_true]
 refine ⟨l3 (λa b hab=>?_) (by decide) (by omega) λk k0 k1=>h.vc hi k0 k1,l3 (λa b hab=>?_) (by decide) (by omega) λk k0 k1=>h.toEnd hi k0 k1⟩
 ·obtain ⟨r,hr,hp,e1,e2⟩:=rf.mp hab
  have q:=h.eW hr
  have q1:=q.en;rw [hd r hr hp] at q1
  rw [← e2];exact ⟨q.e0,q1⟩
 ·obtain ⟨r,hr,hp,e1,e2⟩:=nv.mp hab
  have q:=h.eW hr
  have q1:=q.sn;rw [hd r hr hp] at q1
  rw [← e2];exact ⟨q.s0,q1⟩
end
end K1
namespace Fc
open PySem PySem.Spec L2
open PyProof.Rows hiding St
section
variable {X:Cx}{Γ Γ1 Γ2 Γ3:Ga}{α β γ δ:Type}{N:Ga->Prop}{T:RT}
variable {pos:Pos}{x:Str}{p1:Pos}{as:List Addr}{xss:List (List Int)}{a:Addr}{H:Hp}{r:Rep α}{b:Addr}{F:List (Int×Int)}{e:Expr}{p2 p:Pos}{r':Rep β}{n m:Nat}{y:Int}{ap cp:Pos}{xs:List Int}
theorem kX (xs:Array (Int×Tok)):∀n:Nat,preSum (numAt xs) n=((xs.toList.map (·.1)).take n).sum
 | 0=>rfl
 | n + 1=>by
   have e:preSum (numAt xs) (n + 1)=preSum (numAt xs) n + numAt xs n:=rfl
   rw [e,kX xs n,PySem.sum_take_succ,numAt_eq]
theorem uZ (hc:X.calm=true):dR X (.builtin "sum") (λxs H Q=>∃(p:Addr) (ns:List Int),xs=[.ref p]/\aL X.K H p (ns.map V.int)/\Q (.int ns.sum) H):=by
 intro pins s σ H xs us Q I r h
 obtain ⟨p,ns,rfl,hq,q⟩:=h
 obtain ⟨u,rfl,rx⟩:=vals1 r
 cases rx
 obtain ⟨its,r',pl,hz⟩:=I.list hq
 have hi:=intsAre_of r'
 have hl:=pl.isList
 obtain ⟨xs,e⟩:=hi.allInts.items
 have hns:ns=xs.toList.map (·.1):=by rw [← hi.numsOf,← nums_intItems,← e]
 rw [e] at hl
 refine call_sum_walkG (iter_intList hl λs₂ e st hfp hlI=>?_)
 subst e
 refine ⟨_,_,_,_,_,_,numAt xs,rfl,Walks.list (A:=X.A.in1) (I.ok.hd hc) _ p hlI (intItems xs),st,hfp,(λ_ _=>intItems_at),λh' tk t' hk=>?_⟩
 have es:preSum (numAt xs) (intItems xs).size=ns.sum:=by
  rw [kX,hns,List.take_of_length_le]
  simp [intItems]
 rw [es]
 exact ⟨.int _,H,I.kept (old_kept hk),⟨t',rfl⟩,q⟩
theorem ux {a:Expr}{ns:List Int}(hm:X.mg "sum"=none)(ha:EV X a Γ (af ae) ns Γ1)(hs:autoParam (starEach [a] X.env=[(false,eval a X.env)]) Fc.ag)(hc:autoParam (X.calm=true) Fc.ag)(hg:autoParam (Gl X "sum") Fc.ag):EV X (.Call (.Name "sum" p) [a] [] pos) Γ ae ns.sum Γ1:=
 oC (uZ hc) hm PyProof.Rows.boot_sum ha (λR H v Q s ⟨p,vs,e,hp,pp,_⟩ q=>⟨p,ns,by rw [e],by rw [← eR pp];exact aL.of (s _ _ hp),q _ rfl⟩) hs hg
theorem nD (x:Bool):∀xs:List Bool,rO (.bl x) (xs.map V.bl)=decide (x∈xs)
 | []=>rfl
 | y::r=>by
   have h:=nD x r
   unfold rO at h ⊢
   rw [List.map_cons,List.any_cons,h]
   have e:kP (V.bl y) (V.bl x)=decide (x=y):=by
    show (y==x)=_
    cases x<;>cases y<;>rfl
   rw [e,Bool.eq_iff_iff];simp
theorem l8:∀xs:List Bool,(xs.map V.bl).all gn=true
 | []=>rfl
 | _::r=>by rw [List.map_cons,List.all_cons,l8 r];rfl
theorem rW [DecidableEq α] [DecidableEq β](e:c7 r n)(e':c7 r' m){X:Cx}{pins:List (Addr×Obj)}{σ:St}{s:Shared}{R:Hp}{A:Around}(I:Inv X pins σ H s)(sub:ar R H){v1 v2 w1 w2:V}{x y:α×β}(ha:R a=some (.tup [v1,v2]))(hb:R b=some (.tup [w1,w2]))
 (p1:r.R X.K R v1 x.1) (p2:r'.R X.K R v2 x.2) (q1:r.R X.K R w1 y.1) (q2:r'.R X.K R w2 y.2) (hu:A.units + (n + 1) < cLine) (hu':A.units + (m + 1) < cLine):
 SeqAt.RcAt A s (.ref a) (.ref b) (decide (x=y))/\SeqAt.RcNeAt A s (.ref a) (.ref b) (!decide (x=y)):=by
 have key:=qt (A:=A) (k:=λj=>if j=0 then decide (x.1=y.1) else decide (x.2=y.2)) I sub ha hb rfl (by omega) λus us' hv hw j h1 h2=>by
  cases hv with
  | cons a1 t=>cases t with
    | cons a2 t=>cases t;cases hw with
      | cons b1 t=>cases t with
        | cons b2 t=>
          cases t
          match j,h1 with
          | 0,_=>exact e.eq (A:=A.in1) I sub a1 b1 p1 q1 (by rw [in1_units];omega)
          | 1,_=>exact e'.eq (A:=A.in1) I sub a2 b2 p2 q2 (by rw [in1_units];omega)
          | j + 2,h=>exact absurd h (by simp)
 have d:(List.range [v1,v2].length).all (λj=>if j=0 then decide (x.1=y.1) else decide (x.2=y.2))=decide (x=y):=by
  obtain ⟨x1,x2⟩:=x
  obtain ⟨y1,y2⟩:=y
  simp [List.range_succ,Bool.eq_iff_iff]
 rw [d] at key
 exact key
theorem nc [DecidableEq α] [DecidableEq β]{k:Nat}(e:c7 r n)(e':c7 r' m)(hn:n < k)(hm:m < k):c7 (ay r r') k:=by
 have inj:∀{K:PySem.W.Frag} {R:Hp} {v:V} {x y:α×β},(ay r r').R K R v x->(ay r r').R K R v y->x=y:=by
  rintro K R v ⟨x1,x2⟩ ⟨y1,y2⟩ ⟨a,v1,v2,rfl,h,p1,p2⟩ ⟨a',w1,w2,e1,h',q1,q2⟩
  cases e1
  rw [h] at h'
  cases h'
  exact Prod.ext (e.inj p1 q1) (e'.inj p2 q2)
 refine ⟨inj,?_⟩
 intro X pins σ H s R A I sub v u vv uu x y rv ru h1 h2 hu
 have h1':=h1
 have h2':=h2
 obtain ⟨a,v1,v2,rfl,ha,p1,p2⟩:=h1
 obtain ⟨b,w1,w2,rfl,hb,q1,q2⟩:=h2
 cases rv
 cases ru
 by_cases hab:a=b
 ·subst hab
  rw [decide_eq_true (inj h1' h2')]
  exact SeqAt.EqAt.same _
 ·exact SeqAt.EqAt.of_refs hab (rW e e' I sub ha hb p1 p2 q1 q2 (by omega) (by omega)).1
theorem xG [DecidableEq α] [DecidableEq β](e:c7 r n)(e':c7 r' m)(hu:X.A.units + (n + 1) < cLine)(hu':X.A.units + (m + 1) < cLine){x y:α×β}:fP X .Eq (ay r r') (ay r r') x y (decide (x=y)):=
 ⟨λv u H Q=>∃R,ar R H/\(ay r r').R X.K R v x/\(ay r r').R X.K R u y/\Q (.bl (decide (x=y))) H,λpins s σ H v1 u1 v u Q I rx ry ⟨R,sub,h1,h2,q⟩=>by
  obtain ⟨a,v1,v2,rfl,ha,p1,p2⟩:=h1
  obtain ⟨b,w1,w2,rfl,hb,q1,q2⟩:=h2
  cases rx
  cases ry
  exact (rW (A:=X.A) e e' I sub ha hb p1 p2 q1 q2 hu hu').1 _ _ _ _ ⟨.bl _,H,I,rfl,q⟩,λR H v u Q s h1 h2 q=>⟨R,s,h1,h2,q⟩⟩
theorem lh {a:Expr}{p4:Pos}{k:Nat}{w:Row}(ha:EV X a Γ aB w Γ):EV X (.Subscript a (.Slice none (some (.Constant (.int 2) k p4)) none p2) pos) Γ (ay ae ae) (w.1,w.2.1) Γ:=by
 intro σ H0 R0 H R E Q q
 refine eS (lO vx aI rA (kF ef)) (ha σ H0 R0 H R E _ λv H1 R1 E1 s1 e1=>?_)
 obtain ⟨p,rfl,hp⟩:=e1
 refine ⟨_,rfl,p,_,rfl,dY.of (E1.sub _ _ hp),?_,λd hd=>?_⟩
 ·exact λz=>absurd z.2 (by show¬(HT.sIx 4 4 (some 2)=4);decide)
 ·have s2:ar R1 (upd R1 d (.tup [V.int w.1,V.int w.2.1])):=ar.fresh (E1.sub.free hd) _
  exact q _ _ (upd R1 d (.tup [V.int w.1,V.int w.2.1])) (E1.grow (Ext.fresh E1.sub hd _)) (s1.trans s2) ⟨d,_,_,rfl,az,rfl,rfl⟩
def e9 (F:List (Int×Int)):List (Int×V):=F.map λp=>(p.1,.int p.2)
def bL (F:List (Int×Int))(k:Int):Option Int:=(F.find? λp=>decide (p.1=k)).map (·.2)
def eG (F:List (Int×Int))(k v:Int):List (Int×Int):=if (bL F k).isSome then F.map (λp=>if p.1=k then (p.1,v) else p) else F++[(k,v)]
theorem gB:∀(F:List (Int×Int)) (k:Int),cS (cZ (e9 F)) (Sum.inl k:Key)=(bL F k).map V.int
 | [],_=>rfl
 | p::r,k=>by
   have ih:=gB r k
   by_cases e:p.1=k
   ·have e':(Sum.inl p.1:Key)=Sum.inl k:=by rw [e]
    have h1:cS (cZ (e9 (p::r))) (Sum.inl k:Key)=some (.int p.2):=df (p:=((Sum.inl p.1:Key),V.int p.2)) e'
    rw [h1]
    unfold bL
    rw [List.find?_cons,decide_eq_true e];rfl
   ·have e':¬(Sum.inl p.1:Key)=Sum.inl k:=λz=>e (Sum.inl.inj z)
    have h1:cS (cZ (e9 (p::r))) (Sum.inl k:Key)=cS (cZ (e9 r)) (Sum.inl k:Key):=dc (p:=((Sum.inl p.1:Key),V.int p.2)) e'
    rw [h1,ih]
    unfold bL
    rw [List.find?_cons,decide_eq_false e]
theorem uw (F:List (Int×Int))(k v:Int):putK (cZ (e9 F)) (Sum.inl k:Key) (.int v)=cZ (e9 (eG F k v)):=by
 unfold putK eG
 rw [fk,gB]
 have e:((bL F k).map V.int).isSome=(bL F k).isSome:=by cases bL F k<;>rfl
 rw [e]
 split
 ·unfold cZ e9
  simp only [List.map_map]
  apply List.map_congr_left
  intro p _
  simp only [Function.comp]
  by_cases h:p.1=k
  ·rw [if_pos (by rw [h]),if_pos h]
  ·rw [if_neg (λz=>h (Sum.inl.inj z)),if_neg h]
 ·unfold cZ e9
  rw [List.map_append,List.map_append];rfl
theorem rY (F:List (Int×Int))(k:Int):gG (e9 F) k=(bL F k).isSome:=by
 rw [← ki,gB];cases bL F k<;>rfl
def lW:Rep (List (Int×Int)):=⟨λ_ H v F=>∃a,v= .ref a/\H a=some (.dK (cZ (e9 F))),λs ⟨a,e,q⟩=>⟨a,e,s _ _ q⟩⟩
theorem uO {a b:Expr}{k:Int}(hu:X.A.units + 1 < cLine)(ha:EV X a Γ lW F Γ1)(hb:EV X b Γ1 ae k Γ2)(h:bL F k=some y)(hs:autoParam (sJ b) Fc.jG):EV X (.Subscript a b pos) Γ ae y Γ2:=by
 intro σ H0 R0 H R E Q q
 refine eS (qY hu aI aI hs) (ha σ H0 R0 H R E _ λv H1 R1 E1 s1 e1=>hb σ H0 R0 H1 R1 E1 _ λu H2 R2 E2 s2 e2=>?_)
 obtain ⟨p,rfl,hp⟩:=lW.mono s2 e1
 cases e2
 have g:=ez.k (k:=Sum.inl k) (E2.sub _ _ hp)
 rw [gB,h] at g
 exact ⟨p,_,rfl,g,q _ H2 R2 E2 (s1.trans s2) rfl⟩
theorem zq (i:Nat){b:Expr}{k:Int}(hu:X.A.units + 1 < cLine)(hb:EV X b Γ ae k Γ)(hΓ:Γ[i]?=some (.di (e9 F)))(h:bL F k=some y)(hN:autoParam (X.N[i]?=some x) Fc.ag)(hv:autoParam (bR X.env.scope x) Fc.bq)
 (hs:autoParam (sJ b) Fc.jG) (hd:autoParam ((x==("__debug__":Str))=false) Fc.av) (hcd:autoParam ((x==("__classdict__":Str))=false) Fc.av):EV X (.Subscript (.Name x p1) b pos) Γ ae y Γ:=by
 intro σ H0 R0 H R E Q q
 obtain ⟨a,ea,ha,hR⟩:=E.ent i _ hΓ
 refine eS (qY hu (aU hN hv hd hcd) aI hs) ⟨.ref a,at_of ea,hb σ H0 R0 H R E _ λu H2 R2 E2 s2 e2=>?_⟩
 obtain ⟨a',ea',ha',hR'⟩:=E2.ent i _ hΓ
 rw [ea] at ea';cases ea'
 cases e2
 have g:=ez.k (k:=Sum.inl k) ha'
 rw [gB,h] at g
 exact ⟨a,_,rfl,g,q _ H2 R2 E2 s2 rfl⟩
theorem wc (i:Nat){f:Expr}{k z:Int}(hu:X.A.units + 1 < cLine)(he:EV X e Γ ae k Γ)(hf:EV X f Γ ae z Γ)(hΓ:Γ[i]?=some (.di (e9 F)))(hN:autoParam (X.N[i]?=some x) Fc.ag)(hv:autoParam (bR X.env.scope x) Fc.bq)
 (hd:autoParam ((x==("__debug__":Str))=false) Fc.av) (hcd:autoParam ((x==("__classdict__":Str))=false) Fc.av) (m:M2 X (.Name x p1) "get" ap e f cp:=by exact ⟨rfl,rfl,rfl,rfl⟩):EV X (.Call (.Attribute (.Name x p1) "get" ap) [e,f] [] cp) Γ ae ((bL F k).getD z) Γ:=by
 intro σ H0 R0 H R E Q q
 obtain ⟨a,ea,ha,hR⟩:=E.ent i _ hΓ
 refine eS (xg hu (aU hN hv hd hcd) aI aI m) ⟨.ref a,at_of ea,a,rfl,.inl ⟨_,.inl ha⟩,he σ H0 R0 H R E _ λu H2 R2 E2 s2 e2=>hf σ H0 R0 H2 R2 E2 _ λu3 H3 R3 E3 s3 e3=>?_⟩
 obtain ⟨a',ea',ha',hR'⟩:=E3.ent i _ hΓ
 rw [ea] at ea';cases ea'
 cases e2
 cases e3
 have g:=ez.k (k:=Sum.inl k) ha'
 rw [gB] at g
 refine ⟨_,g,?_⟩
 have e:((bL F k).map V.int).getD (V.int z)=V.int ((bL F k).getD z):=by cases bL F k<;>rfl
 rw [e]
 exact q _ H3 R3 E3 (s2.trans s3) rfl
theorem xk (F:List (Int×Int))(k v:Int):(eG F k v).length<=F.length + 1:=by
 unfold eG;split
 ·rw [List.length_map];omega
 ·rw [List.length_append];simp
theorem Bf (i:Nat){ke ve:Expr}{k v:Int}(hu:X.A.units + 1 < cLine)(hk:EV X ke Γ ae k Γ)(hv':EV X ve Γ ae v Γ)(hΓ:Γ[i]?=some (.di (e9 F)))(hz:F.length < sizeLine)(h:N (Γ.set i (.di (e9 (eG F k v)))))
 (hN:autoParam (X.N[i]?=some x) Fc.ag) (hvi:autoParam (bR X.env.scope x) Fc.bq)
 (hd:autoParam ((x==("__debug__":Str))=false) Fc.av) (hcd:autoParam ((x==("__classdict__":Str))=false) Fc.av)
 (hs:autoParam (swapsWith ve (some (.Subscript (.Name x p1) ke p2)) pos.line X.env=pure false) Fc.ag):W1 X (.Assign [.Subscript (.Name x p1) ke p2] ve pos) Γ N T:=λσ H0 R0 H R E D dn dr=>by
 refine sS (rj hu (aU hN hvi hd hcd) aI aI hs) (hv' σ H0 R0 H R E _ λu0 H0' R0' E0 s0 e0=>?_)
 obtain ⟨a,ea,ha,hR⟩:=E0.ent i _ hΓ
 refine ⟨.ref a,at_of ea,hk σ H0 R0 H0' R0' E0 _ λu H1 R1 E1 s1 e1=>?_⟩
 obtain ⟨a',ea',ha',hR'⟩:=E1.ent i _ hΓ
 rw [ea] at ea';cases ea'
 cases e1
 cases e0
 refine ⟨a,_,rfl,m9.k (k:=Sum.inl k) ha' (by unfold cZ e9;rw [List.length_map,List.length_map];exact hz),?_⟩
 rw [uw]
 exact dn σ _ R1 _ (E1.upd (en:=.di (e9 (eG F k v))) hΓ rfl ea hR' ⟨a,rfl,az,hR'⟩) (s0.trans s1) h
theorem yK (i:Nat){P:List (Int×Int)->Prop}(hΓ:Γ[i]?=some (.di (e9 F)))(h:P F)(hN:autoParam (X.N[i]?=some x) Fc.ag)(hv:autoParam (bR X.env.scope x) Fc.bq)
 (hd:autoParam ((x==("__debug__":Str))=false) Fc.av) (hcd:autoParam ((x==("__classdict__":Str))=false) Fc.av):W1 X (.Return (some (.Name x p1)) pos) Γ N (bE X.K lW P):=λσ H0 R0 H R E D dn dr=>by
 obtain ⟨a,ea,ha,hR⟩:=E.ent i _ hΓ
 have h0:H0 a=none:=E.new i _ a hΓ rfl ea
 refine sS (e7 (aU hN hv hd hcd)) ⟨.ref a,at_of ea,dr _ H (upd R a (.dK (cZ (e9 F)))) ⟨E.ext.h,E.ext.r.trans (ar.fresh hR _),λb o qb=>?_,λb hb=>?_⟩ ⟨F,⟨a,rfl,az⟩,h⟩⟩
 ·by_cases hb:b=a
  ·subst hb;rw [az] at qb;cases qb;exact ha
  ·rw [aH hb] at qb;exact E.ext.s b o qb
 ·rw [aH (show b≠a from λe=>hb (by rw [e];exact h0))];exact E.ext.old b hb
theorem aq.FL {K:PySem.W.Frag}{σ:St}{H0 R0 R H' R':Hp}{Γf:Ga}(E:aq K σ H0 R0 H R Γ)(E':aq K σ H H H' R' Γf):aq K σ H0 R0 H' R Γ:=
 E.grow ⟨E'.ext.h,ar.refl _,E.sub.trans E'.ext.h,λ_ _=>rfl⟩
theorem TV.frz {Γf:Ga}(hF:∀(σ:St) (H0 R0 H R:Hp),aq X.K σ H0 R0 H R Γ->aq X.K σ H H H H Γf){b:Bool}(h:TV X e Γf b Γf):TV X e Γ b Γ:=λσ H0 R0 H R E Q q=>
 h σ H H H H (hF σ H0 R0 H R E) Q λH' R' E' s'=>q H' R (E.FL E') (ar.refl _)
def fm (H:Hp)(as:List Addr)(xss:List (List Int)):Prop:=as.length=xss.length/\∀(i:Nat) (b:Addr) (xs:List Int),as[i]?=some b->xss[i]?=some xs->H b=some (.lst (xs.map V.int))
theorem fm.one (h:fm H as xss)(hb:b∈as):∃xs:List Int,H b=some (.lst (xs.map V.int)):=by
 obtain ⟨i,hi,rfl⟩:=List.mem_iff_getElem.mp hb
 exact ⟨_,h.2 i _ _ (List.getElem?_eq_getElem hi) (List.getElem?_eq_getElem (by rw [← h.1];exact hi))⟩
theorem fm.loc {H':Hp}(h:fm H as xss)(e:∀a∈as,H' a=H a):fm H' as xss:=
 ⟨h.1,λi b r h1 h2=>(e b (List.mem_of_getElem? h1)).trans (h.2 i b r h1 h2)⟩
theorem fm.put (h:fm H as xss)(nd:as.Nodup){j:Nat}(hb:as[j]?=some b):fm (upd H b (.lst (xs.map V.int))) as (xss.set j xs):=by
 refine ⟨by rw [List.length_set];exact h.1,λi c q h1 h2=>?_⟩
 by_cases hij:i=j
 ·subst hij
  rw [hb] at h1;cases h1
  have hl:i < xss.length:=by rw [← h.1];exact (List.getElem?_eq_some_iff.mp hb).1
  rw [List.getElem?_set_self hl] at h2;cases h2
  exact az
 ·rw [List.getElem?_set_ne (Ne.symm hij)] at h2
  have:c≠b:=λz=>by
   subst z
   have l1:=(List.getElem?_eq_some_iff.mp h1)
   have l2:=(List.getElem?_eq_some_iff.mp hb)
   exact hij ((List.getElem_inj (h₀:=l1.1) (h₁:=l2.1) nd).mp (l1.2.trans l2.2.symm))
  rw [aH this];exact h.2 i c q h1 h2
theorem fm.snoc (h:fm H as xss)(hb:H b=some (.lst (xs.map V.int))):fm H (as++[b]) (xss++[xs]):=by
 refine ⟨by rw [List.length_append,List.length_append,h.1];rfl,λi c q h1 h2=>?_⟩
 rcases Nat.lt_or_ge i as.length with hl | hl
 ·rw [List.getElem?_append_left hl] at h1
  rw [List.getElem?_append_left (by rw [← h.1];exact hl)] at h2
  exact h.2 i c q h1 h2
 ·rw [List.getElem?_append_right hl] at h1
  rw [List.getElem?_append_right (by rw [← h.1];exact hl)] at h2
  have e:i - as.length=0:=by
   have:=(List.getElem?_eq_some_iff.mp h1).1
   simp at this;omega
  rw [e] at h1
  rw [← h.1,e] at h2
  simp at h1 h2
  rw [← h1,← h2];exact hb
def cC (a:Addr)(as:List Addr)(xss:List (List Int)):k4 where
 fp:=a::as
 R:=λK H R v=>v= .ref a/\H a=some (.lst (as.map .ref))/\fm H as xss/\(a::as).Nodup
 loc:=λhH hR ⟨e,h1,h2,h3⟩=>⟨e,(hH a List.mem_cons_self).trans h1,h2.loc λb hb=>hH b (List.mem_cons_of_mem _ hb),h3⟩
 has:=λ⟨e,h1,h2,h3⟩ b hb=>by
  rcases List.mem_cons.mp hb with rfl | hb
  ·rw [h1];exact Option.some_ne_none _
  ·obtain ⟨r,hr⟩:=h2.one hb
   rw [hr];exact Option.some_ne_none _
theorem kO {K:PySem.W.Frag}{H:Hp}:∀{as:List Addr} {xss:List (List Int)},fm H as xss->(∀xs∈xss,xs.length<=sizeLine)->PySem.Paired ((af ae).R K H) (as.map .ref) xss
 | [],[],_,_=>.nil
 | [],_::_,h,_=>absurd h.1 (by simp)
 | _::_,[],h,_=>absurd h.1 (by simp)
 | a::as,r::rs,h,hz=>.cons ⟨a,_,rfl,h.2 0 a r rfl rfl,by
    have:∀ys:List Int,PySem.Paired (ae.R K H) (ys.map V.int) ys:=λys=>by
     induction ys with
     | nil=>exact .nil
     | cons y r ih=>exact .cons rfl ih
    exact this r,hz r List.mem_cons_self⟩ (kO ⟨by simpa using h.1,λi b q h1 h2=>h.2 (i + 1) b q (by simpa using h1) (by simpa using h2)⟩ λxs hx=>hz xs (List.mem_cons_of_mem _ hx))
theorem WS.rH (i:Nat){sts:List Stmt}(hΓ:Γ[i]?=some (.mu r []))(h:∀a,WS X sts (Γ.set i (.ob (cC a [] []))) N T):WS X sts Γ N T:=λσ H0 R0 H R E D dn dr=>by
 obtain ⟨a,vs,ea,ha,hR,pp⟩:=E.ent i _ hΓ
 cases pp
 refine h a σ H0 R0 H R (E.tell hΓ ⟨⟨.ref a,ea,rfl,ha,⟨rfl,λi b r h1=>by simp at h1⟩,by simp⟩,λb hb=>?_⟩ λb w=>?_) D dn dr
 ·rw [show b=a by simpa [cC] using hb];exact hR
 ·rw [show b=a by simpa [Ent.fp,cC] using w];exact cb.mpr ea
theorem g7 (i:Nat){ys:List Int}(he:bc X e Γ ae ys Γ1)(hΓ:Γ[i]?=some (.ob (cC a as xss)))(hΓ1:Γ1[i]?=some (.ob (cC a as xss)))(hz:xss.length < sizeLine)(h:∀b,N (Γ1.set i (.ob (cC a (as++[b]) (xss++[ys])))))
 (hN:autoParam (X.N[i]?=some x) Fc.ag) (hv:autoParam (bR X.env.scope x) Fc.bq)
 (hd:autoParam ((x==("__debug__":Str))=false) Fc.av) (hcd:autoParam ((x==("__classdict__":Str))=false) Fc.av)
 (hsw:autoParam (swapsWith (.Call (.Attribute (.Name x p1) "append" ap) [e] [] cp) none pos.line X.env=pure false) Fc.ag)
 (hbase:autoParam (attributeBase (.Name x p1) "append" X.env (eval (.Name x p1) X.env)=eval (.Name x p1) X.env) Fc.ag)
 (hfew:autoParam (((backTo cp (starEach [e] X.env)).all (λx=> !x.1)&&(backToKw cp (keywordEach [] X.env)).all (λx=>x.1.isSome)
  &&decide ([e].length + ([]:List Keyword).length + (if ([]:List Keyword).isEmpty then 0 else 1) < 30))=true) Fc.ag)
 (hline:autoParam ((ap.endLine==cp.line)=true) Fc.ag) (hs:autoParam (starEach [e] X.env=(false,eval e X.env)::starEach [] X.env) Fc.ag):W1 X (.Expr (.Call (.Attribute (.Name x p1) "append" ap) [e] [] cp) pos) Γ N T:=λσ H0 R0 H R E D dn dr=>by
 obtain ⟨⟨v,ea,rfl,ha,hr,_⟩,hR⟩:=E.ent i _ hΓ
 refine sS (d5 (gr PySem.F.plainAttrs_list PySem.F.slot_list_append PySem.F.type_list_append fC (aU hN hv hd hcd) (aD aI bp hs) hbase hfew hline hs rfl) hsw) ?_
 refine ⟨.ref a,at_of ea,.inl ⟨rfl,_,aL.of ha⟩,he σ H0 R0 H R E _ λb vs H2 R2 E2 s2 hb hRb h0b offb pp _=>?_⟩
 have ev:=eR pp
 subst ev
 obtain ⟨⟨v,ea2,rfl,ha2,hr2,nd2⟩,hR2⟩:=E2.ent i _ hΓ1
 obtain ⟨n1,n2⟩:=List.nodup_cons.mp nd2
 have hl:as.length=xss.length:=hr2.1
 have bne:b∉a::as:=λz=>offb i _ hΓ1 z
 have bna:b≠a:=λz=>bne (z▸List.mem_cons_self)
 refine ⟨a,_,.ref b,rfl,rfl,ha2,by rw [List.length_map,hl];exact hz,?_⟩
 refine dn σ _ R2 _ (E2.gY (en:=.ob (cC a (as++[b]) (xss++[ys]))) hΓ1 List.mem_cons_self ⟨⟨.ref a,ea2,rfl,?_,?_,?_⟩,λc hc=>?_⟩ λc w=>?_) s2 (h b)
 ·rw [az,List.map_append];rfl
 ·refine (hr2.snoc hb).loc λc hc=>aH λz=>?_
  rw [z] at hc
  rcases List.mem_append.mp hc with q | q
  ·exact n1 q
  ·exact bna (List.mem_singleton.mp q).symm
 ·refine List.nodup_cons.mpr ⟨λz=>?_,eT n2 λz=>bne (List.mem_cons_of_mem _ z)⟩
  rcases List.mem_append.mp z with q | q
  ·exact n1 q
  ·exact bna (List.mem_singleton.mp q).symm
 ·rcases List.mem_cons.mp hc with rfl | hc
  ·exact hR2 _ List.mem_cons_self
  ·rcases List.mem_append.mp hc with q | q
   ·exact hR2 _ (List.mem_cons_of_mem _ q)
   ·rw [List.mem_singleton.mp q];exact hRb
 ·rcases List.mem_cons.mp w with rfl | w
  ·exact .inl List.mem_cons_self
  ·rcases List.mem_append.mp w with q | q
   ·exact .inl (List.mem_cons_of_mem _ q)
   ·rw [List.mem_singleton.mp q];exact .inr ⟨h0b,offb⟩
theorem su (i j:Nat){k:Nat}(he:EV X e Γ ae y Γ)(hΓ:Γ[i]?=some (.ob (cC a as xss)))(hj:Γ[j]?=some (.im jm b))(hb:as[k]?=some b)(hx:xss[k]?=some xs)(hz:xs.length < sizeLine)(h:N (Γ.set i (.ob (cC a as (xss.set k (xs++[y]))))))
 (hN:autoParam (X.N[j]?=some x) Fc.ag) (hv:autoParam (bR X.env.scope x) Fc.bq)
 (hd:autoParam ((x==("__debug__":Str))=false) Fc.av) (hcd:autoParam ((x==("__classdict__":Str))=false) Fc.av)
 (hsw:autoParam (swapsWith (.Call (.Attribute (.Name x p1) "append" ap) [e] [] cp) none pos.line X.env=pure false) Fc.ag)
 (hbase:autoParam (attributeBase (.Name x p1) "append" X.env (eval (.Name x p1) X.env)=eval (.Name x p1) X.env) Fc.ag)
 (hfew:autoParam (((backTo cp (starEach [e] X.env)).all (λx=> !x.1)&&(backToKw cp (keywordEach [] X.env)).all (λx=>x.1.isSome)
  &&decide ([e].length + ([]:List Keyword).length + (if ([]:List Keyword).isEmpty then 0 else 1) < 30))=true) Fc.ag)
 (hline:autoParam ((ap.endLine==cp.line)=true) Fc.ag) (hs:autoParam (starEach [e] X.env=(false,eval e X.env)::starEach [] X.env) Fc.ag):W1 X (.Expr (.Call (.Attribute (.Name x p1) "append" ap) [e] [] cp) pos) Γ N T:=λσ H0 R0 H R E D dn dr=>by
 obtain ⟨v0,e0,hv0⟩:=E.ent j _ hj
 cases hv0
 obtain ⟨⟨v,ea,rfl,ha,hr,_⟩,hR⟩:=E.ent i _ hΓ
 refine sS (d5 (gr PySem.F.plainAttrs_list PySem.F.slot_list_append PySem.F.type_list_append fC (aU hN hv hd hcd) (aD aI bp hs) hbase hfew hline hs rfl) hsw) ?_
 refine ⟨.ref b,at_of e0,.inl ⟨rfl,_,aL.of (hr.2 k b xs hb hx)⟩,he σ H0 R0 H R E _ λu H2 R2 E2 s2 e2=>?_⟩
 cases e2
 obtain ⟨⟨v,ea2,rfl,ha2,hr2,nd2⟩,hR2⟩:=E2.ent i _ hΓ
 obtain ⟨n1,n2⟩:=List.nodup_cons.mp nd2
 have bm:b∈as:=List.mem_of_getElem? hb
 have eu:xs.map V.int++[V.int y]=(xs++[y]).map V.int:=by rw [List.map_append];rfl
 refine ⟨b,_,.int y,rfl,rfl,hr2.2 k b xs hb hx,by rw [List.length_map];exact hz,?_⟩
 rw [eu]
 refine dn σ _ R2 _ (E2.gY (en:=.ob (cC a as (xss.set k (xs++[y])))) hΓ (List.mem_cons_of_mem _ bm) ⟨⟨.ref a,ea2,rfl,?_,hr2.put n2 hb,nd2⟩,hR2⟩ λc w=>.inl w) s2 h
 rw [aH (show a≠b from λz=>n1 (z▸bm))];exact ha2
def ui (P:List (List Int)->Prop):RT:=λH0 v H' R'=>∃a as xss,v= .ref a/\(∀b∈a::as,H0 b=none/\R' b=none)/\H' a=some (.lst (as.map .ref))/\fm H' as xss/\(a::as).Nodup/\P xss
theorem vm (i:Nat){P:List (List Int)->Prop}(hΓ:Γ[i]?=some (.ob (cC a as xss)))(h:P xss)(hN:autoParam (X.N[i]?=some x) Fc.ag)(hv:autoParam (bR X.env.scope x) Fc.bq)
 (hd:autoParam ((x==("__debug__":Str))=false) Fc.av) (hcd:autoParam ((x==("__classdict__":Str))=false) Fc.av):W1 X (.Return (some (.Name x p1)) pos) Γ N (ui P):=λσ H0 R0 H R E D dn dr=>by
 obtain ⟨⟨v,ea,rfl,ha,hr,nd⟩,hR⟩:=E.ent i _ hΓ
 exact sS (e7 (aU hN hv hd hcd)) ⟨.ref a,at_of ea,dr _ H R E.ext ⟨a,as,xss,rfl,λb hb=>⟨E.nw i _ b hΓ hb,hR b hb⟩,ha,hr,nd,h⟩⟩
theorem AV (i:Nat){tg:Expr}{body:List Stmt}{bf:Addr->Ga->Ga}(I:Nat->Ga->Prop)(hΓ:Γ[i]?=some (.ob (cC a as xss)))(hb:BG X tg jm bf)(h0:I 0 Γ)(hI:∀k Γ,I k Γ->∃yss,Γ[i]?=some (.ob (cC a as yss)))
 (hstep:∀(k:Nat) (b:Addr) (Γ:Ga),as[k]?=some b->I k Γ->WS X body (bf b Γ) (I (k + 1)) T) (hend:∀Γ:Ga,I as.length Γ->N Γ)
 (hN:autoParam (X.N[i]?=some x) Fc.ag) (hv:autoParam (bR X.env.scope x) Fc.bq)
 (hd:autoParam ((x==("__debug__":Str))=false) Fc.av) (hcd:autoParam ((x==("__classdict__":Str))=false) Fc.av)
 (hc:autoParam (X.calm=true) Fc.ag) (hp:PassesOwn (model X.prog X.w) X.A X.env X.xe:=by exact PassesOwn.never) (hs:autoParam (∀y,foldedSetIterable (.Name x p1) X.env y=pure y) Fc.c9):W1 X (.For tg (.Name x p1) body [] pos) Γ N T:=λσ H0 R0 H R E D dn dr=>by
 obtain ⟨⟨v,ea,rfl,ha,hr,_⟩,hR⟩:=E.ent i _ hΓ
 refine sS (mQ hp hc (kH (aU hN hv hd hcd)) rh eI hs) ⟨.ref a,at_of ea,a,rfl,⟨_,aL.of ha⟩,?_⟩
 refine ⟨λk m σ' H'=>m=as.length - k/\k<=as.length/\∃R' Γ',aq X.K σ' H0 R0 H' R' Γ'/\ar R R'/\I k Γ',⟨_,rfl,Nat.zero_le _,R,Γ,E,ar.refl _,h0⟩,?_⟩
 rintro k m σ' H' ⟨rfl,hle,R',Γ',E',s',hIk⟩
 obtain ⟨yss,hy⟩:=hI k Γ' hIk
 obtain ⟨⟨v,ea',rfl,ha',_,_⟩,_⟩:=E'.ent i _ hy
 by_cases hlt:k < as.length
 ·have hk:(as.map V.ref)[k]?=some (.ref as[k]):=by rw [List.getElem?_map,List.getElem?_eq_getElem hlt];rfl
  refine .inr ⟨⟨_,_,aL.of ha',hk⟩,λσ' H'=>k + 1<=as.length/\∃R' Γ',aq X.K σ' H0 R0 H' R' Γ'/\ar R R'/\I (k + 1) Γ',λσ2 H2 h=>⟨as.length - (k + 1),by omega,rfl,h.1,h.2⟩,λv H2 hyl=>?_⟩
  obtain ⟨rfl,hyl⟩:=hyl
  have:=hyl _ (aL.of ha')
  rw [hk] at this
  cases this
  refine hb σ' H0 R0 H2 R' Γ' _ as[k] E' rfl _ λσ2 E2=>?_
  exact hstep k _ Γ' (List.getElem?_eq_getElem hlt) hIk σ2 H0 R0 H2 R' E2 _ (λσ3 H3 R3 Γ3 E3 s3 h3=>⟨hlt,R3,Γ3,E3,s'.trans s3,h3⟩) dr
 ·have e:k=as.length:=by omega
  subst e
  exact .inl ⟨⟨_,aL.of ha',by rw [List.length_map];exact Nat.le_refl _⟩,dn σ' H' R' Γ' E' s' (hend Γ' hIk)⟩
theorem yT {i:Nat}(hΓ:Γ[i]?=some (.ob (cC a as xss)))(hz:xss.length<=sizeLine)(hz':∀xs∈xss,xs.length<=sizeLine)(σ:St)(H0 R0 H R:Hp)(E:aq X.K σ H0 R0 H R Γ):aq X.K σ H H H H ((Γ.map oG).set i (.im (af (af ae)) xss)):=by
 obtain ⟨⟨v,ea,rfl,ha,hr,nd⟩,hR⟩:=E.ent i _ hΓ
 exact E.frz.mI (i:=i) (e0:=.no) (by rw [List.getElem?_map,hΓ];rfl) ⟨.ref a,ea,a,_,rfl,ha,kO hr hz',hz⟩ λb w=>by cases w
def w6:Rep Unit:=⟨λ_ _ v _=>v= .non,λ_ h=>h⟩
theorem se {S:cq}{k:Nat}{es:List Expr}{ps:List Pk}{Pd:Unit->Prop}(C:aF X.prog X.w X.K X.mg X.base x k (aQ S X.K))(hr:bA k X.A)(ha:HA X (e::es) Γ ps Γ1)(hS:S X.K ps (bE X.K w6 Pd))(h:N Γ1)
 (hg:autoParam (Gl X x) Fc.ag) (hdb:autoParam ((x==("__debug__":Str))=false) Fc.av) (he:autoParam (starEach (e::es) X.env=(false,eval e X.env)::starEach es X.env) Fc.ag) (hpl:autoParam ((backTo p2 (starEach es X.env)).any (·.1)=false) Fc.ag)
 (hsw:autoParam (swapsWith (.Call (.Name x p) (e::es) [] p2) none pos.line X.env=pure false) Fc.ag):W1 X (.Expr (.Call (.Name x p) (e::es) [] p2) pos) Γ N T:=λσ H0 R0 H R E D dn dr=>
 sS (d5 aI hsw) (eB C hr ha hS E (λH1 R1 v H' R' E1 s1 xx t=>dn σ H' R' _ (E1.grow xx) (s1.trans xx.r) h) hg hdb he hpl)
def lp (r:Rep α)(S:eU α)(K:PySem.W.Frag):Sp:=λvs H Q _=>∃R a ws xs v0 vs' ps T,vs=v0:: .ref a::vs'/\ar R H/\R a=none/\H a=some (.lst ws)/\PySem.Paired (r.R K R) ws xs/\eZ K R (v0::vs') ps/\S K xs ps T/\
 ∀v H' R' ws' xs',Ext (del H a) R H' R'->H' a=some (.lst ws')->R' a=none->PySem.Paired (r.R K R') ws' xs'->T xs' (del H a) v H' R'->Q v H'
theorem wD (i:Nat){S:eU α}{y n0:Str}{k:Nat}{e0:Expr}{es:List Expr}{p0:Pos}{ps:List Pk}{xs:List α}{rr:Rep β}{Pd:List α->β->Prop}(j:Nat){r0:Rep γ}{y0:γ}(C:aF X.prog X.w X.K X.mg X.base x k (lp r S X.K))(hr:bA k X.A)(hj:Γ[j]?=some (.im r0 y0))(hj1:Γ1[j]?=some (.im r0 y0))(h0:bc X e0 Γ r xs Γ1)(ha:nZ X es Γ1 ps)(hS:S X.K xs (⟨r0,y0⟩::ps) (λxs'=>bE X.K rr (Pd xs')))(h:∀xs' z,Pd xs' z->N (Γ1.set i (.im rr z)))
 (hg:autoParam (Gl X x) Fc.ag) (hdb:autoParam ((x==("__debug__":Str))=false) Fc.av) (he:autoParam (starEach (.Name n0 p0::e0::es) X.env=(false,eval (.Name n0 p0) X.env)::starEach (e0::es) X.env) Fc.ag) (he2:autoParam (starEach (e0::es) X.env=(false,eval e0 X.env)::starEach es X.env) Fc.ag) (hpl:autoParam ((backTo p2 (starEach (e0::es) X.env)).any (·.1)=false) Fc.ag)
 (hNj:autoParam (X.N[j]?=some n0) Fc.ag) (hvj:autoParam (bR X.env.scope n0) Fc.bq) (hdj:autoParam ((n0==("__debug__":Str))=false) Fc.av) (hcdj:autoParam ((n0==("__classdict__":Str))=false) Fc.av)
 (hN:autoParam (X.N.Nodup) Fc.fj) (hi:autoParam (X.N[i]?=some y) Fc.ag) (hx:autoParam (Loc X.env.scope y) Fc.fi)
 (hs:autoParam (swapsWith (.Call (.Name x p) (.Name n0 p0::e0::es) [] p2) (some (.Name y p1)) pos.line X.env=pure false) Fc.ag) (hf:autoParam (X.fn y=true∨X.env.scope.names.lookup y=some .local) Fc.iy):
 W1 X (.Assign [.Name y p1] (.Call (.Name x p) (.Name n0 p0::e0::es) [] p2) pos) Γ N T:=λσ H0 R0 H R E D dn dr=>by
 obtain ⟨f,fd,pn,F,hm,hk,hb⟩:=C.ex
 obtain ⟨v0,ev0,_⟩:=E.ent j _ hj
 refine sS (eY hN hi hx aI hs hf) (eS (eh F hr hg hm hk hb .nil gL (aD (aU hNj hvj hdj hcdj) (aD aI jJ he2) he) hdb he hpl) ⟨v0,at_of ev0,h0 σ H0 R0 H R E _ λa ws H1 R1 E1 s1 hp hR hf0 off pp z=>?_⟩)
 refine ha σ H0 R0 H1 R1 E1 _ λus p1=>?_
 obtain ⟨v0',ev0',hv0⟩:=E1.ent j _ hj1
 rw [ev0] at ev0';cases ev0'
 refine ⟨R1,a,ws,xs,v0,us,_,_,by rw [List.append_nil],E1.sub,hR,hp,pp,.cons hv0 p1,hS,λv H' R' ws' xs' xx h1 h2 pq t=>?_⟩
 obtain ⟨z,e1,hz⟩:=t
 exact dn _ H' R' _ ((E1.oD off hf0 xx).set i e1) (s1.trans xx.r) (h xs' z hz)
end
section
variable {P:Program}{w:World}{K:PySem.W.Frag}{mg:Str->Option Value}{base:Heap}{α:Type}
variable {N:List Str}
theorem Ax {S:cq}{x qual:Str}{st:Stmt}{f:Addr}{fd:FuncData}{ps:List Str}{k:Nat}(F:bH K x qual st f fd)(Sc:aC N ps (ai st))(hm:mg x=some (.ref f))(hb:Binds K fd ps [])(len:∀qs T,S K qs T->qs.length=ps.length)
 (hbody:∀(cdv:Value) (A:Around) (outer:List Env) (s:Shared) (H:Hp) (E:XK) (qs:List Pk) (T:RT),bA k (A.deeper (envOfC qual (ai st) s.heap.objs.size f cdv))->S K qs T->(∀H0 H' R',T H0 .non H' R')/\
  WS (cL dQ P w K mg base N qual (ai st) f cdv A outer s H E).c8 (br st) (dB qs N.length) (λ_=>True) T):aF P w K mg base x (k + 1) (aQ S K):=by
 refine ⟨f,fd,ps,?_,hm,F.kp,hb⟩
 refine F.ok Sc (λvs H Q E h=>?_) (λcdv A outer s H vs Q E hr h=>?_)
 ·obtain ⟨R,qs,T,_,p,hS,_⟩:=h
  rw [p.length];exact len qs T hS
 ·obtain ⟨R,qs,T,sR,p,hS,q⟩:=h
  have hl:qs.length<=N.length:=by
   rw [len qs T hS]
   have:=congrArg List.length Sc.pre
   rw [List.length_take] at this
   omega
  obtain ⟨h1,h2⟩:=hbody cdv A outer s H E qs T hr hS
  exact ⟨_,eI,h2 (L2.start N vs) H R H R (eA sR p hl) {nx:=λ_ H'=>Q .non H',rt:=Q} (λσ' H' R' Γ' E' _ _=>q .non H' R' E'.ext (h1 _ _ _)) λv H' R' xx t=>q v H' R' xx t⟩
theorem k7 {K:PySem.W.Frag}{R H:Hp}{a:Addr}{r:Rep α}{ws:List V}{xs:List α}{v0:V}{vs:List V}{p0:Pk}{ps:List Pk}(s:ar R H)(hR:R a=none)(ha:H a=some (.lst ws))(pp:PySem.Paired (r.R K R) ws xs)(h0:p0.r.R K R v0 p0.x)(p:eZ K R vs ps)(hl:ps.length + 2<=N.length):
 aq K (L2.start N (v0:: .ref a::vs)) (del H a) R H R (.im p0.r p0.x:: .ob (bU a r xs)::dB ps (N.length - 2)):=by
 obtain ⟨n0,N',rfl⟩:∃n0 N',N=n0::N':=by cases N with
  | nil=>exact absurd hl (by simp)
  | cons n N'=>exact ⟨n,N',rfl⟩
 have hl':ps.length + 1<=N'.length:=by simpa using hl
 have E0:=mw (N:=N') s hR ha pp p hl'
 have es:L2.start (n0::N') (v0:: .ref a::vs)=some v0::L2.start N' (.ref a::vs):=by unfold L2.start;simp
 rw [es]
 have el:(n0::N').length - 2=N'.length - 1:=by simp
 rw [el]
 refine ⟨E0.ext,λi e q=>?_,λi e b q w=>?_,λi j e e' b q q' w w'=>?_,?_⟩
 ·cases i with
  | zero=>simp at q;subst q;exact ⟨v0,rfl,h0⟩
  | succ i=>rw [List.getElem?_cons_succ] at q ⊢;exact E0.ent i e q
 ·cases i with
  | zero=>simp at q;subst q;cases w
  | succ i=>rw [List.getElem?_cons_succ] at q w;exact E0.nw i e b q w
 ·cases i with
  | zero=>simp at q;subst q;cases w
  | succ i=>
    cases j with
    | zero=>simp at q';subst q';cases w'
    | succ j=>rw [List.getElem?_cons_succ] at q q' w w';rw [E0.ds i j e e' b q q' w w']
 ·have:=E0.len
  simp only [List.length_cons] at this ⊢
  omega
theorem rg {r:Rep α}{S:eU α}{x qual:Str}{st:Stmt}{f:Addr}{fd:FuncData}{ps:List Str}{k:Nat}(F:bH K x qual st f fd)(Sc:aC N ps (ai st))(hm:mg x=some (.ref f))(hb:Binds K fd ps [])(len:∀xs qs T,S K xs qs T->qs.length + 1=ps.length)
 (hbody:∀(cdv:Value) (A:Around) (outer:List Env) (s:Shared) (H:Hp) (E:XK) (a:Addr) (xs:List α) (q0:Pk) (qs:List Pk) (T:List α->RT),bA k (A.deeper (envOfC qual (ai st) s.heap.objs.size f cdv))->S K xs (q0::qs) T->
  WS (cL dQ P w K mg base N qual (ai st) f cdv A outer s H E).c8 (br st) (.im q0.r q0.x:: .ob (bU a r xs)::dB qs (N.length - 2)) (λ_=>False) (mL K a r T)):aF P w K mg base x (k + 1) (lp r S K):=by
 refine ⟨f,fd,ps,?_,hm,F.kp,hb⟩
 refine F.ok Sc (λvs H Q E h=>?_) (λcdv A outer s H vs Q E hr h=>?_)
 ·obtain ⟨R,a,ws,xs,v0,vs',qs,T,rfl,_,_,_,_,p,hS,_⟩:=h
  have:=len xs qs T hS
  have e2:=p.length
  simp only [List.length_cons] at e2 ⊢
  omega
 ·obtain ⟨R,a,ws,xs,v0,vs',qs,T,rfl,sR,hR,ha,pp,p,hS,q⟩:=h
  have hlen:=len xs qs T hS
  have hN:ps.length<=N.length:=by
   have:=congrArg List.length Sc.pre
   rw [List.length_take] at this
   omega
  cases p with
  | @cons _ _ q0 qs h0 p=>
    have hl:qs.length + 2<=N.length:=by simp only [List.length_cons] at hlen;omega
    refine ⟨_,eI,hbody cdv A outer s H E a xs q0 qs T hr hS (L2.start N (v0:: .ref a::vs')) (del H a) R H R (k7 sR hR ha pp h0 p hl) {nx:=λ_ H'=>Q .non H',rt:=Q} (λ_ _ _ _ _ _ f=>f.elim) λv H' R' xx t=>?_⟩
    obtain ⟨ws',xs',h1,h2,h3,h4⟩:=t
    exact q v H' R' ws' xs' xx h1 h2 h3 h4
end
theorem vV {a b:Option Int}(h:a.map V.int=b.map V.int):a=b:=by
 cases a<;>cases b<;>simp at h<;>simp [h]
theorem gg (F:List (Int×Int))(k v j:Int):bL (eG F k v) j=if j=k then some v else bL F j:=by
 have h:=wx (cZ (e9 F)) (Sum.inl k:Key) (Sum.inl j) (.int v)
 rw [uw,gB,gB] at h
 apply vV
 rw [h]
 by_cases e:j=k
 ·rw [if_pos (by rw [e]),if_pos e];rfl
 ·rw [if_neg (λz=>e (Sum.inl.inj z)),if_neg e]
theorem fh {F:List (Int×Int)}{k:Int}:(bL F k).isSome=true↔k∈F.map (·.1):=by
 unfold bL
 rw [Option.isSome_map,List.find?_isSome]
 simp only [decide_eq_true_eq,List.mem_map]
theorem iu (F:List (Int×Int))(k v:Int):(eG F k v).map (·.1)=if (bL F k).isSome then F.map (·.1) else F.map (·.1)++[k]:=by
 unfold eG
 split
 ·rw [List.map_map]
  apply List.map_congr_left
  intro p _
  simp only [Function.comp]
  split
  ·rename_i h;rfl
  ·rfl
 ·rw [List.map_append];rfl
end Fc
namespace K1
open PySem L2 Fc
open PySem.Spec hiding Row
open PyProof.Rows hiding St
open PySem.Builtin.Int (intBits)
def bJ (p:Int)(F:List (Int×Int))(r:Row):List (Int×Int):=
 if decide (r.1=p)&&(bL F r.2.2.1).isSome then
  eG F r.2.1 (if (bL F r.2.2.1).getD 0 + 1 < (bL F r.2.1).getD 99 then (bL F r.2.2.1).getD 0 + 1 else (bL F r.2.1).getD 99) else F
def a9 (rs:List Row)(p:Int):Nat->List (Int×Int)
 | 0=>[(1,0)]
 | n + 1=>rs.foldl (bJ p) (a9 rs p n)
theorem vi (p:Int)(F:List (Int×Int))(r:Row):(bJ p F r).length<=F.length + 1:=by
 unfold bJ;split
 ·exact xk _ _ _
 ·omega
theorem lG (p:Int):∀(l:List Row) (F:List (Int×Int)),(l.foldl (bJ p) F).length<=F.length + l.length
 | [],F=>by simp
 | r::l,F=>by
   have h1:=lG p l (bJ p F r)
   have h2:=vi p F r
   rw [List.foldl_cons,List.length_cons];omega
theorem lT (rs:List Row)(p:Int):∀n,(a9 rs p n).length<=1 + n * rs.length
 | 0=>by simp [a9]
 | n + 1=>by
   have h1:=lG p rs (a9 rs p n)
   have h2:=lT rs p n
   rw [Nat.succ_mul]
   show (rs.foldl (bJ p) (a9 rs p n)).length<=_
   omega
section
variable {P:Program}{w:World}{K:PySem.W.Frag}{mg:Str->Option Value}{base:Heap}{f:Addr}{fd:FuncData}
abbrev xK:Stmt:=top qI
abbrev nFA:List Str:=["_law_web_here","_law_part_here","_law_far_here","_law_turn","_law_row"]
theorem AL:aC nFA ["_law_web_here","_law_part_here"] (ai xK):=⟨rfl,rfl,rfl,by decide +kernel,rfl,by decide +kernel,by decide +kernel⟩
def EL:cq:=λK ps T=>∃(v:ax) (p n:Int),ps=[⟨bx,v⟩,⟨ae,p⟩]/\bW v.1 p=some n/\0<=n/\n<=1000/\v.2.length<=1000/\T=bE K lW (· =a9 v.2 p n.toNat)
theorem CZ (M:bO mg)(F:bH K "_law_far" "_law_far" xK f fd)(hm:mg "_law_far"=some (.ref f))(hb:Binds K fd ["_law_web_here","_law_part_here"] []):aF P w K mg base "_law_far" 1 (aQ EL K):=by
 have nd:=AL.nd
 refine bD F AL hm hb (λqs T ⟨_,_,_,e,_⟩=>by rw [e];rfl) (λcdv A outer s H E qs T hr hS=>?_)
 obtain ⟨v,p,n,rfl,hn,n0,n1,hl,rfl⟩:=hS
 have hu:=oH hr
 change WS _ _ [.im (ay (af ae) (af aB)) v,.im ae p,.no,.no,.no] _ _
 refine aj (qV 2 vB ef ?_)
 refine aj (bS (r:=ae) (λt Γ=>∃v3 v4,Γ=[.im (ay (af ae) (af aB)) v,.im ae p,.di (e9 (a9 v.2 p t)),v3,v4])
  (bB M.range (aP (bQ (aa 0 rfl)) (aa 1 rfl) hn) ⟨by omega,by omega⟩) (aG 3) ⟨_,_,rfl⟩ ?_ ?_)
 ·rintro t x Γ hx ⟨v3,v4,rfl⟩
  obtain ⟨ht,rfl⟩:=gz hx
  have hlen:(a9 v.2 p t).length<=1 + 1000 * 1000:=Nat.le_trans (lT v.2 p t) (Nat.add_le_add_left (Nat.mul_le_mul (by omega) hl) 1)
  refine ao (bS (r:=aB) (λi Γ=>∃v4,Γ=[.im (ay (af ae) (af aB)) v,.im ae p,.di (e9 ((v.2.take i).foldl (bJ p) (a9 v.2 p t))),.im ae (0 + (t:Int)),v4])
   (bj (aJ (aa 0 rfl))) (aG 4) ⟨_,rfl⟩ ?_ ?_)
  ·rintro i r Γ hr ⟨v4,rfl⟩
   have il:i < v.2.length:=(List.getElem?_eq_some_iff.mp hr).1
   have tk:(v.2.take (i + 1)).foldl (bJ p) (a9 v.2 p t)=bJ p ((v.2.take i).foldl (bJ p) (a9 v.2 p t)) r:=by
    rw [List.take_succ,hr];simp [List.foldl_append]
   have h2:=lG p (v.2.take i) (a9 v.2 p t)
   rw [List.length_take] at h2
   generalize (v.2.take i).foldl (bJ p) (a9 v.2 p t)=G at tk h2
   refine ao (bh (TW.tv (dy (aA bI (dS (aa 4 rfl)) (aa 1 rfl)) (λ_=>dZ (rq 2 false hu (c3 (aa 4 rfl)) rfl)))) (λh=>?_) (λh=>aV ⟨.im aB r,?_⟩))
   ·have hc:(decide (r.1=p)&&(bL G r.2.2.1).isSome)=true:=by rw [← rY];simpa using h
    have hg:bL G r.2.2.1=some ((bL G r.2.2.1).getD 0):=by
     have:=(Bool.and_eq_true_iff.mp hc).2
     cases e:bL G r.2.2.1 with
     | none=>rw [e] at this;cases this
     | some z=>rfl
    refine ao (Bf 2 hu (dG (aa 4 rfl)) (yH M.min (ah (wc 2 hu (dG (aa 4 rfl)) ak rfl) (ah (bu (zq 2 hu (c3 (aa 4 rfl)) rfl hg) ak) aw))) rfl (Nat.lt_of_le_of_lt (show G.length<=2000000 by omega) (by decide)) ?_)
    refine ⟨.im aB r,?_⟩
    rw [tk,bJ,if_pos hc];rfl
   ·have hc:(decide (r.1=p)&&(bL G r.2.2.1).isSome)=false:=by rw [← rY];simpa using h
    rw [tk,bJ,if_neg (by rw [hc];decide)];rfl
  ·rintro Γ ⟨v4,rfl⟩
   rw [List.take_length]
   exact ⟨_,_,rfl⟩
 ·rintro Γ ⟨v3,v4,rfl⟩
  rw [au]
  exact ao (yK 2 rfl rfl)
end
section
variable {n:Int}{rs:List Row}{p:Int}
structure gD (rs:List Row) (p n:Int) (F:List (Int×Int)):Prop where
 nd:(F.map (·.1)).Nodup
 one:bL F 1=some 0
 bd:∀k∈F.map (·.1),0<=k/\k < n
 val:∀k d,bL F k=some d->0<=d/\d < (F.length:Int)/\(k=1∨∃r∈rs,r.1=p/\r.2.1=k/\∃d',bL F r.2.2.1=some d'/\d' < d)
theorem gD.le {F:List (Int×Int)}(h:gD rs p n F)(n0:0<=n):(F.length:Int)<=n:=by
 have:=et h.nd (ys:=ups 0 n.toNat) λk hk=>bz.mpr (by have:=h.bd k hk;omega)
 rw [au,List.length_map] at this
 omega
theorem gD.bJ {F:List (Int×Int)}(h:gD rs p n F)(n0:0<=n)(n1:n<=16){r:Row}(hr:r∈rs)(hw:∀r∈rs,r.1=p->r.2.1≠1/\0<=r.2.1/\r.2.1 < n):gD rs p n (bJ p F r):=by
 unfold K1.bJ
 split
 ·rename_i hc
  rw [Bool.and_eq_true] at hc
  have hp:r.1=p:=of_decide_eq_true hc.1
  obtain ⟨x,hx⟩:=Option.isSome_iff_exists.mp hc.2
  have hxv:=h.val _ _ hx
  have hle:=h.le n0
  obtain ⟨w1,w2,w3⟩:=hw r hr hp
  rw [hx]
  simp only [Option.getD_some]
  cases hf:bL F r.2.1 with
  | none=>
    simp only [Option.getD_none]
    rw [if_pos (by omega)]
    have hnk:r.2.1∉F.map (·.1):=λz=>by
     have:=fh.mpr z
     rw [hf] at this;cases this
    have kk:(eG F r.2.1 (x + 1)).map (·.1)=F.map (·.1)++[r.2.1]:=by rw [iu,hf];rfl
    have ll:(eG F r.2.1 (x + 1)).length=F.length + 1:=by
     have:=congrArg List.length kk
     simpa using this
    refine ⟨by rw [kk];exact eT h.nd hnk,by rw [gg,if_neg (Ne.symm w1)];exact h.one,λk hk=>?_,λk d hd=>?_⟩
    ·rw [kk] at hk
     rcases List.mem_append.mp hk with q | q
     ·exact h.bd k q
     ·rw [List.mem_singleton.mp q];exact ⟨w2,w3⟩
    ·rw [ll]
     rw [gg] at hd
     have keep:∀j e,bL F j=some e->bL (eG F r.2.1 (x + 1)) j=some e:=λj e hj=>by
      rw [gg,if_neg (λz=>by rw [z,hf] at hj;cases hj)];exact hj
     by_cases e:k=r.2.1
     ·rw [if_pos e] at hd
      cases hd
      exact ⟨by omega,by push_cast;omega,.inr ⟨r,hr,hp,e.symm,x,keep _ _ hx,by omega⟩⟩
     ·rw [if_neg e] at hd
      obtain ⟨a,b,c⟩:=h.val k d hd
      refine ⟨a,by push_cast;omega,c.imp_right λ⟨q,hq,q1,q2,d',q3,q4⟩=>⟨q,hq,q1,q2,d',keep _ _ q3,q4⟩⟩
  | some d0=>
    simp only [Option.getD_some]
    have kk:∀m,(eG F r.2.1 m).map (·.1)=F.map (·.1):=λm=>by rw [iu,hf];rfl
    have ll:∀m,(eG F r.2.1 m).length=F.length:=λm=>by
     have:=congrArg List.length (kk m)
     simpa using this
    have d0v:=h.val _ _ hf
    generalize hm:(if x + 1 < d0 then x + 1 else d0)=m
    have hmd:m<=d0:=by rw [← hm];split<;>omega
    refine ⟨by rw [kk];exact h.nd,by rw [gg,if_neg (Ne.symm w1)];exact h.one,λk hk=>by rw [kk] at hk;exact h.bd k hk,λk d hd=>?_⟩
    rw [ll]
    -- a value stands,or is less
    have keep:∀j e,bL F j=some e->∃e',bL (eG F r.2.1 m) j=some e'/\e'<=e:=λj e hj=>by
     rw [gg]
     by_cases z:j=r.2.1
     ·rw [if_pos z]
      rw [z,hf] at hj
      cases hj
      exact ⟨m,rfl,hmd⟩
     ·rw [if_neg z];exact ⟨e,hj,Int.le_refl _⟩
    have stay:∀{j e},(∃q∈rs,q.1=p/\q.2.1=j/\∃d',bL F q.2.2.1=some d'/\d' < e)->∃q∈rs,q.1=p/\q.2.1=j/\∃d',bL (eG F r.2.1 m) q.2.2.1=some d'/\d' < e:=λ{j e} ⟨q,hq,q1,q2,d',q3,q4⟩=>by
     obtain ⟨e',k1,k2⟩:=keep _ _ q3
     exact ⟨q,hq,q1,q2,e',k1,by omega⟩
    rw [gg] at hd
    by_cases e:k=r.2.1
    ·rw [if_pos e] at hd
     cases hd
     by_cases z:x + 1 < d0
     ·rw [if_pos z] at hm
      subst hm
      obtain ⟨e',k1,k2⟩:=keep _ _ hx
      exact ⟨by omega,by omega,.inr ⟨r,hr,hp,e.symm,e',k1,by omega⟩⟩
     ·rw [if_neg z] at hm
      subst hm
      refine ⟨d0v.1,d0v.2.1,d0v.2.2.elim (λq=>absurd q w1) λq=>.inr ?_⟩
      rw [e];exact stay q
    ·rw [if_neg e] at hd
     obtain ⟨a,b,c⟩:=h.val k d hd
     exact ⟨a,b,c.imp_right stay⟩
 ·exact h
theorem gD.fold (n0:0<=n)(n1:n<=16)(hw:∀r∈rs,r.1=p->r.2.1≠1/\0<=r.2.1/\r.2.1 < n):∀(l:List Row) (F:List (Int×Int)),(∀r∈l,r∈rs)->gD rs p n F->gD rs p n (l.foldl (K1.bJ p) F)
 | [],F,_,h=>h
 | r::l,F,hl,h=>gD.fold n0 n1 hw l _ (λq hq=>hl q (List.mem_cons_of_mem _ hq)) (h.bJ n0 n1 (hl r List.mem_cons_self) hw)
theorem mX (p:Int)(F:List (Int×Int))(r:Row):(bJ p F r).map (·.1)=F.map (·.1)∨(r.1=p/\r.2.2.1∈F.map (·.1)/\r.2.1∉F.map (·.1)/\(bJ p F r).map (·.1)=F.map (·.1)++[r.2.1]):=by
 unfold bJ
 split
 ·rename_i hc
  rw [Bool.and_eq_true] at hc
  rw [iu]
  split
  ·exact .inl rfl
  ·rename_i hn
   exact .inr ⟨of_decide_eq_true hc.1,fh.mp hc.2,λz=>hn (fh.mpr z),rfl⟩
 ·exact .inl rfl
theorem uy (p:Int)(F:List (Int×Int))(r:Row)(hp:r.1=p)(ht:r.2.2.1∈F.map (·.1)):r.2.1∈(bJ p F r).map (·.1):=by
 unfold bJ
 rw [if_pos (by rw [Bool.and_eq_true];exact ⟨decide_eq_true hp,fh.mpr ht⟩),iu]
 split
 ·rename_i h;exact fh.mp h
 ·exact List.mem_append_right _ (List.mem_singleton.mpr rfl)
theorem nQ (p:Int):∀(l:List Row) (F:List (Int×Int)),(∀k∈F.map (·.1),k∈(l.foldl (bJ p) F).map (·.1))/\F.length<=(l.foldl (bJ p) F).length/\
 ((l.foldl (bJ p) F).length=F.length->(l.foldl (bJ p) F).map (·.1)=F.map (·.1)/\∀r∈l,r.1=p->r.2.2.1∈F.map (·.1)->r.2.1∈F.map (·.1))
 | [],F=>⟨λ_ h=>h,Nat.le_refl _,λ_=>⟨rfl,λr hr=>by cases hr⟩⟩
 | r::l,F=>by
   obtain ⟨h1,h2,h3⟩:=nQ p l (bJ p F r)
   rw [List.foldl_cons]
   rcases mX p F r with e | ⟨e1,e2,e3,e4⟩
   ·have el:(bJ p F r).length=F.length:=by have:=congrArg List.length e;simpa using this
    rw [e] at h1 h3
    rw [el] at h2 h3
    refine ⟨h1,h2,λz=>?_⟩
    obtain ⟨a,b⟩:=h3 z
    refine ⟨a,λq hq hp ht=>?_⟩
    rcases List.mem_cons.mp hq with rfl | hq
    ·have:=uy p F q hp ht
     rwa [e] at this
    ·exact b q hq hp ht
   ·have el:(bJ p F r).length=F.length + 1:=by have:=congrArg List.length e4;simpa using this
    rw [e4] at h1
    refine ⟨λk hk=>h1 k (List.mem_append_left _ hk),by omega,λz=>by omega⟩
theorem tM {v:ax}(h:ba v){i:Nat}(hi:v.1[i]?=some n):gD v.2 i n (a9 v.2 i n.toNat)/\∀k,0<=k->k < n->k∈(a9 v.2 i n.toNat).map (·.1):=by
 have nb:=h.sz n (List.mem_of_getElem? hi)
 have hw:∀r∈v.2,r.1=(i:Int)->r.2.1≠1/\0<=r.2.1/\r.2.1 < n:=λr hr hp=>by
  have q:=h.eW hr
  have e:v.1.getD r.1.toNat 0=n:=by rw [hp,List.getD_eq_getElem?_getD,show ((i:Int)).toNat=i by omega,hi];rfl
  have q1:=q.sn;rw [e] at q1
  exact ⟨q.s1,q.s0,q1⟩
 have g:∀t,gD v.2 i n (a9 v.2 i t):=λt=>by
  induction t with
  | zero=>
    refine ⟨by simp [a9],rfl,λk hk=>?_,λk d hd=>?_⟩
    ·have:k=1:=by simpa [a9] using hk
     omega
    ·have e:bL (a9 v.2 i 0) k=if k=1 then some 0 else none:=by
      unfold a9 bL
      by_cases z:k=1
      ·subst z;rfl
      ·rw [if_neg z,List.find?_cons,decide_eq_false (λq=>z q.symm)];rfl
     rw [e] at hd
     by_cases z:k=1
     ·rw [if_pos z] at hd;cases hd
      exact ⟨Int.le_refl _,by show (0:Int) < 1;decide,.inl z⟩
     ·rw [if_neg z] at hd;cases hd
  | succ t ih=>exact gD.fold (by omega) nb.2 hw v.2 _ (λ_ h=>h) ih
 have clo:∀t:Nat,(∀r∈v.2,r.1=(i:Int)->r.2.2.1∈(a9 v.2 i t).map (·.1)->r.2.1∈(a9 v.2 i t).map (·.1))∨t + 1<=(a9 v.2 i t).length:=λt=>by
  induction t with
  | zero=>exact .inr (Nat.le_refl _)
  | succ t ih=>
    obtain ⟨h1,h2,h3⟩:=nQ (i:Int) v.2 (a9 v.2 i t)
    rcases ih with q | q
    ·-- closed:nothing comes
     have key:∀(l:List Row) (G:List (Int×Int)),(∀r∈l,r∈v.2)->G.map (·.1)=(a9 v.2 i t).map (·.1)->(l.foldl (bJ i) G).map (·.1)=(a9 v.2 i t).map (·.1):=by
      intro l
      induction l with
      | nil=>intro G _ e;exact e
      | cons r l ihl=>
        intro G hl e
        refine ihl _ (λq hq=>hl q (List.mem_cons_of_mem _ hq)) ?_
        rcases mX (i:Int) G r with z | ⟨z1,z2,z3,_⟩
        ·rw [z];exact e
        ·rw [e] at z2 z3
         exact absurd (q r (hl r List.mem_cons_self) z1 z2) z3
     have e:=key v.2 (a9 v.2 i t) (λ_ h=>h) rfl
     left
     show∀r∈v.2,r.1=(i:Int)->r.2.2.1∈(v.2.foldl (bJ i) (a9 v.2 i t)).map (·.1)->r.2.1∈(v.2.foldl (bJ i) (a9 v.2 i t)).map (·.1)
     rw [e];exact q
    ·by_cases z:(v.2.foldl (bJ (i:Int)) (a9 v.2 i t)).length=(a9 v.2 i t).length
     ·obtain ⟨a,b⟩:=h3 z
      left
      show∀r∈v.2,r.1=(i:Int)->r.2.2.1∈(v.2.foldl (bJ i) (a9 v.2 i t)).map (·.1)->r.2.1∈(v.2.foldl (bJ i) (a9 v.2 i t)).map (·.1)
      rw [a];exact b
     ·right
      show t + 1 + 1<=(v.2.foldl (bJ i) (a9 v.2 i t)).length
      omega
 have hg:=g n.toNat
 have hle:=hg.le (by omega)
 refine ⟨hg,λk k0 k1=>?_⟩
 rcases clo n.toNat with q | q
 ·refine Reach.sub (P:=λk=>k∈(a9 v.2 i n.toNat).map (·.1)) (fh.mp (by rw [hg.one];rfl)) (λa b ha hab=>?_) (h.toEnd hi k0 k1)
  obtain ⟨r,hr,e0,e1,e2⟩:=nv.mp hab
  rw [← e2]
  exact q r hr e0 (by rw [e1];exact ha)
 ·omega
end
end K1
namespace Fc
open PySem PySem.Spec L2
open PyProof.Rows hiding St
section
variable {X:Cx}{Γ Γ1 Γ2 Γ3:Ga}{α β γ δ:Type}{N:Ga->Prop}{T:RT}
theorem pU {e:Expr}{pos:Pos}{r:Rep α}{y:α}(he:EV X e Γ r y Γ1)(h:N Γ1)(hsw:autoParam (swapsWith e none pos.line X.env=pure false) Fc.ag):W1 X (.Expr e pos) Γ N T:=λσ H0 R0 H R E D dn dr=>
 sS (d5 aI hsw) (he σ H0 R0 H R E _ λv H1 R1 E1 s1 e1=>dn σ H1 R1 _ E1 s1 h)
end
section
variable {α:Type}
theorem eo {xs:List α}{y:α}(h:xs[xs.length - 1]?=some y):bW xs (-1)=some y:=by
 have hl:0 < xs.length:=by
  have:=(List.getElem?_eq_some_iff.mp h).1
  omega
 unfold bW dO
 rw [if_neg (by omega),if_pos (by omega)]
 show xs[((-1:Int) + (xs.length:Int)).toNat]?=_
 rw [show ((-1:Int) + (xs.length:Int)).toNat=xs.length - 1 by omega];exact h
theorem lC (xs:List α):cut xs none (some (-1))=xs.dropLast:=by
 have e:HT.sIx xs.length xs.length (some (-1))=xs.length - 1:=by
  show (if (-1:Int) < 0 then ((-1:Int) + (xs.length:Int)).toNat else min (-1:Int).toNat xs.length)=xs.length - 1
  rw [if_pos (by omega)];omega
 unfold cut
 rw [e,List.dropLast_eq_take]
 rfl
theorem fO {xs:List α}(h:xs≠[]):xs.dropLast++[xs.getLast h]=xs:=List.dropLast_concat_getLast h
end
end Fc
namespace K1
open PySem L2 Fc
open PySem.Spec hiding Row
open PyProof.Rows hiding St
open PySem.Builtin.Int (intBits)
abbrev cU:=List (Int×Int)
abbrev jh:Row:=(0,0,0,0)
theorem fE {α:Type}{xs:List α}{i:Int}(d:α)(h0:0<=i)(h1:i < xs.length):bW xs i=some (xs.getD i.toNat d):=by
 rw [eD h0 h1,List.getElem?_eq_getElem (by omega),List.getD_eq_getElem?_getD,List.getElem?_eq_getElem (by omega)];rfl
theorem aE {n:Nat}(h:n<=1000000):n<=sizeLine:=Nat.le_trans h (by decide)
def trim (st:cU):cU:=(st.reverse.dropWhile λt=>decide (t.2=1)).reverse
def rowOf (v:ax)(k:Int):Row:=v.2.getD k.toNat jh
def push (v:ax)(st:cU)(k:Int):cU:=if 0<=(rowOf v k).2.2.2 then (st.dropLast++[((rowOf v k).1,(rowOf v k).2.2.1)])++[((rowOf v k).2.2.2,0)] else st.dropLast++[((rowOf v k).1,(rowOf v k).2.2.1)]
def cE (v:ax)(st:cU)(k:Int):cU:=trim (push v st k)
theorem ij:trim []=[]:=rfl
theorem jD {st:cU}(h:st≠[])(e:(st.getLast h).2=1):trim st=trim st.dropLast:=by
 have e1:st.reverse=st.getLast h::st.dropLast.reverse:=by
  have:=congrArg List.reverse (fO h)
  rw [← this];simp
 unfold trim
 rw [e1,List.dropWhile_cons,if_pos (decide_eq_true e)]
theorem ir {st:cU}(h:st≠[])(e:(st.getLast h).2≠1):trim st=st:=by
 have e1:st.reverse=st.getLast h::st.dropLast.reverse:=by
  have:=congrArg List.reverse (fO h)
  rw [← this];simp
 unfold trim
 rw [e1,List.dropWhile_cons,if_neg (by simpa using e),← e1,List.reverse_reverse]
section
variable {P:Program}{w:World}{K:PySem.W.Frag}{mg:Str->Option Value}{base:Heap}{f:Addr}{fd:FuncData}
abbrev rD:Stmt:=top nk
abbrev xJ:List Str:=["_law_web_here","_law_stack_here","_law_k"]
theorem Bm:aC xJ xJ (ai rD):=⟨rfl,rfl,rfl,by decide +kernel,rfl,by decide +kernel,by decide +kernel⟩
def SBH:cq:=λK ps T=>∃(v:ax) (st:cU) (k:Int),ps=[⟨bx,v⟩,⟨af bX,st⟩,⟨ae,k⟩]/\0<=k/\k < (v.2.length:Int)/\st.length<=1000/\T=bE K (af bX) (· =cE v st k)
theorem DC (M:bO mg)(F:bH K "_law_behind" "_law_behind" rD f fd)(hm:mg "_law_behind"=some (.ref f))(hb:Binds K fd xJ []):aF P w K mg base "_law_behind" 1 (aQ SBH K):=by
 have nd:=Bm.nd
 refine bD F Bm hm hb (λqs T ⟨_,_,_,e,_⟩=>by rw [e];rfl) (λcdv A outer s H E qs T hr hS=>?_)
 obtain ⟨v,st,k,rfl,k0,k1,hl,rfl⟩:=hS
 change WS _ _ [.im (ay (af ae) (af aB)) v,.im (af bX) st,.im ae k] _ _
 have hk:bW v.2 k=some (rowOf v k):=fE jh k0 k1
 have hdl:st.dropLast.length<=1000:=by rw [List.length_dropLast];omega
 refine aj (bG 1 (f7 (bc.im (fD (aa 1 rfl) gU (gT (cO ak)))) (bc.im (aN (aZ (cg (ah (dS (aP (aJ (aa 0 rfl)) (aa 2 rfl) hk)) (ah (c3 (aP (aJ (aa 0 rfl)) (aa 2 rfl) hk)) aw))) aY) (by show 1<=sizeLine;decide))) (aE (by have:=eP st none (some (-1));simp;omega))) ?_)
 rw [lC]
 have two:∀(s2:cU),s2.length<=1002->push v st k=s2->WS (cL dQ P w K mg base xJ "_law_behind" (ai rD) f cdv A outer s H E).c8 ((br rD).drop 2) [.im (ay (af ae) (af aB)) v,.mu bX s2,.im ae k] (λ_=>False) (bE K (af bX) (· =cE v st k)):=by
  intro s2 hl2 he
  refine aj (fq (λm Γ=>∃s3:cU,Γ=[.im (ay (af ae) (af aB)) v,.mu bX s3,.im ae k]/\m=s3.length/\s3.length<=1002/\trim s3=cE v st k) (m0:=s2.length) ⟨s2,rfl,rfl,hl2,by rw [← he];rfl⟩ ?_)
  rintro m Γ ⟨s3,rfl,rfl,hl3,ht⟩
  by_cases hne:s3=[]
  ·subst hne
   refine ⟨_,_,TW.tv (dy (y:=false) (aA gj (eO 1 M.len rfl) ak) (λh=>absurd h (by decide))),λh=>absurd h (by decide),λ_=>?_⟩
   exact ao (bg (cI 1 rfl (by decide)) (by rw [← ht,ij]))
  ·have hpos:0 < s3.length:=List.length_pos_iff.mpr hne
   have hlast:s3[s3.length - 1]?=some (s3.getLast hne):=by rw [List.getLast_eq_getElem];exact List.getElem?_eq_getElem _
   refine ⟨_,_,TW.tv (dy (aA gj (eO 1 M.len rfl) ak) (λ_=>dZ (aA bI (aJ (dh 1 (cO ak) rfl rfl (eo hlast))) ak))),λh=>?_,λh=>?_⟩
   ·rw [Bool.and_eq_true] at h
    have h1:(s3.getLast hne).2=1:=of_decide_eq_true h.2
    refine ao (pU (j8 1 rfl hlast) ?_)
    exact ⟨s3.dropLast.length,by rw [List.length_dropLast];omega,s3.dropLast,rfl,rfl,by rw [List.length_dropLast];omega,by rw [← jD hne h1];exact ht⟩
   ·have h1:(s3.getLast hne).2≠1:=by
     rw [Bool.and_eq_false_iff] at h
     rcases h with z | z
     ·exact absurd (show (0:Int) < (s3.length:Int) by omega) (of_decide_eq_false z)
     ·exact of_decide_eq_false z
    exact ao (bg (cI 1 rfl (aE (by omega))) (by rw [← ht,ir hne h1]))
 refine aj (bh (aA kn (du (aP (aJ (aa 0 rfl)) (aa 2 rfl) hk)) ak) (λh=>?_) (λh=>aV ?_))
 ·have h:0<=(rowOf v k).2.2.2:=of_decide_eq_true h
  refine ao (cw 1 (cg (ah (du (aP (aJ (aa 0 rfl)) (aa 2 rfl) hk)) (ah ak aw))) rfl rfl (Nat.lt_of_le_of_lt (show _<=1001 by simp;omega) (by decide)) ?_)
  exact two _ (by simp;omega) (by rw [push,if_pos h])
 ·have h:¬0<=(rowOf v k).2.2.2:=of_decide_eq_false h
  exact two _ (by simp;omega) (by rw [push,if_neg h])
end
section
variable {v:ax}{st:cU}
structure pQ (v:ax) (st:cU) (k:Int):Prop where
 k0:0<=k
 k1:k < (v.2.length:Int)
 ne:st≠[]
 at_:st.getLast ne=((rowOf v k).1,(rowOf v k).2.1)
inductive Goes (v:ax):List Int->cU->Prop
 | nil:Goes v [] [(0,0)]
 | snoc {rows:List Int} {st:cU} {k:Int}:Goes v rows st->pQ v st k->Goes v (rows++[k]) (cE v st k)
structure lB (v:ax) (st:cU):Prop where
 bd:∀t∈st,0<=t.1/\t.1 < (v.1.length:Int)/\0<=t.2/\t.2 < v.1.getD t.1.toNat 0
 up:st.Pairwise λa b=>a.1 < b.1
 top:∀h:st≠[],(st.getLast h).2≠1
theorem lu:∀(n:Nat) (st:cU),st.length=n->∃s',st=trim st++s'/\(∀t∈s',t.2=1)/\∀h:trim st≠[],((trim st).getLast h).2≠1
 | 0,st,hn=>by
   have:st=[]:=List.length_eq_zero_iff.mp hn
   subst this
   rw [ij]
   exact ⟨[],rfl,by simp,λh=>absurd rfl h⟩
 | n + 1,st,hn=>by
   have hne:st≠[]:=λe=>by rw [e] at hn;simp at hn
   by_cases e:(st.getLast hne).2=1
   ·obtain ⟨s',h1,h2,h3⟩:=lu n st.dropLast (by rw [List.length_dropLast,hn];rfl)
    rw [jD hne e]
    refine ⟨s'++[st.getLast hne],?_,λt ht=>?_,h3⟩
    ·rw [← List.append_assoc,← h1];exact (fO hne).symm
    ·rcases List.mem_append.mp ht with q | q
     ·exact h2 t q
     ·rw [List.mem_singleton.mp q];exact e
   ·rw [ir hne e]
    exact ⟨[],by simp,by simp,λ_=>e⟩
theorem lB.behind (hv:ba v)(h:lB v st){k:Int}(c:pQ v st k):lB v (cE v st k):=by
 have hrm:rowOf v k∈v.2:=by
  unfold rowOf
  have k0:=c.k0;have k1:=c.k1
  rw [List.getD_eq_getElem?_getD,List.getElem?_eq_getElem (by omega)]
  exact List.getElem_mem _
 have q:=hv.eW hrm
 have sp:st=st.dropLast++[((rowOf v k).1,(rowOf v k).2.1)]:=by rw [← c.at_];exact (fO c.ne).symm
 generalize hr:rowOf v k=r at *
 have pd:st.dropLast.Pairwise λa b=>a.1 < b.1:=by
  have:=h.up;rw [sp] at this;exact (List.pairwise_append.mp this).1
 have lt:∀a∈st.dropLast,a.1 < r.1:=λa ha=>by
  have:=h.up;rw [sp] at this
  exact (List.pairwise_append.mp this).2.2 a ha _ (List.mem_singleton.mpr rfl)
 have bd':∀t∈push v st k,0<=t.1/\t.1 < (v.1.length:Int)/\0<=t.2/\t.2 < v.1.getD t.1.toNat 0:=by
  intro t ht
  have old:∀t∈st.dropLast++[(r.1,r.2.2.1)],0<=t.1/\t.1 < (v.1.length:Int)/\0<=t.2/\t.2 < v.1.getD t.1.toNat 0:=λt ht=>by
   rcases List.mem_append.mp ht with z | z
   ·exact h.bd t (List.dropLast_subset _ z)
   ·rw [List.mem_singleton.mp z];exact ⟨q.p0,q.p1,q.e0,q.en⟩
  unfold push at ht
  rw [hr] at ht
  split at ht
  ·rename_i hc
   rcases List.mem_append.mp ht with z | z
   ·exact old t z
   ·rw [List.mem_singleton.mp z]
    have c1:=q.c1
    refine ⟨hc,c1,Int.le_refl _,?_⟩
    show (0:Int) < v.1.getD r.2.2.2.toNat 0
    have:v.1.getD r.2.2.2.toNat 0∈v.1:=by
     rw [List.getD_eq_getElem?_getD,List.getElem?_eq_getElem (by omega)];exact List.getElem_mem _
    have:=hv.sz _ this
    omega
  ·exact old t ht
 have up':(push v st k).Pairwise λa b=>a.1 < b.1:=by
  have old:(st.dropLast++[(r.1,r.2.2.1)]).Pairwise λa b=>a.1 < b.1:=List.pairwise_append.mpr ⟨pd,List.pairwise_singleton _ _,λa ha b hb=>by rw [List.mem_singleton.mp hb];exact lt a ha⟩
  unfold push
  rw [hr]
  split
  ·rename_i hc
   refine List.pairwise_append.mpr ⟨old,List.pairwise_singleton _ _,λa ha b hb=>?_⟩
   rw [List.mem_singleton.mp hb]
   have cp:=q.cp
   have rc:r.1 < r.2.2.2:=by omega
   rcases List.mem_append.mp ha with z | z
   ·have:=lt a z;show a.1 < r.2.2.2;omega
   ·rw [List.mem_singleton.mp z];exact rc
  ·exact old
 obtain ⟨s',h1,h2,h3⟩:=lu _ (push v st k) rfl
 refine ⟨λt ht=>bd' t (by rw [h1];exact List.mem_append_left _ ht),?_,h3⟩
 rw [h1] at up'
 exact (List.pairwise_append.mp up').1
theorem Goes.good (hv:ba v){rows:List Int}(h:Goes v rows st):lB v st:=by
 induction h with
 | nil=>
   have pl:=hv.pl
   refine ⟨λt ht=>?_,List.pairwise_singleton _ _,λh=>by simp⟩
   rw [List.mem_singleton.mp ht]
   have:v.1.getD 0 0∈v.1:=by
    rw [List.getD_eq_getElem?_getD,List.getElem?_eq_getElem (by omega)];exact List.getElem_mem _
   have:=hv.sz _ this
   exact ⟨Int.le_refl _,by show (0:Int) < _;omega,Int.le_refl _,by show (0:Int) < v.1.getD 0 0;omega⟩
 | snoc _ c ih=>exact ih.behind hv c
theorem lB.len (hv:ba v)(h:lB v st):st.length<=4:=by
 have nd:(st.map (·.1)).Nodup:=by
  have:=h.up
  rw [List.Nodup,List.pairwise_map]
  exact this.imp λhh=>by omega
 have:=et nd (ys:=ups 0 v.1.length) λx hx=>by
  obtain ⟨t,ht,rfl⟩:=List.mem_map.mp hx
  have:=h.bd t ht
  exact bz.mpr (by omega)
 rw [au,List.length_map] at this
 have:=hv.pl
 omega
theorem ju:∀(ns:List Int),ns≠[]->least ns∈ns/\∀a∈ns,least ns<=a
 | [],h=>absurd rfl h
 | [x],_=>by simp [least]
 | x::y::r,_=>by
   obtain ⟨h1,h2⟩:=ju (y::r) (by simp)
   have e:least (x::y::r)=min x (least (y::r)):=rfl
   rw [e]
   refine ⟨?_,λa ha=>?_⟩
   ·rcases Int.le_total x (least (y::r)) with h | h
    ·rw [Int.min_eq_left h];exact List.mem_cons_self
    ·rw [Int.min_eq_right h];exact List.mem_cons_of_mem _ h1
   ·rcases List.mem_cons.mp ha with rfl | ha
    ·exact Int.min_le_left _ _
    ·exact Int.le_trans (Int.min_le_right _ _) (h2 a ha)
def gM (v:ax):List (List (Int×Int)):=((ups 0 v.1.length).filter λ_=>true).map λp=>a9 v.2 p (v.1.getD p.toNat 0).toNat
def farAt (v:ax)(p k:Int):Int:=(bL (a9 v.2 p (v.1.getD p.toNat 0).toNat) k).getD 0
theorem oS {p:Int}(h0:0<=p)(h1:p < (v.1.length:Int)):bW (gM v) p=some (a9 v.2 p (v.1.getD p.toNat 0).toNat):=by
 have hl:(gM v).length=v.1.length:=by unfold gM;rw [List.length_map,List.filter_eq_self.mpr (by simp),au]
 rw [eD h0 (by rw [hl];exact h1)]
 unfold gM
 rw [List.filter_eq_self.mpr (by simp),List.getElem?_map]
 unfold ups
 rw [List.getElem?_map,List.getElem?_range (by omega)]
 simp
 rw [show max p 0=p by omega]
structure FU (v:ax) (p:Int):Prop where
 get:∀k,0<=k->k < v.1.getD p.toNat 0->bL (a9 v.2 p (v.1.getD p.toNat 0).toNat) k=some (farAt v p k)
 one:farAt v p 1=0
 bd:∀k,0<=k->k < v.1.getD p.toNat 0->0<=farAt v p k/\farAt v p k<=15
 less:∀k,0<=k->k < v.1.getD p.toNat 0->k≠1->∃r∈v.2,r.1=p/\r.2.1=k/\farAt v p r.2.2.1 < farAt v p k
theorem pz (h:ba v){p:Int}(p0:0<=p)(p1:p < (v.1.length:Int)):FU v p:=by
 obtain ⟨n,hn⟩:∃n,v.1[p.toNat]?=some n:=⟨_,List.getElem?_eq_getElem (by omega)⟩
 have e:v.1.getD p.toNat 0=n:=by rw [List.getD_eq_getElem?_getD,hn];rfl
 have ep:((p.toNat:Nat):Int)=p:=by omega
 obtain ⟨g,all⟩:=tM h hn
 rw [ep] at g all
 have nb:=h.sz n (List.mem_of_getElem? hn)
 have hle:=g.le (by omega)
 have hget:∀k,0<=k->k < n->bL (a9 v.2 p n.toNat) k=some (farAt v p k):=λk k0 k1=>by
  have:=fh.mpr (all k k0 k1)
  obtain ⟨d,hd⟩:=Option.isSome_iff_exists.mp this
  unfold farAt
  rw [e,hd];rfl
 refine ⟨by rw [e];exact hget,by unfold farAt;rw [e,g.one];rfl,λk k0 k1=>?_,λk k0 k1 hk=>?_⟩
 ·rw [e] at k1
  have:=g.val k _ (hget k k0 k1)
  omega
 ·rw [e] at k1
  rcases (g.val k _ (hget k k0 k1)).2.2 with z | ⟨r,hr,e1,e2,d',e3,e4⟩
  ·exact absurd z hk
  ·refine ⟨r,hr,e1,e2,?_⟩
   have:farAt v p r.2.2.1=d':=by unfold farAt;rw [e,e3];rfl
   omega
end
section
variable {P:Program}{w:World}{K:PySem.W.Frag}{mg:Str->Option Value}{base:Heap}{f:Addr}{fd:FuncData}
abbrev p6:Stmt:=top my
abbrev xO:List Str:=["_law_web_here","_law_stack_here","_law_short","_law_fars","_law_part_here","_law_place","_law_some","_law_least"]
theorem Ca:aC xO ["_law_web_here","_law_stack_here","_law_short","_law_fars"] (ai p6):=⟨rfl,rfl,rfl,by decide +kernel,rfl,by decide +kernel,by decide +kernel⟩
structure BS (v:ax) (t:Int×Int) (short:Bool) (L:List Int):Prop where
 ne:L≠[]
 len:L.length<=v.2.length
 row:∀k∈L,0<=k/\k < (v.2.length:Int)/\((rowOf v k).1,(rowOf v k).2.1)=t
 less:short=true->∀k∈L,farAt v t.1 (rowOf v k).2.2.1 < farAt v t.1 t.2
def EH:cq:=λK ps T=>∃(v:ax) (st:cU) (short:Bool) (t:Int×Int),ps=[⟨bx,v⟩,⟨af bX,st⟩,⟨aR,short⟩,⟨af lW,gM v⟩]/\ba v/\st[st.length - 1]?=some t/\0<=t.1/\t.1 < (v.1.length:Int)/\0<=t.2/\t.2 < v.1.getD t.1.toNat 0/\t.2≠1/\T=bE K (af ae) (BS v t short)
def cA (v:ax)(t:Int×Int):List Int:=((ups 0 v.2.length).filter λk=>decide (((rowOf v k).1,(rowOf v k).2.1)=t)).map id
theorem dm {v:ax}{t:Int×Int}{k:Int}:k∈cA v t↔0<=k/\k < (v.2.length:Int)/\((rowOf v k).1,(rowOf v k).2.1)=t:=by
 unfold cA
 rw [List.map_id,List.mem_filter,bz,decide_eq_true_eq,and_assoc]
theorem nO {v:ax}{r:Row}(hr:r∈v.2):∃k,rowOf v k=r/\k∈cA v (r.1,r.2.1):=by
 obtain ⟨j,hj⟩:=List.mem_iff_getElem?.mp hr
 have e:rowOf v (j:Int)=r:=by unfold rowOf;rw [List.getD_eq_getElem?_getD,show ((j:Int)).toNat=j by omega,hj];rfl
 have:=(List.getElem?_eq_some_iff.mp hj).1
 exact ⟨j,e,dm.mpr ⟨by omega,by omega,by rw [e]⟩⟩
theorem Cv (M:bO mg)(F:bH K "_law_leaving" "_law_leaving" p6 f fd)(hm:mg "_law_leaving"=some (.ref f))(hb:Binds K fd ["_law_web_here","_law_stack_here","_law_short","_law_fars"] []):aF P w K mg base "_law_leaving" 1 (aQ EH K):=by
 have nd:=Ca.nd
 have nd1:List.Nodup [("_law_k":Str),"_law_part_here","_law_place","_law_web_here"]:=by decide
 have nd2:List.Nodup [("_law_k":Str),"_law_fars","_law_part_here","_law_web_here"]:=by decide
 have nd3:List.Nodup [("_law_k":Str),"_law_fars","_law_least","_law_part_here","_law_web_here"]:=by decide
 refine bD F Ca hm hb (λqs T ⟨_,_,_,_,e,_⟩=>by rw [e];rfl) (λcdv A outer s H E qs T hr hS=>?_)
 obtain ⟨v,st,short,t,rfl,hv,hlast,t0,t1,t2,t3,t4,rfl⟩:=hS
 have hu:=oH hr
 have rl:=hv.rl
 have fp:=pz hv t0 t1
 change WS _ _ [.im (ay (af ae) (af aB)) v,.im (af bX) st,.im aR short,.im (af lW) (gM v),.no,.no,.no,.no] _ _
 refine aj (xS (aP (r:=bX) (aa 1 rfl) (cO ak) (eo hlast)) (dC 4 5) ?_)
 have hk:∀k:Int,0<=k->k < (v.2.length:Int)->bW v.2 k=some (rowOf v k):=λk k0 k1=>fE jh k0 k1
 refine aj (fI 6 (own:=["_law_k"]) (fr:=["_law_part_here","_law_place","_law_web_here"]) (ix:=[4,5,0]) (ra:=ae) (rb:=ae) (p:=λk=>decide (((rowOf v k).1,(rowOf v k).2.1)=t)) (f:=id) (bb (so:=ai p6) (N0:=xO) rfl rfl (λx h=>aT h) (by decide +kernel)) (bB M.range (aM M.len (aJ (aa 0 rfl))) ⟨by omega,by omega⟩)
  (λC s H ex=>aG 0) (λx=>⟨.inr rfl,.inl rfl,.inl rfl,.inl rfl,trivial⟩)
  (λC s H ex x hx=>eX (aA (y:=t) (xG eq_int eq_int hu hu) (lh (aP (aJ (aa 3 rfl)) (aa 0 rfl) (hk x (by have:=bz.mp hx;omega) (by have:=bz.mp hx;omega)))) (cg (ah (aa 1 rfl) (ah (aa 2 rfl) aw)))))
  (λC s H ex x hx _=>aa 0 rfl) ?_)
 have el:((v.2.length:Int)).toNat=v.2.length:=by omega
 rw [el]
 change WS _ _ [_,_,_,_,_,_,.mu ae (cA v t),_] _ _
 have l0:(cA v t).length<=v.2.length:=by
  unfold cA
  rw [List.length_map]
  refine Nat.le_trans (List.length_filter_le _ _) ?_
  rw [au];exact Nat.le_refl _
 -- one that comes nearer
 obtain ⟨r0,hr0,a1,a2,a3⟩:=fp.less t.2 t2 t3 t4
 obtain ⟨k0,ek0,hk0⟩:=nO hr0
 rw [a1,a2] at hk0
 have hne:cA v t≠[]:=λe=>by rw [e] at hk0;cases hk0
 have hfar:∀k∈cA v t,bL (a9 v.2 t.1 (v.1.getD t.1.toNat 0).toNat) (rowOf v k).2.2.1=some (farAt v t.1 (rowOf v k).2.2.1):=λk hkm=>by
  obtain ⟨b0,b1,b2⟩:=dm.mp hkm
  have hrm:rowOf v k∈v.2:=by
   unfold rowOf
   rw [List.getD_eq_getElem?_getD,List.getElem?_eq_getElem (by omega)]
   exact List.getElem_mem _
  have q:=hv.eW hrm
  have e1:(rowOf v k).1=t.1:=by rw [← b2]
  refine fp.get _ q.e0 ?_
  rw [← e1];exact q.en
 refine aj (bh (cc (aa 2 rfl)) (λh=>?_) (λh=>aV ?_))
 ·refine aj (bo 7 (m4 M.min (bc.im (bN (own:=["_law_k"]) (fr:=["_law_fars","_law_part_here","_law_web_here"]) (ix:=[3,4,0]) (ra:=ae) (rb:=ae) (p:=λ_=>true) (f:=λk=>farAt v t.1 (rowOf v k).2.2.1) (bb (so:=ai p6) (N0:=xO) rfl rfl (λx h=>aT h) (by decide +kernel)) (bj (cI 6 rfl (aE (by omega))))
   (λC s H ex=>aG 0) (λx=>⟨.inr rfl,.inl rfl,.inl rfl,.inl rfl,trivial⟩) (λC s H ex x hx=>cy)
   (λC s H ex x hx _=>uO hu (aP (aa 1 rfl) (aa 2 rfl) (oS t0 t1)) (c3 (aP (aJ (aa 3 rfl)) (aa 0 rfl) (hk x (dm.mp hx).1 (dm.mp hx).2.1))) (hfar x hx)))) ?_) ?_)
  ·intro e
   rw [List.map_eq_nil_iff,List.filter_eq_self.mpr (by simp)] at e
   exact hne e
  generalize hleast:least (((cA v t).filter λ_=>true).map λk=>farAt v t.1 (rowOf v k).2.2.1)=ls
  refine ao (bG 6 (fD (bc.im (bN (own:=["_law_k"]) (fr:=["_law_fars","_law_least","_law_part_here","_law_web_here"]) (ix:=[3,7,4,0]) (ra:=ae) (rb:=ae) (p:=λk=>decide (farAt v t.1 (rowOf v k).2.2.1=ls)) (f:=id) (bb (so:=ai p6) (N0:=xO) rfl rfl (λx h=>aT h) (by decide +kernel)) (bj (aa 6 rfl))
   (λC s H ex=>aG 0) (λx=>⟨.inr rfl,.inl rfl,.inl rfl,.inl rfl,.inl rfl,trivial⟩)
   (λC s H ex x hx=>eX (aA bI (uO hu (aP (aa 1 rfl) (aa 3 rfl) (oS t0 t1)) (c3 (aP (aJ (aa 4 rfl)) (aa 0 rfl) (hk x (dm.mp hx).1 (dm.mp hx).2.1))) (hfar x hx)) (aa 2 rfl)))
   (λC s H ex x hx _=>aa 0 rfl))) gU (gT ak)) ?_)
  have lm:=ju (((cA v t).filter λ_=>true).map λk=>farAt v t.1 (rowOf v k).2.2.1) (by
   intro e
   rw [List.map_eq_nil_iff,List.filter_eq_self.mpr (by simp)] at e
   exact hne e)
  rw [hleast,List.filter_eq_self.mpr (by simp)] at lm
  obtain ⟨k1,hk1,ek1⟩:=List.mem_map.mp lm.1
  have hmin:=lm.2 (farAt v t.1 (rowOf v k0).2.2.1) (List.mem_map.mpr ⟨k0,hk0,rfl⟩)
  rw [ek0] at hmin
  generalize hL:List.map id (List.filter (λk=>decide (farAt v t.1 (rowOf v k).2.2.1=ls)) (cA v t))=L
  have hLm:∀k∈L,k∈cA v t/\farAt v t.1 (rowOf v k).2.2.1=ls:=λk hkm=>by
   rw [← hL,List.map_id] at hkm
   obtain ⟨b1,b2⟩:=List.mem_filter.mp hkm
   exact ⟨b1,of_decide_eq_true b2⟩
  have hL1:k1∈L:=by rw [← hL,List.map_id];exact List.mem_filter.mpr ⟨hk1,decide_eq_true ek1⟩
  have hLl:L.length<=v.2.length:=by
   rw [← hL,List.length_map]
   exact Nat.le_trans (List.length_filter_le _ _) l0
  have hcm:∀k∈cut L none (some 1),k∈L:=λk hkm=>by
   unfold cut at hkm
   exact List.mem_of_mem_drop (List.mem_of_mem_take hkm)
  have hcl:=eP L none (some 1)
  have hcn:cut L none (some 1)≠[]:=by
   cases L with
   | nil=>cases hL1
   | cons a l=>
     have:cut (a::l) none (some 1)=[a]:=by
      unfold cut
      have:HT.sIx (a::l).length (a::l).length (some 1)=1:=by
       show (if (1:Int) < 0 then ((1:Int) + ((a::l).length:Int)).toNat else min (1:Int).toNat (a::l).length)=1
       rw [if_neg (by omega)];simp
      rw [this];rfl
     rw [this];simp
  refine ao (bg (cI 6 rfl (aE (by omega))) ⟨hcn,by omega,λk hkm=>?_,λ_ k hkm=>?_⟩)
  ·exact dm.mp (hLm k (hcm k hkm)).1
  ·rw [(hLm k (hcm k hkm)).2];omega
 ·refine ao (bg (cI 6 rfl (aE (by omega))) ⟨hne,l0,λk hkm=>dm.mp hkm,λe=>?_⟩)
  rw [h] at e;cases e
end
def wt (p:Int):Int:=if p=0 then 5832 else if p=1 then 324 else if p=2 then 18 else 1
def dj (v:ax)(st:cU):Int:=(st.map λt=>farAt v t.1 t.2 * wt t.1).sum
theorem fM (v:ax)(a b:cU):dj v (a++b)=dj v a + dj v b:=by unfold dj;rw [List.map_append,List.sum_append]
theorem kB (v:ax)(t:Int×Int):dj v [t]=farAt v t.1 t.2 * wt t.1:=by unfold dj;simp
theorem lE {p:Int}(h0:0<=p)(h1:p < 4):(p=0/\wt p=5832)∨(p=1/\wt p=324)∨(p=2/\wt p=18)∨(p=3/\wt p=1):=by
 rcases (show p=0∨p=1∨p=2∨p=3 by omega) with h | h | h | h<;>subst h<;>simp [wt]
theorem qk {v:ax}(hv:ba v):∀(s':cU),(∀t∈s',t.2=1/\0<=t.1/\t.1 < (v.1.length:Int))->dj v s'=0
 | [],_=>rfl
 | t::r,h=>by
   have ih:=qk hv r λq hq=>h q (List.mem_cons_of_mem _ hq)
   obtain ⟨h1,h2,h3⟩:=h t List.mem_cons_self
   have e:dj v (t::r)=farAt v t.1 t.2 * wt t.1 + dj v r:=by unfold dj;simp
   rw [e,ih,h1,(pz hv h2 h3).one];simp
theorem mP {v:ax}(hv:ba v):∀(st:cU),(∀t∈st,0<=t.1/\t.1 < (v.1.length:Int)/\0<=t.2/\t.2 < v.1.getD t.1.toNat 0)->0<=dj v st/\dj v st<=87480 * st.length
 | [],_=>by simp [dj]
 | t::r,h=>by
   have ih:=mP hv r λq hq=>h q (List.mem_cons_of_mem _ hq)
   obtain ⟨h1,h2,h3,h4⟩:=h t List.mem_cons_self
   have e:dj v (t::r)=farAt v t.1 t.2 * wt t.1 + dj v r:=by unfold dj;simp
   have fb:=(pz hv h1 h2).bd t.2 h3 h4
   have pl:=hv.pl
   rw [e,List.length_cons]
   push_cast
   rcases lE h1 (by omega) with ⟨_,w⟩ | ⟨_,w⟩ | ⟨_,w⟩ | ⟨_,w⟩<;>rw [w]<;>omega
theorem qm {v:ax}(hv:ba v){st:cU}(h:lB v st){k:Int}(c:pQ v st k)(hl:farAt v (rowOf v k).1 (rowOf v k).2.2.1 < farAt v (rowOf v k).1 (rowOf v k).2.1):dj v (cE v st k) < dj v st:=by
 have hrm:rowOf v k∈v.2:=by
  unfold rowOf
  have k0:=c.k0;have k1:=c.k1
  rw [List.getD_eq_getElem?_getD,List.getElem?_eq_getElem (by omega)]
  exact List.getElem_mem _
 have q:=hv.eW hrm
 have sp:st=st.dropLast++[((rowOf v k).1,(rowOf v k).2.1)]:=by rw [← c.at_];exact (fO c.ne).symm
 have pl:=hv.pl
 obtain ⟨s',h1,h2,h3⟩:=lu _ (push v st k) rfl
 have bd':∀t∈push v st k,0<=t.1/\t.1 < (v.1.length:Int):=λt ht=>by
  unfold push at ht
  have old:∀t∈st.dropLast++[((rowOf v k).1,(rowOf v k).2.2.1)],0<=t.1/\t.1 < (v.1.length:Int):=λt ht=>by
   rcases List.mem_append.mp ht with z | z
   ·have:=h.bd t (List.dropLast_subset _ z);exact ⟨this.1,this.2.1⟩
   ·rw [List.mem_singleton.mp z];exact ⟨q.p0,q.p1⟩
  split at ht
  ·rename_i hc
   rcases List.mem_append.mp ht with z | z
   ·exact old t z
   ·rw [List.mem_singleton.mp z];exact ⟨hc,q.c1⟩
  ·exact old t ht
 have e0:dj v (cE v st k)=dj v (push v st k):=by
  have e1:dj v (push v st k)=dj v (trim (push v st k)) + dj v s':=by rw [← fM,← h1]
  have e2:dj v s'=0:=qk hv s' λt ht=>⟨h2 t ht,bd' t (by rw [h1];exact List.mem_append_right _ ht)⟩
  unfold cE
  omega
 rw [e0]
 have es:dj v st=dj v st.dropLast + farAt v (rowOf v k).1 (rowOf v k).2.1 * wt (rowOf v k).1:=by
  have:=fM v st.dropLast [((rowOf v k).1,(rowOf v k).2.1)]
  rw [← sp,kB] at this;exact this
 rw [es]
 generalize hr:rowOf v k=r at *
 have w1:=lE q.p0 (by have:=q.p1;omega)
 unfold push
 rw [hr]
 split
 ·rename_i hc
  rw [fM,fM,kB,kB]
  have cp:=q.cp
  have c1:=q.c1
  have fb:=(pz hv hc c1).bd 0 (Int.le_refl _) (by
   have:v.1.getD r.2.2.2.toNat 0∈v.1:=by
    rw [List.getD_eq_getElem?_getD,List.getElem?_eq_getElem (by omega)];exact List.getElem_mem _
   have:=hv.sz _ this
   omega)
  have w2:=lE hc (by omega)
  dsimp only
  generalize farAt v r.2.2.2 0=y at fb
  generalize farAt v r.1 r.2.2.1=a at hl
  generalize farAt v r.1 r.2.1=b at hl
  rcases w1 with ⟨p1,w1⟩ | ⟨p1,w1⟩ | ⟨p1,w1⟩ | ⟨p1,w1⟩<;>rcases w2 with ⟨p2,w2⟩ | ⟨p2,w2⟩ | ⟨p2,w2⟩ | ⟨p2,w2⟩<;>rw [w1,w2]<;>omega
 ·rw [fM,kB]
  dsimp only
  generalize farAt v r.1 r.2.2.1=a at hl
  generalize farAt v r.1 r.2.1=b at hl
  rcases w1 with ⟨p1,w1⟩ | ⟨p1,w1⟩ | ⟨p1,w1⟩ | ⟨p1,w1⟩<;>rw [w1]<;>omega
section
variable {P:Program}{w:World}{K:PySem.W.Frag}{mg:Str->Option Value}{base:Heap}{f:Addr}{fd:FuncData}
abbrev uB:Stmt:=top qC
abbrev EC:List Str:=["_law_web_here","_law_left_here","_law_most","_law_fars","_law_rows","_law_stack_here","_law_some"]
theorem BR:aC EC ["_law_web_here","_law_left_here","_law_most"] (ai uB):=⟨rfl,rfl,rfl,by decide +kernel,rfl,by decide +kernel,by decide +kernel⟩
def xP (v:ax)(rows:List Int):Prop:=Goes v rows []/\rows.length<=400000
def EB:eU Int:=λK xs ps T=>∃(v:ax) (most:Int),fc 0 xs/\ps=[⟨bx,v⟩,⟨ae,most⟩]/\ba v/\0<=most/\most<=1000/\T=λ_=>bE K (af ae) (xP v)
theorem C6 (M:bO mg)(CF:aF P w K mg base "_law_far" 1 (aQ EL K))(CL:aF P w K mg base "_law_leaving" 1 (aQ EH K))(CB:aF P w K mg base "_law_behind" 1 (aQ SBH K))(CD:aF P w K mg base "_law_draw" 2 (fu ae mO K))(F:bH K "_law_run" "_law_run" uB f fd)(hm:mg "_law_run"=some (.ref f))(hb:Binds K fd ["_law_web_here","_law_left_here","_law_most"] []):aF P w K mg base "_law_run" 3 (lp ae EB K):=by
 have nd:=BR.nd
 have ndc:List.Nodup [("_law_part_here":Str),"_law_web_here"]:=by decide
 have CF:=CF.mono (show 1<=2 by decide)
 have CL:=CL.mono (show 1<=2 by decide)
 have CB:=CB.mono (show 1<=2 by decide)
 refine rg F BR hm hb (λxs qs T ⟨_,_,_,e,_⟩=>by rw [e];rfl) (λcdv A outer s H E a xs q0 qs T hr hS=>?_)
 obtain ⟨v,most,hD,he,hv,m0,m1,rfl⟩:=hS
 cases he
 have pl:=hv.pl
 have rl:=hv.rl
 change WS _ _ [.im (ay (af ae) (af aB)) v,.ob (bU a ae xs),.im ae most,.no,.no,.no,.no] _ _
 have hpl:∀x∈ups 0 ((v.1.length:Int)).toNat,bW v.1 x=some (v.1.getD x.toNat 0)/\0<=v.1.getD x.toNat 0/\v.1.getD x.toNat 0<=1000:=λx hx=>by
  have hx:=bz.mp hx
  refine ⟨cx (by omega) (by omega),?_⟩
  have:v.1.getD x.toNat 0∈v.1:=by
   rw [List.getD_eq_getElem?_getD,List.getElem?_eq_getElem (by omega)];exact List.getElem_mem _
  have:=hv.sz _ this
  omega
 refine aj (fI 3 (own:=["_law_part_here"]) (fr:=["_law_web_here"]) (ix:=[0]) (ra:=ae) (rb:=lW) (p:=λ_=>true) (f:=λp=>a9 v.2 p (v.1.getD p.toNat 0).toNat) (bb (so:=ai uB) (N0:=EC) rfl rfl (λx h=>aT h) (by decide +kernel)) (bB M.range (aM M.len (bQ (aa 0 rfl))) ⟨by omega,by omega⟩)
  (λC s H ex=>aG 0) (λx=>⟨.inr rfl,.inl rfl,trivial⟩) (λC s H ex x hx=>cy) (λC s H ex x hx _=>bt CF hr (ah (aa 1 rfl) (ah (aa 0 rfl) aw)) ⟨v,x,_,rfl,(hpl x hx).1,(hpl x hx).2.1,(hpl x hx).2.2,by omega,rfl⟩) ?_)
 have el:((v.1.length:Int)).toNat=v.1.length:=by omega
 rw [el]
 change WS _ _ [_,_,_,.mu lW (gM v),_,_,_] _ _
 refine WS.freeze 3 rfl (aE (by unfold gM;rw [List.length_map,List.filter_eq_self.mpr (by simp),au];omega)) ?_
 refine aj (bG 4 (r:=ae) (aN aY (by decide)) (aj (bo 5 (bc.im (aN (aZ (cg (ah ak (ah ak aw))) aY) (by show 1<=sizeLine;decide))) ?_)))
 refine aj (fq (λm Γ=>∃(st:List Int) (rows:List Int) (sk:cU) (v6:Ent),Γ=[.im (ay (af ae) (af aB)) v,.ob (bU a ae st),.im ae most,.im (af lW) (gM v),.mu ae rows,.im (af bX) sk,v6]/\fc rows.length st/\Goes v rows sk/\
  (m:Int)=(if (rows.length:Int) < most then (most - rows.length) * 1000000 else dj v sk)/\((rows.length:Int) < most∨(rows.length:Int) + dj v sk<=most + 350000)) (m0:=(if (0:Int) < most then most * 1000000 else dj v [(0,0)]).toNat) ?_ ?_)
 ·have pb:=mP hv [(0,0)] (Goes.nil.good hv).bd
  have pb2:dj v [(0,0)]<=87480:=by simpa using pb.2
  refine ⟨xs,[],[(0,0)],_,rfl,hD,.nil,?_,?_⟩
  ·simp only [List.length_nil,Int.ofNat_zero,Int.sub_zero]
   by_cases h:(0:Int) < most
   ·rw [if_pos h];omega
   ·rw [if_neg h];omega
  ·by_cases h:(0:Int) < most
   ·exact .inl (by simpa using h)
   ·refine .inr ?_
    simp;omega
 ·rintro m Γ ⟨st,rows,sk,v6,rfl,hD,hG,hmm,hbb⟩
  have hsg:=hG.good hv
  have hsl:=hsg.len hv
  have pb:=mP hv sk hsg.bd
  have pb2:dj v sk<=349920:=by
   have:(87480:Int) * sk.length<=87480 * 4:=by omega
   omega
  have rlen:(rows.length:Int)<=351000:=by omega
  refine ⟨_,_,aA gj (aM M.len (aa 5 rfl)) ak,λh=>?_,λh=>?_⟩
  ·have hpos:0 < (sk.length:Int):=of_decide_eq_true h
   have hne:sk≠[]:=λe=>by rw [e] at hpos;simp at hpos
   have hlast:sk[sk.length - 1]?=some (sk.getLast hne):=by rw [List.getLast_eq_getElem];exact List.getElem?_eq_getElem _
   have tb:=hsg.bd _ (List.getLast_mem hne)
   refine aj (ja 6 CL hr (ah (aa 0 rfl) (ah (aa 5 rfl) (ah (bZ kn (eO 4 M.len rfl) (aa 2 rfl)) (ah (aa 3 rfl) aw)))) ⟨v,sk,_,sk.getLast hne,rfl,hv,hlast,tb.1,tb.2.1,tb.2.2.1,tb.2.2.2,hsg.top hne,rfl⟩ ?_)
   intro L hL
   have lpos:0 < L.length:=List.length_pos_iff.mpr hL.ne
   have llen:=hL.len
   obtain ⟨d,st3,d0,d1,hD3,hS3⟩:=cV hD (by omega) (b:=(L.length:Int)) (by omega) (by omega)
   have hat:bW L d=some (L.getD d.toNat 0):=cx d0 d1
   have hkm:L.getD d.toNat 0∈L:=by
    rw [List.getD_eq_getElem?_getD,List.getElem?_eq_getElem (by omega)];exact List.getElem_mem _
   generalize L.getD d.toNat 0=k at hat hkm
   obtain ⟨k0,k1,k2⟩:=hL.row k hkm
   have hcan:pQ v sk k:=⟨k0,k1,hne,k2.symm⟩
   refine aj (cw 4 (aP (aa 6 rfl) (cQ 1 CD hr (ah (aM M.len (aa 6 rfl)) aw) rfl (hS3 _)) hat) rfl rfl (Nat.lt_of_le_of_lt (show rows.length<=400000 by omega) (by decide)) ?_)
   have hl2:(rows++[k])[(rows++[k]).length - 1]?=some k:=by simp
   refine ao (bo 5 (bt CB hr (ah (aa 0 rfl) (ah (aa 5 rfl) (ah (dh 4 (cO ak) rfl rfl (eo hl2)) aw))) ⟨v,sk,k,rfl,k0,k1,by omega,rfl⟩) ?_)
   have hG2:=hG.snoc hcan
   have hsg2:=hG2.good hv
   have hsl2:=hsg2.len hv
   have pc:=mP hv _ hsg2.bd
   have pc2:dj v (cE v sk k)<=349920:=by
    have:(87480:Int) * (cE v sk k).length<=87480 * 4:=by omega
    omega
   have e1:((rows++[k]).length:Int)=rows.length + 1:=by rw [List.length_append];simp
   refine ⟨(if (rows.length:Int) + 1 < most then (most - (rows.length + 1)) * 1000000 else dj v (cE v sk k)).toNat,?_,st3,rows++[k],cE v sk k,_,rfl,by rw [e1];exact hD3,hG2,?_,?_⟩
   ·by_cases h1:(rows.length:Int) < most
    ·rw [if_pos h1] at hmm
     by_cases h2:(rows.length:Int) + 1 < most
     ·rw [if_pos h2];omega
     ·rw [if_neg h2];omega
    ·rw [if_neg h1] at hmm
     rw [if_neg (by omega)]
     have hs:decide (most<=(rows.length:Int))=true:=decide_eq_true (by omega)
     have hless:=hL.less hs k hkm
     have e2:(sk.getLast hne).1=(rowOf v k).1:=by rw [← k2]
     have e3:(sk.getLast hne).2=(rowOf v k).2.1:=by rw [← k2]
     rw [e2,e3] at hless
     have:=qm hv hsg hcan hless
     omega
   ·rw [e1]
    by_cases h2:(rows.length:Int) + 1 < most
    ·rw [if_pos h2];omega
    ·rw [if_neg h2];omega
   ·rw [e1]
    by_cases h2:(rows.length:Int) + 1 < most
    ·exact .inl h2
    ·refine .inr ?_
     by_cases h1:(rows.length:Int) < most
     ·omega
     ·have hs:decide (most<=(rows.length:Int))=true:=decide_eq_true (by omega)
      have hless:=hL.less hs k hkm
      have e2:(sk.getLast hne).1=(rowOf v k).1:=by rw [← k2]
      have e3:(sk.getLast hne).2=(rowOf v k).2.1:=by rw [← k2]
      rw [e2,e3] at hless
      have:=qm hv hsg hcan hless
      omega
  ·have hz:¬0 < (sk.length:Int):=of_decide_eq_false h
   have:sk=[]:=List.length_eq_zero_iff.mp (by omega)
   subst this
   exact ao (fJ 1 (P:=λ_ rows=>xP v rows) (cI 4 rfl (aE (by omega))) rfl ⟨hG,by omega⟩)
end
end K1
namespace Fc
open PySem PySem.Spec L2
open PyProof.Rows hiding St
def oQ {α:Type}(r:Rep α):Rep (Option α):=⟨λK H v o=>match o with | none=>v= .non | some x=>r.R K H v x,λ{K H H' v o} s h=>by cases o with | none=>exact h | some x=>exact r.mono s h⟩
section
variable {X:Cx}{Γ Γ1 Γ2 Γ3:Ga}{α β γ δ:Type}{N:Ga->Prop}{T:RT}
variable {r:Rep α}
theorem y9 {j:Nat}{pos:Pos}:EV X (.Constant .none j pos) Γ (oQ r) none Γ:=λ_ _ _ _ _ E _ q=>eS uk (q _ _ _ E (ar.refl _) rfl)
theorem EV.some {e:Expr}{x:α}(h:EV X e Γ r x Γ1):EV X e Γ (oQ r) (some x) Γ1:=EV.rep h λ_ _ q=>q
theorem EV.get {e:Expr}{o:Option α}{x:α}(h:EV X e Γ (oQ r) o Γ1)(ho:o=Option.some x):EV X e Γ r x Γ1:=by subst ho;exact EV.rep h λ_ _ q=>q
end
end Fc
namespace K1
open PySem L2 Fc
open PySem.Spec hiding Row
open PyProof.Rows hiding St
open PySem.Builtin.Int (intBits)
section
variable {P:Program}{w:World}{K:PySem.W.Frag}{mg:Str->Option Value}{base:Heap}{f:Addr}{fd:FuncData}
def rN:Stmt->List Stmt
 | .For _ _ b _ _=>b
 | _=>[]
structure HeapOk (v:ax) (heap:List (List Int)):Prop where
 run:∀rows∈heap,Goes v rows []
 len:(heap.map List.length).sum<=900
 many:heap.length<=200
abbrev x9:Stmt:=top qy
abbrev nHP:List Str:=["_law_script","_law_at","_law_web_here","_law_most_runs","_law_most","_law_left_here","_law_heap_here","_law_room","_law_turn","_law_run_here"]
theorem zR:aC nHP ["_law_script","_law_at","_law_web_here","_law_most_runs","_law_most"] (ai x9):=⟨rfl,rfl,rfl,by decide +kernel,rfl,by decide +kernel,by decide +kernel⟩
def Fx:cq:=λK ps T=>∃(ns:List Int) (at_:Int) (v:ax) (mr most:Int),ps=[⟨cX,ns⟩,⟨ae,at_⟩,⟨bx,v⟩,⟨ae,mr⟩,⟨ae,most⟩]/\(∀n∈ns,intBits n<=2 ^ 20)/\0<=at_/\ba v/\0<=mr/\mr<=100/\0<=most/\most<=1000/\T=bE K (af (af ae)) (HeapOk v)
theorem D7 (M:bO mg)(CL:aF P w K mg base "_law_left" 2 (aQ ye K))(CD:aF P w K mg base "_law_draw" 2 (fu ae mO K))(CR:aF P w K mg base "_law_run" 3 (lp ae EB K))(F:bH K "_law_heap" "_law_heap" x9 f fd)(hm:mg "_law_heap"=some (.ref f))(hb:Binds K fd ["_law_script","_law_at","_law_web_here","_law_most_runs","_law_most"] []):aF P w K mg base "_law_heap" 4 (aQ Fx K):=by
 have nd:=zR.nd
 have CL:=CL.mono (show 2<=3 by decide)
 have CD:=CD.mono (show 2<=3 by decide)
 refine bD F zR hm hb (λqs T ⟨_,_,_,_,_,e,_⟩=>by rw [e];rfl) (λcdv A outer s H E qs T hr hS=>?_)
 obtain ⟨ns,at_,v,mr,most,rfl,hbits,a0,hv,r0,r1,m0,m1,rfl⟩:=hS
 change WS _ _ [.im cX ns,.im ae at_,.im bx v,.im ae mr,.im ae most,.no,.no,.no,.no,.no] _ _
 refine aj (bG 5 (d9 CL hr (ah (aa 0 rfl) (ah (aa 1 rfl) aw)) ⟨_,_,rfl,a0,rfl⟩) ?_)
 refine aj (bG 6 (r:=af ae) (aN aY (by decide)) (aj (bo 7 ak ?_)))
 obtain ⟨d,st,d0,d1,hD,hS⟩:=cV (gW hbits at_.toNat) (by decide) (b:=mr + 1) (by omega) (by omega)
 refine aj (bS (r:=ae) (λi Γ=>∃heap room v5 v8 v9,Γ=[.im cX ns,.im ae at_,.im bx v,.im ae mr,.im ae most,v5,.mu (af ae) heap,.im ae room,v8,v9]/\(∀rows∈heap,Goes v rows [])/\((heap.map List.length).sum:Int) + room=900/\0<=room/\heap.length<=i)
  (bB M.range (fY 5 CD hr (ah (bu (aa 3 rfl) ak) aw) rfl rfl (hS _)) ⟨by omega,by omega⟩) (aG 8) ⟨[],900,_,_,_,rfl,by simp,by simp,by decide,Nat.le_refl _⟩ ?_ ?_)
 ·rintro i x Γ hx ⟨heap,room,v5,v8,v9,rfl,h1,h2,h3,h4⟩
  obtain ⟨hi,rfl⟩:=gz hx
  refine aj (wD 9 2 CR hr rfl rfl (d9 CL hr (ah (aa 0 rfl) (ah (bu (bu (aa 1 rfl) ak) (aa 8 rfl)) aw)) ⟨_,_,rfl,by omega,rfl⟩) (qf 4 rfl m5) ⟨v,most,gW hbits _,rfl,hv,m0,m1,rfl⟩ ?_)
  rintro _ rows ⟨hG,hl⟩
  refine ao (bh (aA iM (aM M.len (aa 9 rfl)) (aa 7 rfl)) (λh=>?_) (λh=>aV ?_))
  ·have h:(rows.length:Int)<=room:=of_decide_eq_true h
   refine aj (cw 6 (aa 9 rfl) rfl rfl (Nat.lt_of_le_of_lt (show heap.length<=200 by omega) (by decide)) ?_)
   refine ao (bo 7 (fG (aa 7 rfl) (aM M.len (aa 9 rfl))) ?_)
   refine ⟨_,_,_,_,_,rfl,λq hq=>?_,?_,by omega,by rw [List.length_append];simp;omega⟩
   ·rcases List.mem_append.mp hq with z | z
    ·exact h1 q z
    ·rw [List.mem_singleton.mp z];exact hG
   ·rw [List.map_append,List.sum_append];simp;omega
  ·exact ⟨_,_,_,_,_,rfl,h1,h2,h3,by omega⟩
 ·rintro Γ ⟨heap,room,v5,v8,v9,rfl,h1,h2,h3,h4⟩
  rw [au] at h4
  exact ao (bg (cI 6 rfl (aE (by omega))) ⟨h1,by omega,by omega⟩)
open Classical in
noncomputable def cN (v:ax):cU->List Int->Option cU
 | st,[]=>some st
 | st,k::ks=>if pQ v st k then cN v (cE v st k) ks else none
abbrev rL:Stmt:=top oB
abbrev Fj:List Str:=["_law_web_here","_law_rows","_law_stack_here","_law_k"]
theorem AM:aC Fj ["_law_web_here","_law_rows"] (ai rL):=⟨rfl,rfl,rfl,by decide +kernel,rfl,by decide +kernel,by decide +kernel⟩
def Fg:cq:=λK ps T=>∃(v:ax) (rows:List Int),ps=[⟨bx,v⟩,⟨af ae,rows⟩]/\ba v/\T=bE K (oQ (af bX)) (· =cN v [(0,0)] rows)
open Classical in
theorem DO (M:bO mg)(F:bH K "_law_stack" "_law_stack" rL f fd)(hm:mg "_law_stack"=some (.ref f))(hb:Binds K fd ["_law_web_here","_law_rows"] []):aF P w K mg base "_law_stack" 1 (aQ Fg K):=by
 have nd:=AM.nd
 refine bD F AM hm hb (λqs T ⟨_,_,e,_⟩=>by rw [e];rfl) (λcdv A outer s H E qs T hr hS=>?_)
 obtain ⟨v,rows,rfl,hv,rfl⟩:=hS
 have hu:=oH hr
 change WS _ _ [.im (ay (af ae) (af aB)) v,.im (af ae) rows,.no,.no] _ _
 refine aj (bG 2 (r:=bX) (aN (aZ (cg (ah ak (ah ak aw))) aY) (by show 1<=sizeLine;decide)) ?_)
 refine aj (bS (r:=ae) (λi Γ=>∃st v3,Γ=[.im (ay (af ae) (af aB)) v,.im (af ae) rows,.mu bX st,v3]/\Goes v (rows.take i) st/\cN v [(0,0)] rows=cN v st (rows.drop i))
  (bj (aa 1 rfl)) (aG 3) ⟨[(0,0)],_,rfl,.nil,rfl⟩ ?_ ?_)
 ·rintro i k Γ hki ⟨st,v3,rfl,hG,hF⟩
  have hil:i < rows.length:=(List.getElem?_eq_some_iff.mp hki).1
  have hdrop:rows.drop i=k::rows.drop (i + 1):=by
   rw [List.drop_eq_getElem_cons hil]
   congr 1
   rw [List.getElem?_eq_getElem hil] at hki
   exact Option.some.inj hki
  rw [hdrop] at hF
  have hsg:=hG.good hv
  have hsl:=hsg.len hv
  have hk':∀(k0:0<=k) (k1:k < (v.2.length:Int)),bW v.2 k=some (rowOf v k):=λk0 k1=>fE jh k0 k1
  have hlast:∀(hne:st≠[]),st[st.length - 1]?=some (st.getD (st.length - 1) (0,0)):=λhne=>by
   have:=List.length_pos_iff.mpr hne
   rw [List.getD_eq_getElem?_getD,List.getElem?_eq_getElem (by omega)];rfl
  have hgl:∀(hne:st≠[]),st.getLast hne=st.getD (st.length - 1) (0,0):=λhne=>by
   have:=List.length_pos_iff.mpr hne
   rw [List.getD_eq_getElem?_getD,List.getElem?_eq_getElem (by omega),List.getLast_eq_getElem];rfl
  have nee:decide ((st.length:Int)=0)=false->st≠[]:=λh e=>by rw [e] at h;exact absurd h (by decide)
  refine aj (bh (TW.tv (dA (aA bI (eO 2 M.len rfl) ak) λa1=>dA (aA gm (aa 3 rfl) ak) λa2=>dA (aA kn (aa 3 rfl) (aM M.len (aJ (aa 0 rfl)))) λa3=>
   dI (aA (DV eq_int eq_int hu hu) (lh (aP (aJ (aa 0 rfl)) (aa 3 rfl) (hk' (by have:=of_decide_eq_false a2;omega) (by have:=of_decide_eq_false a3;omega)))) (dh 2 (cO ak) rfl rfl (eo (hlast (nee a1))))))) (λh=>?_) (λh=>aV ?_))
  ·refine ao (bg y9 ?_)
   have hc:¬pQ v st k:=λc=>by
    have e1:¬(st.length:Int)=0:=λz=>c.ne (List.length_eq_zero_iff.mp (by omega))
    have k0:=c.k0;have k1:=c.k1
    have ce:=(hgl c.ne).symm.trans c.at_
    simp only [Bool.or_eq_true,decide_eq_true_eq,Bool.not_eq_true',decide_eq_false_iff_not] at h
    rcases h with z | z | z | z
    ·exact e1 z
    ·omega
    ·omega
    ·exact z ce.symm
   rw [hF,cN,if_neg hc]
  ·simp only [Bool.or_eq_false_iff,decide_eq_false_iff_not,Bool.not_eq_false',decide_eq_true_eq] at h
   obtain ⟨a1,a2,a3,a4⟩:=h
   have hne:st≠[]:=λe=>by rw [e] at a1;exact a1 rfl
   have hcan:pQ v st k:=⟨by omega,by omega,hne,(hgl hne).trans a4.symm⟩
   have hk:=hk' hcan.k0 hcan.k1
   have hG2:Goes v (rows.take (i + 1)) (cE v st k):=by
    rw [List.take_succ,hki];exact hG.snoc hcan
   have hF2:cN v [(0,0)] rows=cN v (cE v st k) (rows.drop (i + 1)):=by rw [hF,cN,if_pos hcan]
   have hdl:st.dropLast.length<=4:=by rw [List.length_dropLast];omega
   refine WS.freeze 2 rfl (aE (by omega)) ?_
   refine aj (bG 2 (f7 (bc.im (fD (aa 2 rfl) gU (gT (cO ak)))) (bc.im (aN (aZ (cg (ah (dS (aP (aJ (aa 0 rfl)) (aa 3 rfl) hk)) (ah (c3 (aP (aJ (aa 0 rfl)) (aa 3 rfl) hk)) aw))) aY) (by show 1<=sizeLine;decide))) (aE (by have:=eP st none (some (-1));simp;omega))) ?_)
   rw [lC]
   have two:∀(s2:cU),s2.length<=1002->push v st k=s2->WS (cL dQ P w K mg base Fj "_law_stack" (ai rL) f cdv A outer s H E).c8 ((rN ((br rL).getD 1 (.Pass ⟨0,0,0,0⟩))).drop 3) [.im (ay (af ae) (af aB)) v,.im (af ae) rows,.mu bX s2,.im ae k]
    (λΓ=>∃st v3,Γ=[.im (ay (af ae) (af aB)) v,.im (af ae) rows,.mu bX st,v3]/\Goes v (rows.take (i + 1)) st/\cN v [(0,0)] rows=cN v st (rows.drop (i + 1))) (bE K (oQ (af bX)) (· =cN v [(0,0)] rows)):=by
    intro s2 hl2 he
    refine ao (fq (λm Γ=>∃s3:cU,Γ=[.im (ay (af ae) (af aB)) v,.im (af ae) rows,.mu bX s3,.im ae k]/\m=s3.length/\trim s3=cE v st k) (m0:=s2.length) ⟨s2,rfl,rfl,by rw [← he];rfl⟩ ?_)
    rintro m Γ ⟨s3,rfl,rfl,ht⟩
    by_cases hne:s3=[]
    ·subst hne
     refine ⟨_,_,TW.tv (dy (y:=false) (aA gj (eO 2 M.len rfl) ak) (λh=>absurd h (by decide))),λh=>absurd h (by decide),λ_=>?_⟩
     exact ⟨[],_,rfl,by rw [← ij,ht];exact hG2,by rw [hF2,← ht,ij]⟩
    ·have hpos:0 < s3.length:=List.length_pos_iff.mpr hne
     have hl3:s3[s3.length - 1]?=some (s3.getLast hne):=by rw [List.getLast_eq_getElem];exact List.getElem?_eq_getElem _
     refine ⟨_,_,TW.tv (dy (aA gj (eO 2 M.len rfl) ak) (λ_=>dZ (aA bI (aJ (dh 2 (cO ak) rfl rfl (eo hl3))) ak))),λh=>?_,λh=>?_⟩
     ·rw [Bool.and_eq_true] at h
      have h1:(s3.getLast hne).2=1:=of_decide_eq_true h.2
      refine ao (pU (j8 2 rfl hl3) ?_)
      exact ⟨s3.dropLast.length,by rw [List.length_dropLast];omega,s3.dropLast,rfl,rfl,by rw [← jD hne h1];exact ht⟩
     ·have h1:(s3.getLast hne).2≠1:=by
       rw [Bool.and_eq_false_iff] at h
       rcases h with z | z
       ·exact absurd (show (0:Int) < (s3.length:Int) by omega) (of_decide_eq_false z)
       ·exact of_decide_eq_false z
      rw [ir hne h1] at ht
      subst ht
      exact ⟨_,_,rfl,hG2,hF2⟩
   refine aj (bh (aA kn (du (aP (aJ (aa 0 rfl)) (aa 3 rfl) hk)) ak) (λh=>?_) (λh=>aV ?_))
   ·have h:0<=(rowOf v k).2.2.2:=of_decide_eq_true h
    refine ao (cw 2 (cg (ah (du (aP (aJ (aa 0 rfl)) (aa 3 rfl) hk)) (ah ak aw))) rfl rfl (Nat.lt_of_le_of_lt (show _<=1001 by simp;omega) (by decide)) ?_)
    exact two _ (by simp;omega) (by rw [push,if_pos h])
   ·have h:¬0<=(rowOf v k).2.2.2:=of_decide_eq_false h
    exact two _ (by simp;omega) (by rw [push,if_neg h])
 ·rintro Γ ⟨st,v3,rfl,hG,hF⟩
  have hsl:=(hG.good hv).len hv
  rw [List.drop_length] at hF
  exact ao (bg (EV.some (cI 2 rfl (aE (by omega)))) (by rw [hF];rfl))
end
def bV (xs:List Int)(i:Nat):List Int:=xs.set i (xs.getD i 0 + 1)
theorem dN (xs:List Int)(i:Nat):(bV xs i).length=xs.length:=by unfold bV;rw [List.length_set]
def ck (v:ax)(xs:List Int)(k:Int):List Int:=if 0<=(rowOf v k).2.2.2 then bV (bV xs k.toNat) ((v.2.length:Int) + (rowOf v k).2.2.2).toNat else bV xs k.toNat
def cW (v:ax)(xs:List Int)(rows:List Int):List Int:=rows.foldl (ck v) (bV xs v.2.length)
def zeros (v:ax):List Int:=(List.replicate ((v.2.length:Int) + (v.1.length:Int)).toNat [(0:Int)]).flatten
def tallyF (v:ax)(heap:List (List Int)):List Int:=heap.foldl (cW v) (zeros v)
theorem gs (v:ax):(zeros v).length=v.2.length + v.1.length:=by unfold zeros;rw [len_rep];simp;omega
theorem jY (v:ax)(xs:List Int)(k:Int):(ck v xs k).length=xs.length:=by
 unfold ck;split
 ·rw [dN,dN]
 ·rw [dN]
theorem gH (v:ax):∀(rows:List Int) (xs:List Int),(rows.foldl (ck v) xs).length=xs.length
 | [],_=>rfl
 | k::r,xs=>by rw [List.foldl_cons,gH v r,jY]
theorem jL (v:ax)(xs:List Int)(rows:List Int):(cW v xs rows).length=xs.length:=by unfold cW;rw [gH,dN]
theorem gC (v:ax):∀(heap:List (List Int)) (xs:List Int),(heap.foldl (cW v) xs).length=xs.length
 | [],_=>rfl
 | k::r,xs=>by rw [List.foldl_cons,gC v r,jL]
theorem Goes.bd {v:ax}{rows:List Int}{st:cU}(h:Goes v rows st):∀k∈rows,0<=k/\k < (v.2.length:Int):=by
 induction h with
 | nil=>simp
 | snoc _ c ih=>
   intro q hq
   rcases List.mem_append.mp hq with z | z
   ·exact ih q z
   ·rw [List.mem_singleton.mp z];exact ⟨c.k0,c.k1⟩
open Classical in
theorem Goes.stk {v:ax}{rows:List Int}{st:cU}(h:Goes v rows st):∀ks,cN v [(0,0)] (rows++ks)=cN v st ks:=by
 induction h with
 | nil=>intro ks;rfl
 | snoc _ c ih=>
   intro ks
   rw [List.append_assoc,ih,List.singleton_append,cN,if_pos c]
theorem Goes.Gb {v:ax}{rows:List Int}{st:cU}(h:Goes v rows st):cN v [(0,0)] rows=some st:=by
 have:=h.stk []
 rw [List.append_nil] at this
 rw [this,cN]
theorem fz {v:ax}{k:Int}(k0:0<=k)(k1:k < (v.2.length:Int)):rowOf v k∈v.2:=by
 unfold rowOf
 rw [List.getD_eq_getElem?_getD,List.getElem?_eq_getElem (by omega)]
 exact List.getElem_mem _
section
variable {P:Program}{w:World}{K:PySem.W.Frag}{mg:Str->Option Value}{base:Heap}{f:Addr}{fd:FuncData}
abbrev uS:Stmt:=top oA
abbrev nTA:List Str:=["_law_web_here","_law_heap_here","_law_found","_law_rows","_law_k","_law_called"]
theorem Aq:aC nTA ["_law_web_here","_law_heap_here"] (ai uS):=⟨rfl,rfl,rfl,by decide +kernel,rfl,by decide +kernel,by decide +kernel⟩
def E7:cq:=λK ps T=>∃(v:ax) (heap:List (List Int)),ps=[⟨bx,v⟩,⟨af (af ae),heap⟩]/\ba v/\(∀rows∈heap,Goes v rows [])/\T=bE K (af ae) (· =tallyF v heap)
theorem DK (M:bO mg)(CS:aF P w K mg base "_law_stack" 1 (aQ Fg K))(F:bH K "_law_tally" "_law_tally" uS f fd)(hm:mg "_law_tally"=some (.ref f))(hb:Binds K fd ["_law_web_here","_law_heap_here"] []):aF P w K mg base "_law_tally" 2 (aQ E7 K):=by
 have nd:=Aq.nd
 refine bD F Aq hm hb (λqs T ⟨_,_,e,_⟩=>by rw [e];rfl) (λcdv A outer s H E qs T hr hS=>?_)
 obtain ⟨v,heap,rfl,hv,hruns,rfl⟩:=hS
 have hu:(A.deeper (envOfC "_law_tally" (ai uS) s.heap.objs.size f cdv)).units + (1 + 1) < cLine:=Nat.lt_of_le_of_lt (Nat.add_le_add_left (by decide:2<=64) _) hr.units
 have pl:=hv.pl
 have rl:=hv.rl
 change WS _ _ [.im (ay (af ae) (af aB)) v,.im (af (af ae)) heap,.no,.no,.no,.no] _ _
 refine aj (bG 2 (r:=ae) (i5 (bc.im (aN (aZ ak aY) (by show 1<=sizeLine;decide))) (bu (aM M.len (aJ (aa 0 rfl))) (aM M.len (bQ (aa 0 rfl)))) (by omega) (by omega) (aE (by simp;omega))) ?_)
 have hat:∀(xs:List Int) (i:Int),0<=i->i < (xs.length:Int)->bW xs i=some (xs.getD i.toNat 0):=λxs i h0 h1=>cx h0 h1
 refine aj (bS (r:=af ae) (λi Γ=>∃v3 v4 v5,Γ=[.im (ay (af ae) (af aB)) v,.im (af (af ae)) heap,.mu ae (tallyF v (heap.take i)),v3,v4,v5])
  (bj (aa 1 rfl)) (aG 3) ⟨_,_,_,rfl⟩ ?_ ?_)
 ·rintro i rows Γ hri ⟨v3,v4,v5,rfl⟩
  have hG:=hruns rows (List.mem_of_getElem? hri)
  have tk:tallyF v (heap.take (i + 1))=cW v (tallyF v (heap.take i)) rows:=by
   unfold tallyF
   rw [List.take_succ,hri];simp [List.foldl_append]
  have tl:(tallyF v (heap.take i)).length=v.2.length + v.1.length:=by unfold tallyF;rw [gC,gs]
  generalize tallyF v (heap.take i)=xs at tk tl
  refine aj (bh (aA (tL (nc eq_int eq_int (by decide) (by decide)) hu) (EV.get (bt CS hr (ah (aa 0 rfl) (ah (aa 3 rfl) aw)) ⟨v,rows,rfl,hv,rfl⟩) hG.Gb) (bc.im (aN aY (by decide)))) (λh=>absurd h (by decide)) (λh=>aV ?_))
  refine aj (eN 2 (j:=v.2.length) (bu (dh 2 (aM M.len (aJ (aa 0 rfl))) rfl rfl (hat xs _ (by omega) (by omega))) ak) (aM M.len (aJ (aa 0 rfl))) rfl rfl (by rw [dH (by omega) (by omega)];simp) ?_)
  have e0:xs.set v.2.length (xs.getD (v.2.length:Int).toNat 0 + 1)=bV xs v.2.length:=by unfold bV;simp
  rw [e0]
  refine ao (bS (r:=ae) (λj Γ=>∃v4 v5,Γ=[.im (ay (af ae) (af aB)) v,.im (af (af ae)) heap,.mu ae ((rows.take j).foldl (ck v) (bV xs v.2.length)),.im (af ae) rows,v4,v5])
   (bj (aa 3 rfl)) (aG 4) ⟨_,_,rfl⟩ ?_ ?_)
  ·rintro j k Γ hkj ⟨v4,v5,rfl⟩
   have kb:=hG.bd k (List.mem_of_getElem? hkj)
   have tk2:(rows.take (j + 1)).foldl (ck v) (bV xs v.2.length)=ck v ((rows.take j).foldl (ck v) (bV xs v.2.length)) k:=by
    rw [List.take_succ,hkj];simp [List.foldl_append]
   have tl2:((rows.take j).foldl (ck v) (bV xs v.2.length)).length=v.2.length + v.1.length:=by rw [gH,dN,tl]
   generalize (rows.take j).foldl (ck v) (bV xs v.2.length)=ys at tk2 tl2
   have hk:bW v.2 k=some (rowOf v k):=fE jh kb.1 kb.2
   have q:=hv.eW (fz kb.1 kb.2)
   refine aj (eN 2 (j:=k.toNat) (bu (dh 2 (aa 4 rfl) rfl rfl (hat ys _ kb.1 (by omega))) ak) (aa 4 rfl) rfl rfl (dH kb.1 (by omega)) ?_)
   have e1:ys.set k.toNat (ys.getD k.toNat 0 + 1)=bV ys k.toNat:=rfl
   rw [e1]
   refine ao (bh (aA kn (du (aP (aJ (aa 0 rfl)) (aa 4 rfl) hk)) ak) (λh=>?_) (λh=>aV ?_))
   ·have h:0<=(rowOf v k).2.2.2:=of_decide_eq_true h
    have c1:=q.c1
    refine aj (bo 5 (bu (aM M.len (aJ (aa 0 rfl))) (du (aP (aJ (aa 0 rfl)) (aa 4 rfl) hk))) ?_)
    have bl:=dN ys k.toNat
    refine ao (eN 2 (j:=((v.2.length:Int) + (rowOf v k).2.2.2).toNat) (bu (dh 2 (aa 5 rfl) rfl rfl (hat (bV ys k.toNat) _ (by omega) (by omega))) ak) (aa 5 rfl) rfl rfl (dH (by omega) (by omega)) ?_)
    refine ⟨.im ae k,.im ae ((v.2.length:Int) + (rowOf v k).2.2.2),?_⟩
    rw [tk2,ck,if_pos h];rfl
   ·have h:¬0<=(rowOf v k).2.2.2:=of_decide_eq_false h
    refine ⟨.im ae k,v5,?_⟩
    rw [tk2,ck,if_neg h];rfl
  ·rintro Γ ⟨v4,v5,rfl⟩
   rw [List.take_length]
   refine ⟨.im (af ae) rows,v4,v5,?_⟩
   rw [tk];rfl
 ·rintro Γ ⟨v3,v4,v5,rfl⟩
  rw [List.take_length]
  exact ao (bg (cI 2 rfl (aE (by unfold tallyF;rw [gC,gs];omega))) rfl)
end
section
variable {i:Nat}
def cz (b:Bool):Int:=if b then 1 else 0
def fU (p q:Int)(r:Row):Int:=(cz (decide (r.2.2.1=q)) - cz (decide (r.2.1=q))) * cz (decide (r.1=p))
def gp (p q o:Int):Int:=cz (decide (o=p)) * (cz (decide (q=0)) - cz (decide (q=1)))
def cj (v:ax)(p q:Int):List Int:=v.2.map (fU p q)++(ups 0 v.1.length).map (gp p q)
def dU (v:ax)(p:Int):List Int:=v.2.map (λr=>cz (decide (r.2.2.2=p)))++(ups 0 v.1.length).map λo=>0 - cz (decide (o=p))
theorem ia (v:ax)(p q:Int):(cj v p q).length=v.2.length + v.1.length:=by unfold cj;simp [au]
theorem qF (v:ax)(p:Int):(dU v p).length=v.2.length + v.1.length:=by unfold dU;simp [au]
def dot:List Int->List Int->Int
 | a::r,b::s=>a * b + dot r s
 | _,_=>0
theorem oX:∀(rel xs:List Int) (i:Nat),rel.length=xs.length->i < xs.length->dot rel (bV xs i)=dot rel xs + rel.getD i 0
 | [],[],i,_,h=>absurd h (by simp)
 | [],_::_,_,e,_=>absurd e (by simp)
 | _::_,[],_,e,_=>absurd e (by simp)
 | a::r,b::s,0,_,_=>by
   show a * (b + 1) + dot r s=a * b + dot r s + a
   rw [Int.mul_add,Int.mul_one];omega
 | a::r,b::s,i + 1,e,h=>by
   have ih:=oX r s i (by simpa using e) (by simpa using h)
   have e1:bV (b::s) (i + 1)=b::bV s i:=rfl
   rw [e1]
   show a * b + dot r (bV s i)=a * b + dot r s + (a::r).getD (i + 1) 0
   rw [ih]
   have:(a::r).getD (i + 1) 0=r.getD i 0:=by simp
   rw [this];omega
theorem pK:∀(rel:List Int) (n:Nat),dot rel (List.replicate n 0)=0
 | [],n=>by cases n<;>rfl
 | a::r,0=>rfl
 | a::r,n + 1=>by rw [List.replicate_succ];show a * 0 + dot r (List.replicate n 0)=0;rw [pK r n];omega
theorem wC (v:ax):zeros v=List.replicate (v.2.length + v.1.length) 0:=by
 unfold zeros
 rw [show ((v.2.length:Int) + (v.1.length:Int)).toNat=v.2.length + v.1.length by omega]
 generalize v.2.length + v.1.length=n
 induction n with
 | zero=>rfl
 | succ n ih=>rw [List.replicate_succ,List.flatten_cons,ih,List.replicate_succ];rfl
theorem nY {xs ys:List Int}(h:i < xs.length):(xs++ys).getD i 0=xs.getD i 0:=by
 rw [List.getD_eq_getElem?_getD,List.getD_eq_getElem?_getD,List.getElem?_append_left h]
theorem lP {xs ys:List Int}(h:xs.length<=i):(xs++ys).getD i 0=ys.getD (i - xs.length) 0:=by
 rw [List.getD_eq_getElem?_getD,List.getD_eq_getElem?_getD,List.getElem?_append_right h]
theorem lj {n:Nat}(h:i < n)(g:Int->Int):((ups 0 n).map g).getD i 0=g i:=by
 unfold ups
 rw [List.getD_eq_getElem?_getD,List.getElem?_map,List.getElem?_map,List.getElem?_range h]
 simp
theorem kj {v:ax}{k:Int}(k0:0<=k)(k1:k < (v.2.length:Int))(g:Row->Int):(v.2.map g).getD k.toNat 0=g (rowOf v k):=by
 unfold rowOf
 rw [List.getD_eq_getElem?_getD,List.getElem?_map,List.getD_eq_getElem?_getD,List.getElem?_eq_getElem (by omega)];rfl
def cY (v:ax)(p:Int):List (List Int):=(ups 0 (v.1.getD p.toNat 0).toNat).map (cj v p)
def eF (v:ax):List (List Int):=(ups 0 v.1.length).flatMap (cY v)++(ups 1 (v.1.length - 1)).map (dU v)
theorem eE {lo:Int}{n:Nat}{x:Int}(h:(ups lo n)[i]?=some x):(ups lo n).take (i + 1)=(ups lo n).take i++[x]:=by rw [List.take_succ,h];rfl
theorem kd (v:ax)(hv:ba v)(p:Int):(cY v p).length<=16:=by
 unfold cY
 rw [List.length_map,au]
 rw [List.getD_eq_getElem?_getD]
 cases e:v.1[p.toNat]? with
 | none=>simp
 | some m=>have:=hv.sz m (List.mem_of_getElem? e);simp;omega
theorem gc (v:ax)(hv:ba v):∀l:List Int,(l.flatMap (cY v)).length<=16 * l.length
 | []=>by simp
 | p::r=>by
   have:=gc v hv r
   have:=kd v hv p
   rw [List.flatMap_cons,List.length_append,List.length_cons];omega
end
section
variable {P:Program}{w:World}{K:PySem.W.Frag}{mg:Str->Option Value}{base:Heap}{f:Addr}{fd:FuncData}
theorem DF {b:Bool}{x:Int}:m7 x (if b=true then 1 else 0):=.inr (by cases b<;>decide)
theorem AX {b:Bool}{x:Int}:m7 (if b=true then 1 else 0) x:=.inl (by cases b<;>decide)
abbrev qS:Stmt:=top om
abbrev AY:List Str:=["_law_web_here","_law_found","_law_part_here","_law_place","_law_sums","_law_row","_law_here","_law_other"]
theorem BK:aC AY ["_law_web_here"] (ai qS):=⟨rfl,rfl,rfl,by decide +kernel,rfl,by decide +kernel,by decide +kernel⟩
def Ft:cq:=λK ps T=>∃v:ax,ps=[⟨bx,v⟩]/\ba v/\T=bE K (af (af ae)) (· =eF v)
theorem Eg (M:bO mg)(F:bH K "_law_every" "_law_every" qS f fd)(hm:mg "_law_every"=some (.ref f))(hb:Binds K fd ["_law_web_here"] []):aF P w K mg base "_law_every" 1 (aQ Ft K):=by
 have nd:=BK.nd
 have nd1:List.Nodup [("_law_row":Str),"_law_part_here"]:=by decide
 have nd2:List.Nodup [("_law_other":Str),"_law_part_here"]:=by decide
 refine bD F BK hm hb (λqs T ⟨_,e,_⟩=>by rw [e];rfl) (λcdv A outer s H E qs T hr hS=>?_)
 obtain ⟨v,rfl,hv,rfl⟩:=hS
 have pl:=hv.pl
 have rl:=hv.rl
 change WS _ _ [.im (ay (af ae) (af aB)) v,.no,.no,.no,.no,.no,.no,.no] _ _
 have el:((v.1.length:Int)).toNat=v.1.length:=by omega
 have hsl:∀{n:Nat},n<=10000->n < sizeLine:=λh=>Nat.lt_of_le_of_lt h (by decide)
 refine aj (bG 1 (r:=af ae) (aN aY (by decide)) ?_)
 refine aj (bS (r:=ae) (λi Γ=>∃v2 v3 v4 v5 v6 v7,Γ=[.im (ay (af ae) (af aB)) v,.mu (af ae) (((ups 0 v.1.length).take i).flatMap (cY v)),v2,v3,v4,v5,v6,v7])
  (bB M.range (aM M.len (bQ (aa 0 rfl))) ⟨by omega,by omega⟩) (aG 2) ⟨_,_,_,_,_,_,rfl⟩ ?_ ?_)
 ·rintro i p Γ hp ⟨v2,v3,v4,v5,v6,v7,rfl⟩
  rw [el] at hp
  have pb:=bz.mp (List.mem_of_getElem? hp)
  have tk:=eE hp
  have hfl:=gc v hv ((ups 0 v.1.length).take i)
  rw [List.length_take,au] at hfl
  generalize hB:((ups 0 v.1.length).take i).flatMap (cY v)=B at hfl
  have hpl:=kd v hv p
  have hn:bW v.1 p=some (v.1.getD p.toNat 0):=cx pb.1 (by omega)
  have nb:v.1.getD p.toNat 0∈v.1:=by
   rw [List.getD_eq_getElem?_getD,List.getElem?_eq_getElem (by omega)];exact List.getElem_mem _
  have nb:=hv.sz _ nb
  refine ao (bS (r:=ae) (λj Γ=>∃v3 v4 v5 v6 v7,Γ=[.im (ay (af ae) (af aB)) v,.mu (af ae) (B++((ups 0 (v.1.getD p.toNat 0).toNat).take j).map (cj v p)),.im ae p,v3,v4,v5,v6,v7])
   (bB M.range (aP (bQ (aa 0 rfl)) (aa 2 rfl) hn) ⟨by omega,by omega⟩) (aG 3) ⟨v3,v4,v5,v6,v7,by simp⟩ ?_ ?_)
  ·rintro j q Γ hq ⟨v3,v4,v5,v6,v7,rfl⟩
   have tk2:=eE hq
   refine aj (bG 4 (r:=ae) (aN aY (by decide)) ?_)
   refine aj (bS (r:=aB) (λk Γ=>∃v5 v6,Γ=[.im (ay (af ae) (af aB)) v,.mu (af ae) (B++((ups 0 (v.1.getD p.toNat 0).toNat).take j).map (cj v p)),.im ae p,.im ae q,.mu ae ((v.2.take k).map (fU p q)),v5,v6,v7])
    (bj (aJ (aa 0 rfl))) (aG 5) ⟨_,_,rfl⟩ ?_ ?_)
   ·rintro k r Γ hr ⟨v5,v6,rfl⟩
    refine aj (bo 6 (fG (dX M.int (bZ bI (c3 (aa 5 rfl)) (aa 3 rfl))) (dX M.int (bZ bI (dG (aa 5 rfl)) (aa 3 rfl)))) ?_)
    refine ao (cw 4 (iX (aa 6 rfl) (dX M.int (bZ bI (dS (aa 5 rfl)) (aa 2 rfl))) DF) rfl rfl (hsl (by rw [List.length_map,List.length_take];omega)) ?_)
    refine ⟨.im aB r,.im ae ((if decide (r.2.2.1=q)=true then 1 else 0) - if decide (r.2.1=q)=true then 1 else 0),?_⟩
    rw [List.take_succ,hr,List.map_append];rfl
   ·rintro Γ ⟨v5,v6,rfl⟩
    rw [List.take_length]
    refine aj (bS (r:=ae) (λk Γ=>∃v7,Γ=[.im (ay (af ae) (af aB)) v,.mu (af ae) (B++((ups 0 (v.1.getD p.toNat 0).toNat).take j).map (cj v p)),.im ae p,.im ae q,.mu ae (v.2.map (fU p q)++((ups 0 v.1.length).take k).map (gp p q)),v5,v6,v7])
     (bB M.range (aM M.len (bQ (aa 0 rfl))) ⟨by omega,by omega⟩) (aG 7) ⟨v7,by simp⟩ ?_ ?_)
    ·rintro k o Γ ho ⟨v7,rfl⟩
     rw [el] at ho
     have tk3:=eE ho
     refine ao (cw 4 (iX (dX M.int (bZ bI (aa 7 rfl) (aa 2 rfl))) (fG (dX M.int (bZ bI (aa 3 rfl) ak)) (dX M.int (bZ bI (aa 3 rfl) ak))) AX) rfl rfl (hsl (by rw [List.length_append,List.length_map,List.length_map,List.length_take,au];omega)) ?_)
     refine ⟨.im ae o,?_⟩
     rw [tk3,List.map_append,← List.append_assoc];rfl
    ·rintro Γ ⟨v7,rfl⟩
     rw [au,el,List.take_of_length_le (Nat.le_of_eq (au _ _))]
     refine ao (cw 1 (cI 4 rfl (aE (by rw [List.length_append,List.length_map,List.length_map,au];omega))) rfl rfl (hsl (by
      rw [List.length_append,List.length_map,List.length_take,au];omega)) ?_)
     refine ⟨.im ae q,.im (af ae) (v.2.map (fU p q)++(ups 0 v.1.length).map (gp p q)),v5,v6,v7,?_⟩
     rw [tk2,List.map_append,← List.append_assoc];rfl
  ·rintro Γ ⟨v3,v4,v5,v6,v7,rfl⟩
   rw [au,List.take_of_length_le (Nat.le_of_eq (au _ _))]
   refine ⟨.im ae p,v3,v4,v5,v6,v7,?_⟩
   rw [tk,List.flatMap_append,hB]
   simp [cY]
 ·rintro Γ ⟨v2,v3,v4,v5,v6,v7,rfl⟩
  rw [au,el,List.take_of_length_le (Nat.le_of_eq (au _ _))]
  have hfl:=gc v hv (ups 0 v.1.length)
  rw [au] at hfl
  have e1:((v.1.length:Int) - 1).toNat=v.1.length - 1:=by omega
  refine aj (bS (r:=ae) (λi Γ=>∃v2,Γ=[.im (ay (af ae) (af aB)) v,.mu (af ae) ((ups 0 v.1.length).flatMap (cY v)++((ups 1 (v.1.length - 1)).take i).map (dU v)),v2,v3,v4,v5,v6,v7])
   (iC M.range ak (aM M.len (bQ (aa 0 rfl))) ⟨by decide,by decide,by omega,by omega⟩) (aG 2) ⟨v2,by simp⟩ ?_ ?_)
  ·rintro i p Γ hp ⟨v2,rfl⟩
   rw [e1] at hp
   have tk:=eE hp
   refine ao (cw 1 (bc.im (f7
    (bc.im (bN (own:=["_law_row"]) (fr:=["_law_part_here"]) (ix:=[2]) (ra:=aB) (rb:=ae) (p:=λ_=>true) (f:=λr=>cz (decide (r.2.2.2=p))) (bb (so:=ai qS) (N0:=AY) rfl rfl (λx h=>aT h) (by decide +kernel)) (bj (aJ (aa 0 rfl)))
     (λC s H ex=>aG 0) (λx=>⟨.inr rfl,.inl rfl,trivial⟩) (λC s H ex x hx=>cy) (λC s H ex x hx _=>dX M.int (bZ bI (du (aa 0 rfl)) (aa 1 rfl)))))
    (bc.im (bN (own:=["_law_other"]) (fr:=["_law_part_here"]) (ix:=[2]) (ra:=ae) (rb:=ae) (p:=λ_=>true) (f:=λo=>0 - cz (decide (o=p))) (bb (so:=ai qS) (N0:=AY) rfl rfl (λx h=>aT h) (by decide +kernel)) (bB M.range (aM M.len (bQ (aa 0 rfl))) ⟨by omega,by omega⟩)
     (λC s H ex=>aG 0) (λx=>⟨.inr rfl,.inl rfl,trivial⟩) (λC s H ex x hx=>cy) (λC s H ex x hx _=>fG ak (dX M.int (bZ bI (aa 0 rfl) (aa 1 rfl))))))
    (aE (by rw [List.length_map,List.length_map,List.filter_eq_self.mpr (by simp),List.filter_eq_self.mpr (by simp),au];omega)))) rfl rfl (hsl (by rw [List.length_append,List.length_map,List.length_take,au];omega)) ?_)
   refine ⟨.im ae p,?_⟩
   rw [tk,List.map_append,← List.append_assoc,List.filter_eq_self.mpr (by simp),List.filter_eq_self.mpr (by simp),el];rfl
  ·rintro Γ ⟨v2,rfl⟩
   rw [au,e1,List.take_of_length_le (Nat.le_of_eq (au _ _))]
   exact ao (bg (cI 1 rfl (aE (by rw [List.length_append,List.length_map,au];omega))) rfl)
abbrev yw:Stmt:=top qO
theorem As:aC ["web"] ["web"] (ai yw):=⟨rfl,rfl,rfl,by decide +kernel,rfl,by decide +kernel,by decide +kernel⟩
def BX:cq:=λK ps T=>∃v:ax,ps=[⟨bx,v⟩]/\ba v/\T=bE K w6 (λ_=>True)
theorem Ec (CW:aF P w K mg base "is_web" 5 (aQ Fd K))(F:bH K "need_web" "need_web" yw f fd)(hm:mg "need_web"=some (.ref f))(hb:Binds K fd ["web"] []):aF P w K mg base "need_web" 6 (aQ BX K):=by
 have nd:=As.nd
 refine Ax F As hm hb (λqs T ⟨_,e,_⟩=>by rw [e];rfl) (λcdv A outer s H E qs T hr hS=>?_)
 obtain ⟨v,rfl,hv,rfl⟩:=hS
 have pl:=hv.pl
 have rl:=hv.rl
 refine ⟨λ_ _ _=>⟨(),rfl,trivial⟩,?_⟩
 change WS _ _ [.im bx v] _ _
 refine ao (bh (cD (cc (bt CW hr (ah (aa 0 rfl) aw) ⟨v,rfl,by omega,by omega,rfl⟩))) (λh=>?_) (λh=>aV trivial))
 rw [hv.DU] at h;exact absurd h (by decide)
abbrev yz:Stmt:=top tX
theorem B0:aC ["row","part","place"] ["row","part","place"] (ai yz):=⟨rfl,rfl,rfl,by decide +kernel,rfl,by decide +kernel,by decide +kernel⟩
def Fi:cq:=λK ps T=>∃(r:Row) (p q:Int),ps=[⟨aB,r⟩,⟨ae,p⟩,⟨ae,q⟩]/\T=bE K ae (· =fU p q r)
theorem Di (F:bH K "row_at" "row_at" yz f fd)(hm:mg "row_at"=some (.ref f))(hb:Binds K fd ["row","part","place"] []):aF P w K mg base "row_at" 1 (aQ Fi K):=by
 have nd:=B0.nd
 refine bD F B0 hm hb (λqs T ⟨_,_,_,e,_⟩=>by rw [e];rfl) (λcdv A outer s H E qs T hr hS=>?_)
 obtain ⟨r,p,q,rfl,rfl⟩:=hS
 change WS _ _ [.im aB r,.im ae p,.im ae q] _ _
 refine aj (bh (TW.tv (dA (aA ip (dS (aa 0 rfl)) (aa 1 rfl)) λ_=>dI (aA bI (dG (aa 0 rfl)) (c3 (aa 0 rfl))))) (λh=>?_) (λh=>aV ?_))
 ·refine ao (bg ak ?_)
  unfold fU cz
  simp only [Bool.or_eq_true,Bool.not_eq_true',decide_eq_false_iff_not,decide_eq_true_eq] at h
  rcases h with z | z
  ·rw [decide_eq_false z];simp
  ·rw [z];simp
 simp only [Bool.or_eq_false_iff,Bool.not_eq_false',decide_eq_true_eq,decide_eq_false_iff_not] at h
 refine aj (bh (aA bI (c3 (aa 0 rfl)) (aa 2 rfl)) (λh1=>?_) (λh1=>aV ?_))
 ·refine ao (bg ak ?_)
  have h1:=of_decide_eq_true h1
  unfold fU cz
  rw [decide_eq_true h1,decide_eq_true h.1,decide_eq_false (λz=>h.2 (z.trans h1.symm))];rfl
 ·have h1:=of_decide_eq_false h1
  refine ao (bg (sy (aA bI (dG (aa 0 rfl)) (aa 2 rfl)) (λ_=>cO ak) (λ_=>ak)) ?_)
  unfold fU cz
  rw [decide_eq_false h1,decide_eq_true h.1]
  by_cases z:r.2.1=q
  ·rw [decide_eq_true z];rfl
  ·rw [decide_eq_false z];rfl
abbrev qo:Stmt:=top kM
abbrev Bd:List Str:=["web","part","place","of_rows","of_parts"]
theorem Ai:aC Bd ["web","part","place"] (ai qo):=⟨rfl,rfl,rfl,by decide +kernel,rfl,by decide +kernel,by decide +kernel⟩
def Fp:cq:=λK ps T=>∃(v:ax) (p q:Int),ps=[⟨bx,v⟩,⟨ae,p⟩,⟨ae,q⟩]/\ba v/\0<=p/\p < (v.1.length:Int)/\T=i6 K ae (· =cj v p q)
theorem rep0 (n:Nat):(List.replicate n [(0:Int)]).flatten=List.replicate n 0:=by
 induction n with
 | zero=>rfl
 | succ n ih=>rw [List.replicate_succ,List.flatten_cons,ih,List.replicate_succ];rfl
theorem qv {n:Nat}{p:Int}(p0:0<=p)(p1:p < (n:Int))(c:Int):(List.replicate n (0:Int)).set p.toNat c=(ups 0 n).map λo=>cz (decide (o=p)) * c:=by
 refine List.ext_getElem? λi=>?_
 unfold ups
 rw [List.getElem?_map,List.getElem?_map]
 by_cases hi:i < n
 ·rw [List.getElem?_range hi]
  by_cases e:p.toNat=i
  ·subst e
   rw [List.getElem?_set_self (by simpa using hi)]
   simp
   rw [show max p 0=p by omega]
   simp [cz]
  ·rw [List.getElem?_set_ne e,List.getElem?_replicate,if_pos hi]
   simp
   rw [decide_eq_false (by omega)];simp [cz]
 ·rw [List.getElem?_eq_none (by simpa using hi),List.getElem?_eq_none (by simpa using hi)];rfl
theorem Bi (n:Nat):List.replicate n (0:Int)=(ups 0 n).map λ_=>0:=by
 unfold ups
 rw [List.map_map]
 refine List.ext_getElem? λi=>?_
 rw [List.getElem?_map,List.getElem?_replicate]
 by_cases hi:i < n
 ·rw [if_pos hi,List.getElem?_range hi];rfl
 ·rw [if_neg hi,List.getElem?_eq_none (by simpa using hi)];rfl
theorem Ee (M:bO mg)(CR:aF P w K mg base "row_at" 1 (aQ Fi K))(F:bH K "place_relation" "place_relation" qo f fd)(hm:mg "place_relation"=some (.ref f))(hb:Binds K fd ["web","part","place"] []):aF P w K mg base "place_relation" 2 (aQ Fp K):=by
 have nd:=Ai.nd
 have ndc:List.Nodup [("row":Str),"part","place"]:=by decide
 obtain ⟨t1,hB⟩:=M.begin_
 obtain ⟨t2,hE⟩:=M.end_
 refine bD F Ai hm hb (λqs T ⟨_,_,_,e,_⟩=>by rw [e];rfl) (λcdv A outer s H E qs T hr hS=>?_)
 obtain ⟨v,p,q,rfl,hv,p0,p1,rfl⟩:=hS
 have pl:=hv.pl
 have rl:=hv.rl
 change WS _ _ [.im (ay (af ae) (af aB)) v,.im ae p,.im ae q,.no,.no] _ _
 refine aj (fI 3 (own:=["row"]) (fr:=["part","place"]) (ix:=[1,2]) (ra:=aB) (rb:=ae) (p:=λ_=>true) (f:=fU p q) (bb (so:=ai qo) (N0:=Bd) rfl rfl (λx h=>aT h) (by decide +kernel)) (bj (aJ (aa 0 rfl)))
  (λC s H ex=>aG 0) (λx=>⟨.inr rfl,.inl rfl,.inl rfl,trivial⟩) (λC s H ex x hx=>cy) (λC s H ex x hx _=>bt CR hr (ah (aa 0 rfl) (ah (aa 1 rfl) (ah (aa 2 rfl) aw))) ⟨_,_,_,rfl,rfl⟩) ?_)
 rw [List.filter_eq_self.mpr (by simp)]
 refine aj (bG 4 (r:=ae) (i5 (bc.im (aN (aZ ak aY) (by show 1<=sizeLine;decide))) (aM M.len (bQ (aa 0 rfl))) (by omega) (by omega) (aE (by simp;omega))) ?_)
 have el:((v.1.length:Int)).toNat=v.1.length:=by omega
 rw [rep0,el]
 have ixp:dO (List.replicate v.1.length (0:Int)).length p=some p.toNat:=dH p0 (by rw [List.length_replicate];exact p1)
 have fin:∀ys:List Int,ys=(ups 0 v.1.length).map (gp p q)->WS (cL dQ P w K mg base Bd "place_relation" (ai qo) f cdv A outer s H E).c8 ((br qo).drop 3) [.im (ay (af ae) (af aB)) v,.im ae p,.im ae q,.mu ae (v.2.map (fU p q)),.mu ae ys] (λ_=>False) (i6 K ae (· =cj v p q)):=by
  rintro ys rfl
  exact ao (jR (f7 (cI 3 rfl (aE (by rw [List.length_map];omega))) (cI 4 rfl (aE (by rw [List.length_map,au];omega))) (aE (by rw [List.length_map,List.length_map,au];omega))) rfl)
 refine aj (bh (aA bI (aa 2 rfl) (cB hB)) (λh=>?_) (λh=>?_))
 ·have h:q=0:=of_decide_eq_true h
  refine ao (eN 4 ak (aa 1 rfl) rfl rfl ixp ?_)
  refine fin _ ?_
  rw [qv p0 p1]
  apply List.map_congr_left
  intro o _
  unfold gp
  rw [h];simp [cz]
 ·have h:¬q=0:=of_decide_eq_false h
  refine ao (bh (aA bI (aa 2 rfl) (cB hE)) (λh1=>?_) (λh1=>aV ?_))
  ·have h1:q=1:=of_decide_eq_true h1
   refine ao (eN 4 (cO ak) (aa 1 rfl) rfl rfl ixp ?_)
   refine fin _ ?_
   rw [qv p0 p1]
   apply List.map_congr_left
   intro o _
   unfold gp
   rw [h1];simp [cz]
  ·have h1:¬q=1:=of_decide_eq_false h1
   refine fin _ ?_
   rw [Bi]
   apply List.map_congr_left
   intro o _
   unfold gp
   rw [decide_eq_false h,decide_eq_false h1];simp [cz]
abbrev ug:Stmt:=top lF
abbrev ER:List Str:=["web","part","of_rows","of_parts"]
theorem Bg:aC ER ["web","part"] (ai ug):=⟨rfl,rfl,rfl,by decide +kernel,rfl,by decide +kernel,by decide +kernel⟩
def Fu:cq:=λK ps T=>∃(v:ax) (p:Int),ps=[⟨bx,v⟩,⟨ae,p⟩]/\ba v/\0<=p/\p < (v.1.length:Int)/\T=i6 K ae (· =dU v p)
theorem D3 (M:bO mg)(F:bH K "call_relation" "call_relation" ug f fd)(hm:mg "call_relation"=some (.ref f))(hb:Binds K fd ["web","part"] []):aF P w K mg base "call_relation" 1 (aQ Fu K):=by
 have nd:=Bg.nd
 have ndc:List.Nodup [("row":Str),"part"]:=by decide
 refine bD F Bg hm hb (λqs T ⟨_,_,e,_⟩=>by rw [e];rfl) (λcdv A outer s H E qs T hr hS=>?_)
 obtain ⟨v,p,rfl,hv,p0,p1,rfl⟩:=hS
 have pl:=hv.pl
 have rl:=hv.rl
 change WS _ _ [.im (ay (af ae) (af aB)) v,.im ae p,.no,.no] _ _
 refine aj (fI 2 (own:=["row"]) (fr:=["part"]) (ix:=[1]) (ra:=aB) (rb:=ae) (p:=λ_=>true) (f:=λr=>cz (decide (r.2.2.2=p))) (bb (so:=ai ug) (N0:=ER) rfl rfl (λx h=>aT h) (by decide +kernel)) (bj (aJ (aa 0 rfl)))
  (λC s H ex=>aG 0) (λx=>⟨.inr rfl,.inl rfl,trivial⟩) (λC s H ex x hx=>cy) (λC s H ex x hx _=>sy (aA bI (du (aa 0 rfl)) (aa 1 rfl)) (λ_=>ak) (λ_=>ak)) ?_)
 rw [List.filter_eq_self.mpr (by simp)]
 refine aj (bG 3 (r:=ae) (i5 (bc.im (aN (aZ ak aY) (by show 1<=sizeLine;decide))) (aM M.len (bQ (aa 0 rfl))) (by omega) (by omega) (aE (by simp;omega))) ?_)
 have el:((v.1.length:Int)).toNat=v.1.length:=by omega
 rw [rep0,el]
 refine aj (eN 3 (cO ak) (aa 1 rfl) rfl rfl (dH p0 (by rw [List.length_replicate];exact p1)) ?_)
 rw [qv p0 p1]
 refine ao (jR (f7 (cI 2 rfl (aE (by rw [List.length_map];omega))) (cI 3 rfl (aE (by rw [List.length_map,au];omega))) (aE (by rw [List.length_map,List.length_map,au];omega))) ?_)
 unfold dU
 congr 1
 apply List.map_congr_left
 intro o _
 cases decide (o=p)<;>rfl
abbrev xQ:Stmt:=top pj
abbrev nRL:List Str:=["web","told","part","size","place"]
theorem AD:aC nRL ["web"] (ai xQ):=⟨rfl,rfl,rfl,by decide +kernel,rfl,by decide +kernel,by decide +kernel⟩
def Ff:cq:=λK ps T=>∃v:ax,ps=[⟨bx,v⟩]/\ba v/\T=ui (· =eF v)
theorem C9 (M:bO mg)(CN:aF P w K mg base "need_web" 6 (aQ BX K))(CP:aF P w K mg base "place_relation" 2 (aQ Fp K))(CC:aF P w K mg base "call_relation" 1 (aQ Fu K))(F:bH K "relations" "relations" xQ f fd)(hm:mg "relations"=some (.ref f))(hb:Binds K fd ["web"] []):aF P w K mg base "relations" 7 (aQ Ff K):=by
 have nd:=AD.nd
 have CP:=CP.mono (show 2<=6 by decide)
 have CC:=CC.mono (show 1<=6 by decide)
 obtain ⟨t1,hFP⟩:=M.firstPart
 refine bD F AD hm hb (λqs T ⟨_,e,_⟩=>by rw [e];rfl) (λcdv A outer s H E qs T hr hS=>?_)
 obtain ⟨v,rfl,hv,rfl⟩:=hS
 have pl:=hv.pl
 have rl:=hv.rl
 change WS _ _ [.im (ay (af ae) (af aB)) v,.no,.no,.no,.no] _ _
 have el:((v.1.length:Int)).toNat=v.1.length:=by omega
 have hsl:∀{n:Nat},n<=10000->n < sizeLine:=λh=>Nat.lt_of_le_of_lt h (by decide)
 refine aj (se CN hr (ah (aa 0 rfl) aw) ⟨v,rfl,hv,rfl⟩ ?_)
 refine aj (bG 1 (r:=ae) (aN aY (by decide)) ?_)
 refine WS.rH 1 rfl λa=>?_
 refine aj (bS (r:=ay ae ae) (λi Γ=>∃as v2 v3 v4,Γ=[.im (ay (af ae) (af aB)) v,.ob (cC a as (((ups 0 v.1.length).take i).flatMap (cY v))),v2,v3,v4])
  (kC M.enumerate (bQ (aa 0 rfl))) (dC 2 3) ⟨_,_,_,_,rfl⟩ ?_ ?_)
 ·rintro i x Γ hx ⟨as,v2,v3,v4,rfl⟩
  obtain ⟨e1,e2⟩:=iY hx
  have il:=(List.getElem?_eq_some_iff.mp e2).1
  have hp:(ups 0 v.1.length)[i]?=some (i:Int):=by unfold ups;rw [List.getElem?_map,List.getElem?_range il];simp
  have tk:=eE hp
  have ex:v.1.getD ((i:Int)).toNat 0=x.2:=by rw [List.getD_eq_getElem?_getD,show ((i:Int)).toNat=i by omega,e2];rfl
  have nb:=hv.sz _ (List.mem_of_getElem? e2)
  have hfl:=gc v hv ((ups 0 v.1.length).take i)
  rw [List.length_take,au] at hfl
  generalize hB:((ups 0 v.1.length).take i).flatMap (cY v)=B at hfl
  refine ao (bS (r:=ae) (λj Γ=>∃as v4,Γ=[.im (ay (af ae) (af aB)) v,.ob (cC a as (B++((ups 0 x.2.toNat).take j).map (cj v i))),.im ae x.1,.im ae x.2,v4])
   (bB M.range (aa 3 rfl) ⟨by omega,by omega⟩) (aG 4) ⟨as,v4,by simp⟩ ?_ ?_)
  ·rintro j q Γ hq ⟨as,v4,rfl⟩
   have tk2:=eE hq
   refine ao (g7 1 (d9 CP hr (ah (aa 0 rfl) (ah (aa 2 rfl) (ah (aa 4 rfl) aw))) ⟨v,x.1,q,rfl,hv,by omega,by omega,rfl⟩) rfl rfl (hsl (by rw [List.length_append,List.length_map,List.length_take,au];omega)) λb=>?_)
   refine ⟨as++[b],.im ae q,?_⟩
   rw [tk2,List.map_append,← List.append_assoc,e1];rfl
  ·rintro Γ ⟨as,v4,rfl⟩
   rw [au,List.take_of_length_le (Nat.le_of_eq (au _ _))]
   refine ⟨as,.im ae x.1,.im ae x.2,v4,?_⟩
   rw [tk,List.flatMap_append,hB]
   simp [cY,← ex]
 ·rintro Γ ⟨as,v2,v3,v4,rfl⟩
  rw [gq,List.take_of_length_le (Nat.le_of_eq (au _ _))]
  have hfl:=gc v hv (ups 0 v.1.length)
  rw [au] at hfl
  have e1:((v.1.length:Int) - (0 + 1)).toNat=v.1.length - 1:=by omega
  refine aj (bS (r:=ae) (λi Γ=>∃as v2,Γ=[.im (ay (af ae) (af aB)) v,.ob (cC a as ((ups 0 v.1.length).flatMap (cY v)++((ups 1 (v.1.length - 1)).take i).map (dU v))),v2,v3,v4])
   (iC M.range (bu (cB hFP) ak) (aM M.len (bQ (aa 0 rfl))) ⟨by decide,by decide,by omega,by omega⟩) (aG 2) ⟨as,v2,by simp⟩ ?_ ?_)
  ·rintro i p Γ hp ⟨as,v2,rfl⟩
   rw [e1] at hp
   have tk:=eE (lo:=1) hp
   have pb:1<=p/\p < (v.1.length:Int):=by
    obtain ⟨q1,q2⟩:=gz hp
    omega
   refine ao (g7 1 (d9 CC hr (ah (aa 0 rfl) (ah (aa 2 rfl) aw)) ⟨v,p,rfl,hv,by omega,by omega,rfl⟩) rfl rfl (hsl (by rw [List.length_append,List.length_map,List.length_take,au];omega)) λb=>?_)
   refine ⟨as++[b],.im ae p,?_⟩
   rw [tk,List.map_append,← List.append_assoc];rfl
  ·rintro Γ ⟨as,v2,rfl⟩
   rw [au,e1,List.take_of_length_le (Nat.le_of_eq (au _ _))]
   exact ao (vm 1 rfl rfl)
end
end K1
namespace Fc
open PySem PySem.Spec L2
open PyProof.Rows hiding St
section
variable {X:Cx}{Γ Γ1 Γ2 Γ3:Ga}{α β γ δ:Type}{N:Ga->Prop}{T:RT}
theorem zj (i:Nat){x:Str}{p1 pos:Pos}{r:Rep α}{xs:List α}{P:List α->Prop}(hΓ:Γ[i]?=some (.mu r xs))(hz:xs.length<=sizeLine)(h:P xs)(hN:autoParam (X.N[i]?=some x) Fc.ag)(hv:autoParam (bR X.env.scope x) Fc.bq)
 (hd:autoParam ((x==("__debug__":Str))=false) Fc.av) (hcd:autoParam ((x==("__classdict__":Str))=false) Fc.av):W1 X (.Return (some (.Name x p1)) pos) Γ N (i6 X.K r P):=λσ H0 R0 H R E D dn dr=>by
 obtain ⟨a,vs,ea,ha,hR,pp⟩:=E.ent i _ hΓ
 exact sS (e7 (aU hN hv hd hcd)) ⟨.ref a,at_of ea,dr _ H R E.ext ⟨a,vs,xs,rfl,E.new i _ a hΓ rfl ea,ha,hR,pp,hz,h⟩⟩
theorem zh {j:Nat}{pos:Pos}:EV X (.Constant .none j pos) Γ w6 () Γ:=λ_ _ _ _ _ E _ q=>eS uk (q _ _ _ E (ar.refl _) rfl)
end
section
variable {P:Program}{w:World}{K:PySem.W.Frag}{mg:Str->Option Value}{base:Heap}{α:Type}
end
section
variable {X:Cx}{Γ Γ1 Γ2 Γ3:Ga}{α β γ δ:Type}{N:Ga->Prop}{T:RT}
theorem vP:AB X (λx y H Q=>∃p xs i v,x= .ref p/\y= .int i/\0<=i/\aL X.K H p xs/\bW xs i=some v/\Q v H):=by
 intro pins s σ H x y v u Q I rx ry h
 obtain ⟨p,xs,i,z,rfl,rfl,h0,hq,he,q⟩:=h
 cases rx
 obtain ⟨t,rfl⟩:=ry
 obtain ⟨its,r,pl,hz⟩:=I.list hq
 obtain ⟨j,h1,h2,h3,h4,h5⟩:=m8 he
 obtain ⟨w,ew,rw'⟩:=r.get h2
 have hl:=r.length
 have hn:=iV
 have hj:i.toNat=j:=by
  rw [seqIndex_of h0 h5] at h1
  exact Option.some.inj h1
 exact wpAny_getItem_list pl.isList h0 (by omega) (by rw [hj];simpa using ew) ⟨z,H,I,rw',q⟩
end
section
variable {X:Cx}{Γ Γ1 Γ2 Γ3:Ga}{α β γ δ:Type}{N:Ga->Prop}{T:RT}
variable {r:Rep α}{as:List Addr}{xss:List (List α)}{x:Str}{p1:Pos}{a:Addr}{j:Nat}{xs:List α}{p2:Pos}{H R:Hp}{b:Expr}{pos:Pos}{K:PySem.W.Frag}{e:Expr}{ap cp:Pos}
def fX (K:PySem.W.Frag)(r:Rep α)(H R:Hp)(as:List Addr)(xss:List (List α)):Prop:=as.length=xss.length/\∀(i:Nat) (b:Addr) (xs:List α),as[i]?=some b->xss[i]?=some xs->∃ws,H b=some (.lst ws)/\PySem.Paired (r.R K R) ws xs
theorem fX.one (h:fX K r H R as xss){b:Addr}(hb:b∈as):∃ws,H b=some (.lst ws):=by
 obtain ⟨i,hi,rfl⟩:=List.mem_iff_getElem.mp hb
 obtain ⟨ws,h1,_⟩:=h.2 i _ _ (List.getElem?_eq_getElem hi) (List.getElem?_eq_getElem (by rw [← h.1];exact hi))
 exact ⟨ws,h1⟩
theorem fX.loc {H' R':Hp}(h:fX K r H R as xss)(e:∀a∈as,H' a=H a)(s:ar R R'):fX K r H' R' as xss:=
 ⟨h.1,λi b xs h1 h2=>by
   obtain ⟨ws,q1,q2⟩:=h.2 i b xs h1 h2
   exact ⟨ws,(e b (List.mem_of_getElem? h1)).trans q1,Paired.map (λ_ _=>r.mono s) q2⟩⟩
theorem fX.put (h:fX K r H R as xss)(nd:as.Nodup){b:Addr}{ws:List V}(hb:as[j]?=some b)(hp:PySem.Paired (r.R K R) ws xs):fX K r (upd H b (.lst ws)) R as (xss.set j xs):=by
 refine ⟨by rw [List.length_set];exact h.1,λi c q h1 h2=>?_⟩
 by_cases hij:i=j
 ·subst hij
  rw [hb] at h1;cases h1
  have hl:i < xss.length:=by rw [← h.1];exact (List.getElem?_eq_some_iff.mp hb).1
  rw [List.getElem?_set_self hl] at h2;cases h2
  exact ⟨ws,az,hp⟩
 ·rw [List.getElem?_set_ne (Ne.symm hij)] at h2
  have:c≠b:=λz=>by
   subst z
   have l1:=(List.getElem?_eq_some_iff.mp h1)
   have l2:=(List.getElem?_eq_some_iff.mp hb)
   exact hij ((List.getElem_inj (h₀:=l1.1) (h₁:=l2.1) nd).mp (l1.2.trans l2.2.symm))
  rw [aH this];exact h.2 i c q h1 h2
theorem fX.snoc (h:fX K r H R as xss){b:Addr}{ws:List V}(hb:H b=some (.lst ws))(hp:PySem.Paired (r.R K R) ws xs):fX K r H R (as++[b]) (xss++[xs]):=by
 refine ⟨by rw [List.length_append,List.length_append,h.1];rfl,λi c q h1 h2=>?_⟩
 rcases Nat.lt_or_ge i as.length with hl | hl
 ·rw [List.getElem?_append_left hl] at h1
  rw [List.getElem?_append_left (by rw [← h.1];exact hl)] at h2
  exact h.2 i c q h1 h2
 ·rw [List.getElem?_append_right hl] at h1
  rw [List.getElem?_append_right (by rw [← h.1];exact hl)] at h2
  have e:i - as.length=0:=by
   have:=(List.getElem?_eq_some_iff.mp h1).1
   simp at this;omega
  rw [e] at h1
  rw [← h.1,e] at h2
  simp at h1 h2
  rw [← h1,← h2];exact ⟨ws,hb,hp⟩
def cH (r:Rep α)(a:Addr)(as:List Addr)(xss:List (List α)):k4 where
 fp:=a::as
 R:=λK H R v=>v= .ref a/\H a=some (.lst (as.map .ref))/\fX K r H R as xss/\(a::as).Nodup
 loc:=λhH hR ⟨e,h1,h2,h3⟩=>⟨e,(hH a List.mem_cons_self).trans h1,h2.loc (λb hb=>hH b (List.mem_cons_of_mem _ hb)) hR,h3⟩
 has:=λ⟨e,h1,h2,h3⟩ b hb=>by
  rcases List.mem_cons.mp hb with rfl | hb
  ·rw [h1];exact Option.some_ne_none _
  ·obtain ⟨r,hr⟩:=h2.one hb
   rw [hr];exact Option.some_ne_none _
theorem WS.DB (i:Nat){sts:List Stmt}{rr:Rep β}(hΓ:Γ[i]?=some (.mu rr []))(h:∀a,WS X sts (Γ.set i (.ob (cH r a [] []))) N T):WS X sts Γ N T:=λσ H0 R0 H R E D dn dr=>by
 obtain ⟨a,vs,ea,ha,hR,pp⟩:=E.ent i _ hΓ
 cases pp
 refine h a σ H0 R0 H R (E.tell hΓ ⟨⟨.ref a,ea,rfl,ha,⟨rfl,λi b r h1=>by simp at h1⟩,by simp⟩,λb hb=>?_⟩ λb w=>?_) D dn dr
 ·rw [show b=a by simpa [cH] using hb];exact hR
 ·rw [show b=a by simpa [Ent.fp,cH] using w];exact cb.mpr ea
theorem A7 {k:Int}{b:Addr}(hk:dO as.length k=some j)(hb:as[j]?=some b):bW (as.map V.ref) k=some (.ref b):=by
 unfold bW
 rw [List.length_map,hk]
 show (as.map V.ref)[j]?=_
 rw [List.getElem?_map,hb];rfl
theorem jX (i:Nat){k:Int}{σ:St}{H0 R0:Hp}{Q:VK}(hb:EV X b Γ ae k Γ)(hΓ:Γ[i]?=some (.ob (cH r a as xss)))(hk:dO xss.length k=some j)(E:aq X.K σ H0 R0 H R Γ)
 (q:∀c H' R',aq X.K σ H0 R0 H' R' Γ->ar R R'->as[j]?=some c->Q (.ref c) H')
 (hN:X.N[i]?=some x) (hv:bR X.env.scope x) (hd:(x==("__debug__":Str))=false) (hcd:(x==("__classdict__":Str))=false) (hsx:dD b):d6 X (.Subscript (.Name x p1) b p2) σ H Q:=by
 obtain ⟨⟨v,ea,rfl,ha,hr,_⟩,hR⟩:=E.ent i _ hΓ
 refine eS (gO fA (aU hN hv hd hcd) aI hsx) ⟨.ref a,at_of ea,hb σ H0 R0 H R E _ λu H2 R2 E2 s2 e2=>?_⟩
 obtain ⟨⟨v,ea2,e3,ha2,hr2,nd⟩,hR2⟩:=E2.ent i _ hΓ
 have hl:j < as.length:=by rw [hr2.1];exact (nu hk).2.1
 exact ⟨a,_,k,.ref as[j],rfl,e2,aL.of ha2,A7 (by rw [hr2.1];exact hk) (List.getElem?_eq_getElem hl),q _ H2 R2 E2 s2 (List.getElem?_eq_getElem hl)⟩
theorem jE (i:Nat){k:Int}{y:α}(hb:EV X b Γ ae k Γ)(he:EV X e Γ r y Γ)(hΓ:Γ[i]?=some (.ob (cH r a as xss)))(hk:dO xss.length k=some j)(hx:xss[j]?=some xs)(hz:xs.length < sizeLine)(h:N (Γ.set i (.ob (cH r a as (xss.set j (xs++[y]))))))
 (hN:autoParam (X.N[i]?=some x) Fc.ag) (hv:autoParam (bR X.env.scope x) Fc.bq)
 (hd:autoParam ((x==("__debug__":Str))=false) Fc.av) (hcd:autoParam ((x==("__classdict__":Str))=false) Fc.av) (hsx:autoParam (dD b) Fc.jG)
 (hsw:autoParam (swapsWith (.Call (.Attribute (.Subscript (.Name x p1) b p2) "append" ap) [e] [] cp) none pos.line X.env=pure false) Fc.ag)
 (hbase:autoParam (attributeBase (.Subscript (.Name x p1) b p2) "append" X.env (eval (.Subscript (.Name x p1) b p2) X.env)=eval (.Subscript (.Name x p1) b p2) X.env) Fc.ag)
 (hfew:autoParam (((backTo cp (starEach [e] X.env)).all (λx=> !x.1)&&(backToKw cp (keywordEach [] X.env)).all (λx=>x.1.isSome)
  &&decide ([e].length + ([]:List Keyword).length + (if ([]:List Keyword).isEmpty then 0 else 1) < 30))=true) Fc.ag)
 (hline:autoParam ((ap.endLine==cp.line)=true) Fc.ag) (hs:autoParam (starEach [e] X.env=(false,eval e X.env)::starEach [] X.env) Fc.ag):W1 X (.Expr (.Call (.Attribute (.Subscript (.Name x p1) b p2) "append" ap) [e] [] cp) pos) Γ N T:=λσ H0 R0 H R E D dn dr=>by
 refine sS (d5 (gr PySem.F.plainAttrs_list PySem.F.slot_list_append PySem.F.type_list_append fC aI (aD aI bp hs) hbase hfew hline hs rfl) hsw) ?_
 refine jX i hb hΓ hk E (λc H1 R1 E1 s1 hc=>?_) hN hv hd hcd hsx
 obtain ⟨⟨v,ea1,rfl,ha1,hr1,nd1⟩,hR1⟩:=E1.ent i _ hΓ
 obtain ⟨ws1,q1,q2⟩:=hr1.2 j c xs hc hx
 refine ⟨.inl ⟨rfl,_,aL.of q1⟩,he σ H0 R0 H1 R1 E1 _ λu H2 R2 E2 s2 e2=>?_⟩
 obtain ⟨⟨v,ea2,rfl,ha2,hr2,nd2⟩,hR2⟩:=E2.ent i _ hΓ
 obtain ⟨ws2,q1,q2⟩:=hr2.2 j c xs hc hx
 obtain ⟨n1,n2⟩:=List.nodup_cons.mp nd2
 have cm:c∈as:=List.mem_of_getElem? hc
 refine ⟨c,ws2,u,rfl,rfl,q1,by rw [q2.length];exact hz,?_⟩
 refine dn σ _ R2 _ (E2.gY (en:=.ob (cH r a as (xss.set j (xs++[y])))) hΓ (List.mem_cons_of_mem _ cm) ⟨⟨.ref a,ea2,rfl,?_,hr2.put n2 hc (bP q2 (.cons e2 .nil)),nd2⟩,hR2⟩ λc w=>.inl w) (s1.trans s2) h
 rw [aH (show a≠c from λz=>n1 (z▸cm))];exact ha2
theorem vN (i:Nat){k:Int}{z:α}(hb:EV X b Γ ae k Γ)(hΓ:Γ[i]?=some (.ob (cH r a as xss)))(hk:dO xss.length k=some j)(hx:xss[j]?=some (xs++[z]))
 (hN:autoParam (X.N[i]?=some x) Fc.ag) (hv:autoParam (bR X.env.scope x) Fc.bq)
 (hd:autoParam ((x==("__debug__":Str))=false) Fc.av) (hcd:autoParam ((x==("__classdict__":Str))=false) Fc.av) (hsx:autoParam (dD b) Fc.jG)
 (hbase:autoParam (attributeBase (.Subscript (.Name x p1) b p2) "pop" X.env (eval (.Subscript (.Name x p1) b p2) X.env)=eval (.Subscript (.Name x p1) b p2) X.env) Fc.ag)
 (hline:autoParam ((ap.endLine==cp.line)=true) Fc.ag):EV X (.Call (.Attribute (.Subscript (.Name x p1) b p2) "pop" ap) [] [] cp) Γ r z (Γ.set i (.ob (cH r a as (xss.set j xs)))):=λσ H0 R0 H R E Q q=>by
 refine eS (tW PySem.F.plainAttrs_list PySem.F.slot_list_pop PySem.F.type_list_pop va aI hbase hline) ?_
 refine jX i hb hΓ hk E (λc H1 R1 E1 s1 hc=>?_) hN hv hd hcd hsx
 obtain ⟨⟨v,ea1,rfl,ha1,hr1,nd1⟩,hR1⟩:=E1.ent i _ hΓ
 obtain ⟨ws,q1,q2⟩:=hr1.2 j c _ hc hx
 obtain ⟨n1,n2⟩:=List.nodup_cons.mp nd1
 have cm:c∈as:=List.mem_of_getElem? hc
 obtain ⟨w,e3,e4⟩:=dt q2 (show (xs++[z])[xs.length]?=some z by simp)
 have hd:=iw q2
 rw [List.dropLast_concat] at hd
 refine ⟨.inl ⟨rfl,_,aL.of q1⟩,c,ws,w,rfl,rfl,q1,by rw [q2.length,List.length_append];simpa using e3,?_⟩
 refine q w _ R1 (E1.gY (en:=.ob (cH r a as (xss.set j xs))) hΓ (List.mem_cons_of_mem _ cm) ⟨⟨.ref a,ea1,rfl,?_,hr1.put n2 hc hd,nd1⟩,hR1⟩ λc w=>.inl w) s1 e4
 rw [aH (show a≠c from λz=>n1 (z▸cm))];exact ha1
theorem zJ (i:Nat){p3:Pos}{k l:Int}{z:α}(hb:EV X b Γ ae k Γ)(he:EV X e Γ ae l Γ)(hΓ:Γ[i]?=some (.ob (cH r a as xss)))(hk:dO xss.length k=some j)(hx:xss[j]?=some xs)(hz:bW xs l=some z)
 (hN:autoParam (X.N[i]?=some x) Fc.ag) (hv:autoParam (bR X.env.scope x) Fc.bq)
 (hd:autoParam ((x==("__debug__":Str))=false) Fc.av) (hcd:autoParam ((x==("__classdict__":Str))=false) Fc.av) (hsx:autoParam (dD b) Fc.jG) (hsy:autoParam (dD e) Fc.jG):EV X (.Subscript (.Subscript (.Name x p1) b p2) e p3) Γ r z Γ:=λσ H0 R0 H R E Q q=>by
 refine eS (gO fA aI aI hsy) ?_
 refine jX i hb hΓ hk E (λc H1 R1 E1 s1 hc=>?_) hN hv hd hcd hsx
 refine he σ H0 R0 H1 R1 E1 _ λu H2 R2 E2 s2 e2=>?_
 obtain ⟨⟨v,ea2,rfl,ha2,hr2,nd2⟩,hR2⟩:=E2.ent i _ hΓ
 obtain ⟨ws,q1,q2⟩:=hr2.2 j c _ hc hx
 obtain ⟨w,e3,e4⟩:=fL q2 hz
 exact ⟨c,ws,l,w,rfl,e2,aL.of q1,e3,q w H2 R2 E2 (s1.trans s2) e4⟩
theorem DP (i:Nat){k:Int}(hb:EV X b Γ ae k Γ)(hΓ:Γ[i]?=some (.ob (cH r a as xss)))(hk:dO xss.length k=some j)(hx:xss[j]?=some xs)
 (hN:autoParam (X.N[i]?=some x) Fc.ag) (hv:autoParam (bR X.env.scope x) Fc.bq)
 (hd:autoParam ((x==("__debug__":Str))=false) Fc.av) (hcd:autoParam ((x==("__classdict__":Str))=false) Fc.av) (hsx:autoParam (dD b) Fc.jG)
 (ht:autoParam (∀whole,isTrue (.Subscript (.Name x p1) b p2) X.env whole=(do let v ← whole;standAt (Expr.Subscript (.Name x p1) b p2).pos;holding [v] (truthy v))) Fc.c9):TV X (.Subscript (.Name x p1) b p2) Γ (!xs.isEmpty) Γ:=λσ H0 R0 H R E Q q=>by
 refine tS (pN aI ht) ?_
 refine jX i hb hΓ hk E (λc H1 R1 E1 s1 hc=>?_) hN hv hd hcd hsx
 obtain ⟨⟨v,ea2,rfl,ha2,hr2,nd2⟩,hR2⟩:=E1.ent i _ hΓ
 obtain ⟨ws,q1,q2⟩:=hr2.2 j c _ hc hx
 refine ⟨!xs.isEmpty,.inl ⟨ws,aL.of q1,?_⟩,q H1 R1 E1 s1⟩
 cases q2<;>rfl
theorem sG (i:Nat){ys:List α}(he:bc X e Γ r ys Γ1)(hΓ:Γ[i]?=some (.ob (cH r a as xss)))(hΓ1:Γ1[i]?=some (.ob (cH r a as xss)))(hz:xss.length < sizeLine)(h:∀b,N (Γ1.set i (.ob (cH r a (as++[b]) (xss++[ys])))))
 (hN:autoParam (X.N[i]?=some x) Fc.ag) (hv:autoParam (bR X.env.scope x) Fc.bq)
 (hd:autoParam ((x==("__debug__":Str))=false) Fc.av) (hcd:autoParam ((x==("__classdict__":Str))=false) Fc.av)
 (hsw:autoParam (swapsWith (.Call (.Attribute (.Name x p1) "append" ap) [e] [] cp) none pos.line X.env=pure false) Fc.ag)
 (hbase:autoParam (attributeBase (.Name x p1) "append" X.env (eval (.Name x p1) X.env)=eval (.Name x p1) X.env) Fc.ag)
 (hfew:autoParam (((backTo cp (starEach [e] X.env)).all (λx=> !x.1)&&(backToKw cp (keywordEach [] X.env)).all (λx=>x.1.isSome)
  &&decide ([e].length + ([]:List Keyword).length + (if ([]:List Keyword).isEmpty then 0 else 1) < 30))=true) Fc.ag)
 (hline:autoParam ((ap.endLine==cp.line)=true) Fc.ag) (hs:autoParam (starEach [e] X.env=(false,eval e X.env)::starEach [] X.env) Fc.ag):W1 X (.Expr (.Call (.Attribute (.Name x p1) "append" ap) [e] [] cp) pos) Γ N T:=λσ H0 R0 H R E D dn dr=>by
 obtain ⟨⟨v,ea,rfl,ha,hr,_⟩,hR⟩:=E.ent i _ hΓ
 refine sS (d5 (gr PySem.F.plainAttrs_list PySem.F.slot_list_append PySem.F.type_list_append fC (aU hN hv hd hcd) (aD aI bp hs) hbase hfew hline hs rfl) hsw) ?_
 refine ⟨.ref a,at_of ea,.inl ⟨rfl,_,aL.of ha⟩,he σ H0 R0 H R E _ λb vs H2 R2 E2 s2 hb hRb h0b offb pp _=>?_⟩
 obtain ⟨⟨v,ea2,rfl,ha2,hr2,nd2⟩,hR2⟩:=E2.ent i _ hΓ1
 obtain ⟨n1,n2⟩:=List.nodup_cons.mp nd2
 have hl:as.length=xss.length:=hr2.1
 have bne:b∉a::as:=λz=>offb i _ hΓ1 z
 have bna:b≠a:=λz=>bne (z▸List.mem_cons_self)
 refine ⟨a,_,.ref b,rfl,rfl,ha2,by rw [List.length_map,hl];exact hz,?_⟩
 refine dn σ _ R2 _ (E2.gY (en:=.ob (cH r a (as++[b]) (xss++[ys]))) hΓ1 List.mem_cons_self ⟨⟨.ref a,ea2,rfl,?_,?_,?_⟩,λc hc=>?_⟩ λc w=>?_) s2 (h b)
 ·rw [az,List.map_append];rfl
 ·refine (hr2.snoc hb pp).loc (λc hc=>aH λz=>?_) (ar.refl _)
  rw [z] at hc
  rcases List.mem_append.mp hc with q | q
  ·exact n1 q
  ·exact bna (List.mem_singleton.mp q).symm
 ·refine List.nodup_cons.mpr ⟨λz=>?_,eT n2 λz=>bne (List.mem_cons_of_mem _ z)⟩
  rcases List.mem_append.mp z with q | q
  ·exact n1 q
  ·exact bna (List.mem_singleton.mp q).symm
 ·rcases List.mem_cons.mp hc with rfl | hc
  ·exact hR2 _ List.mem_cons_self
  ·rcases List.mem_append.mp hc with q | q
   ·exact hR2 _ (List.mem_cons_of_mem _ q)
   ·rw [List.mem_singleton.mp q];exact hRb
 ·rcases List.mem_cons.mp w with rfl | w
  ·exact .inl List.mem_cons_self
  ·rcases List.mem_append.mp w with q | q
   ·exact .inl (List.mem_cons_of_mem _ q)
   ·rw [List.mem_singleton.mp q];exact .inr ⟨h0b,offb⟩
def xT (K:PySem.W.Frag)(r:Rep α)(P:List (List α)->Prop):RT:=λH0 v H' R'=>∃a as xss,v= .ref a/\(∀b∈a::as,H0 b=none/\R' b=none)/\H' a=some (.lst (as.map .ref))/\fX K r H' R' as xss/\(a::as).Nodup/\P xss
theorem t9 (i:Nat){P:List (List α)->Prop}(hΓ:Γ[i]?=some (.ob (cH r a as xss)))(h:P xss)(hN:autoParam (X.N[i]?=some x) Fc.ag)(hv:autoParam (bR X.env.scope x) Fc.bq)
 (hd:autoParam ((x==("__debug__":Str))=false) Fc.av) (hcd:autoParam ((x==("__classdict__":Str))=false) Fc.av):W1 X (.Return (some (.Name x p1)) pos) Γ N (xT X.K r P):=λσ H0 R0 H R E D dn dr=>by
 obtain ⟨⟨v,ea,rfl,ha,hr,nd⟩,hR⟩:=E.ent i _ hΓ
 exact sS (e7 (aU hN hv hd hcd)) ⟨.ref a,at_of ea,dr _ H R E.ext ⟨a,as,xss,rfl,λb hb=>⟨E.nw i _ b hΓ hb,hR b hb⟩,ha,hr,nd,h⟩⟩
theorem qX (i:Nat){S:cq}{y:Str}{k:Nat}{es:List Expr}{p:Pos}{ps:List Pk}{Pd:List (List α)->Prop}(C:aF X.prog X.w X.K X.mg X.base x k (aQ S X.K))(hr:bA k X.A)(ha:HA X (e::es) Γ ps Γ1)(hS:S X.K ps (xT X.K r Pd))(h:∀a as xss,Pd xss->N (Γ1.set i (.ob (cH r a as xss))))
 (hg:autoParam (Gl X x) Fc.ag) (hdb:autoParam ((x==("__debug__":Str))=false) Fc.av) (he:autoParam (starEach (e::es) X.env=(false,eval e X.env)::starEach es X.env) Fc.ag) (hpl:autoParam ((backTo p2 (starEach es X.env)).any (·.1)=false) Fc.ag)
 (hN:autoParam (X.N.Nodup) Fc.fj) (hi:autoParam (X.N[i]?=some y) Fc.ag) (hx:autoParam (Loc X.env.scope y) Fc.fi)
 (hs:autoParam (swapsWith (.Call (.Name x p) (e::es) [] p2) (some (.Name y p1)) pos.line X.env=pure false) Fc.ag) (hf:autoParam (X.fn y=true∨X.env.scope.names.lookup y=some .local) Fc.iy):
 W1 X (.Assign [.Name y p1] (.Call (.Name x p) (e::es) [] p2) pos) Γ N T:=λσ H0 R0 H R E D dn dr=>
 sS (eY hN hi hx aI hs hf) (eB C hr ha hS E (λH1 R1 v H' R' E1 s1 xx t=>by
  obtain ⟨a,as,xss,rfl,hn,h1,h2,h3,h4⟩:=t
  refine dn _ H' R' _ ((E1.grow xx).setG (en:=.ob (cH r a as xss)) i ⟨⟨.ref a,rfl,rfl,h1,h2,h3⟩,λb hb=>(hn b hb).2⟩ (λb hb=>E1.ext.h.free (hn b hb).1) λb hb j e _ qj w=>?_) (s1.trans xx.r) (h a as xss h4)
  exact (Ent.dz (E1.ent j e qj) w).1 (hn b hb).1) hg hdb he hpl)
def iI (R H:Hp)(l:List Addr):Hp:=λb=>if b∈l then H b else R b
theorem r8 (i:Nat){P:List (List α)->Prop}(hΓ:Γ[i]?=some (.ob (cH r a as xss)))(hz:xss.length<=sizeLine)(hzi:∀xs∈xss,xs.length<=sizeLine)(h:P xss)(hN:autoParam (X.N[i]?=some x) Fc.ag)(hv:autoParam (bR X.env.scope x) Fc.bq)
 (hd:autoParam ((x==("__debug__":Str))=false) Fc.av) (hcd:autoParam ((x==("__classdict__":Str))=false) Fc.av):W1 X (.Return (some (.Name x p1)) pos) Γ N (i6 X.K (af r) P):=λσ H0 R0 H R E D dn dr=>by
 obtain ⟨⟨v,ea,rfl,ha,hr,nd⟩,hR⟩:=E.ent i _ hΓ
 obtain ⟨n1,n2⟩:=List.nodup_cons.mp nd
 have sR:ar R (iI R H as):=λb o q=>by
  unfold iI
  split
  ·rename_i hb
   rw [hR b (List.mem_cons_of_mem _ hb)] at q;cases q
  ·exact q
 have sH:ar (iI R H as) H:=λb o q=>by
  unfold iI at q
  split at q
  ·exact q
  ·exact E.sub b o q
 have pr:PySem.Paired ((af r).R X.K (iI R H as)) (as.map .ref) xss:=by
  have key:∀(bs:List Addr) (yss:List (List α)),(∀b∈bs,b∈as)->fX X.K r H R bs yss->(∀xs∈yss,xs.length<=sizeLine)->PySem.Paired ((af r).R X.K (iI R H as)) (bs.map .ref) yss:=by
   intro bs
   induction bs with
   | nil=>intro yss _ h _;cases yss with
     | nil=>exact .nil
     | cons _ _=>exact absurd h.1 (by simp)
   | cons b bs ih=>intro yss hm h hz;cases yss with
     | nil=>exact absurd h.1 (by simp)
     | cons ys yss=>
       obtain ⟨ws,q1,q2⟩:=h.2 0 b ys rfl rfl
       refine .cons ⟨b,ws,rfl,?_,Paired.map (λ_ _=>r.mono sR) q2,hz ys List.mem_cons_self⟩ (ih yss (λc hc=>hm c (List.mem_cons_of_mem _ hc)) ⟨by simpa using h.1,λi c xs h1 h2=>h.2 (i + 1) c xs (by simpa using h1) (by simpa using h2)⟩ λxs hx=>hz xs (List.mem_cons_of_mem _ hx))
       unfold iI
       rw [if_pos (hm b List.mem_cons_self)];exact q1
  exact key as xss (λ_ h=>h) hr hzi
 refine sS (e7 (aU hN hv hd hcd)) ⟨.ref a,at_of ea,dr _ H (iI R H as) ⟨E.ext.h,E.ext.r.trans sR,sH,λb hb=>?_⟩ ⟨a,_,xss,rfl,E.nw i _ a hΓ List.mem_cons_self,ha,?_,pr,hz,h⟩⟩
 ·unfold iI
  rw [if_neg λz=>hb (E.nw i _ b hΓ (List.mem_cons_of_mem _ z))]
  exact E.ext.old b hb
 ·unfold iI
  rw [if_neg n1];exact hR a List.mem_cons_self
end
end Fc
namespace K1
open PySem L2 Fc
open PySem.Spec hiding Row
def cJ (v:ax)(p k:Int):Prop:=(0<=k/\k < (v.2.length:Int)/\(rowOf v k).1=p)∨k=(v.2.length:Int) + p
def bC (v:ax)(k:Int):Int:=if k < (v.2.length:Int) then (rowOf v k).2.1 else 1
def cM (v:ax)(k:Int):Int:=if k < (v.2.length:Int) then (rowOf v k).2.2.1 else 0
def dk (v:ax)(p:Int):Int->List Int->Int->Prop
 | a,[],b=>a=b
 | a,k::ks,b=>cJ v p k/\bC v k=a/\dk v p (cM v k) ks b
theorem iA {v:ax}{p:Int}:∀{ks:List Int} {a b k:Int},dk v p a (ks++[k]) b↔dk v p a ks (bC v k)/\cJ v p k/\cM v k=b
 | [],a,b,k=>⟨λ⟨h1,h2,h3⟩=>⟨h2.symm,h1,h3⟩,λ⟨h1,h2,h3⟩=>⟨h2,h1.symm,h3⟩⟩
 | x::ks,a,b,k=>by
   show _/\_/\dk v p (cM v x) (ks++[k]) b↔(_/\_/\dk v p (cM v x) ks (bC v k))/\_
   rw [iA]
   constructor
   ·rintro ⟨h1,h2,h3,h4⟩;exact ⟨⟨h1,h2,h3⟩,h4⟩
   ·rintro ⟨⟨h1,h2,h3⟩,h4⟩;exact ⟨h1,h2,h3,h4⟩
theorem qz {v:ax}{p:Int}:∀{ks:List Int} {a b:Int},dk v p a ks b->∀k∈ks,cJ v p k
 | [],_,_,_,k,hk=>absurd hk (by simp)
 | x::ks,a,b,⟨h1,_,h3⟩,k,hk=>by
   rcases List.mem_cons.mp hk with rfl | z
   ·exact h1
   ·exact qz h3 k z
theorem cJ.bd {v:ax}{p k:Int}(p0:0<=p)(p1:p < (v.1.length:Int))(h:cJ v p k):0<=k/\k < (v.2.length:Int) + (v.1.length:Int):=by
 rcases h with ⟨h1,h2,_⟩ | h<;>omega
theorem cJ.place {v:ax}(hv:ba v){p k:Int}(p0:0<=p)(p1:p < (v.1.length:Int))(h:cJ v p k):0<=bC v k/\bC v k < v.1.getD p.toNat 0/\0<=cM v k/\cM v k < v.1.getD p.toNat 0:=by
 have hs:2<=v.1.getD p.toNat 0:=(hv.sz _ (by rw [List.getD_eq_getElem?_getD,List.getElem?_eq_getElem (by omega)];exact List.getElem_mem _)).1
 unfold bC cM
 rcases h with ⟨h1,h2,h3⟩ | h
 ·rw [if_pos h2,if_pos h2]
  have q:=hv.eW (fz h1 h2)
  have a1:=q.s0;have a2:=q.e0;have a3:=q.sn;have a4:=q.en
  rw [h3] at a3 a4
  exact ⟨a1,a3,a2,a4⟩
 ·rw [if_neg (by omega),if_neg (by omega)];omega
def c6 (xs:List Int)(i:Nat):List Int:=xs.set i (xs.getD i 0 - 1)
theorem sI (xs:List Int)(i:Nat):(c6 xs i).length=xs.length:=by unfold c6;rw [List.length_set]
theorem o5:∀(rel xs:List Int) (i:Nat),rel.length=xs.length->i < xs.length->dot rel (c6 xs i)=dot rel xs - rel.getD i 0
 | [],[],i,_,h=>absurd h (by simp)
 | [],_::_,_,e,_=>absurd e (by simp)
 | _::_,[],_,e,_=>absurd e (by simp)
 | a::r,b::s,0,_,_=>by
   show a * (b - 1) + dot r s=a * b + dot r s - a
   rw [Int.mul_sub,Int.mul_one];omega
 | a::r,b::s,i + 1,e,h=>by
   have ih:=o5 r s i (by simpa using e) (by simpa using h)
   have e1:c6 (b::s) (i + 1)=b::c6 s i:=rfl
   rw [e1]
   show a * b + dot r (c6 s i)=a * b + dot r s - (a::r).getD (i + 1) 0
   rw [ih]
   have:(a::r).getD (i + 1) 0=r.getD i 0:=by simp
   rw [this];omega
theorem l4:∀(rel xs:List Int),(∀i,i < rel.length->0<=rel.getD i 0 * xs.getD i 0)->0<=dot rel xs
 | [],xs,_=>by cases xs<;>exact Int.le_refl _
 | _::_,[],_=>Int.le_refl _
 | a::r,b::s,h=>by
   have h0:=h 0 (by simp)
   have ih:=l4 r s λi hi=>by have:=h (i + 1) (by simpa using hi);simpa using this
   show 0<=a * b + dot r s
   have:0<=a * b:=by simpa using h0
   omega
theorem sL {xs:List Int}{i j:Nat}(h:i < xs.length):(c6 xs i).getD j 0=xs.getD j 0 - (if i=j then 1 else 0):=by
 unfold c6
 by_cases e:i=j
 ·subst e
  simp [List.getD_eq_getElem?_getD,h]
 ·simp [List.getD_eq_getElem?_getD,e]
theorem pZ {v:ax}{p q k:Int}(p0:0<=p)(p1:p < (v.1.length:Int))(h:cJ v p k):(cj v p q).getD k.toNat 0=cz (decide (cM v k=q)) - cz (decide (bC v k=q)):=by
 unfold cj bC cM
 rcases h with ⟨h1,h2,h3⟩ | h
 ·rw [if_pos h2,if_pos h2,nY (by rw [List.length_map];omega),kj h1 h2,fU,h3]
  simp [cz]
 ·rw [if_neg (by omega),if_neg (by omega),lP (by rw [List.length_map];omega),List.length_map,lj (by omega)]
  have e:((k.toNat - v.2.length:Nat):Int)=p:=by omega
  rw [e,gp]
  simp [cz,eq_comm]
theorem u9 {v:ax}{p q:Int}{i:Nat}(p0:0<=p)(hi:i < v.2.length + v.1.length)(h:¬cJ v p i):(cj v p q).getD i 0=0:=by
 unfold cj
 by_cases h2:i < v.2.length
 ·have:=kj (v:=v) (k:=(i:Int)) (by omega) (by omega) (fU p q)
  rw [show ((i:Int)).toNat=i by omega] at this
  rw [nY (by rw [List.length_map];omega),this,fU]
  have hp:(rowOf v i).1≠p:=λe=>h (.inl ⟨by omega,by omega,e⟩)
  simp [cz,hp]
 ·rw [lP (by rw [List.length_map];omega),List.length_map,lj (by omega),gp]
  have hp:((i - v.2.length:Nat):Int)≠p:=λe=>h (.inr (by omega))
  rw [decide_eq_false hp]
  simp [cz]
structure fW (v:ax) (p:Int) (ns:List Int) (left:List Int) (lv:List (List Int)) (way:List (Int×Int)) (back:List Int) (place:Int):Prop where
 len:left.length=ns.length
 nn:∀k,cJ v p k->0<=left.getD k.toNat 0
 cnt:∀k,cJ v p k->left.getD k.toNat 0 + ((way.map (·.2)).count k:Nat) + (back.count k:Nat)=ns.getD k.toNat 0
 wsrc:∀t∈way,t.1=bC v t.2
 wpath:dk v p 1 (way.map (·.2)) place
 tail:∃c,dk v p c back.reverse 1/\∀q,0<=q->q < v.1.getD p.toNat 0->dot (cj v p q) left=cz (decide (c=q)) - cz (decide (place=q))
 done:∀k∈back,∀e,cJ v p e->bC v e=cM v k->left.getD e.toNat 0=0
 lvl:(lv.length:Int)=v.1.getD p.toNat 0
 lv1:∀(q:Nat) xs,lv[q]?=some xs->∀k∈xs,cJ v p k/\bC v k=q
 lv2:∀(q:Nat) xs,lv[q]?=some xs->∀e,cJ v p e->bC v e=q->e∈xs∨left.getD e.toNat 0=0
 plc:0<=place/\place < v.1.getD p.toNat 0
variable {v:ax}{p:Int}{ns left:List Int}{lv:List (List Int)}{way:List (Int×Int)}{back:List Int}{place:Int}
def bF (left:List Int)(xs:List Int):List Int:=(xs.reverse.dropWhile λk=>decide (left.getD k.toNat 0=0)).reverse
theorem uG {left xs:List Int}{k:Int}(h:k∈xs):k∈bF left xs∨left.getD k.toNat 0=0:=by
 unfold bF
 rw [List.mem_reverse]
 have h:k∈xs.reverse:=List.mem_reverse.mpr h
 generalize xs.reverse=l at h
 induction l with
 | nil=>cases h
 | cons x l ih=>
   rw [List.dropWhile_cons]
   split
   ·rename_i hx
    rcases List.mem_cons.mp h with rfl | z
    ·exact .inr (of_decide_eq_true hx)
    ·exact ih z
   ·exact .inl h
theorem ur {left xs:List Int}{k:Int}(h:k∈bF left xs):k∈xs:=by
 unfold bF at h
 rw [List.mem_reverse] at h
 exact List.mem_reverse.mp (List.dropWhile_sublist _ |>.subset h)
theorem lS {left xs:List Int}(h:bF left xs≠[]):left.getD ((bF left xs).getLast h).toNat 0≠0:=by
 have key:∀l:List Int,∀hl:l.dropWhile (λk=>decide (left.getD k.toNat 0=0))≠[],left.getD ((l.dropWhile λk=>decide (left.getD k.toNat 0=0)).head hl).toNat 0≠0:=by
  intro l
  induction l with
  | nil=>intro hl;exact absurd rfl hl
  | cons x l ih=>
    intro hl
    by_cases hx:left.getD x.toNat 0=0
    ·have e:(x::l).dropWhile (λk=>decide (left.getD k.toNat 0=0))=l.dropWhile λk=>decide (left.getD k.toNat 0=0):=by rw [List.dropWhile_cons,if_pos (decide_eq_true hx)]
     simp only [e] at hl ⊢
     exact ih hl
    ·have e:(x::l).dropWhile (λk=>decide (left.getD k.toNat 0=0))=x::l:=by rw [List.dropWhile_cons,if_neg (by simpa using hx)]
     simp only [e,List.head_cons]
     exact hx
 unfold bF at h ⊢
 rw [List.getLast_reverse]
 exact key _ _
theorem fW.look (R:fW v p ns left lv way back place){q:Nat}{xs:List Int}(hq:lv[q]?=some xs):fW v p ns left (lv.set q (bF left xs)) way back place:=by
 refine {R with lvl:=by rw [List.length_set];exact R.lvl,lv1:=λj ys hj k hk=>?_,lv2:=λj ys hj e he hs=>?_}
 ·by_cases e:q=j
  ·subst e
   rw [List.getElem?_set_self (List.getElem?_eq_some_iff.mp hq).1] at hj;cases hj
   exact R.lv1 q xs hq k (ur hk)
  ·rw [List.getElem?_set_ne e] at hj;exact R.lv1 j ys hj k hk
 ·by_cases e':q=j
  ·subst e'
   rw [List.getElem?_set_self (List.getElem?_eq_some_iff.mp hq).1] at hj;cases hj
   rcases R.lv2 q xs hq e he hs with z | z
   ·exact uG z
   ·exact .inr z
  ·rw [List.getElem?_set_ne e'] at hj;exact R.lv2 j ys hj e he hs
theorem fW.go (p0:0<=p)(p1:p < (v.1.length:Int))(hv:ba v)(hn:ns.length=v.2.length + v.1.length)(R:fW v p ns left lv way back place){k:Int}(he:cJ v p k)(hs:bC v k=place)(hk:left.getD k.toNat 0≠0):
 fW v p ns (c6 left k.toNat) lv (way++[(place,k)]) back (cM v k):=by
 have kb:=he.bd p0 p1
 have hl:k.toNat < left.length:=by rw [R.len,hn];omega
 have get:∀e,cJ v p e->(c6 left k.toNat).getD e.toNat 0=left.getD e.toNat 0 - (if k=e then 1 else 0):=λe h=>by
  have eb:=h.bd p0 p1
  rw [sL hl]
  by_cases z:k=e
  ·rw [if_pos (by rw [z]),if_pos z]
  ·rw [if_neg (λy=>z (by omega)),if_neg z]
 have zero:∀e,cJ v p e->left.getD e.toNat 0=0->(c6 left k.toNat).getD e.toNat 0=0:=λe h z=>by
  rw [get e h,if_neg (λy=>hk (by rw [y];exact z))];omega
 have pl:=he.place hv p0 p1
 refine ⟨by rw [sI];exact R.len,λe h=>?_,λe h=>?_,λt ht=>?_,?_,?_,λb hb e h hse=>zero e h (R.done b hb e h hse),R.lvl,R.lv1,λq xs hq e h hse=>?_,⟨pl.2.2.1,pl.2.2.2⟩⟩
 ·rw [get e h]
  have:=R.nn e h
  split
  ·rename_i z;subst z;omega
  ·omega
 ·rw [get e h,List.map_append,List.count_append]
  have:=R.cnt e h
  have c1:(List.count e (List.map (·.2) [(place,k)]):Nat)=if k=e then 1 else 0:=by
   simp [List.count_cons]
  rw [c1]
  split<;>omega
 ·rcases List.mem_append.mp ht with z | z
  ·exact R.wsrc t z
  ·rw [List.mem_singleton.mp z];exact hs.symm
 ·rw [List.map_append]
  exact iA.mpr ⟨by rw [hs];exact R.wpath,he,rfl⟩
 ·obtain ⟨c,h1,h2⟩:=R.tail
  refine ⟨c,h1,λq q0 q1=>?_⟩
  rw [o5 _ _ _ (by rw [ia,R.len,hn]) hl,h2 q q0 q1,pZ p0 p1 he,hs]
  omega
 ·rcases R.lv2 q xs hq e h hse with z | z
  ·exact .inl z
  ·exact .inr (zero e h z)
theorem fW.stuck (p0:0<=p)(p1:p < (v.1.length:Int))(hn:ns.length=v.2.length + v.1.length)(R:fW v p ns left lv way back place)(h:∀e,cJ v p e->bC v e=place->left.getD e.toNat 0=0):
 dk v p place back.reverse 1/\∀q,0<=q->q < v.1.getD p.toNat 0->dot (cj v p q) left=0:=by
 obtain ⟨c,h1,h2⟩:=R.tail
 have hd:=h2 place R.plc.1 R.plc.2
 have h3:0<=dot (cj v p place) left:=by
  refine l4 _ _ λi hi=>?_
  rw [ia] at hi
  by_cases he:cJ v p i
  ·have:=pZ (q:=place) p0 p1 he
   rw [show ((i:Int)).toNat=i by omega] at this
   rw [this]
   by_cases hs:bC v i=place
   ·have:=h i he hs
    rw [show ((i:Int)).toNat=i by omega] at this
    rw [this];omega
   ·have nn:=R.nn i he
    rw [show ((i:Int)).toNat=i by omega] at nn
    rw [decide_eq_false hs]
    unfold cz
    split
    ·rw [if_neg (by decide)];omega
    ·rw [if_neg (by decide)];omega
  ·rw [u9 p0 hi he];omega
 have hc:c=place:=by
  refine Classical.byContradiction λz=>?_
  rw [hd,decide_eq_false z] at h3
  simp [cz] at h3
 subst hc
 exact ⟨h1,λq q0 q1=>by rw [h2 q q0 q1];omega⟩
theorem fW.pop (hv:ba v)(p0:0<=p)(p1:p < (v.1.length:Int))(hn:ns.length=v.2.length + v.1.length){s k:Int}(R:fW v p ns left lv (way++[(s,k)]) back place)(h:∀e,cJ v p e->bC v e=place->left.getD e.toNat 0=0):
 fW v p ns left lv way (back++[k]) s:=by
 obtain ⟨h1,h2⟩:=R.stuck p0 p1 hn h
 have wp:=R.wpath
 rw [List.map_append] at wp
 obtain ⟨w1,w2,w3⟩:=iA.mp wp
 have hs:s=bC v k:=R.wsrc (s,k) (by simp)
 have pl:=w2.place hv p0 p1
 refine ⟨R.len,R.nn,λe he=>?_,λt ht=>R.wsrc t (List.mem_append_left _ ht),by rw [hs];exact w1,⟨s,?_,λq q0 q1=>by rw [h2 q q0 q1];omega⟩,λb hb e he hse=>?_,R.lvl,R.lv1,R.lv2,by rw [hs];exact ⟨pl.1,pl.2.1⟩⟩
 ·have:=R.cnt e he
  rw [List.map_append,List.count_append] at this
  rw [List.count_append]
  have c1:List.count e (List.map (·.2) [(s,k)])=List.count e [k]:=rfl
  rw [c1] at this
  omega
 ·rw [List.reverse_append]
  exact ⟨w2,hs.symm,by rw [w3];exact h1⟩
 ·rcases List.mem_append.mp hb with z | z
  ·exact R.done b z e he hse
  ·rw [List.mem_singleton.mp z] at hse
   exact h e he (hse.trans w3)
end K1
namespace K1
open PySem L2 Fc
open PySem.Spec hiding Row
section
variable {v:ax}{p:Int}{ns:List Int}{a:Int}{runs:List (List Int)}{b:Int}{q:Nat}
def fg (v:ax)(p:Int)(ns:List Int):List Int:=(ups 0 v.2.length).filter λk=>decide ((rowOf v k).1=p)&&decide (0 < ns.getD k.toNat 0)
def fQ (v:ax)(p:Int)(ns:List Int):List (Int×Int):=(fg v p ns).map λk=>((rowOf v k).2.1,(rowOf v k).2.2.1)
def jT (v:ax)(p:Int)(ns:List Int):Prop:=∀k∈fg v p ns,0 < ns.getD (v.2.length + p.toNat) 0/\Reach (fQ v p ns) 0 (rowOf v k).2.1
def bK (xs:List Int):Nat:=(xs.map Int.toNat).sum
theorem pk:∀{xs:List Int} {i:Nat},i < xs.length->0 < xs.getD i 0->bK (c6 xs i) + 1=bK xs
 | [],_,h,_=>absurd h (by simp)
 | x::xs,0,_,h=>by
   have h:0 < x:=by simpa using h
   show (((x - 1)::xs).map Int.toNat).sum + 1=((x::xs).map Int.toNat).sum
   simp only [List.map_cons,List.sum_cons];omega
 | x::xs,i + 1,hl,h=>by
   have ih:=pk (xs:=xs) (i:=i) (by simpa using hl) (by simpa using h)
   have e:c6 (x::xs) (i + 1)=x::c6 xs i:=rfl
   rw [e]
   unfold bK at ih ⊢
   simp only [List.map_cons,List.sum_cons];omega
theorem fW.start (hv:ba v)(p0:0<=p)(p1:p < (v.1.length:Int)){lv:List (List Int)}(nn:∀x∈ns,0<=x)(hr:∀q,0<=q->q < v.1.getD p.toNat 0->dot (cj v p q) ns=0)
 (hl:(lv.length:Int)=v.1.getD p.toNat 0) (h1:∀(q:Nat) xs,lv[q]?=some xs->∀k,k∈xs↔cJ v p k/\bC v k=q):fW v p ns ns lv [] [] 1:=by
 have hs:2<=v.1.getD p.toNat 0:=(hv.sz _ (by rw [List.getD_eq_getElem?_getD,List.getElem?_eq_getElem (by omega)];exact List.getElem_mem _)).1
 refine ⟨rfl,λk _=>?_,λk _=>by simp,by simp,rfl,⟨1,rfl,λq q0 q1=>by rw [hr q q0 q1];omega⟩,by simp,hl,λq xs hq k hk=>(h1 q xs hq k).mp hk,λq xs hq e he hse=>.inl ((h1 q xs hq e).mpr ⟨he,hse⟩),by omega⟩
 rw [List.getD_eq_getElem?_getD]
 cases e:ns[k.toNat]? with
 | none=>exact Int.le_refl _
 | some x=>exact nn x (List.mem_of_getElem? e)
theorem fW.fin (p0:0<=p)(p1:p < (v.1.length:Int)){left:List Int}{lv:List (List Int)}{back:List Int}{place:Int}(hn:ns.length=v.2.length + v.1.length)(hang:jT v p ns)(R:fW v p ns left lv [] back place)(h:∀e,cJ v p e->bC v e=place->left.getD e.toNat 0=0):
 dk v p 1 back.reverse 1/\∀k,cJ v p k->(back.count k:Int)=ns.getD k.toNat 0:=by
 have hp:1=place:=R.wpath
 subst hp
 refine ⟨(R.stuck p0 p1 hn h).1,?_⟩
 have cn:∀k,cJ v p k->left.getD k.toNat 0 + (back.count k:Nat)=ns.getD k.toNat 0:=λk hk=>by have:=R.cnt k hk;simpa using this
 have next:∀k,cJ v p k->0 < ns.getD k.toNat 0->(∀e,cJ v p e->bC v e=bC v k->left.getD e.toNat 0=0)->∀e,cJ v p e->bC v e=cM v k->left.getD e.toNat 0=0:=by
  intro k hk pos hvis
  have z:=hvis k hk rfl
  have c:=cn k hk
  have:k∈back:=List.count_pos_iff.mp (by omega)
  exact R.done k this
 have zero:∀k,cJ v p k->left.getD k.toNat 0=0:=by
  intro k hk
  by_cases pos:0 < ns.getD k.toNat 0
  ·rcases hk with ⟨k0,k1,kp⟩ | e
   ·have km:k∈fg v p ns:=by
     unfold fg
     rw [List.mem_filter]
     exact ⟨bz.mpr ⟨k0,k1⟩,by rw [decide_eq_true kp,decide_eq_true pos];rfl⟩
    obtain ⟨hb,hr⟩:=hang k km
    have hE:cJ v p ((v.2.length:Int) + p):=.inr rfl
    have sE:bC v ((v.2.length:Int) + p)=1:=by unfold bC;rw [if_neg (by omega)]
    have dE:cM v ((v.2.length:Int) + p)=0:=by unfold cM;rw [if_neg (by omega)]
    have v0:∀e,cJ v p e->bC v e=0->left.getD e.toNat 0=0:=by
     have:=next _ hE (by rw [show ((v.2.length:Int) + p).toNat=v.2.length + p.toNat by omega];exact hb) (by rw [sE];exact h)
     rwa [dE] at this
    have all:∀{q:Int},Reach (fQ v p ns) 0 q->∀e,cJ v p e->bC v e=q->left.getD e.toNat 0=0:=by
     intro q hq
     refine Reach.sub (P:=λq=>∀e,cJ v p e->bC v e=q->left.getD e.toNat 0=0) v0 (λa b ha hab=>?_) hq
     unfold fQ at hab
     obtain ⟨j,hj,e⟩:=List.mem_map.mp hab
     cases e
     unfold fg at hj
     obtain ⟨j1,j2⟩:=List.mem_filter.mp hj
     have jb:=bz.mp j1
     have j2:(rowOf v j).1=p/\0 < ns.getD j.toNat 0:=by simpa using j2
     have hj:cJ v p j:=.inl ⟨jb.1,jb.2,j2.1⟩
     have s1:bC v j=(rowOf v j).2.1:=by unfold bC;rw [if_pos jb.2]
     have s2:cM v j=(rowOf v j).2.2.1:=by unfold cM;rw [if_pos jb.2]
     have:=next j hj j2.2 (by rw [s1];exact ha)
     rwa [s2] at this
    exact all hr k (.inl ⟨k0,k1,kp⟩) (by unfold bC;rw [if_pos k1])
   ·exact h k (.inr e) (by unfold bC;rw [if_neg (by omega)])
  ·have:=cn k hk
   have:=R.nn k hk
   omega
 intro k hk
 have:=cn k hk
 rw [zero k hk] at this
 omega
def qw (v:ax)(p:Int)(r:List Int)(a b:Int):Prop:=dk v p a r b/\∀k∈r,k < (v.2.length:Int)
structure jH (v:ax) (p:Int) (pre:List Int) (q:Int) (runs:List (List Int)):Prop where
 sh:(runs=[]/\q=1)∨∃init cur,runs=init++[cur]/\(∀r∈init,qw v p r 0 1)/\qw v p cur 0 q
 many:runs.length=pre.count ((v.2.length:Int) + p)
 cnt:∀k,k < (v.2.length:Int)->runs.flatten.count k=pre.count k
 len:runs.flatten.length<=pre.length
theorem jH.nil:jH v p [] 1 []:=⟨.inl ⟨rfl,rfl⟩,rfl,λ_ _=>rfl,Nat.le_refl _⟩
theorem jH.row (hv:ba v)(p0:0<=p){pre:List Int}{k:Int}(S:jH v p pre (bC v k) runs)(he:cJ v p k)(hk:k < (v.2.length:Int)):
 ∃init cur,runs=init++[cur]/\jH v p (pre++[k]) (cM v k) (init++[cur++[k]]):=by
 have h1:0<=k:=by rcases he with z | z<;>omega
 have q:=hv.eW (fz h1 hk)
 have hs:bC v k=(rowOf v k).2.1:=by unfold bC;rw [if_pos hk]
 rcases S.sh with ⟨_,z⟩ | ⟨init,cur,e,h2,h3⟩
 ·exact absurd (hs.symm.trans z) q.s1
 ·refine ⟨init,cur,e,.inr ⟨init,cur++[k],rfl,h2,iA.mpr ⟨h3.1,he,rfl⟩,λj hj=>?_⟩,?_,λj hj=>?_,?_⟩
  ·rcases List.mem_append.mp hj with z | z
   ·exact h3.2 j z
   ·rw [List.mem_singleton.mp z];exact hk
  ·have:=S.many
   rw [e] at this
   rw [List.count_append,← this]
   have:List.count ((v.2.length:Int) + p) [k]=0:=List.count_eq_zero.mpr λz=>by have:=List.mem_singleton.mp z;omega
   rw [this];simp
  ·have:=S.cnt j hj
   rw [e] at this
   rw [List.count_append,← this]
   simp [List.flatten_append,List.count_append];omega
  ·have:=S.len
   rw [e] at this
   simp [List.flatten_append] at this ⊢;omega
theorem jH.begin (p0:0<=p){pre:List Int}{k:Int}(S:jH v p pre (bC v k) runs)(he:cJ v p k)(hk:¬k < (v.2.length:Int)):
 jH v p (pre++[k]) (cM v k) (runs++[[]]):=by
 have ek:k=(v.2.length:Int) + p:=by rcases he with z | z;· exact absurd z.2.1 hk
                                    ·exact z
 have hs:bC v k=1:=by unfold bC;rw [if_neg hk]
 have hd:cM v k=0:=by unfold cM;rw [if_neg hk]
 refine ⟨.inr ⟨runs,[],rfl,?_,hd.symm,by simp⟩,?_,λj hj=>?_,?_⟩
 ·rcases S.sh with ⟨z,_⟩ | ⟨init,cur,e,h2,h3⟩
  ·rw [z];simp
  ·rw [hs] at h3
   intro r hr
   rw [e] at hr
   rcases List.mem_append.mp hr with z | z
   ·exact h2 r z
   ·rw [List.mem_singleton.mp z];exact h3
 ·rw [List.length_append,List.count_append,S.many,ek];simp
 ·rw [List.count_append,← S.cnt j hj]
  have:List.count j [k]=0:=List.count_eq_zero.mpr λz=>by have:=List.mem_singleton.mp z;omega
  rw [this];simp [List.flatten_append]
 ·have:=S.len
  simp [List.flatten_append] at this ⊢;omega
structure gk (v:ax) (p:Int) (ns:List Int) (runs:List (List Int)):Prop where
 own:∀r∈runs,qw v p r 0 1
 many:(runs.length:Int)=ns.getD (v.2.length + p.toNat) 0
 cnt:∀k,0<=k->k < (v.2.length:Int)->(rowOf v k).1=p->(runs.flatten.count k:Int)=ns.getD k.toNat 0
 len:runs.flatten.length<=bK ns
theorem jH.done (p0:0<=p){t:List Int}(S:jH v p t 1 runs)(hc:∀k,cJ v p k->(t.count k:Int)=ns.getD k.toNat 0)(hl:t.length<=bK ns):gk v p ns runs:=by
 refine ⟨?_,?_,λk k0 k1 kp=>?_,Nat.le_trans S.len hl⟩
 ·rcases S.sh with ⟨z,_⟩ | ⟨init,cur,e,h2,h3⟩
  ·rw [z];simp
  ·intro r hr
   rw [e] at hr
   rcases List.mem_append.mp hr with z | z
   ·exact h2 r z
   ·rw [List.mem_singleton.mp z];exact h3
 ·rw [S.many,hc _ (.inr rfl),show ((v.2.length:Int) + p).toNat=v.2.length + p.toNat by omega]
 ·rw [S.cnt k k1];exact hc k (.inl ⟨k0,k1,kp⟩)
abbrev Wt:=List (List (List Int))
def callsOf (v:ax)(r:List Int)(q:Nat):Nat:=r.countP λk=>decide ((rowOf v k).2.2.2=(q:Int))
theorem gi (v:ax)(a b:List Int)(q:Nat):callsOf v (a++b) q=callsOf v a q + callsOf v b q:=List.countP_append
theorem kg (v:ax){a b:List Int}(h:a.Perm b)(q:Nat):callsOf v a q=callsOf v b q:=h.countP_eq _
abbrev cR (W:Wt):List Int:=W.flatten.flatten
def jB (v:ax)(W:Wt):Prop:=∀(q:Nat) rs,W[q]?=some rs->∀r∈rs,qw v q r 0 1
def Er (v:ax)(W:Wt)(e:Nat->Nat):Prop:=∀q,q < v.1.length->(W.getD q []).length=callsOf v (cR W) q + e q
theorem nE:∀{W:Wt} {q:Nat} {init:List (List Int)} {own:List Int},W[q]?=some (init++[own])->(cR W).Perm (own++cR (W.set q init))
 | [],q,_,_,h=>by simp at h
 | rs::W,0,init,own,h=>by
   have h:rs=init++[own]:=by simpa using h
   subst h
   show ((init++[own])::W).flatten.flatten.Perm (own++(init::W).flatten.flatten)
   simp only [List.flatten_cons,List.flatten_append,List.flatten_nil,List.append_nil]
   rw [← List.append_assoc]
   exact List.perm_append_comm.append_right _
 | rs::W,q + 1,init,own,h=>by
   have ih:=nE (W:=W) (q:=q) (init:=init) (own:=own) (by simpa using h)
   show (rs::W).flatten.flatten.Perm (own++(rs::W.set q init).flatten.flatten)
   simp only [List.flatten_cons,List.flatten_append]
   refine (List.Perm.append_left _ ih).trans ?_
   rw [← List.append_assoc,← List.append_assoc]
   exact List.perm_append_comm.append_right _
def mB (v:ax)(p a:Int)(seg:List Int)(b:Int):Prop:=∀st:cU,cN v (trim (st++[(p,a)])) seg=some (trim (st++[(p,b)]))
def kJ (v:ax)(p:Int)(run:List Int):Prop:=∀st:cU,cN v (st++[(p,0)]) run=some (trim st)
theorem mS (v:ax):∀(a b:List Int) (st st':cU),cN v st a=some st'->cN v st (a++b)=cN v st' b
 | [],b,st,st',h=>by rw [cN] at h;cases h;rfl
 | k::a,b,st,st',h=>by
   rw [cN] at h
   show cN v st (k::(a++b))=_
   rw [cN]
   split at h
   ·rename_i c
    rw [if_pos c];exact mS v a b _ _ h
   ·cases h
theorem kG {st:cU}(h:a≠1):trim (st++[(p,a)])=st++[(p,a)]:=ir (by simp) (by simpa using h)
theorem wd {st:cU}:trim (st++[(p,1)])=trim st:=by
 rw [jD (by simp) (by simp)];simp
theorem zA {k:Int}(k0:0<=k)(k1:k < (v.2.length:Int))(ha:a≠1)(hp:(rowOf v k).1=p)(hs:(rowOf v k).2.1=a)(hd:(rowOf v k).2.2.1=b)(hc:(rowOf v k).2.2.2= -1):mB v p a [k] b:=by
 intro st
 rw [kG ha,cN,if_pos ⟨k0,k1,by simp,by simp [hp,hs]⟩,cN]
 unfold cE push
 rw [hc,if_neg (by decide),hp,hd]
 simp
theorem wR {k:Int}{sub:List Int}(k0:0<=k)(k1:k < (v.2.length:Int))(ha:a≠1)(hp:(rowOf v k).1=p)(hs:(rowOf v k).2.1=a)(hd:(rowOf v k).2.2.1=b)(hc:0<=(rowOf v k).2.2.2)(hw:kJ v (rowOf v k).2.2.2 sub):mB v p a (k::sub) b:=by
 intro st
 rw [kG ha,cN,if_pos ⟨k0,k1,by simp,by simp [hp,hs]⟩]
 unfold cE push
 rw [if_pos hc,hp,hd,List.dropLast_concat,kG (by decide)]
 exact hw _
theorem mB.trans {c:Int}{s t:List Int}(h:mB v p a s b)(g:mB v p b t c):mB v p a (s++t) c:=λst=>by
 rw [mS v _ _ _ _ (h st)];exact g st
theorem mB.whole {s:List Int}(h:mB v p 0 s 1):kJ v p s:=λst=>by
 have:=h st
 rwa [kG (by decide),wd] at this
structure lU (v:ax) (W:Wt) (e:Nat->Nat):Prop where
 len:W.length=v.1.length
 own:jB v W
 bal:Er v W e
theorem jB.set {W:Wt}(h:jB v W){init:List (List Int)}{own:List Int}(hq:W[q]?=some (init++[own])):jB v (W.set q init):=by
 intro j rs hj r hr
 by_cases e:q=j
 ·subst e
  rw [List.getElem?_set_self (List.getElem?_eq_some_iff.mp hq).1] at hj;cases hj
  exact h q _ hq r (List.mem_append_left _ hr)
 ·rw [List.getElem?_set_ne e] at hj;exact h j rs hj r hr
theorem Goes.uK:∀{ks pre:List Int} {st st':cU},Goes v pre st->cN v st ks=some st'->Goes v (pre++ks) st'
 | [],pre,st,st',h,e=>by rw [List.append_nil];rw [cN] at e;cases e;exact h
 | k::ks,pre,st,st',h,e=>by
   rw [cN] at e
   split at e
   ·rename_i c
    have:=Goes.uK (h.snoc c) e
    rwa [List.append_assoc] at this
   ·cases e
theorem kJ.FJ {run:List Int}(h:kJ v 0 run):Goes v run []:=by
 have:=Goes.uK (Goes.nil (v:=v)) (h [])
 rw [ij,List.nil_append] at this
 exact this
def e0 (n:Nat)(q:Nat):Nat:=if q=0 then n else 0
theorem i7 (hv:ba v){r:List Int}(h:qw v q r 0 1){k:Int}(hk:k∈r):0<=k/\k < (v.2.length:Int)/\(rowOf v k).1=q/\((rowOf v k).2.2.2= -1∨(q:Int) < (rowOf v k).2.2.2):=by
 have h1:=h.2 k hk
 have hE:=qz h.1 k hk
 have k0:0<=k:=by rcases hE with z | z<;>omega
 have kp:(rowOf v k).1=q:=by rcases hE with z | z;· exact z.2.2
                             ·omega
 have p:=hv.eW (fz k0 h1)
 have:=p.c0
 have:=p.cp
 exact ⟨k0,h1,kp,by omega⟩
theorem hV {W:Wt}{k:Int}(h:k∈cR W):∃(q:Nat) (rs:List (List Int)) (r:List Int),W[q]?=some rs/\r∈rs/\k∈r:=by
 obtain ⟨r,hr,hk⟩:=List.mem_flatten.mp h
 obtain ⟨rs,hrs,hr2⟩:=List.mem_flatten.mp hr
 obtain ⟨q,hq⟩:=List.mem_iff_getElem?.mp hrs
 exact ⟨q,rs,r,hq,hr2,hk⟩
theorem oU (hv:ba v){W:Wt}(h:jB v W):callsOf v (cR W) 0=0:=by
 unfold callsOf
 rw [List.countP_eq_zero]
 intro k hk
 obtain ⟨q,rs,r,h1,h2,h3⟩:=hV hk
 have:=(i7 hv (h q rs h1 r h2) h3).2.2.2
 simp;omega
theorem lU.first (hv:ba v){W:Wt}{n:Nat}(h:lU v W (e0 n)):(W.getD 0 []).length=n:=by
 have pl:=hv.pl
 rw [h.bal 0 (by omega),oU hv h.own];simp [e0]
theorem lU.empty (hv:ba v){W:Wt}(h:lU v W (e0 0)):cR W=[]:=by
 have key:∀q,q < v.1.length->W.getD q []=[]:=by
  intro q
  induction q using Nat.strongRecOn with
  | _ q ih=>
    intro hq
    have b:=h.bal q hq
    have z:callsOf v (cR W) q=0:=by
     unfold callsOf
     rw [List.countP_eq_zero]
     intro k hk
     obtain ⟨j,rs,r,h1,h2,h3⟩:=hV hk
     have jl:j < v.1.length:=by rw [← h.len];exact (List.getElem?_eq_some_iff.mp h1).1
     have o:=i7 hv (h.own j rs h1 r h2) h3
     simp only [decide_eq_true_eq]
     intro e
     rcases Nat.lt_or_ge j q with hj | hj
     ·have:=ih j hj jl
      rw [List.getD_eq_getElem?_getD,h1] at this
      have:rs=[]:=this
      rw [this] at h2;cases h2
     ·omega
    rw [z] at b
    exact List.length_eq_zero_iff.mp (by rw [b];unfold e0;split<;>rfl)
 refine List.eq_nil_iff_forall_not_mem.mpr λk hk=>?_
 obtain ⟨q,rs,r,h1,h2,h3⟩:=hV hk
 have ql:q < v.1.length:=by rw [← h.len];exact (List.getElem?_eq_some_iff.mp h1).1
 have:=key q ql
 rw [List.getD_eq_getElem?_getD,h1] at this
 have:rs=[]:=this
 rw [this] at h2;cases h2
structure l5 (v:ax) (ns:List Int):Prop where
 len:ns.length=v.2.length + v.1.length
 nn:∀x∈ns,0<=x
 rel:∀rel∈eF v,dot rel ns=0
 hang:∀p:Nat,p < v.1.length->jT v p ns
theorem l5.place (h:l5 v ns)(p0:0<=p)(p1:p < (v.1.length:Int)){q:Int}(q0:0<=q)(q1:q < v.1.getD p.toNat 0):dot (cj v p q) ns=0:=by
 refine h.rel _ ?_
 unfold eF cY
 exact List.mem_append_left _ (List.mem_flatMap.mpr ⟨p,bz.mpr ⟨p0,p1⟩,List.mem_map.mpr ⟨q,bz.mpr ⟨q0,by omega⟩,rfl⟩⟩)
theorem l5.call (h:l5 v ns){p:Nat}(p0:1<=p)(p1:p < v.1.length):dot (dU v p) ns=0:=by
 refine h.rel _ ?_
 unfold eF
 refine List.mem_append_right _ (List.mem_map.mpr ⟨p,?_,rfl⟩)
 unfold ups
 exact List.mem_map.mpr ⟨p - 1,List.mem_range.mpr (by omega),by omega⟩
theorem lV:∀(a b xs ys:List Int),a.length=xs.length->dot (a++b) (xs++ys)=dot a xs + dot b ys
 | [],b,[],ys,_=>by show dot b ys=0 + dot b ys;omega
 | [],_,_::_,_,h=>absurd h (by simp)
 | _::_,_,[],_,h=>absurd h (by simp)
 | a::r,b,x::xs,ys,h=>by
   have ih:=lV r b xs ys (by simpa using h)
   show a * x + dot (r++b) (xs++ys)=a * x + dot r xs + dot b ys
   rw [ih];omega
theorem nU:∀(n:Nat) (s:Int) (ys:List Int) (q:Nat),ys.length=n->q < n->dot ((List.range n).map λ(j:Nat)=>0 - cz (decide (s + (j:Int)=s + (q:Int)))) ys=0 - ys.getD q 0
 | 0,_,_,q,_,h=>absurd h (by omega)
 | n + 1,s,[],q,h,_=>absurd h (by simp)
 | n + 1,s,y::ys,q,h,hq=>by
   rw [List.range_succ_eq_map,List.map_cons,List.map_map]
   cases q with
   | zero=>
     have z:∀zs:List Int,dot ((List.range n).map ((λ(j:Nat)=>0 - cz (decide (s + (j:Int)=s + ((0:Nat):Int)))) ∘ Nat.succ)) zs=0:=by
      have hm:(List.range n).map ((λ(j:Nat)=>0 - cz (decide (s + (j:Int)=s + ((0:Nat):Int)))) ∘ Nat.succ)=List.replicate n 0:=by
       rw [List.eq_replicate_iff]
       refine ⟨by simp,λb hb=>?_⟩
       obtain ⟨j,_,rfl⟩:=List.mem_map.mp hb
       simp only [Function.comp]
       rw [decide_eq_false (by omega)];rfl
      rw [hm]
      intro zs
      induction n generalizing zs with
      | zero=>cases zs<;>rfl
      | succ n ih=>cases zs with
        | nil=>rfl
        | cons z zs=>
          rw [List.replicate_succ]
          show 0 * z + dot (List.replicate n 0) zs=0
          have:∀(n:Nat) (zs:List Int),dot (List.replicate n 0) zs=0:=by
           intro n
           induction n with
           | zero=>intro zs;cases zs<;>rfl
           | succ n ih=>intro zs;cases zs with
             | nil=>rfl
             | cons z zs=>rw [List.replicate_succ];show 0 * z + dot (List.replicate n 0) zs=0;rw [ih];omega
          rw [this];omega
     show (0 - cz (decide (s + ((0:Nat):Int)=s + ((0:Nat):Int)))) * y + dot _ ys=0 - (y::ys).getD 0 0
     rw [z]
     simp [cz]
   | succ q=>
     have ih:=nU n (s + 1) ys q (by simpa using h) (by omega)
     show (0 - cz (decide (s + ((0:Nat):Int)=s + ((q + 1:Nat):Int)))) * y + dot _ ys=0 - (y::ys).getD (q + 1) 0
     rw [decide_eq_false (by omega)]
     have hm:(List.range n).map ((λ(j:Nat)=>0 - cz (decide (s + (j:Int)=s + ((q + 1:Nat):Int)))) ∘ Nat.succ)=(List.range n).map λ(j:Nat)=>0 - cz (decide (s + 1 + (j:Int)=s + 1 + (q:Int))):=by
      refine List.map_congr_left λj _=>?_
      simp only [Function.comp]
      congr 2
      first | (simp;done) | (simp;omega)
     rw [hm,ih]
     simp [cz]
def gf (v:ax)(L:List Int):List Int:=(ups 0 v.2.length).map λk=>((L.count k:Nat):Int)
theorem uA (v:ax){x:Int}{L:List Int}(x0:0<=x)(x1:x < (v.2.length:Int)):gf v (x::L)=bV (gf v L) x.toNat:=by
 unfold gf bV
 refine List.ext_getElem? λi=>?_
 have hl:((ups 0 v.2.length).map λk=>((L.count k:Nat):Int)).length=v.2.length:=by rw [List.length_map,au]
 by_cases hi:i < v.2.length
 ·have hu:(ups 0 v.2.length)[i]?=some (i:Int):=by unfold ups;rw [List.getElem?_map,List.getElem?_range hi];simp
  rw [List.getElem?_map,hu]
  by_cases e:x.toNat=i
  ·rw [e,List.getElem?_set_self (by rw [hl];exact hi),lj hi]
   have:x=(i:Int):=by omega
   simp [this]
  ·rw [List.getElem?_set_ne e,List.getElem?_map,hu]
   have:x≠(i:Int):=λz=>e (by omega)
   simp [List.count_cons,this]
 ·rw [List.getElem?_eq_none (by rw [List.length_map,au];omega),List.getElem?_eq_none (by rw [List.length_set,hl];omega)]
theorem oa {v:ax}(q:Nat):∀(L:List Int),(∀k∈L,0<=k/\k < (v.2.length:Int))->dot (v.2.map λr=>cz (decide (r.2.2.2=(q:Int)))) (gf v L)=(callsOf v L q:Nat)
 | [],_=>by
   have:gf v []=List.replicate v.2.length 0:=by
    unfold gf
    rw [List.eq_replicate_iff]
    refine ⟨by rw [List.length_map,au],λb hb=>?_⟩
    obtain ⟨_,_,rfl⟩:=List.mem_map.mp hb
    simp
   rw [this,pK];rfl
 | x::L,h=>by
   have hx:=h x List.mem_cons_self
   have ih:=oa q L λk hk=>h k (List.mem_cons_of_mem _ hk)
   have cl:(gf v L).length=v.2.length:=by unfold gf;rw [List.length_map,au]
   rw [uA v hx.1 hx.2,oX _ _ _ (by rw [List.length_map,cl]) (by rw [cl];omega),ih,kj hx.1 hx.2]
   unfold callsOf
   rw [List.countP_cons]
   unfold cz
   split<;>simp
theorem kN {L:List Int}(hn:ns.length=v.2.length + v.1.length)(hL:∀k∈L,0<=k/\k < (v.2.length:Int))(hc:∀k,0<=k->k < (v.2.length:Int)->((L.count k:Nat):Int)=ns.getD k.toNat 0)(hq:q < v.1.length):
 dot (dU v q) ns=(callsOf v L q:Nat) - ns.getD (v.2.length + q) 0:=by
 have e1:ns.take v.2.length=gf v L:=by
  unfold gf
  refine List.ext_getElem? λi=>?_
  by_cases hi:i < v.2.length
  ·have hu:(ups 0 v.2.length)[i]?=some (i:Int):=by unfold ups;rw [List.getElem?_map,List.getElem?_range hi];simp
   have:=hc i (by omega) (by omega)
   rw [List.getElem?_take_of_lt hi,List.getElem?_map,hu,Option.map_some,this,show ((i:Int)).toNat=i by omega,List.getD_eq_getElem?_getD,List.getElem?_eq_getElem (by omega)];rfl
  ·rw [List.getElem?_eq_none (by rw [List.length_take];omega),List.getElem?_eq_none (by rw [List.length_map,au];omega)]
 have e2:ns=gf v L++ns.drop v.2.length:=by rw [← e1,List.take_append_drop]
 have cl:(gf v L).length=v.2.length:=by unfold gf;rw [List.length_map,au]
 have e3:(ns.drop v.2.length).getD q 0=ns.getD (v.2.length + q) 0:=by
  rw [List.getD_eq_getElem?_getD,List.getD_eq_getElem?_getD,List.getElem?_drop]
 have:=nU v.1.length 0 (ns.drop v.2.length) q (by rw [List.length_drop];omega) hq
 rw [e3] at this
 conv=>lhs;rw [e2]
 unfold dU ups
 rw [lV _ _ _ _ (by rw [List.length_map,cl]),oa q L hL]
 rw [List.map_map]
 have em:((λo:Int=>0 - cz (decide (o=(q:Int)))) ∘ λ(j:Nat)=>(0:Int) + (j:Int))=λ(j:Nat)=>0 - cz (decide ((0:Int) + (j:Int)=0 + (q:Int))):=by
  funext j
  simp only [Function.comp]
  congr 2
  simp
 rw [em,this];omega
theorem pI:∀l:List Nat,(∀y∈l,y=0)->l.sum=0
 | [],_=>rfl
 | y::l,h=>by rw [List.sum_cons,h y List.mem_cons_self,pI l λz hz=>h z (List.mem_cons_of_mem _ hz)]
theorem l7:∀(l:List Nat) (p:Nat),p < l.length->(∀i x,i≠p->l[i]?=some x->x=0)->l.sum=l.getD p 0
 | [],_,h,_=>absurd h (by simp)
 | x::l,0,_,h=>by
   have:l.sum=0:=pI l λy hy=>by
    obtain ⟨i,hi⟩:=List.mem_iff_getElem?.mp hy
    exact h (i + 1) y (by omega) (by simpa using hi)
   rw [List.sum_cons,this];simp
 | x::l,p + 1,hl,h=>by
   have hx:=h 0 x (by omega) (by simp)
   have ih:=l7 l p (by simpa using hl) λi y hi hy=>h (i + 1) y (by omega) (by simpa using hy)
   rw [List.sum_cons,hx,ih];simp
theorem nh (hv:ba v){W:Wt}(hl:W.length=v.1.length)(h:∀(p:Nat) rs,W[p]?=some rs->gk v p ns rs){k:Int}(k0:0<=k)(k1:k < (v.2.length:Int)):(((cR W).count k:Nat):Int)=ns.getD k.toNat 0:=by
 have q:=hv.eW (fz k0 k1)
 have q0:=q.p0;have q1:=q.p1
 obtain ⟨p,hp⟩:∃p:Nat,(rowOf v k).1=(p:Int):=⟨(rowOf v k).1.toNat,by omega⟩
 have pl:p < W.length:=by omega
 have hrs:=List.getElem?_eq_getElem pl
 have e:cR W=(W.map List.flatten).flatten:=List.flatten_flatten
 rw [e,List.count_flatten,List.map_map,l7 _ p (by simpa using pl)]
 ·rw [List.getD_eq_getElem?_getD,List.getElem?_map,hrs]
  exact (h p _ hrs).cnt k k0 k1 hp
 ·intro i x hi hx
  rw [List.getElem?_map] at hx
  cases hw:W[i]? with
  | none=>rw [hw] at hx;cases hx
  | some rs=>
    rw [hw] at hx
    have hx:List.count k rs.flatten=x:=by simpa using hx
    rw [← hx]
    refine List.count_eq_zero.mpr λz=>?_
    obtain ⟨r,hr,hk⟩:=List.mem_flatten.mp z
    have:=(i7 hv ((h i rs hw).own r hr) hk).2.2.1
    omega
theorem nz (hv:ba v){W:Wt}(hC:l5 v ns)(hl:W.length=v.1.length)(h:∀(p:Nat) rs,W[p]?=some rs->gk v p ns rs):lU v W (e0 (ns.getD v.2.length 0).toNat):=by
 have hO:jB v W:=λq rs hq r hr=>(h q rs hq).own r hr
 refine ⟨hl,hO,λq hq=>?_⟩
 have ql:q < W.length:=by omega
 have hrs:=List.getElem?_eq_getElem ql
 have m:=(h q _ hrs).many
 rw [show ((q:Int)).toNat=q by omega] at m
 rw [List.getD_eq_getElem?_getD,hrs]
 show (W[q]).length=_
 by_cases z:q=0
 ·subst z
  rw [oU hv hO]
  have:ns.getD (v.2.length + 0) 0=ns.getD v.2.length 0:=rfl
  rw [this] at m
  show _=0 + e0 _ 0
  unfold e0
  rw [if_pos rfl];omega
 ·have hd:=kN (L:=cR W) hC.len (λk hk=>by
   obtain ⟨j,rs,r,h1,h2,h3⟩:=hV hk
   have:=i7 hv (hO j rs h1 r h2) h3
   exact ⟨this.1,this.2.1⟩) (λk k0 k1=>nh hv hl h k0 k1) hq
  rw [hC.call (by omega) hq] at hd
  unfold e0
  rw [if_neg z];omega
theorem jg {xs:List Int}{i j:Nat}(h:i < xs.length):(bV xs i).getD j 0=xs.getD j 0 + (if i=j then 1 else 0):=by
 unfold bV
 by_cases e:i=j
 ·subst e
  simp [List.getD_eq_getElem?_getD,h]
 ·simp [List.getD_eq_getElem?_getD,e]
def share (v:ax)(L:List Int)(i:Nat):Int:=if i < v.2.length then ((L.count (i:Int):Nat):Int) else ((callsOf v L (i - v.2.length):Nat):Int)
theorem pH {v:ax}(hv:ba v){i:Nat}:∀(rows:List Int) (xs:List Int),xs.length=v.2.length + v.1.length->(∀k∈rows,0<=k/\k < (v.2.length:Int))->(rows.foldl (ck v) xs).getD i 0=xs.getD i 0 + share v rows i
 | [],xs,_,_=>by simp [share,callsOf]
 | k::rows,xs,hx,h=>by
   have kb:=h k List.mem_cons_self
   have q:=hv.eW (fz kb.1 kb.2)
   have c0:=q.c0;have c1:=q.c1
   rw [List.foldl_cons,pH hv rows _ (by rw [jY];exact hx) λj hj=>h j (List.mem_cons_of_mem _ hj)]
   have e:(ck v xs k).getD i 0=xs.getD i 0 + share v [k] i:=by
    unfold ck share callsOf
    have lk:k.toNat < xs.length:=by omega
    split
    ·rename_i hc
     rw [jg (by rw [dN];omega),jg lk]
     by_cases hi:i < v.2.length
     ·rw [if_pos hi,if_neg (show¬((v.2.length:Int) + (rowOf v k).2.2.2).toNat=i by omega)]
      by_cases z:k.toNat=i
      ·rw [if_pos z];have:k=(i:Int):=by omega
       simp [this]
      ·rw [if_neg z];have:k≠(i:Int):=λy=>z (by omega)
       simp [List.count_cons,this]
     ·rw [if_neg hi,if_neg (show¬k.toNat=i by omega)]
      by_cases z:((v.2.length:Int) + (rowOf v k).2.2.2).toNat=i
      ·rw [if_pos z];have:(rowOf v k).2.2.2=((i - v.2.length:Nat):Int):=by omega
       simp [this]
      ·rw [if_neg z];have:(rowOf v k).2.2.2≠((i - v.2.length:Nat):Int):=λy=>z (by omega)
       simp [this]
    ·rename_i hc
     rw [jg lk]
     by_cases hi:i < v.2.length
     ·rw [if_pos hi]
      by_cases z:k.toNat=i
      ·rw [if_pos z];have:k=(i:Int):=by omega
       simp [this]
      ·rw [if_neg z];have:k≠(i:Int):=λy=>z (by omega)
       simp [List.count_cons,this]
     ·rw [if_neg hi,if_neg (by omega)]
      have:(rowOf v k).2.2.2≠((i - v.2.length:Nat):Int):=λy=>hc (by omega)
      simp [this]
   have e2:share v (k::rows) i=share v [k] i + share v rows i:=by
    have:k::rows=[k]++rows:=rfl
    unfold share
    rw [this]
    split
    ·rw [List.count_append];omega
    ·rw [gi];omega
   rw [e,e2];omega
theorem p9 {v:ax}(hv:ba v){i:Nat}:∀(heap:List (List Int)) (xs:List Int),xs.length=v.2.length + v.1.length->(∀r∈heap,∀k∈r,0<=k/\k < (v.2.length:Int))->(heap.foldl (cW v) xs).getD i 0=xs.getD i 0 + share v heap.flatten i + (if i=v.2.length then (heap.length:Int) else 0)
 | [],xs,_,_=>by simp [share,callsOf]
 | r::heap,xs,hx,h=>by
   have pl:=hv.pl
   rw [List.foldl_cons,p9 hv heap _ (by rw [jL];exact hx) λs hs=>h s (List.mem_cons_of_mem _ hs)]
   have e:(cW v xs r).getD i 0=xs.getD i 0 + (if v.2.length=i then 1 else 0) + share v r i:=by
    unfold cW
    rw [pH hv r _ (by rw [dN];exact hx) (h r List.mem_cons_self),jg (by omega)]
   have e2:share v (r::heap).flatten i=share v r i + share v heap.flatten i:=by
    rw [List.flatten_cons]
    unfold share
    split
    ·rw [List.count_append];omega
    ·rw [gi];omega
   rw [e,e2,List.length_cons]
   by_cases z:i=v.2.length
   ·rw [if_pos z,if_pos z,if_pos z.symm];omega
   ·rw [if_neg z,if_neg z,if_neg (Ne.symm z)];omega
theorem qA (hv:ba v){W:Wt}(hC:l5 v ns)(hl:W.length=v.1.length)(h:∀(p:Nat) rs,W[p]?=some rs->gk v p ns rs){heap:List (List Int)}(hp:(cR W).Perm heap.flatten)(hm:heap.length=(ns.getD v.2.length 0).toNat):tallyF v heap=ns:=by
 have pl:=hv.pl
 have hO:jB v W:=λq rs hq r hr=>(h q rs hq).own r hr
 have hW:=nz hv hC hl h
 have hb:∀k∈cR W,0<=k/\k < (v.2.length:Int):=λk hk=>by
  obtain ⟨j,rs,r,h1,h2,h3⟩:=hV hk
  have:=i7 hv (hO j rs h1 r h2) h3
  exact ⟨this.1,this.2.1⟩
 have tl:(tallyF v heap).length=ns.length:=by unfold tallyF;rw [gC,gs,hC.len]
 have z0:0<=ns.getD v.2.length 0:=by
  rw [List.getD_eq_getElem?_getD,List.getElem?_eq_getElem (by rw [hC.len];omega)]
  exact hC.nn _ (List.getElem_mem _)
 refine List.ext_getElem tl λi h1 h2=>?_
 have hi:i < v.2.length + v.1.length:=by rw [← hC.len];exact h2
 have g:=p9 hv (i:=i) heap (zeros v) (gs v) (λr hr k hk=>hb k (hp.mem_iff.mpr (List.mem_flatten.mpr ⟨r,hr,hk⟩)))
 have zz:(zeros v).getD i 0=0:=by rw [wC,List.getD_eq_getElem?_getD,List.getElem?_replicate,if_pos hi];rfl
 have g1:(tallyF v heap).getD i 0=(tallyF v heap)[i]:=by rw [List.getD_eq_getElem?_getD,List.getElem?_eq_getElem h1];rfl
 have g2:ns.getD i 0=ns[i]:=by rw [List.getD_eq_getElem?_getD,List.getElem?_eq_getElem h2];rfl
 rw [← g1,← g2]
 show (heap.foldl (cW v) (zeros v)).getD i 0=_
 rw [g,zz]
 unfold share
 by_cases hr:i < v.2.length
 ·rw [if_pos hr,if_neg (by omega),← hp.count_eq,nh hv hl h (by omega) (by omega),show ((i:Int)).toNat=i by omega];omega
 ·rw [if_neg hr,← kg v hp]
  obtain ⟨q,rfl⟩:∃q,i=v.2.length + q:=⟨i - v.2.length,by omega⟩
  rw [show v.2.length + q - v.2.length=q by omega]
  by_cases z:q=0
  ·subst z
   rw [oU hv hO,if_pos (by omega),hm]
   show (0:Int) + ((0:Nat):Int) + _=ns.getD (v.2.length + 0) 0
   have:ns.getD (v.2.length + 0) 0=ns.getD v.2.length 0:=rfl
   omega
  ·have hd:=kN (L:=cR W) hC.len hb (λk k0 k1=>nh hv hl h k0 k1) (q:=q) (by omega)
   rw [hC.call (by omega) (by omega)] at hd
   rw [if_neg (by omega)];omega
end
end K1
namespace Fc
open PySem PySem.Spec L2
open PyProof.Rows hiding St
section
variable {X:Cx}{Γ Γ1 Γ2 Γ3:Ga}{α β γ δ:Type}{N:Ga->Prop}{T:RT}
variable {r:Rep α}{e:Expr}{r':Rep β}
theorem za {i:Int}{j:Nat}{p1:Pos}{es:List Expr}{ps:List Pk}(h:nZ X es Γ ps)(hs:autoParam (starEach (.Constant (.int i) j p1::es) X.env=(false,eval (.Constant (.int i) j p1) X.env)::starEach es X.env) Fc.ag):nZ X (.Constant (.int i) j p1::es) Γ (⟨ae,i⟩::ps):=λσ H0 R0 H R E Q q=>
 aS (aD ef jJ hs) (h σ H0 R0 H R E _ λus p=>q (.int i::us) (.cons rfl p))
theorem sM {S:eU α}{x:Str}{k:Nat}{e0:Expr}{es:List Expr}{p pos:Pos}{ps:List Pk}{xs st:List α}{rr:Rep β}{z:β}(C:aF X.prog X.w X.K X.mg X.base x k (fu r S X.K))(hr:bA k X.A)(h0:bc X e0 Γ r xs Γ1)(ha:nZ X es Γ1 ps)(hS:S X.K xs ps (λxs'=>bE X.K rr λw=>xs'=st/\w=z))
 (hg:autoParam (Gl X x) Fc.ag) (hdb:autoParam ((x==("__debug__":Str))=false) Fc.av) (he:autoParam (starEach (e0::es) X.env=(false,eval e0 X.env)::starEach es X.env) Fc.ag) (hpl:autoParam ((backTo pos (starEach es X.env)).any (·.1)=false) Fc.ag):EV X (.Call (.Name x p) (e0::es) [] pos) Γ rr z Γ1:=λσ H0 R0 H R E Q q=>
 oh C hr h0 (λH1 R1 E1 Q q=>ha σ H0 R0 H1 R1 E1 Q q) hS E (λH1 v H' R' xs' E' s' t=>by
  obtain ⟨w,e1,_,rfl⟩:=t
  exact q v H' R' E' s' e1) hg hdb he hpl
theorem Dt {X:Cx}:Passes (mH X.prog X.w) X E0:=λ_ _ _ _ _ _ _ h=>by obtain ⟨_,_,_,_,_,_,_,_,_,_,z⟩:=h;exact z.elim
def gZ (r:Rep α)(r':Rep β):Rep (α ⊕ β):=⟨λK H v o=>match o with | .inl x=>r.R K H v x | .inr y=>r'.R K H v y,λ{K H H' v o} s h=>by cases o with | inl x=>exact r.mono s h | inr y=>exact r'.mono s h⟩
theorem EV.inl {x:α}(h:EV X e Γ r x Γ1):EV X e Γ (gZ r r') (.inl x) Γ1:=EV.rep h λ_ _ q=>q
theorem EV.inr {y:β}(h:EV X e Γ r' y Γ1):EV X e Γ (gZ r r') (.inr y) Γ1:=EV.rep h λ_ _ q=>q
theorem EV.Ar {x:α}(h:EV X e Γ (gZ r r') (.inl x) Γ1):EV X e Γ r x Γ1:=EV.rep h λ_ _ q=>q
theorem EV.AH {y:β}(h:EV X e Γ (gZ r r') (.inr y) Γ1):EV X e Γ r' y Γ1:=EV.rep h λ_ _ q=>q
end
theorem z5 {α β γ:Type}{r:Rep α}{r':Rep β}{rc:Rep γ} [DecidableEq α] [DecidableEq β] [DecidableEq γ]{n m k:Nat}(e:c7 (ay r r') n)(e':c7 (af rc) m)(hn:n<=k)(hm:m<=k):c7 (gZ (ay r r') (af rc)) k:=by
 have tl:∀{K:PySem.W.Frag} {R:Hp} {v:V} {x:α×β} {y:List γ},(ay r r').R K R v x->(af rc).R K R v y->False:=by
  rintro K R v x y ⟨a,v1,v2,rfl,h,_⟩ ⟨a',vs,e1,h',_⟩
  cases e1
  rw [h] at h';cases h'
 refine ⟨?_,?_⟩
 ·intro K R v x y h1 h2
  cases x with
  | inl x=>cases y with
    | inl y=>exact congrArg _ (e.inj h1 h2)
    | inr y=>exact (tl h1 h2).elim
  | inr x=>cases y with
    | inl y=>exact (tl h2 h1).elim
    | inr y=>exact congrArg _ (e'.inj h1 h2)
 ·intro X pins σ H s R A I sub v u vv uu x y rv ru h1 h2 hu
  have isT:∀{a:Addr} {vs:List V},R a=some (.tup vs)->∃its,s.heap.IsTuple a its:=λ{a vs} ha=>by
   obtain ⟨_,its,_,o,h1,h2,n,h3⟩:=(show bT X.prog X.w H s.heap a (.tup vs) from I.hok a _ (sub _ _ ha))
   exact ⟨_,o,h1,h2,n,h3⟩
  have isL:∀{a:Addr} {vs:List V},R a=some (.lst vs)->∃its,s.heap.IsList a its:=λ{a vs} ha=>by
   obtain ⟨us,hv,pl,_⟩:=I.list (aL.of (sub _ _ ha))
   exact ⟨_,pl.isList⟩
  cases x with
  | inl x=>cases y with
    | inl y=>rw [show decide (Sum.inl (β:=List γ) x=Sum.inl y)=decide (x=y) by simp];exact e.eq I sub rv ru h1 h2 (by omega)
    | inr y=>
      obtain ⟨a,v1,v2,rfl,ha,_⟩:=h1
      obtain ⟨b,vs,rfl,hb,_⟩:=h2
      cases rv
      cases ru
      obtain ⟨_,ta⟩:=isT ha
      obtain ⟨_,lb⟩:=isL hb
      rw [show decide (Sum.inl x=Sum.inr (α:=α×β) y)=false by simp]
      exact SeqAt.EqAt.of_refs (λz=>by rw [z,hb] at ha;cases ha) (SeqAt.RcAt.tuple_list ta lb (by omega))
  | inr x=>cases y with
    | inl y=>
      obtain ⟨b,vs,rfl,hb,_⟩:=h1
      obtain ⟨a,v1,v2,rfl,ha,_⟩:=h2
      cases rv
      cases ru
      obtain ⟨_,ta⟩:=isT ha
      obtain ⟨_,lb⟩:=isL hb
      rw [show decide (Sum.inr (α:=α×β) x=Sum.inl y)=false by simp]
      exact SeqAt.EqAt.of_refs (λz=>by rw [z,ha] at hb;cases hb) (SeqAt.RcAt.list_tuple lb ta (by omega))
    | inr y=>rw [show decide (Sum.inr (α:=α×β) x=Sum.inr y)=decide (x=y) by simp];exact e'.eq I sub rv ru h1 h2 (by omega)
section
variable {X:Cx}{Γ Γ1 Γ2 Γ3:Ga}{α β γ δ:Type}{N:Ga->Prop}{T:RT}
theorem vQ (i:Nat){x:Str}{e:Expr}{p1 ap cp pos:Pos}{r:Rep α}{xs ys:List α}(he:bc X e Γ r ys Γ1)(hΓ:Γ[i]?=some (.mu r xs))(hΓ1:Γ1[i]?=some (.mu r xs))(hz:xs.length + ys.length<=sizeLine)(h:N (Γ1.set i (.mu r (xs++ys))))
 (hN:autoParam (X.N[i]?=some x) Fc.ag) (hv:autoParam (bR X.env.scope x) Fc.bq)
 (hd:autoParam ((x==("__debug__":Str))=false) Fc.av) (hcd:autoParam ((x==("__classdict__":Str))=false) Fc.av)
 (hsw:autoParam (swapsWith (.Call (.Attribute (.Name x p1) "extend" ap) [e] [] cp) none pos.line X.env=pure false) Fc.ag)
 (hbase:autoParam (attributeBase (.Name x p1) "extend" X.env (eval (.Name x p1) X.env)=eval (.Name x p1) X.env) Fc.ag)
 (hfew:autoParam (((backTo cp (starEach [e] X.env)).all (λx=> !x.1)&&(backToKw cp (keywordEach [] X.env)).all (λx=>x.1.isSome)
  &&decide ([e].length + ([]:List Keyword).length + (if ([]:List Keyword).isEmpty then 0 else 1) < 30))=true) Fc.ag)
 (hline:autoParam ((ap.endLine==cp.line)=true) Fc.ag) (hs:autoParam (starEach [e] X.env=(false,eval e X.env)::starEach [] X.env) Fc.ag):W1 X (.Expr (.Call (.Attribute (.Name x p1) "extend" ap) [e] [] cp) pos) Γ N T:=λσ H0 R0 H R E D dn dr=>by
 obtain ⟨a,vs,ea,ha,hR,pp⟩:=E.ent i _ hΓ
 refine sS (d5 (gr PySem.F.plainAttrs_list PySem.F.slot_list_extend PySem.F.type_list_extend nM (aU hN hv hd hcd) (aD aI bp hs) hbase hfew hline hs rfl) hsw) ?_
 refine ⟨.ref a,at_of ea,.inl ⟨rfl,vs,aL.of ha⟩,he σ H0 R0 H R E _ λb ws H1 R1 E1 s1 hb hbR hb0 off pw hw=>?_⟩
 obtain ⟨a',vs',ea',ha',hR',pp'⟩:=E1.ent i _ hΓ1
 rw [ea] at ea';cases ea'
 refine ⟨a,b,vs',ws,rfl,rfl,ha',hb,by rw [pp'.length,pw.length];exact hz,?_⟩
 exact dn σ _ R1 _ (E1.upd (en:=.mu r (xs++ys)) hΓ1 rfl ea hR' ⟨a,_,rfl,az,hR',bP pp' pw⟩) s1 h
end
section
variable {X:Cx}{Γ Γ1 Γ2 Γ3:Ga}{α β γ δ:Type}{N:Ga->Prop}{T:RT}
variable {es:List Expr}{tp:Pos}
def Eo (K:PySem.W.Frag)(a b:Addr):It:=
 ⟨λi H=>∃xs ys x y,aL K H a xs/\aL K H b ys/\xs[i]?=some x/\ys[i]?=some y,
  λi H v H'=>∃p x y,H p=none/\v= .ref p/\H'=upd H p (.tup [x,y])/\(∀xs,aL K H a xs->xs[i]?=some x)/\∀ys,aL K H b ys->ys[i]?=some y,
  λi H=>∃xs ys,aL K H a xs/\aL K H b ys/\(xs.length<=i∨ys.length<=i)⟩
def Ep (z TI TO i1 i2 a b:Addr)(i:Nat)(h:Heap):Prop:=
 IsZip h z TI TO .none/\IsPair h TI (.ref i1) (.ref i2)/\(∃u v,IsPair h TO u v)/\h.IsListIter i1 a i/\h.IsListIter i2 b i
structure vU (z TI TO i1 i2:Addr):Prop where
 TIz:TI≠z
 TOz:TO≠z
 i1z:i1≠z
 i2z:i2≠z
 TITO:TI≠TO
 TIi1:TI≠i1
 TIi2:TI≠i2
 TOi1:TO≠i1
 TOi2:TO≠i2
 i12:i1≠i2
theorem kU {a b:Nat}(h:a < b∨b < a): @Ne Addr a b:=h.elim Nat.ne_of_lt Nat.ne_of_gt
theorem Ge (n:Nat):vU (n + 4) (n + 2) (n + 3) n (n + 1):=⟨kU (by omega),kU (by omega),kU (by omega),kU (by omega),kU (by omega),kU (by omega),kU (by omega),kU (by omega),kU (by omega),kU (by omega)⟩
theorem eK {h:Heap}{l b:Addr}{its:Array Value}{o:Obj}(p:PlainL h l its)(e:h.get? b=some o)(hc:o.cls≠ .type "list"):l≠b:=λz=>by
 obtain ⟨u,n,e',c,_⟩:=p
 rw [z,e] at e'
 cases e'
 exact hc c
theorem ZipApart.of {h:Heap}{z TI TO i1 i2 a b:Addr}{i:Nat}{xs ys:Array Value}(F:vU z TI TO i1 i2)(st:Ep z TI TO i1 i2 a b i h)(pa:PlainL h a xs)(pb:PlainL h b ys):ZipApart z TI TO i1 i2 a b:=by
 obtain ⟨hz,_,⟨u,v,hTO⟩,⟨o1,e1,c1,_⟩,⟨o2,e2,c2,_⟩⟩:=st
 exact ⟨F.TIz,F.TOz,F.i1z,F.i2z,F.TITO,F.TIi1,F.TIi2,F.TOi1,F.TOi2,F.i12,
  eK pa hz (by simp),eK pa hTO (by simp),eK pa e1 (by rw [c1];simp),eK pa e2 (by rw [c2];simp),
  eK pb hz (by simp),eK pb hTO (by simp),eK pb e1 (by rw [c1];simp),eK pb e2 (by rw [c2];simp)⟩
theorem wB {P:Program}{w:World}{K:PySem.W.Frag}{k:Nat}(a b z TI TO i1 i2:Addr)(F:vU z TI TO i1 i2):Turn P w K (.Tuple es k tp) (Eo K a b) [z,TI,TO,i1,i2] z (Ep z TI TO i1 i2 a b) where
 mem:=by simp
 obj:=λi h st c hc=>by
  obtain ⟨hz,hTI,⟨u,v,hTO⟩,⟨o1,e1,c1,d1⟩,⟨o2,e2,c2,d2⟩⟩:=st
  simp only [List.mem_cons,List.not_mem_nil,or_false] at hc
  rcases hc with rfl | rfl | rfl | rfl | rfl
  ·exact ⟨_,hz,λv q=>by cases q⟩
  ·exact ⟨_,hTI,λv q=>by cases q⟩
  ·exact ⟨_,hTO,λv q=>by cases q⟩
  ·exact ⟨o1,e1,λv q=>by rw [d1] at q;cases q⟩
  ·exact ⟨o2,e2,λv q=>by rw [d2] at q;cases q⟩
 keep:=λi h h' st kk=>by
  obtain ⟨hz,hTI,⟨u,v,hTO⟩,h1,h2⟩:=st
  exact ⟨kk z (by simp) _ hz,kk TI (by simp) _ hTI,⟨u,v,kk TO (by simp) _ hTO⟩,h1.at λo e=>kk i1 (by simp) o e,h2.at λo e=>kk i2 (by simp) o e⟩
 item:=by
  intro X hP hw hK hc i pins s σ H E I hf st hg
  subst hP hw hK
  obtain ⟨xs,ys,x,y,hq,hq',hx,hy⟩:=hg
  obtain ⟨its,r,pl,hz⟩:=I.list hq
  obtain ⟨its',r',pl',hz'⟩:=I.list hq'
  obtain ⟨u,hu,rx⟩:=r.get hx
  obtain ⟨u',hu',ry⟩:=r'.get hy
  have D:=ZipApart.of F st pl pl'
  obtain ⟨hz0,hTI,⟨c,d,hTO⟩,h1,h2⟩:=st
  have hn:H s.heap.objs.size=none:=I.hok.fresh (Nat.le_refl _)
  refine wpAny_pyNext_zip_item D hz0 hTI hTO h1 h2 pl.isList pl'.isList (x:=u) (y:=u') (by simpa using hu) (by simpa using hu') λh' a1 a2 a3 a4 a5 a6 hk=>?_
  refine ⟨_,rfl,?_⟩
  refine wpAny_letOwnedTupleGo_zip (s:={s with heap:=h'}) a1 λh3 hz3 hs3=>?_
  have lt:∀{c o},s.heap.get? c=some o->c≠s.heap.objs.size:=λe=>Nat.ne_of_lt (Heap.lt_size e)
  have hk2:∀b o,b∉[z,TI,TO,i1,i2]->s.heap.get? b=some o->h3.get? b=some o:=λb o hb q=>by
   simp only [List.mem_cons,List.not_mem_nil,or_false,not_or] at hb
   exact hs3.extBut b o hb.1 (hk b o hb.1 hb.2.2.1 hb.2.2.2.1 hb.2.2.2.2 q)
  have I1:Inv X pins σ H {s with heap:=h3,toks:=s.toks}:=kx I hk2 hf
  have hT2:h3.get? s.heap.objs.size=some {cls:=.type "tuple",data:=.seq #[u,u']}:=hs3.extBut _ _ (Ne.symm (lt hz0)) a5
  have I2:Inv X pins σ (upd H s.heap.objs.size (.tup [x,y])) {s with heap:=h3,toks:=s.toks}:=
   adopt I1 (I.j5 (Nat.le_refl _) hn) (I.sz) ⟨by show 2<=sizeLine;decide,[u,u'],.cons rx (.cons ry .nil),⟨_,hT2,rfl,_,rfl⟩⟩
  refine ⟨.ref s.heap.objs.size,_,I2,rfl,⟨s.heap.objs.size,x,y,hn,rfl,rfl,λzs hzs=>?_,λzs hzs=>?_⟩,⟨hz3,?_,⟨_,_,hs3.extBut _ _ F.TOz a2⟩,a3.extBut hs3.extBut F.i1z,a4.extBut hs3.extBut F.i2z⟩,λb hb=>?_⟩
  ·rw [I.js hzs hq];exact hx
  ·rw [I.js hzs hq'];exact hy
  ·exact hs3.extBut _ _ F.TIz (hk _ _ F.TIz F.TITO F.TIi1 F.TIi2 hTI)
  ·have hlt:b≠s.heap.objs.size:=by
    simp only [List.mem_cons,List.not_mem_nil,or_false] at hb
    rcases hb with rfl | rfl | rfl | rfl | rfl
    ·exact lt hz0
    ·exact lt hTI
    ·exact lt hTO
    ·obtain ⟨_,e,_⟩:=h1;exact lt e
    ·obtain ⟨_,e,_⟩:=h2;exact lt e
   rw [aH hlt]
   exact (hf b hb).1
 done:=by
  intro X hP hw hK hc i pins s σ H E I hf st hg
  subst hP hw hK
  obtain ⟨xs,ys,hq,hq',hx⟩:=hg
  obtain ⟨its,r,pl,hz⟩:=I.list hq
  obtain ⟨its',r',pl',hz'⟩:=I.list hq'
  have D:=ZipApart.of F st pl pl'
  obtain ⟨hz0,hTI,⟨c,d,hTO⟩,h1,h2⟩:=st
  have l1:=r.length
  have l2:=r'.length
  refine wpAny_pyNext_zip_end (I.ok.hd hc) D hz0 hTI hTO h1 h2 pl.isList pl'.isList (hx.imp (λq=>by simp;omega) λq=>by simp;omega) λh' hk=>⟨rfl,?_⟩
  refine kx (t':=s.toks) I (λb o hb q=>?_) hf
  simp only [List.mem_cons,List.not_mem_nil,or_false,not_or] at hb
  exact hk b o hb.1 hb.2.2.1 hb.2.2.2.1 hb.2.2.2.2 q
 self:=λ_ _ _ _ _ st h=>wpAny_pyIter_zip st.1 h
def FY (K:PySem.W.Frag)(ta:TA):TI:=λσ H R=>ta σ H λvs H1=>∃a b xs ys,vs=[.ref a,.ref b]/\aL K H1 a xs/\aL K H1 b ys/\R (Eo K a b) H1
theorem B1 {a b:Expr}{ta:TA}{p pos:Pos}{k:Nat}(hg:Gl X "zip")(hm:X.mg "zip"=none)(ha:PA X [a,b] ta)(hs:autoParam (starEach [a,b] X.env=[(false,eval a X.env),(false,eval b X.env)]) Fc.ag)(hs2:autoParam (starEach [b] X.env=[(false,eval b X.env)]) Fc.ag):PI X (.Tuple es k tp) (.Call (.Name "zip" p) [a,b] [] pos) (FY X.K ta):=by
 intro pins s σ H R I h
 refine Call_ (fN I hg hm boot_zip (PyProof.Rows.callWith_type1 (aO (ha pos pins s σ H _ I h) λus s1 ⟨vs,H1,I1,r1,q1⟩=>?_) (by rw [hs,hs2]) (by rw [hs2];rfl)))
 obtain ⟨l,l',xs,ys,e,hq,hq',q⟩:=q1
 subst e
 cases r1 with
 | cons r rr=>
   cases rr with
   | cons r' rr=>
     cases rr
     cases r
     cases r'
     obtain ⟨its,_,pl,_⟩:=I1.list hq
     obtain ⟨its',_,pl',_⟩:=I1.list hq'
     refine call_zip_2 pl.isList pl'.isList λh' a1 a2 a3 a4 a5 a6 hk=>?_
     refine wpAny_pyIter_zip a1 ?_
     have I2:Inv X pins σ H1 {s1 with heap:=h'}:=I1.kept (t':=s1.toks) hk
     have ff:∀b,s1.heap.objs.size<=b->iH X pins H1 b:=λb hb=>I1.j5 hb (I1.hok.fresh hb)
     refine ⟨s1.heap.objs.size + 4,[s1.heap.objs.size + 4,s1.heap.objs.size + 2,s1.heap.objs.size + 3,s1.heap.objs.size,s1.heap.objs.size + 1],_,_,H1,rfl,I2,wB l l' _ _ _ _ _ (Ge _),⟨a1,a2,⟨_,_,a3⟩,a4,a5⟩,λb hb=>?_,q⟩
     simp only [List.mem_cons,List.not_mem_nil,or_false] at hb
     rcases hb with rfl | rfl | rfl | rfl | rfl
     ·exact ff _ (Nat.le_add_right _ 4)
     ·exact ff _ (Nat.le_add_right _ 2)
     ·exact ff _ (Nat.le_add_right _ 3)
     ·exact ff _ (Nat.le_refl _)
     ·exact ff _ (Nat.le_add_right _ 1)
theorem Al {xs:List α}{ys:List β}{i:Nat}{q:α×β}(h:(xs.zip ys)[i]?=some q):xs[i]?=some q.1/\ys[i]?=some q.2:=by
 rw [List.getElem?_zip_eq_some] at h
 exact h
theorem AK {a b:Expr}{p pos:Pos}{k:Nat}{r:Rep α}{r':Rep β}{xs:List α}{ys:List β}(hm:X.mg "zip"=none)(ha:EV X a Γ (af r) xs Γ1)(hb:EV X b Γ1 (af r') ys Γ2)(hs:autoParam (starEach [a,b] X.env=[(false,eval a X.env),(false,eval b X.env)]) Fc.ag)(hs2:autoParam (starEach [b] X.env=[(false,eval b X.env)]) Fc.ag)(hg:autoParam (Gl X "zip") Fc.ag):
 IV X (.Tuple es k tp) (.Call (.Name "zip" p) [a,b] [] pos) Γ (ay r r') (xs.zip ys) Γ2:=by
 refine ⟨_,B1 hg hm (aD aI (aD aI bp hs2) (by rw [hs,hs2])) hs hs2,λσ H0 R0 H R E Rq q=>ha σ H0 R0 H R E _ λv H1 R1 E1 s1 e1=>hb σ H0 R0 H1 R1 E1 _ λv' H2 R2 E2 s2 e2=>?_⟩
 obtain ⟨a,vs,rfl,hp,pp,z⟩:=e1
 obtain ⟨b,vs',rfl,hp',pp',z'⟩:=e2
 have hp2:R2 a=_:=s2 _ _ hp
 refine ⟨a,b,vs,vs',rfl,aL.of (E2.sub _ _ hp2),aL.of (E2.sub _ _ hp'),q _ H2 R2 E2 (s1.trans s2) (by rw [List.length_zip];exact Nat.le_trans (Nat.min_le_left _ _) z) λH' R' sR sH i=>⟨λy hy=>?_,λhi=>?_⟩⟩
 ·have hq:aL X.K H' a vs:=aL.of (sH _ _ (sR _ _ hp2))
  have hq':aL X.K H' b vs':=aL.of (sH _ _ (sR _ _ hp'))
  obtain ⟨e1,e2⟩:=Al hy
  obtain ⟨v,hv,hr⟩:=dt pp e1
  obtain ⟨v',hv',hr'⟩:=dt pp' e2
  refine ⟨⟨vs,vs',v,v',hq,hq',hv,hv'⟩,λv2 H3 hyl=>?_⟩
  obtain ⟨p,x,x',hpn,rfl,rfl,hy,hy'⟩:=hyl
  have t1:=hy vs hq
  have t2:=hy' vs' hq'
  rw [hv] at t1
  rw [hv'] at t2
  cases t1
  cases t2
  have s3:ar R' (upd R' p (.tup [v,v'])):=ar.fresh (sH.free hpn) _
  exact ⟨upd R' p (.tup [v,v']),Ext.fresh sH hpn _,p,_,_,rfl,az,r.mono s3 (r.mono sR (r.mono s2 hr)),r'.mono s3 (r'.mono sR hr')⟩
 ·refine ⟨vs,vs',aL.of (sH _ _ (sR _ _ hp2)),aL.of (sH _ _ (sR _ _ hp')),?_⟩
  rw [List.length_zip] at hi
  rw [pp.length,pp'.length]
  omega
end
section
variable {X:Cx}{Γ Γ1 Γ2 Γ3:Ga}{α β γ δ:Type}{N:Ga->Prop}{T:RT}
theorem nH {K:PySem.W.Frag}{R:Hp}:∀ys:List Int,PySem.Paired (ae.R K R) (ys.map V.int) ys
 | []=>.nil
 | _::r=>.cons rfl (nH r)
def jC (R H:Hp)(l:List Addr):Hp:=λb=>if b∈l then H b else R b
theorem tR {S:cq}{x:Str}{k:Nat}{e:Expr}{es:List Expr}{p pos:Pos}{ps:List Pk}{yss:List (List Int)}(C:aF X.prog X.w X.K X.mg X.base x k (aQ S X.K))(hr:bA k X.A)(ha:HA X (e::es) Γ ps Γ1)(hS:S X.K ps (ui (· =yss)))(hz:yss.length<=sizeLine)(hzi:∀xs∈yss,xs.length<=sizeLine)
 (hg:autoParam (Gl X x) Fc.ag) (hdb:autoParam ((x==("__debug__":Str))=false) Fc.av) (he:autoParam (starEach (e::es) X.env=(false,eval e X.env)::starEach es X.env) Fc.ag) (hpl:autoParam ((backTo pos (starEach es X.env)).any (·.1)=false) Fc.ag):EV X (.Call (.Name x p) (e::es) [] pos) Γ (af (af ae)) yss Γ1:=λσ H0 R0 H R E Q q=>
 eB C hr ha hS E (λH1 R1 v H' R' E1 s1 xx t=>by
  obtain ⟨a,as,xss,rfl,hn,h1,h2,h3,rfl⟩:=t
  have sR:ar R' (jC R' H' (a::as)):=λb o w=>by
   unfold jC
   split
   ·rename_i hb
    rw [(hn b hb).2] at w;cases w
   ·exact w
  have sH:ar (jC R' H' (a::as)) H':=λb o w=>by
   unfold jC at w
   split at w
   ·exact w
   ·exact xx.s b o w
  have x2:Ext H1 R1 H' (jC R' H' (a::as)):=⟨xx.h,xx.r.trans sR,sH,λb hb=>by
   unfold jC
   rw [if_neg λz=>hb (hn b z).1]
   exact xx.old b hb⟩
  have at_:∀b∈a::as,jC R' H' (a::as) b=H' b:=λb hb=>by unfold jC;rw [if_pos hb]
  refine q _ H' _ (E1.grow x2) (s1.trans x2.r) ⟨a,as.map .ref,rfl,by rw [at_ a List.mem_cons_self];exact h1,?_,hz⟩
  have key:∀(bs:List Addr) (zss:List (List Int)),(∀b∈bs,b∈a::as)->fm H' bs zss->(∀xs∈zss,xs.length<=sizeLine)->PySem.Paired ((af ae).R X.K (jC R' H' (a::as))) (bs.map .ref) zss:=by
   intro bs
   induction bs with
   | nil=>intro zss _ h _;cases zss with
     | nil=>exact .nil
     | cons _ _=>exact absurd h.1 (by simp)
   | cons b bs ih=>intro zss hm h hz;cases zss with
     | nil=>exact absurd h.1 (by simp)
     | cons ys zss=>
       have q1:=h.2 0 b ys rfl rfl
       refine .cons ⟨b,ys.map V.int,rfl,by rw [at_ b (hm b List.mem_cons_self)];exact q1,nH ys,hz ys List.mem_cons_self⟩ (ih zss (λc hc=>hm c (List.mem_cons_of_mem _ hc)) ⟨by simpa using h.1,λi c xs h1 h2=>h.2 (i + 1) c xs (by simpa using h1) (by simpa using h2)⟩ λxs hx=>hz xs (List.mem_cons_of_mem _ hx))
  exact key as xss (λ_ h=>List.mem_cons_of_mem _ h) h2 hzi) hg hdb he hpl
end
end Fc
namespace K1
open PySem L2 Fc
open PySem.Spec hiding Row
open PyProof.Rows hiding St
open PySem.Builtin.Int (intBits)
theorem rC:∀a b:List Int,((a.zip b).map λx=>x.1 * x.2).sum=dot a b
 | [],_=>by simp [dot]
 | _::_,[]=>by simp [dot]
 | x::r,y::s=>by
   rw [List.zip_cons_cons,List.map_cons,List.sum_cons,rC r s];rfl
theorem vh (v:ax)(hv:ba v):(eF v).length<=100:=by
 unfold eF
 rw [List.length_append,List.length_map,au]
 have h:=gc v hv (ups 0 v.1.length)
 rw [au] at h
 have:=hv.pl
 omega
theorem lK {v:ax}:∀rel∈eF v,rel.length=v.2.length + v.1.length/\∀x∈rel, -10<=x/\x<=10:=by
 intro rel hr
 unfold eF at hr
 rcases List.mem_append.mp hr with z | z
 ·obtain ⟨p,_,hz⟩:=List.mem_flatMap.mp z
  obtain ⟨q,_,rfl⟩:=List.mem_map.mp hz
  refine ⟨ia v p q,λx hx=>?_⟩
  unfold cj at hx
  rcases List.mem_append.mp hx with y | y
  ·obtain ⟨r,_,rfl⟩:=List.mem_map.mp y
   unfold fU cz
   split<;>split<;>split<;>decide
  ·obtain ⟨o,_,rfl⟩:=List.mem_map.mp y
   unfold gp cz
   split<;>split<;>split<;>decide
 ·obtain ⟨p,hp,rfl⟩:=List.mem_map.mp z
  refine ⟨qF v p,λx hx=>?_⟩
  unfold dU at hx
  rcases List.mem_append.mp hx with y | y
  ·obtain ⟨r,_,rfl⟩:=List.mem_map.mp y
   unfold cz;split<;>decide
  ·obtain ⟨o,_,rfl⟩:=List.mem_map.mp y
   unfold cz;split<;>decide
section
variable {P:Program}{w:World}{K:PySem.W.Frag}{mg:Str->Option Value}{base:Heap}{f:Addr}{fd:FuncData}
abbrev yc:Stmt:=top j6
theorem B7:aC ["web"] ["web"] (ai yc):=⟨rfl,rfl,rfl,by decide +kernel,rfl,by decide +kernel,by decide +kernel⟩
def SCC:cq:=λK ps T=>∃v:ax,ps=[⟨bx,v⟩]/\T=bE K ae (· =(v.2.length:Int) + (v.1.length:Int))
theorem DN (M:bO mg)(F:bH K "count_of_counts" "count_of_counts" yc f fd)(hm:mg "count_of_counts"=some (.ref f))(hb:Binds K fd ["web"] []):aF P w K mg base "count_of_counts" 1 (aQ SCC K):=by
 have nd:=B7.nd
 refine bD F B7 hm hb (λqs T ⟨_,e,_⟩=>by rw [e];rfl) (λcdv A outer s H E qs T hr hS=>?_)
 obtain ⟨v,rfl,rfl⟩:=hS
 change WS _ _ [.im (ay (af ae) (af aB)) v] _ _
 exact ao (bg (bu (aM M.len (aJ (aa 0 rfl))) (aM M.len (bQ (aa 0 rfl)))) rfl)
abbrev tN:Stmt:=top mT
theorem Ak:aC ["relation","numbers"] ["relation","numbers"] (ai tN):=⟨rfl,rfl,rfl,by decide +kernel,rfl,by decide +kernel,by decide +kernel⟩
def Em:cq:=λK ps T=>∃(a b:List Int),ps=[⟨af ae,a⟩,⟨af ae,b⟩]/\(∀x∈a, -10<=x/\x<=10)/\T=bE K ae (· =dot a b)
theorem Ef (M:bO mg)(F:bH K "relation_sum" "relation_sum" tN f fd)(hm:mg "relation_sum"=some (.ref f))(hb:Binds K fd ["relation","numbers"] []):aF P w K mg base "relation_sum" 1 (aQ Em K):=by
 have nd:=Ak.nd
 have ndc:List.Nodup [("factor":Str),"number"]:=by decide
 refine bD F Ak hm hb (λqs T ⟨_,_,e,_⟩=>by rw [e];rfl) (λcdv A outer s H E qs T hr hS=>?_)
 obtain ⟨a,b,rfl,ha,rfl⟩:=hS
 change WS _ _ [.im (af ae) a,.im (af ae) b] _ _
 refine ao (bg (ux M.sum (bc.im (bN (own:=["factor","number"]) (fr:=[]) (ix:=[]) (ra:=ay ae ae) (rb:=ae) (p:=λ_=>true) (f:=λx=>x.1 * x.2) (bb (so:=ai tN) (N0:=["relation","numbers"]) rfl rfl (λx h=>aT h) (by decide +kernel)) (AK M.zip (aa 0 rfl) (aa 1 rfl))
  (λC s H ex=>dC 0 1) (λx=>⟨.inr rfl,.inr rfl,trivial⟩) (λC s H ex x hx=>cy) (λC s H ex x hx _=>iX (aa 0 rfl) (aa 1 rfl) (.inl (by have:=ha _ (List.of_mem_zip (show (x.1,x.2)∈a.zip b from hx)).1;omega)))))) ?_)
 rw [List.filter_eq_self.mpr (by simp)]
 exact rC a b
abbrev tY:Stmt:=top qL
theorem B2:aC ["web","numbers"] ["web","numbers"] (ai tY):=⟨rfl,rfl,rfl,by decide +kernel,rfl,by decide +kernel,by decide +kernel⟩
def fV (v:ax)(ns:List Int):Bool:=(eF v).all λrel=>decide (dot rel ns=0)
def Fb:cq:=λK ps T=>∃(v:ax) (ns:List Int),ps=[⟨bx,v⟩,⟨af ae,ns⟩]/\ba v/\T=bE K aR (· =fV v ns)
theorem DG (M:bO mg)(CR:aF P w K mg base "relations" 7 (aQ Ff K))(CS:aF P w K mg base "relation_sum" 1 (aQ Em K))(F:bH K "are_even" "are_even" tY f fd)(hm:mg "are_even"=some (.ref f))(hb:Binds K fd ["web","numbers"] []):aF P w K mg base "are_even" 8 (aQ Fb K):=by
 have nd:=B2.nd
 have ndc:List.Nodup [("relation":Str),"numbers"]:=by decide
 have CS:=CS.mono (show 1<=7 by decide)
 refine bD F B2 hm hb (λqs T ⟨_,_,e,_⟩=>by rw [e];rfl) (λcdv A outer s H E qs T hr hS=>?_)
 obtain ⟨v,ns,rfl,hv,rfl⟩:=hS
 have pl:=hv.pl
 have rl:=hv.rl
 change WS _ _ [.im bx v,.im (af ae) ns] _ _
 refine ao (bg (gu M.all (bc.im (bN (own:=["relation"]) (fr:=["numbers"]) (ix:=[1]) (ra:=af ae) (rb:=aR) (p:=λ_=>true) (f:=λrel=>decide (dot rel ns=0)) (bb (so:=ai tY) (N0:=["web","numbers"]) rfl rfl (λx h=>aT h) (by decide +kernel))
  (bj (tR CR hr (ah (aa 0 rfl) aw) ⟨v,rfl,hv,rfl⟩ (aE (Nat.le_trans (vh v hv) (by decide))) λxs hx=>aE (by rw [(lK xs hx).1];omega)))
  (λC s H ex=>aG 0) (λx=>⟨.inr rfl,.inl rfl,trivial⟩) (λC s H ex x hx=>cy) (λC s H ex x hx _=>bZ bI (bt CS hr (ah (aa 0 rfl) (ah (aa 1 rfl) aw)) ⟨_,_,rfl,(lK x hx).2,rfl⟩) ak)))) ?_)
 rw [List.filter_eq_self.mpr (by simp)]
 unfold fV
 rw [List.all_map]
 rfl
end
end K1
namespace Fc
open PySem PySem.Spec L2
open PyProof.Rows hiding St
section
variable {X:Cx}{Γ Γ1 Γ2 Γ3:Ga}{α β γ δ:Type}{N:Ga->Prop}{T:RT}
variable {e:Expr}
theorem vD {d:Expr}{pos:Pos}{kvs:List (Int×V)}{k:Int}(hu:X.A.units + 1 < cLine)(he:EV X e Γ ae k Γ1)(hd:EV X d Γ1 mC kvs Γ2)(hbm:autoParam (behindInMarks .NotIn d=false) Fc.ag):TV X (.Compare e [.NotIn] [d] pos) Γ (!gG kvs k) Γ2:=by
 intro σ H0 R0 H R E Q q
 refine tS (oW (nK hu aI aI) (by first | exact hbm | (unfold behindInMarks;exact hbm))) (he σ H0 R0 H R E _ λv H1 R1 E1 s1 e1=>hd σ H0 R0 H1 R1 E1 _ λu H2 R2 E2 s2 e2=>?_)
 obtain ⟨a,rfl,ha⟩:=e2
 cases e1
 refine ⟨a,_,rfl,ez.k (k:=Sum.inl k) (E2.sub _ _ ha),_,rfl,?_⟩
 rw [ki]
 exact q H2 R2 E2 (s1.trans s2)
theorem bc.oE {r:Rep α}{xs ys:List α}(h:bc X e Γ r xs Γ1)(q:xs=ys):bc X e Γ r ys Γ1:=q▸h
theorem TV.oE {a b:Bool}(h:TV X e Γ a Γ1)(q:a=b):TV X e Γ b Γ1:=q▸h
theorem wQ {kvs:List (Int×V)}{k:Int}:gG kvs k=true↔k∈kvs.map (·.1):=by
 unfold gG
 rw [List.any_eq_true,List.mem_map]
 constructor
 ·rintro ⟨p,h,e⟩;exact ⟨p,h,of_decide_eq_true e⟩
 ·rintro ⟨p,h,e⟩;exact ⟨p,h,decide_eq_true e⟩
end
end Fc
namespace K1
open PySem L2 Fc
open PySem.Spec hiding Row
open PyProof.Rows hiding St
open PySem.Builtin.Int (intBits)
theorem wA (v:ax):nums v.2=(ups 0 v.2.length).map λk=>(k,rowOf v k):=by
 refine List.ext_getElem? λi=>?_
 unfold nums ups
 rw [List.getElem?_map,List.getElem?_map,List.getElem?_map,List.getElem?_zipIdx]
 by_cases hi:i < v.2.length
 ·rw [List.getElem?_range hi,List.getElem?_eq_getElem hi]
  simp [rowOf,List.getD_eq_getElem?_getD,hi]
 ·rw [List.getElem?_eq_none (by omega),List.getElem?_eq_none (by simpa using hi)];rfl
theorem yX (v:ax)(p:Int)(ns:List Int):((nums v.2).filter λx=>decide (x.2.1=p)&&decide (0 < ns.getD x.1.toNat 0)).map (λx=>x.1)=fg v p ns:=by
 rw [wA,List.filter_map,List.map_map]
 unfold fg
 show List.map (λk=>k) _=_
 rw [List.map_id']
 rfl
theorem gh {v:ax}{p:Int}{ns:List Int}{k:Int}(h:k∈fg v p ns):0<=k/\k < (v.2.length:Int):=by
 have:=bz.mp (List.mem_filter.mp h).1
 omega
theorem lN (v:ax)(p:Int)(ns:List Int):(fg v p ns).length<=v.2.length:=by
 have:=List.length_filter_le (λk=>decide ((rowOf v k).1=p)&&decide (0 < ns.getD k.toNat 0)) (ups 0 v.2.length)
 rw [au] at this
 exact this
open Classical in
noncomputable def ka (v:ax)(ns:List Int)(p k:Int):Bool:= !decide (0 < ns.getD (v.2.length + p.toNat) 0) || !decide (Reach (fQ v p ns) 0 (rowOf v k).2.1)
noncomputable def fH (v:ax)(ns:List Int)(p:Int):List Int:=(fg v p ns).filter (ka v ns p)
noncomputable def jK (v:ax)(ns:List Int):List Int:=(ups 0 v.1.length).flatMap (fH v ns)
theorem mE (v:ax)(ns:List Int)(p:Int):(fH v ns p).length<=v.2.length:=Nat.le_trans (List.length_filter_le _ _) (lN v p ns)
theorem jN (v:ax)(ns:List Int):∀l:List Int,(l.flatMap (fH v ns)).length<=v.2.length * l.length
 | []=>by simp
 | p::r=>by
   have:=jN v ns r
   have:=mE v ns p
   rw [List.flatMap_cons,List.length_append,List.length_cons,Nat.mul_succ];omega
theorem nB {v:ax}{ns:List Int}:jK v ns=[]↔∀p,0<=p->p < (v.1.length:Int)->jT v p ns:=by
 unfold jK
 rw [List.flatMap_eq_nil_iff]
 constructor
 ·intro h p p0 p1 k hk
  have e:=h p (bz.mpr (by omega))
  unfold fH at e
  rw [List.filter_eq_nil_iff] at e
  have:=e k hk
  unfold ka at this
  simpa using this
 ·intro h p hp
  have pb:=bz.mp hp
  unfold fH
  rw [List.filter_eq_nil_iff]
  intro k hk
  have:=h p (by omega) (by omega) k hk
  unfold ka
  simpa using this
section
variable {P:Program}{w:World}{K:PySem.W.Frag}{mg:Str->Option Value}{base:Heap}{f:Addr}{fd:FuncData}
abbrev nA:Stmt:=top oj
abbrev yq:List Str:=["web","numbers","apart","part","gone","found","begun"]
theorem B8:aC yq ["web","numbers"] (ai nA):=⟨rfl,rfl,rfl,by decide +kernel,rfl,by decide +kernel,by decide +kernel⟩
def Fq:cq:=λK ps T=>∃(v:ax) (ns:List Int),ps=[⟨bx,v⟩,⟨af ae,ns⟩]/\ba v/\ns.length=v.2.length + v.1.length/\T=i6 K ae (· =jK v ns)
theorem Dc (M:bO mg)(CR:aF P w K mg base "reached" 1 (aQ zO K))(F:bH K "rows_apart" "rows_apart" nA f fd)(hm:mg "rows_apart"=some (.ref f))(hb:Binds K fd ["web","numbers"] []):aF P w K mg base "rows_apart" 2 (aQ Fq K):=by
 have nd:=B8.nd
 have nd1:List.Nodup [("k":Str),"row","numbers","part"]:=by decide
 have nd2:List.Nodup [("k":Str),"web"]:=by decide
 have nd3:List.Nodup [("k":Str),"begun","found","web"]:=by decide
 obtain ⟨t1,hB⟩:=M.begin_
 refine bD F B8 hm hb (λqs T ⟨_,_,e,_⟩=>by rw [e];rfl) (λcdv A outer s H E qs T hr hS=>?_)
 obtain ⟨v,ns,rfl,hv,hn,rfl⟩:=hS
 have pl:=hv.pl
 have rl:=hv.rl
 have hu:(A.deeper (envOfC "rows_apart" (ai nA) s.heap.objs.size f cdv)).units + 1 < cLine:=Nat.lt_of_le_of_lt (Nat.add_le_add_left (by decide:1<=64) _) hr.units
 change WS _ _ [.im (ay (af ae) (af aB)) v,.im (af ae) ns,.no,.no,.no,.no,.no] _ _
 have el:((v.1.length:Int)).toNat=v.1.length:=by omega
 refine aj (bG 2 (r:=ae) (aN aY (by decide)) ?_)
 refine aj (bS (r:=ae) (λi Γ=>∃v3 v4 v5 v6,Γ=[.im (ay (af ae) (af aB)) v,.im (af ae) ns,.mu ae (((ups 0 v.1.length).take i).flatMap (fH v ns)),v3,v4,v5,v6])
  (bB M.range (aM M.len (bQ (aa 0 rfl))) ⟨by omega,by omega⟩) (aG 3) ⟨_,_,_,_,rfl⟩ ?_ ?_)
 ·rintro i p Γ hp ⟨v3,v4,v5,v6,rfl⟩
  rw [el] at hp
  have pb:=bz.mp (List.mem_of_getElem? hp)
  have tk:=eE hp
  have hl:=jN v ns ((ups 0 v.1.length).take i)
  rw [List.length_take,au] at hl
  generalize hA:((ups 0 v.1.length).take i).flatMap (fH v ns)=A1 at hl
  have rw_at:∀k,0<=k->k < (v.2.length:Int)->bW v.2 k=some (rowOf v k):=λk k0 k1=>by
   rw [eD k0 k1,List.getElem?_eq_getElem (by omega)]
   unfold rowOf
   rw [List.getD_eq_getElem?_getD,List.getElem?_eq_getElem (by omega)];rfl
  refine aj (fI 4 (own:=["k","row"]) (fr:=["numbers","part"]) (ix:=[1,3]) (ra:=ay ae aB) (rb:=ae) (p:=λx=>decide (x.2.1=p)&&decide (0 < ns.getD x.1.toNat 0)) (f:=λx=>x.1) (bb (so:=ai nA) (N0:=yq) rfl rfl (λx h=>aT h) (by decide +kernel)) (kC M.enumerate (aJ (aa 0 rfl)))
   (λC s H ex=>dC 0 1) (λx=>⟨.inr rfl,.inr rfl,.inl rfl,.inl rfl,trivial⟩) (λC s H ex x hx=>eX (TW.tv (dy (aA bI (dS (aa 1 rfl)) (aa 3 rfl)) λ_=>dZ (aA gj (aP (aa 2 rfl) (aa 0 rfl) (by
    obtain ⟨j,hj⟩:=List.mem_iff_getElem?.mp hx
    obtain ⟨e1,e2⟩:=iY hj
    have:=(List.getElem?_eq_some_iff.mp e2).1
    exact cx (by omega) (by omega))) ak)))) (λC s H ex x hx _=>aa 0 rfl) ?_)
  rw [yX]
  have gl:=lN v p ns
  refine aj (ja 5 CR hr (ah (bc.im (bN (own:=["k"]) (fr:=["web"]) (ix:=[0]) (ra:=ae) (rb:=bX) (p:=λ_=>true) (f:=λk=>((rowOf v k).2.1,(rowOf v k).2.2.1)) (bb (so:=ai nA) (N0:=yq) rfl rfl (λx h=>aT h) (by decide +kernel)) (bj (cI 4 rfl (aE (by omega))))
   (λC s H ex=>aG 0) (λx=>⟨.inr rfl,.inl rfl,trivial⟩) (λC s H ex x hx=>cy) (λC s H ex k hx _=>cg (ah (dG (aP (aJ (aa 1 rfl)) (aa 0 rfl) (rw_at k (gh hx).1 (gh hx).2))) (ah (c3 (aP (aJ (aa 1 rfl)) (aa 0 rfl) (rw_at k (gh hx).1 (gh hx).2))) aw))))) (ah (cB hB) aw)) ⟨_,_,rfl,by rw [List.length_map,List.filter_eq_self.mpr (by simp)];omega,rfl⟩ ?_)
  rintro kvs ⟨n1,e1⟩
  rw [List.filter_eq_self.mpr (by simp)] at e1
  have e1:∀k,gG kvs k=true↔Reach (fQ v p ns) 0 k:=λk=>wQ.trans (e1 k)
  refine aj (bo 6 (bZ gj (aP (aa 1 rfl) (bu (aM M.len (aJ (aa 0 rfl))) (aa 3 rfl)) (cx (by omega) (by omega))) ak) ?_)
  have ep:((v.2.length:Int) + p).toNat=v.2.length + p.toNat:=by omega
  rw [ep]
  refine ao (vQ 2 (ys:=fH v ns p) (bc.oE (bN (own:=["k"]) (fr:=["begun","found","web"]) (ix:=[6,5,0]) (ra:=ae) (rb:=ae) (p:=ka v ns p) (f:=λk=>k) (bb (so:=ai nA) (N0:=yq) rfl rfl (λx h=>aT h) (by decide +kernel)) (bj (aa 4 rfl))
   (λC s H ex=>aG 0) (λx=>⟨.inr rfl,.inl rfl,.inl rfl,.inl rfl,trivial⟩) (λC s H ex k hx=>eX (TV.oE (TW.tv (dA (cD (cc (aa 1 rfl))) λ_=>dI (vD hu (dG (aP (aJ (aa 3 rfl)) (aa 0 rfl) (rw_at k (gh hx).1 (gh hx).2))) (aa 2 rfl)))) (by
    unfold ka
    congr 2
    rw [Bool.eq_iff_iff,e1];simp))) (λC s H ex x hx _=>aa 0 rfl)) (by unfold fH;rw [List.map_id'])) rfl rfl (aE (by
     have:=mE v ns p
     have:v.2.length * min i v.1.length<=60 * 4:=Nat.mul_le_mul (by omega) (by omega)
     omega)) ?_)
  refine ⟨.im ae p,.im (af ae) (fg v p ns),.im mC kvs,.im aR (decide (0 < ns.getD (v.2.length + p.toNat) 0)),?_⟩
  rw [tk,List.flatMap_append,hA,List.flatMap_cons,List.flatMap_nil,List.append_nil];rfl
 ·rintro Γ ⟨v3,v4,v5,v6,rfl⟩
  rw [au,el,List.take_of_length_le (Nat.le_of_eq (au _ _))]
  have hl:=jN v ns (ups 0 v.1.length)
  rw [au] at hl
  have:v.2.length * v.1.length<=60 * 4:=Nat.mul_le_mul (by omega) (by omega)
  exact ao (zj 2 rfl (aE (by omega)) rfl)
abbrev vj:Stmt:=top ot
theorem zL:aC ["web","numbers"] ["web","numbers"] (ai vj):=⟨rfl,rfl,rfl,by decide +kernel,rfl,by decide +kernel,by decide +kernel⟩
noncomputable def de (v:ax)(ns:List Int):Bool:=if !decide ((ns.length:Int)=(v.2.length:Int) + (v.1.length:Int)) then false else if (decide (least ns < 0) || !fV v ns) then false else decide (jK v ns=[])
def Ag:cq:=λK ps T=>∃(v:ax) (ns:List Int),ps=[⟨bx,v⟩,⟨af ae,ns⟩]/\ba v/\T=bE K aR (· =de v ns)
theorem Dv (M:bO mg)(CN:aF P w K mg base "need_web" 6 (aQ BX K))(CC:aF P w K mg base "count_of_counts" 1 (aQ SCC K))(CW:aF P w K mg base "are_whole" 2 (aQ yo K))(CE:aF P w K mg base "are_even" 8 (aQ Fb K))(CA:aF P w K mg base "rows_apart" 2 (aQ Fq K))(F:bH K "are_counts" "are_counts" vj f fd)(hm:mg "are_counts"=some (.ref f))(hb:Binds K fd ["web","numbers"] []):aF P w K mg base "are_counts" 9 (aQ Ag K):=by
 have nd:=zL.nd
 have CN:=CN.mono (show 6<=8 by decide)
 have CC:=CC.mono (show 1<=8 by decide)
 have CW:=CW.mono (show 2<=8 by decide)
 have CA:=CA.mono (show 2<=8 by decide)
 refine bD F zL hm hb (λqs T ⟨_,_,e,_⟩=>by rw [e];rfl) (λcdv A outer s H E qs T hr hS=>?_)
 obtain ⟨v,ns,rfl,hv,rfl⟩:=hS
 have pl:=hv.pl
 have rl:=hv.rl
 have hu:(A.deeper (envOfC "are_counts" (ai vj) s.heap.objs.size f cdv)).units + (0 + 1) < cLine:=Nat.lt_of_le_of_lt (Nat.add_le_add_left (by decide:1<=64) _) hr.units
 change WS _ _ [.im bx v,.im (af ae) ns] _ _
 refine aj (se CN hr (ah (aa 0 rfl) aw) ⟨v,rfl,hv,rfl⟩ ?_)
 refine aj (bh (TW.tv (dA (cD (cc (dM M.isinstance M.list PyProof.Rows.boot_list (aa 1 rfl) ty_list (b:=true)))) λ_=>dI (aA ip (aM M.len (aa 1 rfl)) (bt CC hr (ah (aa 0 rfl) aw) ⟨v,rfl,rfl⟩)))) (λh=>?_) (λh=>aV ?_))
 ·refine ao (bg dv ?_)
  have h:(!decide ((ns.length:Int)=(v.2.length:Int) + (v.1.length:Int)))=true:=h
  unfold de
  rw [if_pos h]
 have h:(!decide ((ns.length:Int)=(v.2.length:Int) + (v.1.length:Int)))=false:=h
 have hn:(ns.length:Int)=(v.2.length:Int) + (v.1.length:Int):=by simpa using h
 have hne:ns≠[]:=λz=>by rw [z] at hn;simp at hn;omega
 refine aj (bh (TW.tv (dA (cD (cc (bt CW hr (ah (aa 1 rfl) aw) ⟨.inl ⟨_,rfl⟩,rfl⟩))) λ_=>dA (aA gm (m4 M.min (aa 1 rfl) hne) ak) λ_=>dI (cD (cc (bt CE hr (ah (aa 0 rfl) (ah (aa 1 rfl) aw)) ⟨v,ns,rfl,hv,rfl⟩))))) (λh1=>?_) (λh1=>aV ?_))
 ·refine ao (bg dv ?_)
  have h1:(decide (least ns < 0) || !fV v ns)=true:=h1
  unfold de
  rw [if_neg (by rw [h];decide),if_pos h1]
 have h1:(decide (least ns < 0) || !fV v ns)=false:=h1
 refine ao (bg (bZ (yx eq_int hu) (bc.im (d9 CA hr (ah (aa 0 rfl) (ah (aa 1 rfl) aw)) ⟨v,ns,rfl,hv,by omega,rfl⟩)) (bc.im (aN aY (by decide)))) ?_)
 unfold de
 rw [if_neg (by rw [h];decide),if_neg (by rw [h1];decide)]
end
end K1
namespace Fc
open PySem PySem.Spec L2
open PyProof.Rows hiding St
def FlE:Ent->Prop
 | .no=>True
 | .im _ _=>True
 | _=>False
def pE:Ga->Prop
 | []=>True
 | e::r=>FlE e/\pE r
theorem pE.fp:∀{Γ:Ga},pE Γ->∀(i:Nat) (e:Ent),Γ[i]?=some e->∀o,e.fp o=[]
 | e::_,⟨h,_⟩,0,_,q,o=>by
   cases q
   cases e with
   | no=>rfl
   | im _ _=>rfl
   | mu _ _=>exact h.elim
   | di _=>exact h.elim
   | ob _=>exact h.elim
 | _::r,⟨_,h⟩,i + 1,e,q,o=>pE.fp h i e (by simpa using q) o
 | [],_,i,e,q,o=>by simp at q
theorem aq.yr {K:PySem.W.Frag}{σ:St}{H0 R0 H R:Hp}{Γ:Ga}(E:aq K σ H0 R0 H R Γ)(fl:pE Γ):aq K σ H R H R Γ:=
 ⟨⟨ar.refl _,ar.refl _,E.sub,λ_ _=>rfl⟩,E.ent,(λi e a q w=>by rw [fl.fp i e q] at w;cases w),(λi j e e' a q q' w w'=>by rw [fl.fp i e q] at w;cases w),E.len⟩
section
variable {X:Cx}{Γ Γ1 Γ2 Γ3:Ga}{α β γ δ:Type}{N:Ga->Prop}{T:RT}
def l6 (X:Cx)(e:Expr)(Γ:Ga){α:Type}(r:Rep α)(P:List α->Prop)(Γ':Ga):Prop:=
 ∀(σ:St) (H0 R0 H R:Hp),aq X.K σ H0 R0 H R Γ->∀Q:VK,(∀a vs ys H' R',aq X.K σ H0 R0 H' R' Γ'->ar R R'->H' a=some (.lst vs)->R' a=none->H0 a=none->Off a σ Γ'->PySem.Paired (r.R X.K R') vs ys->ys.length<=sizeLine->P ys->Q (.ref a) H')->d6 X e σ H Q
theorem bc.evr {e:Expr}{r:Rep α}{ys:List α}{P:List α->Prop}(h:bc X e Γ r ys Γ1)(hp:P ys):l6 X e Γ r P Γ1:=λσ H0 R0 H R E Q q=>h σ H0 R0 H R E Q λa vs H' R' E' s' h1 h2 h3 h4 h5 h6=>q a vs ys H' R' E' s' h1 h2 h3 h4 h5 h6 hp
theorem qi {S:cq}{x:Str}{k:Nat}{e:Expr}{es:List Expr}{p pos:Pos}{ps:List Pk}{r:Rep α}{Pd:List α->Prop}(C:aF X.prog X.w X.K X.mg X.base x k (aQ S X.K))(hr:bA k X.A)(ha:HA X (e::es) Γ ps Γ1)(hS:S X.K ps (i6 X.K r Pd))
 (hg:autoParam (Gl X x) Fc.ag) (hdb:autoParam ((x==("__debug__":Str))=false) Fc.av) (he:autoParam (starEach (e::es) X.env=(false,eval e X.env)::starEach es X.env) Fc.ag) (hpl:autoParam ((backTo pos (starEach es X.env)).any (·.1)=false) Fc.ag):l6 X (.Call (.Name x p) (e::es) [] pos) Γ r Pd Γ1:=λσ H0 R0 H R E Q q=>
 eB C hr ha hS E (λH1 R1 v H' R' E1 s1 xx t=>by
  obtain ⟨a,vs,zs,rfl,h0,ha,hR,pp,hz,hp⟩:=t
  exact q a vs zs H' R' (E1.grow xx) (s1.trans xx.r) ha hR (E1.ext.h.free h0) (λj e q w=>(Ent.dz (E1.ent j e q) w).1 h0) pp hz hp) hg hdb he hpl
theorem tj {tg elt:Expr}{scope:Scope}{cl:List (Str×Addr)}{own fr:List Str}{ix:List Nat}{ra:Rep α}{rb:Rep β}{xs:List α}{P:α->List β->Prop}{bf:α->Ga->Ga}{J:It}{σ:St}{H0 R0 H1 R1:Hp}{Q:VK}(E1:aq X.K σ H0 R0 H1 R1 Γ1)(src:Src X.K J R1 ra xs)(hz:xs.length<=sizeLine)
 (hb:∀(C:Addr) (s:Shared) (H:Hp) (ex:List Addr),BG (aK X scope cl C (own++fr) s H ex) tg ra bf) (hw:∀x,Wk (bf x (cu own ix Γ1)) (cu own ix Γ1)) (hfl:∀x,pE (bf x (cu own ix Γ1)))
 (he:∀(C:Addr) (s:Shared) (H:Hp) (ex:List Addr) x,x∈xs->l6 (aK X scope cl C (own++fr) s H ex) elt (bf x (cu own ix Γ1)) rb (P x) (bf x (cu own ix Γ1)))
 (q:∀a bs yss H' R',Ext H1 R1 H' R'->H' a=none->fX X.K rb H' R' bs yss->bs.Nodup->(∀b∈bs,H1 b=none/\R' b=none)->PySem.Paired P xs yss->(∀ys∈yss,ys.length<=sizeLine)->Q (.ref a) (upd H' a (.lst (bs.map .ref)))):
 ∃W:Nat->Nat->List V->St->Hp->Prop,(∃m,W 0 m [] (eM own ix σ) H1)/\∀i m ys σ' H',W i m ys σ' H'->
  ys.length<=sizeLine/\((J.stop i H'/\∀p,H' p=none->Q (.ref p) (upd H' p (.lst ys)))∨
  (J.go i H'/\∀x H2,J.yld i H' x H2->(λv σ H Q=>∀C s Hh ex,ic (aK X scope cl C (own++fr) s Hh ex) tg v σ H Q:TG) x σ' H2 λσ2 H3=>(λσ H Q=>∀C s Hh ex,iK (aK X scope cl C (own++fr) s Hh ex) [] σ H Q:TT) σ2 H3 λb H4=>
    if b=true then (λσ H Q=>∀C s Hh ex,d6 (aK X scope cl C (own++fr) s Hh ex) elt σ H Q:TE) σ2 H4 λv H5=>∃m',m' < m/\W (i + 1) m' (ys++[v]) σ2 H5 else∃m',m' < m/\W (i + 1) m' ys σ2 H4)):=by
 refine ⟨λi m ys σ' H'=>m=xs.length - i/\i<=xs.length/\∃R' bs yss,aq X.K σ' H1 R1 H' R' (cu own ix Γ1)/\ys=bs.map .ref/\fX X.K rb H' R' bs yss/\bs.Nodup/\(∀b∈bs,H1 b=none/\R' b=none)/\PySem.Paired P (xs.take i) yss/\∀ys∈yss,ys.length<=sizeLine,⟨_,rfl,Nat.zero_le _,R1,[],[],lJ E1 own ix,rfl,⟨rfl,λi b r h1=>by simp at h1⟩,List.nodup_nil,(λb hb=>by cases hb),(.nil:PySem.Paired P [] []),(λys hy=>by cases hy)⟩,?_⟩
 rintro i m ys σ' H' ⟨rfl,hle,R',bs,yss,E',rfl,hrs,hnd,hbs,pq,hsz⟩
 have hbl:bs.length=i:=by rw [hrs.1,← pq.length,List.length_take];omega
 have hys:(bs.map V.ref).length<=sizeLine:=by rw [List.length_map,hbl];omega
 obtain ⟨sgo,sstop⟩:=src H' R' E'.ext.r E'.sub i
 refine ⟨hys,?_⟩
 by_cases hlt:i < xs.length
 ·obtain ⟨go,yl⟩:=sgo _ (List.getElem?_eq_getElem hlt)
  have hmem:xs[i]∈xs:=List.getElem_mem hlt
  have tk:(xs.take (i + 1))=xs.take i++[xs[i]]:=by rw [List.take_succ,List.getElem?_eq_getElem hlt];rfl
  refine .inr ⟨go,λv H2 hy C s Hh ex=>?_⟩
  obtain ⟨R2,x2,hr⟩:=yl v H2 hy
  refine hb C s Hh ex σ' H1 R1 H2 R2 _ v _ (E'.grow x2) hr _ λσ2 E2=>?_
  intro C s Hh ex
  refine (cy (X:=aK X scope cl C (own++fr) s Hh ex)) σ2 H2 R2 H2 R2 (E2.yr (hfl _)) _ λH4 R4 E4 s4=>?_
  rw [if_pos rfl]
  intro C s Hh ex
  refine he C s Hh ex _ hmem σ2 H4 R4 H4 R4 (E4.yr (hfl _)) _ λa vs zs H5 R5 E5 s5 ha hR h0 off pp hz' hP=>?_
  have x5:Ext H' R' H5 R5:=x2.trans (E4.ext.trans E5.ext)
  have x25:Ext H2 R2 H5 R5:=E4.ext.trans E5.ext
  have hin:∀b∈bs,H' b≠none:=λb hb=>by
   obtain ⟨r,hr⟩:=hrs.one hb
   rw [hr];exact Option.some_ne_none _
  have hold:∀b∈bs,b≠a:=λb hb e=>by
   have:H4 b≠none:=ar.some (x2.h.trans E4.ext.h) (hin b hb)
   exact this (e▸h0)
  refine ⟨xs.length - (i + 1),by omega,rfl,hlt,R5,bs++[a],yss++[zs],(E2.grow x25).weak (hw _),by rw [List.map_append];rfl,?_,?_,λb hb=>?_,?_,λys hy=>?_⟩
  ·refine fX.snoc (fX.loc hrs (λc hc=>?_) x5.r) ha pp
   cases e:H' c with
   | none=>exact absurd e (hin c hc)
   | some u=>exact x5.h c u e
  ·exact eT hnd λz=>hold a z rfl
  ·rcases List.mem_append.mp hb with z | z
   ·exact ⟨(hbs b z).1,(x5.old b (hin b z)).trans (hbs b z).2⟩
   ·rw [List.mem_singleton.mp z]
    exact ⟨(E'.ext.h.trans (x2.h.trans E4.ext.h)).free h0,hR⟩
  ·rw [tk]
   exact bP pq (.cons hP .nil)
  ·rcases List.mem_append.mp hy with z | z
   ·exact hsz ys z
   ·rw [List.mem_singleton.mp z];exact hz'
 ·have e:i=xs.length:=by omega
  subst e
  rw [List.take_length] at pq
  exact .inl ⟨sstop (Nat.le_refl _),λa ha=>q a bs yss H' R' E'.ext ha hrs hnd hbs pq hsz⟩
theorem rZ (i:Nat){y:Str}{py spos:Pos}{tg elt iter:Expr}{scope:Scope}{pos:Pos}{cl:List (Str×Addr)}{own fr:List Str}{ix:List Nat}{ra:Rep α}{rb:Rep β}{xs:List α}{P:α->List β->Prop}{bf:α->Ga->Ga}
 (S:dq X scope cl own fr ix) (hit:IV X tg iter Γ ra xs Γ1)
 (hb:∀(C:Addr) (s:Shared) (H:Hp) (ex:List Addr),BG (aK X scope cl C (own++fr) s H ex) tg ra bf) (hw:∀x,Wk (bf x (cu own ix Γ1)) (cu own ix Γ1)) (hfl:∀x,pE (bf x (cu own ix Γ1)))
 (he:∀(C:Addr) (s:Shared) (H:Hp) (ex:List Addr) x,x∈xs->l6 (aK X scope cl C (own++fr) s H ex) elt (bf x (cu own ix Γ1)) rb (P x) (bf x (cu own ix Γ1)))
 (h:∀a bs yss,PySem.Paired P xs yss->(∀ys∈yss,ys.length<=sizeLine)->N (Γ1.set i (.ob (cH rb a bs yss))))
 (hsw:autoParam (swapsWith (.ListComp elt [⟨tg,iter,[],0⟩] scope pos) (some (.Name y py)) spos.line X.env=pure true) Fc.ag)
 (hN:autoParam (X.N.Nodup) Fc.fj) (hi':X.N[i]?=some y:=by rfl) (hx:autoParam (Loc X.env.scope y) Fc.fi)
 (hc:autoParam (X.calm=true) Fc.ag) (hs:autoParam (∀x,foldedSetIterable iter X.env x=pure x) Fc.c9) (hf:autoParam (X.fn y=true∨X.env.scope.names.lookup y=some .local) Fc.iy):
 W1 X (.Assign [.Name y py] (.ListComp elt [⟨tg,iter,[],0⟩] scope pos) spos) Γ N T:=λσ H0 R0 H R E D dn dr=>by
 obtain ⟨wi,hi,hit⟩:=hit
 refine sS (jw (i:=i) (g:=λv σ H Q=>∀C s Hh ex,ic (aK X scope cl C (own++fr) s Hh ex) tg v σ H Q) (tc:=λσ H Q=>∀C s Hh ex,iK (aK X scope cl C (own++fr) s Hh ex) [] σ H Q) (te:=λσ H Q=>∀C s Hh ex,d6 (aK X scope cl C (own++fr) s Hh ex) elt σ H Q) hsw hN hi' hx hc S hi
  (λC s H ex=>⟨λpins s1 σ H v u Q I r h=>h C s _ ex pins s1 u I r,λpins s1 σ H Q I h=>h C s _ ex pins s1 I,λpins s1 σ H Q I h=>h C s _ ex pins s1 I⟩) hs hf) ?_
 refine hit σ H0 R0 H R E _ λJ H1 R1 E1 s1 hz src=>tj (Q:=λv H'=>D.nx (σ.set i (some v)) H') E1 src hz hb hw hfl he λa bs yss H' R' xx ha hg hnd hbs pq hsz=>?_
 have E2:=E1.grow xx
 have E3:=E2.grow (Ext.dW E2.sub ha (.lst (bs.map .ref)))
 have inb:∀c∈bs,H' c≠none:=λc hc=>by
  obtain ⟨r,hr⟩:=hg.one hc
  rw [hr];exact Option.some_ne_none _
 have nab:a∉bs:=λz=>inb a z ha
 refine dn _ _ R' _ (E3.setG (en:=.ob (cH rb a bs yss)) i ⟨⟨.ref a,rfl,rfl,az,hg.loc (λc hc=>aH λz=>nab (z▸hc)) (ar.refl _),List.nodup_cons.mpr ⟨nab,hnd⟩⟩,λb hb=>?_⟩ (λb hb=>?_) λb hb j e _ qj w=>?_) (s1.trans xx.r) (h a bs yss pq hsz)
 ·rcases List.mem_cons.mp hb with rfl | hb
  ·exact E2.sub.free ha
  ·exact (hbs b hb).2
 ·rcases List.mem_cons.mp hb with rfl | hb
  ·exact E2.ext.h.free ha
  ·exact E1.ext.h.free (hbs b hb).1
 ·rcases List.mem_cons.mp hb with rfl | hb
  ·exact E2.off ha j e qj w
  ·exact (Ent.dz (E1.ent j e qj) w).1 (hbs b hb).1
end
section
variable {X:Cx}{Γ Γ1 Γ2 Γ3:Ga}{α β γ δ:Type}{N:Ga->Prop}{T:RT}
theorem n8 (i l:Nat){S:eU Int}{g x y:Str}{m:Nat}{b:Expr}{p p1 p2 p3 pos:Pos}{a:Addr}{as:List Addr}{xss:List (List Int)}{xs left st:List Int}{k:Int}{j:Nat}{z:Bool}(C:aF X.prog X.w X.K X.mg X.base g m (fu ae S X.K))(hr:bA m X.A)(hb:EV X b Γ ae k Γ)(hΓ:Γ[i]?=some (.ob (cH ae a as xss)))(hl:Γ[l]?=some (.mu ae left))(hil:i≠l)(hk:dO xss.length k=some j)(hx:xss[j]?=some xs)(hz:left.length<=sizeLine)
 (hS:S X.K xs [⟨af ae,left⟩] (λxs'=>bE X.K aR λw=>xs'=st/\w=z))
 (hg:autoParam (Gl X g) Fc.ag) (hdb:autoParam ((g==("__debug__":Str))=false) Fc.av) (he:autoParam (starEach [.Subscript (.Name x p1) b p2,.Name y p3] X.env=(false,eval (.Subscript (.Name x p1) b p2) X.env)::starEach [.Name y p3] X.env) Fc.ag) (he2:autoParam (starEach [.Name y p3] X.env=(false,eval (.Name y p3) X.env)::starEach [] X.env) Fc.ag) (hpl:autoParam ((backTo pos (starEach [.Name y p3] X.env)).any (·.1)=false) Fc.ag)
 (hN:autoParam (X.N[i]?=some x) Fc.ag) (hv:autoParam (bR X.env.scope x) Fc.bq) (hd:autoParam ((x==("__debug__":Str))=false) Fc.av) (hcd:autoParam ((x==("__classdict__":Str))=false) Fc.av) (hsx:autoParam (dD b) Fc.jG)
 (hN2:autoParam (X.N[l]?=some y) Fc.ag) (hv2:autoParam (bR X.env.scope y) Fc.bq) (hd2:autoParam ((y==("__debug__":Str))=false) Fc.av) (hcd2:autoParam ((y==("__classdict__":Str))=false) Fc.av):
 EV X (.Call (.Name g p) [.Subscript (.Name x p1) b p2,.Name y p3] [] pos) Γ aR z (Γ.set i (.ob (cH ae a as (xss.set j st)))):=λσ H0 R0 H R E Q q=>by
 obtain ⟨f,fd,pn,F,hm,hkk,hbb⟩:=C.ex
 refine eS (eh F hr hg hm hkk hbb .nil gL (aD aI (aD (aU hN2 hv2 hd2 hcd2) bp he2) he) hdb he hpl) ?_
 refine jX i hb hΓ hk E (λc H1 R1 E1 s1 hc=>?_) hN hv hd hcd hsx
 obtain ⟨⟨v,ea1,rfl,ha1,hr1,nd1⟩,hR1⟩:=E1.ent i _ hΓ
 obtain ⟨ws1,q1,q2⟩:=hr1.2 j c xs hc hx
 obtain ⟨a2,vs2,eb,hb2,hRb,pp2⟩:=E1.ent l _ hl
 obtain ⟨n1,n2⟩:=List.nodup_cons.mp nd1
 have cm:c∈as:=List.mem_of_getElem? hc
 have cf:c∈(Ent.ob (cH ae a as xss)).fp (σ[i]?).join:=List.mem_cons_of_mem _ cm
 have ne:a2≠c:=λz=>hil (E1.ds i l _ _ c hΓ hl cf (by rw [← z];exact cb.mpr eb))
 have sd:ar (del H1 c) H1:=λb o w=>by
  by_cases e:b=c
  ·rw [e,jA] at w;cases w
  ·rwa [gv e] at w
 refine ⟨.ref a2,at_of eb,?_⟩
 refine ⟨del H1 c,c,ws1,xs,[.ref a2],[⟨af ae,left⟩],_,rfl,sd,jA,q1,Paired.map (λ_ _ h=>h) q2,.cons ⟨a2,vs2,rfl,by rw [gv ne];exact hb2,Paired.map (λ_ _ h=>h) pp2,hz⟩ .nil,hS,λv H' R' ws' xs' xx h1 h2 pq t=>?_⟩
 obtain ⟨w,e1,rfl,rfl⟩:=t
 have pq':PySem.Paired (ae.R X.K R1) ws' xs':=Paired.map (λ_ _ h=>h) pq
 have E2:=E1.gY (a:=c) (u:=.lst ws') (en:=.ob (cH ae a as (xss.set j xs'))) hΓ cf ⟨⟨.ref a,ea1,rfl,by rw [aH (show a≠c from λz=>n1 (z▸cm))];exact ha1,hr1.put n2 hc pq',nd1⟩,hR1⟩ λb w=>.inl w
 have same:ar (upd H1 c (.lst ws')) H':=λb o w=>by
  by_cases e:b=c
  ·rw [e,az] at w;rw [e,h1];exact w
  ·rw [aH e] at w
   exact xx.h b o (by rw [gv e];exact w)
 exact q v H' R1 (E2.grow ⟨same,ar.refl _,E2.sub.trans same,λ_ _=>rfl⟩) s1 e1
end
end Fc
namespace K1
open PySem L2 Fc
open PySem.Spec hiding Row
open PyProof.Rows hiding St
open PySem.Builtin.Int (intBits)
theorem jn (left xs:List Int)(k:Int):bF left (xs++[k])=if left.getD k.toNat 0=0 then bF left xs else xs++[k]:=by
 unfold bF
 rw [List.reverse_append,List.reverse_singleton,List.singleton_append,List.dropWhile_cons]
 by_cases h:left.getD k.toNat 0=0
 ·rw [if_pos h,if_pos (by rw [decide_eq_true h])]
 ·rw [if_neg h,if_neg (by rw [decide_eq_false h];decide)]
  simp
section
variable {P:Program}{w:World}{K:PySem.W.Frag}{mg:Str->Option Value}{base:Heap}{f:Addr}{fd:FuncData}
abbrev qU:Stmt:=top qH
theorem Ad:aC ["choices","left"] ["choices","left"] (ai qU):=⟨rfl,rfl,rfl,by decide +kernel,rfl,by decide +kernel,by decide +kernel⟩
def EF:eU Int:=λK xs ps T=>∃left:List Int,ps=[⟨af ae,left⟩]/\(∀k∈xs,0<=k/\k < (left.length:Int))/\T=λxs'=>bE K aR λz=>xs'=bF left xs/\z=decide (bF left xs≠[])
theorem Ea (M:bO mg)(F:bH K "has_left" "has_left" qU f fd)(hm:mg "has_left"=some (.ref f))(hb:Binds K fd ["choices","left"] []):aF P w K mg base "has_left" 1 (fu ae EF K):=by
 have nd:=Ad.nd
 refine o8 F Ad hm hb (λxs qs T ⟨_,e,_⟩=>by rw [e];rfl) (λcdv A outer s H E a xs qs T hr hS=>?_)
 obtain ⟨left,rfl,hk,rfl⟩:=hS
 change WS _ _ [.ob (bU a ae xs),.im (af ae) left] _ _
 refine aj (fq (λm Γ=>∃s3:List Int,Γ=[.ob (bU a ae s3),.im (af ae) left]/\m=s3.length/\bF left s3=bF left xs/\∀k∈s3,k∈xs) (m0:=xs.length) ⟨xs,rfl,rfl,rfl,λ_ h=>h⟩ ?_)
 rintro m Γ ⟨s3,rfl,rfl,hd,hsub⟩
 have fin:∀s4:List Int,s4=bF left xs->WS (cL dQ P w K mg base ["choices","left"] "has_left" (ai qU) f cdv A outer s H E).c8 ((br qU).drop 1) [.ob (bU a ae s4),.im (af ae) left] (λ_=>False) (mL K a ae λxs'=>bE K aR λz=>xs'=bF left xs/\z=decide (bF left xs≠[])):=by
  rintro s4 rfl
  refine ao (fJ 0 (bZ gj (EV.box 0 (eO 0 M.len rfl) rfl rfl) ak) rfl ⟨rfl,?_⟩)
  rw [Bool.eq_iff_iff,decide_eq_true_iff,decide_eq_true_iff,← List.length_pos_iff]
  omega
 rcases List.eq_nil_or_concat s3 with rfl | ⟨s4,k,e⟩
 ·refine ⟨_,_,TV.box 0 (TW.tv (dy (y:=false) (jS 0 rfl) (λh=>absurd h (by decide)))) rfl rfl,λh=>absurd h (by decide),λ_=>?_⟩
  exact fin [] hd
 ·rw [List.concat_eq_append] at e
  subst e
  have hkb:=hk k (hsub k (by simp))
  have hl3:(s4++[k])[(s4++[k]).length - 1]?=some k:=by simp
  have ne':(s4++[k]).isEmpty=false:=by simp
  refine ⟨_,_,TV.box 0 (TW.tv (dy (jS 0 rfl) (λ_=>dZ (aA bI (aP (aa 1 rfl) (dh 0 (cO ak) rfl rfl (eo hl3)) (cx hkb.1 hkb.2)) ak)))) rfl rfl,λh=>?_,λh=>?_⟩
  ·rw [Bool.and_eq_true] at h
   have h1:left.getD k.toNat 0=0:=of_decide_eq_true h.2
   refine ao (pU (EV.box 0 (j8 0 rfl hl3) rfl rfl) ?_)
   rw [jn,if_pos h1] at hd
   refine ⟨s4.length,by simp,s4,by simp [List.dropLast_concat],rfl,hd,λj hj=>hsub j (by simp [hj])⟩
  ·rw [ne'] at h
   have h1:¬left.getD k.toNat 0=0:=by simpa using h
   rw [jn,if_neg h1] at hd
   exact fin _ hd
end
section
variable {v:ax}{p:Int}{n i:Nat}
theorem kW {α β:Type}{P:α->List β->Prop}(hp:∀x ys,P x ys->ys=[]):∀{xs:List α} {yss:List (List β)},PySem.Paired P xs yss->yss=List.replicate xs.length []
 | _,_,.nil=>rfl
 | _,_,.cons h t=>by rw [hp _ _ h,kW hp t];rfl
structure xE (v:ax) (p:Int) (i:Nat) (lv:List (List Int)):Prop where
 len:(lv.length:Int)=v.1.getD p.toNat 0
 mem:∀(q:Nat) xs,lv[q]?=some xs->∀k:Int,k∈xs↔(k=(v.2.length:Int) + p/\q=1)∨(0<=k/\k < (i:Int)/\(rowOf v k).1=p/\(rowOf v k).2.1=q)
 sz:∀xs∈lv,xs.length<=i + 1
def eQ (v:ax)(p:Int)(i:Nat)(q:Int):List Int:=(ups 0 i).filter λk=>decide (((rowOf v k).1,(rowOf v k).2.1)=(p,q))
theorem wV (i:Nat):ups 0 (i + 1)=ups 0 i++[(i:Int)]:=by
 unfold ups
 rw [List.range_succ,List.map_append]
 simp
theorem mm (v:ax)(p:Int)(i:Nat)(q:Int):eQ v p (i + 1) q=eQ v p i q++(if (rowOf v (i:Int)).1=p/\(rowOf v (i:Int)).2.1=q then [(i:Int)] else []):=by
 unfold eQ
 rw [wV,List.filter_append]
 congr 1
 by_cases h:(rowOf v (i:Int)).1=p/\(rowOf v (i:Int)).2.1=q
 ·rw [if_pos h,List.filter_cons_of_pos (by simp [h.1,h.2])];rfl
 ·rw [if_neg h,List.filter_cons_of_neg (by simp;exact λa b=>h ⟨a,b⟩)];rfl
def gd (v:ax)(p:Int)(n i:Nat):List (List Int):=(ups 0 n).map (eQ v p i)
def fF (v:ax)(p:Int):List (List Int):=(ups 0 (v.1.getD p.toNat 0).toNat).map (eQ v p v.2.length)
theorem g8 (v:ax)(p:Int)(n i:Nat):(gd v p n i).length=n:=by unfold gd;rw [List.length_map,au]
theorem nt {j:Nat}(h:j < n):(ups 0 n)[j]?=some (j:Int):=by unfold ups;rw [List.getElem?_map,List.getElem?_range h];simp
theorem ng {j:Nat}(h:j < n):(gd v p n i)[j]?=some (eQ v p i (j:Int)):=by unfold gd;rw [List.getElem?_map,nt h];rfl
theorem vf (h:(rowOf v (i:Int)).1≠p):gd v p n (i + 1)=gd v p n i:=by
 unfold gd
 refine List.map_congr_left λq hq=>?_
 rw [mm,if_neg (λz=>h z.1),List.append_nil]
theorem wL (h:(rowOf v (i:Int)).1=p)(s0:0<=(rowOf v (i:Int)).2.1)(s1:(rowOf v (i:Int)).2.1 < (n:Int)):(gd v p n i).set (rowOf v (i:Int)).2.1.toNat (eQ v p i (rowOf v (i:Int)).2.1++[(i:Int)])=gd v p n (i + 1):=by
 apply List.ext_getElem?
 intro j
 by_cases hj:j < n
 ·rw [ng hj,mm]
  by_cases e:(rowOf v (i:Int)).2.1.toNat=j
  ·subst e
   rw [List.getElem?_set_self (by rw [g8];exact hj),if_pos ⟨h,by omega⟩]
   rw [show (((rowOf v (i:Int)).2.1.toNat:Nat):Int)=(rowOf v (i:Int)).2.1 by omega]
  ·rw [List.getElem?_set_ne e,ng hj,if_neg (λz=>e (by have:=z.2;omega)),List.append_nil]
 ·rw [List.getElem?_eq_none (by rw [List.length_set,g8];omega),List.getElem?_eq_none (by rw [g8];omega)]
theorem gy (v:ax)(p:Int)(i:Nat)(q:Int):(eQ v p i q).length<=i:=by
 unfold eQ
 refine Nat.le_trans (List.length_filter_le _ _) ?_
 rw [au];exact Nat.le_refl _
theorem ny {q k:Int}:k∈eQ v p i q↔0<=k/\k < (i:Int)/\(rowOf v k).1=p/\(rowOf v k).2.1=q:=by
 unfold eQ
 rw [List.mem_filter,bz]
 constructor
 ·rintro ⟨h1,h2⟩
  have h2:=of_decide_eq_true h2
  exact ⟨h1.1,h1.2,congrArg Prod.fst h2,congrArg Prod.snd h2⟩
 ·rintro ⟨h1,h2,h3,h4⟩
  exact ⟨⟨h1,h2⟩,decide_eq_true (by rw [h3,h4])⟩
theorem yJ (hs:2<=v.1.getD p.toNat 0){e:List Int}(he:(fF v p)[1]?=some e):xE v p v.2.length ((fF v p).set 1 (e++[(v.2.length:Int) + p])):=by
 have ll:(fF v p).length=(v.1.getD p.toNat 0).toNat:=by unfold fF;rw [List.length_map,au]
 have at_:∀{q:Nat} {xs:List Int},(fF v p)[q]?=some xs->xs=eQ v p v.2.length (q:Int):=λ{q xs} h=>by
  have hl:=(List.getElem?_eq_some_iff.mp h).1
  unfold fF at h
  rw [List.getElem?_map,nt (by omega)] at h
  exact (Option.some.inj h).symm
 have e1:=at_ he
 refine ⟨by rw [List.length_set];omega,λq xs hq k=>?_,λxs hx=>?_⟩
 ·by_cases c:1=q
  ·subst c
   rw [List.getElem?_set_self (by omega)] at hq
   cases hq
   rw [List.mem_append,List.mem_singleton,e1,ny]
   constructor
   ·rintro (z | z)
    ·exact .inr z
    ·exact .inl ⟨z,rfl⟩
   ·rintro (z | z)
    ·exact .inr z.1
    ·exact .inl z
  ·rw [List.getElem?_set_ne c] at hq
   rw [at_ hq,ny]
   constructor
   ·exact .inr
   ·rintro (z | z)
    ·exact absurd z.2.symm c
    ·exact z
 ·rcases List.mem_or_eq_of_mem_set hx with z | z
  ·obtain ⟨q,hq⟩:=List.mem_iff_getElem?.mp z
   rw [at_ hq]
   exact Nat.le_succ_of_le (gy _ _ _ _)
  ·rw [z,List.length_append,e1]
   have:=gy v p v.2.length ((1:Nat):Int)
   simp;exact this
theorem xE.done (p0:0<=p){lv:List (List Int)}(h:xE v p v.2.length lv):∀(q:Nat) xs,lv[q]?=some xs->∀k,k∈xs↔cJ v p k/\bC v k=q:=λq xs hq k=>by
 rw [h.mem q xs hq k]
 unfold cJ bC
 constructor
 ·rintro (⟨z1,z2⟩ | ⟨z1,z2,z3,z4⟩)
  ·refine ⟨.inr z1,?_⟩
   rw [if_neg (by omega),z2];rfl
  ·refine ⟨.inl ⟨z1,z2,z3⟩,?_⟩
   rw [if_pos z2];exact z4
 ·rintro ⟨z | z,hs⟩
  ·rw [if_pos z.2.1] at hs
   exact .inr ⟨z.1,z.2.1,z.2.2,hs⟩
  ·rw [if_neg (by omega)] at hs
   exact .inl ⟨z,by omega⟩
end
section
variable {P:Program}{w:World}{K:PySem.W.Frag}{mg:Str->Option Value}{base:Heap}{f:Addr}{fd:FuncData}
abbrev vt:Stmt:=top mY
abbrev Fe:List Str:=["web","part","leaving","number","row"]
theorem zN:aC Fe ["web","part"] (ai vt):=⟨rfl,rfl,rfl,by decide +kernel,rfl,by decide +kernel,by decide +kernel⟩
def Et (fr:Bool):cq:=λK ps T=>∃(v:ax) (p:Int),ps=[⟨bx,v⟩,⟨ae,p⟩]/\ba v/\0<=p/\p < (v.1.length:Int)/\T=if fr=true then i6 K (af ae) (· =fF v p) else xT K ae (· =fF v p)
theorem CK (fr:Bool)(M:bO mg)(F:bH K "rows_leaving" "rows_leaving" vt f fd)(hm:mg "rows_leaving"=some (.ref f))(hb:Binds K fd ["web","part"] []):aF P w K mg base "rows_leaving" 1 (aQ (Et fr) K):=by
 have nd:=zN.nd
 have ndc:List.Nodup [("place":Str)]:=by decide
 refine bD F zN hm hb (λqs T ⟨_,_,e,_⟩=>by rw [e];rfl) (λcdv A outer s H E qs T hr hS=>?_)
 obtain ⟨v,p,rfl,hv,p0,p1,rfl⟩:=hS
 have pl:=hv.pl
 have rl:=hv.rl
 have hn:bW v.1 p=some (v.1.getD p.toNat 0):=cx p0 p1
 have nb:=hv.sz (v.1.getD p.toNat 0) (by rw [List.getD_eq_getElem?_getD,List.getElem?_eq_getElem (by omega)];exact List.getElem_mem _)
 generalize hN:v.1.getD p.toNat 0=n at hn nb
 change WS _ _ [.im (ay (af ae) (af aB)) v,.im ae p,.no,.no,.no] _ _
 refine aj (rZ 2 (own:=["place"]) (fr:=[]) (ix:=[]) (ra:=ae) (rb:=ae) (P:=λ_ ys=>ys=[]) (bb (so:=ai vt) (N0:=Fe) rfl rfl (λx h=>aT h) (by decide +kernel)) (bB M.range (aP (bQ (aa 0 rfl)) (aa 1 rfl) hn) ⟨by omega,by omega⟩)
  (λC s H ex=>aG 0) (λx=>⟨.inr rfl,trivial⟩) (λx=>⟨trivial,trivial⟩) (λC s H ex x hx=>bc.evr (aN aY (by decide)) rfl) λa bs yss pq _=>?_)
 have ey:=kW (λ_ _ h=>h) pq
 rw [au] at ey
 have e0:List.replicate n.toNat ([]:List Int)=gd v p n.toNat 0:=by
  unfold gd eQ
  apply List.ext_getElem?
  intro j
  rw [List.getElem?_replicate,List.getElem?_map]
  by_cases hj:j < n.toNat
  ·rw [if_pos hj,nt hj];rfl
  ·rw [if_neg hj,List.getElem?_eq_none (by rw [au];omega)];rfl
 rw [e0] at ey
 subst ey
 refine aj (bS (r:=ay ae aB) (λi Γ=>∃v3 v4,Γ=[.im (ay (af ae) (af aB)) v,.im ae p,.ob (cH ae a bs (gd v p n.toNat i)),v3,v4])
  (kC M.enumerate (aJ (aa 0 rfl))) (dC 3 4) ⟨_,_,rfl⟩ ?_ ?_)
 ·rintro i x Γ hx ⟨v3,v4,rfl⟩
  obtain ⟨e1,e2⟩:=iY hx
  have il:=(List.getElem?_eq_some_iff.mp e2).1
  have er:rowOf v i=x.2:=by unfold rowOf;rw [List.getD_eq_getElem?_getD,show ((i:Int)).toNat=i by omega,e2];rfl
  refine ao (bh (aA bI (dS (aa 4 rfl)) (aa 1 rfl)) (λh=>?_) (λh=>aV ?_))
  ·have h:x.2.1=p:=of_decide_eq_true h
   have rp:=hv.eW (List.mem_of_getElem? e2)
   have q0:=rp.s0
   have q1:=rp.sn
   rw [h,hN] at q1
   have len:=g8 v p n.toNat i
   refine ao (jE 2 (dG (aa 4 rfl)) (aa 3 rfl) rfl (dH q0 (by omega)) (ng (j:=x.2.2.1.toNat) (by omega)) (Nat.lt_of_le_of_lt (Nat.le_trans (gy v p i _) (show i<=100 by omega)) (by decide)) ?_)
   refine ⟨.im ae x.1,.im aB x.2,?_⟩
   have:=wL (v:=v) (p:=p) (n:=n.toNat) (i:=i) (by rw [er];exact h) (by rw [er];exact q0) (by rw [er];omega)
   rw [er] at this
   rw [e1,show ((x.2.2.1.toNat:Nat):Int)=x.2.2.1 by omega,this]
   rfl
  ·have h:x.2.1≠p:=of_decide_eq_false h
   refine ⟨.im ae x.1,.im aB x.2,?_⟩
   rw [vf (by rw [er];exact h)]
   rfl
 ·rintro Γ ⟨v3,v4,rfl⟩
  rw [gq]
  have e:gd v p n.toNat v.2.length=fF v p:=by unfold fF;rw [hN];rfl
  rw [e]
  have ll:(fF v p).length<=16:=by rw [← e,g8];omega
  cases fr with
  | false=>exact ao (t9 2 rfl rfl)
  | true=>
    refine ao (r8 2 rfl (aE (by omega)) (λxs hx=>?_) rfl)
    rw [← e] at hx
    obtain ⟨q,_,rfl⟩:=List.mem_map.mp hx
    exact aE (Nat.le_trans (gy v p _ q) (by omega))
abbrev ya:Stmt:=top jO
abbrev nNL:List Str:=["web","part","leaving"]
theorem Am:aC nNL ["web","part"] (ai ya):=⟨rfl,rfl,rfl,by decide +kernel,rfl,by decide +kernel,by decide +kernel⟩
def EM:cq:=λK ps T=>∃(v:ax) (p:Int),ps=[⟨bx,v⟩,⟨ae,p⟩]/\ba v/\0<=p/\p < (v.1.length:Int)/\T=xT K ae (xE v p v.2.length)
theorem Cw (M:bO mg)(CV:aF P w K mg base "rows_leaving" 1 (aQ (Et false) K))(F:bH K "numbers_leaving" "numbers_leaving" ya f fd)(hm:mg "numbers_leaving"=some (.ref f))(hb:Binds K fd ["web","part"] []):aF P w K mg base "numbers_leaving" 2 (aQ EM K):=by
 have nd:=Am.nd
 obtain ⟨t2,hEND⟩:=M.end_
 refine bD F Am hm hb (λqs T ⟨_,_,e,_⟩=>by rw [e];rfl) (λcdv A outer s H E qs T hr hS=>?_)
 obtain ⟨v,p,rfl,hv,p0,p1,rfl⟩:=hS
 have pl:=hv.pl
 have rl:=hv.rl
 have nb:=hv.sz (v.1.getD p.toNat 0) (by rw [List.getD_eq_getElem?_getD,List.getElem?_eq_getElem (by omega)];exact List.getElem_mem _)
 change WS _ _ [.im (ay (af ae) (af aB)) v,.im ae p,.no] _ _
 refine aj (qX 2 CV hr (ah (aa 0 rfl) (ah (aa 1 rfl) aw)) ⟨v,p,rfl,hv,p0,p1,rfl⟩ ?_)
 rintro a as _ rfl
 have ll:(fF v p).length=(v.1.getD p.toNat 0).toNat:=by unfold fF;rw [List.length_map,au]
 obtain ⟨e,he⟩:∃e,(fF v p)[1]?=some e:=⟨_,List.getElem?_eq_getElem (by omega)⟩
 have el:e.length<=100:=by
  obtain ⟨q,_,rfl⟩:=List.mem_map.mp (List.mem_of_getElem? he)
  exact Nat.le_trans (gy v p _ q) (by omega)
 refine aj (jE 2 (cB hEND) (bu (aM M.len (aJ (aa 0 rfl))) (aa 1 rfl)) rfl (dH (by decide) (by omega)) he (Nat.lt_of_le_of_lt el (by decide)) ?_)
 exact ao (t9 2 rfl (yJ nb.1 he))
end
end K1
namespace Fc
open PySem PySem.Spec L2
open PyProof.Rows hiding St
theorem zD:typeLookup (.type "list_reverseiterator") "__len__"=pure none:=by rw [typeLookup_type,builtinLookup_eq_fast];kernel_rfl
theorem xf:typeLookup (.type "list_reverseiterator") "__length_hint__"=pure (some (.builtin "list_reverseiterator.__length_hint__")):=by rw [typeLookup_type,builtinLookup_eq_fast];kernel_rfl
section
variable {prog:Program}{w:World}{A:Around}{E:Value->Shared->Prop}{s:Shared}
variable {it l:Addr}{items:Array Value}
theorem xh {i:Int}{Q:Bool->Shared->Prop}(hit:s.heap.IsRevIter it l i)(h:Q false s):wpAny (model prog w) A (Builtin.List.listLengthHint (.ref it)) Q E s:=by
 unfold Builtin.List.listLengthHint
 refine wpAny_bind (wpAny_specialOf hit.typeIs zD ?_)
 try dsimp only
 refine wpAny_ite_split (λhab=>absurd hab (by decide)) (λ_=>?_)
 refine wpAny_ite_split (λhab=>absurd hab (by decide)) (λ_=>?_)
 refine wpAny_bind (wpAny_specialOf hit.typeIs xf ?_)
 generalize hid:("list_reverseiterator.__length_hint__":String)=id0
 wp_delta
 rw [show splitId id0=some ("list_reverseiterator","__length_hint__") from by subst hid;decide +kernel]
 subst hid
 refine wpAny_bind (wpAny_isInstance (T:="list_reverseiterator") (b:=true) hit.typeIs (by rw [isSubtype_type];kernel_rfl) ?_)
 refine wpAny_ite_split (λhab=>absurd hab (by decide)) (λ_=>?_)
 refine wpAny_ite_split (λ_=>?_) (λhab=>absurd (by decide +kernel) hab)
 refine wpAny_ite_split (λhab=>absurd hab (by decide +kernel)) (λ_=>?_)
 exact wpAny_pure h
theorem tu {R:Result->Shared->Prop}(hh:A.handled=none)(hit:s.heap.IsRevIter it l ((items.size:Int) - 1))(hl:s.heap.IsList l items)(hne:l≠it)(hlen:items.size<=sizeLine)(S:Addr)(res:Value)(c₀:Nat)(hS:s.heap.get? S=some {cls:=.type "list",data:=.seq #[] c₀})(hSl:S≠l)(hSi:S≠it)
 (hR:∀h' tk acc' c',(∀b o,b≠S->b≠it->s.heap.get? b=some o->h'.get? b=some o)->h'.get? S=some {cls:=.type "list",dict:=none,data:=.seq acc' c',slots:= #[]}->
  ItemsOf (λi v=>items[items.size - 1 - i]?=some v) acc' items.size->R (.ok (.ret res)) {s with heap:=h',toks:=tk}):
 wpAny (model prog w) A.in1 (Builtin.List.listExtendWith (.ref S) (.ref it) res)
  (λfin s'=>match fin with | .done f=>R (.ok f) s' | .again c'=>c'.quiet=true/\codeAny (model prog w) A c' R s') (λe s'=>R (.error e) s') s:=by
 have hSf:S∉[it,l]:=λhm=>by
  rcases List.mem_cons.mp hm with z | z
  ·exact hSi z
  ·exact hSl (List.mem_singleton.mp z)
 have W:=(Walks.listRev (prog:=prog) (w:=w) (A:=A.in1) hh it l hne items).toS
 unfold Builtin.List.listExtendWith
 refine wpAny_bind (wpAny_typeOf (T:="list_reverseiterator") hit.typeIs ?_)
 have h1:Builtin.List.listSameRef (.ref S) (.ref it)=false:=by simp [Builtin.List.listSameRef,hSi]
 have h2:(Value.type "list_reverseiterator"==Value.type "list")=false:=by decide
 have h3:(Value.type "list_reverseiterator"==Value.type "tuple")=false:=by decide
 simp only [h1,h2,h3,Bool.or_false,Bool.false_eq_true,if_false]
 refine wpAny_bind (wpAny_pyIter_revIter hit ?_)
 refine wpAny_bind (wpAny_holding (xh hit ?_))
 refine wpAny_ite_split (λhab=>absurd hab (by decide +kernel)) (λ_=>wpAny_pure ⟨plainId_quiet F.plain_extend_loop _,?_⟩)
 refine codeAny_extend_loopS W hlen S hSf res items.size 0 _ #[] c₀ rfl (Nat.zero_le _) ⟨Nat.zero_le _,by simpa using hit,hl⟩ hS (ItemsOf.nil _) λs' acc' c' hm hS' hacc=>?_
 rw [Moved.eq_with hm]
 refine hR s'.heap s'.toks acc' c' (λb o hb hb2 e=>hm.heap b o (λhmem=>?_) e) hS' hacc
 rcases List.mem_cons.mp hmem with e' | hmem
 ·exact hb e'
 ·exact hb2 (List.mem_singleton.mp hmem)
theorem xj {R:Result->Shared->Prop}(hh:A.handled=none)(hit:s.heap.IsRevIter it l ((items.size:Int) - 1))(hl:s.heap.IsList l items)(hne:l≠it)(hlen:items.size<=sizeLine)(S:Addr)(hS:s.heap.get? S=some {cls:=.type "list",data:=.seq #[]})(hSl:S≠l)(hSi:S≠it)
 (hR:∀h' tk acc' c',(∀b o,b≠S->b≠it->s.heap.get? b=some o->h'.get? b=some o)->h'.get? S=some {cls:=.type "list",dict:=none,data:=.seq acc' c',slots:= #[]}->
  ItemsOf (λi v=>items[items.size - 1 - i]?=some v) acc' items.size->R (.ok (.ret .none)) {s with heap:=h',toks:=tk}):
 wpAny (model prog w) A.in1 (Builtin.«list.__init__» ⟨[.ref S,.ref it],[]⟩)
  (λfin s'=>match fin with | .done f=>R (.ok f) s' | .again c'=>c'.quiet=true/\codeAny (model prog w) A c' R s') (λe s'=>R (.error e) s') s:=by
 show wpAny _ _ (do let old ← Builtin.List.listItems (.ref S);Builtin.List.listUpdate (.ref S) (λ_=> #[]);letGo old.toList.reverse;Builtin.List.listExtendWith (.ref S) (.ref it) .none) _ _ s
 refine wpAny_bind ?_
 unfold Builtin.List.listItems
 refine wpAny_bind (wpAny_seqItems hS rfl (wpAny_pure ?_))
 show wpAny _ _ (updateSeq S (λ_=> #[]) >>=λ_=>letGo (#[]:Array Value).toList.reverse >>=λ_=>Builtin.List.listExtendWith (.ref S) (.ref it) .none) _ _ s
 refine wpAny_bind (wpAny_updateSeq hS rfl ?_)
 have hS₂:=Heap.get?_update_self (Obj.mapSeq (λ_=>(#[]:Array Value))) hS rfl
 have oth:∀b o,b≠S->s.heap.get? b=some o->(s.heap.update S (Obj.mapSeq (λ_=>(#[]:Array Value)))).get? b=some o:=
  λb o hb e=>(Heap.get?_update_other _ _ (Ne.symm hb)).trans e
 refine wpAny_bind (wpAny_letGo ?_)
 refine tu hh (hit.at λo e=>oth it o (Ne.symm hSi) e) (hl.at λo e=>oth l o (Ne.symm hSl) e) hne hlen S .none _ hS₂ hSl hSi λh' tk acc' c' hk hS' hacc=>?_
 exact hR h' tk acc' c' (λb o hb hb2 e=>hk b o hb hb2 (oth b o hb e)) hS' hacc
theorem oo {Q:Value->Shared->Prop}(hh:A.handled=none)(hit:s.heap.IsRevIter it l ((items.size:Int) - 1))(hl:s.heap.IsList l items)(hne:l≠it)(hlen:items.size<=sizeLine)
 (hQ:∀h' tk acc' c',(∀b o,b≠it->s.heap.get? b=some o->h'.get? b=some o)->
  h'.get? s.heap.objs.size=some {cls:=.type "list",dict:=none,data:=.seq acc' c',slots:= #[]}->ItemsOf (λi v=>items[items.size - 1 - i]?=some v) acc' items.size->Q (.ref s.heap.objs.size) {s with heap:=h',toks:=tk}):
 wpAny (model prog w) A (call (.type "list") [.ref it]) Q E s:=by
 refine callType_codes (Q₁:=λobj s₁=>obj= .ref s.heap.objs.size/\s₁={s with heap:=s.heap.push {cls:=.type "list",data:=.seq #[]}}) F.called_list (F.typeCall_list_1 _) F.entry_list_init
  (code_list_new _ ⟨rfl,rfl⟩) λobj s₁ h₁=>?_
 obtain ⟨rfl,rfl⟩:=h₁
 have hS:(s.heap.push {cls:=.type "list",data:=.seq #[]}).get? s.heap.objs.size=some {cls:=.type "list",data:=.seq #[]}:=Heap.get?_push_size _ rfl
 have lt:∀{b o},s.heap.get? b=some o->b≠s.heap.objs.size:=λe=>Nat.ne_of_lt (Heap.lt_size e)
 have l1:s.heap.objs.size≠l:=by obtain ⟨o,e,_⟩:=id hl;exact Ne.symm (lt e)
 have l2:s.heap.objs.size≠it:=by obtain ⟨o,e,_⟩:=id hit;exact Ne.symm (lt e)
 refine ⟨⟨_,hS,rfl⟩,F.args_list_init_2 _ _,xj (A:=A.in1) hh (hit.at λo e=>Heap.get?_push_of_some _ e) (hl.at λo e=>Heap.get?_push_of_some _ e) hne hlen _ hS l1 l2 λh' tk acc' c' hk hS' hacc=>?_⟩
 exact ⟨rfl,hQ h' tk acc' c' (λb o hb e=>hk b o (lt e) hb (Heap.get?_push_of_some _ e)) hS' hacc⟩
end
theorem ko:∀{xs:List V} {us:List Value},Vals xs us->Vals xs.reverse us.reverse
 | _,_,.nil=>.nil
 | _,_,.cons h t=>by
   rw [List.reverse_cons,List.reverse_cons]
   exact (ko t).append (.cons h .nil)
theorem iS {α:Type}{F:V->α->Prop}:∀{vs:List V} {xs:List α},PySem.Paired F vs xs->PySem.Paired F vs.reverse xs.reverse
 | _,_,.nil=>.nil
 | _,_,.cons h t=>by
   rw [List.reverse_cons,List.reverse_cons]
   exact bP (iS t) (.cons h .nil)
section
variable {X:Cx}{Γ Γ1 Γ2 Γ3:Ga}{α β γ δ:Type}{N:Ga->Prop}{T:RT}
theorem qM {e:Expr}{p1 p2 pos pos2:Pos}{r:Rep α}{xs:List α}(hml:X.mg "list"=none)(hmr:X.mg "reversed"=none)(ha:EV X e Γ (af r) xs Γ1)(hs:autoParam (starEach [e] X.env=[(false,eval e X.env)]) Fc.ag)(hs2:autoParam (starEach [.Call (.Name "reversed" p2) [e] [] pos] X.env=[(false,eval (.Call (.Name "reversed" p2) [e] [] pos) X.env)]) Fc.ag)(hc:autoParam (X.calm=true) Fc.ag)(hgl:autoParam (Gl X "list") Fc.ag)(hgr:autoParam (Gl X "reversed") Fc.ag):
 bc X (.Call (.Name "list" p1) [.Call (.Name "reversed" p2) [e] [] pos] [] pos2) Γ r xs.reverse Γ1:=by
 intro σ H0 R0 H R E Q q pins s I
 refine Call_ (fN I hgl hml PyProof.Rows.boot_list (PyProof.Rows.callWith_type1 ?_ hs2 rfl))
 rw [hs2]
 show wpAny _ _ (spliced ((false,eval (.Call (.Name "reversed" p2) [e] [] pos) X.env)::backTo pos2 [])) _ _ s
 refine Calls.spliced_cons ?_
 refine Call_ (fN I hgr hmr PyProof.Rows.boot_reversed (PyProof.Rows.callWith_type1 ?_ hs rfl))
 rw [hs]
 show wpAny _ _ (spliced ((false,eval e X.env)::backTo pos [])) _ _ s
 refine Calls.spliced_cons (aO (ha σ H0 R0 H R E (λv H1=>∃a vs R1,v= .ref a/\aq X.K σ H0 R0 H1 R1 Γ1/\ar R R1/\H1 a=some (.lst vs)/\PySem.Paired (r.R X.K R1) vs xs/\xs.length<=sizeLine) (λv H1 R1 E1 s1 e1=>by
  obtain ⟨a,vs,rfl,hp,pp,z⟩:=e1
  exact ⟨a,vs,R1,rfl,E1,s1,E1.sub _ _ hp,pp,z⟩) pins s I) λu s1 ⟨v,H1,I1,r1,a,vs,R1,ev,E1,sR,hp,pp,z⟩=>?_)
 subst ev
 cases r1
 refine Calls.spliced_nil ?_
 obtain ⟨its,rv,pl,hz⟩:=I1.list (aL.of (K:=X.K) hp)
 refine call_reversed_list pl.isList ?_
 refine Calls.spliced_nil ?_
 have la:a < s1.heap.objs.size:=by obtain ⟨o,n,e,_⟩:=pl;exact Heap.lt_size e
 have hl:=rv.length
 refine oo (s:={s1 with heap:=s1.heap.push (revObj a ((its.toArray.size:Int) - 1))}) (l:=a) (items:=its.toArray) (I1.ok.hd hc) ⟨_,Heap.get?_push_size _ rfl,rfl,rfl⟩ (pl.isList.at λo e=>Heap.get?_push_of_some _ e) (Nat.ne_of_lt la) (by simp;omega) λh' tk acc' c' hk hS hacc=>?_
 have sz:(s1.heap.push (revObj a ((its.toArray.size:Int) - 1))).objs.size=s1.heap.objs.size + 1:=Heap.size_push ..
 have ea:acc'.toList=its.reverse:=by
  refine List.ext_getElem? λi=>?_
  by_cases hi:i < its.length
  ·have h1:i < acc'.toList.length:=by rw [Array.length_toList,hacc.1];simpa using hi
   rw [List.getElem?_eq_getElem h1]
   have:=hacc.2 i _ (by rw [← Array.getElem?_toList];exact List.getElem?_eq_getElem h1)
   rw [List.getElem?_reverse hi]
   simpa using this.symm
  ·rw [List.getElem?_eq_none (by rw [Array.length_toList,hacc.1];simpa using hi),List.getElem?_eq_none (by simpa using hi)]
 have kk:∀b u,s1.heap.get? b=some u->h'.get? b=some u:=λb u e=>hk b u (Nat.ne_of_lt (Heap.lt_size e)) (Heap.get?_push_of_some _ e)
 have fr:H1 (s1.heap.objs.size + 1)=none:=I1.hok.fresh (Nat.le_succ _)
 rw [sz] at hS
 have I2:Inv X pins σ (upd H1 (s1.heap.objs.size + 1) (.lst vs.reverse)) {s1 with heap:=h',toks:=tk}:=I1.laid (a:=s1.heap.objs.size + 1) kk (Nat.le_succ _) ⟨by rw [List.length_reverse];exact hz,acc'.toList,c',by rw [ea];exact ko rv,by rw [hS]⟩
 show EP X pins σ Q (.ref (s1.heap.push (revObj a ((its.toArray.size:Int) - 1))).objs.size) _
 rw [sz]
 exact ⟨.ref (s1.heap.objs.size + 1),_,I2,rfl,q _ _ _ R1 (E1.grow (Ext.dW E1.sub fr _)) sR az (E1.sub.free fr) (E1.ext.h.free fr) (E1.off fr) (iS pp) (by rw [List.length_reverse];exact z)⟩
end
section
variable {X:Cx}{Γ Γ1 Γ2 Γ3:Ga}{α β γ δ:Type}{N:Ga->Prop}{T:RT}
theorem xt (i:Nat){x:Str}{b:Expr}{p1 p2 p3 pos:Pos}{c:Int}{kc:Nat}{xs:List Int}{y k:Int}{j:Nat}(hb:EV X b Γ ae k Γ)(hΓ:Γ[i]?=some (.mu ae xs))(k0:0<=k)(hj:dO xs.length k=some j)(hy:bW xs k=some y)(h:N (Γ.set i (.mu ae (xs.set j (y - c)))))
 (hN:autoParam (X.N[i]?=some x) Fc.ag) (hv:autoParam (bR X.env.scope x) Fc.bq)
 (hd:autoParam ((x==("__debug__":Str))=false) Fc.av) (hcd:autoParam ((x==("__classdict__":Str))=false) Fc.av)
 (ha:autoParam (∀ov iv new,augStore b ov iv new=(do holding [new,ov,iv] (setItem ov iv new);release [new,ov,iv] [];pure .next)) Fc.ET):
 W1 X (.AugAssign (.Subscript (.Name x p1) b p2) .Sub (.Constant (.int c) kc p3) pos) Γ N T:=λσ H0 R0 H R E D dn dr=>by
 obtain ⟨a,vs,ea,hp,hR,pp⟩:=E.ent i _ hΓ
 refine sS (yI (aU hN hv hd hcd) aI vP ef zT set_list ha) ⟨.ref a,at_of ea,hb σ H0 R0 H R E _ λu H2 R2 E2 s2 e2=>?_⟩
 obtain ⟨a',vs',ea',ha',hR',pp'⟩:=E2.ent i _ hΓ
 rw [ea] at ea';cases ea'
 obtain ⟨w,e3,e4⟩:=fL pp' hy
 cases (show w=V.int y from e4)
 refine ⟨a,vs',k,.int y,rfl,e2,k0,aL.of ha',e3,y,c,rfl,rfl,a,vs',k,j,rfl,e2,ha',by rw [pp'.length];exact hj,?_⟩
 exact dn σ _ R2 _ (E2.upd (en:=.mu ae (xs.set j (y - c))) hΓ rfl ea hR' ⟨a,_,rfl,az,hR',gN (F:=ae.R X.K R2) (v:=.int (y - c)) rfl j pp'⟩) s2 h
theorem BY {a b:Expr}{rest:List Expr}{pos:Pos}{x y:Bool}(ha:TV X a Γ x Γ1)(hx:x=false)(hb:TW X (.BoolOp .Or (b::rest) pos) Γ1 y Γ2):TW X (.BoolOp .Or (a::b::rest) pos) Γ y Γ2:=by
 subst hx
 intro σ H0 R0 H R E Q q
 refine wS (xV k9 xY) (ha σ H0 R0 H R E _ λH1 R1 E1 s1=>?_)
 exact iG (hb σ H0 R0 H1 R1 E1 _ λH3 R3 E3 s3=>q H3 R3 E3 (s1.trans s3))
theorem yN {τ:Type}{c:Expr}{N1 N2:Ga->Prop}{body:List Stmt}{g:τ->Ga}{Q:Bool->τ->Prop}(h:∃k x,TV X c Γ k (g x)/\Q k x)(hb:∀x,Q true x->WS X body (g x) N1 T)(hn:∀x,Q false x->N2 (g x)):∃(k:Bool) (Γ':Ga),TV X c Γ k Γ'/\(k=true->WS X body Γ' N1 T)/\(k=false->N2 Γ'):=by
 obtain ⟨k,x,h1,h2⟩:=h
 exact ⟨k,g x,h1,λe=>hb x (e▸h2),λe=>hn x (e▸h2)⟩
end
end Fc
namespace K1
open PySem L2 Fc
open PySem.Spec hiding Row
open PyProof.Rows hiding St
open PySem.Builtin.Int (intBits)
theorem wu {xs:List Int}(h:xs≠[]):xs[xs.length - 1]?=some (xs.getLast h):=by
 rw [← List.getLast?_eq_getElem?,List.getLast?_eq_some_getLast h]
theorem sf (left:List Int)(xs:List Int):bF left (bF left xs)=bF left xs:=by
 rcases List.eq_nil_or_concat (bF left xs) with e | ⟨s4,k,e⟩
 ·rw [e];rfl
 ·rw [List.concat_eq_append] at e
  have ne:bF left xs≠[]:=by rw [e];simp
  have:=lS ne
  have hl:(bF left xs).getLast ne=k:=by
   have:∀(l:List Int) (h:l≠[]),l=s4++[k]->l.getLast h=k:=λl h e=>by subst e;simp
   exact this _ ne e
  rw [hl] at this
  rw [e,jn,if_neg this]
structure BA (v:ax) (p:Int) (ns t:List Int):Prop where
 path:dk v p 1 t 1
 cnt:∀k,cJ v p k->(t.count k:Int)=ns.getD k.toNat 0
 len:t.length<=bK ns
structure ei (v:ax) (p:Int) (ns left:List Int) (lv:List (List Int)) (way:List (Int×Int)) (back:List Int) (place:Int):Prop where
 r:fW v p ns left lv way back place
 ms:bK left + way.length + back.length=bK ns
variable {v:ax}{p:Int}{ns left:List Int}{lv:List (List Int)}{way:List (Int×Int)}{back:List Int}{place:Int}
theorem ei.at_ (R:ei v p ns left lv way back place):∃xs,lv[place.toNat]?=some xs/\dO lv.length place=some place.toNat:=by
 have h1:=R.r.lvl
 have h2:=R.r.plc
 exact ⟨_,List.getElem?_eq_getElem (by omega),dH h2.1 (by omega)⟩
theorem ei.look (R:ei v p ns left lv way back place){xs:List Int}(hx:lv[place.toNat]?=some xs):ei v p ns left (lv.set place.toNat (bF left xs)) way back place:=⟨R.r.look hx,R.ms⟩
theorem ei.none (R:ei v p ns left lv way back place)(hx:lv[place.toNat]?=some []):∀e,cJ v p e->bC v e=place->left.getD e.toNat 0=0:=λe he hs=>by
 have h2:=R.r.plc
 rcases R.r.lv2 _ _ hx e he (by omega) with z | z
 ·cases z
 ·exact z
theorem ei.go (p0:0<=p)(p1:p < (v.1.length:Int))(hv:ba v)(hn:ns.length=v.2.length + v.1.length)(R:ei v p ns left lv way back place){k:Int}(he:cJ v p k)(hs:bC v k=place)(hk:left.getD k.toNat 0≠0):ei v p ns (c6 left k.toNat) lv (way++[(place,k)]) back (cM v k):=by
 refine ⟨R.r.go p0 p1 hv hn he hs hk,?_⟩
 have kb:=he.bd p0 p1
 have hl:k.toNat < left.length:=by rw [R.r.len,hn];omega
 have h0:=R.r.nn k he
 have:=pk hl (by omega)
 have:=R.ms
 rw [List.length_append];simp;omega
theorem ei.pop (hv:ba v)(p0:0<=p)(p1:p < (v.1.length:Int))(hn:ns.length=v.2.length + v.1.length){s k:Int}(R:ei v p ns left lv (way++[(s,k)]) back place)(h:∀e,cJ v p e->bC v e=place->left.getD e.toNat 0=0):ei v p ns left lv way (back++[k]) s:=by
 refine ⟨R.r.pop hv p0 p1 hn h,?_⟩
 have:=R.ms
 rw [List.length_append] at this ⊢
 simp at this ⊢;omega
section
variable {P:Program}{w:World}{K:PySem.W.Frag}{mg:Str->Option Value}{base:Heap}{f:Addr}{fd:FuncData}
abbrev sD:Stmt:=top kL
abbrev FF:List Str:=["web","numbers","part","left","leaving","backwards","way","place","number","came"]
theorem yk:aC FF ["web","numbers","part"] (ai sD):=⟨rfl,rfl,rfl,by decide +kernel,rfl,by decide +kernel,by decide +kernel⟩
def Ba:cq:=λK ps T=>∃(v:ax) (ns:List Int) (p:Int),ps=[⟨bx,v⟩,⟨af ae,ns⟩,⟨ae,p⟩]/\ba v/\0<=p/\p < (v.1.length:Int)/\l5 v ns/\jT v p ns/\bK ns<=100000/\T=i6 K ae (BA v p ns)
abbrev Fy (v:ax)(ns:List Int)(p:Int)(a:Addr)(as:List Addr)(left:List Int)(lv:List (List Int))(back:List Int)(way:List (Int×Int))(place:Int)(v8 v9:Ent):Ga:=[.im (ay (af ae) (af aB)) v,.im (af ae) ns,.im ae p,.mu ae left,.ob (cH ae a as lv),.mu ae back,.mu bX way,.im ae place,v8,v9]
theorem zP (M:bO mg)(CH:aF P w K mg base "has_left" 1 (fu ae EF K))(CL:aF P w K mg base "numbers_leaving" 2 (aQ EM K))(F:bH K "round_from_end" "round_from_end" sD f fd)(hm:mg "round_from_end"=some (.ref f))(hb:Binds K fd ["web","numbers","part"] []):aF P w K mg base "round_from_end" 3 (aQ Ba K):=by
 have CH:=CH.mono (show 1<=2 by decide)
 have nd:=yk.nd
 obtain ⟨t1,hB⟩:=M.begin_
 obtain ⟨t2,hEND⟩:=M.end_
 refine bD F yk hm hb (λqs T ⟨_,_,_,e,_⟩=>by rw [e];rfl) (λcdv A outer s H E qs T hr hS=>?_)
 obtain ⟨v,ns,p,rfl,hv,p0,p1,hC,hang,hms,rfl⟩:=hS
 have pl:=hv.pl
 have rl:=hv.rl
 have hn:ns.length=v.2.length + v.1.length:=hC.len
 have hsl:∀{n:Nat},n<=100000->n < sizeLine:=λh=>Nat.lt_of_le_of_lt h (by decide)
 change WS _ _ [.im (ay (af ae) (af aB)) v,.im (af ae) ns,.im ae p,.no,.no,.no,.no,.no,.no,.no] _ _
 refine aj (bG 3 (r:=ae) (hU M.list (aa 1 rfl)) ?_)
 refine aj (qX 4 CL hr (ah (aa 0 rfl) (ah (aa 2 rfl) aw)) ⟨v,p,rfl,hv,p0,p1,rfl⟩ λa as lv L=>?_)
 refine aj (bG 5 (r:=ae) (aN aY (by decide)) ?_)
 refine aj (bG 6 (r:=bX) (aN aY (by decide)) ?_)
 refine aj (bo 7 (cB hEND) ?_)
 have R0:ei v p ns ns lv [] [] 1:=⟨fW.start hv p0 p1 hC.nn (λq q0 q1=>hC.place p0 p1 q0 q1) L.len (L.done p0),by simp⟩
 refine aj (fq (λm Γ=>∃left lv back way place v8 v9,Γ=Fy v ns p a as left lv back way place v8 v9/\m=2 * bK left + way.length/\ei v p ns left lv way back place) (m0:=_) ⟨ns,lv,[],[],1,.no,.no,rfl,rfl,R0⟩ ?_)
 rintro m Γ ⟨left,lv,back,way,place,v8,v9,rfl,rfl,R⟩
 -- the call of has_left,at any state
 have llen:∀{left lv way back place},ei v p ns left lv way back place->left.length<=1000:=λR=>by rw [R.r.len,hn];omega
 have hcall:∀{left lv way back place},ei v p ns left lv way back place->∀{xs},lv[place.toNat]?=some xs->∀k∈xs,0<=k/\k < (left.length:Int):=λ{left lv way back place} R {xs} hx k hk=>by
  have:=(R.r.lv1 _ xs hx k hk).1.bd p0 p1
  rw [R.r.len,hn];omega
 refine yN (g:=λlv=>Fy v ns p a as left lv back way place v8 v9) (Q:=λk lv=>ei v p ns left lv way back place/\∃xs,lv[place.toNat]?=some xs/\(k=true->way=[]->bF left xs≠[])/\(k=false->way=[]/\xs=[])) ?_ ?_ ?_
 ·obtain ⟨xs,hx,hix⟩:=R.at_
  by_cases hw:way=[]
  ·subst hw
   refine ⟨decide (bF left xs≠[]),lv.set place.toNat (bF left xs),TW.tv (BY (jS 6 rfl) rfl (dI (cc (n8 4 3 CH hr (aa 7 rfl) rfl rfl (by decide) hix hx (aE (Nat.le_trans (llen R) (by decide))) ⟨left,rfl,hcall R hx,rfl⟩)))),R.look hx,bF left xs,List.getElem?_set_self (List.getElem?_eq_some_iff.mp hx).1,λh _=>?_,λh=>⟨rfl,?_⟩⟩
   ·rw [sf];exact of_decide_eq_true h
   ·exact Classical.not_not.mp (of_decide_eq_false h)
  ·have ne':way.isEmpty=false:=by cases way with
    | nil=>exact absurd rfl hw
    | cons a b=>rfl
   refine ⟨true,lv,TV.oE (TW.tv (dA (y:=false) (jS 6 rfl) (λh=>absurd h (by rw [ne'];decide)))) (by rw [ne'];rfl),R,xs,hx,λ_ h=>absurd h hw,λh=>absurd h (by decide)⟩
 ·rintro lv ⟨R,xs,hx,hne,_⟩
  obtain ⟨_,_,hix⟩:=R.at_
  have R1:=R.look hx
  have hx1:(lv.set place.toNat (bF left xs))[place.toNat]?=some (bF left xs):=List.getElem?_set_self (List.getElem?_eq_some_iff.mp hx).1
  have hix1:dO (lv.set place.toNat (bF left xs)).length place=some place.toNat:=by rw [List.length_set];exact hix
  refine ao (bh (cc (n8 4 3 CH hr (aa 7 rfl) rfl rfl (by decide) hix hx (aE (Nat.le_trans (llen R) (by decide))) ⟨left,rfl,hcall R hx,rfl⟩)) (λh=>?_) (λh=>?_))
  ·have h:bF left xs≠[]:=of_decide_eq_true h
   have hl:=lS h
   have hm:=List.getLast_mem h
   have hat:(bF left xs)[(bF left xs).length - 1]?=some ((bF left xs).getLast h):=wu h
   obtain ⟨he,hs⟩:=R1.r.lv1 _ _ hx1 _ hm
   generalize (bF left xs).getLast h=k at hl hm hat he hs
   have pb:=R.r.plc
   have hs:bC v k=place:=by omega
   have kb:=he.bd p0 p1
   have kl:k < (left.length:Int):=by rw [R.r.len,hn];omega
   have R2:=R1.go p0 p1 hv hn he hs hl
   have ms2:=R2.ms
   have ms1:=R1.ms
   refine aj (bo 8 (zJ 4 (aa 7 rfl) (cO ak) rfl hix1 hx1 (eo hat)) ?_)
   refine aj (xt 3 (aa 8 rfl) rfl kb.1 (dH kb.1 kl) (cx kb.1 kl) ?_)
   refine aj (cw 6 (cg (ah (aa 7 rfl) (ah (aa 8 rfl) aw))) rfl rfl (hsl (by omega)) ?_)
   refine ao (bo 7 (sy (aA gm (aa 8 rfl) (aM M.len (aJ (aa 0 rfl)))) (λhk=>c3 (aP (y:=rowOf v k) (aJ (aa 0 rfl)) (aa 8 rfl) (by
    have hk:k < (v.2.length:Int):=of_decide_eq_true hk
    rw [eD kb.1 hk,List.getElem?_eq_getElem (by omega)]
    unfold rowOf
    rw [List.getD_eq_getElem?_getD,List.getElem?_eq_getElem (by omega)];rfl))) (λ_=>cB hB)) ?_)
   refine ⟨2 * bK (c6 left k.toNat) + (way++[(place,k)]).length,?_,c6 left k.toNat,_,back,way++[(place,k)],cM v k,.im ae k,v9,?_,rfl,R2⟩
   ·rw [List.length_append] at ms2 ⊢
    simp at ms2 ⊢;omega
   ·have ed:(if decide (k < (v.2.length:Int))=true then (rowOf v k).2.2.1 else 0)=cM v k:=by
     unfold cM
     by_cases z:k < (v.2.length:Int)
     ·rw [if_pos (decide_eq_true z),if_pos z]
     ·rw [if_neg (by rw [decide_eq_false z];decide),if_neg z]
    rw [ed];rfl
  ·have h:bF left xs=[]:=Classical.not_not.mp (of_decide_eq_false h)
   have hw:way≠[]:=λz=>hne rfl z h
   rcases List.eq_nil_or_concat way with e | ⟨w0,t,e⟩
   ·exact absurd e hw
   rw [List.concat_eq_append] at e
   subst e
   obtain ⟨s0,k⟩:=t
   have hy:(w0++[(s0,k)])[(w0++[(s0,k)]).length - 1]?=some (s0,k):=by simp
   rw [h] at hx1 R1 ⊢
   have R2:=R1.pop hv p0 p1 hn (R1.none hx1)
   have ms2:=R2.ms
   refine aj (bo 9 (j8 6 rfl hy) ?_)
   refine aj (cw 5 (aJ (aa 9 rfl)) rfl rfl (hsl (by rw [List.length_append] at ms2;simp at ms2;omega)) ?_)
   refine ao (bo 7 (bQ (aa 9 rfl)) ?_)
   refine ⟨2 * bK left + w0.length,by rw [List.length_append];simp,left,_,back++[k],w0,s0,v8,.im bX (s0,k),?_,rfl,R2⟩
   rw [List.dropLast_concat];rfl
 ·rintro lv ⟨R,xs,hx,_,h⟩
  obtain ⟨rfl,rfl⟩:=h rfl
  have hf:=fW.fin p0 p1 hn hang R.r (R.none hx)
  have hms2:=R.ms
  refine ao (jR (qM M.list M.reversed (cI 5 rfl (aE (by omega)))) ⟨hf.1,λk hk=>?_,?_⟩)
  ·rw [List.count_reverse];exact hf.2 k hk
  ·rw [List.length_reverse];omega
end
end K1
namespace Fc
open PySem PySem.Spec L2
open PyProof.Rows hiding St
section
variable {X:Cx}{Γ Γ1 Γ2 Γ3:Ga}{α β γ δ:Type}{N:Ga->Prop}{T:RT}
def E8 (X:Cx)(tg iter:Expr)(Γ:Ga){α:Type}(r:Rep α)(P:List α->Prop)(Γ1:Ga):Prop:=
 ∃wi,PI X tg iter wi/\∀(σ:St) (H0 R0 H R:Hp),aq X.K σ H0 R0 H R Γ->∀Rq:It->Hp->Prop,(∀J H1 R1 xs,P xs->aq X.K σ H0 R0 H1 R1 Γ1->ar R R1->xs.length<=sizeLine->Src X.K J R1 r xs->Rq J H1)->wi σ H Rq
theorem wK {tg iter:Expr}{r:Rep α}{P:List α->Prop}(h:l6 X iter Γ r P Γ1):E8 X tg iter Γ r P Γ1:=by
 refine ⟨_,kH aI,λσ H0 R0 H R E Rq q=>h σ H0 R0 H R E _ λa vs xs H1 R1 E1 s1 ha hR h0 off pp z hP=>?_⟩
 have s2:ar R1 (upd R1 a (.lst vs)):=ar.fresh hR _
 have E2:=E1.jr ha hR h0 off
 refine ⟨a,rfl,⟨vs,aL.of ha⟩,q _ H1 (upd R1 a (.lst vs)) xs hP E2 (s1.trans s2) z λH' R' sR sH i=>⟨λx hx=>?_,λhi=>?_⟩⟩
 ·have hq:aL X.K H' a vs:=aL.of (sH _ _ (sR _ _ az))
  obtain ⟨v,hv,hr⟩:=dt pp hx
  refine ⟨⟨vs,v,hq,hv⟩,λv' H2 hy=>?_⟩
  obtain ⟨rfl,hy⟩:=hy
  have:=hy vs hq
  rw [hv] at this
  cases this
  exact ⟨R',Ext.refl sH,r.mono sR (r.mono s2 hr)⟩
 ·exact ⟨vs,aL.of (sH _ _ (sR _ _ az)),by rw [pp.length];exact hi⟩
theorem Cj {tg iter:Expr}{body:List Stmt}{pos:Pos}{r:Rep α}{P:List α->Prop}{bf:α->Ga->Ga}(I:List α->Nat->Ga->Prop)(hit:E8 X tg iter Γ r P Γ1)(hb:BG X tg r bf)(h0:∀xs,P xs->I xs 0 Γ1)
 (hstep:∀xs,P xs->∀(i:Nat) (x:α) (Γ:Ga),xs[i]?=some x->I xs i Γ->WS X body (bf x Γ) (I xs (i + 1)) T) (hend:∀xs,P xs->∀Γ:Ga,I xs xs.length Γ->N Γ)
 (hc:autoParam (X.calm=true) Fc.ag) (hp:PassesOwn (model X.prog X.w) X.A X.env X.xe:=by exact PassesOwn.never) (hs:autoParam (∀x,foldedSetIterable iter X.env x=pure x) Fc.c9):W1 X (.For tg iter body [] pos) Γ N T:=λσ H0 R0 H R E D dn dr=>by
 obtain ⟨wi,hi,hit⟩:=hit
 refine sS (mQ hp hc hi rh eI hs) (hit σ H0 R0 H R E _ λJ H1 R1 xs hP E1 s1 hz src=>?_)
 refine ⟨λi m σ' H'=>m=xs.length - i/\i<=xs.length/\∃R' Γ',aq X.K σ' H0 R0 H' R' Γ'/\ar R1 R'/\I xs i Γ',⟨_,rfl,Nat.zero_le _,R1,Γ1,E1,ar.refl _,h0 xs hP⟩,?_⟩
 rintro i m σ' H' ⟨rfl,hle,R',Γ',E',s',hI⟩
 obtain ⟨sgo,sstop⟩:=src H' R' s' E'.sub i
 by_cases hlt:i < xs.length
 ·obtain ⟨go,yl⟩:=sgo _ (List.getElem?_eq_getElem hlt)
  refine .inr ⟨go,λσ' H'=>i + 1<=xs.length/\∃R' Γ',aq X.K σ' H0 R0 H' R' Γ'/\ar R1 R'/\I xs (i + 1) Γ',λσ2 H2 h=>⟨xs.length - (i + 1),by omega,rfl,h.1,h.2⟩,λv H2 hy=>?_⟩
  obtain ⟨R2,x2,hr⟩:=yl v H2 hy
  refine hb σ' H0 R0 H2 R2 Γ' v _ (E'.grow x2) hr _ λσ2 E2=>?_
  exact hstep xs hP i _ Γ' (List.getElem?_eq_getElem hlt) hI σ2 H0 R0 H2 R2 E2 _ (λσ3 H3 R3 Γ3 E3 s3 h3=>⟨hlt,R3,Γ3,E3,s'.trans (x2.r.trans s3),h3⟩) dr
 ·have e:i=xs.length:=by omega
  subst e
  exact .inl ⟨sstop (Nat.le_refl _),dn σ' H' R' Γ' E' (s1.trans s') (hend xs hP Γ' hI)⟩
end
end Fc
namespace K1
open PySem L2 Fc
open PySem.Spec hiding Row
open PyProof.Rows hiding St
open PySem.Builtin.Int (intBits)
theorem hZ {v:ax}{p:Int}:∀{t:List Int} {a b c:Int},dk v p a t b->dk v p a t c->b=c
 | [],_,_,_,h,g=>h.symm.trans g
 | x::r,_,_,_,h,g=>hZ (t:=r) h.2.2 g.2.2
theorem jV {v:ax}{p:Int}:∀{t:List Int} {a b:Int},dk v p a t b->∀{i:Nat} {k:Int},t[i]?=some k->dk v p a (t.take i) (bC v k)/\cJ v p k/\dk v p a (t.take (i + 1)) (cM v k)
 | [],_,_,_,_,_,h=>by simp at h
 | x::r,a,b,hp,0,k,h=>by
   have e:x=k:=by simpa using h
   subst e
   obtain ⟨h1,h2,h3⟩:=hp
   exact ⟨h2.symm,h1,⟨h1,h2,rfl⟩⟩
 | x::r,a,b,hp,i + 1,k,h=>by
   obtain ⟨h1,h2,h3⟩:=hp
   obtain ⟨q1,q2,q3⟩:=jV h3 (show r[i]?=some k by simpa using h)
   exact ⟨⟨h1,h2,q1⟩,q2,⟨h1,h2,q3⟩⟩
section
variable {P:Program}{w:World}{K:PySem.W.Frag}{mg:Str->Option Value}{base:Heap}{f:Addr}{fd:FuncData}
abbrev xW:Stmt:=top qQ
abbrev nOR:List Str:=["web","numbers","part","runs","number"]
theorem Ap:aC nOR ["web","numbers","part"] (ai xW):=⟨rfl,rfl,rfl,by decide +kernel,rfl,by decide +kernel,by decide +kernel⟩
def Fm:cq:=λK ps T=>∃(v:ax) (ns:List Int) (p:Int),ps=[⟨bx,v⟩,⟨af ae,ns⟩,⟨ae,p⟩]/\ba v/\0<=p/\p < (v.1.length:Int)/\l5 v ns/\jT v p ns/\bK ns<=100000/\T=i6 K (af ae) (gk v p ns)
theorem Dh (M:bO mg)(CR:aF P w K mg base "round_from_end" 3 (aQ Ba K))(F:bH K "own_runs" "own_runs" xW f fd)(hm:mg "own_runs"=some (.ref f))(hb:Binds K fd ["web","numbers","part"] []):aF P w K mg base "own_runs" 4 (aQ Fm K):=by
 have nd:=Ap.nd
 refine bD F Ap hm hb (λqs T ⟨_,_,_,e,_⟩=>by rw [e];rfl) (λcdv A outer s H E qs T hr hS=>?_)
 obtain ⟨v,ns,p,rfl,hv,p0,p1,hC,hang,hms,rfl⟩:=hS
 have pl:=hv.pl
 have rl:=hv.rl
 have hsl:∀{n:Nat},n<=100000->n < sizeLine:=λh=>Nat.lt_of_le_of_lt h (by decide)
 change WS _ _ [.im (ay (af ae) (af aB)) v,.im (af ae) ns,.im ae p,.no,.no] _ _
 refine aj (bG 3 (r:=ae) (aN aY (by decide)) ?_)
 refine WS.DB 3 (r:=ae) rfl λa=>?_
 refine aj (Cj (r:=ae) (P:=BA v p ns) (λt i Γ=>∃as runs v4,Γ=[.im (ay (af ae) (af aB)) v,.im (af ae) ns,.im ae p,.ob (cH ae a as runs),v4]/\∃q,jH v p (t.take i) q runs/\dk v p 1 (t.take i) q)
  (wK (qi CR hr (ah (aa 0 rfl) (ah (aa 1 rfl) (ah (aa 2 rfl) aw))) ⟨v,ns,p,rfl,hv,p0,p1,hC,hang,hms,rfl⟩)) (aG 4) (λt _=>⟨[],[],.no,rfl,1,jH.nil,rfl⟩) ?_ ?_)
 ·rintro t ht i k Γ hk ⟨as,runs,v4,rfl,q,S,hq⟩
  have tk:t.take (i + 1)=t.take i++[k]:=by rw [List.take_succ,hk];rfl
  obtain ⟨pa,pe,pb⟩:=jV ht.path hk
  have eq:q=bC v k:=hZ hq pa
  subst eq
  have tl:(t.take i).length<=100000:=by rw [List.length_take];have:=ht.len;omega
  refine ao (bh (aA gm (aa 4 rfl) (aM M.len (aJ (aa 0 rfl)))) (λh=>?_) (λh=>?_))
  ·have h:k < (v.2.length:Int):=of_decide_eq_true h
   obtain ⟨init,cur,rfl,S2⟩:=S.row hv p0 pe h
   have hix:dO (init++[cur]).length (-1)=some init.length:=by
    rw [List.length_append]
    unfold dO
    rw [if_neg (by omega),if_pos (by simp;omega)]
    congr 1
    simp;omega
   have hl:=S.len
   rw [List.flatten_append,List.length_append] at hl
   have hc:cur.length<=(t.take i).length:=by simp at hl ⊢;omega
   refine ao (jE 3 (xs:=cur) (cO ak) (aa 4 rfl) rfl hix (by simp) (hsl (by omega)) ?_)
   refine ⟨as,_,.im ae k,rfl,cM v k,?_,pb⟩
   rw [tk]
   simpa using S2
  ·have h:¬k < (v.2.length:Int):=of_decide_eq_false h
   have hrn:runs.length<=100000:=by
    rw [S.many]
    exact Nat.le_trans List.count_le_length tl
   refine ao (sG 3 (ys:=[]) (aN aY (by decide)) rfl rfl (hsl hrn) λb=>?_)
   refine ⟨as++[b],runs++[[]],.im ae k,rfl,cM v k,?_,pb⟩
   rw [tk]
   exact S.begin p0 pe h
 ·rintro t ht Γ ⟨as,runs,v4,rfl,q,S,hq⟩
  rw [List.take_length] at S hq
  have eq:q=1:=hZ hq ht.path
  subst eq
  have D:=S.done p0 ht.cnt ht.len
  have hl:=ht.len
  have h1:=S.len
  refine ao (r8 3 rfl (aE (by rw [S.many];exact Nat.le_trans List.count_le_length (by omega))) (λxs hx=>aE ?_) D)
  have:=(List.sublist_flatten_of_mem hx).length_le
  omega
end
end K1
namespace Fc
open PySem PySem.Spec L2
open PyProof.Rows hiding St
section
variable {X:Cx}{Γ Γ1 Γ2 Γ3:Ga}{α β γ δ:Type}{N:Ga->Prop}{T:RT}
def iL (H:Hp)(l:List Addr):Hp:=λb=>if b∈l then none else H b
theorem rB {H:Hp}{l:List Addr}{b:Addr}(h:b∈l):iL H l b=none:=if_pos h
theorem gb {H:Hp}{l:List Addr}{b:Addr}(h:b∉l):iL H l b=H b:=if_neg h
theorem xa {H:Hp}{l:List Addr}:ar (iL H l) H:=λb o q=>by
 by_cases h:b∈l
 ·rw [rB h] at q;cases q
 ·rwa [gb h] at q
theorem aq.xM {K:PySem.W.Frag}{σ:St}{H0 R0 H R H' R':Hp}{i:Nat}{B B':k4}(E:aq K σ H0 R0 H R Γ)(hΓ:Γ[i]?=some (.ob B))(x:Ext (iL H B.fp) R H' R')(ho:(Ent.ob B').ok K H' R' (σ[i]?).join)(hfp:∀b∈B'.fp,b∈B.fp):aq K σ H0 R0 H' R' (Γ.set i (.ob B')):=by
 have h0:∀b∈B.fp,H0 b=none:=λb hb=>E.nw i _ b hΓ hb
 have out:∀{b:Addr},H0 b≠none->b∉B.fp:=λh e=>h (h0 _ e)
 have apart:∀(j:Nat) (e:Ent),j≠i->Γ[j]?=some e->∀b∈e.fp (σ[j]?).join,b∉B.fp:=λj e hj qj b hb w=>hj (E.ds j i e _ b qj hΓ hb w)
 refine ⟨⟨λb o q=>?_,E.ext.r.trans x.r,x.s,λb hb=>?_⟩,λj e q=>?_,λj e b q w=>?_,λj k e e' b q q' w w'=>?_,by rw [List.length_set];exact E.len⟩
 ·exact x.h b o (by rw [gb (out (by rw [q];exact Option.some_ne_none _))];exact E.ext.h b o q)
 ·refine (x.old b ?_).trans (E.ext.old b hb)
  rw [gb (out hb)];exact ar.some E.ext.h hb
 ·rcases set_at q with ⟨rfl,rfl,_⟩ | ⟨hj,q1⟩
  ·exact ho
  ·have h1:=E.ent j e q1
   refine h1.loc (λb hb=>?_) x.r λb hb=>?_
   ·cases e2:H b with
    | none=>exact absurd e2 (Ent.dz h1 hb).1
    | some u=>exact x.h b u (by rw [gb (apart j e hj q1 b hb)];exact e2)
   ·exact (x.old b (by rw [gb (apart j e hj q1 b hb)];exact (Ent.dz h1 hb).1)).trans (Ent.dz h1 hb).2
 ·rcases set_at q with ⟨rfl,rfl,_⟩ | ⟨hj,q1⟩
  ·exact h0 b (hfp b w)
  ·exact E.nw j e b q1 w
 ·rcases set_at q with ⟨rfl,rfl,_⟩ | ⟨hj,q1⟩
  ·rcases set_at q' with ⟨rfl,rfl,_⟩ | ⟨hk,q1'⟩
   ·rfl
   ·exact absurd (hfp b w) (apart k e' hk q1' b w')
  ·rcases set_at q' with ⟨rfl,rfl,_⟩ | ⟨hk,q1'⟩
   ·exact absurd (hfp b w') (apart j e hj q1 b w)
   ·exact E.ds _ _ _ _ b q1 q1' w w'
variable {P:Program}{w:World}{K:PySem.W.Frag}{mg:Str->Option Value}{base:Heap}
end
section
variable {X:Cx}{Γ Γ1 Γ2 Γ3:Ga}{α β γ δ:Type}{N:Ga->Prop}{T:RT}
abbrev xA (α β:Type):=PySem.W.Frag->List (List α)->List Pk->(List (List α)->List β->Prop)->Prop
def xC (r:Rep α)(rr:Rep β)(S:xA α β)(K:PySem.W.Frag):Sp:=λvs H Q _=>∃R u a as xss vs' p0 ps Pd,vs=u:: .ref a::vs'/\ar R H/\(∀x∈a::as,R x=none)/\(cH r a as xss).R K H R (.ref a)/\eZ K R (u::vs') (p0::ps)/\S K xss (p0::ps) Pd/\
 ∀b ws ys H' R' xss',Ext (iL H (a::as)) R H' R'->(cH r a as xss').R K H' R' (.ref a)->(∀x∈a::as,R' x=none)->b∉a::as->H b=none->H' b=some (.lst ws)->R' b=none->PySem.Paired (rr.R K R') ws ys->ys.length<=sizeLine->Pd xss' ys->Q (.ref b) H'
def zY (X:Cx)(e:Expr)(Γ:Ga){α:Type}(r:Rep α)(P:List α->Ga->Prop):Prop:=
 ∀(σ:St) (H0 R0 H R:Hp),aq X.K σ H0 R0 H R Γ->∀Q:VK,(∀a vs ys Γ' H' R',P ys Γ'->aq X.K σ H0 R0 H' R' Γ'->ar R R'->H' a=some (.lst vs)->R' a=none->H0 a=none->Off a σ Γ'->PySem.Paired (r.R X.K R') vs ys->ys.length<=sizeLine->Q (.ref a) H')->d6 X e σ H Q
theorem n4 (l:Nat){r:Rep α}{rr:Rep β}{S:xA α β}{x y:Str}{k:Nat}{e0 e2:Expr}{p p1 pos:Pos}{r0:Rep γ}{x0:γ}{n:Int}{a:Addr}{as:List Addr}{xss:List (List α)}{Pd:List (List α)->List β->Prop}(C:aF X.prog X.w X.K X.mg X.base x k (xC r rr S X.K))(hr:bA k X.A)(h0:EV X e0 Γ r0 x0 Γ)(h2:EV X e2 Γ ae n Γ)(hΓ:Γ[l]?=some (.ob (cH r a as xss)))
 (hS:S X.K xss [⟨r0,x0⟩,⟨ae,n⟩] Pd)
 (hg:autoParam (Gl X x) Fc.ag) (hdb:autoParam ((x==("__debug__":Str))=false) Fc.av) (he:autoParam (starEach [e0,.Name y p1,e2] X.env=(false,eval e0 X.env)::starEach [.Name y p1,e2] X.env) Fc.ag) (he1:autoParam (starEach [.Name y p1,e2] X.env=(false,eval (.Name y p1) X.env)::starEach [e2] X.env) Fc.ag) (he2:autoParam (starEach [e2] X.env=(false,eval e2 X.env)::starEach [] X.env) Fc.ag) (hpl:autoParam ((backTo pos (starEach [.Name y p1,e2] X.env)).any (·.1)=false) Fc.ag)
 (hN:autoParam (X.N[l]?=some y) Fc.ag) (hv:autoParam (bR X.env.scope y) Fc.bq) (hd:autoParam ((y==("__debug__":Str))=false) Fc.av) (hcd:autoParam ((y==("__classdict__":Str))=false) Fc.av):
 zY X (.Call (.Name x p) [e0,.Name y p1,e2] [] pos) Γ rr (λys Γ'=>∃xss',Pd xss' ys/\Γ'=Γ.set l (.ob (cH r a as xss'))):=λσ H0 R0 H R E Q q=>by
 obtain ⟨f,fd,pn,F,hm,hk,hb⟩:=C.ex
 refine eS (eh F hr hg hm hk hb .nil gL (aD aI (aD (aU hN hv hd hcd) (aD aI bp he2) he1) he) hdb he hpl) (h0 σ H0 R0 H R E _ λu H1 R1 E1 s1 q1=>?_)
 obtain ⟨⟨_,ea,rfl,_⟩,_⟩:=E1.ent l _ hΓ
 refine ⟨.ref a,at_of ea,h2 σ H0 R0 H1 R1 E1 _ λw H2 R2 E2 s2 q2=>?_⟩
 obtain ⟨⟨_,ea2,rfl,hB⟩,hR⟩:=E2.ent l _ hΓ
 refine ⟨R2,u,a,as,xss,[w],⟨r0,x0⟩,[⟨ae,n⟩],_,rfl,E2.sub,hR,⟨rfl,hB⟩,.cons (r0.mono s2 q1) (.cons q2 .nil),hS,λb ws ys H' R' xss' xx hB' hR' hbn hb0 hb1 hbR pp hz hP=>?_⟩
 have E3:aq X.K σ H0 R0 H' R' (Γ.set l (.ob (cH r a as xss'))):=E2.xM hΓ xx ⟨⟨.ref a,ea2,hB'⟩,hR'⟩ λc hc=>hc
 refine q b ws ys _ H' R' ⟨xss',hP,rfl⟩ E3 ((s1.trans s2).trans xx.r) hb1 hbR (E2.ext.h.free hb0) (λj e qj w=>?_) pp hz
 rcases set_at qj with ⟨rfl,rfl,_⟩ | ⟨hj,q1⟩
 ·exact hbn w
 ·exact (Ent.dz (E2.ent j e q1) w).1 hb0
theorem uq (i:Nat){x:Str}{e:Expr}{p1 ap cp pos:Pos}{r:Rep α}{xs:List α}{P:List α->Ga->Prop}(he:zY X e Γ r P)(hΓ:Γ[i]?=some (.mu r xs))(h:∀ys Γ1,P ys Γ1->Γ1[i]?=some (.mu r xs)/\xs.length + ys.length<=sizeLine/\N (Γ1.set i (.mu r (xs++ys))))
 (hN:autoParam (X.N[i]?=some x) Fc.ag) (hv:autoParam (bR X.env.scope x) Fc.bq)
 (hd:autoParam ((x==("__debug__":Str))=false) Fc.av) (hcd:autoParam ((x==("__classdict__":Str))=false) Fc.av)
 (hsw:autoParam (swapsWith (.Call (.Attribute (.Name x p1) "extend" ap) [e] [] cp) none pos.line X.env=pure false) Fc.ag)
 (hbase:autoParam (attributeBase (.Name x p1) "extend" X.env (eval (.Name x p1) X.env)=eval (.Name x p1) X.env) Fc.ag)
 (hfew:autoParam (((backTo cp (starEach [e] X.env)).all (λx=> !x.1)&&(backToKw cp (keywordEach [] X.env)).all (λx=>x.1.isSome)
  &&decide ([e].length + ([]:List Keyword).length + (if ([]:List Keyword).isEmpty then 0 else 1) < 30))=true) Fc.ag)
 (hline:autoParam ((ap.endLine==cp.line)=true) Fc.ag) (hs:autoParam (starEach [e] X.env=(false,eval e X.env)::starEach [] X.env) Fc.ag):W1 X (.Expr (.Call (.Attribute (.Name x p1) "extend" ap) [e] [] cp) pos) Γ N T:=λσ H0 R0 H R E D dn dr=>by
 obtain ⟨a,vs,ea,ha,hR,pp⟩:=E.ent i _ hΓ
 refine sS (d5 (gr PySem.F.plainAttrs_list PySem.F.slot_list_extend PySem.F.type_list_extend nM (aU hN hv hd hcd) (aD aI bp hs) hbase hfew hline hs rfl) hsw) ?_
 refine ⟨.ref a,at_of ea,.inl ⟨rfl,vs,aL.of ha⟩,he σ H0 R0 H R E _ λb ws ys Γ1 H1 R1 hP E1 s1 hb hbR hb0 off pw hw=>?_⟩
 obtain ⟨hΓ1,hz,hn⟩:=h ys Γ1 hP
 obtain ⟨a',vs',ea',ha',hR',pp'⟩:=E1.ent i _ hΓ1
 rw [ea] at ea';cases ea'
 refine ⟨a,b,vs',ws,rfl,rfl,ha',hb,by rw [pp'.length,pw.length];exact hz,?_⟩
 exact dn σ _ R1 _ (E1.upd (en:=.mu r (xs++ys)) hΓ1 rfl ea hR' ⟨a,_,rfl,az,hR',bP pp' pw⟩) s1 hn
def E6 (K:PySem.W.Frag)(r:Rep α)(rr:Rep β)(a:Addr)(as:List Addr)(Pd:List (List α)->List β->Prop):RT:=λH0 v H' R'=>∃xss' b ws ys,v= .ref b/\(cH r a as xss').R K H' R' (.ref a)/\(∀x∈a::as,R' x=none)/\b∉a::as/\H0 b=none/\H' b=some (.lst ws)/\R' b=none/\PySem.Paired (rr.R K R') ws ys/\ys.length<=sizeLine/\Pd xss' ys
theorem Bl (i l:Nat){x:Str}{p1 pos:Pos}{r:Rep α}{rr:Rep β}{a:Addr}{as:List Addr}{xss:List (List α)}{ys:List β}{Pd:List (List α)->List β->Prop}(hΓ:Γ[i]?=some (.mu rr ys))(hl:Γ[l]?=some (.ob (cH r a as xss)))(hil:i≠l)(hz:ys.length<=sizeLine)(h:Pd xss ys)(hN:autoParam (X.N[i]?=some x) Fc.ag)(hv:autoParam (bR X.env.scope x) Fc.bq)
 (hd:autoParam ((x==("__debug__":Str))=false) Fc.av) (hcd:autoParam ((x==("__classdict__":Str))=false) Fc.av):W1 X (.Return (some (.Name x p1)) pos) Γ N (E6 X.K r rr a as Pd):=λσ H0 R0 H R E D dn dr=>by
 obtain ⟨b,vs,ea,ha,hR,pp⟩:=E.ent i _ hΓ
 obtain ⟨⟨_,eb,rfl,hB⟩,hRb⟩:=E.ent l _ hl
 refine sS (e7 (aU hN hv hd hcd)) ⟨.ref b,at_of ea,dr _ H R E.ext ⟨xss,b,vs,ys,rfl,⟨rfl,hB⟩,hRb,λz=>hil (E.ds i l _ _ b hΓ hl (cb.mpr ea) z),E.new i _ b hΓ rfl ea,ha,hR,pp,hz,h⟩⟩
theorem sX {K:PySem.W.Frag}{R H:Hp}{a:Addr}{as:List Addr}{r:Rep α}{xss:List (List α)}{v0:V}{vs:List V}{p0:Pk}{ps:List Pk}{N:List Str}(s:ar R H)(hR:∀x∈a::as,R x=none)(hB:(cH r a as xss).R K H R (.ref a))(h0:p0.r.R K R v0 p0.x)(p:eZ K R vs ps)(hl:ps.length + 2<=N.length):
 aq K (L2.start N (v0:: .ref a::vs)) (iL H (a::as)) R H R (.im p0.r p0.x:: .ob (cH r a as xss)::dB ps (N.length - 2)):=by
 obtain ⟨n0,n1,N',rfl⟩:∃n0 n1 N',N=n0::n1::N':=by
  match N,hl with
  | [],h=>exact absurd h (by simp)
  | [_],h=>exact absurd h (by simp)
  | n0::n1::N',_=>exact ⟨n0,n1,N',rfl⟩
 have hl':ps.length<=N'.length:=by simpa using hl
 have E0:=eA (N:=N') s p hl'
 have es:L2.start (n0::n1::N') (v0:: .ref a::vs)=some v0::some (.ref a)::L2.start N' vs:=by unfold L2.start;simp
 rw [es]
 have el:(n0::n1::N').length - 2=N'.length:=by simp
 rw [el]
 have noown:∀(i:Nat) (e:Ent) (o:Option V),(dB ps N'.length)[i]?=some e->e.fp o=[]:=λi e o q=>by
  unfold dB at q
  rcases List.mem_append.mp (List.mem_of_getElem? q) with z | z
  ·obtain ⟨p,_,rfl⟩:=List.mem_map.mp z;rfl
  ·obtain ⟨_,rfl⟩:=List.mem_replicate.mp z;rfl
 have nf:∀(i:Nat) (e:Ent) (o:Option V),i≠1->(Ent.im p0.r p0.x::Ent.ob (cH r a as xss)::dB ps N'.length)[i]?=some e->e.fp o=[]:=λi e o hi q=>by
  match i,hi with
  | 0,_=>simp at q;subst q;rfl
  | 1,h=>exact absurd rfl h
  | i + 2,_=>exact noown i e o (by simpa using q)
 refine ⟨⟨xa,ar.refl _,s,λ_ _=>rfl⟩,λi e q=>?_,λi e c q w=>?_,λi j e e' c q q' w w'=>?_,?_⟩
 ·match i with
  | 0=>simp at q;subst q;exact ⟨v0,rfl,h0⟩
  | 1=>simp at q;subst q;exact ⟨⟨.ref a,rfl,hB⟩,hR⟩
  | i + 2=>simp at q;simpa using E0.ent i e q
 ·by_cases hi:i=1
  ·subst hi
   simp at q;subst q
   exact rB w
  ·rw [nf i e _ hi q] at w;cases w
 ·by_cases hi:i=1
  ·by_cases hj:j=1
   ·rw [hi,hj]
   ·rw [nf j e' _ hj q'] at w';cases w'
  ·rw [nf i e _ hi q] at w;cases w
 ·have:=E0.len
  simp [this]
variable {P:Program}{w:World}{K:PySem.W.Frag}{mg:Str->Option Value}{base:Heap}
theorem vM {r:Rep α}{rr:Rep β}{S:xA α β}{x qual:Str}{st:Stmt}{f:Addr}{fd:FuncData}{N ps:List Str}{k:Nat}(F:bH K x qual st f fd)(Sc:aC N ps (ai st))(hm:mg x=some (.ref f))(hb:Binds K fd ps [])(len:∀xss qs Pd,S K xss qs Pd->qs.length + 1=ps.length)
 (hbody:∀(cdv:Value) (A:Around) (outer:List Env) (s:Shared) (H:Hp) (E:XK) (a:Addr) (as:List Addr) (xss:List (List α)) (q0:Pk) (qs:List Pk) (Pd:List (List α)->List β->Prop),bA k (A.deeper (envOfC qual (ai st) s.heap.objs.size f cdv))->S K xss (q0::qs) Pd->
  WS (cL dQ P w K mg base N qual (ai st) f cdv A outer s H E).c8 (br st) (.im q0.r q0.x:: .ob (cH r a as xss)::dB qs (N.length - 2)) (λ_=>False) (E6 K r rr a as Pd)):aF P w K mg base x (k + 1) (xC r rr S K):=by
 refine ⟨f,fd,ps,?_,hm,F.kp,hb⟩
 refine F.ok Sc (λvs H Q E h=>?_) (λcdv A outer s H vs Q E hr h=>?_)
 ·obtain ⟨R,u,a,as,xss,vs',p0,qs,Pd,rfl,_,_,_,p,hS,_⟩:=h
  have:=len xss _ Pd hS
  have e2:=p.length
  simp only [List.length_cons] at e2 this ⊢
  omega
 ·obtain ⟨R,u,a,as,xss,vs',p0,qs,Pd,rfl,sR,hR,hB,p,hS,q⟩:=h
  have hlen:=len xss _ Pd hS
  have hN:ps.length<=N.length:=by
   have:=congrArg List.length Sc.pre
   rw [List.length_take] at this
   omega
  cases p with
  | cons h0 p=>
    have hl:qs.length + 2<=N.length:=by simp only [List.length_cons] at hlen;omega
    refine ⟨_,eI,hbody cdv A outer s H E a as xss p0 qs Pd hr hS (L2.start N (u:: .ref a::vs')) (iL H (a::as)) R H R (sX sR hR hB h0 p hl) {nx:=λ_ H'=>Q .non H',rt:=Q} (λ_ _ _ _ _ _ f=>f.elim) λv H' R' xx t=>?_⟩
    obtain ⟨xss',b,ws,ys,rfl,h1,h2,h3,h4,h5,h6,h7,h8,h9⟩:=t
    exact q b ws ys H' R' xss' xx h1 h2 h3 (by rw [gb h3] at h4;exact h4) h5 h6 h7 h8 h9
end
end Fc
namespace K1
open PySem L2 Fc
open PySem.Spec hiding Row
open PyProof.Rows hiding St
open PySem.Builtin.Int (intBits)
structure El (v:ax) (p:Nat) (e':Nat->Nat) (own:List Int) (A:List Int) (i:Nat) (W1:Wt) (run:List Int):Prop where
 ok:lU v W1 (λq=>e' q + callsOf v (own.drop i) q)
 perm:A.Perm (run++(own.drop i++cR W1))
 mid:∃b,dk v p 0 (own.take i) b/\mB v p 0 run b
theorem zF {own:List Int}{i:Nat}{k:Int}(h:own[i]?=some k):own.drop i=k::own.drop (i + 1):=by
 obtain ⟨hl,rfl⟩:=List.getElem?_eq_some_iff.mp h
 exact List.drop_eq_getElem_cons hl
theorem kq (v:ax)(k:Int)(rest:List Int)(j:Nat):callsOf v (k::rest) j=(if (rowOf v k).2.2.2=(j:Int) then 1 else 0) + callsOf v rest j:=by
 unfold callsOf;rw [List.countP_cons];simp only [decide_eq_true_eq];omega
section
variable {P:Program}{w:World}{K:PySem.W.Frag}{mg:Str->Option Value}{base:Heap}{f:Addr}{fd:FuncData}
abbrev xR:Stmt:=top pP
abbrev nWR:List Str:=["web","waiting","part","own","run","number","called"]
theorem vR:aC nWR ["web","waiting","part"] (ai xR):=⟨rfl,rfl,rfl,by decide +kernel,rfl,by decide +kernel,by decide +kernel⟩
def EG (n:Nat):xA (List Int) Int:=λK W ps Pd=>∃(v:ax) (p:Nat) (e e':Nat->Nat),ps=[⟨bx,v⟩,⟨ae,(p:Int)⟩]/\ba v/\v.1.length<=p + n/\p < v.1.length/\lU v W e/\(∀q,e q=e' q + (if q=p then 1 else 0))/\(cR W).length<=100000/\Pd=λW' run=>lU v W' e'/\(cR W).Perm (run++cR W')/\kJ v p run
theorem yd (M:bO mg)(F:bH K "whole_run" "whole_run" xR f fd)(hm:mg "whole_run"=some (.ref f))(hb:Binds K fd ["web","waiting","part"] []):∀n:Nat,aF P w K mg base "whole_run" (n + 1) (xC (af ae) ae (EG n) K)
 | 0=>by
   refine vM F vR hm hb (λW qs Pd ⟨_,_,_,_,e,_⟩=>by rw [e];rfl) (λcdv A outer s H E a as W q0 qs Pd hr hS=>?_)
   obtain ⟨v,p,e,e',_,_,h1,h2,_⟩:=hS
   exact absurd h1 (by omega)
 | n + 1=>by
   have nd:=vR.nd
   obtain ⟨t1,hNC⟩:=M.noCall
   have IH:=yd M F hm hb n
   refine vM F vR hm hb (λW qs Pd ⟨_,_,_,_,e,_⟩=>by rw [e];rfl) (λcdv A outer s H E a as W q0 qs Pd hr hS=>?_)
   obtain ⟨v,p,e,e',eq,hv,hn,hp,hW,he,hsz,rfl⟩:=hS
   obtain ⟨rfl,rfl⟩:=List.cons.inj eq
   have pl:=hv.pl
   have rl:=hv.rl
   change WS _ _ [.im (ay (af ae) (af aB)) v,.ob (cH (af ae) a as W),.im ae (p:Int),.no,.no,.no,.no] _ _
   have hl:p < W.length:=by rw [hW.len];exact hp
   obtain ⟨rs,hrs⟩:∃rs,W[p]?=some rs:=⟨_,List.getElem?_eq_getElem hl⟩
   have hg:W.getD p []=rs:=by rw [List.getD_eq_getElem?_getD,hrs];rfl
   have hne:rs≠[]:=λz=>by
    have:=hW.bal p hp
    rw [hg,z,he p,if_pos rfl] at this
    simp at this
   obtain ⟨init,own,rfl⟩:∃init own,rs=init++[own]:=⟨rs.dropLast,rs.getLast hne,(List.dropLast_concat_getLast hne).symm⟩
   have hown:=hW.own p _ hrs own (by simp)
   have hpm:=nE hrs
   have hO:=hW.own.set hrs
   have hB:Er v (W.set p init) (λq=>e' q + callsOf v own q):=by
    intro q hq
    have b:=hW.bal q hq
    rw [kg v hpm,gi,he q] at b
    by_cases z:q=p
    ·subst z
     rw [if_pos rfl,hg,List.length_append] at b
     rw [List.getD_eq_getElem?_getD,List.getElem?_set_self hl]
     simp at b ⊢;omega
    ·rw [if_neg z] at b
     rw [List.getD_eq_getElem?_getD,List.getElem?_set_ne (Ne.symm z),← List.getD_eq_getElem?_getD]
     show _=_ + (e' q + callsOf v own q)
     omega
   have hix:dO W.length (p:Int)=some p:=by
    have:=dH (n:=W.length) (i:=(p:Int)) (by omega) (by omega)
    simpa using this
   have ol:own.length<=100000:=by
    have:=hpm.length_eq
    rw [List.length_append] at this
    omega
   refine aj (bo 3 (vN 1 (aa 2 rfl) rfl hix hrs) ?_)
   refine aj (bG 4 (r:=ae) (aN aY (by decide)) ?_)
   have L0:El v p e' own (cR W) 0 (W.set p init) []:=⟨⟨by rw [List.length_set];exact hW.len,hO,by simpa using hB⟩,by simpa using hpm,0,rfl,λst=>rfl⟩
   refine aj (bS (r:=ae) (λi Γ=>∃W1 run v5 v6,Γ=[.im (ay (af ae) (af aB)) v,.ob (cH (af ae) a as W1),.im ae (p:Int),.im (af ae) own,.mu ae run,v5,v6]/\El v p e' own (cR W) i W1 run)
    (bj (aa 3 rfl)) (aG 5) ⟨_,_,_,_,rfl,L0⟩ ?_ ?_)
   ·rintro i k Γ hk ⟨W1,run,v5,v6,rfl,L⟩
    obtain ⟨b,hpb,hmid⟩:=L.mid
    obtain ⟨pa,pe,pb⟩:=jV hown.1 hk
    have eb:b=bC v k:=hZ hpb pa
    subst eb
    have k1:=hown.2 k (List.mem_of_getElem? hk)
    have k0:0<=k:=by rcases pe with z | z<;>omega
    have kp:(rowOf v k).1=p:=by rcases pe with z | z;· exact z.2.2
                                ·omega
    have q:=hv.eW (fz k0 k1)
    have s1:bC v k=(rowOf v k).2.1:=by unfold bC;rw [if_pos k1]
    have s2:cM v k=(rowOf v k).2.2.1:=by unfold cM;rw [if_pos k1]
    have c0:=q.c0
    have c1:=q.c1
    have cp:=q.cp
    have hperm:=L.perm
    have hok:=L.ok
    rw [zF hk] at hperm hok
    have hlen:=hperm.length_eq
    simp only [List.length_append,List.length_cons] at hlen
    have hat:bW v.2 k=some (rowOf v k):=by
     rw [eD k0 k1,List.getElem?_eq_getElem (by omega)]
     unfold rowOf
     rw [List.getD_eq_getElem?_getD,List.getElem?_eq_getElem (by omega)];rfl
    refine aj (cw 4 (aa 5 rfl) rfl rfl (Nat.lt_of_le_of_lt (show run.length<=100000 by omega) (by decide)) ?_)
    refine aj (bo 6 (du (aP (aJ (aa 0 rfl)) (aa 5 rfl) hat)) ?_)
    refine ao (bh (aA ip (aa 6 rfl) (cB hNC)) (λh=>?_) (λh=>aV ?_))
    ·have hc:(rowOf v k).2.2.2≠ -1:=by simpa using h
     have hc0:0<=(rowOf v k).2.2.2:=by omega
     obtain ⟨c,hcc⟩:∃c:Nat,(rowOf v k).2.2.2=(c:Int):=⟨(rowOf v k).2.2.2.toNat,by omega⟩
     rw [hcc]
     refine ao (uq 4 (n4 1 IH hr (aa 0 rfl) (aa 6 rfl) rfl ⟨v,c,(λj=>e' j + callsOf v (k::own.drop (i + 1)) j),(λj=>e' j + callsOf v (own.drop (i + 1)) j),rfl,hv,by omega,by omega,hok,λj=>?_,by omega,rfl⟩) rfl ?_)
     ·show e' j + callsOf v (k::own.drop (i + 1)) j=e' j + callsOf v (own.drop (i + 1)) j + _
      rw [kq,hcc]
      by_cases z:j=c
      ·rw [if_pos (by omega),if_pos z];omega
      ·rw [if_neg (by omega),if_neg z];omega
     ·rintro ys Γ1 ⟨W',⟨w1,w2,w3⟩,rfl⟩
      have wl:=w2.length_eq
      simp only [List.length_append] at wl
      refine ⟨rfl,aE (by simp only [List.length_append,List.length_cons,List.length_nil];omega),W',run++[k]++ys,.im ae k,.im ae (c:Int),rfl,⟨w1,?_,cM v k,pb,?_⟩⟩
      ·refine hperm.trans ?_
       have t1:(run++((k::own.drop (i + 1))++cR W1)).Perm (run++((k::own.drop (i + 1))++(ys++cR W'))):=List.Perm.append_left _ (List.Perm.append_left _ w2)
       refine t1.trans ?_
       rw [List.append_assoc run,List.append_assoc run]
       refine List.Perm.append_left _ ?_
       show (k::(own.drop (i + 1)++(ys++cR W'))).Perm (k::(ys++(own.drop (i + 1)++cR W')))
       refine List.Perm.cons _ ?_
       rw [← List.append_assoc,← List.append_assoc]
       exact List.perm_append_comm.append_right _
      ·rw [List.append_assoc]
       exact hmid.trans (wR k0 k1 (by rw [s1];exact q.s1) kp s1.symm s2.symm hc0 (by rw [hcc];exact w3))
    ·have hc:(rowOf v k).2.2.2= -1:=by simpa using h
     refine ⟨W1,run++[k],.im ae k,.im ae (rowOf v k).2.2.2,rfl,⟨⟨hok.len,hok.own,λj hj=>?_⟩,by simpa using hperm,cM v k,pb,?_⟩⟩
     ·have:=hok.bal j hj
      simp only [kq,hc] at this
      rw [if_neg (by omega)] at this
      omega
     ·exact hmid.trans (zA k0 k1 (by rw [s1];exact q.s1) kp s1.symm s2.symm hc)
   ·rintro Γ ⟨W1,run,v5,v6,rfl,L⟩
    obtain ⟨b,hpb,hmid⟩:=L.mid
    have hok:=L.ok
    have hperm:=L.perm
    rw [List.drop_length] at hok hperm
    rw [List.take_length] at hpb
    have eb:b=1:=hZ hpb hown.1
    subst eb
    have hlen:=hperm.length_eq
    simp only [List.length_append] at hlen
    refine ao (Bl 4 1 rfl rfl (by decide) (aE (by omega)) ⟨⟨hok.len,hok.own,λq hq=>by have:=hok.bal q hq;simpa [callsOf] using this⟩,by simpa using hperm,hmid.whole⟩)
end
end K1
namespace Fc
open PySem PySem.Spec L2
open PyProof.Rows hiding St
section
variable {X:Cx}{Γ Γ1 Γ2 Γ3:Ga}{α β γ δ:Type}{N:Ga->Prop}{T:RT}
theorem oq (i:Nat){x:Str}{e:Expr}{p1 ap cp pos:Pos}{a:Addr}{as:List Addr}{xss:List (List Int)}{P:List Int->Ga->Prop}(he:zY X e Γ ae P)(hΓ:Γ[i]?=some (.ob (cC a as xss)))(hz:xss.length < sizeLine)(h:∀ys Γ1,P ys Γ1->Γ1[i]?=some (.ob (cC a as xss))/\∀b,N (Γ1.set i (.ob (cC a (as++[b]) (xss++[ys])))))
 (hN:autoParam (X.N[i]?=some x) Fc.ag) (hv:autoParam (bR X.env.scope x) Fc.bq)
 (hd:autoParam ((x==("__debug__":Str))=false) Fc.av) (hcd:autoParam ((x==("__classdict__":Str))=false) Fc.av)
 (hsw:autoParam (swapsWith (.Call (.Attribute (.Name x p1) "append" ap) [e] [] cp) none pos.line X.env=pure false) Fc.ag)
 (hbase:autoParam (attributeBase (.Name x p1) "append" X.env (eval (.Name x p1) X.env)=eval (.Name x p1) X.env) Fc.ag)
 (hfew:autoParam (((backTo cp (starEach [e] X.env)).all (λx=> !x.1)&&(backToKw cp (keywordEach [] X.env)).all (λx=>x.1.isSome)
  &&decide ([e].length + ([]:List Keyword).length + (if ([]:List Keyword).isEmpty then 0 else 1) < 30))=true) Fc.ag)
 (hline:autoParam ((ap.endLine==cp.line)=true) Fc.ag) (hs:autoParam (starEach [e] X.env=(false,eval e X.env)::starEach [] X.env) Fc.ag):W1 X (.Expr (.Call (.Attribute (.Name x p1) "append" ap) [e] [] cp) pos) Γ N T:=λσ H0 R0 H R E D dn dr=>by
 obtain ⟨⟨v,ea,rfl,ha,hr,_⟩,hR⟩:=E.ent i _ hΓ
 refine sS (d5 (gr PySem.F.plainAttrs_list PySem.F.slot_list_append PySem.F.type_list_append fC (aU hN hv hd hcd) (aD aI bp hs) hbase hfew hline hs rfl) hsw) ?_
 refine ⟨.ref a,at_of ea,.inl ⟨rfl,_,aL.of ha⟩,he σ H0 R0 H R E _ λb vs ys Γ1 H2 R2 hP E2 s2 hb hRb h0b offb pp _=>?_⟩
 obtain ⟨hΓ1,h⟩:=h ys Γ1 hP
 have ev:=eR pp
 subst ev
 obtain ⟨⟨v,ea2,rfl,ha2,hr2,nd2⟩,hR2⟩:=E2.ent i _ hΓ1
 obtain ⟨n1,n2⟩:=List.nodup_cons.mp nd2
 have hl:as.length=xss.length:=hr2.1
 have bne:b∉a::as:=λz=>offb i _ hΓ1 z
 have bna:b≠a:=λz=>bne (z▸List.mem_cons_self)
 refine ⟨a,_,.ref b,rfl,rfl,ha2,by rw [List.length_map,hl];exact hz,?_⟩
 refine dn σ _ R2 _ (E2.gY (en:=.ob (cC a (as++[b]) (xss++[ys]))) hΓ1 List.mem_cons_self ⟨⟨.ref a,ea2,rfl,?_,?_,?_⟩,λc hc=>?_⟩ λc w=>?_) s2 (h b)
 ·rw [az,List.map_append];rfl
 ·refine (hr2.snoc hb).loc λc hc=>aH λz=>?_
  rw [z] at hc
  rcases List.mem_append.mp hc with q | q
  ·exact n1 q
  ·exact bna (List.mem_singleton.mp q).symm
 ·refine List.nodup_cons.mpr ⟨λz=>?_,eT n2 λz=>bne (List.mem_cons_of_mem _ z)⟩
  rcases List.mem_append.mp z with q | q
  ·exact n1 q
  ·exact bna (List.mem_singleton.mp q).symm
 ·rcases List.mem_cons.mp hc with rfl | hc
  ·exact hR2 _ List.mem_cons_self
  ·rcases List.mem_append.mp hc with q | q
   ·exact hR2 _ (List.mem_cons_of_mem _ q)
   ·rw [List.mem_singleton.mp q];exact hRb
 ·rcases List.mem_cons.mp w with rfl | w
  ·exact .inl List.mem_cons_self
  ·rcases List.mem_append.mp w with q | q
   ·exact .inl (List.mem_cons_of_mem _ q)
   ·rw [List.mem_singleton.mp q];exact .inr ⟨h0b,offb⟩
end
end Fc
namespace K1
open PySem L2 Fc
open PySem.Spec hiding Row
open PyProof.Rows hiding St
open PySem.Builtin.Int (intBits)
theorem BZ {v:ax}(hv:ba v){ns:List Int}(h:de v ns=true):l5 v ns:=by
 unfold de at h
 split at h
 ·cases h
 ·rename_i h1
  have hn:(ns.length:Int)=(v.2.length:Int) + (v.1.length:Int):=by simpa using h1
  have pl:=hv.pl
  have hne:ns≠[]:=λz=>by rw [z] at hn;simp at hn;omega
  split at h
  ·cases h
  ·rename_i h2
   rw [Bool.or_eq_true,not_or] at h2
   have l1:¬least ns < 0:=by simpa using h2.1
   have ev:fV v ns=true:=by simpa using h2.2
   have ap:=of_decide_eq_true h
   refine ⟨by omega,λx hx=>?_,λrel hr=>?_,λp hp=>(nB.mp ap) p (by omega) (by omega)⟩
   ·have:=(ju ns hne).2 x hx
    omega
   ·unfold fV at ev
    exact of_decide_eq_true (List.all_eq_true.mp ev rel hr)
theorem pY {m:Nat}:∀{W:Wt},(∀rs∈W,rs.flatten.length<=m)->(cR W).length<=W.length * m
 | [],_=>by simp
 | rs::W,h=>by
   have ih:=pY (W:=W) λr hr=>h r (List.mem_cons_of_mem _ hr)
   have h1:=h rs List.mem_cons_self
   unfold cR at ih ⊢
   rw [List.flatten_cons,List.flatten_append,List.length_append,List.length_cons,Nat.succ_mul]
   omega
theorem rJ:∀(xs:List Int) (i:Nat),(xs.getD i 0).toNat<=bK xs
 | [],i=>by simp
 | x::r,0=>by unfold bK;simp
 | x::r,i + 1=>by
   have:=rJ r i
   unfold bK at this ⊢
   simp at this ⊢;omega
theorem zt (m q:Nat):e0 (m + 1) q=e0 m q + (if q=0 then 1 else 0):=by unfold e0;split<;>rfl
theorem nP {α β:Type}{Q:α->β->Prop}:∀{xs:List α} {ys:List β},PySem.Paired Q xs ys->∀{i:Nat} {y:β},ys[i]?=some y->∃x,xs[i]?=some x/\Q x y
 | _,_,.nil,_,_,h=>by simp at h
 | _,_,.cons h t,0,y,e=>by
   cases e
   exact ⟨_,rfl,h⟩
 | _,_,.cons h t,i + 1,y,e=>by
   rw [List.getElem?_cons_succ] at e
   obtain ⟨x,h1,h2⟩:=nP t e
   exact ⟨x,by rw [List.getElem?_cons_succ];exact h1,h2⟩
section
variable {P:Program}{w:World}{K:PySem.W.Frag}{mg:Str->Option Value}{base:Heap}{f:Addr}{fd:FuncData}
abbrev uH:Stmt:=top tK
abbrev EI:List Str:=["web","numbers","waiting","heap"]
theorem AS:aC EI ["web","numbers"] (ai uH):=⟨rfl,rfl,rfl,by decide +kernel,rfl,by decide +kernel,by decide +kernel⟩
def yC (v:ax)(ns:List Int)(heap:List (List Int)):Prop:=tallyF v heap=ns/\(∀r∈heap,Goes v r [])/\heap.length<=20000/\∀r∈heap,r.length<=100000
noncomputable def mn (C:Addr)(v:ax)(ns:List Int):Out:=if de v ns=true then .ret (ui (yC v ns)) else .exc (.ref C)
def Be (C:Addr):rV:=λK ps o=>∃(v:ax) (ns:List Int),ps=[⟨bx,v⟩,⟨af ae,ns⟩]/\ba v/\(de v ns=true->bK ns<=20000)/\o=mn C v ns
theorem DL {C:Addr}(M:bO mg)(hC:pC K mg "NoCounts" C)(CA:aF P w K mg base "are_counts" 9 (aQ Ag K))(CO:aF P w K mg base "own_runs" 4 (aQ Fm K))(CW:aF P w K mg base "whole_run" 5 (xC (af ae) ae (EG 4) K))(F:bH K "heap_of" "heap_of" uH f fd)(hm:mg "heap_of"=some (.ref f))(hb:Binds K fd ["web","numbers"] []):iJ P w K mg base "heap_of" 10 (nJ (Be C) K):=by
 have nd:=AS.nd
 have ndc:List.Nodup [("part":Str),"numbers","web"]:=by decide
 have CO:=CO.mono (show 4<=9 by decide)
 have CW:=CW.mono (show 5<=9 by decide)
 obtain ⟨t1,hFP⟩:=M.firstPart
 refine Ao F AS hm hb (λqs o ⟨_,_,e,_⟩=>by rw [e];rfl) (λcdv A outer s H E qs T hr hS=>?_) (λcdv A outer s H R E qs c hr hS hq=>?_)
 ·obtain ⟨v,ns,rfl,hv,hms,ho⟩:=hS
  unfold mn at ho
  split at ho
  ·rename_i hT
   cases ho
   have hC:=BZ hv hT
   have hms:=hms hT
   have pl:=hv.pl
   have rl:=hv.rl
   change WS _ _ [.im (ay (af ae) (af aB)) v,.im (af ae) ns,.no,.no] _ _
   refine aj (bh (cD (cc (bt CA hr (ah (aa 0 rfl) (ah (aa 1 rfl) aw)) ⟨v,ns,rfl,hv,rfl⟩))) (λh=>by rw [hT] at h;exact absurd h (by decide)) (λ_=>aV ?_))
   refine aj (rZ 2 (own:=["part"]) (fr:=["numbers","web"]) (ix:=[1,0]) (ra:=ae) (rb:=af ae) (P:=λp rs=>gk v p ns rs) (bb (so:=ai uH) (N0:=EI) rfl rfl (λx h=>aT h) (by decide +kernel)) (bB M.range (aM M.len (bQ (aa 0 rfl))) ⟨by omega,by omega⟩)
    (λC s H ex=>aG 0) (λx=>⟨.inr rfl,.inl rfl,.inl rfl,trivial⟩) (λx=>⟨trivial,trivial,trivial,trivial⟩) (λC s H ex p hp=>qi CO hr (ah (aa 2 rfl) (ah (aa 1 rfl) (ah (aa 0 rfl) aw))) (by
     have pb:=bz.mp hp
     have hh:=hC.hang p.toNat (by omega)
     rw [show ((p.toNat:Nat):Int)=p by omega] at hh
     exact ⟨v,ns,p,rfl,hv,by omega,by omega,hC,hh,by omega,rfl⟩)) λa as W pq _=>?_)
   have el:((v.1.length:Int)).toNat=v.1.length:=by omega
   rw [el] at pq
   have hl:W.length=v.1.length:=by rw [← pq.length,au]
   have hOwn:∀(p:Nat) rs,W[p]?=some rs->gk v p ns rs:=λp rs h=>by
    obtain ⟨x,h1,h2⟩:=nP pq h
    obtain ⟨_,e⟩:=gz h1
    rw [e] at h2
    simpa using h2
   have hW0:=nz hv hC hl hOwn
   have hAl:(cR W).length<=100000:=by
    have:=pY (m:=bK ns) (W:=W) λrs hrs=>by
     obtain ⟨i,hi⟩:=List.mem_iff_getElem?.mp hrs
     exact (hOwn i rs hi).len
    rw [hl] at this
    have:v.1.length * bK ns<=4 * 20000:=Nat.mul_le_mul (by omega) hms
    omega
   have htot:=rJ ns v.2.length
   generalize hTot:(ns.getD v.2.length 0).toNat=tot at hW0 htot
   refine aj (bG 3 (r:=ae) (aN aY (by decide)) ?_)
   refine WS.rH 3 rfl λb=>?_
   refine aj (fq (λm Γ=>∃W1 bs heap,Γ=[.im (ay (af ae) (af aB)) v,.im (af ae) ns,.ob (cH (af ae) a as W1),.ob (cC b bs heap)]/\lU v W1 (e0 m)/\(cR W).Perm (heap.flatten++cR W1)/\(∀r∈heap,Goes v r [])/\heap.length + m=tot) (m0:=tot) ⟨W,[],[],rfl,hW0,by simp,by simp,by simp⟩ ?_)
   rintro m Γ ⟨W1,bs,heap,rfl,hW,hperm,hgo,hlen⟩
   have hfl:=hperm.length_eq
   rw [List.length_append] at hfl
   obtain ⟨xs,hxs⟩:∃xs,W1[0]?=some xs:=⟨_,List.getElem?_eq_getElem (by rw [hW.len];omega)⟩
   have hfirst:=hW.first hv
   rw [List.getD_eq_getElem?_getD,hxs] at hfirst
   have hfirst:xs.length=m:=hfirst
   refine ⟨_,_,DP 2 (cB hFP) rfl (by
    have:=dH (n:=W1.length) (i:=(0:Int)) (by decide) (by rw [hW.len];omega)
    simpa using this) hxs,λh=>?_,λh=>?_⟩
   ·obtain ⟨m',rfl⟩:∃m',m=m' + 1:=⟨m - 1,by cases xs with
     | nil=>simp at h
     | cons _ _=>simp at hfirst;omega⟩
    refine ao (oq 3 (n4 2 CW hr (aa 0 rfl) (cB hFP) rfl ⟨v,0,e0 (m' + 1),e0 m',rfl,hv,by omega,by omega,hW,zt m',by omega,rfl⟩) rfl (Nat.lt_of_le_of_lt (show heap.length<=20000 by omega) (by decide)) ?_)
    rintro ys Γ1 ⟨W',⟨w1,w2,w3⟩,rfl⟩
    refine ⟨rfl,λc=>⟨m',by omega,W',bs++[c],heap++[ys],rfl,w1,?_,λr hr=>?_,by rw [List.length_append];simp;omega⟩⟩
    ·rw [List.flatten_append]
     refine hperm.trans ?_
     have:=List.Perm.append_left heap.flatten w2
     simpa using this
    ·rcases List.mem_append.mp hr with z | z
     ·exact hgo r z
     ·rw [List.mem_singleton.mp z];exact kJ.FJ w3
   ·have hm0:m=0:=by cases xs with
     | nil=>simpa using hfirst.symm
     | cons _ _=>simp at h
    subst hm0
    have hem:=hW.empty hv
    rw [hem,List.append_nil] at hperm
    refine ao (vm 3 rfl ⟨qA hv hC hl hOwn hperm (by omega),hgo,by omega,λr hr=>?_⟩)
    have:=(List.sublist_flatten_of_mem hr).length_le
    omega
  ·cases ho
 ·obtain ⟨v,ns,rfl,hv,hms,ho⟩:=hS
  unfold mn at ho
  split at ho
  ·cases ho
  ·rename_i hT
   cases ho
   have hT:de v ns=false:=by simpa using hT
   change RS _ H R _ [.im (ay (af ae) (af aB)) v,.im (af ae) ns,.no,.no]
   exact Dl (TV.cast (cD (cc (bt CA hr (ah (aa 0 rfl) (ah (aa 1 rfl) aw)) ⟨v,ns,rfl,hv,rfl⟩))) (by rw [hT];rfl)) (wI hC hq)
end
section
variable {c:List Int}{es:List (Int×Int)}
def cT (c:List Int)(e:Int×Int):List Int:=if (decide (e.1∈c)&& !decide (e.2∈c))=true then c++[e.2] else c
theorem iD {e:Int×Int}(h:e.1∈c)(h':e.2∉c):cT c e=c++[e.2]:=by
 unfold cT;rw [if_pos (by rw [decide_eq_true h,decide_eq_false h'];rfl)]
theorem g0 {e:Int×Int}(h:¬(e.1∈c/\e.2∉c)):cT c e=c:=by
 unfold cT
 rw [if_neg]
 intro z
 rw [Bool.and_eq_true,Bool.not_eq_true',decide_eq_true_iff,decide_eq_false_iff_not] at z
 exact h z
theorem uc (c:List Int)(e:Int×Int):∃t,cT c e=c++t:=by
 by_cases h:e.1∈c/\e.2∉c
 ·exact ⟨_,iD h.1 h.2⟩
 ·exact ⟨[],by rw [g0 h,List.append_nil]⟩
theorem gK:∀(es:List (Int×Int)) (c:List Int),∃t,es.foldl cT c=c++t
 | [],c=>⟨[],by simp⟩
 | e::r,c=>by
   obtain ⟨t,h⟩:=uc c e
   obtain ⟨t',h'⟩:=gK r (cT c e)
   exact ⟨t++t',by rw [List.foldl_cons,h',h,List.append_assoc]⟩
theorem kZ:∀(es:List (Int×Int)) (c:List Int),(∃e∈es,e.1∈c/\e.2∉c)->c.length < (es.foldl cT c).length
 | [],c,⟨e,h,_⟩=>by cases h
 | e::r,c,⟨e',he,h1,h2⟩=>by
   rw [List.foldl_cons]
   by_cases h:e.1∈c/\e.2∉c
   ·obtain ⟨t,ht⟩:=gK r (cT c e)
    rw [ht,iD h.1 h.2,List.length_append,List.length_append,List.length_singleton];omega
   ·rw [g0 h]
    rcases List.mem_cons.mp he with z | z
    ·rw [z] at h1 h2;exact absurd ⟨h1,h2⟩ h
    ·exact kZ r c ⟨e',z,h1,h2⟩
theorem k8 {es0:List (Int×Int)}:∀(es:List (Int×Int)) (c:List Int),(∀e∈es,e∈es0)->c.Nodup->(∀k∈c,Reach es0 0 k)->(es.foldl cT c).Nodup/\∀k∈es.foldl cT c,Reach es0 0 k
 | [],c,_,h1,h2=>⟨h1,h2⟩
 | e::r,c,hs,h1,h2=>by
   rw [List.foldl_cons]
   refine k8 r _ (λx hx=>hs x (List.mem_cons_of_mem _ hx)) ?_ ?_
   ·by_cases h:e.1∈c/\e.2∉c
    ·rw [iD h.1 h.2];exact eT h1 h.2
    ·rw [g0 h];exact h1
   ·by_cases h:e.1∈c/\e.2∉c
    ·rw [iD h.1 h.2]
     intro k hk
     rcases List.mem_append.mp hk with z | z
     ·exact h2 k z
     ·rw [List.mem_singleton.mp z]
      exact Reach.step (h2 _ h.1) (hs e List.mem_cons_self)
    ·rw [g0 h];exact h2
theorem jQ:∀(es:List (Int×Int)) (c:List Int),(∀e∈es,¬(e.1∈c/\e.2∉c))->es.foldl cT c=c
 | [],c,_=>rfl
 | e::r,c,h=>by
   rw [List.foldl_cons,g0 (h e List.mem_cons_self)]
   exact jQ r c λx hx=>h x (List.mem_cons_of_mem _ hx)
structure jx (es:List (Int×Int)) (i:Nat) (c:List Int):Prop where
 nd:c.Nodup
 sound:∀k∈c,Reach es 0 k
 zero:0∈c
 far:(∀e∈es,¬(e.1∈c/\e.2∉c))∨i + 1<=c.length
theorem jx.len {i:Nat}(h:jx es i c):c.length<=es.length + 1:=by
 have:=et (ys:=0::es.map (·.2)) h.nd λk hk=>by
  have r:=h.sound k hk
  cases r with
  | base=>exact List.mem_cons_self
  | step r m=>exact List.mem_cons_of_mem _ (List.mem_map.mpr ⟨_,m,rfl⟩)
 simpa using this
theorem jx.next {i:Nat}(h:jx es i c):jx es (i + 1) (es.foldl cT c):=by
 obtain ⟨n1,n2⟩:=k8 es c (λ_ h=>h) h.nd h.sound
 obtain ⟨t,ht⟩:=gK es c
 refine ⟨n1,n2,by rw [ht];exact List.mem_append_left _ h.zero,?_⟩
 by_cases z:∀e∈es,¬(e.1∈c/\e.2∉c)
 ·left;rw [jQ es c z];exact z
 ·right
  have:∃e∈es,e.1∈c/\e.2∉c:=Classical.byContradiction λy=>z λe he q=>y ⟨e,he,q⟩
  have:=kZ es c this
  rcases h.far with w | w
  ·exact absurd w z
  ·omega
theorem jx.end_ (h:jx es (es.length + 1) c)(k:Int):k∈c↔Reach es 0 k:=by
 have hl:=h.len
 rcases h.far with w | w
 ·refine ⟨h.sound k,λr=>Reach.sub (P:=λk=>k∈c) h.zero (λa b ha hab=>?_) r⟩
  exact Classical.byContradiction λhb=>w _ hab ⟨ha,hb⟩
 ·omega
end
section
variable {P:Program}{w:World}{K:PySem.W.Frag}{mg:Str->Option Value}{base:Heap}{f:Addr}{fd:FuncData}
abbrev pA:Stmt:=top ou
abbrev BN:List Str:=["_law_web_here","_law_part_here","_law_numbers","_law_some","_law_come","_law_turn","_law_start","_law_end","_law_starts"]
theorem z7:aC BN ["_law_web_here","_law_part_here","_law_numbers"] (ai pA):=⟨rfl,rfl,rfl,by decide +kernel,rfl,by decide +kernel,by decide +kernel⟩
open Classical in
noncomputable def me (v:ax)(p:Int)(ns:List Int):Bool:=decide (jT v p ns)
theorem jP {v:ax}{p:Int}{ns:List Int}:me v p ns=true↔jT v p ns:=by
 classical
 unfold me
 simp
def EE:cq:=λK ps T=>∃(v:ax) (p:Int) (ns:List Int),ps=[⟨bx,v⟩,⟨ae,p⟩,⟨af ae,ns⟩]/\ba v/\0<=p/\p < (v.1.length:Int)/\ns.length=v.2.length + v.1.length/\T=bE K aR (· =me v p ns)
theorem DH (M:bO mg)(F:bH K "_law_hangs" "_law_hangs" pA f fd)(hm:mg "_law_hangs"=some (.ref f))(hb:Binds K fd ["_law_web_here","_law_part_here","_law_numbers"] []):aF P w K mg base "_law_hangs" 1 (aQ EE K):=by
 have nd:=z7.nd
 have nd1:List.Nodup [("_law_k":Str),"_law_numbers","_law_part_here","_law_web_here"]:=by decide
 have nd2:List.Nodup [("_law_start":Str),"_law_end","_law_come"]:=by decide
 refine bD F z7 hm hb (λqs T ⟨_,_,_,e,_⟩=>by rw [e];rfl) (λcdv A outer s H E qs T hr hS=>?_)
 obtain ⟨v,p,ns,rfl,hv,p0,p1,hn,rfl⟩:=hS
 have pl:=hv.pl
 have rl:=hv.rl
 have hu:(A.deeper (envOfC "_law_hangs" (ai pA) s.heap.objs.size f cdv)).units + (1 + 1) < cLine:=Nat.lt_of_le_of_lt (Nat.add_le_add_left (by decide:2<=64) _) hr.units
 change WS _ _ [.im (ay (af ae) (af aB)) v,.im ae p,.im (af ae) ns,.no,.no,.no,.no,.no,.no] _ _
 have el:((v.2.length:Int)).toNat=v.2.length:=by omega
 have rw_at:∀k,0<=k->k < (v.2.length:Int)->bW v.2 k=some (rowOf v k):=λk k0 k1=>by
  rw [eD k0 k1,List.getElem?_eq_getElem (by omega)]
  unfold rowOf
  rw [List.getD_eq_getElem?_getD,List.getElem?_eq_getElem (by omega)];rfl
 refine aj (fI 3 (own:=["_law_k"]) (fr:=["_law_numbers","_law_part_here","_law_web_here"]) (ix:=[2,1,0]) (ra:=ae) (rb:=bX) (p:=λk=>decide ((rowOf v k).1=p)&&decide (0 < ns.getD k.toNat 0)) (f:=λk=>((rowOf v k).2.1,(rowOf v k).2.2.1)) (bb (so:=ai pA) (N0:=BN) rfl rfl (λx h=>aT h) (by decide +kernel)) (bB M.range (aM M.len (aJ (aa 0 rfl))) ⟨by omega,by omega⟩)
  (λC s H ex=>aG 0) (λx=>⟨.inr rfl,.inl rfl,.inl rfl,.inl rfl,trivial⟩) (λC s H ex k hx=>by
   have kb:=bz.mp hx
   exact eX (TW.tv (dy (aA bI (dS (aP (aJ (aa 3 rfl)) (aa 0 rfl) (rw_at k (by omega) (by omega)))) (aa 2 rfl)) λ_=>dZ (aA gj (aP (aa 1 rfl) (aa 0 rfl) (cx (by omega) (by omega))) ak)))) (λC s H ex k hx _=>by
   have kb:=bz.mp hx
   exact xp (aP (aJ (aa 3 rfl)) (aa 0 rfl) (rw_at k (by omega) (by omega)))) ?_)
 rw [el]
 change WS _ _ [.im (ay (af ae) (af aB)) v,.im ae p,.im (af ae) ns,.mu bX (fQ v p ns),.no,.no,.no,.no,.no] _ _
 have gl:(fQ v p ns).length<=60:=by unfold fQ;rw [List.length_map];have:=lN v p ns;omega
 generalize hE:fQ v p ns=es at gl
 refine aj (bG 4 (r:=ae) (aN (aZ ak aY) (by show 1<=sizeLine;decide)) ?_)
 refine WS.freeze 3 rfl (aE (by omega)) ?_
 have C0:jx es 0 [0]:=⟨by simp,λk hk=>by rw [List.mem_singleton.mp hk];exact .base,by simp,.inr (by simp)⟩
 have e2:((es.length:Int) + 1).toNat=es.length + 1:=by omega
 refine aj (bS (r:=ae) (λi Γ=>∃c v5 v6 v7,Γ=[.im (ay (af ae) (af aB)) v,.im ae p,.im (af ae) ns,.im (af bX) es,.mu ae c,v5,v6,v7,.no]/\jx es i c)
  (bB M.range (bu (aM M.len (aa 3 rfl)) ak) ⟨by omega,by omega⟩) (aG 5) ⟨[0],_,_,_,rfl,C0⟩ ?_ ?_)
 ·rintro i x Γ hx ⟨c,v5,v6,v7,rfl,hc⟩
  have cl:=hc.next.len
  refine ao (bS (r:=bX) (λj Γ=>∃v6 v7,Γ=[.im (ay (af ae) (af aB)) v,.im ae p,.im (af ae) ns,.im (af bX) es,.mu ae ((es.take j).foldl cT c),.im ae x,v6,v7,.no])
   (bj (aa 3 rfl)) (dC 6 7) ⟨_,_,rfl⟩ ?_ ?_)
  ·rintro j e Γ he ⟨v6,v7,rfl⟩
   have tk:(es.take (j + 1)).foldl cT c=cT ((es.take j).foldl cT c) e:=by rw [List.take_succ,he,List.foldl_append];rfl
   have le:((es.take j).foldl cT c).length<=es.length + 1:=by
    obtain ⟨t,ht⟩:=gK (es.drop j) ((es.take j).foldl cT c)
    rw [← List.foldl_append,List.take_append_drop] at ht
    have:=congrArg List.length ht
    rw [List.length_append] at this
    omega
   generalize (es.take j).foldl cT c=d at tk le
   refine ao (bh (TW.tv (dy (mM 4 false (aa 6 rfl) rfl) λ_=>dZ (mM 4 true (aa 7 rfl) rfl))) (λh=>?_) (λh=>aV ?_))
   ·have h:(decide (e.1∈d)&& !decide (e.2∈d))=true:=h
    refine ao (cw 4 (aa 7 rfl) rfl rfl (Nat.lt_of_le_of_lt (show d.length<=100 by omega) (by decide)) ?_)
    refine ⟨.im ae e.1,.im ae e.2,?_⟩
    rw [tk];unfold cT;rw [if_pos h];rfl
   ·have h:(decide (e.1∈d)&& !decide (e.2∈d))=false:=h
    refine ⟨.im ae e.1,.im ae e.2,?_⟩
    rw [tk];unfold cT;rw [if_neg (by rw [h];decide)];rfl
  ·rintro Γ ⟨v6,v7,rfl⟩
   rw [List.take_length]
   exact ⟨_,_,_,_,rfl,hc.next⟩
 ·rintro Γ ⟨c,v5,v6,v7,rfl,hc⟩
  rw [au,e2] at hc
  have cl:=hc.len
  have hmem:=hc.end_
  refine WS.freeze 4 rfl (aE (by omega)) ?_
  refine aj (bo 8 (aP (aa 2 rfl) (bu (aM M.len (aJ (aa 0 rfl))) (aa 1 rfl)) (cx (by omega) (by omega))) ?_)
  have ep:((v.2.length:Int) + p).toNat=v.2.length + p.toNat:=by omega
  rw [ep]
  refine ao (bg (gA (bZ bI (aM M.len (bc.im (bN (own:=["_law_start","_law_end"]) (fr:=["_law_come"]) (ix:=[4]) (ra:=bX) (rb:=ae) (p:=λe=> !decide (e.1∈c)) (f:=λe=>e.1) (bb (so:=ai pA) (N0:=BN) rfl rfl (λx h=>aT h) (by decide +kernel)) (bj (aa 3 rfl))
   (λC s H ex=>dC 0 1) (λx=>⟨.inr rfl,.inr rfl,.inl rfl,trivial⟩) (λC s H ex x hx=>eX (aA zC (aa 0 rfl) (aa 2 rfl))) (λC s H ex x hx _=>aa 0 rfl)))) ak) (λ_=>fR (xB (bZ gj (aa 8 rfl) ak) λ_=>fR (bZ (yx (r:=bX) (nc eq_int eq_int (k:=1) (by decide) (by decide)) hu) (aa 3 rfl) (bc.im (aN aY (by decide))))))) ?_)
  subst hE
  rw [Bool.eq_iff_iff,jP]
  simp only [Bool.and_eq_true,Bool.or_eq_true,decide_eq_true_eq,List.length_map,Int.natCast_eq_zero,List.length_eq_zero_iff,List.filter_eq_nil_iff,Bool.not_eq_true',decide_eq_false_iff_not]
  unfold jT
  constructor
  ·rintro ⟨h1,h2⟩ k hk
   have hm:((rowOf v k).2.1,(rowOf v k).2.2.1)∈fQ v p ns:=List.mem_map.mpr ⟨k,hk,rfl⟩
   refine ⟨?_,?_⟩
   ·rcases h2 with z | z
    ·exact z
    ·rw [z] at hm;cases hm
   ·exact (hmem _).mp (Classical.not_not.mp (h1 _ hm))
  ·intro h
   refine ⟨λe he=>?_,?_⟩
   ·obtain ⟨k,hk,rfl⟩:=List.mem_map.mp he
    exact λz=>z ((hmem _).mpr (h k hk).2)
   ·cases eg:fg v p ns with
    | nil=>right;unfold fQ;rw [eg];rfl
    | cons k r=>left;exact (h k (by rw [eg];exact List.mem_cons_self)).1
end
end K1
namespace Fc
open PySem PySem.Spec L2
open PyProof.Rows hiding St
section
variable {X:Cx}{Γ Γ1 Γ2 Γ3:Ga}{α β γ δ:Type}{N:Ga->Prop}{T:RT}
theorem xq {x:Bool}{xs:List Bool}:fP X .NotIn aR (af aR) x xs (!decide (x∈xs)):=⟨_,ie,λR H v u Q s e1 e2 q=>by
 cases e1
 obtain ⟨a,vs,rfl,hq,p,_⟩:=e2
 have e:=je p
 subst e
 exact ⟨a,_,rfl,.inl (aL.of (s _ _ hq)),rfl,l8 xs,by rw [if_pos rfl,nD];exact q⟩⟩
end
end Fc
namespace K1
open PySem L2 Fc
open PySem.Spec hiding Row
open PyProof.Rows hiding St
open PySem.Builtin.Int (intBits)
theorem qZ:∀(xs ts:List Int),xs.length=ts.length->((ups 0 ts.length).map λk=>xs.getD k.toNat 0 * ts.getD k.toNat 0).sum=dot xs ts:=by
 intro xs ts h
 induction xs generalizing ts with
 | nil=>cases ts with
   | nil=>rfl
   | cons _ _=>simp at h
 | cons a r ih=>
   cases ts with
   | nil=>simp at h
   | cons b s=>
     have:=ih s (by simpa using h)
     have e:ups 0 (b::s).length=0::(ups 0 s.length).map (· + 1):=by
      unfold ups
      rw [List.length_cons,List.range_succ_eq_map,List.map_cons,List.map_map,List.map_map]
      congr 1
     rw [e,List.map_cons,List.sum_cons,List.map_map]
     show a * b + _=a * b + dot r s
     rw [← this]
     congr 2
     apply List.map_congr_left
     intro k hk
     have:=bz.mp hk
     simp only [Function.comp]
     rw [show (k + 1).toNat=k.toNat + 1 by omega]
     simp
section
variable {P:Program}{w:World}{K:PySem.W.Frag}{mg:Str->Option Value}{base:Heap}{f:Addr}{fd:FuncData}
abbrev rK:Stmt:=top j7
abbrev AU:List Str:=["_law_web_here","_law_numbers","_law_sides"]
theorem Bb:aC AU ["_law_web_here","_law_numbers"] (ai rK):=⟨rfl,rfl,rfl,by decide +kernel,rfl,by decide +kernel,by decide +kernel⟩
def Fs:cq:=λK ps T=>∃(v:ax) (ns:List Int),ps=[⟨bx,v⟩,⟨af ae,ns⟩]/\ba v/\T=bE K aR (· =de v ns)
theorem D1 (M:bO mg)(CE:aF P w K mg base "_law_every" 1 (aQ Ft K))(CH:aF P w K mg base "_law_hangs" 1 (aQ EE K))(F:bH K "_law_are_counts" "_law_are_counts" rK f fd)(hm:mg "_law_are_counts"=some (.ref f))(hb:Binds K fd ["_law_web_here","_law_numbers"] []):aF P w K mg base "_law_are_counts" 2 (aQ Fs K):=by
 have nd:=Bb.nd
 have nd1:List.Nodup [("_law_k":Str),"_law_numbers","_law_sides"]:=by decide
 have nd2:List.Nodup [("_law_part_here":Str),"_law_numbers","_law_web_here"]:=by decide
 refine bD F Bb hm hb (λqs T ⟨_,_,e,_⟩=>by rw [e];rfl) (λcdv A outer s H E qs T hr hS=>?_)
 obtain ⟨v,ns,rfl,hv,rfl⟩:=hS
 have pl:=hv.pl
 have rl:=hv.rl
 change WS _ _ [.im (ay (af ae) (af aB)) v,.im (af ae) ns,.no] _ _
 by_cases hn:(ns.length:Int)=(v.2.length:Int) + (v.1.length:Int)
 case neg=>
  have hd:decide ((ns.length:Int)=(v.2.length:Int) + (v.1.length:Int))=false:=decide_eq_false hn
  refine aj (bh (TV.cast (TW.tv (dA (y:=false) (aA ip (aM M.len (aa 1 rfl)) (bu (aM M.len (aJ (aa 0 rfl))) (aM M.len (bQ (aa 0 rfl))))) (λh=>by rw [hd] at h;cases h))) (show _=true by rw [hd];rfl)) (λ_=>?_) (λh=>by cases h))
  refine ao (bg dv ?_)
  unfold de
  rw [hd];rfl
 have hd:decide ((ns.length:Int)=(v.2.length:Int) + (v.1.length:Int))=true:=decide_eq_true hn
 have hne:ns≠[]:=λz=>by rw [z] at hn;simp at hn;omega
 refine aj (bh (TW.tv (dA (aA ip (aM M.len (aa 1 rfl)) (bu (aM M.len (aJ (aa 0 rfl))) (aM M.len (bQ (aa 0 rfl))))) λ_=>dI (aA gm (m4 M.min (aa 1 rfl) hne) ak))) (λh=>?_) (λh=>aV ?_))
 ·refine ao (bg dv ?_)
  rw [hd] at h
  have h:decide (least ns < 0)=true:=h
  unfold de
  rw [hd,h];rfl
 rw [hd] at h
 have hl:decide (least ns < 0)=false:=h
 have en:((ns.length:Int)).toNat=ns.length:=by omega
 refine aj (bS (r:=af ae) (λi Γ=>∃v2,Γ=[.im (ay (af ae) (af aB)) v,.im (af ae) ns,v2]/\∀rel∈(eF v).take i,dot rel ns=0)
  (bj (bt CE hr (ah (aa 0 rfl) aw) ⟨v,rfl,hv,rfl⟩)) (aG 2) ⟨_,rfl,by simp⟩ ?_ ?_)
 ·rintro i rel Γ hrel ⟨v2,rfl,hz⟩
  have rm:=List.mem_of_getElem? hrel
  obtain ⟨r1,r2⟩:=lK rel rm
  refine ao (bh (aA ip (ux M.sum (bc.im (bN (own:=["_law_k"]) (fr:=["_law_numbers","_law_sides"]) (ix:=[1,2]) (ra:=ae) (rb:=ae) (p:=λ_=>true) (f:=λk=>rel.getD k.toNat 0 * ns.getD k.toNat 0) (bb (so:=ai rK) (N0:=AU) rfl rfl (λx h=>aT h) (by decide +kernel)) (bB M.range (aM M.len (aa 1 rfl)) ⟨by omega,by omega⟩)
   (λC s H ex=>aG 0) (λx=>⟨.inr rfl,.inl rfl,.inl rfl,trivial⟩) (λC s H ex x hx=>cy) (λC s H ex k hx _=>by
    have kb:=bz.mp hx
    have hm:rel.getD k.toNat 0∈rel:=by rw [List.getD_eq_getElem?_getD,List.getElem?_eq_getElem (by omega)];exact List.getElem_mem _
    have:=r2 _ hm
    exact iX (aP (aa 2 rfl) (aa 0 rfl) (cx (by omega) (by omega))) (aP (aa 1 rfl) (aa 0 rfl) (cx (by omega) (by omega))) (.inl (by omega)))))) ak) (λh=>?_) (λh=>aV ?_))
  ·rw [List.filter_eq_self.mpr (by simp),en,qZ rel ns (by omega)] at h
   have h:dot rel ns≠0:=by simpa using h
   refine ao (bg dv ?_)
   have ev:fV v ns=false:=by
    unfold fV
    rw [List.all_eq_false]
    exact ⟨rel,rm,by simpa using h⟩
   unfold de
   rw [hd,hl,ev];rfl
  ·rw [List.filter_eq_self.mpr (by simp),en,qZ rel ns (by omega)] at h
   have h:dot rel ns=0:=by simpa using h
   refine ⟨.im (af ae) rel,rfl,λq hq=>?_⟩
   rw [List.take_succ,hrel] at hq
   rcases List.mem_append.mp hq with z | z
   ·exact hz q z
   ·rw [show q=rel by simpa using z];exact h
 ·rintro Γ ⟨v2,rfl,hz⟩
  rw [List.take_length] at hz
  have ev:fV v ns=true:=by
   unfold fV
   rw [List.all_eq_true]
   exact λrel hr=>decide_eq_true (hz rel hr)
  refine ao (bg (bZ xq dv (bc.im (bN (own:=["_law_part_here"]) (fr:=["_law_numbers","_law_web_here"]) (ix:=[1,0]) (ra:=ae) (rb:=aR) (p:=λ_=>true) (f:=λp=>me v p ns) (bb (so:=ai rK) (N0:=AU) rfl rfl (λx h=>aT h) (by decide +kernel)) (bB M.range (aM M.len (bQ (aa 0 rfl))) ⟨by omega,by omega⟩)
   (λC s H ex=>aG 0) (λx=>⟨.inr rfl,.inl rfl,.inl rfl,trivial⟩) (λC s H ex x hx=>cy) (λC s H ex p hx _=>by
    have pb:=bz.mp hx
    exact bt CH hr (ah (aa 2 rfl) (ah (aa 0 rfl) (ah (aa 1 rfl) aw))) ⟨v,p,ns,rfl,hv,by omega,by omega,by omega,rfl⟩)))) ?_)
  unfold de
  rw [hd,hl,ev]
  show _=decide (jK v ns=[])
  rw [List.filter_eq_self.mpr (by simp),Bool.eq_iff_iff,Bool.not_eq_true',decide_eq_false_iff_not,decide_eq_true_iff,nB]
  constructor
  ·intro h p p0 p1
   refine jP.mp ?_
   cases e:me v p ns with
   | true=>rfl
   | false=>exact absurd (List.mem_map.mpr ⟨p,bz.mpr (by omega),e⟩) h
  ·intro h hm
   obtain ⟨p,hp,e⟩:=List.mem_map.mp hm
   have pb:=bz.mp hp
   rw [jP.mpr (h p (by omega) (by omega))] at e
   cases e
end
structure sq (K:PySem.W.Frag) (mg:Str->Option Value) (x x1 x2 x3:Str) (C:Addr):Prop where
 own:pC K mg x C
 ce:∃CE,mg "CountError"=some (.ref CE)/\PySem.W.exmOne K (.ref C) (.ref CE)=some true
 look:dF K C=true
 oth:∃C1 C2 C3,mg x1=some (.ref C1)/\mg x2=some (.ref C2)/\mg x3=some (.ref C3)/\PySem.W.kitAny K (.ref C) [.ref C1,.ref C2,.ref C3]=some false
 self:PySem.W.kitOne K (.ref C) (.ref C)=some true
 ve:mg "ValueError"=none/\PySem.W.kitOne K (.ref C) (.type "ValueError")=some true
theorem zE:bootBuiltins "ValueError"=some (.type "ValueError"):=by decide +kernel
section
variable {P:Program}{w:World}{K:PySem.W.Frag}{mg:Str->Option Value}{base:Heap}{f:Addr}{fd:FuncData}
abbrev xy:Stmt:=top lZ
abbrev nRX:List Str:=["_law_web_here","_law_numbers","_law_caught","e"]
theorem A8:aC nRX ["_law_web_here","_law_numbers"] (ai xy):=⟨rfl,rfl,rfl,by decide +kernel,rfl,by decide +kernel,by decide +kernel⟩
def Ej:cq:=λK ps T=>∃(v:ax) (ns:List Int),ps=[⟨bx,v⟩,⟨af ae,ns⟩]/\ba v/\de v ns=false/\T=bE K aR (· =true)
theorem DI {C:Addr}(M:bO mg)(X:sq K mg "NoCounts" "NoRun" "NoWay" "NoWeb" C)(CS:iJ P w K mg base "heap_of" 10 (nJ (Be C) K))(F:bH K "_law_refused" "_law_refused" xy f fd)(hm:mg "_law_refused"=some (.ref f))(hb:Binds K fd ["_law_web_here","_law_numbers"] []):aF P w K mg base "_law_refused" 11 (aQ Ej K):=by
 have nd:=A8.nd
 obtain ⟨CE,hCE,hex⟩:=X.ce
 obtain ⟨C1,C2,C3,h1,h2,h3,hk⟩:=X.oth
 refine bD F A8 hm hb (λqs T ⟨_,_,e,_⟩=>by rw [e];rfl) (λcdv A outer s H E qs T hr hS=>?_)
 obtain ⟨v,ns,rfl,hv,hn,rfl⟩:=hS
 change WS _ _ [.im (ay (af ae) (af aB)) v,.im (af ae) ns,.no,.no] _ _
 refine aj (bo 2 zh ?_)
 refine An 3 2 (ps:=[⟨bx,v⟩,⟨af ae,ns⟩]) CS hr (ah (aa 0 rfl) (ah (aa 1 rfl) aw)) ⟨v,ns,rfl,hv,λh=>(by rw [hn] at h;cases h),by rw [mn,if_neg (by rw [hn];decide)]⟩ hCE hex (λea oe hc=>?_)
 refine aj (bh (cc (zf (i:=2) List.mem_cons_self hc X.look M.isinstance rfl h1 h2 h3 hk)) (λh=>absurd h (by decide)) (λ_=>aV ?_))
 exact ao (bg (gA (y4 (i:=2) List.mem_cons_self hc X.look M.isinstance rfl X.own.bound X.self) (λ_=>fR (yZ (i:=2) List.mem_cons_self hc X.look M.isinstance rfl X.ve.1 zE X.ve.2))) rfl)
end
end K1
namespace Fc
open PySem PySem.Spec L2
open PyProof.Rows hiding St
section
variable {prog:Program}{w:World}{A:Around}{E:Value->Shared->Prop}{s:Shared}
end
section
variable {X:Cx}{Γ Γ1 Γ2 Γ3:Ga}{α β γ δ:Type}{N:Ga->Prop}{T:RT}
end
section
variable {X:Cx}{Γ Γ1 Γ2 Γ3:Ga}{α β γ δ:Type}{N:Ga->Prop}{T:RT}
end
def BW (k:Int):Value->Bool
 | .int n _=>decide (n=k)
 | _=>false
section
variable {X:Cx}{Γ Γ1 Γ2 Γ3:Ga}{α β γ δ:Type}{N:Ga->Prop}{T:RT}
def Bc:V->List V->Hp->VK->Prop:=λx vs H Q=>∃(l:Addr) (ns:List Int) (k:Int) (j:Nat),x= .ref l/\vs=[.int k]/\H l=some (.lst (ns.map V.int))/\ns[j]?=some k/\(∀m,m < j->ns[m]?≠some k)/\Q (.int (j:Nat)) H
theorem vY (hu:X.A.units + 1 < cLine):AI X "list.index" Bc:=by
 intro pins s σ H x vs v us Q I rx rv h
 obtain ⟨l,ns,k,j,rfl,rfl,hH,hj,hno,q⟩:=h
 cases rx
 obtain ⟨u,rfl,t,rfl⟩:=rv.one
 obtain ⟨hz,its,m,r1,hl,ho⟩:=I.jk hH
 have jl:j < ns.length:=(List.getElem?_eq_some_iff.mp hj).1
 have hl2:its.length=ns.length:=by rw [← hl,List.length_map]
 have at_:∀(n:Nat) (h1:n < its.length) (h2:n < ns.length),∃t',its[n]= .int ns[n] t':=λn h1 h2=>by
  obtain ⟨u,e1,t',e2⟩:=r1.get (show (ns.map V.int)[n]?=some (.int ns[n]) by rw [List.getElem?_map,List.getElem?_eq_getElem h2];rfl)
  rw [List.getElem?_eq_getElem h1] at e1
  exact ⟨t',(Option.some.inj e1).trans e2⟩
 refine call_meets PySem.F.slot_list_index ⟨_,ho,rfl⟩ PySem.F.entry_list_index (PySem.F.args_list_index_2 _ _)
  (SeqAt.list_indexAt l its.toArray m _ _ (.int k t) (BW k) j (by simpa [hl2] using jl) ?_ ?_ ?_) ⟨ho,λw hw=>?_,?_⟩
 ·have:sizeLine < 2 ^ 63 - 1:=by decide
  rw [List.length_map] at hz
  omega
 ·obtain ⟨t',e⟩:=at_ j (by omega) jl
  show BW k its[j]=true
  rw [e]
  rw [List.getElem?_eq_getElem jl] at hj
  exact decide_eq_true (Option.some.inj hj)
 ·intro n hn hnj
  obtain ⟨t',e⟩:=at_ n (by simpa using hn) (by omega)
  show BW k its[n]=false
  rw [e]
  refine decide_eq_false λz=>hno n hnj ?_
  rw [List.getElem?_eq_getElem (by omega),z]
 ·have hw:w∈its:=by simpa using hw
  obtain ⟨n,hn,rfl⟩:=List.mem_iff_getElem.mp hw
  obtain ⟨t',e⟩:=at_ n hn (by omega)
  rw [e]
  intro prog w E Q hq
  refine wpAny_eqBool_int ?_
  rw [Bool.beq_eq_decide_eq];exact hq
 ·exact ⟨.int _,H,I.tok _,⟨_,rfl⟩,q⟩
theorem w8 (i:Nat){x:Str}{e:Expr}{p1 ap cp:Pos}{ns:List Int}{k:Int}{j:Nat}(hu:X.A.units + 1 < cLine)(he:EV X e Γ ae k Γ1)(hΓ:Γ[i]?=some (.mu ae ns))(hΓ1:Γ1[i]?=some (.mu ae ns))(hj:ns[j]?=some k)(hno:∀m,m < j->ns[m]?≠some k)
 (hN:autoParam (X.N[i]?=some x) Fc.ag) (hv:autoParam (bR X.env.scope x) Fc.bq)
 (hd:autoParam ((x==("__debug__":Str))=false) Fc.av) (hcd:autoParam ((x==("__classdict__":Str))=false) Fc.av)
 (hbase:autoParam (attributeBase (.Name x p1) "index" X.env (eval (.Name x p1) X.env)=eval (.Name x p1) X.env) Fc.ag)
 (hfew:autoParam (((backTo cp (starEach [e] X.env)).all (λx=> !x.1)&&(backToKw cp (keywordEach [] X.env)).all (λx=>x.1.isSome)
  &&decide ([e].length + ([]:List Keyword).length + (if ([]:List Keyword).isEmpty then 0 else 1) < 30))=true) Fc.ag)
 (hline:autoParam ((ap.endLine==cp.line)=true) Fc.ag) (hs:autoParam (starEach [e] X.env=(false,eval e X.env)::starEach [] X.env) Fc.ag):EV X (.Call (.Attribute (.Name x p1) "index" ap) [e] [] cp) Γ ae (j:Nat) Γ1:=λσ H0 R0 H R E Q q=>by
 obtain ⟨a,vs,ea,ha,hR,pp⟩:=E.ent i _ hΓ
 refine eS (gr PySem.F.plainAttrs_list PySem.F.slot_list_index PySem.F.type_list_index (vY hu) (aU hN hv hd hcd) (aD aI bp hs) hbase hfew hline hs rfl) ?_
 refine ⟨.ref a,at_of ea,.inl ⟨rfl,vs,aL.of ha⟩,he σ H0 R0 H R E _ λv H1 R1 E1 s1 e1=>?_⟩
 obtain ⟨a',vs',ea',ha',hR',pp'⟩:=E1.ent i _ hΓ1
 rw [ea] at ea';cases ea'
 cases e1
 exact ⟨a,ns,k,j,rfl,rfl,by rw [ha',eR pp'],hj,hno,q _ _ _ E1 s1 rfl⟩
end
end Fc
namespace K1
open PySem L2 Fc
open PySem.Spec hiding Row
open PyProof.Rows hiding St
open PySem.Builtin.Int (intBits)
theorem vw {v:ax}(hv:ba v){t:Int×Int}(t0:0<=t.1)(t1:t.1 < (v.1.length:Int))(t2:0<=t.2)(t3:t.2 < v.1.getD t.1.toNat 0)(t4:t.2≠1):cA v t≠[]:=by
 obtain ⟨r0,hr0,a1,a2,a3⟩:=(pz hv t0 t1).less t.2 t2 t3 t4
 obtain ⟨k0,ek0,hk0⟩:=nO hr0
 rw [a1,a2] at hk0
 exact λe=>by rw [e] at hk0;cases hk0
theorem yS {α:Type}{xs:List α}{lo hi:Option Int}{k:α}(h:k∈cut xs lo hi):k∈xs:=by
 unfold cut at h
 exact List.mem_of_mem_drop (List.mem_of_mem_take h)
theorem oP:∀{ns:List Int} {k:Int},k∈ns->∃j:Nat,ns[j]?=some k/\∀m:Nat,m < j->ns[m]?≠some k
 | x::r,k,h=>by
   by_cases e:x=k
   ·exact ⟨0,by rw [e];rfl,λm hm=>absurd hm (by omega)⟩
   ·rcases List.mem_cons.mp h with z | z
    ·exact absurd z.symm e
    ·obtain ⟨j,h1,h2⟩:=oP z
     refine ⟨j + 1,by rw [List.getElem?_cons_succ];exact h1,λm hm=>?_⟩
     cases m with
     | zero=>simpa using e
     | succ m=>rw [List.getElem?_cons_succ];exact h2 m (by omega)
section
variable {P:Program}{w:World}{K:PySem.W.Frag}{mg:Str->Option Value}{base:Heap}{f:Addr}{fd:FuncData}
abbrev rM:Stmt:=top oy
abbrev Fn:List Str:=["_law_web_here","_law_left_here","_law_part_here","_law_here","_law_rows","_law_met","_law_some"]
theorem Aw:aC Fn ["_law_web_here","_law_left_here"] (ai rM):=⟨rfl,rfl,rfl,by decide +kernel,rfl,by decide +kernel,by decide +kernel⟩
def lR (v:ax)(n:Int)(st:List Int)(rows:List Int):Prop:=(∃m,n<=m/\m<=n + 40/\fc m st)/\(∀k∈rows,0<=k/\k < (v.2.length:Int))/\rows.length<=16
def EY:eU Int:=λK xs ps T=>∃(v:ax) (n:Int),fc n xs/\n<=1000/\ps=[⟨bx,v⟩]/\ba v/\T=λst=>bE K (af ae) (lR v n st)
theorem Du (M:bO mg)(CD:aF P w K mg base "_law_draw" 2 (fu ae mO K))(F:bH K "_law_round" "_law_round" rM f fd)(hm:mg "_law_round"=some (.ref f))(hb:Binds K fd ["_law_web_here","_law_left_here"] []):aF P w K mg base "_law_round" 3 (lp ae EY K):=by
 have nd:=Aw.nd
 have nd1:List.Nodup [("_law_k":Str),"_law_here","_law_part_here","_law_web_here"]:=by decide
 refine rg F Aw hm hb (λxs qs T ⟨_,_,_,_,e,_⟩=>by rw [e];rfl) (λcdv A outer s H E a xs q0 qs T hr hS=>?_)
 obtain ⟨v,n,hD,hn,he,hv,rfl⟩:=hS
 cases he
 have pl:=hv.pl
 have rl:=hv.rl
 have hu:∀n,n<=8->(A.deeper (envOfC "_law_round" (ai rM) s.heap.objs.size f cdv)).units + n < cLine:=λn hn=>Nat.lt_of_le_of_lt (Nat.add_le_add_left (by omega:n<=64) _) hr.units
 change WS _ _ [.im (ay (af ae) (af aB)) v,.ob (bU a ae xs),.no,.no,.no,.no,.no] _ _
 obtain ⟨p,st1,p0,p1,hD1,hS1⟩:=cV hD (by omega) (b:=(v.1.length:Int)) (by omega) (by omega)
 refine aj (bo 2 (cQ 1 CD hr (ah (aM M.len (bQ (aa 0 rfl))) aw) rfl (hS1 _)) ?_)
 have hat:bW v.1 p=some (v.1.getD p.toNat 0):=cx p0 p1
 have nb:v.1.getD p.toNat 0∈v.1:=by rw [List.getD_eq_getElem?_getD,List.getElem?_eq_getElem (by omega)];exact List.getElem_mem _
 have nb:=hv.sz _ nb
 obtain ⟨q,st2,q0,q1,hD2,hS2⟩:=cV hD1 (by omega) (b:=v.1.getD p.toNat 0) (by omega) (by omega)
 refine aj (bo 3 (cQ 1 CD hr (ah (aP (bQ (aa 0 rfl)) (aa 2 rfl) hat) aw) rfl (hS2 _)) ?_)
 refine aj (bG 4 (r:=ae) (aN aY (by decide)) ?_)
 refine aj (bG 5 (r:=ae) (aN aY (by decide)) ?_)
 have rw_at:∀k,0<=k->k < (v.2.length:Int)->bW v.2 k=some (rowOf v k):=λk k0 k1=>fE jh k0 k1
 have el:((v.2.length:Int)).toNat=v.2.length:=by omega
 refine aj (fq (λm Γ=>∃(st rows met:List Int) (q:Int) (v6:Ent),Γ=[.im (ay (af ae) (af aB)) v,.ob (bU a ae st),.im ae p,.im ae q,.mu ae rows,.mu ae met,v6]/\fc (n + 2 + met.length) st/\rows.length=met.length/\m + met.length=16/\met.Nodup/\(∀x∈met,0<=x/\x < v.1.getD p.toNat 0)/\(∀k∈rows,0<=k/\k < (v.2.length:Int))/\0<=q/\q < v.1.getD p.toNat 0) (m0:=16) ?_ ?_)
 ·exact ⟨st2,[],[],q,.no,rfl,by simpa [Int.add_assoc] using hD2,rfl,rfl,List.nodup_nil,by simp,by simp,q0,q1⟩
 ·rintro m Γ ⟨st,rows,met,q,v6,rfl,hDs,hrm,hmm,hnd,hmb,hrb,q0,q1⟩
  have ml:met.length<=16:=by omega
  by_cases hq1:q=1
  ·refine ⟨_,_,TV.cast (TW.tv (dy (y:=false) (aA ip (aa 3 rfl) ak) (λh=>absurd h (by rw [hq1];decide)))) (show _=false by rw [hq1];rfl),(λh=>by cases h),λ_=>?_⟩
   refine aj (bh (aA bI (aa 3 rfl) ak) (λh=>?_) (λh=>absurd hq1 (of_decide_eq_false h)))
   exact ao (fJ 1 (P:=λst rows=>lR v n st rows) (bc.im (aN aY (by decide))) rfl ⟨⟨_,by omega,by omega,hDs⟩,by simp,by simp⟩)
  ·have hd1:decide (q=1)=false:=decide_eq_false hq1
   by_cases hqm:q∈met
   ·have hd2:decide (q∈met)=true:=decide_eq_true hqm
    refine ⟨_,_,TV.cast (TW.tv (dy (aA ip (aa 3 rfl) ak) λ_=>dZ (mM 5 true (aa 3 rfl) rfl))) (show _=false by rw [hd1];show (true&& !decide (q∈met))=false;rw [hd2];rfl),(λh=>by cases h),λ_=>?_⟩
    refine aj (bh (aA bI (aa 3 rfl) ak) (λh=>absurd (of_decide_eq_true h) hq1) (λh=>aV ?_))
    obtain ⟨j,h1,h2⟩:=oP hqm
    refine WS.freeze 4 rfl (aE (by omega)) ?_
    refine ao (fJ 1 (P:=λst rows=>lR v n st rows) (bc.im (fD (aa 4 rfl) (gT (w8 5 (hu 1 (by decide)) (aa 3 rfl) rfl rfl h1 h2)) gU)) rfl ⟨⟨_,by omega,by omega,hDs⟩,λk hk=>hrb k ?_,?_⟩)
    ·exact yS hk
    ·exact Nat.le_trans (eP _ _ _) (by omega)
   ·have hd2:decide (q∈met)=false:=decide_eq_false hqm
    refine ⟨_,_,TV.cast (TW.tv (dy (aA ip (aa 3 rfl) ak) λ_=>dZ (mM 5 true (aa 3 rfl) rfl))) (show _=true by rw [hd1];show (true&& !decide (q∈met))=true;rw [hd2];rfl),λ_=>?_,λh=>by cases h⟩
    have hnd2:(met++[q]).Nodup:=eT hnd hqm
    have hlen2:(met++[q]).length<=16:=by
     have:=et (ys:=ups 0 (v.1.getD p.toNat 0).toNat) hnd2 λx hx=>bz.mpr (by
      rcases List.mem_append.mp hx with z | z
      ·have:=hmb x z;omega
      ·rw [List.mem_singleton.mp z];omega)
     rw [au] at this
     omega
    rw [List.length_append,List.length_singleton] at hlen2
    refine aj (cw 5 (aa 3 rfl) rfl rfl (Nat.lt_of_le_of_lt ml (by decide)) ?_)
    refine aj (fI 6 (own:=["_law_k"]) (fr:=["_law_here","_law_part_here","_law_web_here"]) (ix:=[3,2,0]) (ra:=ae) (rb:=ae) (p:=λk=>decide (((rowOf v k).1,(rowOf v k).2.1)=(p,q))) (f:=id) (bb (so:=ai rM) (N0:=Fn) rfl rfl (λx h=>aT h) (by decide +kernel)) (bB M.range (aM M.len (aJ (aa 0 rfl))) ⟨by omega,by omega⟩)
     (λC s H ex=>aG 0) (λx=>⟨.inr rfl,.inl rfl,.inl rfl,.inl rfl,trivial⟩)
     (λC s H ex x hx=>eX (aA (y:=(p,q)) (xG eq_int eq_int (hu 1 (by decide)) (hu 1 (by decide))) (lh (aP (aJ (aa 3 rfl)) (aa 0 rfl) (rw_at x (by have:=bz.mp hx;omega) (by have:=bz.mp hx;omega)))) (cg (ah (aa 2 rfl) (ah (aa 1 rfl) aw)))))
     (λC s H ex x hx _=>aa 0 rfl) ?_)
    rw [el]
    change WS _ _ [_,_,_,_,_,_,.mu ae (cA v (p,q))] _ _
    have hne:=vw (t:=(p,q)) hv p0 p1 q0 q1 hq1
    have l0:(cA v (p,q)).length<=v.2.length:=by
     unfold cA
     rw [List.length_map]
     refine Nat.le_trans (List.length_filter_le _ _) ?_
     rw [au];exact Nat.le_refl _
    have lpos:0 < (cA v (p,q)).length:=List.length_pos_iff.mpr hne
    obtain ⟨d,st3,d0,d1,hD3,hS3⟩:=cV hDs (by omega) (b:=((cA v (p,q)).length:Int)) (by omega) (by omega)
    have hatL:bW (cA v (p,q)) d=some ((cA v (p,q)).getD d.toNat 0):=cx d0 d1
    have hkm:(cA v (p,q)).getD d.toNat 0∈cA v (p,q):=by
     rw [List.getD_eq_getElem?_getD,List.getElem?_eq_getElem (by omega)];exact List.getElem_mem _
    generalize (cA v (p,q)).getD d.toNat 0=k at hatL hkm
    obtain ⟨k0,k1,k2⟩:=dm.mp hkm
    have rp:=hv.eW (fz k0 k1)
    have kp:(rowOf v k).1=p:=congrArg Prod.fst k2
    refine WS.freeze 6 rfl (aE (by omega)) ?_
    refine aj (cw 4 (aP (aa 6 rfl) (cQ 1 CD hr (ah (aM M.len (aa 6 rfl)) aw) rfl (hS3 _)) hatL) rfl rfl (Nat.lt_of_le_of_lt (show rows.length<=16 by omega) (by decide)) ?_)
    have hl2:(rows++[k])[(rows++[k]).length - 1]?=some k:=by simp
    refine ao (bo 3 (c3 (aP (aJ (aa 0 rfl)) (dh 4 (cO ak) rfl rfl (eo hl2)) (rw_at k k0 k1))) ?_)
    have e0:=rp.e0
    have en:=rp.en
    rw [kp] at en
    refine ⟨m - 1,by omega,st3,rows++[k],met++[q],(rowOf v k).2.2.1,_,rfl,?_,by simp [hrm],by rw [List.length_append,List.length_singleton];omega,hnd2,λx hx=>?_,λx hx=>?_,e0,en⟩
    ·rw [List.length_append,List.length_singleton]
     have:n + 2 + ((met.length + 1:Nat):Int)=n + 2 + (met.length:Int) + 1:=by omega
     rw [this];exact hD3
    ·rcases List.mem_append.mp hx with z | z
     ·exact hmb x z
     ·rw [List.mem_singleton.mp z];exact ⟨q0,q1⟩
    ·rcases List.mem_append.mp hx with z | z
     ·exact hrb x z
     ·rw [List.mem_singleton.mp z];exact ⟨k0,k1⟩
end
end K1
namespace Fc
open PySem PySem.Spec L2
open PyProof.Rows hiding St
section
variable {X:Cx}{Γ Γ1 Γ2 Γ3:Ga}{α β γ δ:Type}{N:Ga->Prop}{T:RT}
variable {r:Rep α}{x:Str}{pos:Pos}{xs:List α}{p p1:Pos}{tg:Expr}{p2:Pos}{bf:α->Ga->Ga}
def j3 (X:Cx)(e:Expr)(Γ:Ga){α:Type}(r:Rep α)(P:α->Prop)(Γ':Ga):Prop:=
 ∀(σ:St) (H0 R0 H R:Hp),aq X.K σ H0 R0 H R Γ->∀Q:VK,(∀v H' R' y,aq X.K σ H0 R0 H' R' Γ'->ar R R'->r.R X.K R' v y->P y->Q v H')->d6 X e σ H Q
theorem wb {S:cq}{k:Nat}{e:Expr}{es:List Expr}{ps:List Pk}{Pd:α->Prop}(C:aF X.prog X.w X.K X.mg X.base x k (aQ S X.K))(hr:bA k X.A)(ha:HA X (e::es) Γ ps Γ1)(hS:S X.K ps (bE X.K r Pd))
 (hg:autoParam (Gl X x) Fc.ag) (hdb:autoParam ((x==("__debug__":Str))=false) Fc.av) (he:autoParam (starEach (e::es) X.env=(false,eval e X.env)::starEach es X.env) Fc.ag) (hpl:autoParam ((backTo pos (starEach es X.env)).any (·.1)=false) Fc.ag):j3 X (.Call (.Name x p) (e::es) [] pos) Γ r Pd Γ1:=λσ H0 R0 H R E Q q=>
 eB C hr ha hS E (λH1 R1 v H' R' E1 s1 xx t=>by
  obtain ⟨z,e1,hz⟩:=t
  exact q v H' R' z (E1.grow xx) (s1.trans xx.r) e1 hz) hg hdb he hpl
theorem w4 (i:Nat){S:cq}{y:Str}{k:Nat}{e1 e2:Expr}{r1:Rep α}{x1:α}{r2:Rep β}{P2:β->Prop}{r:Rep γ}{Pd:β->γ->Prop}(C:aF X.prog X.w X.K X.mg X.base x k (aQ S X.K))(hr:bA k X.A)(h1:EV X e1 Γ r1 x1 Γ1)(h2:j3 X e2 Γ1 r2 P2 Γ2)(hS:∀z,P2 z->S X.K [⟨r1,x1⟩,⟨r2,z⟩] (bE X.K r (Pd z)))(h:∀z u,P2 z->Pd z u->N (Γ2.set i (.im r u)))
 (hg:autoParam (Gl X x) Fc.ag) (hdb:autoParam ((x==("__debug__":Str))=false) Fc.av) (he:autoParam (starEach [e1,e2] X.env=(false,eval e1 X.env)::starEach [e2] X.env) Fc.ag) (he2:autoParam (starEach [e2] X.env=(false,eval e2 X.env)::starEach [] X.env) Fc.ag) (hpl:autoParam ((backTo p2 (starEach [e2] X.env)).any (·.1)=false) Fc.ag)
 (hN:autoParam (X.N.Nodup) Fc.fj) (hi:autoParam (X.N[i]?=some y) Fc.ag) (hx:autoParam (Loc X.env.scope y) Fc.fi)
 (hs:autoParam (swapsWith (.Call (.Name x p) [e1,e2] [] p2) (some (.Name y p1)) pos.line X.env=pure false) Fc.ag) (hf:autoParam (X.fn y=true∨X.env.scope.names.lookup y=some .local) Fc.iy):
 W1 X (.Assign [.Name y p1] (.Call (.Name x p) [e1,e2] [] p2) pos) Γ N T:=λσ H0 R0 H R E D dn dr=>by
 obtain ⟨f,fd,pn,F,hm,hk,hb⟩:=C.ex
 refine sS (eY hN hi hx aI hs hf) (eS (eh F hr hg hm hk hb .nil gL (aD aI (aD aI bp he2) he) hdb he hpl) (h1 σ H0 R0 H R E _ λv H1 R1 E1 s1 q1=>h2 σ H0 R0 H1 R1 E1 _ λu H2 R2 z E2 s2 q2 hz=>?_))
 refine ⟨R2,_,_,E2.sub,.cons (r1.mono s2 q1) (.cons q2 .nil),hS z hz,λw H' R' xx t=>?_⟩
 obtain ⟨c,e1,hc⟩:=t
 exact dn _ H' R' _ ((E2.grow xx).set i e1) ((s1.trans s2).trans xx.r) (h z c hz hc)
theorem aq.front {K:PySem.W.Frag}{σ:St}{H0 R0 H R:Hp}{v0:V}{p0:Pk}(E0:aq K σ H0 R0 H R Γ)(h0:p0.r.R K R v0 p0.x):aq K (some v0::σ) H0 R0 H R (.im p0.r p0.x::Γ):=by
 refine ⟨E0.ext,λi e q=>?_,λi e b q w=>?_,λi j e e' b q q' w w'=>?_,?_⟩
 ·cases i with
  | zero=>simp at q;subst q;exact ⟨v0,rfl,h0⟩
  | succ i=>rw [List.getElem?_cons_succ] at q ⊢;exact E0.ent i e q
 ·cases i with
  | zero=>simp at q;subst q;cases w
  | succ i=>rw [List.getElem?_cons_succ] at q w;exact E0.nw i e b q w
 ·cases i with
  | zero=>simp at q;subst q;cases w
  | succ i=>
    cases j with
    | zero=>simp at q';subst q';cases w'
    | succ j=>rw [List.getElem?_cons_succ] at q q' w w';rw [E0.ds i j e e' b q q' w w']
 ·have:=E0.len
  simp only [List.length_cons] at this ⊢
  omega
def sQ (r:Rep α)(S:eU α)(K:PySem.W.Frag):Sp:=λvs H Q _=>∃R a ws xs v0 v1 ps T,vs=[v0,v1,.ref a]/\ar R H/\R a=none/\H a=some (.lst ws)/\PySem.Paired (r.R K R) ws xs/\eZ K R [v0,v1] ps/\S K xs ps T/\
 ∀v H' R' ws' xs',Ext (del H a) R H' R'->H' a=some (.lst ws')->R' a=none->PySem.Paired (r.R K R') ws' xs'->T xs' (del H a) v H' R'->Q v H'
theorem sx {S:eU α}{n0 n1:Str}{k:Nat}{e0:Expr}{p0:Pos}{rr:Rep β}{Pd:List α->β->Prop}(i0 j1:Nat){r0:Rep γ}{y0:γ}{r1:Rep δ}{y1:δ}(C:aF X.prog X.w X.K X.mg X.base x k (sQ r S X.K))(hr:bA k X.A)(hj:Γ[i0]?=some (.im r0 y0))(hj':Γ1[i0]?=some (.im r0 y0))(hk1:Γ[j1]?=some (.im r1 y1))(hk1':Γ1[j1]?=some (.im r1 y1))(h0:bc X e0 Γ r xs Γ1)(hS:S X.K xs [⟨r0,y0⟩,⟨r1,y1⟩] (λxs'=>bE X.K rr (Pd xs')))
 (hg:autoParam (Gl X x) Fc.ag) (hdb:autoParam ((x==("__debug__":Str))=false) Fc.av) (he:autoParam (starEach [.Name n0 p0,.Name n1 p1,e0] X.env=(false,eval (.Name n0 p0) X.env)::starEach [.Name n1 p1,e0] X.env) Fc.ag) (he2:autoParam (starEach [.Name n1 p1,e0] X.env=(false,eval (.Name n1 p1) X.env)::starEach [e0] X.env) Fc.ag) (he3:autoParam (starEach [e0] X.env=(false,eval e0 X.env)::starEach [] X.env) Fc.ag) (hpl:autoParam ((backTo p2 (starEach [.Name n1 p1,e0] X.env)).any (·.1)=false) Fc.ag)
 (hNi:autoParam (X.N[i0]?=some n0) Fc.ag) (hvi:autoParam (bR X.env.scope n0) Fc.bq) (hdi:autoParam ((n0==("__debug__":Str))=false) Fc.av) (hcdi:autoParam ((n0==("__classdict__":Str))=false) Fc.av)
 (hNj:autoParam (X.N[j1]?=some n1) Fc.ag) (hvj:autoParam (bR X.env.scope n1) Fc.bq) (hdj:autoParam ((n1==("__debug__":Str))=false) Fc.av) (hcdj:autoParam ((n1==("__classdict__":Str))=false) Fc.av):
 j3 X (.Call (.Name x p) [.Name n0 p0,.Name n1 p1,e0] [] p2) Γ rr (λz=>∃xs',Pd xs' z) Γ1:=λσ H0 R0 H R E Q q=>by
 obtain ⟨f,fd,pn,F,hm,hk,hb⟩:=C.ex
 obtain ⟨v0,ev0,_⟩:=E.ent i0 _ hj
 obtain ⟨v1,ev1,_⟩:=E.ent j1 _ hk1
 refine eS (eh F hr hg hm hk hb .nil gL (aD (aU hNi hvi hdi hcdi) (aD (aU hNj hvj hdj hcdj) (aD aI bp he3) he2) he) hdb he hpl) ⟨v0,at_of ev0,v1,at_of ev1,h0 σ H0 R0 H R E _ λa ws H1 R1 E1 s1 hp hR hf0 off pp z=>?_⟩
 obtain ⟨v0',ev0',hv0⟩:=E1.ent i0 _ hj'
 rw [ev0] at ev0';cases ev0'
 obtain ⟨v1',ev1',hv1⟩:=E1.ent j1 _ hk1'
 rw [ev1] at ev1';cases ev1'
 refine ⟨R1,a,ws,xs,v0,v1,_,_,rfl,E1.sub,hR,hp,pp,.cons hv0 (.cons hv1 .nil),hS,λv H' R' ws' xs' xx h1 h2 pq t=>?_⟩
 obtain ⟨z,e1,hz⟩:=t
 exact q v H' R' z (E1.oD off hf0 xx) (s1.trans xx.r) e1 ⟨xs',hz⟩
theorem tf {elt:Expr}{scope:Scope}{cl:List (Str×Addr)}{own fr:List Str}{ix:List Nat}{ra:Rep α}{rb:Rep β}{P:α->β->Prop}{J:It}{σ:St}{H0 R0 H1 R1:Hp}{Q:VK}(E1:aq X.K σ H0 R0 H1 R1 Γ1)(src:Src X.K J R1 ra xs)(hz:xs.length<=sizeLine)
 (hb:∀(C:Addr) (s:Shared) (H:Hp) (ex:List Addr),BG (aK X scope cl C (own++fr) s H ex) tg ra bf) (hw:∀x,Wk (bf x (cu own ix Γ1)) (cu own ix Γ1))
 (he:∀(C:Addr) (s:Shared) (H:Hp) (ex:List Addr) x,x∈xs->j3 (aK X scope cl C (own++fr) s H ex) elt (bf x (cu own ix Γ1)) rb (P x) (bf x (cu own ix Γ1)))
 (q:∀a vs zs H' R',Ext H1 R1 H' R'->H' a=none->PySem.Paired (rb.R X.K R') vs zs->PySem.Paired P xs zs->Q (.ref a) (upd H' a (.lst vs))):
 ∃W:Nat->Nat->List V->St->Hp->Prop,(∃m,W 0 m [] (eM own ix σ) H1)/\∀i m ys σ' H',W i m ys σ' H'->
  ys.length<=sizeLine/\((J.stop i H'/\∀p,H' p=none->Q (.ref p) (upd H' p (.lst ys)))∨
  (J.go i H'/\∀x H2,J.yld i H' x H2->(λv σ H Q=>∀C s Hh ex,ic (aK X scope cl C (own++fr) s Hh ex) tg v σ H Q:TG) x σ' H2 λσ2 H3=>(λσ H Q=>∀C s Hh ex,iK (aK X scope cl C (own++fr) s Hh ex) [] σ H Q:TT) σ2 H3 λb H4=>
    if b=true then (λσ H Q=>∀C s Hh ex,d6 (aK X scope cl C (own++fr) s Hh ex) elt σ H Q:TE) σ2 H4 λv H5=>∃m',m' < m/\W (i + 1) m' (ys++[v]) σ2 H5 else∃m',m' < m/\W (i + 1) m' ys σ2 H4)):=by
 refine ⟨λi m ys σ' H'=>m=xs.length - i/\i<=xs.length/\∃R' zs,aq X.K σ' H1 R1 H' R' (cu own ix Γ1)/\PySem.Paired (rb.R X.K R') ys zs/\PySem.Paired P (xs.take i) zs,⟨_,rfl,Nat.zero_le _,R1,[],lJ E1 own ix,.nil,(.nil:PySem.Paired P [] [])⟩,?_⟩
 rintro i m ys σ' H' ⟨rfl,hle,R',zs,E',pp,pq⟩
 have hys:ys.length<=sizeLine:=by
  rw [pp.length,← pq.length]
  refine Nat.le_trans ?_ hz
  rw [List.length_take];omega
 obtain ⟨sgo,sstop⟩:=src H' R' E'.ext.r E'.sub i
 refine ⟨hys,?_⟩
 by_cases hlt:i < xs.length
 ·obtain ⟨go,yl⟩:=sgo _ (List.getElem?_eq_getElem hlt)
  have hmem:xs[i]∈xs:=List.getElem_mem hlt
  have tk:(xs.take (i + 1))=xs.take i++[xs[i]]:=by rw [List.take_succ,List.getElem?_eq_getElem hlt];rfl
  refine .inr ⟨go,λv H2 hy C s Hh ex=>?_⟩
  obtain ⟨R2,x2,hr⟩:=yl v H2 hy
  refine hb C s Hh ex σ' H1 R1 H2 R2 _ v _ (E'.grow x2) hr _ λσ2 E2=>?_
  intro C s Hh ex
  refine (cy (X:=aK X scope cl C (own++fr) s Hh ex)) σ2 H1 R1 H2 R2 E2 _ λH4 R4 E4 s4=>?_
  rw [if_pos rfl]
  intro C s Hh ex
  refine he C s Hh ex _ hmem σ2 H1 R1 H4 R4 E4 _ λw H5 R5 z E5 s5 e5 hP=>?_
  refine ⟨xs.length - (i + 1),by omega,rfl,hlt,R5,zs++[z],E5.weak (hw _),?_,?_⟩
  ·exact bP (Paired.map (λ_ _=>rb.mono (x2.r.trans (s4.trans s5))) pp) (.cons e5 .nil)
  ·rw [tk];exact bP pq (.cons hP .nil)
 ·have e:i=xs.length:=by omega
  subst e
  rw [List.take_length] at pq
  exact .inl ⟨sstop (Nat.le_refl _),λa ha=>q a ys zs H' R' E'.ext ha pp pq⟩
theorem wk {elt iter:Expr}{scope:Scope}{cl:List (Str×Addr)}{own fr:List Str}{ix:List Nat}{ra:Rep α}{rb:Rep β}{P:α->β->Prop}
 (S:dq X scope cl own fr ix) (hit:IV X tg iter Γ ra xs Γ1)
 (hb:∀(C:Addr) (s:Shared) (H:Hp) (ex:List Addr),BG (aK X scope cl C (own++fr) s H ex) tg ra bf) (hw:∀x,Wk (bf x (cu own ix Γ1)) (cu own ix Γ1))
 (he:∀(C:Addr) (s:Shared) (H:Hp) (ex:List Addr) x,x∈xs->j3 (aK X scope cl C (own++fr) s H ex) elt (bf x (cu own ix Γ1)) rb (P x) (bf x (cu own ix Γ1)))
 (hc:autoParam (X.calm=true) Fc.ag) (hs:autoParam (∀x,foldedSetIterable iter X.env x=pure x) Fc.c9):l6 X (.ListComp elt [⟨tg,iter,[],0⟩] scope pos) Γ rb (λzs=>PySem.Paired P xs zs) Γ1:=by
 intro σ H0 R0 H R E Q q
 obtain ⟨wi,hi,hit⟩:=hit
 refine eS (rG (g:=λv σ H Q=>∀C s Hh ex,ic (aK X scope cl C (own++fr) s Hh ex) tg v σ H Q) (tc:=λσ H Q=>∀C s Hh ex,iK (aK X scope cl C (own++fr) s Hh ex) [] σ H Q) (te:=λσ H Q=>∀C s Hh ex,d6 (aK X scope cl C (own++fr) s Hh ex) elt σ H Q) hc S hi
  (λC s H ex=>⟨λpins s1 σ H v u Q I r h=>h C s _ ex pins s1 u I r,λpins s1 σ H Q I h=>h C s _ ex pins s1 I,λpins s1 σ H Q I h=>h C s _ ex pins s1 I⟩) hs) ?_
 refine hit σ H0 R0 H R E _ λJ H1 R1 E1 s1 hz src=>tf E1 src hz hb hw he λa vs zs H' R' xx ha pp pq=>?_
 have E2:=E1.grow xx
 exact q a vs zs _ R' (E2.grow (Ext.dW E2.sub ha _)) (s1.trans xx.r) az (E2.sub.free ha) (E2.ext.h.free ha) (E2.off ha) pp (by rw [← pq.length];exact hz) pq
theorem l6.evp {e:Expr}{P:List α->Prop}(h:l6 X e Γ r P Γ1):j3 X e Γ (af r) P Γ1:=by
 intro σ H0 R0 H R E Q q
 refine h σ H0 R0 H R E Q λa vs ys H' R' E' s1 ha hR h0 off p z hP=>?_
 have s2:ar R' (upd R' a (.lst vs)):=ar.fresh hR _
 exact q (.ref a) H' (upd R' a (.lst vs)) ys (E'.jr ha hR h0 off) (s1.trans s2) ⟨a,vs,rfl,az,Paired.map (λ_ _=>r.mono s2) p,z⟩ hP
theorem wj (i:Nat){cp:Pos}{a b:Expr}{P:List α->Prop}(ha:EV X a Γ (af r) xs Γ1)(hb:j3 X b Γ1 (af r) P Γ2)(hz:∀ys,P ys->xs.length + ys.length<=sizeLine)(h:∀ys,P ys->N (Γ2.set i (.im (af r) (xs++ys))))
 (hN:autoParam (X.N.Nodup) Fc.fj) (hi:autoParam (X.N[i]?=some x) Fc.ag) (hx:autoParam (Loc X.env.scope x) Fc.fi)
 (hs:autoParam (swapsWith (.BinOp a .Add b cp) (some (.Name x p1)) pos.line X.env=pure false) Fc.ag) (hf:autoParam (X.fn x=true∨X.env.scope.names.lookup x=some .local) Fc.iy):W1 X (.Assign [.Name x p1] (.BinOp a .Add b cp) pos) Γ N T:=λσ H0 R0 H R E D dn dr=>by
 refine sS (eY hN hi hx aI hs hf) (eS (oK vd aI aI) (ha σ H0 R0 H R E _ λv H1 R1 E1 s1 e1=>hb σ H0 R0 H1 R1 E1 _ λu H2 R2 ys E2 s2 e2 hP=>?_))
 obtain ⟨p,vs,rfl,hp,pp,z⟩:=(af r).mono s2 e1
 obtain ⟨p',ws,rfl,hp',pp',z'⟩:=e2
 refine ⟨p,p',vs,ws,rfl,rfl,E2.sub _ _ hp,E2.sub _ _ hp',by rw [pp.length,pp'.length];exact hz ys hP,λd hd=>?_⟩
 have E3:=E2.grow (Ext.dW E2.sub hd (.lst (vs++ws)))
 have hR:R2 d=none:=E2.sub.free hd
 have s3:ar R2 (upd R2 d (.lst (vs++ws))):=ar.fresh hR _
 exact dn _ _ (upd R2 d (.lst (vs++ws))) _ ((E3.jr az hR (E2.ext.h.free hd) (E2.off hd)).set (r:=af r) (x:=xs++ys) i ⟨d,vs++ws,rfl,az,Paired.map (λ_ _=>r.mono s3) (bP pp pp'),by rw [List.length_append];exact hz ys hP⟩) ((s1.trans s2).trans s3) (h ys hP)
def Ew (X:Cx)(tg iter:Expr)(Γ:Ga){α:Type}(r:Rep α)(P:List α->Ga->Prop):Prop:=
 ∃wi,PI X tg iter wi/\∀(σ:St) (H0 R0 H R:Hp),aq X.K σ H0 R0 H R Γ->∀Rq:It->Hp->Prop,(∀J H1 R1 xs Γ1,P xs Γ1->aq X.K σ H0 R0 H1 R1 Γ1->ar R R1->xs.length<=sizeLine->Src X.K J R1 r xs->Rq J H1)->wi σ H Rq
theorem BE {iter:Expr}{body:List Stmt}{P:List α->Ga->Prop}(I:List α->Nat->Ga->Prop)(hit:Ew X tg iter Γ r P)(hb:BG X tg r bf)(h0:∀xs Γ1,P xs Γ1->I xs 0 Γ1)
 (hstep:∀xs,(∃Γ1,P xs Γ1)->∀(i:Nat) (x:α) (Γ:Ga),xs[i]?=some x->I xs i Γ->WS X body (bf x Γ) (I xs (i + 1)) T) (hend:∀xs,(∃Γ1,P xs Γ1)->∀Γ:Ga,I xs xs.length Γ->N Γ)
 (hc:autoParam (X.calm=true) Fc.ag) (hp:PassesOwn (model X.prog X.w) X.A X.env X.xe:=by exact PassesOwn.never) (hs:autoParam (∀x,foldedSetIterable iter X.env x=pure x) Fc.c9):W1 X (.For tg iter body [] pos) Γ N T:=λσ H0 R0 H R E D dn dr=>by
 obtain ⟨wi,hi,hit⟩:=hit
 refine sS (mQ hp hc hi rh eI hs) (hit σ H0 R0 H R E _ λJ H1 R1 xs Γ1 hP E1 s1 hz src=>?_)
 have hP':∃Γ1,P xs Γ1:=⟨Γ1,hP⟩
 refine ⟨λi m σ' H'=>m=xs.length - i/\i<=xs.length/\∃R' Γ',aq X.K σ' H0 R0 H' R' Γ'/\ar R1 R'/\I xs i Γ',⟨_,rfl,Nat.zero_le _,R1,Γ1,E1,ar.refl _,h0 xs Γ1 hP⟩,?_⟩
 rintro i m σ' H' ⟨rfl,hle,R',Γ',E',s',hI⟩
 obtain ⟨sgo,sstop⟩:=src H' R' s' E'.sub i
 by_cases hlt:i < xs.length
 ·obtain ⟨go,yl⟩:=sgo _ (List.getElem?_eq_getElem hlt)
  refine .inr ⟨go,λσ' H'=>i + 1<=xs.length/\∃R' Γ',aq X.K σ' H0 R0 H' R' Γ'/\ar R1 R'/\I xs (i + 1) Γ',λσ2 H2 h=>⟨xs.length - (i + 1),by omega,rfl,h.1,h.2⟩,λv H2 hy=>?_⟩
  obtain ⟨R2,x2,hr⟩:=yl v H2 hy
  refine hb σ' H0 R0 H2 R2 Γ' v _ (E'.grow x2) hr _ λσ2 E2=>?_
  exact hstep xs hP' i _ Γ' (List.getElem?_eq_getElem hlt) hI σ2 H0 R0 H2 R2 E2 _ (λσ3 H3 R3 Γ3 E3 s3 h3=>⟨hlt,R3,Γ3,E3,s'.trans (x2.r.trans s3),h3⟩) dr
 ·have e:i=xs.length:=by omega
  subst e
  exact .inl ⟨sstop (Nat.le_refl _),dn σ' H' R' Γ' E' (s1.trans s') (hend xs hP' Γ' hI)⟩
theorem vS {H:Hp}{a:Addr}:iL H [a]=del H a:=by
 funext b
 unfold iL del
 simp
theorem tq (i0 j1:Nat){n0 n1:Str}{k:Nat}{p0:Pos}{a:Addr}{S:eU α}{rr:Rep β}{Pd:List α->List β->Prop}{r0:Rep γ}{y0:γ}(C:aF X.prog X.w X.K X.mg X.base x k (lp r S X.K))(hr:bA k X.A)(hj:Γ[i0]?=some (.im r0 y0))(hΓ:Γ[j1]?=some (.ob (bU a r xs)))(hS:S X.K xs [⟨r0,y0⟩] (λst=>bE X.K (af rr) (Pd st)))
 (hg:autoParam (Gl X x) Fc.ag) (hdb:autoParam ((x==("__debug__":Str))=false) Fc.av) (he:autoParam (starEach [.Name n0 p0,.Name n1 p1] X.env=(false,eval (.Name n0 p0) X.env)::starEach [.Name n1 p1] X.env) Fc.ag) (he2:autoParam (starEach [.Name n1 p1] X.env=(false,eval (.Name n1 p1) X.env)::starEach [] X.env) Fc.ag) (hpl:autoParam ((backTo p2 (starEach [.Name n1 p1] X.env)).any (·.1)=false) Fc.ag)
 (hNi:autoParam (X.N[i0]?=some n0) Fc.ag) (hvi:autoParam (bR X.env.scope n0) Fc.bq) (hdi:autoParam ((n0==("__debug__":Str))=false) Fc.av) (hcdi:autoParam ((n0==("__classdict__":Str))=false) Fc.av)
 (hNj:autoParam (X.N[j1]?=some n1) Fc.ag) (hvj:autoParam (bR X.env.scope n1) Fc.bq) (hdj:autoParam ((n1==("__debug__":Str))=false) Fc.av) (hcdj:autoParam ((n1==("__classdict__":Str))=false) Fc.av):
 Ew X tg (.Call (.Name x p) [.Name n0 p0,.Name n1 p1] [] p2) Γ rr (λys Γ'=>∃st,Pd st ys/\Γ'=Γ.set j1 (.ob (bU a r st))):=by
 obtain ⟨f,fd,pn,F,hm,hk,hb⟩:=C.ex
 refine ⟨_,kH (eh F hr hg hm hk hb .nil gL (aD (aU hNi hvi hdi hcdi) (aD (aU hNj hvj hdj hcdj) bp he2) he) hdb he hpl),λσ H0 R0 H R E Rq q=>?_⟩
 obtain ⟨v0,ev0,hv0⟩:=E.ent i0 _ hj
 obtain ⟨ea,⟨ws,ha,pp⟩,hR⟩:=fo (E.ent j1 _ hΓ)
 refine ⟨v0,at_of ev0,.ref a,at_of ea,R,a,ws,xs,v0,[],_,_,rfl,E.sub,hR,ha,pp,.cons hv0 .nil,hS,λv H' R' ws' st xx h1 h2 pq t=>?_⟩
 obtain ⟨ys,⟨b,us,rfl,hb1,pu,z⟩,hP⟩:=t
 have E':aq X.K σ H0 R0 H' R' (Γ.set j1 (.ob (bU a r st))):=E.xM hΓ (by show Ext (iL H [a]) R H' R';rw [vS];exact xx) (by rw [ea];exact iO h1 h2 pq) λc hc=>hc
 refine ⟨b,rfl,⟨us,aL.of (E'.sub _ _ hb1)⟩,q _ H' R' ys _ ⟨st,hP,rfl⟩ E' xx.r z λH2 R2 sR sH i=>⟨λy hy=>?_,λhi=>?_⟩⟩
 ·have hq:aL X.K H2 b us:=aL.of (sH _ _ (sR _ _ hb1))
  obtain ⟨v,hv,hr⟩:=dt pu hy
  refine ⟨⟨us,v,hq,hv⟩,λv' H3 hy=>?_⟩
  obtain ⟨rfl,hy⟩:=hy
  have:=hy us hq
  rw [hv] at this
  cases this
  exact ⟨R2,Ext.refl sH,rr.mono sR hr⟩
 ·exact ⟨us,aL.of (sH _ _ (sR _ _ hb1)),by rw [pu.length];exact hi⟩
end
section
variable {P:Program}{w:World}{K:PySem.W.Frag}{mg:Str->Option Value}{base:Heap}{α:Type}
theorem zy {r:Rep α}{S:eU α}{x qual:Str}{st:Stmt}{f:Addr}{fd:FuncData}{N ps:List Str}{k:Nat}(F:bH K x qual st f fd)(Sc:aC N ps (ai st))(hm:mg x=some (.ref f))(hb:Binds K fd ps [])(hps:ps.length=3)(len:∀xs qs T,S K xs qs T->qs.length=2)
 (hbody:∀(cdv:Value) (A:Around) (outer:List Env) (s:Shared) (H:Hp) (E:XK) (a:Addr) (xs:List α) (q0 q1:Pk) (T:List α->RT),bA k (A.deeper (envOfC qual (ai st) s.heap.objs.size f cdv))->S K xs [q0,q1] T->
  WS (cL dQ P w K mg base N qual (ai st) f cdv A outer s H E).c8 (br st) (.im q0.r q0.x:: .im q1.r q1.x:: .ob (bU a r xs)::dB [] (N.length - 3)) (λ_=>False) (mL K a r T)):aF P w K mg base x (k + 1) (sQ r S K):=by
 refine ⟨f,fd,ps,?_,hm,F.kp,hb⟩
 refine F.ok Sc (λvs H Q E h=>?_) (λcdv A outer s H vs Q E hr h=>?_)
 ·obtain ⟨R,a,ws,xs,v0,v1,qs,T,rfl,_⟩:=h
  rw [hps];rfl
 ·obtain ⟨R,a,ws,xs,v0,v1,qs,T,rfl,sR,hR,ha,pp,p,hS,q⟩:=h
  have hlen:=len xs qs T hS
  have hN:3<=N.length:=by
   have:=congrArg List.length Sc.pre
   rw [List.length_take,hps] at this
   omega
  cases p with
  | @cons _ _ q0 qs h0 p=>
    cases p with
    | @cons _ _ q1 qs h1 p=>
      cases p
      obtain ⟨n0,N',rfl⟩:∃n0 N',N=n0::N':=by cases N with
       | nil=>exact absurd hN (by simp)
       | cons n N'=>exact ⟨n,N',rfl⟩
      have hN':2<=N'.length:=by simp at hN;omega
      have E0:=(k7 (N:=N') sR hR ha pp h1 .nil (by simpa using hN')).front h0
      have es:L2.start (n0::N') [v0,v1,.ref a]=some v0::L2.start N' [v1,.ref a]:=by unfold L2.start;simp
      have el:(n0::N').length - 3=N'.length - 2:=by simp
      refine ⟨_,eI,hbody cdv A outer s H E a xs q0 q1 T hr hS (L2.start (n0::N') [v0,v1,.ref a]) (del H a) R H R (by rw [es,el];exact E0) {nx:=λ_ H'=>Q .non H',rt:=Q} (λ_ _ _ _ _ _ f=>f.elim) λv H' R' xx t=>?_⟩
      obtain ⟨ws',xs',h1,h2,h3,h4⟩:=t
      exact q v H' R' ws' xs' xx h1 h2 h3 h4
end
section
variable {X:Cx}{Γ Γ1 Γ2 Γ3:Ga}{α β γ δ:Type}{N:Ga->Prop}{T:RT}
theorem wY (i:Nat){S:rV}{x y:Str}{k:Nat}{e:Expr}{es:List Expr}{p p1 p2 pos:Pos}{ps:List Pk}{Pd:List (List Int)->Prop}(C:iJ X.prog X.w X.K X.mg X.base x k (nJ S X.K))(hr:bA k X.A)(ha:HA X (e::es) Γ ps Γ1)(hS:S X.K ps (.ret (ui Pd)))(h:∀a as xss,Pd xss->N (Γ1.set i (.ob (cC a as xss))))
 (hg:autoParam (Gl X x) Fc.ag) (hdb:autoParam ((x==("__debug__":Str))=false) Fc.av) (he:autoParam (starEach (e::es) X.env=(false,eval e X.env)::starEach es X.env) Fc.ag) (hpl:autoParam ((backTo p2 (starEach es X.env)).any (·.1)=false) Fc.ag)
 (hN:autoParam (X.N.Nodup) Fc.fj) (hi:autoParam (X.N[i]?=some y) Fc.ag) (hx:autoParam (Loc X.env.scope y) Fc.fi)
 (hs:autoParam (swapsWith (.Call (.Name x p) (e::es) [] p2) (some (.Name y p1)) pos.line X.env=pure false) Fc.ag) (hf:autoParam (X.fn y=true∨X.env.scope.names.lookup y=some .local) Fc.iy):
 W1 X (.Assign [.Name y p1] (.Call (.Name x p) (e::es) [] p2) pos) Γ N T:=λσ H0 R0 H R E D dn dr=>by
 obtain ⟨f,fd,pn,F,hm,hk,hb⟩:=C.ex
 refine sS (eY hN hi hx (eh F hr hg hm hk hb .nil Dt jJ hdb he hpl) hs hf) (ha σ H0 R0 H R E _ λvs H1 R1 E1 s1 p1=>?_)
 refine ⟨R1,ps,_,E1.sub,by rw [List.append_nil];exact p1,hS,λv H' R' xx t=>?_⟩
 obtain ⟨a,as,xss,rfl,hn,h1,h2,h3,h4⟩:=t
 refine dn _ H' R' _ ((E1.grow xx).setG (en:=.ob (cC a as xss)) i ⟨⟨.ref a,rfl,rfl,h1,h2,h3⟩,λb hb=>(hn b hb).2⟩ (λb hb=>E1.ext.h.free (hn b hb).1) λb hb j e _ qj w=>?_) (s1.trans xx.r) (h a as xss h4)
 exact (Ent.dz (E1.ent j e qj) w).1 (hn b hb).1
end
end Fc
namespace K1
open PySem L2 Fc
open PySem.Spec hiding Row
open PyProof.Rows hiding St
open PySem.Builtin.Int (intBits)
theorem fK (xs ys:List Int):bK (xs++ys)=bK xs + bK ys:=by unfold bK;rw [List.map_append,List.sum_append]
theorem kA:∀{xs:List Int} {i:Nat} {y:Int},i < xs.length->bK (xs.set i y) + (xs.getD i 0).toNat=bK xs + y.toNat
 | x::xs,0,y,_=>by unfold bK;simp;omega
 | x::xs,i + 1,y,h=>by
   have ih:=kA (xs:=xs) (i:=i) (y:=y) (by simpa using h)
   unfold bK at ih ⊢
   simp only [List.set_cons_succ,List.map_cons,List.sum_cons,List.getD_cons_succ]
   omega
theorem kD:∀(k:Nat) (c:Int),bK (List.replicate k [c]).flatten=k * c.toNat
 | 0,_=>by simp [bK]
 | k + 1,c=>by
   rw [List.replicate_succ,List.flatten_cons,fK,kD k c]
   have:bK [c]=c.toNat:=by unfold bK;simp
   rw [this,Nat.add_mul,Nat.one_mul,Nat.add_comm]
theorem rR:∀xs:List Int,bK (xs.map λx=>2 * x)=2 * bK xs
 | []=>rfl
 | x::xs=>by
   have ih:=rR xs
   unfold bK at ih ⊢
   simp only [List.map_cons,List.sum_cons] at ih ⊢
   omega
theorem wW (xs:List Int)(n:Nat):bK (xs.take n)<=bK xs:=by
 have:=fK (xs.take n) (xs.drop n)
 rw [List.take_append_drop] at this
 omega
theorem oM:∀{xs:List Int} {i:Nat},(xs.getD i 0).toNat<=bK xs
 | [],i=>by simp
 | x::xs,0=>by unfold bK;simp
 | x::xs,i + 1=>by
   have ih:=oM (xs:=xs) (i:=i)
   unfold bK at ih ⊢
   simp only [List.map_cons,List.sum_cons,List.getD_cons_succ]
   omega
theorem jF (xs:List Int)(i:Nat):bK (bV xs i)<=bK xs + 1:=by
 unfold bV
 by_cases h:i < xs.length
 ·have:=kA (y:=xs.getD i 0 + 1) h
  omega
 ·rw [List.set_eq_of_length_le (by omega)];omega
theorem yU (v:ax)(xs:List Int)(k:Int):bK (ck v xs k)<=bK xs + 2:=by
 unfold ck
 split
 ·have:=jF (bV xs k.toNat) ((v.2.length:Int) + (rowOf v k).2.2.2).toNat
  have:=jF xs k.toNat
  omega
 ·have:=jF xs k.toNat
  omega
theorem pW (v:ax):∀(rows xs:List Int),bK (rows.foldl (ck v) xs)<=bK xs + 2 * rows.length
 | [],xs=>by simp
 | k::r,xs=>by
   have:=pW v r (ck v xs k)
   have:=yU v xs k
   rw [List.foldl_cons,List.length_cons]
   omega
theorem qg (v:ax):∀(heap:List (List Int)) (xs:List Int),bK (heap.foldl (cW v) xs)<=bK xs + heap.length + 2 * (heap.map List.length).sum
 | [],xs=>by simp
 | k::r,xs=>by
   have h1:=qg v r (cW v xs k)
   have h2:bK (cW v xs k)<=bK xs + 1 + 2 * k.length:=by
    unfold cW
    have:=pW v k (bV xs v.2.length)
    have:=jF xs v.2.length
    omega
   rw [List.foldl_cons,List.length_cons,List.map_cons,List.sum_cons]
   omega
theorem vA {v:ax}{heap:List (List Int)}(h:HeapOk v heap):bK (tallyF v heap)<=2000:=by
 have h1:=qg v heap (zeros v)
 have h2:bK (zeros v)=0:=by unfold zeros;rw [kD];simp
 have:=h.len
 have:=h.many
 unfold tallyF
 omega
theorem wJ {α:Type}(xs zs:List α):cut (xs++zs) none (some (xs.length:Int))=xs:=by
 have e:HT.sIx (xs++zs).length (xs++zs).length (some (xs.length:Int))=xs.length:=by
  show (if ((xs.length:Int)) < 0 then ((xs.length:Int) + ((xs++zs).length:Int)).toNat else min ((xs.length:Int)).toNat (xs++zs).length)=xs.length
  rw [if_neg (by omega),List.length_append];omega
 unfold cut
 rw [e]
 show List.drop 0 (List.take xs.length (xs++zs))=xs
 simp
def d8 (ns:List Int):Prop:=ns.length<=200/\bK ns<=20000
section
variable {P:Program}{w:World}{K:PySem.W.Frag}{mg:Str->Option Value}{base:Heap}{f:Addr}{fd:FuncData}
abbrev i4:Stmt:=top mD
abbrev rP:List Str:=["_law_web_here","_law_tally_here","_law_left_here","_law_choice","_law_at","_law_numbers","_law_turn","_law_k"]
abbrev En:List Str:=["_law_web_here","_law_tally_here","_law_left_here"]
theorem AO:aC rP En (ai i4):=⟨rfl,rfl,rfl,by decide +kernel,rfl,by decide +kernel,by decide +kernel⟩
def SCG:eU Int:=λK xs ps T=>∃(v:ax) (ts:List Int),fc 0 xs/\ps=[⟨bx,v⟩,⟨af ae,ts⟩]/\ba v/\ts.length=v.2.length + v.1.length/\bK ts<=2000/\T=λ_=>bE K (af ae) d8
theorem DZ (M:bO mg)(CD:aF P w K mg base "_law_draw" 2 (fu ae mO K))(CR:aF P w K mg base "_law_round" 3 (lp ae EY K))(F:bH K "_law_changed" "_law_changed" i4 f fd)(hm:mg "_law_changed"=some (.ref f))(hb:Binds K fd En []):aF P w K mg base "_law_changed" 4 (sQ ae SCG K):=by
 have nd:=AO.nd
 have nd1:List.Nodup [("_law_number":Str)]:=by decide
 have CD:=CD.mono (show 2<=3 by decide)
 refine zy F AO hm hb rfl (λxs qs T ⟨_,_,_,e,_⟩=>by rw [e];rfl) (λcdv A outer s H E a xs q0 q1 T hr hS=>?_)
 obtain ⟨v,ts,hD,he,hv,tl,ht,rfl⟩:=hS
 cases he
 have pl:=hv.pl
 have rl:=hv.rl
 change WS _ _ [.im (ay (af ae) (af aB)) v,.im (af ae) ts,.ob (bU a ae xs),.no,.no,.no,.no,.no] _ _
 obtain ⟨y,st1,y0,y1,hD1,hS1⟩:=cV hD (by omega) (b:=9) (by decide) (by decide)
 refine aj (bo 3 (cQ 2 CD hr (ah ak aw) rfl (hS1 _)) ?_)
 obtain ⟨at_,st2,a0,a1,hD2,hS2⟩:=cV hD1 (by omega) (b:=(ts.length:Int)) (by omega) (by omega)
 refine aj (bo 4 (cQ 2 CD hr (ah (aM M.len (aa 1 rfl)) aw) rfl (hS2 _)) ?_)
 have hat:bW ts at_=some (ts.getD at_.toNat 0):=cx a0 a1
 have fin:∀(st:List Int) (e5 v6 v7:Ent) (ns:List Int),(e5= .mu ae ns∨e5= .im (af ae) ns)->d8 ns->WS (cL dQ P w K mg base rP "_law_changed" (ai i4) f cdv A outer s H E).c8 ((br i4).drop 8) [.im (ay (af ae) (af aB)) v,.im (af ae) ts,.ob (bU a ae st),.im ae y,.im ae at_,e5,v6,v7] (λ_=>False) (mL K a ae λ_=>bE K (af ae) d8):=by
  intro st e5 v6 v7 ns h5 hn
  rcases h5 with rfl | rfl
  ·exact ao (fJ 2 (P:=λ_ ns=>d8 ns) (cI 5 rfl (aE (by have:=hn.1;omega))) rfl hn)
  ·exact ao (fJ 2 (P:=λ_ ns=>d8 ns) (aa 5 rfl) rfl hn)
 have s8:y≠8->∀(e5:Ent) (ns:List Int),(e5= .mu ae ns∨e5= .im (af ae) ns)->d8 ns->WS (cL dQ P w K mg base rP "_law_changed" (ai i4) f cdv A outer s H E).c8 ((br i4).drop 7) [.im (ay (af ae) (af aB)) v,.im (af ae) ts,.ob (bU a ae st2),.im ae y,.im ae at_,e5,.no,.no] (λ_=>False) (mL K a ae λ_=>bE K (af ae) d8):=λhy e5 ns h5 hn=>
  aj (bh (aA bI (aa 3 rfl) ak) (λh=>absurd (of_decide_eq_true h) hy) (λ_=>aV (fin st2 e5 .no .no ns h5 hn)))
 have s7:y≠7->y≠8->∀(e5:Ent) (ns:List Int),(e5= .mu ae ns∨e5= .im (af ae) ns)->d8 ns->WS (cL dQ P w K mg base rP "_law_changed" (ai i4) f cdv A outer s H E).c8 ((br i4).drop 6) [.im (ay (af ae) (af aB)) v,.im (af ae) ts,.ob (bU a ae st2),.im ae y,.im ae at_,e5,.no,.no] (λ_=>False) (mL K a ae λ_=>bE K (af ae) d8):=λhy h8 e5 ns h5 hn=>
  aj (bh (aA bI (aa 3 rfl) ak) (λh=>absurd (of_decide_eq_true h) hy) (λ_=>aV (s8 h8 e5 ns h5 hn)))
 have s6:y≠6->y≠7->y≠8->∀(e5:Ent) (ns:List Int),(e5= .mu ae ns∨e5= .im (af ae) ns)->d8 ns->WS (cL dQ P w K mg base rP "_law_changed" (ai i4) f cdv A outer s H E).c8 ((br i4).drop 5) [.im (ay (af ae) (af aB)) v,.im (af ae) ts,.ob (bU a ae st2),.im ae y,.im ae at_,e5,.no,.no] (λ_=>False) (mL K a ae λ_=>bE K (af ae) d8):=λhy h7 h8 e5 ns h5 hn=>
  aj (bh (aA bI (aa 3 rfl) ak) (λh=>absurd (of_decide_eq_true h) hy) (λ_=>aV (s7 h7 h8 e5 ns h5 hn)))
 have g1:(ts.getD at_.toNat 0).toNat<=bK ts:=oM
 refine aj (bG 5 (hU M.list (aa 1 rfl)) ?_)
 refine aj (bh (aA gm (aa 3 rfl) ak) (λh=>?_) (λh=>aV ?_))
 ·have h:y < 5:=of_decide_eq_true h
  generalize hx0:ts.getD at_.toNat 0=x0 at hat g1
  obtain ⟨z,hz,hzb⟩:∃z:Int,bW [x0 + 1,x0 - 1,0, -1,2 * x0] y=some z/\z.toNat<=5000:=by
   rcases (show y=0∨y=1∨y=2∨y=3∨y=4 by omega) with e | e | e | e | e<;>rw [e]<;>exact ⟨_,rfl,by omega⟩
  refine ao (eN 5 (aP (bc.im (aN (r:=ae) (aZ (bu (dh 5 (aa 4 rfl) rfl rfl hat) ak) (aZ (fG (dh 5 (aa 4 rfl) rfl rfl hat) ak) (aZ ak (aZ (cO ak) (aZ (iX ak (dh 5 (aa 4 rfl) rfl rfl hat) (.inl ⟨by decide,by decide⟩)) aY))))) (by show 5<=sizeLine;decide))) (aa 3 rfl) hz) (aa 4 rfl) rfl rfl (dH a0 a1) ?_)
  have hs:=kA (xs:=ts) (i:=at_.toNat) (y:=z) (by omega)
  exact aj (bh (aA bI (aa 3 rfl) ak) (λh'=>absurd (show y=5 from of_decide_eq_true h') (by omega)) (λ_=>aV (s6 (by omega) (by omega) (by omega) _ _ (.inl rfl) ⟨by rw [List.length_set];omega,by omega⟩)))
 have h:¬y < 5:=of_decide_eq_false h
 refine aj (bh (aA bI (aa 3 rfl) ak) (λh5=>?_) (λh5=>aV ?_))
 ·have h5:y=5:=of_decide_eq_true h5
  refine ao (fI 5 (own:=["_law_number"]) (fr:=[]) (ix:=[]) (ra:=ae) (rb:=ae) (p:=λ_=>true) (f:=λx=>2 * x) (bb (so:=ai i4) (N0:=rP) rfl rfl (λx h=>aT h) (by decide +kernel)) (bj (aa 1 rfl))
   (λC s H ex=>aG 0) (λx=>⟨.inr rfl,trivial⟩) (λC s H ex x hx=>cy) (λC s H ex x hx _=>iX ak (aa 0 rfl) (.inl ⟨by decide,by decide⟩)) ?_)
  refine s6 (by omega) (by omega) (by omega) _ _ (.inl rfl) ?_
  rw [List.filter_eq_self.mpr (by simp)]
  exact ⟨by rw [List.length_map];omega,by rw [rR];omega⟩
 have h5:¬y=5:=of_decide_eq_false h5
 refine aj (bh (aA bI (aa 3 rfl) ak) (λh6=>?_) (λh6=>aV ?_))
 ·have h6:y=6:=of_decide_eq_true h6
  refine ao (bG 5 (r:=ae) (i5 (bc.im (aN (aZ ak aY) (by show 1<=sizeLine;decide))) (aM M.len (aa 1 rfl)) (by omega) (by omega) (aE (by simp;omega))) ?_)
  refine s7 (by omega) (by omega) _ _ (.inl rfl) ⟨?_,by rw [kD];simp⟩
  rw [len_rep];simp;omega
 have h6:¬y=6:=of_decide_eq_false h6
 refine aj (bh (aA bI (aa 3 rfl) ak) (λh7=>?_) (λh7=>aV ?_))
 ·have h7:y=7:=of_decide_eq_true h7
  have cl:=eP ts none (some (-1))
  obtain ⟨ns,hns,hno⟩:∃ns:List Int,bW [cut ts none (some (-1)),ts++[0]] (at_ % 2)=some ns/\d8 ns:=by
   rcases (show at_ % 2=0∨at_ % 2=1 by omega) with e | e<;>rw [e]
   ·refine ⟨_,rfl,by omega,?_⟩
    rw [lC,List.dropLast_eq_take]
    have:=wW ts (ts.length - 1)
    omega
   ·refine ⟨_,rfl,by rw [List.length_append];show _ + 1<=_;omega,?_⟩
    rw [fK]
    have:bK [(0:Int)]=0:=rfl
    omega
  refine ao (bo 5 (aP (bc.im (aN (r:=af ae) (aZ (bc.im (fD (aa 1 rfl) gU (gT (cO ak)))) (aZ (bc.im (f7 (aa 1 rfl) (bc.im (aN (r:=ae) (aZ ak aY) (by show 1<=sizeLine;decide))) (aE (by show _ + 1<=_;omega)))) aY)) (by show 2<=sizeLine;decide))) (iq (aa 4 rfl) ak (by decide)) hns) ?_)
  exact s8 (by omega) _ _ (.inr rfl) hno
 have h7:¬y=7:=of_decide_eq_false h7
 have h8:y=8:=by omega
 refine aj (bh (aA bI (aa 3 rfl) ak) (λ_=>?_) (λh'=>absurd h8 (of_decide_eq_false h')))
 have sp:ts=ts.take v.2.length++ts.drop v.2.length:=(List.take_append_drop _ _).symm
 have sm:bK (ts.take v.2.length) + bK (ts.drop v.2.length)=bK ts:=by rw [← fK,List.take_append_drop]
 refine ao (bS (r:=ae) (λi Γ=>∃(st xs zs:List Int) (v6 v7:Ent),Γ=[.im (ay (af ae) (af aB)) v,.im (af ae) ts,.ob (bU a ae st),.im ae y,.im ae at_,.mu ae (xs++zs),v6,v7]/\fc (2 + 40 * (i:Int)) st/\xs.length=v.2.length/\zs.length=v.1.length/\bK xs<=2000 + 16 * i/\bK zs<=2000) (bB M.range (bu ak (iq (aa 4 rfl) ak (by decide))) ⟨by omega,by omega⟩) (aG 6) ?_ ?_ ?_)
 ·refine ⟨st2,ts.take v.2.length,ts.drop v.2.length,.no,.no,by rw [← sp];rfl,by simpa using hD2,by rw [List.length_take];omega,by rw [List.length_drop];omega,by omega,by omega⟩
 ·rintro i x Γ hx ⟨st,xs,zs,v6,v7,rfl,hDs,lx,lz,mx,mz⟩
  obtain ⟨hi,rfl⟩:=gz hx
  refine ao (BE (λrows j Γ=>∃(st' xs' zs':List Int) (v7:Ent),Γ=[.im (ay (af ae) (af aB)) v,.im (af ae) ts,.ob (bU a ae st'),.im ae y,.im ae at_,.mu ae (xs'++zs'),.im ae (0 + (i:Int)),v7]/\(∃m,m<=2 + 40 * (i:Int) + 40/\fc m st')/\xs'.length=v.2.length/\zs'.length=v.1.length/\bK xs'<=2000 + 16 * i + j/\bK zs'<=2000) (tq 0 2 (r:=ae) (rr:=ae) (Pd:=lR v (2 + 40 * (i:Int))) CR hr rfl rfl ⟨v,_,hDs,by omega,rfl,hv,rfl⟩) (aG 7) ?_ ?_ ?_)
  ·rintro rows Γ1 ⟨st',⟨⟨m,m0,m1,hDm⟩,_⟩,rfl⟩
   exact ⟨st',xs,zs,_,rfl,⟨m,m1,hDm⟩,lx,lz,by omega,mz⟩
  ·rintro rows ⟨_,st0,⟨_,hrb,hrl⟩,_⟩ j k Γ hk ⟨st',xs',zs',v7',rfl,hDm,lx',lz',mx',mz'⟩
   obtain ⟨k0,k1⟩:=hrb k (List.mem_of_getElem? hk)
   have hkx:k.toNat < xs'.length:=by omega
   have hatk:bW (xs'++zs') k=some (xs'.getD k.toNat 0):=by
    rw [eD k0 (by rw [List.length_append];omega),List.getElem?_append_left hkx,List.getElem?_eq_getElem hkx,List.getD_eq_getElem?_getD,List.getElem?_eq_getElem hkx];rfl
   have hset:=kA (xs:=xs') (i:=k.toNat) (y:=xs'.getD k.toNat 0 + 1) hkx
   refine aj (eN 5 (bu (dh 5 (aa 7 rfl) rfl rfl hatk) ak) (aa 7 rfl) rfl rfl (dH k0 (by rw [List.length_append];omega)) ?_)
   rw [List.set_append_left _ _ hkx]
   refine ao (bh (aA kn (du (aP (y:=rowOf v k) (aJ (aa 0 rfl)) (aa 7 rfl) (fE jh k0 k1))) ak) (λ_=>?_) (λ_=>aV ?_))
   ·have hcut:cut (xs'.set k.toNat (xs'.getD k.toNat 0 + 1)++zs') none (some (v.2.length:Int))=xs'.set k.toNat (xs'.getD k.toNat 0 + 1):=by
     have:=wJ (xs'.set k.toNat (xs'.getD k.toNat 0 + 1)) zs'
     rw [List.length_set,lx'] at this
     exact this
    refine WS.freeze 5 rfl (aE (by rw [List.length_append,List.length_set];omega)) ?_
    refine ao (bG 5 (r:=ae) (f7 (bc.im (fD (aa 5 rfl) gU (gT (aM M.len (aJ (aa 0 rfl)))))) (bc.im (i5 (bc.im (aN (aZ ak aY) (by show 1<=sizeLine;decide))) (aM M.len (bQ (aa 0 rfl))) (by omega) (by omega) (aE (by simp;omega)))) (aE (by rw [hcut,List.length_set,len_rep];simp;omega))) ?_)
    rw [hcut]
    refine ⟨st',_,_,_,rfl,hDm,by rw [List.length_set];omega,by rw [len_rep];simp,by omega,?_⟩
    rw [kD]
    have:((v.1.length:Int)).toNat<=4:=by omega
    have h99:((v.1.length:Int)).toNat * (99:Int).toNat<=4 * 99:=Nat.mul_le_mul this (by decide)
    omega
   ·exact ⟨st',_,_,_,rfl,hDm,by rw [List.length_set];omega,lz',by omega,mz'⟩
  ·rintro rows ⟨_,st0,⟨_,hrb,hrl⟩,_⟩ Γ ⟨st',xs',zs',v7',rfl,⟨m,m1,hDm⟩,lx',lz',mx',mz'⟩
   exact ⟨st',xs',zs',_,_,rfl,hDm.mono (by omega),lx',lz',by omega,mz'⟩
 ·rintro Γ ⟨st,xs,zs,v6,v7,rfl,hDs,lx,lz,mx,mz⟩
  rw [au] at mx
  have:=fK xs zs
  exact fin st _ _ _ (xs++zs) (.inl rfl) ⟨by rw [List.length_append];omega,by omega⟩
end
end K1
namespace Fc
open PySem PySem.Spec L2
open PyProof.Rows hiding St
theorem j3.imp {X:Cx}{Γ Γ1:Ga}{α:Type}{e:Expr}{r:Rep α}{P P':α->Prop}(h:j3 X e Γ r P Γ1)(hp:∀y,P y->P' y):j3 X e Γ r P' Γ1:=λσ H0 R0 H R E Q q=>h σ H0 R0 H R E Q λv H' R' y E' s1 e1 h1=>q v H' R' y E' s1 e1 (hp y h1)
end Fc
namespace K1
open PySem L2 Fc
open PySem.Spec hiding Row
open PyProof.Rows hiding St
open PySem.Builtin.Int (intBits)
section
variable {P:Program}{w:World}{K:PySem.W.Frag}{mg:Str->Option Value}{base:Heap}{f:Addr}{fd:FuncData}
theorem jW {α β:Type}{P:β->Prop}:∀{xs:List α} {zs:List β},PySem.Paired (λ_ z=>P z) xs zs->∀z∈zs,P z
 | _,_,.nil,z,hz=>by cases hz
 | _,_,.cons h r,z,hz=>by
   rcases List.mem_cons.mp hz with rfl | hz
   ·exact h
   ·exact jW r z hz
@[reducible] instance decWL:DecidableEq ((List Int×List Row) ⊕ List Int):=@instDecidableEqSum (List Int×List Row) (List Int) inferInstance inferInstance
abbrev i3:Stmt:=top AN
abbrev z8:List Str:=["_law_script","_law_parts","_law_most","_law_web_here","_law_tally_here","_law_listed","_law_numbers","_law_handed","_law_due","_law_right","_law_turn","_law_heap_here","_law_run_here"]
theorem Co:aC z8 ["_law_script"] (ai i3):=⟨rfl,rfl,rfl,by decide +kernel,rfl,by decide +kernel,by decide +kernel⟩
def qd:cq:=λK ps T=>∃ns:List Int,ps=[⟨cX,ns⟩]/\ns.length<=63/\(∀n∈ns,intBits n<=2 ^ 20)/\T=bE K aR (· =true)
theorem Cy {C:Addr}(M:bO mg)(CL:aF P w K mg base "_law_left" 2 (aQ ye K))(CD:aF P w K mg base "_law_draw" 2 (fu ae mO K))(C1:aF P w K mg base "_law_web" 4 (aQ EK K))(CH:aF P w K mg base "_law_heap" 4 (aQ Fx K))(CT:aF P w K mg base "_law_tally" 2 (aQ E7 K))(CG:aF P w K mg base "_law_changed" 4 (sQ ae SCG K))(C4:aF P w K mg base "_law_copy" 1 (aQ Eu K))(CQ:aF P w K mg base "_law_are_counts" 2 (aQ Fs K))(CA:aF P w K mg base "are_counts" 9 (aQ Ag K))(CX:aF P w K mg base "_law_refused" 11 (aQ Ej K))(CS:iJ P w K mg base "heap_of" 10 (nJ (Be C) K))(F:bH K "law" "law" i3 f fd):eV P w K mg base dQ 12 f fd ["_law_script"] (aQ qd K):=by
 have nd:=Co.nd
 have nd1:List.Nodup [("_law_k":Str),"_law_script","_law_tally_here","_law_web_here"]:=by decide
 have CL:=CL.mono (show 2<=11 by decide)
 have CD:=CD.mono (show 2<=11 by decide)
 have C1:=C1.mono (show 4<=11 by decide)
 have CH:=CH.mono (show 4<=11 by decide)
 have CT:=CT.mono (show 2<=11 by decide)
 have CG:=CG.mono (show 4<=11 by decide)
 have C4:=C4.mono (show 1<=11 by decide)
 have CQ:=CQ.mono (show 2<=11 by decide)
 have CA:=CA.mono (show 9<=11 by decide)
 have CS:=CS.mono (show 10<=11 by decide)
 refine AQ F Co (λqs T ⟨_,e,_⟩=>by rw [e];rfl) (λcdv A outer s H E qs T hr hS=>?_)
 obtain ⟨ns,rfl,hlen,hbits,rfl⟩:=hS
 have hu:∀n,n<=8->(A.deeper (envOfC "law" (ai i3) s.heap.objs.size f cdv)).units + n < cLine:=λn hn=>Nat.lt_of_le_of_lt (Nat.add_le_add_left (by omega:n<=64) _) hr.units
 have hu1:=hu 1 (by decide)
 have hu4:=hu 4 (by decide)
 change WS _ _ [.im cX ns,.no,.no,.no,.no,.no,.no,.no,.no,.no,.no,.no,.no] _ _
 obtain ⟨d,st,d0,d1,_,hS⟩:=cV (gW hbits 5) (by decide) (b:=2) (by decide) (by decide)
 obtain ⟨pm,most,hpm,g1,g2,g3,g4,g5,g6⟩:∃pm most:Int,bW [((4:Int),(5:Int)),(1,14)] d=some (pm,most)/\0 < pm/\pm<=4/\0<=most/\most<=14/\pm * (1 + most)<=60/\True:=by
  rcases (show d=0∨d=1 by omega) with rfl | rfl
  ·exact ⟨4,5,rfl,by decide,by decide,by decide,by decide,by decide,trivial⟩
  ·exact ⟨1,14,rfl,by decide,by decide,by decide,by decide,by decide,trivial⟩
 refine aj (xS (aP (r:=bX) (bc.im (aN (aZ (cg (ah ak (ah ak aw))) (aZ (cg (ah ak (ah ak aw))) aY)) (by show 2<=sizeLine;decide))) (sM CD hr (d9 CL hr (ah (aa 0 rfl) (ah ak aw)) ⟨_,_,rfl,by decide,rfl⟩) (za m5) (hS _)) hpm) (dC 1 2) ?_)
 refine aj (ja 3 C1 hr (ah (aa 0 rfl) (ah (aa 1 rfl) (ah (aa 2 rfl) aw))) ⟨ns,pm,most,rfl,hbits,g1,by omega,g3,by omega,rfl⟩ ?_)
 intro v hwv
 have hv:ba v:=hwv.g g2 g3 g4 g5
 have pl:=hv.pl
 have rl:=hv.rl
 refine aj (w4 4 CT hr (aa 3 rfl) (wb CH hr (ah (aa 0 rfl) (ah ak (ah (aa 3 rfl) (ah ak (ah ak aw))))) ⟨ns,6,v,4,25,rfl,hbits,by decide,hv,by decide,by decide,by decide,by decide,rfl⟩) (λheap hh=>⟨v,heap,rfl,hv,hh.run,rfl⟩) ?_)
 rintro heap _ hh rfl
 have tl:(tallyF v heap).length=v.2.length + v.1.length:=by unfold tallyF;rw [gC,gs]
 have tm:=vA hh
 generalize tallyF v heap=ts at tl tm
 refine aj (wj 5 (r:=af ae) (P:=λzs=>PySem.Paired (λ(_:Int) ns=>d8 ns) (ups 11 ((30:Int) - 11).toNat) zs) (bc.im (aN (r:=af ae) (aZ (aa 4 rfl) aY) (by show 1<=sizeLine;decide))) (l6.evp (wk (own:=["_law_k"]) (fr:=["_law_script","_law_tally_here","_law_web_here"]) (ix:=[0,4,3]) (ra:=ae) (rb:=af ae) (P:=λ(_:Int) ns=>d8 ns) (bb (so:=ai i3) (N0:=z8) rfl rfl (λx h=>aT h) (by decide +kernel)) (iC M.range ak ak ⟨by decide,by decide,by decide,by decide⟩)
  (λC s H ex=>aG 0) (λx=>⟨.inr rfl,.inl rfl,.inl rfl,.inl rfl,trivial⟩) (λC s H ex x hx=>?el))) (λzs hz=>by rw [← hz.length,au];show 1 + _<=_;decide) ?rest)
 case el=>
  have hx:0<=x:=by
   unfold ups at hx
   obtain ⟨j,_,rfl⟩:=List.mem_map.mp hx
   omega
  refine j3.imp (sx 3 2 CG hr rfl rfl rfl rfl (d9 CL hr (ah (aa 1 rfl) (ah (aa 0 rfl) aw)) ⟨ns,x,rfl,hx,rfl⟩) ⟨v,ts,gW hbits _,rfl,hv,tl,tm,rfl⟩) λz ⟨_,hz⟩=>hz
 intro zs hzs
 have hL:∀nn∈[ts]++zs,d8 nn:=λnn hn=>by
  rcases List.mem_append.mp hn with z | z
  ·rw [List.mem_singleton.mp z];exact ⟨by omega,by omega⟩
  ·exact jW hzs nn z
 generalize [ts]++zs=L at hL
 refine aj (bS (r:=af ae) (λi Γ=>∃v6 v7 v8 v9 v10 v11 v12,Γ=[.im cX ns,.im ae pm,.im ae most,.im bx v,.im (af ae) ts,.im (af (af ae)) L,v6,v7,v8,v9,v10,v11,v12]) (bj (aa 5 rfl)) (aG 6) ⟨_,_,_,_,_,_,_,rfl⟩ ?_ ?_)
 ·rintro i nn Γ hx ⟨v6,v7,v8,v9,v10,v11,v12,rfl⟩
  obtain ⟨nl,nm⟩:=hL nn (List.mem_of_getElem? hx)
  refine aj (bo 7 (bc.im (aN (r:=gZ bx (af ae)) (aZ (EV.inl (bt C4 hr (ah (aa 3 rfl) aw) ⟨v,rfl,rfl⟩)) (aZ (EV.inr (bc.im (hU M.list (aa 6 rfl)))) aY)) (by show 2<=sizeLine;decide))) ?_)
  refine aj (bo 8 (bt CQ hr (ah (aa 3 rfl) (ah (aa 6 rfl) aw)) ⟨v,nn,rfl,hv,rfl⟩) ?_)
  refine aj (bo 9 (bt CA hr (ah (EV.Ar (x:=v) (aP (aa 7 rfl) ak rfl)) (ah (EV.AH (y:=nn) (aP (aa 7 rfl) ak rfl)) aw)) ⟨v,nn,rfl,hv,rfl⟩) ?_)
  have fin:∀v10 v11 v12,WS (cL dQ P w K mg base z8 "law" (ai i3) f cdv A outer s H E).c8 ((rN ((br i3).getD 4 (.Pass ⟨0,0,0,0⟩))).drop 5) [.im cX ns,.im ae pm,.im ae most,.im bx v,.im (af ae) ts,.im (af (af ae)) L,.im (af ae) nn,.im (af (gZ bx (af ae))) [.inl v,.inr nn],.im aR (de v nn),.im aR (de v nn),v10,v11,v12]
   (λΓ=>∃v6 v7 v8 v9 v10 v11 v12,Γ=[.im cX ns,.im ae pm,.im ae most,.im bx v,.im (af ae) ts,.im (af (af ae)) L,v6,v7,v8,v9,v10,v11,v12]) (bE K aR (· =true)):=by
   intro v10 v11 v12
   refine ao (bh (aA (tL (α:=(List Int×List Row) ⊕ List Int) (r:=gZ (ay (af ae) (af aB)) (af ae)) (z5 (n:=3) (m:=1) (k:=3) (nc (eq_list eq_int) (eq_list zQ) (by decide) (by decide)) (eq_list eq_int) (by decide) (by decide)) hu4) (aa 7 rfl) (bc.im (aN (aZ (EV.inl (aa 3 rfl)) (aZ (EV.inr (aa 6 rfl)) aY)) (by show 2<=sizeLine;decide)))) (λh=>?_) (λh=>aV ?_))
   ·simp at h
   ·exact ⟨_,_,_,_,_,_,_,rfl⟩
  refine aj (bh (TW.tv (dA (cD (cc (dM M.isinstance M.bool boot_bool (aa 9 rfl) ty_bool (b:=true)))) λ_=>dI (aA Ei (aa 9 rfl) (aa 8 rfl)))) (λh=>?_) (λ_=>aV ?_))
  ·simp at h
  refine aj (bh (cc (aa 8 rfl)) (λhc=>?_) (λhc=>?_))
  ·have hc:de v nn=true:=hc
   refine ao (bS (r:=ae) (λi Γ=>∃v10 v11 v12,Γ=[.im cX ns,.im ae pm,.im ae most,.im bx v,.im (af ae) ts,.im (af (af ae)) L,.im (af ae) nn,.im (af (gZ bx (af ae))) [.inl v,.inr nn],.im aR (de v nn),.im aR (de v nn),v10,v11,v12]) (bB M.range ak ⟨by decide,by decide⟩) (aG 10) ⟨_,_,_,rfl⟩ ?_ ?_)
   ·rintro j x Γ hxj ⟨v10,v11,v12,rfl⟩
    refine aj (wY 11 (Pd:=yC v nn) CS hr (ah (EV.Ar (x:=v) (aP (aa 7 rfl) ak rfl)) (ah (EV.AH (y:=nn) (aP (aa 7 rfl) ak rfl)) aw)) ⟨v,nn,rfl,hv,λ_=>nm,by rw [mn,if_pos hc]⟩ ?_)
    rintro a as xss ⟨h1,h2,h3,h4⟩
    refine aj (bh (TV.frz (yT (i:=11) rfl (aE (by omega)) (λxs hx=>aE (by have:=h4 xs hx;omega))) (TW.tv (dA (cD (cc (dM M.isinstance M.list PyProof.Rows.boot_list (aa 11 rfl) ty_list (b:=true)))) λ_=>dI (aA (tL (r:=ae) eq_int hu1) (bt CT hr (ah (aa 3 rfl) (ah (aa 11 rfl) aw)) ⟨v,xss,rfl,hv,h2,rfl⟩) (aa 6 rfl))))) (λh=>?_) (λh=>aV ?_))
    ·rw [h1] at h;simp at h
    refine aj (AV 11 (λk Γ=>∃yss v12,Γ=[.im cX ns,.im ae pm,.im ae most,.im bx v,.im (af ae) ts,.im (af (af ae)) L,.im (af ae) nn,.im (af (gZ bx (af ae))) [.inl v,.inr nn],.im aR (de v nn),.im aR (de v nn),.im ae x,.ob (cC a as yss),v12]/\yss.length=xss.length/\∀j,k<=j->yss[j]?=xss[j]?) rfl (aG 12) ⟨xss,_,rfl,rfl,λ_ _=>rfl⟩ (λk Γ ⟨yss,v12,e,_⟩=>⟨yss,by rw [e];rfl⟩) ?_ ?_)
    ·rintro k b Γ hb ⟨yss,v12,rfl,hyl,hyj⟩
     refine λσ H0 R0 H' R E'=>?_
     have hlen':as.length=yss.length:=by
      obtain ⟨⟨_,_,_,_,hin,_⟩,_⟩:=E'.ent 11 (.ob (cC a as yss)) rfl
      exact hin.1
     have kl:k < yss.length:=by rw [← hlen'];exact (List.getElem?_eq_some_iff.mp hb).1
     obtain ⟨xs,hxs⟩:∃xs,yss[k]?=some xs:=⟨_,List.getElem?_eq_getElem kl⟩
     have hxm:xs∈xss:=by rw [hyj k (Nat.le_refl _)] at hxs;exact List.mem_of_getElem? hxs
     have xl:=h4 xs hxm
     revert σ H0 R0 H' R E'
     show WS _ _ _ _ _
     change WS _ _ [.im cX ns,.im ae pm,.im ae most,.im bx v,.im (af ae) ts,.im (af (af ae)) L,.im (af ae) nn,.im (af (gZ bx (af ae))) [.inl v,.inr nn],.im aR (de v nn),.im aR (de v nn),.im ae x,.ob (cC a as yss),.im jm b] _ _
     refine ao (su 11 12 (cO ak) rfl rfl hb hxs (Nat.lt_of_le_of_lt (show xs.length<=100000 by omega) (by decide)) ?_)
     exact ⟨_,_,rfl,by rw [List.length_set];exact hyl,λj hj=>by rw [List.getElem?_set_ne (by omega)];exact hyj j (by omega)⟩
    ·rintro Γ ⟨yss,v12,rfl,hyl,_⟩
     refine ao (g7 11 (aN aY (by decide)) rfl rfl (Nat.lt_of_le_of_lt (show yss.length<=20000 by omega) (by decide)) λb=>?_)
     exact ⟨_,_,_,rfl⟩
   ·rintro Γ ⟨v10,v11,v12,rfl⟩
    exact fin _ _ _
  ·have hc:de v nn=false:=hc
   refine ao (bh (cD (cc (bt CX hr (ah (EV.Ar (x:=v) (aP (aa 7 rfl) ak rfl)) (ah (EV.AH (y:=nn) (aP (aa 7 rfl) ak rfl)) aw)) ⟨v,nn,rfl,hv,hc,rfl⟩))) (λh=>absurd h (by decide)) (λ_=>aV ?_))
   exact fin _ _ _
 ·rintro Γ ⟨v6,v7,v8,v9,v10,v11,v12,rfl⟩
  exact ao (bg dv rfl)
end
section
variable {K:PySem.W.Frag}{mg:Str->Option Value}{h:Heap}
structure Top (K:PySem.W.Frag) (mg:Str->Option Value):Prop where
 M:bO mg
 X:∃C,sq K mg "NoCounts" "NoRun" "NoWay" "NoWeb" C
 IW:Def K mg "is_whole" xZ ["value"]
 AW:Def K mg "are_whole" rT ["values"]
 RF:Def K mg "has_row_form" x6 ["row"]
 WF:Def K mg "has_web_form" tO ["web"]
 WZ:Def K mg "has_web_sizes" uI ["web"]
 LW:Def K mg "leads_within" yg ["places","row"]
 IC:Def K mg "is_called" ue ["rows","part"]
 RE:Def K mg "reached" yh ["leads","start"]
 LO:Def K mg "lies_on_ways" qT ["rows","part","size"]
 WE:Def K mg "is_web" pD ["web"]
 NW:Def K mg "need_web" yw ["web"]
 RA:Def K mg "row_at" yz ["row","part","place"]
 PR:Def K mg "place_relation" qo ["web","part","place"]
 CR:Def K mg "call_relation" ug ["web","part"]
 RL:Def K mg "relations" xQ ["web"]
 CC:Def K mg "count_of_counts" yc ["web"]
 RS:Def K mg "relation_sum" tN ["relation","numbers"]
 EN:Def K mg "are_even" tY ["web","numbers"]
 AP:Def K mg "rows_apart" nA ["web","numbers"]
 AC:Def K mg "are_counts" vj ["web","numbers"]
 HL:Def K mg "has_left" qU ["choices","left"]
 RV:Def K mg "rows_leaving" vt ["web","part"]
 NL:Def K mg "numbers_leaving" ya ["web","part"]
 RF2:Def K mg "round_from_end" sD ["web","numbers","part"]
 OR:Def K mg "own_runs" xW ["web","numbers","part"]
 WR:Def K mg "whole_run" xR ["web","waiting","part"]
 HF:Def K mg "heap_of" uH ["web","numbers"]
 MX:Def K mg "_law_mix" xI ["_law_number","_law_k"]
 CA:Def K mg "_law_cell_at" xw ["_law_script","_law_k"]
 LF:Def K mg "_law_left" yf ["_law_script","_law_k"]
 DR:Def K mg "_law_draw" ym ["_law_left_here","_law_base"]
 PT:Def K mg "_law_part" uP ["_law_left_here","_law_most"]
 WB:Def K mg "_law_web" oi ["_law_script","_law_parts_most","_law_most"]
 CP:Def K mg "_law_copy" yu ["_law_web_here"]
 FA:Def K mg "_law_far" xK ["_law_web_here","_law_part_here"]
 LE:Def K mg "_law_leaving" p6 ["_law_web_here","_law_stack_here","_law_short","_law_fars"]
 BH:Def K mg "_law_behind" rD ["_law_web_here","_law_stack_here","_law_k"]
 RU:Def K mg "_law_run" uB ["_law_web_here","_law_left_here","_law_most"]
 HP:Def K mg "_law_heap" x9 ["_law_script","_law_at","_law_web_here","_law_most_runs","_law_most"]
 SK:Def K mg "_law_stack" rL ["_law_web_here","_law_rows"]
 TA:Def K mg "_law_tally" uS ["_law_web_here","_law_heap_here"]
 EV:Def K mg "_law_every" qS ["_law_web_here"]
 HG:Def K mg "_law_hangs" pA ["_law_web_here","_law_part_here","_law_numbers"]
 LC:Def K mg "_law_are_counts" rK ["_law_web_here","_law_numbers"]
 RN:Def K mg "_law_round" rM ["_law_web_here","_law_left_here"]
 CG:Def K mg "_law_changed" i4 ["_law_web_here","_law_tally_here","_law_left_here"]
 RX:Def K mg "_law_refused" xy ["_law_web_here","_law_numbers"]
theorem B4 {P:Program}{w:World}{base:Heap}{f:Addr}{fd:FuncData}(T:Top K mg)(F:bH K "law" "law" i3 f fd):eV P w K mg base dQ 12 f fd ["_law_script"] (aQ qd K):=by
 have M:=T.M
 obtain ⟨C,X⟩:=T.X
 obtain ⟨_,_,F1,m1,b1⟩:=T.IW
 have IW:=DW (P:=P) (w:=w) (base:=base) M F1 m1 b1
 obtain ⟨_,_,F1,m1,b1⟩:=T.AW
 have AW:=D8 (P:=P) (w:=w) (base:=base) M IW F1 m1 b1
 obtain ⟨_,_,F1,m1,b1⟩:=T.RF
 have RF:=Ds (P:=P) (w:=w) (base:=base) M AW F1 m1 b1
 obtain ⟨_,_,F1,m1,b1⟩:=T.WF
 have WF:=Dr (P:=P) (w:=w) (base:=base) M AW RF F1 m1 b1
 obtain ⟨_,_,F1,m1,b1⟩:=T.WZ
 have WZ:=DM (P:=P) (w:=w) (base:=base) M F1 m1 b1
 obtain ⟨_,_,F1,m1,b1⟩:=T.LW
 have LW:=Dm (P:=P) (w:=w) (base:=base) M F1 m1 b1
 obtain ⟨_,_,F1,m1,b1⟩:=T.IC
 have IC:=DA (P:=P) (w:=w) (base:=base) M F1 m1 b1
 obtain ⟨_,_,F1,m1,b1⟩:=T.RE
 have RE:=C8 (P:=P) (w:=w) (base:=base) F1 m1 b1
 obtain ⟨_,_,F1,m1,b1⟩:=T.LO
 have LO:=Dq (P:=P) (w:=w) (base:=base) M RE F1 m1 b1
 obtain ⟨_,_,F1,m1,b1⟩:=T.WE
 have WE:=D9 (P:=P) (w:=w) (base:=base) M WF WZ LW IC LO F1 m1 b1
 obtain ⟨_,_,F1,m1,b1⟩:=T.NW
 have NW:=Ec (P:=P) (w:=w) (base:=base) WE F1 m1 b1
 obtain ⟨_,_,F1,m1,b1⟩:=T.RA
 have RA:=Di (P:=P) (w:=w) (base:=base) F1 m1 b1
 obtain ⟨_,_,F1,m1,b1⟩:=T.PR
 have PR:=Ee (P:=P) (w:=w) (base:=base) M RA F1 m1 b1
 obtain ⟨_,_,F1,m1,b1⟩:=T.CR
 have CR:=D3 (P:=P) (w:=w) (base:=base) M F1 m1 b1
 obtain ⟨_,_,F1,m1,b1⟩:=T.RL
 have RL:=C9 (P:=P) (w:=w) (base:=base) M NW PR CR F1 m1 b1
 obtain ⟨_,_,F1,m1,b1⟩:=T.CC
 have CC:=DN (P:=P) (w:=w) (base:=base) M F1 m1 b1
 obtain ⟨_,_,F1,m1,b1⟩:=T.RS
 have RS:=Ef (P:=P) (w:=w) (base:=base) M F1 m1 b1
 obtain ⟨_,_,F1,m1,b1⟩:=T.EN
 have EN:=DG (P:=P) (w:=w) (base:=base) M RL RS F1 m1 b1
 obtain ⟨_,_,F1,m1,b1⟩:=T.AP
 have AP:=Dc (P:=P) (w:=w) (base:=base) M RE F1 m1 b1
 obtain ⟨_,_,F1,m1,b1⟩:=T.AC
 have AC:=Dv (P:=P) (w:=w) (base:=base) M NW CC AW EN AP F1 m1 b1
 obtain ⟨_,_,F1,m1,b1⟩:=T.HL
 have HL:=Ea (P:=P) (w:=w) (base:=base) M F1 m1 b1
 obtain ⟨_,_,F1,m1,b1⟩:=T.RV
 have RV:=CK (P:=P) (w:=w) (base:=base) false M F1 m1 b1
 obtain ⟨_,_,F1,m1,b1⟩:=T.NL
 have NL:=Cw (P:=P) (w:=w) (base:=base) M RV F1 m1 b1
 obtain ⟨_,_,F1,m1,b1⟩:=T.RF2
 have RF2:=zP (P:=P) (w:=w) (base:=base) M HL NL F1 m1 b1
 obtain ⟨_,_,F1,m1,b1⟩:=T.OR
 have OR:=Dh (P:=P) (w:=w) (base:=base) M RF2 F1 m1 b1
 obtain ⟨_,_,F1,m1,b1⟩:=T.WR
 have WR:=yd (P:=P) (w:=w) (base:=base) M F1 m1 b1
 obtain ⟨_,_,F1,m1,b1⟩:=T.HF
 have HF:=DL (P:=P) (w:=w) (base:=base) M X.own AC OR (WR 4) F1 m1 b1
 obtain ⟨_,_,F1,m1,b1⟩:=T.MX
 have MX:=Dg (P:=P) (w:=w) (base:=base) F1 m1 b1
 obtain ⟨_,_,F1,m1,b1⟩:=T.CA
 have CA:=Dw (P:=P) (w:=w) (base:=base) M F1 m1 b1
 obtain ⟨_,_,F1,m1,b1⟩:=T.LF
 have LF:=CY (P:=P) (w:=w) (base:=base) CA F1 m1 b1
 obtain ⟨_,_,F1,m1,b1⟩:=T.DR
 have DR:=CU (P:=P) (w:=w) (base:=base) MX F1 m1 b1
 obtain ⟨_,_,F1,m1,b1⟩:=T.PT
 have PT:=Cz (P:=P) (w:=w) (base:=base) M DR F1 m1 b1
 obtain ⟨_,_,F1,m1,b1⟩:=T.WB
 have WB:=De (P:=P) (w:=w) (base:=base) M LF DR PT F1 m1 b1
 obtain ⟨_,_,F1,m1,b1⟩:=T.CP
 have CP:=D4 (P:=P) (w:=w) (base:=base) M F1 m1 b1
 obtain ⟨_,_,F1,m1,b1⟩:=T.FA
 have FA:=CZ (P:=P) (w:=w) (base:=base) M F1 m1 b1
 obtain ⟨_,_,F1,m1,b1⟩:=T.LE
 have LE:=Cv (P:=P) (w:=w) (base:=base) M F1 m1 b1
 obtain ⟨_,_,F1,m1,b1⟩:=T.BH
 have BH:=DC (P:=P) (w:=w) (base:=base) M F1 m1 b1
 obtain ⟨_,_,F1,m1,b1⟩:=T.RU
 have RU:=C6 (P:=P) (w:=w) (base:=base) M FA LE BH DR F1 m1 b1
 obtain ⟨_,_,F1,m1,b1⟩:=T.HP
 have HP:=D7 (P:=P) (w:=w) (base:=base) M LF DR RU F1 m1 b1
 obtain ⟨_,_,F1,m1,b1⟩:=T.SK
 have SK:=DO (P:=P) (w:=w) (base:=base) M F1 m1 b1
 obtain ⟨_,_,F1,m1,b1⟩:=T.TA
 have TA:=DK (P:=P) (w:=w) (base:=base) M SK F1 m1 b1
 obtain ⟨_,_,F1,m1,b1⟩:=T.EV
 have EV:=Eg (P:=P) (w:=w) (base:=base) M F1 m1 b1
 obtain ⟨_,_,F1,m1,b1⟩:=T.HG
 have HG:=DH (P:=P) (w:=w) (base:=base) M F1 m1 b1
 obtain ⟨_,_,F1,m1,b1⟩:=T.LC
 have LC:=D1 (P:=P) (w:=w) (base:=base) M EV HG F1 m1 b1
 obtain ⟨_,_,F1,m1,b1⟩:=T.RN
 have RN:=Du (P:=P) (w:=w) (base:=base) M DR F1 m1 b1
 obtain ⟨_,_,F1,m1,b1⟩:=T.CG
 have CG:=DZ (P:=P) (w:=w) (base:=base) M DR RN F1 m1 b1
 obtain ⟨_,_,F1,m1,b1⟩:=T.RX
 have RX:=DI (P:=P) (w:=w) (base:=base) M X HF F1 m1 b1
 exact Cy M LF DR WB HP TA CG CP LC AC RX HF F
theorem zo (KX:K.In h)(G:h.Ns mainGlobals mg){C CE C1 C2 C3:Addr}{cd:ClassData}(e1:PySem.W.nsIn K mainGlobals "NoCounts"=some (some (.ref C)))(e2:PySem.W.nsIn K mainGlobals "CountError"=some (some (.ref CE)))(e3:PySem.W.nsIn K mainGlobals "NoRun"=some (some (.ref C1)))(e4:PySem.W.nsIn K mainGlobals "NoWay"=some (some (.ref C2)))(e5:PySem.W.nsIn K mainGlobals "NoWeb"=some (some (.ref C3)))(e6:PySem.W.nsIn K mainGlobals "ValueError"=some none)
 (q1:PySem.W.excIn K C Cm "ValueError.__new__"=true) (q2:PySem.W.exmOne K (.ref C) (.ref CE)=some true) (r0:PySem.W.findIn K (.ref C) "__getattribute__"=some (some (.builtin "BaseException.__getattribute__"))) (r1:PySem.W.findIn K (.ref C) "__getattr__"=some none) (r2:PySem.W.findIn K (.ref C) "__class__"=some (some (.builtin "object.__class__"))) (r3:PySem.W.specialIn K (.builtin "object.__class__") "__get__"=some (some (.builtin "getset_descriptor.__get__"))) (r4:PySem.W.takesIn K (.builtin "object.__class__")=some true) (r5:PySem.W.mroIn K C (.type "object")=some true) (r7:PySem.W.subIn K (.ref C) (.type "BaseException")=some true) (r6:PySem.W.clsIn K C=some cd) (q4:PySem.W.kitAny K (.ref C) [.ref C1,.ref C2,.ref C3]=some false) (q5:PySem.W.kitOne K (.ref C) (.ref C)=some true) (q6:PySem.W.kitOne K (.ref C) (.type "ValueError")=some true):∃C,sq K mg "NoCounts" "NoRun" "NoWay" "NoWeb" C:=
 ⟨C,⟨PySem.W.mg_of KX G e1,q1⟩,⟨CE,PySem.W.mg_of KX G e2,q2⟩,by unfold dF;rw [r0,r1,r2,r3,r4,r5,r7,r6];rfl,⟨C1,C2,C3,PySem.W.mg_of KX G e3,PySem.W.mg_of KX G e4,PySem.W.mg_of KX G e5,q4⟩,q5,PySem.W.mg_none_of KX G e6,q6⟩
theorem zx (KX:K.In h)(G:h.Ns mainGlobals mg){t1 t2 t3 t4 t5 t6 t7 t8:Tok}
 (a1:PySem.W.nsIn K mainGlobals "MOST_PARTS"=some (some (.int 4 t1))) (a2:PySem.W.nsIn K mainGlobals "LEAST_PLACES"=some (some (.int 2 t2))) (a3:PySem.W.nsIn K mainGlobals "MOST_PLACES"=some (some (.int 16 t3))) (a4:PySem.W.nsIn K mainGlobals "MOST_ROWS"=some (some (.int 60 t4))) (a5:PySem.W.nsIn K mainGlobals "FIRST_PART"=some (some (.int 0 t5))) (a6:PySem.W.nsIn K mainGlobals "BEGIN"=some (some (.int 0 t6))) (a7:PySem.W.nsIn K mainGlobals "END"=some (some (.int 1 t7))) (a8:PySem.W.nsIn K mainGlobals "NO_CALL"=some (some (.int (-1) t8)))
 (b1:PySem.W.nsIn K mainGlobals "len"=some none) (b2:PySem.W.nsIn K mainGlobals "all"=some none) (b3:PySem.W.nsIn K mainGlobals "any"=some none) (b4:PySem.W.nsIn K mainGlobals "range"=some none) (b5:PySem.W.nsIn K mainGlobals "enumerate"=some none) (b6:PySem.W.nsIn K mainGlobals "isinstance"=some none) (b7:PySem.W.nsIn K mainGlobals "int"=some none) (b8:PySem.W.nsIn K mainGlobals "bool"=some none) (b9:PySem.W.nsIn K mainGlobals "list"=some none) (b10:PySem.W.nsIn K mainGlobals "tuple"=some none) (b11:PySem.W.nsIn K mainGlobals "min"=some none) (b12:PySem.W.nsIn K mainGlobals "max"=some none) (b13:PySem.W.nsIn K mainGlobals "sorted"=some none) (b14:PySem.W.nsIn K mainGlobals "sum"=some none) (b15:PySem.W.nsIn K mainGlobals "zip"=some none) (b16:PySem.W.nsIn K mainGlobals "reversed"=some none):bO mg:=
 ⟨⟨_,PySem.W.mg_of KX G a1⟩,⟨_,PySem.W.mg_of KX G a2⟩,⟨_,PySem.W.mg_of KX G a3⟩,⟨_,PySem.W.mg_of KX G a4⟩,⟨_,PySem.W.mg_of KX G a5⟩,⟨_,PySem.W.mg_of KX G a6⟩,⟨_,PySem.W.mg_of KX G a7⟩,⟨_,PySem.W.mg_of KX G a8⟩,PySem.W.mg_none_of KX G b1,PySem.W.mg_none_of KX G b2,PySem.W.mg_none_of KX G b3,PySem.W.mg_none_of KX G b4,PySem.W.mg_none_of KX G b5,PySem.W.mg_none_of KX G b6,PySem.W.mg_none_of KX G b7,PySem.W.mg_none_of KX G b8,PySem.W.mg_none_of KX G b9,PySem.W.mg_none_of KX G b10,PySem.W.mg_none_of KX G b11,PySem.W.mg_none_of KX G b12,PySem.W.mg_none_of KX G b13,PySem.W.mg_none_of KX G b14,PySem.W.mg_none_of KX G b15,PySem.W.mg_none_of KX G b16⟩
theorem B6 {l:PySem.W.OpenLaw}{w:World}{fa f:Addr}{oc kV doc pm cdv ct:Value}{od an:Option Addr}{osl:Array (Option Value)}(KX:K.In h)(G:h.Ns mainGlobals mg)(hfa:mg "law"=some (.ref fa))(T:Top K mg)
 (a:PySem.W.nsIn K mainGlobals "law"=some (some (.ref f))) (lk:K.lookup f=some ⟨oc,od,.func (PySem.W.fnOf "law" "law" (ft i3) (br i3) (ai i3) .none kV doc pm an cdv ct),osl⟩) (c:PySem.W.codeIn K cdv "law"=true) (k:PySem.W.keepIn K (.ref f)=true):
 ∃fd:FuncData,(∀(s:Shared) (v:Value),BindsTo s fd ⟨[v],[]⟩ [("_law_script",v)])/\∀base:Heap,K.In base->base.Ns mainGlobals mg->eV l.prog w K mg base dQ 12 fa fd ["_law_script"] (aQ qd K):=by
 have e:=hfa.symm.trans (PySem.W.mg_of KX G a)
 cases e
 exact ⟨PySem.W.fnOf "law" "law" (ft i3) (br i3) (ai i3) .none kV doc pm an cdv ct,λs v=>.of_eq rfl,λbase _ _=>B4 T (pR lk c k)⟩
theorem walk {l:PySem.W.OpenLaw}{q:Program}{loose:List Str}{XP:(Str->Option Value)->Heap->Prop}{YP:World->Heap->Prop}{d:DefRec}{K:Params->PySem.W.Frag}(hn:l.most=some 63)(hdf:d.params.defaults=[])
 (hY:∀(w:World) (h:Heap),YP w h->(K w.params).In h)
 (F:∀(w:World) (mg:Str->Option Value) (fa:Addr) (h:Heap),(K w.params).In h->h.Ns mainGlobals mg->mg d.name=some (.ref fa)->
  ∃fd:FuncData,(∀(s:Shared) (u:Value),BindsTo s fd ⟨[u],[]⟩ [("_law_script",u)])/\∀base:Heap,(K w.params).In base->base.Ns mainGlobals mg->eV l.prog w (K w.params) mg base dQ 12 fa fd ["_law_script"] (aQ qd (K w.params))):
 PySem.W.WalkO q loose XP YP l.row.toRowW d [] (λf vs=>PySem.call f vs):=
 L2.wO (n:=63) (k:=12) (x:="_law_script") (CX:=λ_=>dQ) (sp:=λw=>aQ qd (K w.params)) hn (by decide) hdf ⟨rfl,by decide,by decide⟩ hY F
   (λw H a ns hl hbits _ hS=>⟨H,[⟨cX,ns⟩],_,ar.refl _,.cons ⟨a,rfl,hS,hl⟩ .nil,⟨ns,rfl,hl,hbits,rfl⟩,λv H' R' _ t=>by obtain ⟨y,hy,rfl⟩:=t;exact hy⟩) λ_ _ _ _ _ z=>z
end
end K1
open PySem PySem.W PyProof.Rows
theorem PySem.W.Fast.tw3493390909947072536:True:=trivial
theorem PySem.W.Fast.tw14660997128237411936:True:=trivial
theorem PySem.W.Fast.tw14068972631028741821:True:=trivial
theorem PySem.W.Fast.tw16973476924551564083:True:=trivial
theorem PySem.W.Fast.tw8518581689609471053:True:=trivial
theorem PySem.W.Fast.tw7801563254020335628:True:=trivial
theorem PySem.W.Fast.tw6767261791498813772:True:=trivial
theorem PySem.W.Fast.tw14312592763957794681:True:=trivial
theorem PySem.W.Fast.tw11169950483289996643:True:=trivial
theorem PySem.W.Fast.tw16150843922460739190:True:=trivial
theorem PySem.W.Fast.tw8031857831248323712:True:=trivial
theorem PySem.W.Fast.tw12836182839216334109:True:=trivial
theorem PySem.W.Fast.tw1372568908675524139:True:=trivial
theorem PySem.W.Fast.tw15843468353550077446:True:=trivial
theorem PySem.W.Fast.tw2600614108748868133:True:=trivial
theorem PySem.W.Fast.tw17019104647694950701:True:=trivial
theorem PySem.W.Fast.tw9721425707507435940:True:=trivial
theorem PySem.W.Fast.tw14533275134145767588:True:=trivial
theorem PySem.W.Fast.tw8382301920502812917:True:=trivial
theorem PySem.W.Fast.tw12993697052447680264:True:=trivial
theorem PySem.W.Fast.tw10680912950643101461:True:=trivial
theorem PySem.W.Fast.tw6837566176603622535:True:=trivial
theorem PySem.W.Fast.tw16129665223486808553:True:=trivial
theorem PySem.W.Fast.tw10581614321380778861:True:=trivial
theorem PySem.W.Fast.tw4071440456538271927:True:=trivial
theorem PySem.W.Fast.tw6032070914880426941:True:=trivial
theorem PySem.W.Fast.tw7124006063103362744:True:=trivial
theorem PySem.W.Fast.tw14931596468890251260:True:=trivial
theorem PySem.W.Fast.tw3975330751355278334:True:=trivial
theorem PySem.W.Fast.tw3334431708972457612:True:=trivial
theorem PySem.W.Fast.tw5886278751038632399:True:=trivial
theorem PySem.W.Fast.tw9226493418433372333:True:=trivial
theorem PySem.W.Fast.tw10935478733140252453:True:=trivial
theorem PySem.W.Fast.tw4877231820306749749:True:=trivial
theorem PySem.W.Fast.tw2036160747186310201:True:=trivial
theorem PySem.W.Fast.tw6580981698954384031:True:=trivial
theorem PySem.W.Fast.tw12909756828580863964:True:=trivial
theorem PySem.W.Fast.tw11419399516071181610:True:=trivial
theorem PySem.W.Fast.tw3686202823411759153:True:=trivial
theorem PySem.W.Fast.tw2967744177683457914:True:=trivial
theorem PySem.W.Fast.tw2895414500632574368:True:=trivial
theorem PySem.W.Fast.tw6758471370922975169:True:=trivial
theorem PySem.W.Fast.tw17180892324409036254:True:=trivial
theorem PySem.W.Fast.tw17668178738469295286:True:=trivial
theorem PySem.W.Fast.tw12544951132452996924:True:=trivial
theorem PySem.W.Fast.tw6257757338271397675:True:=trivial
theorem PySem.W.Fast.tw16869276061156577499:True:=trivial
theorem PySem.W.Fast.tw6502815083754401759:True:=trivial
theorem PySem.W.Fast.tw6277250493377646861:True:=trivial
theorem PySem.W.Fast.tw16587374589385093718:True:=trivial
theorem PySem.W.Fast.tw3758454399366622364:True:=trivial
theorem PySem.W.Fast.tw4273187591100196608:True:=trivial
theorem PySem.W.Fast.tw6354368267810781425:True:=trivial
theorem PySem.W.Fast.tw1531165025394124274:True:=trivial
theorem PySem.W.Fast.tw6769049193526756979:True:=trivial
theorem PySem.W.Fast.tw11311610105060501691:True:=trivial
theorem PySem.W.Fast.tw16153708839916894070:True:=trivial
theorem PySem.W.Fast.tw8985718657533631912:True:=trivial
theorem PySem.W.Fast.tw804971528344413511:True:=trivial
theorem PySem.W.Fast.tw11806446730073248715:True:=trivial
set_option maxRecDepth 100000 in
set_option maxHeartbeats 0 in
theorem PySem.Challenge.cw_fewcounters_k06_whole_heaps_of_counts_holds : PySem.Challenge.rw_fewcounters_k06_whole_heaps_of_counts.Holds := by
 w_on;o_law;k_head;(case hw=>w_witness2)
 k_fill
 refine K1.walk (l:=PySem.Challenge.rw_fewcounters_k06_whole_heaps_of_counts) rfl rfl (λw h Y=>PySem.W.kIn_of Y) ?F
 case F=>
  intro w mg fa h KX G hmg
  have M:K1.bO mg:=by
   refine' K1.zx KX G ?a1 ?a2 ?a3 ?a4 ?a5 ?a6 ?a7 ?a8 ?b1 ?b2 ?b3 ?b4 ?b5 ?b6 ?b7 ?b8 ?b9 ?b10 ?b11 ?b12 ?b13 ?b14 ?b15 ?b16
   (case a1=>k_is);(case a2=>k_is);(case a3=>k_is);(case a4=>k_is);(case a5=>k_is);(case a6=>k_is);(case a7=>k_is);(case a8=>k_is);(case b1=>k_is);(case b2=>k_is);(case b3=>k_is);(case b4=>k_is);(case b5=>k_is);(case b6=>k_is);(case b7=>k_is);(case b8=>k_is);(case b9=>k_is);(case b10=>k_is);(case b11=>k_is);(case b12=>k_is);(case b13=>k_is);(case b14=>k_is);(case b15=>k_is);(case b16=>k_is)
  have DX:∃C,K1.sq (L2.aW KX) mg "NoCounts" "NoRun" "NoWay" "NoWeb" C:=by
   dsimp only [L2.aW]
   refine' K1.zo KX G ?e1 ?e2 ?e3 ?e4 ?e5 ?e6 ?q1 ?q2 ?r0 ?r1 ?r2 ?r3 ?r4 ?r5 ?r7 ?r6 ?q4 ?q5 ?q6
   (case e1=>k_is);(case e2=>k_is);(case e3=>k_is);(case e4=>k_is);(case e5=>k_is);(case e6=>k_is);(case q1=>k_exc);(case q2=>kts_exm);(case r0=>k_is);(case r1=>k_is);(case r2=>k_is);(case r3=>k_is);(case r4=>k_is);(case r5=>k_is);(case r7=>k_is);(case r6=>k_is);(case q4=>kit_is);(case q5=>kit_is);(case q6=>kit_is)
  have DIW:Fc.Def (L2.aW KX) mg "is_whole" K1.xZ ["value"]:=by
   dsimp only [L2.aW]
   refine' Fc.aX KX G ?a ?l ?c ?k ?b
   (case a=>k_is);(case l=>k_is);(case c=>k_is);(case k=>k_is);(case b=>exact λ_ _ _ _ _ _ us hl=>match us,hl with | [_],_=>rfl)
  have DAW:Fc.Def (L2.aW KX) mg "are_whole" K1.rT ["values"]:=by
   dsimp only [L2.aW]
   refine' Fc.aX KX G ?a ?l ?c ?k ?b
   (case a=>k_is);(case l=>k_is);(case c=>k_is);(case k=>k_is);(case b=>exact λ_ _ _ _ _ _ us hl=>match us,hl with | [_],_=>rfl)
  have DRF:Fc.Def (L2.aW KX) mg "has_row_form" K1.x6 ["row"]:=by
   dsimp only [L2.aW]
   refine' Fc.aX KX G ?a ?l ?c ?k ?b
   (case a=>k_is);(case l=>k_is);(case c=>k_is);(case k=>k_is);(case b=>exact λ_ _ _ _ _ _ us hl=>match us,hl with | [_],_=>rfl)
  have DWF:Fc.Def (L2.aW KX) mg "has_web_form" K1.tO ["web"]:=by
   dsimp only [L2.aW]
   refine' Fc.aX KX G ?a ?l ?c ?k ?b
   (case a=>k_is);(case l=>k_is);(case c=>k_is);(case k=>k_is);(case b=>exact λ_ _ _ _ _ _ us hl=>match us,hl with | [_],_=>rfl)
  have DWZ:Fc.Def (L2.aW KX) mg "has_web_sizes" K1.uI ["web"]:=by
   dsimp only [L2.aW]
   refine' Fc.aX KX G ?a ?l ?c ?k ?b
   (case a=>k_is);(case l=>k_is);(case c=>k_is);(case k=>k_is);(case b=>exact λ_ _ _ _ _ _ us hl=>match us,hl with | [_],_=>rfl)
  have DLW:Fc.Def (L2.aW KX) mg "leads_within" K1.yg ["places","row"]:=by
   dsimp only [L2.aW]
   refine' Fc.aX KX G ?a ?l ?c ?k ?b
   (case a=>k_is);(case l=>k_is);(case c=>k_is);(case k=>k_is);(case b=>exact λ_ _ _ _ _ _ us hl=>match us,hl with | [_,_],_=>rfl)
  have DIC:Fc.Def (L2.aW KX) mg "is_called" K1.ue ["rows","part"]:=by
   dsimp only [L2.aW]
   refine' Fc.aX KX G ?a ?l ?c ?k ?b
   (case a=>k_is);(case l=>k_is);(case c=>k_is);(case k=>k_is);(case b=>exact λ_ _ _ _ _ _ us hl=>match us,hl with | [_,_],_=>rfl)
  have DRE:Fc.Def (L2.aW KX) mg "reached" K1.yh ["leads","start"]:=by
   dsimp only [L2.aW]
   refine' Fc.aX KX G ?a ?l ?c ?k ?b
   (case a=>k_is);(case l=>k_is);(case c=>k_is);(case k=>k_is);(case b=>exact λ_ _ _ _ _ _ us hl=>match us,hl with | [_,_],_=>rfl)
  have DLO:Fc.Def (L2.aW KX) mg "lies_on_ways" K1.qT ["rows","part","size"]:=by
   dsimp only [L2.aW]
   refine' Fc.aX KX G ?a ?l ?c ?k ?b
   (case a=>k_is);(case l=>k_is);(case c=>k_is);(case k=>k_is);(case b=>exact λ_ _ _ _ _ _ us hl=>match us,hl with | [_,_,_],_=>rfl)
  have DWE:Fc.Def (L2.aW KX) mg "is_web" K1.pD ["web"]:=by
   dsimp only [L2.aW]
   refine' Fc.aX KX G ?a ?l ?c ?k ?b
   (case a=>k_is);(case l=>k_is);(case c=>k_is);(case k=>k_is);(case b=>exact λ_ _ _ _ _ _ us hl=>match us,hl with | [_],_=>rfl)
  have DNW:Fc.Def (L2.aW KX) mg "need_web" K1.yw ["web"]:=by
   dsimp only [L2.aW]
   refine' Fc.aX KX G ?a ?l ?c ?k ?b
   (case a=>k_is);(case l=>k_is);(case c=>k_is);(case k=>k_is);(case b=>exact λ_ _ _ _ _ _ us hl=>match us,hl with | [_],_=>rfl)
  have DRA:Fc.Def (L2.aW KX) mg "row_at" K1.yz ["row","part","place"]:=by
   dsimp only [L2.aW]
   refine' Fc.aX KX G ?a ?l ?c ?k ?b
   (case a=>k_is);(case l=>k_is);(case c=>k_is);(case k=>k_is);(case b=>exact λ_ _ _ _ _ _ us hl=>match us,hl with | [_,_,_],_=>rfl)
  have DPR:Fc.Def (L2.aW KX) mg "place_relation" K1.qo ["web","part","place"]:=by
   dsimp only [L2.aW]
   refine' Fc.aX KX G ?a ?l ?c ?k ?b
   (case a=>k_is);(case l=>k_is);(case c=>k_is);(case k=>k_is);(case b=>exact λ_ _ _ _ _ _ us hl=>match us,hl with | [_,_,_],_=>rfl)
  have DCR:Fc.Def (L2.aW KX) mg "call_relation" K1.ug ["web","part"]:=by
   dsimp only [L2.aW]
   refine' Fc.aX KX G ?a ?l ?c ?k ?b
   (case a=>k_is);(case l=>k_is);(case c=>k_is);(case k=>k_is);(case b=>exact λ_ _ _ _ _ _ us hl=>match us,hl with | [_,_],_=>rfl)
  have DRL:Fc.Def (L2.aW KX) mg "relations" K1.xQ ["web"]:=by
   dsimp only [L2.aW]
   refine' Fc.aX KX G ?a ?l ?c ?k ?b
   (case a=>k_is);(case l=>k_is);(case c=>k_is);(case k=>k_is);(case b=>exact λ_ _ _ _ _ _ us hl=>match us,hl with | [_],_=>rfl)
  have DCC:Fc.Def (L2.aW KX) mg "count_of_counts" K1.yc ["web"]:=by
   dsimp only [L2.aW]
   refine' Fc.aX KX G ?a ?l ?c ?k ?b
   (case a=>k_is);(case l=>k_is);(case c=>k_is);(case k=>k_is);(case b=>exact λ_ _ _ _ _ _ us hl=>match us,hl with | [_],_=>rfl)
  have DRS:Fc.Def (L2.aW KX) mg "relation_sum" K1.tN ["relation","numbers"]:=by
   dsimp only [L2.aW]
   refine' Fc.aX KX G ?a ?l ?c ?k ?b
   (case a=>k_is);(case l=>k_is);(case c=>k_is);(case k=>k_is);(case b=>exact λ_ _ _ _ _ _ us hl=>match us,hl with | [_,_],_=>rfl)
  have DEN:Fc.Def (L2.aW KX) mg "are_even" K1.tY ["web","numbers"]:=by
   dsimp only [L2.aW]
   refine' Fc.aX KX G ?a ?l ?c ?k ?b
   (case a=>k_is);(case l=>k_is);(case c=>k_is);(case k=>k_is);(case b=>exact λ_ _ _ _ _ _ us hl=>match us,hl with | [_,_],_=>rfl)
  have DAP:Fc.Def (L2.aW KX) mg "rows_apart" K1.nA ["web","numbers"]:=by
   dsimp only [L2.aW]
   refine' Fc.aX KX G ?a ?l ?c ?k ?b
   (case a=>k_is);(case l=>k_is);(case c=>k_is);(case k=>k_is);(case b=>exact λ_ _ _ _ _ _ us hl=>match us,hl with | [_,_],_=>rfl)
  have DAC:Fc.Def (L2.aW KX) mg "are_counts" K1.vj ["web","numbers"]:=by
   dsimp only [L2.aW]
   refine' Fc.aX KX G ?a ?l ?c ?k ?b
   (case a=>k_is);(case l=>k_is);(case c=>k_is);(case k=>k_is);(case b=>exact λ_ _ _ _ _ _ us hl=>match us,hl with | [_,_],_=>rfl)
  have DHL:Fc.Def (L2.aW KX) mg "has_left" K1.qU ["choices","left"]:=by
   dsimp only [L2.aW]
   refine' Fc.aX KX G ?a ?l ?c ?k ?b
   (case a=>k_is);(case l=>k_is);(case c=>k_is);(case k=>k_is);(case b=>exact λ_ _ _ _ _ _ us hl=>match us,hl with | [_,_],_=>rfl)
  have DRV:Fc.Def (L2.aW KX) mg "rows_leaving" K1.vt ["web","part"]:=by
   dsimp only [L2.aW]
   refine' Fc.aX KX G ?a ?l ?c ?k ?b
   (case a=>k_is);(case l=>k_is);(case c=>k_is);(case k=>k_is);(case b=>exact λ_ _ _ _ _ _ us hl=>match us,hl with | [_,_],_=>rfl)
  have DNL:Fc.Def (L2.aW KX) mg "numbers_leaving" K1.ya ["web","part"]:=by
   dsimp only [L2.aW]
   refine' Fc.aX KX G ?a ?l ?c ?k ?b
   (case a=>k_is);(case l=>k_is);(case c=>k_is);(case k=>k_is);(case b=>exact λ_ _ _ _ _ _ us hl=>match us,hl with | [_,_],_=>rfl)
  have DRF2:Fc.Def (L2.aW KX) mg "round_from_end" K1.sD ["web","numbers","part"]:=by
   dsimp only [L2.aW]
   refine' Fc.aX KX G ?a ?l ?c ?k ?b
   (case a=>k_is);(case l=>k_is);(case c=>k_is);(case k=>k_is);(case b=>exact λ_ _ _ _ _ _ us hl=>match us,hl with | [_,_,_],_=>rfl)
  have DOR:Fc.Def (L2.aW KX) mg "own_runs" K1.xW ["web","numbers","part"]:=by
   dsimp only [L2.aW]
   refine' Fc.aX KX G ?a ?l ?c ?k ?b
   (case a=>k_is);(case l=>k_is);(case c=>k_is);(case k=>k_is);(case b=>exact λ_ _ _ _ _ _ us hl=>match us,hl with | [_,_,_],_=>rfl)
  have DWR:Fc.Def (L2.aW KX) mg "whole_run" K1.xR ["web","waiting","part"]:=by
   dsimp only [L2.aW]
   refine' Fc.aX KX G ?a ?l ?c ?k ?b
   (case a=>k_is);(case l=>k_is);(case c=>k_is);(case k=>k_is);(case b=>exact λ_ _ _ _ _ _ us hl=>match us,hl with | [_,_,_],_=>rfl)
  have DHF:Fc.Def (L2.aW KX) mg "heap_of" K1.uH ["web","numbers"]:=by
   dsimp only [L2.aW]
   refine' Fc.aX KX G ?a ?l ?c ?k ?b
   (case a=>k_is);(case l=>k_is);(case c=>k_is);(case k=>k_is);(case b=>exact λ_ _ _ _ _ _ us hl=>match us,hl with | [_,_],_=>rfl)
  have DMX:Fc.Def (L2.aW KX) mg "_law_mix" K1.xI ["_law_number","_law_k"]:=by
   dsimp only [L2.aW]
   refine' Fc.aX KX G ?a ?l ?c ?k ?b
   (case a=>k_is);(case l=>k_is);(case c=>k_is);(case k=>k_is);(case b=>exact λ_ _ _ _ _ _ us hl=>match us,hl with | [_,_],_=>rfl)
  have DCA:Fc.Def (L2.aW KX) mg "_law_cell_at" K1.xw ["_law_script","_law_k"]:=by
   dsimp only [L2.aW]
   refine' Fc.aX KX G ?a ?l ?c ?k ?b
   (case a=>k_is);(case l=>k_is);(case c=>k_is);(case k=>k_is);(case b=>exact λ_ _ _ _ _ _ us hl=>match us,hl with | [_,_],_=>rfl)
  have DLF:Fc.Def (L2.aW KX) mg "_law_left" K1.yf ["_law_script","_law_k"]:=by
   dsimp only [L2.aW]
   refine' Fc.aX KX G ?a ?l ?c ?k ?b
   (case a=>k_is);(case l=>k_is);(case c=>k_is);(case k=>k_is);(case b=>exact λ_ _ _ _ _ _ us hl=>match us,hl with | [_,_],_=>rfl)
  have DDR:Fc.Def (L2.aW KX) mg "_law_draw" K1.ym ["_law_left_here","_law_base"]:=by
   dsimp only [L2.aW]
   refine' Fc.aX KX G ?a ?l ?c ?k ?b
   (case a=>k_is);(case l=>k_is);(case c=>k_is);(case k=>k_is);(case b=>exact λ_ _ _ _ _ _ us hl=>match us,hl with | [_,_],_=>rfl)
  have DPT:Fc.Def (L2.aW KX) mg "_law_part" K1.uP ["_law_left_here","_law_most"]:=by
   dsimp only [L2.aW]
   refine' Fc.aX KX G ?a ?l ?c ?k ?b
   (case a=>k_is);(case l=>k_is);(case c=>k_is);(case k=>k_is);(case b=>exact λ_ _ _ _ _ _ us hl=>match us,hl with | [_,_],_=>rfl)
  have DWB:Fc.Def (L2.aW KX) mg "_law_web" K1.oi ["_law_script","_law_parts_most","_law_most"]:=by
   dsimp only [L2.aW]
   refine' Fc.aX KX G ?a ?l ?c ?k ?b
   (case a=>k_is);(case l=>k_is);(case c=>k_is);(case k=>k_is);(case b=>exact λ_ _ _ _ _ _ us hl=>match us,hl with | [_,_,_],_=>rfl)
  have DCP:Fc.Def (L2.aW KX) mg "_law_copy" K1.yu ["_law_web_here"]:=by
   dsimp only [L2.aW]
   refine' Fc.aX KX G ?a ?l ?c ?k ?b
   (case a=>k_is);(case l=>k_is);(case c=>k_is);(case k=>k_is);(case b=>exact λ_ _ _ _ _ _ us hl=>match us,hl with | [_],_=>rfl)
  have DFA:Fc.Def (L2.aW KX) mg "_law_far" K1.xK ["_law_web_here","_law_part_here"]:=by
   dsimp only [L2.aW]
   refine' Fc.aX KX G ?a ?l ?c ?k ?b
   (case a=>k_is);(case l=>k_is);(case c=>k_is);(case k=>k_is);(case b=>exact λ_ _ _ _ _ _ us hl=>match us,hl with | [_,_],_=>rfl)
  have DLE:Fc.Def (L2.aW KX) mg "_law_leaving" K1.p6 ["_law_web_here","_law_stack_here","_law_short","_law_fars"]:=by
   dsimp only [L2.aW]
   refine' Fc.aX KX G ?a ?l ?c ?k ?b
   (case a=>k_is);(case l=>k_is);(case c=>k_is);(case k=>k_is);(case b=>exact λ_ _ _ _ _ _ us hl=>match us,hl with | [_,_,_,_],_=>rfl)
  have DBH:Fc.Def (L2.aW KX) mg "_law_behind" K1.rD ["_law_web_here","_law_stack_here","_law_k"]:=by
   dsimp only [L2.aW]
   refine' Fc.aX KX G ?a ?l ?c ?k ?b
   (case a=>k_is);(case l=>k_is);(case c=>k_is);(case k=>k_is);(case b=>exact λ_ _ _ _ _ _ us hl=>match us,hl with | [_,_,_],_=>rfl)
  have DRU:Fc.Def (L2.aW KX) mg "_law_run" K1.uB ["_law_web_here","_law_left_here","_law_most"]:=by
   dsimp only [L2.aW]
   refine' Fc.aX KX G ?a ?l ?c ?k ?b
   (case a=>k_is);(case l=>k_is);(case c=>k_is);(case k=>k_is);(case b=>exact λ_ _ _ _ _ _ us hl=>match us,hl with | [_,_,_],_=>rfl)
  have DHP:Fc.Def (L2.aW KX) mg "_law_heap" K1.x9 ["_law_script","_law_at","_law_web_here","_law_most_runs","_law_most"]:=by
   dsimp only [L2.aW]
   refine' Fc.aX KX G ?a ?l ?c ?k ?b
   (case a=>k_is);(case l=>k_is);(case c=>k_is);(case k=>k_is);(case b=>exact λ_ _ _ _ _ _ us hl=>match us,hl with | [_,_,_,_,_],_=>rfl)
  have DSK:Fc.Def (L2.aW KX) mg "_law_stack" K1.rL ["_law_web_here","_law_rows"]:=by
   dsimp only [L2.aW]
   refine' Fc.aX KX G ?a ?l ?c ?k ?b
   (case a=>k_is);(case l=>k_is);(case c=>k_is);(case k=>k_is);(case b=>exact λ_ _ _ _ _ _ us hl=>match us,hl with | [_,_],_=>rfl)
  have DTA:Fc.Def (L2.aW KX) mg "_law_tally" K1.uS ["_law_web_here","_law_heap_here"]:=by
   dsimp only [L2.aW]
   refine' Fc.aX KX G ?a ?l ?c ?k ?b
   (case a=>k_is);(case l=>k_is);(case c=>k_is);(case k=>k_is);(case b=>exact λ_ _ _ _ _ _ us hl=>match us,hl with | [_,_],_=>rfl)
  have DEV:Fc.Def (L2.aW KX) mg "_law_every" K1.qS ["_law_web_here"]:=by
   dsimp only [L2.aW]
   refine' Fc.aX KX G ?a ?l ?c ?k ?b
   (case a=>k_is);(case l=>k_is);(case c=>k_is);(case k=>k_is);(case b=>exact λ_ _ _ _ _ _ us hl=>match us,hl with | [_],_=>rfl)
  have DHG:Fc.Def (L2.aW KX) mg "_law_hangs" K1.pA ["_law_web_here","_law_part_here","_law_numbers"]:=by
   dsimp only [L2.aW]
   refine' Fc.aX KX G ?a ?l ?c ?k ?b
   (case a=>k_is);(case l=>k_is);(case c=>k_is);(case k=>k_is);(case b=>exact λ_ _ _ _ _ _ us hl=>match us,hl with | [_,_,_],_=>rfl)
  have DLC:Fc.Def (L2.aW KX) mg "_law_are_counts" K1.rK ["_law_web_here","_law_numbers"]:=by
   dsimp only [L2.aW]
   refine' Fc.aX KX G ?a ?l ?c ?k ?b
   (case a=>k_is);(case l=>k_is);(case c=>k_is);(case k=>k_is);(case b=>exact λ_ _ _ _ _ _ us hl=>match us,hl with | [_,_],_=>rfl)
  have DRN:Fc.Def (L2.aW KX) mg "_law_round" K1.rM ["_law_web_here","_law_left_here"]:=by
   dsimp only [L2.aW]
   refine' Fc.aX KX G ?a ?l ?c ?k ?b
   (case a=>k_is);(case l=>k_is);(case c=>k_is);(case k=>k_is);(case b=>exact λ_ _ _ _ _ _ us hl=>match us,hl with | [_,_],_=>rfl)
  have DCG:Fc.Def (L2.aW KX) mg "_law_changed" K1.i4 ["_law_web_here","_law_tally_here","_law_left_here"]:=by
   dsimp only [L2.aW]
   refine' Fc.aX KX G ?a ?l ?c ?k ?b
   (case a=>k_is);(case l=>k_is);(case c=>k_is);(case k=>k_is);(case b=>exact λ_ _ _ _ _ _ us hl=>match us,hl with | [_,_,_],_=>rfl)
  have DRX:Fc.Def (L2.aW KX) mg "_law_refused" K1.xy ["_law_web_here","_law_numbers"]:=by
   dsimp only [L2.aW]
   refine' Fc.aX KX G ?a ?l ?c ?k ?b
   (case a=>k_is);(case l=>k_is);(case c=>k_is);(case k=>k_is);(case b=>exact λ_ _ _ _ _ _ us hl=>match us,hl with | [_,_],_=>rfl)
  refine' K1.B6 KX G hmg ⟨M,DX,DIW,DAW,DRF,DWF,DWZ,DLW,DIC,DRE,DLO,DWE,DNW,DRA,DPR,DCR,DRL,DCC,DRS,DEN,DAP,DAC,DHL,DRV,DNL,DRF2,DOR,DWR,DHF,DMX,DCA,DLF,DDR,DPT,DWB,DCP,DFA,DLE,DBH,DRU,DHP,DSK,DTA,DEV,DHG,DLC,DRN,DCG,DRX⟩ ?a ?l ?c ?k
  (case a=>k_is);(case l=>k_is);(case c=>k_is);(case k=>k_is)
