import PyProof.Rows.All
import Wide.All
import OpenK.AllK
import Wide.FinOn
import Lean
import PyProof.EqAt
import PyProof.EqKinds
import PyProof.TupleCall
import PyProof.NeKinds
import PyProof.WalksEnum
import PyProof.EnumMake
import PySem.Challenge.RW_fewcounters_k42_whole_ways_and_their_num
import PyProof.SumWalkG
import PyProof.SeqI3
import KE.KTryMore
import PyProof.NsDelKeeps
import PyProof.Rows.TupIter
import KE.KRevIter
import PyProof.ListRange
import PyProof.SetScanFacts
import PyProof.SetKind
import PyProof.DictKinds
import PyProof.DictIter
import PyProof.Walks
import PyProof.FactsTree
import PyProof.PlainAttrs
import PyProof.Rows.SetFrom
import KE.KDictSum
import PyProof.Rows.SortWalk
import PyProof.PureInt
set_option Elab.async false
set_option linter.all false
set_option maxRecDepth 100000
namespace L2
open PySem PySem.Spec PyProof.Rows
section
variable {a b:Addr}
abbrev Key:=Sum Int Str
def iF:Key->Value->Bool
 | .inl k,v=>Value.isInt k v
 | .inr x,v=>Value.isStrOf x v
def B4 (w:World):Key->Int
 | .inl k=>hashInt k
 | .inr x=>hashStr w x
theorem cq:∀{k:Key} {v:Value},iF k v=true->(∃i t,k=Sum.inl i/\v=Value.int i t)∨(∃x t,k=Sum.inr x/\v=Value.str x t)
 | .inl i,v,h=>by
   obtain ⟨t,e⟩:=Value.isInt_shape (k:=i) (v:=v) h
   exact .inl ⟨i,t,rfl,e⟩
 | .inr x,v,h=>by
   obtain ⟨t,e⟩:=Value.isStrOf_shape (x:=x) (v:=v) h
   exact .inr ⟨x,t,rfl,e⟩
theorem qF (i:Int)(t:Tok):iF (.inl i) (.int i t)=true:=by simp [iF,Value.isInt]
theorem qZ (x:Str)(t:Tok):iF (.inr x) (.str x t)=true:=by simp [iF,Value.isStrOf]
theorem zB (a b:Int):decide ((Sum.inl a:Key)=Sum.inl b)=(a==b):=by
 by_cases e:a=b
 ·subst e;simp
 ·have h:¬(Sum.inl a:Key)=Sum.inl b:=λq=>e (Sum.inl.inj q)
  rw [decide_eq_false h]
  exact (beq_eq_false_iff_ne.mpr e).symm
theorem zt (a b:Str):decide ((Sum.inr a:Key)=Sum.inr b)=decide (a=b):=by
 by_cases e:a=b
 ·subst e;simp
 ·have h:¬(Sum.inr a:Key)=Sum.inr b:=λq=>e (Sum.inr.inj q)
  rw [decide_eq_false h,decide_eq_false e]
theorem yZ (a:Int)(b:Str):decide ((Sum.inl a:Key)=Sum.inr b)=false:=decide_eq_false (λq=>nomatch q)
theorem xk (a:Str)(b:Int):decide ((Sum.inr a:Key)=Sum.inl b)=false:=decide_eq_false (λq=>nomatch q)
def cc (prog:Program)(w:World):PySem.KeyKind prog w Key where
 is:=iF
 hash:=B4 w
 inj:=λv a b ha hb=>by
  rcases cq ha with ⟨i,t,rfl,rfl⟩ | ⟨x,t,rfl,rfl⟩
  ·rcases cq hb with ⟨j,u,rfl,e⟩ | ⟨y,u,rfl,e⟩
   ·injection e with e1 _;rw [e1]
   ·exact nomatch e
  ·rcases cq hb with ⟨j,u,rfl,e⟩ | ⟨y,u,rfl,e⟩
   ·exact nomatch e
   ·injection e with e1 _;rw [e1]
 byValue:=λk v h=>by
  rcases cq h with ⟨i,t,rfl,rfl⟩ | ⟨x,t,rfl,rfl⟩<;>rfl
 pyHash:=λhv h=>by
  rcases cq hv with ⟨i,t,rfl,rfl⟩ | ⟨x,t,rfl,rfl⟩
  ·exact wpAny_pyHash_int h
  ·exact wpAny_pyHash_str h
 eqBool:=λhu hv h=>by
  rcases cq hu with ⟨i,t,rfl,rfl⟩ | ⟨x,t,rfl,rfl⟩
  ·rcases cq hv with ⟨j,u,rfl,rfl⟩ | ⟨y,u,rfl,rfl⟩
   ·rw [zB] at h;exact wpAny_eqBool_int h
   ·rw [yZ] at h;exact SeqAt.EqAt.int_str i t y u _ _ _ _ h
  ·rcases cq hv with ⟨j,u,rfl,rfl⟩ | ⟨y,u,rfl,rfl⟩
   ·rw [xk] at h;exact SeqAt.EqAt.str_int x t j u _ _ _ _ h
   ·rw [zt] at h;exact wpAny_eqBool_str h
 «strs»:=λk x t v h=>by
  rcases cq h with ⟨i,u,rfl,e⟩ | ⟨y,u,rfl,e⟩
  ·exact nomatch e
  ·injection e with e1 _
   subst e1
   cases v<;>rfl
theorem nS (prog:Program)(w:World)(i:Int)(t:Tok):(cc prog w).is (.inl i) (.int i t)=true:=qF i t
theorem nZ (prog:Program)(w:World)(x:Str)(t:Tok):(cc prog w).is (.inr x) (.str x t)=true:=qZ x t
inductive V where
 | non | bl (b:Bool) | int (i:Int) | str (x:Str) | byt (b:Array UInt8) | flt (b:UInt64) | ref (a:Addr) | ty (n:String)
 deriving DecidableEq
def RelV:V->Value->Prop
 | .non,u=>u=Value.none
 | .bl b,u=>u=Value.bool b
 | .int i,u=>∃t,u=Value.int i t
 | .str x,u=>∃t,u=Value.str x t
 | .byt b,u=>∃t,u=Value.bytes b t
 | .flt b,u=>∃t,u=Value.float b t
 | .ref a,u=>u=Value.ref a
 | .ty n,u=>u=Value.type n
abbrev Vals:List V->List Value->Prop:=Paired RelV
theorem Vals.length {xs:List V}{us:List Value}(r:Vals xs us):xs.length=us.length:=Paired.length r
theorem Vals.get:∀{xs:List V} {us:List Value} {i:Nat} {x:V},Vals xs us->xs[i]?=some x->∃u,us[i]?=some u/\RelV x u
 | _,_,_,_,.nil,e=>by simp at e
 | _,_,0,_,.cons r _,e=>by simp at e;subst e;exact ⟨_,rfl,r⟩
 | _,_,i + 1,x,.cons _ t,e=>by
   obtain ⟨u,h1,h2⟩:=Vals.get (i:=i) (x:=x) t (by simpa using e)
   exact ⟨u,by simpa using h1,h2⟩
theorem Vals.set {x:V}{u:Value}(r:RelV x u):∀{xs:List V} {us:List Value} (i:Nat),Vals xs us->Vals (xs.set i x) (us.set i u)
 | _,_,_,.nil=>.nil
 | _,_,0,.cons _ t=>.cons r t
 | _,_,i + 1,.cons q t=>.cons q (Vals.set r i t)
theorem Vals.append:∀{xs ys:List V} {us ws:List Value},Vals xs us->Vals ys ws->Vals (xs++ys) (us++ws)
 | _,_,_,_,.nil,s=>s
 | _,_,_,_,.cons r t,s=>.cons r (Vals.append t s)
theorem Vals.take:∀{xs:List V} {us:List Value} (n:Nat),Vals xs us->Vals (xs.take n) (us.take n)
 | _,_,0,_=>.nil
 | _,_,_ + 1,.nil=>.nil
 | _,_,n + 1,.cons r t=>.cons r (Vals.take n t)
theorem Vals.drop:∀{xs:List V} {us:List Value} (n:Nat),Vals xs us->Vals (xs.drop n) (us.drop n)
 | _,_,0,r=>r
 | _,_,_ + 1,.nil=>.nil
 | _,_,n + 1,.cons _ t=>Vals.drop n t
def fz:Option V->Option Value->Prop
 | some v,some u=>RelV v u
 | none,none=>True
 | _,_=>False
def KV {κ:Type}:List (κ×V)->List (κ×Value)->Prop:=Paired λ(p:κ×V) (q:κ×Value)=>p.1=q.1/\RelV p.2 q.2
def kV:Key->V
 | .inl i=>.int i
 | .inr x=>.str x
inductive HO where
 /-- a list -/
 | lst (xs:List V)
 /-- a tuple (never changes) -/
 | tup (xs:List V)
 /-- a dict whose keys are ints and texts;one whose keys are tuples of ints and texts (the empty one is both) -/
 | dK (kvs:List (Key×V)) | dT (kvs:List (List Key×V))
 /-- a set of ints:its members,its size -/
 | set (S:Int->Bool) (n:Nat)
 /-- an instance of the class at C,its dict at dx,its attributes -/
 | ins (C dx:Addr) (fs:List (Str×V))
 /-- the dict of the instance at x -/
 | own (x:Addr)
 /-- the dict of an exception -/
 | xd (fs:List (Str×V))
 /-- a bound method,f of x -/
 | met (f x:Addr)
 /-- a range object lo,lo + 1,.. below hi -/
 | rng (lo hi:Int)
 /-- a thing that is known to the object (the script;a dict while a loop walks it):read,never written while it is so -/
 | frz (o:Obj) (u:HO)
 /-- a code object's table -/
 | tbl (ps:Array Value)
 /-- any other thing,by what is true of its one object (a def of one's own:SetO a S n:=HO.ext λh=>..) -/
 | ext (φ:Heap->Prop)
abbrev Hp:=Addr->Option HO
def upd (H:Hp)(a:Addr)(o:HO):Hp:=λb=>if b=a then some o else H b
theorem ar {H:Hp}{o:HO}:upd H a o a=some o:=by unfold upd;rw [if_pos rfl]
theorem ay {H:Hp}{o:HO}(h:b≠a):upd H a o b=H b:=by unfold upd;rw [if_neg h]
theorem wF {H:Hp}{o u:HO}:upd (upd H a o) a u=upd H a u:=by
 funext b;unfold upd;split<;>rfl
theorem Ad {H:Hp}{o u:HO}(h:H a=some o)(h':H b=some u)(d:o≠u):a≠b:=by
 intro e;subst e;rw [h] at h';exact d (Option.some.inj h')
theorem bV {H:Hp}{o:HO}(h:H a=some o)(h':H b=none):a≠b:=by
 intro e;subst e;rw [h] at h';cases h'
end
section
variable (P:Program)(w:World)
def bM (H:Hp)(h:Heap)(a:Addr):HO->Prop
 | .lst xs=>xs.length<=sizeLine/\∃(its:List Value) (n:Nat),Vals xs its/\h.get? a=some {cls:=.type "list",data:=.seq its.toArray n}
 | .tup xs=>xs.length<=sizeLine/\∃its:List Value,Vals xs its/\IsTup h a its.toArray
 | .dK kvs=>kvs.length<=sizeLine/\(a==sysModules)=false/\∃vs,KV kvs vs/\h.DictOf (cc P w) a vs
 | .dT kvs=>kvs.length<=sizeLine/\(a==sysModules)=false/\∃xs:List (List Key×Addr×Value),
  Paired (λ(p:List Key×V) (q:List Key×Addr×Value)=>p.1=q.1/\H q.2.1=some (.tup (p.1.map kV))/\RelV p.2 q.2.2) kvs xs/\
  ∃o es ep,h.get? a=some o/\o.ExactDict/\o.data= .dict es ep/\es.toList=xs.map (entryOfKey (tupleKind (cc P w)))/\(xs.map (·.1)).Nodup
 | .set S n=>h.SetOf (intKind P w) a S n
 | .ins C dx fs=>H dx=some (.own a)/\fs.length<=1000/\dx≠a/\h.get? a=some (PySem.W.instObj C dx)/\
  ∃mA,h.Ns1 dx mA/\(∀f,fz (fs.lookup f) (mA f))/\PySem.Within mA (fs.map (·.1))
 | .own _=>∃o,h.get? a=some o
 | .xd fs=>∃mA,h.Ns1 a mA/\∀f,fz (fs.lookup f) (mA f)
 | .rng lo hi=>∃t u v,h.get? a=some {cls:=.type "range",data:=.fields #[.int lo t,.int hi u,.int 1 v]}
 | .frz o u=>h.get? a=some o/\bM H h a u
 | .tbl ps=>h.get? a=some {cls:=.none,data:=.fields ps}
 | .met f x=>h.get? a=some (PySem.W.methodObj (.ref f) (.ref x))
 | .ext φ=>φ h/\(∃o,h.get? a=some o)/\∀h1 h2:Heap,φ h1->(∀o,h1.get? a=some o->h2.get? a=some o)->φ h2
def cJ (H:Hp)(h:Heap):Prop:=∀a o,H a=some o->bM P w H h a o
end
section
variable {P:Program}{w:World}{H H':Hp}{h h':Heap}{a:Addr}{o:HO}
theorem bM.lt (x:bM P w H h a o):a < h.objs.size:=by
 cases o with
 | lst xs=>obtain ⟨_,_,_,_,e⟩:=x;exact Heap.lt_size e
 | tup xs=>obtain ⟨_,_,_,p⟩:=x;exact p.lt
 | dK kvs=>obtain ⟨_,_,_,_,o,_,_,e,_⟩:=x;exact Heap.lt_size e
 | dT kvs=>obtain ⟨_,_,_,_,o,_,_,e,_⟩:=x;exact Heap.lt_size e
 | set S n=>obtain ⟨o,_,_,_,e,_⟩:=x;exact Heap.lt_size e
 | ins C dx fs=>obtain ⟨_,_,_,e,_⟩:=x;exact Heap.lt_size e
 | own y=>obtain ⟨_,e⟩:=x;exact Heap.lt_size e
 | xd fs=>obtain ⟨_,⟨_,_,_,e,_⟩,_⟩:=x;exact Heap.lt_size e
 | rng lo hi=>obtain ⟨_,_,_,e⟩:=x;exact Heap.lt_size e
 | frz ob u=>obtain ⟨e,_⟩:=x;exact Heap.lt_size e
 | tbl ps=>exact Heap.lt_size (show h.get? a=some _ from x)
 | met f y=>exact Heap.lt_size (show h.get? a=some _ from x)
 | ext φ=>obtain ⟨_,⟨_,e⟩,_⟩:=x;exact Heap.lt_size e
theorem Paired.tI {α β:Type}{F G:α->β->Prop}:∀{l₁:List α} {l₂:List β},Paired F l₁ l₂->(∀a b,F a b->G a b)->Paired G l₁ l₂
 | _,_,.nil,_=>.nil
 | _,_,.cons r t,f=>.cons (f _ _ r) (Paired.tI t f)
theorem bM.ic (x:bM P w H h a o)(k:∀b u,(b=a∨H b=some (.own a))->h.get? b=some u->h'.get? b=some u)
 (ho:∀b,H b=some (.own a)->H' b=some (.own a)) (ht:∀b xs,H b=some (.tup xs)->H' b=some (.tup xs)):bM P w H' h' a o:=by
 induction o with
 | lst xs=>obtain ⟨z,its,n,r,e⟩:=x;exact ⟨z,its,n,r,k _ _ (.inl rfl) e⟩
 | tup xs=>obtain ⟨z,its,r,ob,e,c⟩:=x;exact ⟨z,its,r,ob,k _ _ (.inl rfl) e,c⟩
 | dK kvs=>obtain ⟨z,y,vs,r,ob,es,ep,e,c⟩:=x;exact ⟨z,y,vs,r,ob,es,ep,k _ _ (.inl rfl) e,c⟩
 | dT kvs=>
   obtain ⟨z,y,xs,r,ob,es,ep,e,c⟩:=x
   exact ⟨z,y,xs,Paired.tI r λp q z=>⟨z.1,ht _ _ z.2.1,z.2.2⟩,ob,es,ep,k _ _ (.inl rfl) e,c⟩
 | set S n=>obtain ⟨ob,es,ep,t,e,c⟩:=x;exact ⟨ob,es,ep,t,k _ _ (.inl rfl) e,c⟩
 | ins C dx fs=>
   obtain ⟨d,z,ne,e,mA,⟨od,es,ep,e2,c⟩,r⟩:=x
   exact ⟨ho _ d,z,ne,k _ _ (.inl rfl) e,mA,⟨od,es,ep,k _ _ (.inr d) e2,c⟩,r⟩
 | own y=>obtain ⟨ob,e⟩:=x;exact ⟨ob,k _ _ (.inl rfl) e⟩
 | xd fs=>obtain ⟨mA,⟨od,es,ep,e,c⟩,r⟩:=x;exact ⟨mA,⟨od,es,ep,k _ _ (.inl rfl) e,c⟩,r⟩
 | rng lo hi=>obtain ⟨t,u,v,e⟩:=x;exact ⟨t,u,v,k _ _ (.inl rfl) e⟩
 | frz ob u ih=>obtain ⟨e,q⟩:=x;exact ⟨k _ _ (.inl rfl) e,ih q⟩
 | tbl ps=>
   have e:h.get? a=some {cls:=.none,data:=.fields ps}:=x
   show h'.get? a=some {cls:=.none,data:=.fields ps}
   exact k a _ (.inl rfl) e
 | met f y=>
   have e:h.get? a=some (PySem.W.methodObj (.ref f) (.ref y)):=x
   show h'.get? a=some (PySem.W.methodObj (.ref f) (.ref y))
   exact k a _ (.inl rfl) e
 | ext φ=>obtain ⟨p,⟨o,e⟩,st⟩:=x;exact ⟨st _ _ p λo q=>k _ _ (.inl rfl) q,⟨o,k _ _ (.inl rfl) e⟩,st⟩
theorem cJ.lt (x:cJ P w H h)(e:H a=some o):a < h.objs.size:=(x a o e).lt
theorem cJ.fresh (x:cJ P w H h)(e:h.objs.size<=a):H a=none:=by
 cases q:H a with
 | none=>rfl
 | some u=>exact absurd (Nat.lt_of_lt_of_le (x.lt q) e) (Nat.lt_irrefl _)
theorem cJ.kept (x:cJ P w H h)(k:∀b u,h.get? b=some u->h'.get? b=some u):cJ P w H h':=λa o e=>
 (x a o e).ic (λb u _ q=>k b u q) (λ_ q=>q) λ_ _ q=>q
theorem cJ.laid (x:cJ P w H h)(k:∀b u,h.get? b=some u->h'.get? b=some u)(hp:h.objs.size<=a)(new:bM P w (upd H a o) h' a o):cJ P w (upd H a o) h':=λb u e=>by
 have hn:=x.fresh hp
 by_cases hb:b=a
 ·subst hb;rw [ar] at e;cases e;exact new
 ·rw [ay hb] at e
  exact (x b u e).ic (λc v _ q=>k c v q) (λc q=>by rw [ay (bV q hn)];exact q) λc xs q=>by rw [ay (bV q hn)];exact q
end
def Rd (H:Hp)(a:Addr)(u:HO):Prop:=H a=some u∨∃o,H a=some (.frz o u)
theorem Rd.ok {P:Program}{w:World}{H:Hp}{h:Heap}{a:Addr}{u:HO}(r:Rd H a u)(x:cJ P w H h):bM P w H h a u:=by
 rcases r with r | ⟨o,r⟩
 ·exact x a u r
 ·obtain ⟨_,q⟩:=x a _ r
  exact q
def sr:Option HO->Prop
 | some (.lst _)=>True
 | some (.dK _)=>True
 | some (.dT _)=>True
 | some (.set _ _)=>True
 | some (.ins _ _ _)=>True
 | some (.ext _)=>True
 | _=>False
section
variable {P:Program}{w:World}{H:Hp}{h h':Heap}{x e:Addr}{o':HO}
theorem cJ.write (ok:cJ P w H h)(mu:sr (H x))(he:e=x∨H e=some (.own x))(k:∀b u,b≠e->h.get? b=some u->h'.get? b=some u)(heo:∃u,h'.get? e=some u)
 (new:bM P w (upd H x o') h' x o'):cJ P w (upd H x o') h':=λb u q=>by
 have nown:∀c y,H c=some (.own y)->c≠x:=λc y r z=>by subst z;rw [r] at mu;exact mu
 have ntup:∀c xs,H c=some (.tup xs)->c≠x:=λc xs r z=>by subst z;rw [r] at mu;exact mu
 by_cases hb:b=x
 ·subst hb;rw [ar] at q;cases q;exact new
 ·rw [ay hb] at q
  by_cases hbe:b=e
  ·have q':H b=some (.own x):=by
    rcases he with z | z
    ·exact absurd (hbe.trans z) hb
    ·rw [hbe];exact z
   rw [q] at q';cases q'
   obtain ⟨v,hv⟩:=heo
   exact ⟨v,by rw [hbe];exact hv⟩
  ·refine (ok b u q).ic (λc v hc r=>k c v ?_ r) (λc r=>by rw [ay (nown c b r)];exact r) λc xs r=>by rw [ay (ntup c xs r)];exact r
   rcases hc with rfl | hc
   ·exact hbe
   ·rintro rfl
    rcases he with z | z
    ·exact nown c b hc z
    ·rw [hc] at z;cases z;exact hb rfl
end
structure Un (fs ex:List Addr) (H H':Hp) (h h':Heap):Prop where
 keep:∀b o,h.get? b=some o->H b=none->b∉fs->b∉ex->h'.get? b=some o
 slot:∀b o,h.get? b=some o->H b=none->b∈fs->b∉ex->∃sl,h'.get? b=some {o with slots:=sl}
 free:∀b o,h.get? b=some o->H b=none->b∉ex->H' b=none
 there:∀b o,h.get? b=some o->b∉ex->∃o',h'.get? b=some o'
 tups:∀b xs,H b=some (.tup xs)->H' b=some (.tup xs)
 frzs:∀b o u,H b=some (.frz o u)->H' b=some (.frz o u)
 tbls:∀b ps,H b=some (.tbl ps)->∃more,H' b=some (.tbl (ps++more))
section
variable {fs fs' ex ex':List Addr}{H H1 H2:Hp}{h h1 h2 h':Heap}{a x e:Addr}{o:HO}
theorem Un.any (u:Un fs ex H H1 h h1){b:Addr}{ob:Obj}(q:h.get? b=some ob)(n:H b=none)(hx:b∉ex):∃sl,h1.get? b=some {ob with slots:=sl}:=by
 by_cases hb:b∈fs
 ·exact u.slot b ob q n hb hx
 ·exact ⟨ob.slots,u.keep b ob q n hb hx⟩
theorem Un.kept (k:∀b u,h.get? b=some u->h'.get? b=some u):Un fs ex H H h h':=
 ⟨λb ob q _ _ _=>k b ob q,λb ob q _ _ _=>⟨ob.slots,k b ob q⟩,λ_ _ _ n _=>n,λb ob q _=>⟨ob,k b ob q⟩,λ_ _ q=>q,λ_ _ _ q=>q,λ_ ps q=>⟨#[],by rw [q];simp⟩⟩
theorem Un.refl:Un fs ex H H h h:=Un.kept λ_ _ q=>q
theorem Un.laid (k:∀b u,h.get? b=some u->h'.get? b=some u)(hp:h.objs.size<=a)(hn:H a=none):Un fs ex H (upd H a o) h h' where
 keep:=λb u q _ _ _=>k b u q
 slot:=λb u q _ _ _=>⟨u.slots,k b u q⟩
 free:=λb u q n _=>by rw [ay (Nat.ne_of_lt (Nat.lt_of_lt_of_le (Heap.lt_size q) hp))];exact n
 there:=λb u q _=>⟨u,k b u q⟩
 tups:=λb xs q=>by rw [ay (bV q hn)];exact q
 frzs:=λb u xs q=>by rw [ay (bV q hn)];exact q
 tbls:=λb ps q=>⟨#[],by rw [ay (bV q hn),q];simp⟩
theorem Un.write (mu:sr (H x))(he:e=x∨H e=some (.own x))(k:∀b u,b≠e->h.get? b=some u->h'.get? b=some u)(heo:∃u,h'.get? e=some u):Un fs ex H (upd H x o) h h':=by
 have hx:∀b,H b=none->b≠x:=λb n z=>by subst z;rw [n] at mu;exact mu
 have hb:∀b,H b=none->b≠e:=λb n z=>by
  subst z
  rcases he with r | r
  ·exact hx b n r
  ·rw [n] at r;cases r
 have hm:∀b u,H b=some u->¬sr (some u)->b≠x:=λb u q nm z=>by subst z;rw [q] at mu;exact nm mu
 refine ⟨λb u q n _ _=>k b u (hb b n) q,λb u q n _ _=>⟨u.slots,k b u (hb b n) q⟩,λb u q n _=>by rw [ay (hx b n)];exact n,λb u q _=>?_,
  λb xs q=>by rw [ay (hm b _ q λz=>z)];exact q,λb u xs q=>by rw [ay (hm b _ q λz=>z)];exact q,λb ps q=>⟨#[],by rw [ay (hm b _ q λz=>z),q];simp⟩⟩
 by_cases hbe:b=e
 ·subst hbe;exact heo
 ·exact ⟨u,k b u hbe q⟩
end
def u6 (h:Heap)(H:Hp):List Addr:=(List.range h.objs.size).filter λa=>(H a).isSome
def gO (h:Heap)(H:Hp):Heap:=PySem.W.hideAll h (u6 h H)
theorem si (h:Heap)(H:Hp):(gO h H).objs.size=h.objs.size:=PySem.W.hideAll_size _ _
theorem tL {h:Heap}{H:Hp}{b:Addr}{o:Obj}(e:h.get? b=some o)(n:H b=none):(gO h H).get? b=some o:=
 PySem.W.hideAll_get _ e λhm=>by
  have q:(H b).isSome=true:=(List.mem_filter.mp hm).2
  rw [n] at q;simp at q
theorem vM {h:Heap}{H:Hp}{b:Addr}{o:Obj}(e:(gO h H).get? b=some o):h.get? b=some o/\H b=none:=by
 have e':h.get? b=some o:=PySem.W.of_hideAll (u6 h H) e
 refine ⟨e',?_⟩
 cases q:H b with
 | none=>rfl
 | some x=>
   have hm:b∈u6 h H:=List.mem_filter.mpr ⟨List.mem_range.mpr (Heap.lt_size e'),by simp [q]⟩
   have z:(gO h H).get? b=none:=PySem.W.hideAll_none (u6 h H) hm
   rw [z] at e;cases e
structure Mod (K:PySem.W.Frag) (mg:Str->Option Value) (base:Heap):Prop where
 kin:K.In base
 glob:base.Ns mainGlobals mg
 blt:∃mb,base.Ns builtinsNs mb/\∀x:Str,x≠"__name__"->mb x=bootBuiltins x
 nolimit:base.NoLimit
structure Cx where
 prog:Program
 w:World
 K:PySem.W.Frag
 mg:Str->Option Value
 base:Heap
 A:Around
 N:List Str
 s₀:Shared
 H₀:Hp
 env:Env
 outer:List Env
 stack:List Env
 ex:List Addr
 fn:Str->Bool
 calm:Bool
 pn:List (Addr×Obj)
 xe:Value->Shared->Prop
def gu (l:List Env):List Addr:=l.filterMap (·.frame)
abbrev Cx.fs (X:Cx):List Addr:=gu X.outer
def bT (sc:Scope)(x:Str):Prop:=sc.names.lookup x=some .local∨sc.names.lookup x=some .cell∨sc.names.lookup x=some .free
def Loc (sc:Scope)(x:Str):Prop:=sc.names.lookup x=some .local∨sc.names.lookup x=some .cell
def Look (env:Env)(h:Heap)(m:Str->Option Value)(x:Str)(u:Value):Prop:=
 (env.kindOf x=some .local/\m x=some u)∨((env.kindOf x=some .cell∨env.kindOf x=some .free)/\∃c,env.cells.lookup x=some c/\h.IsCell c (some u))
structure Cx.Ok (X:Cx):Prop where
 mod:Mod X.K X.mg X.base
 kind:X.env.scope.kind= .function
 glob:X.env.globals=mainGlobals
 blt:X.env.builtins=builtinsNs
 above:X.s₀.heap.objs.size<=X.env.locals
 inj:∀x y c,X.env.cells.lookup x=some c->X.env.cells.lookup y=some c->x=y
 has:∀x,(X.env.kindOf x=some .cell∨X.env.kindOf x=some .free)->∃c,X.env.cells.lookup x=some c
 cab:∀x c,X.fn x=true->X.env.cells.lookup x=some c->X.s₀.heap.objs.size<=c
 hd:X.calm=true->X.A.handled=none
 frames:X.A.frames=some X.stack
 stk:X.stack=X.outer∨(X.stack=X.env::X.outer/\X.env.frame=some X.env.locals)
 exf:∀b∈X.ex,b≠X.env.locals/\∀x c,X.env.cells.lookup x=some c->c≠b
 bs:∀b o,X.base.get? b=some o->X.s₀.heap.get? b=some o/\X.H₀ b=none
 bsz:X.base.objs.size<=X.s₀.heap.objs.size
 noex:∀b o,X.base.get? b=some o->b∉X.ex
 exfs:∀b∈X.ex,b∉X.fs
 funs:X.s₀.heap.FunFrames X.base X.outer
 frf:∀b∈X.fs,X.H₀ b=none
structure Inv (X:Cx) (pins:List (Addr×Obj)) (σ:List (Option V)) (H:Hp) (s:Shared):Prop where
 ok:X.Ok
 os:s.os=X.s₀.os
 bare:AllBare s.gens
 base:Un X.fs X.ex X.H₀ H X.s₀.heap s.heap
 loc:∃m,s.heap.Ns X.env.locals m/\∀(i:Nat) (x:Str) (v:V),X.N[i]?=some x->σ[i]?=some (some v)->bT X.env.scope x->∃u,RelV v u/\Look X.env s.heap m x u
 cell:∀x c,X.env.cells.lookup x=some c->∃v,s.heap.IsCell c v
 free:H X.env.locals=none
 freeC:∀x c,X.env.cells.lookup x=some c->H c=none
 pin:∀p∈X.pn++pins,s.heap.get? p.1=some p.2/\H p.1=none/\p.1≠X.env.locals/\p.1∉X.fs/\∀v,p.2.data≠ .cell v
 hok:cJ X.prog X.w H s.heap
 len:σ.length=X.N.length
section
variable {X:Cx}{pins:List (Addr×Obj)}{σ:List (Option V)}{H H':Hp}{s:Shared}{h':Heap}
variable {t':Nat}{ch:List Addr}{x:Str}{i:Nat}
theorem Cx.Ok.Ce (ok:X.Ok){b:Addr}{o:Obj}(e:X.base.get? b=some o):b∉X.fs:=λhb=>by
 have:=(ok.funs.mem hb).1
 rw [e] at this;cases this
theorem Inv.bs (I:Inv X pins σ H s):∀b o,X.base.get? b=some o->s.heap.get? b=some o/\H b=none:=λb o e=>
 ⟨I.base.keep b o (I.ok.bs b o e).1 (I.ok.bs b o e).2 (I.ok.Ce e) (I.ok.noex b o e),I.base.free b o (I.ok.bs b o e).1 (I.ok.bs b o e).2 (I.ok.noex b o e)⟩
theorem Inv.bk (I:Inv X pins σ H s):∀b o,X.base.get? b=some o->s.heap.get? b=some o:=λb o e=>(I.bs b o e).1
theorem Inv.mod (I:Inv X pins σ H s):Mod X.K X.mg X.base:=I.ok.mod
theorem Inv.eR (I:Inv X pins σ H s):X.K.In s.heap:=I.ok.mod.kin.keeps I.bk
theorem Inv.lt (I:Inv X pins σ H s):X.env.locals < s.heap.objs.size:=let ⟨_,hn,_⟩:=I.loc;hn.lt
theorem Inv.sz (I:Inv X pins σ H s):X.s₀.heap.objs.size<=s.heap.objs.size:=Nat.le_trans I.ok.above (Nat.le_of_lt I.lt)
theorem Inv.B2 (I:Inv X pins σ H s){a:Addr}(h:s.heap.objs.size<=a):a∉X.fs:=λhb=>by
 obtain ⟨_,o,ho,_⟩:=I.ok.funs.mem hb
 exact absurd (Nat.lt_of_lt_of_le (Heap.lt_size ho) (Nat.le_trans I.sz h)) (Nat.lt_irrefl _)
theorem Inv.cne (I:Inv X pins σ H s):∀x c,X.env.cells.lookup x=some c->c≠X.env.locals:=λx c e z=>by
 obtain ⟨v,o,ho,hd⟩:=I.cell x c e
 obtain ⟨m,⟨o',es,ep,ho',hd',_⟩,_⟩:=I.loc
 rw [z,ho'] at ho;cases ho;rw [hd'] at hd;cases hd
theorem Inv.funs (I:Inv X pins σ H s):s.heap.FunFrames X.base X.outer:=by
 have all:∀(l:List Env),(∀b∈gu l,b∈X.fs)->X.s₀.heap.FunFrames X.base l->s.heap.FunFrames X.base l:=by
  intro l
  induction l with
  | nil=>intro _ _;trivial
  | cons env r ih=>
    intro hs hl
    obtain ⟨hk,⟨L,o,hf,hn,ho,hd⟩,hr⟩:=hl
    have hL:L∈X.fs:=hs L (by unfold gu;rw [List.filterMap_cons,hf];exact List.mem_cons_self)
    obtain ⟨sl,e⟩:=I.base.slot L o ho (I.ok.frf L hL) hL λz=>I.ok.exfs L z hL
    exact ⟨hk,⟨L,_,hf,hn,e,hd⟩,ih (λb hb=>hs b (by unfold gu;rw [List.filterMap_cons,hf];exact List.mem_cons_of_mem _ hb)) hr⟩
 exact all X.outer (λ_ hb=>hb) I.ok.funs
theorem Inv.stack (I:Inv X pins σ H s):s.heap.FunFrames X.base X.stack:=by
 rcases I.ok.stk with e | ⟨e,hf⟩
 ·rw [e];exact I.funs
 ·rw [e]
  obtain ⟨m,hn,_⟩:=I.loc
  refine .cons (by rw [I.ok.kind];decide) hf hn ?_ I.funs
  exact Heap.get?_none_of_le (Nat.le_trans I.ok.bsz I.ok.above)
theorem Inv.mE (I:Inv X pins σ H s):∀b∈gu X.stack,b∈X.env.locals::X.fs:=λb hb=>by
 rcases I.ok.stk with e | ⟨e,hf⟩
 ·rw [e] at hb;exact List.mem_cons_of_mem _ hb
 ·rw [e] at hb
  unfold gu at hb
  rw [List.filterMap_cons,hf] at hb
  exact hb
theorem Inv.n4 (I:Inv X pins σ H s):∀b∈gu X.stack,H b=none:=λb hb=>by
 rcases List.mem_cons.mp (I.mE b hb) with e | hb
 ·rw [e];exact I.free
 ·obtain ⟨_,o,ho,_⟩:=I.ok.funs.mem hb
  exact I.base.free b o ho (I.ok.frf b hb) λz=>I.ok.exfs b z hb
theorem Inv.step {g':Array GenState}{d':Drawn}(I:Inv X pins σ H s)
 (hch:∀b∈ch,(b∈X.ex∨X.s₀.heap.objs.size<=b)/\b≠X.env.locals/\(∀x c,X.env.cells.lookup x=some c->c≠b)/\∀p∈X.pn++pins,p.1≠b)
 (keep:∀b o,b≠X.env.locals->b∉X.fs->b∉ch->s.heap.get? b=some o->H b=none->h'.get? b=some o)
 (slot:∀b o,b≠X.env.locals->b∈X.fs->b∉ch->s.heap.get? b=some o->H b=none->∃sl,h'.get? b=some {o with slots:=sl}) (free:∀b o,b∉ch->s.heap.get? b=some o->H b=none->H' b=none)
 (there:∀b o,b∉ch->s.heap.get? b=some o->∃o',h'.get? b=some o')
 (tups:∀b xs,H b=some (.tup xs)->H' b=some (.tup xs)) (frzs:∀b o u,H b=some (.frz o u)->H' b=some (.frz o u)) (tbls:∀b ps,H b=some (.tbl ps)->∃more,H' b=some (.tbl (ps++more)))
 (ns:∀m,s.heap.Ns X.env.locals m->h'.Ns X.env.locals m) (hok:cJ X.prog X.w H' h') (hg:AllBare g'):
 Inv X pins σ H' {s with heap:=h',gens:=g',drawn:=d',toks:=t'}:=by
 have neL:∀b o,X.s₀.heap.get? b=some o->b≠X.env.locals:=λb o e=>Nat.ne_of_lt (Nat.lt_of_lt_of_le (Heap.lt_size e) I.ok.above)
 have neC:∀b o,X.s₀.heap.get? b=some o->b∉X.ex->b∉ch:=λb o e hx hb=>by
  rcases (hch b hb).1 with z | z
  ·exact hx z
  ·exact absurd (Nat.lt_of_lt_of_le (Heap.lt_size e) z) (Nat.lt_irrefl _)
 have cellK:∀x c,X.env.cells.lookup x=some c->∀v,s.heap.IsCell c v->h'.IsCell c v:=λx c e v ⟨o,ho,hd⟩=>by
  have nch:c∉ch:=λz=>(hch c z).2.2.1 x c e rfl
  by_cases hc:c∈X.fs
  ·obtain ⟨sl,q⟩:=slot c o (I.cne x c e) hc nch ho (I.freeC x c e)
   exact ⟨_,q,hd⟩
  ·exact ⟨o,keep c o (I.cne x c e) hc nch ho (I.freeC x c e),hd⟩
 refine ⟨I.ok,I.os,hg,⟨λb o e n hb hx=>?_,λb o e n hb hx=>?_,λb o e n hx=>?_,λb o e hx=>?_,λb xs e=>tups b xs (I.base.tups b xs e),λb o xs e=>frzs b o xs (I.base.frzs b o xs e),λb ps e=>?_⟩,?_,λx c e=>?_,?_,λx c e=>?_,λp hp=>?_,hok,I.len⟩
 ·exact keep b o (neL b o e) hb (neC b o e hx) (I.base.keep b o e n hb hx) (I.base.free b o e n hx)
 ·obtain ⟨sl,e1⟩:=I.base.slot b o e n hb hx
  obtain ⟨sl',e2⟩:=slot b _ (neL b o e) hb (neC b o e hx) e1 (I.base.free b o e n hx)
  exact ⟨sl',e2⟩
 ·obtain ⟨o',e1⟩:=I.base.there b o e hx
  exact free b o' (neC b o e hx) e1 (I.base.free b o e n hx)
 ·obtain ⟨o',e1⟩:=I.base.there b o e hx
  exact there b o' (neC b o e hx) e1
 ·obtain ⟨m1,e1⟩:=I.base.tbls b ps e
  obtain ⟨m2,e2⟩:=tbls b _ e1
  exact ⟨m1++m2,by rw [e2,Array.append_assoc]⟩
 ·obtain ⟨m,hn,hl⟩:=I.loc
  refine ⟨m,ns m hn,λi x v e1 e2 e3=>?_⟩
  obtain ⟨u,r,l⟩:=hl i x v e1 e2 e3
  refine ⟨u,r,?_⟩
  rcases l with l | ⟨k,c,e,z⟩
  ·exact .inl l
  ·exact .inr ⟨k,c,e,cellK x c e _ z⟩
 ·obtain ⟨v,z⟩:=I.cell x c e
  exact ⟨v,cellK x c e v z⟩
 ·obtain ⟨m,⟨o,_,_,ho,_⟩,_⟩:=I.loc
  exact free _ o (λz=>(hch _ z).2.1 rfl) ho I.free
 ·obtain ⟨v,o,ho,hd⟩:=I.cell x c e
  exact free c o (λz=>(hch c z).2.2.1 x c e rfl) ho (I.freeC x c e)
 ·obtain ⟨e,n,ne,nf,d⟩:=I.pin p hp
  have nch:p.1∉ch:=λz=>(hch p.1 z).2.2.2 p hp rfl
  exact ⟨keep p.1 p.2 ne nf nch e n,free p.1 p.2 nch e n,ne,nf,d⟩
theorem Inv.un (I:Inv X pins σ H s)(u:Un X.fs [] H H' s.heap h')(hok:cJ X.prog X.w H' h'):Inv X pins σ H' {s with heap:=h',toks:=t'}:=by
 obtain ⟨m,⟨o,es,ep,ho,r⟩,_⟩:=id I.loc
 obtain ⟨sl,hL⟩:=u.any ho I.free (by simp)
 exact I.step (g':=s.gens) (d':=s.drawn) (ch:=[]) (λ_ z=>nomatch z) (λb o _ hb _ e n=>u.keep b o e n hb (by simp)) (λb o _ hb _ e n=>u.slot b o e n hb (by simp)) (λb o _ e n=>u.free b o e n (by simp)) (λb o _ e=>u.there b o e (by simp)) u.tups u.frzs u.tbls (λm' hm=>by
  obtain ⟨o',es',ep',ho',r'⟩:=hm
  rw [ho] at ho';cases ho'
  exact ⟨_,es',ep',hL,r'⟩) hok I.bare
theorem Inv.call {g':Array GenState}{d':Drawn}(I:Inv X pins σ H s)(u:Un (gu X.stack) ch H H' s.heap h')(hok:cJ X.prog X.w H' h')(hg:AllBare g')
 (hch:∀b∈ch,(b∈X.ex∨X.s₀.heap.objs.size<=b)/\b≠X.env.locals/\(∀x c,X.env.cells.lookup x=some c->c≠b)/\∀p∈X.pn++pins,p.1≠b):
 Inv X pins σ H' {s with heap:=h',gens:=g',drawn:=d',toks:=t'}:=by
 obtain ⟨m,⟨o,es,ep,ho,r⟩,_⟩:=id I.loc
 obtain ⟨sl,hL⟩:=u.any ho I.free λz=>(hch _ z).2.1 rfl
 exact I.step (ch:=ch) hch (λb o hL hb hc e n=>u.keep b o e n (λz=>(List.mem_cons.mp (I.mE b z)).elim hL hb) hc) (λb o _ _ hc e n=>u.any e n hc) (λb o hc e n=>u.free b o e n hc) (λb o hc e=>u.there b o e hc) u.tups u.frzs u.tbls (λm' hm=>by
  obtain ⟨o',es',ep',ho',r'⟩:=hm
  rw [ho] at ho';cases ho'
  exact ⟨_,es',ep',hL,r'⟩) hok hg
theorem Inv.turned {it:Addr}(I:Inv X pins σ H s)(k:∀b o,b≠it->s.heap.get? b=some o->h'.get? b=some o)(hn:H it=none)(hL:it≠X.env.locals)
 (h1:it∈X.ex∨X.s₀.heap.objs.size<=it) (h2:∀x c,X.env.cells.lookup x=some c->c≠it) (h3:∀p∈X.pn++pins,p.1≠it):Inv X pins σ H {s with heap:=h',toks:=t'}:=by
 have nit:∀b u,H b=some u->b≠it:=λb u e z=>by rw [z,hn] at e;cases e
 refine I.step (g':=s.gens) (d':=s.drawn) (ch:=[it]) (λb hb=>?_) (λb o _ _ hc e _=>k b o (λz=>hc (by simp [z])) e) (λb o _ _ hc e _=>⟨o.slots,k b o (λz=>hc (by simp [z])) e⟩) (λ_ _ _ _ n=>n)
  (λb o hc e=>⟨o,k b o (λz=>hc (by simp [z])) e⟩) (λ_ _ e=>e) (λ_ _ _ e=>e) (λb ps e=>⟨#[],by rw [e];simp⟩) (λm hm=>?_) (λb u e=>?_) I.bare
 ·have e:b=it:=by simpa using hb
  subst e
  exact ⟨h1,hL,h2,h3⟩
 ·obtain ⟨o,es,ep,ho,r⟩:=hm
  exact ⟨o,es,ep,k _ o (Ne.symm hL) ho,r⟩
 ·refine (I.hok b u e).ic (λc v hc q=>k c v ?_ q) (λ_ q=>q) λ_ _ q=>q
  rcases hc with z | z
  ·rw [z];exact nit b u e
  ·exact nit c _ z
theorem Inv.tok (I:Inv X pins σ H s)(t:Nat):Inv X pins σ H {s with toks:=t}:=I.un (h':=s.heap) (t':=t) Un.refl I.hok
theorem Inv.kept (I:Inv X pins σ H s)(k:∀b u,s.heap.get? b=some u->h'.get? b=some u):Inv X pins σ H {s with heap:=h',toks:=t'}:=I.un (Un.kept k) (I.hok.kept k)
theorem Inv.laid {a:Addr}{o:HO}(I:Inv X pins σ H s)(k:∀b u,s.heap.get? b=some u->h'.get? b=some u)(hp:s.heap.objs.size<=a)(new:bM X.prog X.w (upd H a o) h' a o):
 Inv X pins σ (upd H a o) {s with heap:=h',toks:=t'}:=I.un (Un.laid k hp (I.hok.fresh hp)) (I.hok.laid k hp new)
theorem Inv.write {x e:Addr}{o:HO}(I:Inv X pins σ H s)(mu:sr (H x))(he:e=x∨H e=some (.own x))(k:∀b u,b≠e->s.heap.get? b=some u->h'.get? b=some u)(heo:∃u,h'.get? e=some u)
 (new:bM X.prog X.w (upd H x o) h' x o):Inv X pins σ (upd H x o) {s with heap:=h',toks:=t'}:=I.un (Un.write mu he k heo) (I.hok.write mu he k heo new)
theorem Inv.fb {pins':List (Addr×Obj)}(I:Inv X pins σ H s)(h:∀p∈pins',s.heap.get? p.1=some p.2/\H p.1=none/\p.1≠X.env.locals/\p.1∉X.fs/\∀v,p.2.data≠ .cell v):Inv X pins' σ H s:=
 ⟨I.ok,I.os,I.bare,I.base,I.loc,I.cell,I.free,I.freeC,λp hp=>(List.mem_append.mp hp).elim (λz=>I.pin p (List.mem_append_left _ z)) (h p),I.hok,I.len⟩
theorem mi {N:List Str}(hN:N.Nodup){j:Nat}(a:N[i]?=some x)(b:N[j]?=some x):i=j:=by
 obtain ⟨h1,e1⟩:=List.getElem?_eq_some_iff.mp a
 obtain ⟨h2,e2⟩:=List.getElem?_eq_some_iff.mp b
 exact (List.getElem_inj hN).mp (e1.trans e2.symm)
theorem k9 {M:Model}{A:Around}{E:Value->Shared->Prop}{v:V}{u:Value}{Q:Unit->Shared->Prop}(I:Inv X pins σ H s)(hN:X.N.Nodup)(hi:X.N[i]?=some x)(hx:Loc X.env.scope x)(r:RelV v u)
 (h:∀s',Inv X pins (σ.set i (some v)) H s'->(∃a,Heap.SameBut a s.heap s'.heap/\(a=X.env.locals∨X.env.cells.lookup x=some a))->Q () s') (hf:X.fn x=true∨X.env.scope.names.lookup x=some .local:=by first | exact .inl rfl | exact .inr rfl | assumption):wpAny M A (storeName X.env x u) Q E s:=by
 obtain ⟨m,hn,hl⟩:=id I.loc
 have hcls:(X.env.scope.kind== .class ||(X.env.scope.kind== .module&&X.env.locals != X.env.globals))=false:=by rw [I.ok.kind];rfl
 have hiσ:i < σ.length:=by rw [I.len];exact (List.getElem?_eq_some_iff.mp hi).1
 have cne:=I.cne
 have tracked:∀{a:Addr} {h':Heap},(∃o,s.heap.get? a=some o/\H a=none)->Heap.SameBut a s.heap h'->cJ X.prog X.w H h':=λ{a h'} ha hs b ob e=>by
  obtain ⟨_,_,hfree⟩:=ha
  refine (I.hok b ob e).ic (λc w' hc q=>(hs.2 c ?_).trans q) (λ_ q=>q) λ_ _ q=>q
  rintro rfl
  rcases hc with rfl | hc
  ·rw [hfree] at e;cases e
  ·rw [hfree] at hc;cases hc
 rcases hx with hk | hk
 ·refine wpAny_storeName_local hk hn (λh' hn' hs=>?_) hcls
  obtain ⟨oL,_,_,hoL,_⟩:=id hn
  refine h _ ⟨I.ok,I.os,I.bare,⟨λb o e n hb hx=>?_,λb o e n hb hx=>?_,I.base.free,λb o e hx=>?_,I.base.tups,I.base.frzs,I.base.tbls⟩,⟨_,hn',λj y v' e1 e2 e3=>?_⟩,λy c e=>?_,I.free,I.freeC,λp hp=>?_,tracked ⟨oL,hoL,I.free⟩ hs,by simpa using I.len⟩ ⟨_,hs,.inl rfl⟩
  ·exact (hs.2 b (Nat.ne_of_lt (Nat.lt_of_lt_of_le (Heap.lt_size e) I.ok.above))).trans (I.base.keep b o e n hb hx)
  ·obtain ⟨sl,e1⟩:=I.base.slot b o e n hb hx
   exact ⟨sl,(hs.2 b (Nat.ne_of_lt (Nat.lt_of_lt_of_le (Heap.lt_size e) I.ok.above))).trans e1⟩
  ·obtain ⟨o',e1⟩:=I.base.there b o e hx
   exact ⟨o',(hs.2 b (Nat.ne_of_lt (Nat.lt_of_lt_of_le (Heap.lt_size e) I.ok.above))).trans e1⟩
  ·by_cases hj:j=i
   ·subst hj
    rw [hi] at e1;cases e1
    rw [List.getElem?_set_self hiσ] at e2
    cases e2
    exact ⟨u,r,.inl ⟨hk,by simp⟩⟩
   ·rw [List.getElem?_set_ne (Ne.symm hj)] at e2
    obtain ⟨u',r',q⟩:=hl j y v' e1 e2 e3
    refine ⟨u',r',?_⟩
    rcases q with ⟨k,e⟩ | ⟨k,c,e,z⟩
    ·refine .inl ⟨k,?_⟩
     have:y≠x:=λe=>hj (mi hN e1 (e▸hi))
     simp [this,e]
    ·exact .inr ⟨k,c,e,z.sameBut hs (cne y c e)⟩
  ·obtain ⟨w',z⟩:=I.cell y c e
   exact ⟨w',z.sameBut hs (cne y c e)⟩
  ·obtain ⟨e,n,ne,nf,d⟩:=I.pin p hp
   exact ⟨(hs.2 p.1 ne).trans e,n,ne,nf,d⟩
 ·have hfn:X.fn x=true:=by
   rcases hf with z | z
   ·exact z
   ·rw [z] at hk;cases hk
  obtain ⟨c,hc⟩:=I.ok.has x (.inl hk)
  obtain ⟨w',z⟩:=I.cell x c hc
  refine wpAny_storeName_cell I.ok.kind hk hc z (λh' hc' hs=>?_)
  obtain ⟨oc,hoc,hocd⟩:=id z
  refine h {s with heap:=h'} ⟨I.ok,I.os,I.bare,⟨λb o e n hb hx=>?_,λb o e n hb hx=>?_,I.base.free,λb o e hx=>?_,I.base.tups,I.base.frzs,I.base.tbls⟩,⟨m,hn.sameBut hs (Ne.symm (cne x c hc)),λj y v' e1 e2 e3=>?_⟩,λy c' e=>?_,I.free,I.freeC,λp hp=>?_,tracked ⟨oc,hoc,I.freeC x c hc⟩ hs,by simpa using I.len⟩ ⟨c,hs,.inr hc⟩
  ·exact (hs.2 b (Nat.ne_of_lt (Nat.lt_of_lt_of_le (Heap.lt_size e) (I.ok.cab x c hfn hc)))).trans (I.base.keep b o e n hb hx)
  ·obtain ⟨sl,e1⟩:=I.base.slot b o e n hb hx
   exact ⟨sl,(hs.2 b (Nat.ne_of_lt (Nat.lt_of_lt_of_le (Heap.lt_size e) (I.ok.cab x c hfn hc)))).trans e1⟩
  ·obtain ⟨o',e1⟩:=I.base.there b o e hx
   exact ⟨o',(hs.2 b (Nat.ne_of_lt (Nat.lt_of_lt_of_le (Heap.lt_size e) (I.ok.cab x c hfn hc)))).trans e1⟩
  ·by_cases hj:j=i
   ·subst hj
    rw [hi] at e1;cases e1
    rw [List.getElem?_set_self hiσ] at e2
    cases e2
    exact ⟨u,r,.inr ⟨.inl hk,c,hc,hc'⟩⟩
   ·rw [List.getElem?_set_ne (Ne.symm hj)] at e2
    obtain ⟨u',r',q⟩:=hl j y v' e1 e2 e3
    refine ⟨u',r',?_⟩
    rcases q with q | ⟨k,c',e,z'⟩
    ·exact .inl q
    ·refine .inr ⟨k,c',e,z'.sameBut hs ?_⟩
     rintro rfl
     exact hj (mi hN e1 (I.ok.inj _ _ _ e hc▸hi))
  ·by_cases hcc:c'=c
   ·subst hcc;exact ⟨_,hc'⟩
   ·obtain ⟨w2,z2⟩:=I.cell y c' e
    exact ⟨w2,z2.sameBut hs hcc⟩
  ·obtain ⟨e,n,ne,nf,d⟩:=I.pin p hp
   refine ⟨(hs.2 p.1 ?_).trans e,n,ne,nf,d⟩
   intro q
   rw [q,hoc] at e
   have q':oc=p.2:=Option.some.inj e
   exact d w' (by rw [← q'];exact hocd)
theorem iZ {M:Model}{A:Around}{E:Value->Shared->Prop}{v:V}{u:Value}{Q:Unit->Shared->Prop}(I:Inv X pins σ H s)(hN:X.N.Nodup)(hi:X.N[i]?=some x)(hx:Loc X.env.scope x)(r:RelV v u)
 (h:∀s',Inv X pins (σ.set i (some v)) H s'->Q () s') (hf:X.fn x=true∨X.env.scope.names.lookup x=some .local:=by first | exact .inl rfl | exact .inr rfl | assumption):wpAny M A (storeName X.env x u) Q E s:=
 k9 I hN hi hx r (λs' I' _=>h s' I') hf
theorem Inv.AV {s':Shared}(I:Inv X pins σ H s)(ho:s'.os=s.os)(u:Un (gu X.stack) ch H H' s.heap s'.heap)(hok:cJ X.prog X.w H' s'.heap)(hg:AllBare s'.gens)
 (hch:∀b∈ch,(b∈X.ex∨X.s₀.heap.objs.size<=b)/\b≠X.env.locals/\(∀x c,X.env.cells.lookup x=some c->c≠b)/\∀p∈X.pn++pins,p.1≠b):Inv X pins σ H' s':=by
 obtain ⟨h',g',d',t',o'⟩:=s'
 have e:o'=s.os:=ho
 subst e
 exact I.call (g':=g') (t':=t') (d':=d') u hok hg hch
end
abbrev XK:=Value->Option Addr->Hp->Prop
abbrev St:=List (Option V)
abbrev VK:=V->Hp->Prop
abbrev TE:=St->Hp->VK->Prop
abbrev TT:=St->Hp->(Bool->Hp->Prop)->Prop
abbrev TA:=St->Hp->(List V->Hp->Prop)->Prop
structure Ends where
 nx:St->Hp->Prop
 rt:VK
 bk:St->Hp->Prop:=λ_ _=>False
 ct:St->Hp->Prop:=λ_ _=>False
abbrev TS:=Ends->St->Hp->Prop
def EP (X:Cx)(pins:List (Addr×Obj))(σ:St)(Q:VK)(u:Value)(s':Shared):Prop:=∃v H',Inv X pins σ H' s'/\RelV v u/\Q v H'
def TP (X:Cx)(pins:List (Addr×Obj))(σ:St)(Q:Bool->Hp->Prop)(b:Bool)(s':Shared):Prop:=∃H',Inv X pins σ H' s'/\Q b H'
def AP (X:Cx)(pins:List (Addr×Obj))(σ:St)(Q:List V->Hp->Prop)(us:List Value)(s':Shared):Prop:=∃vs H',Inv X pins σ H' s'/\Vals vs us/\Q vs H'
def SP (X:Cx)(pins:List (Addr×Obj))(D:Ends)(f:Flow)(s':Shared):Prop:=
 match f with
 | .next=>∃σ' H',Inv X pins σ' H' s'/\D.nx σ' H'
 | .brk=>∃σ' H',Inv X pins σ' H' s'/\D.bk σ' H'
 | .cont=>∃σ' H',Inv X pins σ' H' s'/\D.ct σ' H'
 | .ret u=>∃v σ' H',Inv X pins σ' H' s'/\RelV v u/\D.rt v H'
def PE (X:Cx)(e:Expr)(t:TE):Prop:=
 ∀(pins:List (Addr×Obj)) (s:Shared) (σ:St) (H:Hp) (Q:VK),Inv X pins σ H s->t σ H Q->wpAny (model X.prog X.w) X.A (eval e X.env) (EP X pins σ Q) X.xe s
def PT (X:Cx)(e:Expr)(t:TT):Prop:=
 ∀(pins:List (Addr×Obj)) (s:Shared) (σ:St) (H:Hp) (Q:Bool->Hp->Prop),Inv X pins σ H s->t σ H Q->wpAny (model X.prog X.w) X.A (isTrue e X.env (eval e X.env)) (TP X pins σ Q) X.xe s
def PW (X:Cx)(e:Expr)(t:TT):Prop:=
 ∀(whole:Sem Value) (pins:List (Addr×Obj)) (s:Shared) (σ:St) (H:Hp) (Q:Bool->Hp->Prop),Inv X pins σ H s->t σ H Q->wpAny (model X.prog X.w) X.A (isTrue e X.env whole) (TP X pins σ Q) X.xe s
theorem PW.pt {X:Cx}{e:Expr}{t:TT}(h:PW X e t):PT X e t:=h _
def PA (X:Cx)(es:List Expr)(t:TA):Prop:=
 ∀(pos:Pos) (pins:List (Addr×Obj)) (s:Shared) (σ:St) (H:Hp) (Q:List V->Hp->Prop),Inv X pins σ H s->t σ H Q->wpAny (model X.prog X.w) X.A (spliced (backTo pos (starEach es X.env))) (AP X pins σ Q) X.xe s
def PS (X:Cx)(st:Stmt)(t:TS):Prop:=
 ∀(pins:List (Addr×Obj)) (s:Shared) (σ:St) (H:Hp) (D:Ends),Inv X pins σ H s->t D σ H->wpAny (model X.prog X.w) X.A (exec st X.env) (SP X pins D) X.xe s
def fg (X:Cx)(st:List Stmt)(t:TS):Prop:=
 ∀(pins:List (Addr×Obj)) (s:Shared) (σ:St) (H:Hp) (D:Ends),Inv X pins σ H s->t D σ H->wpAny (model X.prog X.w) X.A (execs st X.env) (SP X pins D) X.xe s
theorem aG {α:Type}{t:Sem α}{Q Q':α->Shared->Prop}{M:Model}{A:Around}{E:Value->Shared->Prop}{s:Shared}(h:wpAny M A t Q E s)(hQ:∀a s,Q a s->Q' a s):wpAny M A t Q' E s:=wpAny_mono h hQ λ_ _ x=>x
section
variable {X:Cx}
def BJ (i:Nat):TE:=λσ H Q=>∃v,σ[i]?=some (some v)/\Q v H
def tC (v:V):TE:=λ_ H Q=>Q v H
theorem aP {i:Nat}{x:Str}{pos:Pos}(hN:X.N[i]?=some x)(hv:bT X.env.scope x)(hd:(x==("__debug__":Str))=false:=by decide)(hcd:(x==("__classdict__":Str))=false:=by decide):PE X (.Name x pos) (BJ i):=by
 intro pins s σ H Q I h
 obtain ⟨v,e,h⟩:=h
 obtain ⟨m,hn,hl⟩:=I.loc
 obtain ⟨u,r,l⟩:=hl i x v hN e hv
 have fin:EP X pins σ Q u s:=⟨v,H,I,r,h⟩
 rcases l with ⟨hk,hm⟩ | ⟨hk,c,hc,hcell⟩
 ·exact wpAny_Name (wpAny_loadName_local I.ok.kind hk hn hm fin) hd
 ·rcases hk with hk | hk
  ·exact wpAny_Name (wpAny_loadName_cell I.ok.kind hk hc hcell fin) hd
  ·exact wpAny_Name (wpAny_loadName_free I.ok.kind hk hc hcell fin hcd) hd
theorem dq {i j pos}:PE X (.Constant (.int i) j pos) (tC (.int i)):=λ_ _ _ H _ I h=>wpAny_Constant_int ⟨.int i,H,I.tok _,⟨_,rfl⟩,h⟩
theorem pf {b j pos}:PE X (.Constant (.bool b) j pos) (tC (.bl b)):=λ_ _ _ H _ I h=>Constant_bool ⟨.bl b,H,I,rfl,h⟩
def Gl (X:Cx)(x:Str):Prop:=X.env.kindOf x=some .globalImplicit
theorem oW {E:Value->Shared->Prop}{pins:List (Addr×Obj)}{s:Shared}{σ:St}{H:Hp}{x:Str}{u:Value}{pos:Pos}{Q:Value->Shared->Prop}(I:Inv X pins σ H s)(hg:Gl X x)(hm:X.mg x=some u)(h:Q u s)
 (hd:(x==("__debug__":Str))=false:=by decide):wpAny (model X.prog X.w) X.A (eval (.Name x pos) X.env) Q E s:=
 Calls.Name_function_global I.ok.kind hg (Calls.loadGlobal_global (by rw [I.ok.glob];exact I.mod.glob.keeps I.bk) hm h) hd
theorem eU {E:Value->Shared->Prop}{pins:List (Addr×Obj)}{s:Shared}{σ:St}{H:Hp}{x:Str}{u:Value}{pos:Pos}{Q:Value->Shared->Prop}(I:Inv X pins σ H s)(hg:Gl X x)(hm:X.mg x=none)(hv:bootBuiltins x=some u)(h:Q u s)
 (hn:x≠"__name__":=by decide) (hd:(x==("__debug__":Str))=false:=by decide):wpAny (model X.prog X.w) X.A (eval (.Name x pos) X.env) Q E s:=by
 obtain ⟨mb,h1,h2⟩:=I.mod.blt
 exact Calls.Name_function_global I.ok.kind hg (Calls.loadGlobal_builtin (by rw [I.ok.glob];exact I.mod.glob.keeps I.bk) hm (by rw [I.ok.blt];exact h1.keeps I.bk) ((h2 x hn).trans hv) h) hd
theorem ot {x:Str}{v:V}{u:Value}{pos:Pos}(hg:Gl X x)(hm:X.mg x=some u)(r:RelV v u)(hd:(x==("__debug__":Str))=false:=by decide):PE X (.Name x pos) (tC v):=
 λ_ _ _ H _ I h=>oW I hg hm ⟨v,H,I,r,h⟩ hd
theorem vY {x:Str}{v:V}{u:Value}{pos:Pos}(hg:Gl X x)(hm:X.mg x=none)(hv:bootBuiltins x=some u)(r:RelV v u)(hn:x≠"__name__":=by decide)(hd:(x==("__debug__":Str))=false:=by decide):PE X (.Name x pos) (tC v):=
 λ_ _ _ H _ I h=>eU I hg hm hv ⟨v,H,I,r,h⟩ hn hd
variable {a b:Expr}{ta tb:TE}{pos:Pos}
def PC (X:Cx)(op:CmpOp)(a b:Expr)(t:TE):Prop:=
 ∀(pins:List (Addr×Obj)) (s:Shared) (σ:St) (H:Hp) (Q:VK),Inv X pins σ H s->t σ H Q->
  wpAny (model X.prog X.w) X.A (eval a X.env) (λv s₁=>wpAny (model X.prog X.w) X.A (eval b X.env) (λu s₂=>wpAny (model X.prog X.w) X.A (compareOp op v u) (EP X pins σ Q) X.xe s₂) X.xe s₁) X.xe s
def tB (t:TE):TT:=λσ H Q=>t σ H λx H1=>∃c,x= .bl c/\Q c H1
theorem rK {op:CmpOp}{t:TE}(h:PC X op a b t)(h1:behindInMarks op b=false:=by first | exact nobehind _ (by decide) (by decide) | rfl):PE X (.Compare a [op] [b] pos) t:=λpins s σ H Q I hw=>wpAny_Compare1 (h pins s σ H Q I hw) h1
theorem qT {op:CmpOp}{t:TE}(h:PC X op a b t)(h1:behindInMarks op b=false:=by first | exact nobehind _ (by decide) (by decide) | rfl):PT X (.Compare a [op] [b] pos) (tB t):=by
 intro pins s σ H Q I hw
 refine wpAny_isTrue_Compare1 (aG (h pins s σ H _ I hw) λv s1 h1=>aG h1 λu s2 h2=>aG h2 λc s3 ⟨x,H1,I1,r1,q1⟩=>?_) h1
 obtain ⟨d,rfl,q⟩:=q1
 cases r1
 exact wpAny_truthy_bool ⟨H1,I1,q⟩
theorem yv {e:Expr}{t:TE}(h:PE X e t)(he:∀whole,isTrue e X.env whole=(do let v ← whole;standAt e.pos;holding [v] (truthy v)):=by intro _;rfl):PT X e (tB t):=by
 intro pins s σ H Q I hw
 refine isTrue_plain (aG (h pins s σ H _ I hw) λv s1 ⟨x,H1,I1,r1,q1⟩=>?_) (he _)
 obtain ⟨d,rfl,q⟩:=q1
 cases r1
 exact wpAny_truthy_bool ⟨H1,I1,q⟩
variable {tA tB':TT}{rest:List Expr}
def Ca (t u:TT):TT:=λσ H Q=>t σ H λc H1=>if c=true then u σ H1 Q else Q false H1
def tOr (t u:TT):TT:=λσ H Q=>t σ H λc H1=>if c=true then Q true H1 else u σ H1 Q
def B7 (t:TT):TT:=λσ H Q=>t σ H λc H1=>Q (!c) H1
theorem og (ha:PT X a tA):PW X (.BoolOp .And [a] pos) tA:=by
 intro wh pins s σ H Q I h
 refine isTrue_and (aG (ha pins s σ H Q I h) λc s1 e=>?_)
 cases c with
 | true=>exact isTrue_and_nil e
 | false=>exact e
theorem xc (ha:PT X a tA):PW X (.BoolOp .Or [a] pos) tA:=by
 intro wh pins s σ H Q I h
 refine isTrue_or (aG (ha pins s σ H Q I h) λc s1 e=>?_)
 cases c with
 | false=>exact isTrue_or_nil e
 | true=>exact e
theorem qP (ha:PT X a tA)(hb:PW X (.BoolOp .And (b::rest) pos) tB'):PW X (.BoolOp .And (a::b::rest) pos) (Ca tA tB'):=by
 intro wh pins s σ H Q I h
 refine isTrue_and (aG (ha pins s σ H _ I h) λc s1 ⟨H1,I1,q1⟩=>?_)
 cases c with
 | true=>exact hb wh pins s1 σ H1 Q I1 q1
 | false=>exact ⟨H1,I1,q1⟩
theorem zH (ha:PT X a tA)(hb:PW X (.BoolOp .Or (b::rest) pos) tB'):PW X (.BoolOp .Or (a::b::rest) pos) (tOr tA tB'):=by
 intro wh pins s σ H Q I h
 refine isTrue_or (aG (ha pins s σ H _ I h) λc s1 ⟨H1,I1,q1⟩=>?_)
 cases c with
 | true=>exact ⟨H1,I1,q1⟩
 | false=>exact hb wh pins s1 σ H1 Q I1 q1
theorem zE (ha:PT X a tA):PT X (.UnaryOp .Not a pos) (B7 tA):=by
 intro pins s σ H Q I h
 exact isTrue_not (ha pins s σ H (λc H1=>Q (!c) H1) I h)
def z3 (ta tb:TE):TE:=λσ H Q=>ta σ H λx H1=>∃c,x= .bl c/\if c=true then tb σ H1 Q else Q (.bl false) H1
def B0 (ta tb:TE):TE:=λσ H Q=>ta σ H λx H1=>∃c,x= .bl c/\if c=true then Q (.bl true) H1 else tb σ H1 Q
def Am (ta:TE):TE:=λσ H Q=>ta σ H λx H1=>∃c,x= .bl c/\Q (.bl (!c)) H1
theorem y3 {op}{t:TE}(h:PE X a t):PE X (.BoolOp op [a] pos) t:=λpins s σ H Q I hw=>BoolOp_one (h pins s σ H Q I hw)
theorem xF (ha:PE X a ta)(hb:PE X (.BoolOp .And (b::rest) pos) tb):PE X (.BoolOp .And (a::b::rest) pos) (z3 ta tb):=by
 intro pins s σ H Q I h
 refine BoolOp_and (aG (ha pins s σ H _ I h) λv s1 ⟨x,H1,I1,r1,q1⟩=>?_)
 obtain ⟨c,rfl,q1⟩:=q1
 cases r1
 refine wpAny_truthy_bool ?_
 cases c with
 | true=>exact hb pins s1 σ H1 Q I1 q1
 | false=>exact ⟨.bl false,H1,I1,rfl,q1⟩
theorem zJ (ha:PE X a ta)(hb:PE X (.BoolOp .Or (b::rest) pos) tb):PE X (.BoolOp .Or (a::b::rest) pos) (B0 ta tb):=by
 intro pins s σ H Q I h
 refine BoolOp_or (aG (ha pins s σ H _ I h) λv s1 ⟨x,H1,I1,r1,q1⟩=>?_)
 obtain ⟨c,rfl,q1⟩:=q1
 cases r1
 refine wpAny_truthy_bool ?_
 cases c with
 | false=>exact hb pins s1 σ H1 Q I1 q1
 | true=>exact ⟨.bl true,H1,I1,rfl,q1⟩
theorem xD (ha:PE X a ta):PE X (.UnaryOp .Not a pos) (Am ta):=by
 intro pins s σ H Q I h
 refine UnaryOp_ (aG (ha pins s σ H _ I h) λv s1 ⟨x,H1,I1,r1,q1⟩=>?_)
 obtain ⟨c,rfl,q1⟩:=q1
 cases r1
 exact not_of (wpAny_truthy_bool ⟨.bl (!c),H1,I1,rfl,q1⟩)
end
def aH (K:PySem.W.Frag)(H:Hp)(a:Addr)(xs:List V):Prop:=
 Rd H a (.lst xs)∨
  ∃(o:Obj) (its:Array Value) (n:Nat),K.lookup a=some o/\o.cls= .type "list"/\o.dict=none/\o.data= .seq its n/\its.size<=sizeLine/\Vals xs its.toList
def cU (K:PySem.W.Frag)(H:Hp)(a:Addr)(xs:List V):Prop:=
 Rd H a (.tup xs)∨
  ∃(o:Obj) (its:Array Value) (n:Nat),K.lookup a=some o/\o.cls= .type "tuple"/\o.data= .seq its n/\its.size<=sizeLine/\Vals xs its.toList
def Cf:Value->Option V
 | .none=>some .non
 | .bool b=>some (.bl b)
 | .int i _=>some (.int i)
 | .str x _=>some (.str x)
 | .bytes b _=>some (.byt b)
 | .float b _=>some (.flt b)
 | .ref a=>some (.ref a)
 | .type n=>some (.ty n)
 | _=>none
theorem RelV.abs {x:V}{u:Value}(r:RelV x u):Cf u=some x:=by
 cases x with
 | non=>cases r;rfl
 | bl _=>cases r;rfl
 | int _=>obtain ⟨t,rfl⟩:=r;rfl
 | str _=>obtain ⟨t,rfl⟩:=r;rfl
 | byt _=>obtain ⟨t,rfl⟩:=r;rfl
 | flt _=>obtain ⟨t,rfl⟩:=r;rfl
 | ref _=>cases r;rfl
 | ty _=>cases r;rfl
theorem RelV.inj {x y:V}{u:Value}(r:RelV x u)(q:RelV y u):x=y:=Option.some.inj (r.abs.symm.trans q.abs)
theorem Vals.inj:∀{xs ys:List V} {us:List Value},Vals xs us->Vals ys us->xs=ys
 | _,_,_,.nil,.nil=>rfl
 | _,_,_,.cons r t,.cons r' t'=>by rw [r.inj r',Vals.inj t t']
section
variable {X:Cx}{pins:List (Addr×Obj)}{σ:St}{H:Hp}{s:Shared}{a:Addr}{xs ys:List V}
theorem aH.of {K:PySem.W.Frag}(h:H a=some (.lst xs)):aH K H a xs:=.inl (.inl h)
theorem cU.of {K:PySem.W.Frag}(h:H a=some (.tup xs)):cU K H a xs:=.inl (.inl h)
theorem Inv.list (I:Inv X pins σ H s)(h:aH X.K H a xs):∃its:List Value,Vals xs its/\PlainL s.heap a its.toArray/\xs.length<=sizeLine:=by
 rcases h with h | ⟨o,its,n,hk,hc,hd,hs,hz,r⟩
 ·obtain ⟨z,its,n,r,e⟩:=h.ok I.hok
  exact ⟨its,r,⟨_,n,e,rfl,rfl,rfl⟩,z⟩
 ·refine ⟨its.toList,r,⟨o,n,I.eR a o hk,hc,hd,by simpa using hs⟩,?_⟩
  have e:=r.length
  simp only [Array.length_toList] at e
  omega
theorem Inv.tuple (I:Inv X pins σ H s)(h:cU X.K H a xs):∃its:List Value,Vals xs its/\IsTup s.heap a its.toArray/\xs.length<=sizeLine:=by
 rcases h with h | ⟨o,its,n,hk,hc,hs,hz,r⟩
 ·obtain ⟨z,its,r,p⟩:=h.ok I.hok
  exact ⟨its,r,p,z⟩
 ·refine ⟨its.toList,r,⟨o,I.eR a o hk,hc,n,by simpa using hs⟩,?_⟩
  have e:=r.length
  simp only [Array.length_toList] at e
  omega
theorem Inv.nq (I:Inv X pins σ H s)(h:aH X.K H a xs)(h':aH X.K H a ys):xs=ys:=by
 obtain ⟨its,r,⟨o,n,e,_,_,d⟩,_⟩:=I.list h
 obtain ⟨its',r',⟨o',n',e',_,_,d'⟩,_⟩:=I.list h'
 rw [e] at e';cases e'
 rw [d] at d'
 injection d' with d1 _
 have:its=its':=by simpa using congrArg Array.toList d1
 subst this
 exact r.inj r'
theorem Inv.qD (I:Inv X pins σ H s)(h:cU X.K H a xs)(h':cU X.K H a ys):xs=ys:=by
 obtain ⟨its,r,⟨o,e,_,n,d⟩,_⟩:=I.tuple h
 obtain ⟨its',r',⟨o',e',_,n',d'⟩,_⟩:=I.tuple h'
 rw [e] at e';cases e'
 rw [d] at d'
 injection d' with d1 _
 have:its=its':=by simpa using congrArg Array.toList d1
 subst this
 exact r.inj r'
end
abbrev Cx.fU (X:Cx)(E:Value->Shared->Prop):Cx:={X with xe:=E}
abbrev Cx.g8 (X:Cx):Cx:=X.fU λ_ _=>False
theorem Cx.Ok.fU {X:Cx}(ok:X.Ok)(E:Value->Shared->Prop):(X.fU E).Ok:=
 ⟨ok.mod,ok.kind,ok.glob,ok.blt,ok.above,ok.inj,ok.has,ok.cab,ok.hd,ok.frames,ok.stk,ok.exf,ok.bs,ok.bsz,ok.noex,ok.exfs,ok.funs,ok.frf⟩
theorem Cx.Ok.eP {X:Cx}{E:Value->Shared->Prop}(ok:(X.fU E).Ok):X.Ok:=
 ⟨ok.mod,ok.kind,ok.glob,ok.blt,ok.above,ok.inj,ok.has,ok.cab,ok.hd,ok.frames,ok.stk,ok.exf,ok.bs,ok.bsz,ok.noex,ok.exfs,ok.funs,ok.frf⟩
section
variable {X:Cx}{pins:List (Addr×Obj)}{σ:St}{H:Hp}{s:Shared}{E:Value->Shared->Prop}
theorem Inv.fU (I:Inv X pins σ H s)(E:Value->Shared->Prop):Inv (X.fU E) pins σ H s:=⟨I.ok.fU E,I.os,I.bare,I.base,I.loc,I.cell,I.free,I.freeC,I.pin,I.hok,I.len⟩
theorem Inv.eP (I:Inv (X.fU E) pins σ H s):Inv X pins σ H s:=⟨I.ok.eP,I.os,I.bare,I.base,I.loc,I.cell,I.free,I.freeC,I.pin,I.hok,I.len⟩
theorem SP.eP {D:Ends}{f:Flow}{s':Shared}(h:SP (X.fU E) pins D f s'):SP X pins D f s':=by
 cases f with
 | next=>obtain ⟨σ',H',I,q⟩:=h;exact ⟨σ',H',I.eP,q⟩
 | brk=>obtain ⟨σ',H',I,q⟩:=h;exact ⟨σ',H',I.eP,q⟩
 | cont=>obtain ⟨σ',H',I,q⟩:=h;exact ⟨σ',H',I.eP,q⟩
 | ret u=>obtain ⟨v,σ',H',I,r,q⟩:=h;exact ⟨v,σ',H',I.eP,r,q⟩
theorem fg.g8 {st:List Stmt}{t:TS}(h:fg X.g8 st t):fg X st t:=λpins s σ H D I hw=>
 wpAny_mono (h pins s σ H D (I.fU _) hw) (λ_ _ q=>q.eP) λ_ _ z=>False.elim z
end
section
variable {X:Cx}{st:Stmt}{rest:List Stmt}{t u:TS}{e:Expr}{te:TE}{pos:Pos}
def A3:TS:=λD σ H=>D.nx σ H
def BL (t u:TS):TS:=λD σ H=>t {D with nx:=u D} σ H
theorem wy:fg X [] A3:=λ_ _ σ H _ I h=>wpAny_execs_nil ⟨σ,H,I,h⟩
theorem tU (h1:PS X st t)(h2:fg X rest u):fg X (st::rest) (BL t u):=by
 intro pins s σ H D I h
 refine wpAny_execs_cons (aG (h1 pins s σ H {D with nx:=u D} I h) λf s1 q=>?_)
 cases f with
 | next=>
   obtain ⟨σ',H',I',q⟩:=q
   exact h2 pins s1 σ' H' D I' q
 | ret v=>exact q
 | brk=>exact q
 | cont=>exact q
theorem vX (h1:PS X st t):fg X [st] t:=by
 intro pins s σ H D I h
 refine wpAny_execs_cons (aG (h1 pins s σ H D I h) λf s1 q=>?_)
 cases f with
 | next=>exact wpAny_execs_nil q
 | ret v=>exact q
 | brk=>exact q
 | cont=>exact q
theorem Inv.quiet {pins:List (Addr×Obj)}{σ:St}{H:Hp}{s:Shared}(I:Inv X pins σ H s):interactive X.env=false:=by simp [interactive,I.ok.kind]
def z7 (te:TE):TS:=λD σ H=>te σ H λ_ H1=>D.nx σ H1
theorem eu (he:PE X e te)(hs:swapsWith e none pos.line X.env=pure false:=by rfl):PS X (.Expr e pos) (z7 te):=by
 intro pins s σ H D I h
 exact wpAny_Expr_any (aG (he pins s σ H _ I h) λv s1 ⟨x,H1,I1,r1,q1⟩=>⟨σ,H1,I1,q1⟩) I.quiet hs
def BM (te:TE):TS:=λD σ H=>te σ H D.rt
theorem c7 (he:PE X e te):PS X (.Return (some e) pos) (BM te):=by
 intro pins s σ H D I h
 exact wpAny_Return_some (aG (he pins s σ H _ I h) λv s1 ⟨x,H1,I1,r1,q1⟩=>⟨x,σ,H1,I1,r1,q1⟩)
def Cj (c:TT)(t u:TS):TS:=λD σ H=>c σ H λb H1=>if b=true then t D σ H1 else u D σ H1
theorem zO {c:Expr}{a b:List Stmt}{tc:TT}(hc:PT X c tc)(ha:fg X a t)(hb:fg X b u):PS X (.If c a b pos) (Cj tc t u):=by
 intro pins s σ H D I h
 refine wpAny_If (aG (hc pins s σ H _ I h) λd s1 ⟨H1,I1,q1⟩=>?_)
 cases d with
 | true=>exact ha pins s1 σ H1 D I1 q1
 | false=>exact hb pins s1 σ H1 D I1 q1
end
abbrev TG:=V->St->Hp->(St->Hp->Prop)->Prop
abbrev jy:=List V->St->Hp->(St->Hp->Prop)->Prop
def PG (X:Cx)(target:Expr)(t:TG):Prop:=
 ∀(pins:List (Addr×Obj)) (s:Shared) (σ:St) (H:Hp) (v:V) (u:Value) (Q:St->Hp->Prop),Inv X pins σ H s->RelV v u->t v σ H Q->
  wpAny (model X.prog X.w) X.A (assign target X.env u) (λ_ s'=>∃σ' H',Inv X pins σ' H' s'/\Q σ' H') X.xe s
def qc (X:Cx)(ts:List Expr)(t:jy):Prop:=
 ∀(pins:List (Addr×Obj)) (s:Shared) (σ:St) (H:Hp) (vs:List V) (us:List Value) (Q:St->Hp->Prop),Inv X pins σ H s->Vals vs us->t vs σ H Q->
  wpAny (model X.prog X.w) X.A (assignInOrder ((assignEach ts X.env).map (·.2)) us) (λ_ s'=>∃σ' H',Inv X pins σ' H' s'/\Q σ' H') X.xe s
abbrev tN:=V->V->V->Hp->(Hp->Prop)->Prop
def yC (X:Cx)(t:tN):Prop:=
 ∀(pins:List (Addr×Obj)) (s:Shared) (σ:St) (H:Hp) (o i v:V) (ov iv u:Value) (Q:Hp->Prop),Inv X pins σ H s->RelV o ov->RelV i iv->RelV v u->t o i v H Q->
  wpAny (model X.prog X.w) X.A (setItem ov iv u) (λ_ s'=>∃H',Inv X pins σ H' s'/\Q H') X.xe s
abbrev uH:=V->V->Hp->VK->Prop
def xr (X:Cx)(op:Operator)(t:uH):Prop:=
 ∀(pins:List (Addr×Obj)) (s:Shared) (σ:St) (H:Hp) (x y:V) (v u:Value) (Q:VK),Inv X pins σ H s->RelV x v->RelV y u->t x y H Q->
  wpAny (model X.prog X.w) X.A (inplaceOp op v u) (EP X pins σ Q) X.xe s
section
variable {X:Cx}{pos:Pos}
variable {e:Expr}{i:Nat}{x:Str}{te:TE}
def lZ (i:Nat):TG:=λv σ H Q=>Q (σ.set i (some v)) H
theorem eh (hN:X.N.Nodup)(hi:X.N[i]?=some x)(hx:Loc X.env.scope x)(hf:X.fn x=true∨X.env.scope.names.lookup x=some .local:=by first | exact .inl rfl | exact .inr rfl | assumption):PG X (.Name x pos) (lZ i):=by
 intro pins s σ H v u Q I r h
 exact wpAny_assign_Name (iZ I hN hi hx r (λs' I'=>⟨_,H,I',h⟩) hf)
def Cg:jy:=λvs σ H Q=>vs=[]/\Q σ H
def z5 (t:TG)(u:jy):jy:=λvs σ H Q=>∃v r,vs=v::r/\t v σ H λσ' H'=>u r σ' H' Q
theorem ky:qc X [] Cg:=by
 intro pins s σ H vs us Q I r h
 obtain ⟨e,h⟩:=h
 subst e
 cases r
 exact assignInOrder_nil ⟨σ,H,I,h⟩
theorem eA {es:List Expr}{t:TG}{u:jy}(h1:PG X e t)(h2:qc X es u)
 (hs:(assignEach (e::es) X.env).map (·.2)=assign e X.env::(assignEach es X.env).map (·.2):=by rfl):qc X (e::es) (z5 t u):=by
 intro pins s σ H vs us Q I r h
 obtain ⟨v,vr,e1,h⟩:=h
 subst e1
 cases r with
 | cons r rr=>
   rw [hs]
   refine assignInOrder_cons (aG (h1 pins s σ H _ _ _ I r h) λ_ s1 ⟨σ1,H1,I1,q1⟩=>?_)
   exact h2 pins s1 σ1 H1 _ _ Q I1 rr q1
def BN (K:PySem.W.Frag)(n:Nat)(t:jy):TG:=λv σ H Q=>∃a xs,v= .ref a/\cU K H a xs/\xs.length=n/\t xs σ H Q
theorem yH {es:List Expr}{k:Nat}{t:jy}{n:Nat}(hc:X.calm=true)(h:qc X es t)
 (hn:(assignEach es X.env).length=n:=by rfl) (hst:(assignEach es X.env).findIdx? (·.1)=none:=by rfl):PG X (.Tuple es k pos) (BN X.K n t):=by
 intro pins s σ H v u Q I r hw
 obtain ⟨a,xs,e1,hq,hl,hw⟩:=hw
 subst e1
 cases r
 obtain ⟨its,rv,ht,hz⟩:=I.tuple hq
 refine assign_Tuple_tuple (I.ok.hd hc) ht (by simp [hn,← hl,rv.length]) hst λh' hx=>?_
 have I1:Inv X pins σ H {s with heap:=h'}:=I.kept (t':=s.toks) λb o e=>hx b o (Nat.ne_of_lt (Heap.lt_size e)) e
 exact h pins _ σ H xs _ Q I1 (by simpa using rv) hw
def B1 (to ti:TE)(t:tN):TG:=λv σ H Q=>to σ H λo H1=>ti σ H1 λi H2=>t o i v H2 λH3=>Q σ H3
theorem jR {o i:Expr}{to ti:TE}{t:tN}(ho:PE X o to)(hi:PE X i ti)(hs:yC X t)
 (ha:∀v,assign (.Subscript o i pos) X.env v=(do
  let ov ← holding [v] (eval o X.env)
  let iv ← holding [v,ov] (eval i X.env)
  standAt pos
  holding [v,ov,iv] (setItem ov iv v)
  release [v,ov,iv] []):=by intro _;rfl):PG X (.Subscript o i pos) (B1 to ti t):=by
 intro pins s σ H v u Q I r h
 rw [ha]
 refine wpAny_bind (wpAny_holding (aG (ho pins s σ H _ I h) λov s1 ⟨x,H1,I1,r1,q1⟩=>?_))
 refine wpAny_bind (wpAny_holding (aG (hi pins s1 σ H1 _ I1 q1) λiv s2 ⟨y,H2,I2,r2,q2⟩=>?_))
 refine wpAny_bind (wpAny_standAt (wpAny_bind (wpAny_holding (aG (hs pins s2 σ H2 x y v ov iv u _ I2 r1 r2 r q2) λ_ s3 ⟨H3,I3,q3⟩=>?_))))
 exact wpAny_release ⟨σ,H3,I3,q3⟩
def t9 (te:TE)(g:TG):TS:=λD σ H=>te σ H λx H1=>g x σ H1 D.nx
theorem fv {tg:Expr}{g:TG}(he:PE X e te)(hg:PG X tg g)(hs:swapsWithSole [tg] e pos.line X.env=pure false:=by rfl)(hw:swappedStores [tg] e X.env=pure none:=by rfl)
 (h1:(assignEach [tg] X.env).map (·.2)=[assign tg X.env]:=by rfl):PS X (.Assign [tg] e pos) (t9 te g):=by
 intro pins s σ H D I h
 refine wpAny_Assign_stores (aG (he pins s σ H _ I h) λv s1 ⟨x,H1,I1,r1,q1⟩=>?_) hs hw
 rw [h1]
 exact aG (hg pins s1 σ H1 x v _ I1 r1 q1) λ_ s2 q=>q
theorem fA {pos':Pos}(hN:X.N.Nodup)(hi:X.N[i]?=some x)(hx:Loc X.env.scope x)(he:PE X e te)(hs:swapsWith e (some (.Name x pos')) pos.line X.env=pure false:=by rfl)(hf:X.fn x=true∨X.env.scope.names.lookup x=some .local:=by first | exact .inl rfl | exact .inr rfl | assumption):
 PS X (.Assign [.Name x pos'] e pos) (t9 te (lZ i)):=by
 intro pins s σ H D I h
 refine wpAny_Assign_Name (aG (he pins s σ H _ I h) λv s1 ⟨y,H1,I1,r1,q1⟩=>?_) hs
 exact iZ I1 hN hi hx r1 (λs2 I2=>⟨_,H1,I2,q1⟩) hf
def B6 (i:Nat)(te:TE)(ti:uH):TS:=λD σ H=>∃x,σ[i]?=some (some x)/\te σ H λy H1=>ti x y H1 λz H2=>D.nx (σ.set i (some z)) H2
theorem rB {op:Operator}{ti:uH}{pos':Pos}(hN:X.N.Nodup)(hi:X.N[i]?=some x)(hx:Loc X.env.scope x)(he:PE X e te)(ho:xr X op ti)(hf:X.fn x=true∨X.env.scope.names.lookup x=some .local:=by first | exact .inl rfl | exact .inr rfl | assumption):
 PS X (.AugAssign (.Name x pos') op e pos) (B6 i te ti):=by
 intro pins s σ H D I h
 obtain ⟨v,e1,h⟩:=h
 obtain ⟨m,hn,hl⟩:=I.loc
 have vis:bT X.env.scope x:=by rcases hx with k | k;exact .inl k;exact .inr (.inl k)
 obtain ⟨u,r,l⟩:=hl i x v hi e1 vis
 refine wpAny_AugAssign_Name ?_
 have go:wpAny (model X.prog X.w) X.A (eval e X.env) (λw s₂=>wpAny (model X.prog X.w) X.A (inplaceOp op u w) (λr s₃=>wpAny (model X.prog X.w) X.A (storeName X.env x r) (λ_=>SP X pins D .next) X.xe s₃) X.xe s₂) X.xe s:=by
  refine aG (he pins s σ H _ I h) λw s1 ⟨y,H1,I1,r1,q1⟩=>?_
  refine aG (ho pins s1 σ H1 v y u w _ I1 r r1 q1) λz s2 ⟨zv,H2,I2,r2,q2⟩=>?_
  exact iZ I2 hN hi hx r2 (λs3 I3=>⟨_,H2,I3,q2⟩) hf
 rcases l with ⟨hk,hm⟩ | ⟨hk,c,hc,hcell⟩
 ·exact wpAny_loadName_local I.ok.kind hk hn hm go
 ·rcases hk with hk | hk
  ·exact wpAny_loadName_cell I.ok.kind hk hc hcell go
  ·rcases hx with k | k
   ·have:X.env.scope.names.lookup x=some .free:=hk
    rw [k] at this;cases this
   ·have:X.env.scope.names.lookup x=some .free:=hk
    rw [k] at this;cases this
def Bt (f:Int->Int->Int):uH:=λx y H Q=>∃i j,x= .int i/\y= .int j/\Q (.int (f i j)) H
theorem yK:xr X .Add (Bt λi j=>i + j):=by
 intro pins s σ H x y v u Q I r1 r2 h
 obtain ⟨i,j,e1,e2,q⟩:=h
 subst e1;subst e2
 obtain ⟨t,rfl⟩:=r1
 obtain ⟨t',rfl⟩:=r2
 exact iadd_int ⟨.int _,H,I.tok _,⟨_,rfl⟩,q⟩
theorem yI:xr X .Sub (Bt λi j=>i - j):=by
 intro pins s σ H x y v u Q I r1 r2 h
 obtain ⟨i,j,e1,e2,q⟩:=h
 subst e1;subst e2
 obtain ⟨t,rfl⟩:=r1
 obtain ⟨t',rfl⟩:=r2
 exact isub_int ⟨.int _,H,I.tok _,⟨_,rfl⟩,q⟩
end
section
variable {X:Cx}{pos:Pos}
def yS (c:TT)(tb:TS):TS:=λD σ H=>∃W:Nat->St->Hp->Prop,(∃m,W m σ H)/\∀m σ H,W m σ H->
 c σ H λb H1=>if b=true then∃N:St->Hp->Prop,(∀σ' H',N σ' H'->∃m',m' < m/\W m' σ' H')/\tb {D with nx:=N,ct:=N,bk:=D.nx} σ H1 else D.nx σ H1
theorem ue {c:Expr}{body:List Stmt}{tc:TT}{tb:TS}(hp:PassesOwn (model X.prog X.w) X.A X.env X.xe)(hc:PT X c tc)(hb:fg X body tb):PS X (.While c body [] pos) (yS tc tb):=by
 intro pins s σ H D I h
 obtain ⟨W,⟨m0,w0⟩,turn⟩:=h
 refine wpAny_While (codeAny_whileLoop (λn s'=>∃σ' H',Inv X pins σ' H' s'/\W n σ' H') ?_ m0 ⟨σ,H,I,w0⟩)
 rintro n s1 ⟨σ1,H1,I1,w1⟩
 refine wpAny_passesOwn hp (aG (hc pins s1 σ1 H1 _ I1 (turn n σ1 H1 w1)) λb s2 ⟨H2,I2,q2⟩=>?_)
 cases b with
 | true=>
   obtain ⟨N,hN,q2⟩:=q2
   rw [if_pos rfl]
   refine wpAny_passesOwn hp (aG (hb pins s2 σ1 H2 _ I2 q2) λf s3 q3=>?_)
   cases f with
   | next=>
     obtain ⟨σ3,H3,I3,n3⟩:=q3
     obtain ⟨m',hm,w3⟩:=hN σ3 H3 n3
     exact ⟨m',hm,σ3,H3,I3,w3⟩
   | cont=>
     obtain ⟨σ3,H3,I3,n3⟩:=q3
     obtain ⟨m',hm,w3⟩:=hN σ3 H3 n3
     exact ⟨m',hm,σ3,H3,I3,w3⟩
   | brk=>exact q3
   | ret v=>exact q3
 | false=>
   rw [if_neg Bool.false_ne_true]
   exact wpAny_execs_nil ⟨σ1,H2,I2,q2⟩
end
section
variable {tg:Expr}{P:Program}{w:World}{K:PySem.W.Frag}
structure It where
 go:Nat->Hp->Prop
 yld:Nat->Hp->V->Hp->Prop
 stop:Nat->Hp->Prop
def gH (X:Cx)(pins:List (Addr×Obj))(H:Hp)(b:Addr):Prop:=
 H b=none/\b≠X.env.locals/\b∉X.fs/\(b∈X.ex∨X.s₀.heap.objs.size<=b)/\(∀x c,X.env.cells.lookup x=some c->c≠b)/\∀p∈X.pn++pins,p.1≠b
theorem Inv.kI {X:Cx}{pins:List (Addr×Obj)}{σ:St}{H H':Hp}{s:Shared}{b:Addr}(I:Inv X pins σ H s)(hb:s.heap.objs.size<=b)(hn:H' b=none):gH X pins H' b:=by
 refine ⟨hn,Nat.ne_of_gt (Nat.lt_of_lt_of_le I.lt hb),I.B2 hb,.inr (Nat.le_trans I.sz hb),λx c e z=>?_,λp hp z=>?_⟩
 ·obtain ⟨v,q⟩:=I.cell x c e
  exact absurd (Nat.lt_of_lt_of_le q.lt (by rw [z];exact hb)) (Nat.lt_irrefl _)
 ·exact absurd (Nat.lt_of_lt_of_le (Heap.lt_size (I.pin p hp).1) (by rw [z];exact hb)) (Nat.lt_irrefl _)
structure Turn (P:Program) (w:World) (K:PySem.W.Frag) (tg:Expr) (J:It) (fp:List Addr) (it:Addr) (tn:Nat->Heap->Prop):Prop where
 mem:it∈fp
 obj:∀i h,tn i h->∀b∈fp,∃o,h.get? b=some o/\∀v,o.data≠ .cell v
 keep:∀i h h',tn i h->(∀b∈fp,∀o,h.get? b=some o->h'.get? b=some o)->tn i h'
 item:∀(X:Cx),X.prog=P->X.w=w->X.K=K->X.calm=true->∀(i:Nat) (pins:List (Addr×Obj)) (s:Shared) (σ:St) (H:Hp) (E:Value->Shared->Prop),Inv X pins σ H s->(∀b∈fp,gH X pins H b)->tn i s.heap->J.go i H->
  wpAny (model P w) X.A (pyNext (.ref it)) (λr s1=>∃u,r=some u/\
   wpAny (model P w) X.A (letOwnedTupleGo tg (.ref it) u) (λ_ s2=>∃x H',Inv X pins σ H' s2/\RelV x u/\J.yld i H x H'/\tn (i + 1) s2.heap/\∀b∈fp,H' b=none) E s1) E s
 done:∀(X:Cx),X.prog=P->X.w=w->X.K=K->X.calm=true->∀(i:Nat) (pins:List (Addr×Obj)) (s:Shared) (σ:St) (H:Hp) (E:Value->Shared->Prop),Inv X pins σ H s->(∀b∈fp,gH X pins H b)->tn i s.heap->J.stop i H->
  wpAny (model P w) X.A (pyNext (.ref it)) (λr s1=>r=none/\Inv X pins σ H s1) E s
 self:∀(A:Around) (i:Nat) (s:Shared) (Q:Value->Shared->Prop) (E:Value->Shared->Prop),tn i s.heap->Q (.ref it) s->wpAny (model P w) A (pyIter (.ref it)) Q E s
abbrev TI:=St->Hp->(It->Hp->Prop)->Prop
def Ba (X:Cx)(pins:List (Addr×Obj))(σ:St)(tg:Expr)(R:It->Hp->Prop)(itv:Value)(s2:Shared):Prop:=
 ∃(it:Addr) (fp:List Addr) (tn:Nat->Heap->Prop) (J:It) (H':Hp),itv= .ref it/\Inv X pins σ H' s2/\Turn X.prog X.w X.K tg J fp it tn/\tn 0 s2.heap/\(∀b∈fp,gH X pins H' b)/\R J H'
def PI (X:Cx)(tg iter:Expr)(wi:TI):Prop:=
 ∀(pins:List (Addr×Obj)) (s:Shared) (σ:St) (H:Hp) (R:It->Hp->Prop),Inv X pins σ H s->wi σ H R->
  wpAny (model X.prog X.w) X.A (eval iter X.env) (λv s1=>wpAny (model X.prog X.w) X.A (pyIter v) (Ba X pins σ tg R) X.xe s1) X.xe s
theorem o8 {M:Model}{A:Around}{E:Value->Shared->Prop}{s:Shared}{it:Addr}{u:Value}{o:Obj}{n:String}{vs:Array Value}{Q:Unit->Shared->Prop}(ho:s.heap.get? it=some o)(hc:o.cls= .type n)(hd:o.data= .fields vs)
 (hn:["enumerate","zip","dict_itemiterator","dict_reverseitemiterator","odict_iterator","itertools.zip_longest","itertools.pairwise"].contains n=false) (hQ:Q () s):wpAny M A (letOwnedTupleGo tg (.ref it) u) Q E s:=by
 unfold letOwnedTupleGo
 cases tg<;>first
  | exact wpAny_pure hQ
  | (cases u<;>first
   | exact wpAny_pure hQ
   | (refine wpAny_bind (wpAny_load ho ?_)
      rw [hc,hd]
      show wpAny M A (if (["enumerate","zip","dict_itemiterator","dict_reverseitemiterator","odict_iterator","itertools.zip_longest","itertools.pairwise"].contains n&&vs[0]?==some (rawInt _))=true then _ else _) Q E s
      rw [if_neg (by intro h;rw [hn,Bool.false_and] at h;cases h)]
      exact wpAny_pure hQ))
def BC (K:PySem.W.Frag)(a:Addr):It:=
 ⟨λi H=>∃xs x,aH K H a xs/\xs[i]?=some x,λi H x H'=>H'=H/\∀xs,aH K H a xs->xs[i]?=some x,λi H=>∃xs,aH K H a xs/\xs.length<=i⟩
def BF (K:PySem.W.Frag)(a:Addr):It:=
 ⟨λi H=>∃xs x,cU K H a xs/\xs[i]?=some x,λi H x H'=>H'=H/\∀xs,cU K H a xs->xs[i]?=some x,λi H=>∃xs,cU K H a xs/\xs.length<=i⟩
def r9 (lo:Int)(n:Nat):It:=⟨λi _=>i < n,λi H x H'=>H'=H/\x= .int (lo + i),λi _=>n<=i⟩
theorem rW (a it:Addr):Turn P w K tg (BC K a) [it] it (λi h=>h.IsListIter it a i) where
 mem:=by simp
 obj:=λi h st b hb=>by
  have e:b=it:=by simpa using hb
  subst e
  obtain ⟨o,e,c,d⟩:=st
  exact ⟨o,e,λv z=>by rw [d] at z;cases z⟩
 keep:=λi h h' st k=>st.at λo e=>k it (by simp) o e
 item:=by
  intro X hP hw hK hc i pins s σ H E I hf st hg
  subst hP hw hK
  obtain ⟨xs,x,hq,hx⟩:=hg
  obtain ⟨its,rv,p,hz⟩:=I.list hq
  obtain ⟨u,hu,ru⟩:=rv.get hx
  obtain ⟨f0,f1,f2,f3,f4,f5⟩:=hf it (by simp)
  refine wpAny_pyNext_list_item st p.isList (x:=u) (by simpa using hu) λh' st' sb=>?_
  have I1:Inv X pins σ H {s with heap:=h'}:=I.turned (t':=s.toks) (λb o hb e=>(sb.2 b hb).trans e) f0 f1 f3 f4 f5
  obtain ⟨o,e,c,d⟩:=id st'
  exact ⟨u,rfl,o8 (s:={s with heap:=h'}) e c d (by decide) ⟨x,H,I1,ru,⟨rfl,λys hy=>by rw [I.nq hy hq];exact hx⟩,st',λb hb=>(hf b hb).1⟩⟩
 done:=by
  intro X hP hw hK hc i pins s σ H E I hf st hg
  subst hP hw hK
  obtain ⟨xs,hq,hx⟩:=hg
  obtain ⟨its,rv,p,hz⟩:=I.list hq
  obtain ⟨f0,f1,f2,f3,f4,f5⟩:=hf it (by simp)
  have hl:=rv.length
  exact wpAny_pyNext_list_end (I.ok.hd hc) st p.isList (by simp;omega) λh' eb=>⟨rfl,I.turned (t':=s.toks) (λb o hb e=>eb b o hb e) f0 f1 f3 f4 f5⟩
 self:=λ_ _ _ _ _ st h=>wpAny_pyIter_listiter st h
theorem pB (a it:Addr):Turn P w K tg (BF K a) [it] it (λi h=>h.IsTupleIter it a i) where
 mem:=by simp
 obj:=λi h st b hb=>by
  have e:b=it:=by simpa using hb
  subst e
  obtain ⟨o,e,c,d⟩:=st
  exact ⟨o,e,λv z=>by rw [d] at z;cases z⟩
 keep:=λi h h' st k=>st.at λo e=>k it (by simp) o e
 item:=by
  intro X hP hw hK hc i pins s σ H E I hf st hg
  subst hP hw hK
  obtain ⟨xs,x,hq,hx⟩:=hg
  obtain ⟨its,rv,p,hz⟩:=I.tuple hq
  obtain ⟨u,hu,ru⟩:=rv.get hx
  obtain ⟨f0,f1,f2,f3,f4,f5⟩:=hf it (by simp)
  refine wpAny_pyNext_tuple_item st (show s.heap.IsTuple a its.toArray from p) (x:=u) (by simpa using hu) λh' st' sb=>?_
  have I1:Inv X pins σ H {s with heap:=h'}:=I.turned (t':=s.toks) (λb o hb e=>(sb.2 b hb).trans e) f0 f1 f3 f4 f5
  obtain ⟨o,e,c,d⟩:=id st'
  exact ⟨u,rfl,o8 (s:={s with heap:=h'}) e c d (by decide) ⟨x,H,I1,ru,⟨rfl,λys hy=>by rw [I.qD hy hq];exact hx⟩,st',λb hb=>(hf b hb).1⟩⟩
 done:=by
  intro X hP hw hK hc i pins s σ H E I hf st hg
  subst hP hw hK
  obtain ⟨xs,hq,hx⟩:=hg
  obtain ⟨its,rv,p,hz⟩:=I.tuple hq
  obtain ⟨f0,f1,f2,f3,f4,f5⟩:=hf it (by simp)
  have hl:=rv.length
  exact wpAny_pyNext_tuple_end (I.ok.hd hc) st (show s.heap.IsTuple a its.toArray from p) (by simp;omega) λh' eb=>⟨rfl,I.turned (t':=s.toks) (λb o hb e=>eb b o hb e) f0 f1 f3 f4 f5⟩
 self:=λ_ _ _ _ _ st h=>wpAny_pyIter_tupleiter st h
theorem pH (it:Addr)(lo:Int)(n:Nat):Turn P w K tg (r9 lo n) [it] it (λi h=>IsRangeIter h it (lo + (i:Nat) * 1) ((n:Int) - (i:Nat)) 1) where
 mem:=by simp
 obj:=λi h st b hb=>by
  have e:b=it:=by simpa using hb
  subst e
  exact ⟨_,st,λv z=>by
   have z':Data.fields _=Data.cell v:=z
   cases z'⟩
 keep:=λi h h' st k=>k it (by simp) _ st
 item:=by
  intro X hP hw hK hc i pins s σ H E I hf st hg
  subst hP hw hK
  obtain ⟨f0,f1,f2,f3,f4,f5⟩:=hf it (by simp)
  have W:=Walks.range (prog:=X.prog) (w:=X.w) (I.ok.hd hc) it lo 1 n
  refine W.item i s _ _ hg st λv h' tk hv st' kk=>?_
  obtain ⟨t,rfl⟩:=hv
  have I1:Inv X pins σ H {s with heap:=h',toks:=tk}:=I.turned (λb o hb e=>kk b o (by simpa using hb) e) f0 f1 f3 f4 f5
  refine ⟨_,rfl,o8 (s:={s with heap:=h',toks:=tk}) (n:="range_iterator") st' rfl rfl (by decide) ⟨.int (lo + i),H,I1,⟨t,?_⟩,⟨rfl,rfl⟩,st',λb hb=>(hf b hb).1⟩⟩
  rw [Int.mul_one]
 done:=by
  intro X hP hw hK hc i pins s σ H E I hf st hg
  subst hP hw hK
  obtain ⟨f0,f1,f2,f3,f4,f5⟩:=hf it (by simp)
  exact wpAny_pyNext_range_end (I.ok.hd hc) st (by have:n<=i:=hg;omega) λh' eb=>⟨rfl,I.turned (t':=s.toks) (λb o hb e=>eb b o hb e) f0 f1 f3 f4 f5⟩
 self:=λ_ _ _ _ _ st h=>wpAny_pyIter_rangeiter st h
end
section
variable {X:Cx}{tg:Expr}
variable {pins:List (Addr×Obj)}{σ:St}{H:Hp}{s:Shared}{pos:Pos}
def zP (K:PySem.W.Frag)(tl:TE):TI:=λσ H R=>tl σ H λx H1=>∃a,x= .ref a/\(∃xs,aH K H1 a xs)/\R (BC K a) H1
def BU (K:PySem.W.Frag)(tl:TE):TI:=λσ H R=>tl σ H λx H1=>∃a,x= .ref a/\(∃xs,cU K H1 a xs)/\R (BF K a) H1
theorem oI {l:Expr}{tl:TE}(hl:PE X l tl):PI X tg l (zP X.K tl):=by
 intro pins s σ H R I h
 refine aG (hl pins s σ H _ I h) λv s1 ⟨x,H1,I1,r1,q1⟩=>?_
 obtain ⟨a,e,⟨xs,hq⟩,q⟩:=q1
 subst e
 cases r1
 obtain ⟨its,rv,p,hz⟩:=I1.list hq
 refine wpAny_pyIter_list p.isList ?_
 refine ⟨s1.heap.objs.size,[s1.heap.objs.size],_,_,H1,rfl,I1.kept (t':=s1.toks) λb o e=>Heap.get?_push_of_some _ e,rW a _,⟨_,Heap.get?_push_size _ rfl,rfl,rfl⟩,λb hb=>?_,q⟩
 have e:b=s1.heap.objs.size:=by simpa using hb
 subst e
 exact I1.kI (Nat.le_refl _) (I1.hok.fresh (Nat.le_refl _))
theorem yg {l:Expr}{tl:TE}(hl:PE X l tl):PI X tg l (BU X.K tl):=by
 intro pins s σ H R I h
 refine aG (hl pins s σ H _ I h) λv s1 ⟨x,H1,I1,r1,q1⟩=>?_
 obtain ⟨a,e,⟨xs,hq⟩,q⟩:=q1
 subst e
 cases r1
 obtain ⟨its,rv,p,hz⟩:=I1.tuple hq
 refine wpAny_pyIter_tuple (show s1.heap.IsTuple a its.toArray from p) ?_
 refine ⟨s1.heap.objs.size,[s1.heap.objs.size],_,_,H1,rfl,I1.kept (t':=s1.toks) λb o e=>Heap.get?_push_of_some _ e,pB a _,⟨_,Heap.get?_push_size _ rfl,rfl,rfl⟩,λb hb=>?_,q⟩
 have e:b=s1.heap.objs.size:=by simpa using hb
 subst e
 exact I1.kI (Nat.le_refl _) (I1.hok.fresh (Nat.le_refl _))
theorem ma {R:It->Hp->Prop}{E:Value->Shared->Prop}{lo hi:Int}{t u v:Tok}{tk:Nat}(I:Inv X pins σ H s)(h1: -(2 ^ 62)<=lo)(h2:lo < 2 ^ 62)(h3: -(2 ^ 62)<=hi)(h4:hi < 2 ^ 62)
 (q:R (r9 lo (hi - lo).toNat) H):wpAny (model X.prog X.w) X.A (pyIter (.ref s.heap.objs.size)) (Ba X pins σ tg R) E {s with heap:=s.heap.push {cls:=.type "range",data:=.fields #[.int lo t,.int hi u,.int 1 v]},toks:=tk}:=by
 refine wpAny_pyIter_range (IsRange.new ..) (small_one h1 h2 h3 h4) ?_
 have I1:Inv X pins σ H {s with heap:=s.heap.push {cls:=.type "range",data:=.fields #[.int lo t,.int hi u,.int 1 v]},toks:=tk}:=I.kept λb o e=>Heap.get?_push_of_some _ e
 refine ⟨(s.heap.push {cls:=.type "range",data:=.fields #[.int lo t,.int hi u,.int 1 v]}).objs.size,[(s.heap.push {cls:=.type "range",data:=.fields #[.int lo t,.int hi u,.int 1 v]}).objs.size],_,_,H,rfl,
  I1.kept (t':=tk) λb o e=>Heap.get?_push_of_some _ e,pH _ lo (hi - lo).toNat,?_,λb hb=>?_,q⟩
 ·have e1:lo + ((0:Nat):Int) * 1=lo:=by simp
  have e2:(((hi - lo).toNat:Nat):Int) - ((0:Nat):Int)=Builtin.Range.rangeSize lo hi 1:=by rw [rangeSize_one];split<;>omega
  show IsRangeIter _ _ (lo + ((0:Nat):Int) * 1) ((((hi - lo).toNat:Nat):Int) - ((0:Nat):Int)) 1
  rw [e1,e2]
  exact Heap.get?_push_size _ rfl
 ·have e:b=(s.heap.push {cls:=.type "range",data:=.fields #[.int lo t,.int hi u,.int 1 v]}).objs.size:=by simpa using hb
  subst e
  exact I1.kI (Nat.le_refl _) (I1.hok.fresh (Nat.le_refl _))
def z6 (ta:TA):TI:=λσ H R=>ta σ H λvs H1=>∃j:Int,vs=[.int j]/\ -(2 ^ 62)<=j/\j < 2 ^ 62/\R (r9 0 j.toNat) H1
def As (ta:TA):TI:=λσ H R=>ta σ H λvs H1=>∃i j:Int,vs=[.int i,.int j]/\(-(2 ^ 62)<=i/\i < 2 ^ 62/\ -(2 ^ 62)<=j/\j < 2 ^ 62)/\R (r9 i (j - i).toNat) H1
theorem qS {a:Expr}{ta:TA}{p:Pos}(hg:Gl X "range")(hm:X.mg "range"=none)(ha:PA X [a] ta)(hs:starEach [a] X.env=[(false,eval a X.env)]:=by rfl):PI X tg (.Call (.Name "range" p) [a] [] pos) (z6 ta):=by
 intro pins s σ H R I h
 refine Call_ (eU I hg hm boot_range (PyProof.Rows.callWith_type1 (aG (ha pos pins s σ H _ I h) λus s1 ⟨vs,H1,I1,r1,q1⟩=>?_) hs rfl))
 obtain ⟨j,e,q1,q2,q⟩:=q1
 subst e
 cases r1 with
 | cons r rr=>
   cases rr
   obtain ⟨t,rfl⟩:=r
   exact call_range_1 (ma I1 (by omega) (by omega) q1 q2 (by simpa using q))
theorem rh {a b:Expr}{ta:TA}{p:Pos}(hg:Gl X "range")(hm:X.mg "range"=none)(ha:PA X [a,b] ta)(hs:starEach [a,b] X.env=[(false,eval a X.env),(false,eval b X.env)]:=by rfl)(hs2:starEach [b] X.env=[(false,eval b X.env)]:=by rfl):
 PI X tg (.Call (.Name "range" p) [a,b] [] pos) (As ta):=by
 intro pins s σ H R I h
 refine Call_ (eU I hg hm boot_range (PyProof.Rows.callWith_type1 (aG (ha pos pins s σ H _ I h) λus s1 ⟨vs,H1,I1,r1,q1⟩=>?_) (by rw [hs,hs2]) (by rw [hs2];rfl)))
 obtain ⟨i,j,e,⟨q1,q2,q3,q4⟩,q⟩:=q1
 subst e
 cases r1 with
 | cons r rr=>
   cases rr with
   | cons r' rr=>
     cases rr
     obtain ⟨t,rfl⟩:=r
     obtain ⟨t',rfl⟩:=r'
     exact call_range_2 (ma I1 q1 q2 q3 q4 q)
def Cd (wi:TI)(g:TG)(tb:TS):TS:=λD σ H=>wi σ H λJ H1=>∃W:Nat->Nat->St->Hp->Prop,(∃m,W 0 m σ H1)/\∀i m σ H,W i m σ H->
 (J.stop i H/\D.nx σ H)∨(J.go i H/\∃N:St->Hp->Prop,(∀σ' H',N σ' H'->∃m',m' < m/\W (i + 1) m' σ' H')/\∀x H',J.yld i H x H'->g x σ H' λσ2 H2=>tb {D with nx:=N,ct:=N,bk:=D.nx} σ2 H2)
def gf (fp:List Addr)(h:Heap):List (Addr×Obj):=fp.filterMap λb=>(h.get? b).map λo=>(b,o)
theorem e6 {fp:List Addr}{h:Heap}{b:Addr}{o:Obj}(hb:b∈fp)(e:h.get? b=some o):(b,o)∈gf fp h:=List.mem_filterMap.mpr ⟨b,hb,by rw [e];rfl⟩
theorem qV {fp:List Addr}{h:Heap}{p:Addr×Obj}(hp:p∈gf fp h):p.1∈fp/\h.get? p.1=some p.2:=by
 obtain ⟨b,hb,e⟩:=List.mem_filterMap.mp hp
 cases q:h.get? b with
 | none=>rw [q] at e;cases e
 | some o=>
   rw [q] at e
   have e':(b,o)=p:=Option.some.inj e
   subst e'
   exact ⟨hb,q⟩
theorem Inv.pinned {fp:List Addr}(I:Inv X pins σ H s)(hf:∀b∈fp,gH X pins H b)(ho:∀b∈fp,∃o,s.heap.get? b=some o/\∀v,o.data≠ .cell v):Inv X (pins++gf fp s.heap) σ H s:=
 I.fb λp hp=>(List.mem_append.mp hp).elim (λz=>I.pin p (List.mem_append_right _ z)) λz=>by
   obtain ⟨hb,e⟩:=qV z
   obtain ⟨f0,f1,f2,_⟩:=hf p.1 hb
   obtain ⟨o,e',d⟩:=ho p.1 hb
   rw [e] at e';cases e'
   exact ⟨e,f0,f1,f2,d⟩
theorem Inv.jn {pl:List (Addr×Obj)}(I:Inv X (pins++pl) σ H s):Inv X pins σ H s:=I.fb λp hp=>I.pin p (List.mem_append_right _ (List.mem_append_left _ hp))
theorem qW {iter:Expr}{body:List Stmt}{wi:TI}{g:TG}{tb:TS}(hp:PassesOwn (model X.prog X.w) X.A X.env X.xe)(hc:X.calm=true)(hi:PI X tg iter wi)(hg:PG X tg g)(hb:fg X body tb)
 (hs:∀x,foldedSetIterable iter X.env x=pure x:=by intro _;rfl):PS X (.For tg iter body [] pos) (Cd wi g tb):=by
 intro pins s σ H D I h
 refine wpAny_For (aG (hi pins s σ H _ I h) λv s1 h1=>aG h1 λitv s2 h2=>?_) hs
 obtain ⟨it,fp,tn,J,H2,e,I2,T,st2,f2,W,⟨m0,w0⟩,turn⟩:=h2
 subst e
 -- what stays true of the iterator's objects through the loop
 have stat:∀{H':Hp},(∀b∈fp,H' b=none)->∀b∈fp,gH X pins H' b:=λhn b hb=>⟨hn b hb,(f2 b hb).2⟩
 refine codeAny_forLoop_any (λn s'=>∃i σ' H',Inv X pins σ' H' s'/\tn i s'.heap/\(∀b∈fp,H' b=none)/\W i n σ' H') ?_ m0 ⟨0,σ,H2,I2,st2,λb hb=>(f2 b hb).1,w0⟩
 rintro n s3 ⟨i,σ3,H3,I3,st3,fr3,w3⟩
 rcases turn i n σ3 H3 w3 with ⟨stop,qn⟩ | ⟨go,N,hN,step⟩
 ·refine wpAny_passesOwn hp (aG (T.done X rfl rfl rfl hc i pins s3 σ3 H3 X.xe I3 (stat fr3) st3 stop) λr s4 ⟨hr,I4⟩=>?_)
  subst hr
  exact wpAny_execs_nil ⟨σ3,H3,I4,qn⟩
 ·refine wpAny_passesOwn hp (aG (T.item X rfl rfl rfl hc i pins s3 σ3 H3 X.xe I3 (stat fr3) st3 go) λr s4 ⟨u,hr,h4⟩=>?_)
  subst hr
  refine wpAny_passesOwn hp (aG h4 λ_ s5 ⟨x,H5,I5,r5,y5,st5,fr5⟩=>?_)
  have I5':=I5.pinned (stat fr5) (T.obj _ _ st5)
  refine wpAny_passesOwn hp (aG (hg _ s5 σ3 H5 x u _ I5' r5 (step x H5 y5)) λ_ s6 ⟨σ6,H6,I6,q6⟩=>?_)
  refine wpAny_passesOwn hp (aG (hb _ s6 σ6 H6 _ I6 q6) λf s7 q7=>?_)
  have again:∀{σ7:St} {H7:Hp},Inv X (pins++gf fp s5.heap) σ7 H7 s7->N σ7 H7->∃m,m < n/\∃i σ' H',Inv X pins σ' H' s7/\tn i s7.heap/\(∀b∈fp,H' b=none)/\W i m σ' H':=λ{σ7 H7} I7 n7=>by
   obtain ⟨m',hm,w7⟩:=hN σ7 H7 n7
   refine ⟨m',hm,i + 1,σ7,H7,I7.jn,T.keep _ _ _ st5 λb hb o e=>(I7.pin (b,o) (List.mem_append_right _ (List.mem_append_right _ (e6 hb e)))).1,λb hb=>?_,w7⟩
   obtain ⟨o,e,d⟩:=T.obj _ _ st5 b hb
   exact (I7.pin (b,o) (List.mem_append_right _ (List.mem_append_right _ (e6 hb e)))).2.1
  cases f with
  | next=>obtain ⟨σ7,H7,I7,n7⟩:=q7;exact again I7 n7
  | cont=>obtain ⟨σ7,H7,I7,n7⟩:=q7;exact again I7 n7
  | brk=>obtain ⟨σ7,H7,I7,q7⟩:=q7;exact ⟨σ7,H7,I7.jn,q7⟩
  | ret v=>obtain ⟨x7,σ7,H7,I7,r7,q7⟩:=q7;exact ⟨x7,σ7,H7,I7.jn,r7,q7⟩
end
abbrev R2:=V->V->Hp->VK->Prop
def cT (X:Cx)(f:Value->Value->Sem Value)(r:R2):Prop:=
 ∀(pins:List (Addr×Obj)) (s:Shared) (σ:St) (H:Hp) (x y:V) (v u:Value) (Q:VK),Inv X pins σ H s->RelV x v->RelV y u->r x y H Q->
  wpAny (model X.prog X.w) X.A (f v u) (EP X pins σ Q) X.xe s
def w9 (X:Cx)(f:Value->Sem Value)(r:V->Hp->VK->Prop):Prop:=
 ∀(pins:List (Addr×Obj)) (s:Shared) (σ:St) (H:Hp) (x:V) (v:Value) (Q:VK),Inv X pins σ H s->RelV x v->r x H Q->
  wpAny (model X.prog X.w) X.A (f v) (EP X pins σ Q) X.xe s
def c4 (X:Cx)(f:Value)(r:List V->Hp->VK->Prop):Prop:=
 ∀(pins:List (Addr×Obj)) (s:Shared) (σ:St) (H:Hp) (xs:List V) (us:List Value) (Q:VK),Inv X pins σ H s->Vals xs us->r xs H Q->
  wpAny (model X.prog X.w) X.A (call f us) (EP X pins σ Q) X.xe s
def B8 (X:Cx)(r:V->Hp->(Bool->Hp->Prop)->Prop):Prop:=
 ∀(pins:List (Addr×Obj)) (s:Shared) (σ:St) (H:Hp) (x:V) (v:Value) (Q:Bool->Hp->Prop),Inv X pins σ H s->RelV x v->r x H Q->
  wpAny (model X.prog X.w) X.A (truthy v) (TP X pins σ Q) X.xe s
def uV (r:R2)(ta tb:TE):TE:=λσ H Q=>ta σ H λx H1=>tb σ H1 λy H2=>r x y H2 Q
def tUn (r:V->Hp->VK->Prop)(ta:TE):TE:=λσ H Q=>ta σ H λx H1=>r x H1 Q
def rI (C:Int->Int->Prop)(g:Int->Int->V):R2:=λx y H Q=>∃i j,x= .int i/\y= .int j/\C i j/\Q (g i j) H
def nt (g:Int->Int->V):R2:=λx y H Q=>∃i j,x= .int i/\y= .int j/\Q (g i j) H
def rU (g:Int->V):V->Hp->VK->Prop:=λx H Q=>∃i,x= .int i/\Q (g i) H
section
variable {X:Cx}{a b c:Expr}{ta tb tc:TE}{pos:Pos}
variable {f:Value->Value->Sem Value}
theorem tE (ha:PE X a ta)(hb:PE X b tb){pins:List (Addr×Obj)}{s:Shared}{σ:St}{H:Hp}{R:V->V->Hp->Prop}(I:Inv X pins σ H s)
 (h:ta σ H λx H1=>tb σ H1 λy H2=>R x y H2) {Q:Value->Shared->Prop}
 (hf:∀v u s2 x y H2,Inv X pins σ H2 s2->RelV x v->RelV y u->R x y H2->wpAny (model X.prog X.w) X.A (f v u) Q X.xe s2):
 wpAny (model X.prog X.w) X.A (eval a X.env) (λv s₁=>wpAny (model X.prog X.w) X.A (eval b X.env) (λu s₂=>wpAny (model X.prog X.w) X.A (f v u) Q X.xe s₂) X.xe s₁) X.xe s:=by
 refine aG (ha pins s σ H _ I h) λv s1 ⟨x,H1,I1,r1,q1⟩=>?_
 refine aG (hb pins s1 σ H1 _ I1 q1) λu s2 ⟨y,H2,I2,r2,q2⟩=>?_
 exact hf v u s2 x y H2 I2 r1 r2 q2
theorem j7 {op:Operator}{r:R2}(ho:cT X (binaryOp op) r)(ha:PE X a ta)(hb:PE X b tb):PE X (.BinOp a op b pos) (uV r ta tb):=by
 intro pins s σ H Q I h
 exact wpAny_BinOp (tE ha hb I h λv u s2 x y H2 I2 rx ry q=>ho pins s2 σ H2 x y v u Q I2 rx ry q)
theorem AH {op:UnaryOp}{r:V->Hp->VK->Prop}(ho:w9 X (unaryOp op) r)(ha:PE X a ta):PE X (.UnaryOp op a pos) (tUn r ta):=by
 intro pins s σ H Q I h
 exact UnaryOp_ (aG (ha pins s σ H _ I h) λv s1 ⟨x,H1,I1,r1,q1⟩=>ho pins s1 σ H1 x v Q I1 r1 q1)
theorem qL {C:Int->Int->Prop}{g:Int->Int->Int}
 (rule:∀(i j:Int) (t u:Tok) (s:Shared) (Q:Value->Shared->Prop) (E:Value->Shared->Prop),C i j->Q (.int (g i j) s.toks) {s with toks:=s.toks + 1}->wpAny (model X.prog X.w) X.A (f (.int i t) (.int j u)) Q E s):
 cT X f (rI C λi j=>.int (g i j)):=by
 intro pins s σ H x y v u Q I rx ry h
 obtain ⟨i,j,rfl,rfl,hc,q⟩:=h
 obtain ⟨t,rfl⟩:=rx
 obtain ⟨t',rfl⟩:=ry
 exact rule i j t t' s _ _ hc ⟨.int (g i j),H,I.tok _,⟨_,rfl⟩,q⟩
theorem xf {g:Int->Int->Int}
 (rule:∀(i j:Int) (t u:Tok) (s:Shared) (Q:Value->Shared->Prop) (E:Value->Shared->Prop),Q (.int (g i j) s.toks) {s with toks:=s.toks + 1}->wpAny (model X.prog X.w) X.A (f (.int i t) (.int j u)) Q E s):
 cT X f (nt λi j=>.int (g i j)):=by
 intro pins s σ H x y v u Q I rx ry h
 obtain ⟨i,j,rfl,rfl,q⟩:=h
 obtain ⟨t,rfl⟩:=rx
 obtain ⟨t',rfl⟩:=ry
 exact rule i j t t' s _ _ ⟨.int (g i j),H,I.tok _,⟨_,rfl⟩,q⟩
theorem uo {g:Int->Int->Bool}
 (rule:∀(i j:Int) (t u:Tok) (s:Shared) (Q:Value->Shared->Prop) (E:Value->Shared->Prop),Q (.bool (g i j)) s->wpAny (model X.prog X.w) X.A (f (.int i t) (.int j u)) Q E s):
 cT X f (nt λi j=>.bl (g i j)):=by
 intro pins s σ H x y v u Q I rx ry h
 obtain ⟨i,j,rfl,rfl,q⟩:=h
 obtain ⟨t,rfl⟩:=rx
 obtain ⟨t',rfl⟩:=ry
 exact rule i j t t' s _ _ ⟨.bl (g i j),H,I,rfl,q⟩
def xV (i j:Int):Prop:=0<=j/\j<=1000000/\i.natAbs < 2 ^ 64
def pF (i j:Int):Prop:=(-(2 ^ 64) < i/\i < 2 ^ 64)∨(-(2 ^ 64) < j/\j < 2 ^ 64)
theorem pF.ok {i j:Int}(h:pF i j):IntMulOk i j:=by
 rcases h with ⟨h1,h2⟩ | ⟨h1,h2⟩
 ·exact .of_left (intBits_le_64 h1 h2)
 ·exact .of_right (intBits_le_64 h1 h2)
theorem yw:cT X (binaryOp .Add) (nt λi j=>.int (i + j)):=xf λ_ _ _ _ _ _ _ q=>add_int q
theorem xH:cT X (binaryOp .Sub) (nt λi j=>.int (i - j)):=xf λ_ _ _ _ _ _ _ q=>sub_int q
theorem yn:cT X (binaryOp .Mult) (rI pF λi j=>.int (i * j)):=qL λ_ _ _ _ _ _ _ hc q=>mul_int q hc.ok
theorem xI:cT X (binaryOp .Mod) (rI (λ_ j=>0 < j) λi j=>.int (i % j)):=qL λi j _ _ _ _ _ hc q=>by
 have h1:(0:Int) < j:=hc
 exact mod_int' (by omega) (by rw [Int.fmod_eq_emod_of_nonneg i (by omega)];exact q)
theorem zA:cT X (binaryOp .Pow) (rI xV λi j=>.int (i ^ j.toNat)):=qL λ_ _ _ _ _ _ _ hc q=>pow_int_small hc.1 hc.2.1 hc.2.2 q
theorem unI {f:Value->Sem Value}{g:Int->Int}
 (rule:∀(i:Int) (t:Tok) (s:Shared) (Q:Value->Shared->Prop) (E:Value->Shared->Prop),Q (.int (g i) s.toks) {s with toks:=s.toks + 1}->wpAny (model X.prog X.w) X.A (f (.int i t)) Q E s):
 w9 X f (rU λi=>.int (g i)):=by
 intro pins s σ H x v Q I rx h
 obtain ⟨i,rfl,q⟩:=h
 obtain ⟨t,rfl⟩:=rx
 exact rule i t s _ _ ⟨.int (g i),H,I.tok _,⟨_,rfl⟩,q⟩
theorem xg:w9 X (unaryOp .USub) (rU λi=>.int (-i)):=unI λ_ _ _ _ _ q=>neg_int q
end
def xO:V->V->Bool
 | .non,.non=>true | .non,.int _=>true | .int _,.non=>true | .non,.bl _=>true | .bl _,.non=>true | .non,.str _=>true | .str _,.non=>true
 | .int _,.int _=>true | .bl _,.bl _=>true | .str _,.str _=>true | .byt _,.byt _=>true
 | .int _,.str _=>true | .str _,.int _=>true | .bl _,.str _=>true | .str _,.bl _=>true
 | _,_=>false
def rEq:R2:=λx y H Q=>xO x y=true/\Q (.bl (decide (x=y))) H
def rNe:R2:=λx y H Q=>xO x y=true/\Q (.bl (!decide (x=y))) H
theorem iM {i j:Int}:decide (V.int i=V.int j)=(i==j):=by
 rw [Bool.eq_iff_iff]
 simp
theorem sD {i j:Bool}:decide (V.bl i=V.bl j)=(i==j):=by
 rw [Bool.eq_iff_iff]
 simp
theorem oo {i j:Str}:decide (V.str i=V.str j)=(i==j):=by
 rw [Bool.eq_iff_iff]
 simp
theorem oC {i j:Array UInt8}:decide (V.byt i=V.byt j)=(i.toList==j.toList):=by
 rw [Bool.eq_iff_iff]
 cases i
 cases j
 simp
section
variable {X:Cx}{a b c:Expr}{ta tb tc:TE}{pos:Pos}
variable {op:CmpOp}{r:R2}
theorem aZ {pins:List (Addr×Obj)}{σ:St}{H:Hp}{s:Shared}{Q:VK}{k k':Bool}(I:Inv X pins σ H s)(q:Q (.bl k) H)(e:k=k'):EP X pins σ Q (.bool k') s:=by
 subst e
 exact ⟨.bl k,H,I,rfl,q⟩
theorem AN:cT X (compareOp .Eq) rEq:=by
 intro pins s σ H x y v u Q I rx ry h
 obtain ⟨hs,q⟩:=h
 cases x with
 | non=>
   cases rx
   cases y with
   | non=>cases ry;exact PySem.EqNone.eq_none_none (aZ I q (by simp))
   | bl j=>cases ry;exact PySem.EqNone.eq_none_bool (aZ I q (by simp))
   | int j=>obtain ⟨t',rfl⟩:=ry;exact PySem.EqNone.eq_none_int (aZ I q (by simp))
   | str j=>obtain ⟨t',rfl⟩:=ry;exact PySem.EqNone.eq_none_str (aZ I q (by simp))
   | _=>exact absurd (show false=true from hs) Bool.false_ne_true
 | bl i=>
   cases rx
   cases y with
   | non=>cases ry;exact PySem.EqNone.eq_bool_none (aZ I q (by simp))
   | bl j=>cases ry;exact eq_bool (aZ I q sD)
   | str j=>obtain ⟨t',rfl⟩:=ry;exact PySem.EqMixed.eq_bool_str (aZ I q (by simp))
   | _=>exact absurd (show false=true from hs) Bool.false_ne_true
 | int i=>
   obtain ⟨t,rfl⟩:=rx
   cases y with
   | non=>cases ry;exact PySem.EqNone.eq_int_none (aZ I q (by simp))
   | int j=>obtain ⟨t',rfl⟩:=ry;exact eq_int (aZ I q iM)
   | str j=>obtain ⟨t',rfl⟩:=ry;exact PySem.EqMixed.eq_int_str (aZ I q (by simp))
   | _=>exact absurd (show false=true from hs) Bool.false_ne_true
 | str i=>
   obtain ⟨t,rfl⟩:=rx
   cases y with
   | non=>cases ry;exact PySem.EqNone.eq_str_none (aZ I q (by simp))
   | bl j=>cases ry;exact PySem.EqMixed.eq_str_bool (aZ I q (by simp))
   | int j=>obtain ⟨t',rfl⟩:=ry;exact PySem.EqMixed.eq_str_int (aZ I q (by simp))
   | str j=>obtain ⟨t',rfl⟩:=ry;exact eq_str (aZ I q oo)
   | _=>exact absurd (show false=true from hs) Bool.false_ne_true
 | byt i=>
   obtain ⟨t,rfl⟩:=rx
   cases y with
   | byt j=>obtain ⟨t',rfl⟩:=ry;exact PySem.W.eq_bytes (aZ I q oC)
   | _=>exact absurd (show false=true from hs) Bool.false_ne_true
 | _=>cases y<;>exact absurd (show false=true from hs) Bool.false_ne_true
theorem z9:cT X (compareOp .NotEq) rNe:=by
 intro pins s σ H x y v u Q I rx ry h
 obtain ⟨hs,q⟩:=h
 cases x with
 | non=>
   cases rx
   cases y with
   | non=>cases ry;exact PySem.EqNone.ne_none_none (aZ I q (by simp))
   | bl j=>cases ry;exact PySem.EqNone.ne_none_bool (aZ I q (by simp))
   | int j=>obtain ⟨t',rfl⟩:=ry;exact PySem.EqNone.ne_none_int (aZ I q (by simp))
   | str j=>obtain ⟨t',rfl⟩:=ry;exact PySem.EqNone.ne_none_str (aZ I q (by simp))
   | _=>exact absurd (show false=true from hs) Bool.false_ne_true
 | bl i=>
   cases rx
   cases y with
   | non=>cases ry;exact PySem.EqNone.ne_bool_none (aZ I q (by simp))
   | bl j=>cases ry;exact ne_bool (aZ I q (congrArg not sD))
   | str j=>obtain ⟨t',rfl⟩:=ry;exact PySem.EqMixed.ne_bool_str (aZ I q (by simp))
   | _=>exact absurd (show false=true from hs) Bool.false_ne_true
 | int i=>
   obtain ⟨t,rfl⟩:=rx
   cases y with
   | non=>cases ry;exact PySem.EqNone.ne_int_none (aZ I q (by simp))
   | int j=>obtain ⟨t',rfl⟩:=ry;exact ne_int (aZ I q (congrArg not iM))
   | str j=>obtain ⟨t',rfl⟩:=ry;exact PySem.EqMixed.ne_int_str (aZ I q (by simp))
   | _=>exact absurd (show false=true from hs) Bool.false_ne_true
 | str i=>
   obtain ⟨t,rfl⟩:=rx
   cases y with
   | non=>cases ry;exact PySem.EqNone.ne_str_none (aZ I q (by simp))
   | bl j=>cases ry;exact PySem.EqMixed.ne_str_bool (aZ I q (by simp))
   | int j=>obtain ⟨t',rfl⟩:=ry;exact PySem.EqMixed.ne_str_int (aZ I q (by simp))
   | str j=>obtain ⟨t',rfl⟩:=ry;exact ne_str (aZ I q (congrArg not oo))
   | _=>exact absurd (show false=true from hs) Bool.false_ne_true
 | byt i=>
   obtain ⟨t,rfl⟩:=rx
   cases y with
   | byt j=>obtain ⟨t',rfl⟩:=ry;exact PySem.W.ne_bytes (aZ I q (congrArg not oC))
   | _=>exact absurd (show false=true from hs) Bool.false_ne_true
 | _=>cases y<;>exact absurd (show false=true from hs) Bool.false_ne_true
theorem Ak:cT X (compareOp .Lt) (nt λi j=>.bl (decide (i < j))):=uo λ_ _ _ _ _ _ _ q=>lt_int q
theorem zY:cT X (compareOp .LtE) (nt λi j=>.bl (decide (i<=j))):=uo λ_ _ _ _ _ _ _ q=>le_int q
theorem AI:cT X (compareOp .GtE) (nt λi j=>.bl (decide (j<=i))):=uo λ_ _ _ _ _ _ _ q=>ge_int q
theorem ju (b:Expr)(h:op≠ .In:=by decide)(h2:op≠ .NotIn:=by decide):behindInMarks op b=false:=by
 have e1:(op==CmpOp.In)=false:=by cases op<;>first | rfl | exact absurd rfl h
 have e2:(op==CmpOp.NotIn)=false:=by cases op<;>first | rfl | exact absurd rfl h2
 cases b<;>simp [behindInMarks,e1,e2]
theorem wX (ho:cT X (compareOp op) r)(ha:PE X a ta)(hb:PE X b tb)(hm:behindInMarks op b=false):PE X (.Compare a [op] [b] pos) (uV r ta tb):=by
 intro pins s σ H Q I h
 exact wpAny_Compare1 (tE ha hb I h λv u s2 x y H2 I2 rx ry q=>ho pins s2 σ H2 x y v u Q I2 rx ry q) hm
def uO (t:TE):TT:=λσ H Q=>t σ H λx H'=>∃k,x= .bl k/\Q k H'
theorem vZ (ho:cT X (compareOp op) r)(ha:PE X a ta)(hb:PE X b tb)(hm:behindInMarks op b=false):PT X (.Compare a [op] [b] pos) (uO (uV r ta tb)):=by
 intro pins s σ H Q I h
 refine wpAny_isTrue_Compare1 (aG (ha pins s σ H _ I h) λv s1 ⟨x,H1,I1,r1,q1⟩=>aG (hb pins s1 σ H1 _ I1 q1) λu s2 ⟨y,H2,I2,r2,q2⟩=>
  aG (ho pins s2 σ H2 x y v u _ I2 r1 r2 q2) λc s3 ⟨z,H3,I3,r3,k,e,q3⟩=>?_) hm
 subst e
 cases r3
 exact wpAny_truthy_bool ⟨H3,I3,q3⟩
def rZ (r r':R2)(ta tb tc:TE):TE:=λσ H Q=>ta σ H λx H1=>tb σ H1 λy H2=>r x y H2 λz H3=>∃k,z= .bl k/\
 (if k=true then tc σ H3 λw' H4=>r' y w' H4 Q else Q (.bl false) H3)
theorem uh {op':CmpOp}{r':R2}(ho:cT X (compareOp op) r)(ho':cT X (compareOp op') r')(ha:PE X a ta)(hb:PE X b tb)(hc:PE X c tc)
 (hm:lastMarks [op,op'] [b,c]=false:=by with_unfolding_all rfl):PE X (.Compare a [op,op'] [b,c] pos) (rZ r r' ta tb tc):=by
 intro pins s σ H Q I h
 refine Compare_chain (aG (ha pins s σ H _ I h) λv s1 ⟨x,H1,I1,r1,q1⟩=>chain_link (aG (hb pins s1 σ H1 _ I1 q1) λu s2 ⟨y,H2,I2,r2,q2⟩=>
  aG (ho pins s2 σ H2 x y v u _ I2 r1 r2 q2) λd s3 ⟨z,H3,I3,r3,k,e,q3⟩=>?_)) hm
 subst e
 cases r3
 refine wpAny_truthy_bool ?_
 cases k with
 | false=>exact ite_ff ⟨.bl false,H3,I3,rfl,q3⟩
 | true=>exact ite_tt (chain_last (aG (hc pins s3 σ H3 _ I3 q3) λw' s4 ⟨z',H4,I4,r4,q4⟩=>ho' pins s4 σ H4 y z' u w' Q I4 r2 r4 q4))
theorem uk {op':CmpOp}{r':R2}(ho:cT X (compareOp op) r)(ho':cT X (compareOp op') r')(ha:PE X a ta)(hb:PE X b tb)(hc:PE X c tc)
 (hm:lastMarks [op,op'] [b,c]=false:=by with_unfolding_all rfl):PT X (.Compare a [op,op'] [b,c] pos) (uO (rZ r r' ta tb tc)):=by
 intro pins s σ H Q I h
 refine isTrue_chain (aG (ha pins s σ H _ I h) λv s1 ⟨x,H1,I1,r1,q1⟩=>test_link (aG (hb pins s1 σ H1 _ I1 q1) λu s2 ⟨y,H2,I2,r2,q2⟩=>
  aG (ho pins s2 σ H2 x y v u _ I2 r1 r2 q2) λd s3 ⟨z,H3,I3,r3,k,e,q3⟩=>?_)) hm
 subst e
 cases r3
 refine wpAny_truthy_bool ?_
 cases k with
 | false=>
   obtain ⟨k',e',q'⟩:=q3
   cases e'
   exact ite_ff ⟨H3,I3,q'⟩
 | true=>
   refine ite_tt (test_last (aG (hc pins s3 σ H3 _ I3 q3) λw' s4 ⟨z',H4,I4,r4,q4⟩=>aG (ho' pins s4 σ H4 y z' u w' _ I4 r2 r4 q4) λd' s5 ⟨z2,H5,I5,r5,k2,e2,q5⟩=>?_))
   subst e2
   cases r5
   exact wpAny_truthy_bool ⟨H5,I5,q5⟩
def xB (K:PySem.W.Frag)(x:V)(H:Hp)(k:Bool):Prop:=
 match x with
 | .non=>k=false
 | .bl b=>k=b
 | .int i=>k=(i != 0)
 | .str y=>y.length<=sizeLine/\k=((y.length:Int) != 0)
 | .byt y=>y.size<=sizeLine/\k=((y.size:Int) != 0)
 | .ref p=>(∃xs,aH K H p xs/\k= !xs.isEmpty)∨(∃xs,cU K H p xs/\k= !xs.isEmpty)∨∃kvs,H p=some (.dK kvs)/\k= !kvs.isEmpty
 | _=>False
theorem p7 {κ:Type}{kvs:List (κ×V)}{vs:List (κ×Value)}(r:KV kvs vs):(!vs.isEmpty)= !kvs.isEmpty:=by
 cases r<;>rfl
theorem jS {xs:List V}{its:List Value}(r:Vals xs its):(!its.toArray.isEmpty)= !xs.isEmpty:=by
 cases r<;>simp
theorem ia:(sizeLine:Nat) < 2 ^ 63:=by rw [sizeLine_eq];decide
theorem yj:B8 X (λx H Q=>∃k,xB X.K x H k/\Q k H):=by
 intro pins s σ H x v Q I rx h
 obtain ⟨k,e,q⟩:=h
 have hl:=ia
 have hs:sizeLine=16777216:=sizeLine_eq
 cases x with
 | non=>
   cases rx
   have e':k=false:=e
   subst e'
   exact truthy_none ⟨H,I,q⟩
 | bl b=>
   cases rx
   have e':k=b:=e
   subst e'
   exact wpAny_truthy_bool ⟨H,I,q⟩
 | int i=>
   obtain ⟨t,rfl⟩:=rx
   have e':k=(i != 0):=e
   subst e'
   exact PySem.P.truthy_int ⟨H,I,q⟩
 | str y=>
   obtain ⟨t,rfl⟩:=rx
   obtain ⟨hy,e'⟩:y.length<=sizeLine/\k=((y.length:Int) != 0):=e
   subst e'
   exact PySem.P.truthy_str (by omega) ⟨H,I.tok _,q⟩
 | byt y=>
   obtain ⟨t,rfl⟩:=rx
   obtain ⟨hy,e'⟩:y.size<=sizeLine/\k=((y.size:Int) != 0):=e
   subst e'
   exact PySem.W.truthy_bytes (by omega) ⟨H,I.tok _,q⟩
 | ref p=>
   cases rx
   have e':(∃xs,aH X.K H p xs/\k= !xs.isEmpty)∨(∃xs,cU X.K H p xs/\k= !xs.isEmpty)∨∃kvs,H p=some (.dK kvs)/\k= !kvs.isEmpty:=e
   rcases e' with ⟨xs,hx,e'⟩ | ⟨xs,hx,e'⟩ | ⟨kvs,hx,e'⟩
   ·subst e'
    obtain ⟨its,r,pl,hz⟩:=I.list hx
    have hlen:=r.length
    exact wpAny_truthy_list pl.isList (by simp only [List.size_toArray];omega) ⟨H,I.tok _,by rw [jS r];exact q⟩
   ·subst e'
    obtain ⟨its,r,pl,hz⟩:=I.tuple hx
    have hlen:=r.length
    exact truthy_tuple pl (by simp only [List.size_toArray];omega) ⟨H,I.tok _,by rw [jS r];exact q⟩
   ·subst e'
    obtain ⟨hz,hS,vs,r,m⟩:kvs.length<=sizeLine/\(p==sysModules)=false/\∃vs,KV kvs vs/\s.heap.DictOf (cc X.prog X.w) p vs:=I.hok p _ hx
    have hlen:kvs.length=vs.length:=Paired.length r
    exact wpAny_truthy_dict hS m (by omega) ⟨H,I.tok _,by rw [p7 r];exact q⟩
 | _=>exact (show False from e).elim
theorem mC (ha:PE X a ta)(he:∀whole,isTrue a X.env whole=(do let v ← whole;standAt a.pos;holding [v] (truthy v))):
 PT X a (λσ H Q=>ta σ H λx H'=>∃k,xB X.K x H' k/\Q k H'):=by
 intro pins s σ H Q I h
 exact isTrue_plain (aG (ha pins s σ H _ I h) λv s1 ⟨x,H1,I1,r1,q1⟩=>yj pins s1 σ H1 x v Q I1 r1 q1) (he _)
theorem vals1 {x:V}{us:List Value}(r:Vals [x] us):∃u,us=[u]/\RelV x u:=by
 cases r with
 | cons r1 r2=>cases r2;exact ⟨_,rfl,r1⟩
theorem vals2 {x y:V}{us:List Value}(r:Vals [x,y] us):∃u w',us=[u,w']/\RelV x u/\RelV y w':=by
 cases r with
 | cons r1 r2=>
   cases r2 with
   | cons r3 r4=>cases r4;exact ⟨_,_,rfl,r1,r3⟩
theorem qi (hc:X.calm=true):c4 X (.builtin "min") (λxs H Q=>∃i j,xs=[.int i,.int j]/\Q (.int (if j < i then j else i)) H):=by
 intro pins s σ H xs us Q I r h
 obtain ⟨i,j,rfl,q⟩:=h
 obtain ⟨u,w',rfl,⟨t,rfl⟩,⟨t',rfl⟩⟩:=vals2 r
 refine min_two_ints (I.ok.hd hc) λh' tk k=>⟨_,H,I.kept k,?_,q⟩
 by_cases hj:j < i
 ·rw [if_pos hj,if_pos hj];exact ⟨_,rfl⟩
 ·rw [if_neg hj,if_neg hj];exact ⟨_,rfl⟩
end
structure tQ (h:Heap) (x dx C:Addr) (mA:Str->Option Value):Prop where
 obj:h.get? x=some (PySem.W.instObj C dx)
 ns:h.Ns1 dx mA
 ne:dx≠x
theorem rn {h:Heap}{dx:Addr}{mA:Str->Option Value}(n:h.Ns1 dx mA):∃od,h.get? dx=some od/\∀name,PySem.W.lookIn name od=some (mA name):=by
 obtain ⟨o,es,ep,ho,hd,hk,_,hm⟩:=n
 refine ⟨o,ho,λname=>?_⟩
 have e:=hm name
 unfold nsFind findBy at e
 rw [← Array.find?_toList] at e
 unfold PySem.W.lookIn
 rw [hd]
 dsimp only
 split
 ·rename_i y q
  rw [q] at e
  exact congrArg some e
 ·rename_i q
  rw [q] at e
  have a:es.toList.any (·.refKey)=false:=by
   rw [List.any_eq_false]
   intro y hy
   obtain ⟨z,t,hkey⟩:=hk y (Array.mem_toList_iff.mp hy)
   simp [DictEntry.refKey,hkey]
  have a':¬es.toList.any (·.refKey)=true:=by rw [a];exact Bool.false_ne_true
  rw [if_neg a']
  exact congrArg some e
theorem tQ.look {h:Heap}{x dx C:Addr}{mA:Str->Option Value}(I:tQ h x dx C mA):∃od,PySem.W.InstAt h x (PySem.W.instObj C dx) C (some od)/\∀name,PySem.W.lookIn name od=some (mA name):=
 let ⟨od,ho,hl⟩:=rn I.ns
 ⟨od,⟨I.obj,rfl,rfl,ho⟩,hl⟩
section
variable {prog:Program}{w:World}{A:Around}{E:Value->Shared->Prop}{s:Shared}{K:PySem.W.Frag}{x dx C f:Addr}{mA:Str->Option Value}{name:Str}{v:Value}
end
theorem fz.some_of {v:V}{o:Option Value}(r:fz (some v) o):∃u,o=some u/\RelV v u:=by
 cases o with
 | none=>exact (show False from r).elim
 | some u=>exact ⟨u,rfl,r⟩
section
variable {P:Program}{w:World}{H H':Hp}{h h':Heap}{a C dx:Addr}{fs fs':List (Str×V)}
theorem vL (hok:cJ P w H h)(e:H a=some (.ins C dx fs)):∃mA,tQ h a dx C mA/\(∀f,fz (fs.lookup f) (mA f))/\PySem.Within mA (fs.map (·.1))/\fs.length<=1000/\H dx=some (.own a):=by
 obtain ⟨d,z,ne,ob,mA,n,r,q⟩:=(show bM P w H h a (.ins C dx fs) from hok a _ e)
 exact ⟨mA,⟨ob,n,ne⟩,r,q,z,d⟩
end
structure xS (K:PySem.W.Frag) (C:Addr):Prop where
 pg:PySem.W.plainGet K C Str.empty=true
 hd:PySem.W.hasDictIn K C=true
 po:PySem.W.plainOver K C=true
 sa:PySem.W.findIn K (.ref C) "__setattr__"=some (some (.builtin "object.__setattr__"))
theorem xS.get {K:PySem.W.Frag}{C:Addr}(c:xS K C)(f:Str):PySem.W.plainGet K C f=true:=c.pg
section
variable {X:Cx}{pins:List (Addr×Obj)}{σ:St}{H:Hp}{s:Shared}{a C dx:Addr}{fs:List (Str×V)}{f:Str}{v:V}{A:Around}{E:Value->Shared->Prop}
end
section
variable {X:Cx}{o e value:Expr}{f:Str}{pos pos' tpos:Pos}{ta tv:TE}
end
section
variable {X:Cx}{pins:List (Addr×Obj)}{σ:St}{H:Hp}{s:Shared}{A:Around}{E:Value->Shared->Prop}{Q:Value->Shared->Prop}{c:Value}{b:Bool}
inductive dc (K:PySem.W.Frag) (H:Hp):V->Value->Prop where
 | non:dc K H .non (.type "NoneType")
 | bl (x:Bool):dc K H (.bl x) (.type "bool")
 | int (i:Int):dc K H (.int i) (.type "int")
 | str (x:Str):dc K H (.str x) (.type "str")
 | flt (x:UInt64):dc K H (.flt x) (.type "float")
 | lst {a:Addr} {xs:List V} (e:H a=some (.lst xs)):dc K H (.ref a) (.type "list")
 | frz {a:Addr} {o:Obj} {xs:List V} (e:H a=some (.frz o (.lst xs))):dc K H (.ref a) (.type "list")
 | tup {a:Addr} {xs:List V} (e:H a=some (.tup xs)):dc K H (.ref a) (.type "tuple")
 | dK {a:Addr} {kvs:List (Key×V)} (e:H a=some (.dK kvs)):dc K H (.ref a) (.type "dict")
 | dT {a:Addr} {kvs:List (List Key×V)} (e:H a=some (.dT kvs)):dc K H (.ref a) (.type "dict")
 | ins {a C dx:Addr} {fs:List (Str×V)} (e:H a=some (.ins C dx fs)) (cl:xS K C) (ha:PySem.W.findIn K (.ref C) "__class__"=some (some (.builtin "object.__class__")))
  (hn:PySem.W.specialIn K (.builtin "object.__class__") "__get__"=some (some (.builtin "getset_descriptor.__get__"))) (htk:PySem.W.takesIn K (.builtin "object.__class__")=some true)
  (hm:PySem.W.mroIn K C (.type "object")=some true):dc K H (.ref a) (.ref C)
theorem sk {x:V}{u t:Value}(I:Inv X pins σ H s)(rx:RelV x u)(ty:dc X.K H x t)(e:PySem.W.kitOne X.K t c=some b)(h:∀tk,Q (.bool b) {s with toks:=tk}):
 wpAny (model X.prog X.w) A (call (.builtin "isinstance") [u,c]) Q E s:=by
 cases ty with
 | non=>cases (show u=Value.none from rx);exact PySem.W.kia_one PySem.W.kitx_none I.eR True.intro e (λz=>nomatch z) h
 | bl y=>cases (show u=Value.bool y from rx);exact PySem.W.kia_one PySem.W.kitx_bool I.eR True.intro e (λz=>nomatch z) h
 | int i=>obtain ⟨t,q⟩:=(show∃t,u=Value.int i t from rx);cases q;exact PySem.W.kia_one PySem.W.kitx_int I.eR True.intro e (λz=>nomatch z) h
 | str y=>obtain ⟨t,q⟩:=(show∃t,u=Value.str y t from rx);cases q;exact PySem.W.kia_one PySem.W.kitx_str I.eR True.intro e (λz=>nomatch z) h
 | flt y=>obtain ⟨t,q⟩:=(show∃t,u=Value.float y t from rx);cases q;exact PySem.W.kia_one PySem.W.kitx_float I.eR True.intro e (λz=>nomatch z) h
 | @lst a xs ea=>
   cases (show u=Value.ref a from rx)
   obtain ⟨_,_,n,_,h1⟩:=(show bM X.prog X.w H s.heap a (.lst xs) from I.hok a _ ea)
   exact PySem.W.kia_one PySem.W.kitx_list I.eR ⟨_,h1,rfl⟩ e (λz=>nomatch z) h
 | @frz a ob xs ea=>
   cases (show u=Value.ref a from rx)
   obtain ⟨_,_,_,n,_,h1⟩:=(show bM X.prog X.w H s.heap a (.frz ob (.lst xs)) from I.hok a _ ea)
   exact PySem.W.kia_one PySem.W.kitx_list I.eR ⟨_,h1,rfl⟩ e (λz=>nomatch z) h
 | @tup a xs ea=>
   cases (show u=Value.ref a from rx)
   obtain ⟨_,_,_,p⟩:=(show bM X.prog X.w H s.heap a (.tup xs) from I.hok a _ ea)
   obtain ⟨o,h1,h2,_⟩:=p
   exact PySem.W.kia_one PySem.W.kitx_tuple I.eR ⟨o,h1,h2⟩ e (λz=>nomatch z) h
 | @dK a kvs ea=>
   cases (show u=Value.ref a from rx)
   obtain ⟨_,_,vs,_,p⟩:=(show bM X.prog X.w H s.heap a (.dK kvs) from I.hok a _ ea)
   obtain ⟨o,es,ep,h1,h2,_⟩:=p
   exact PySem.W.kia_one PySem.W.kitx_dict I.eR ⟨o,h1,h2.1⟩ e (λz=>nomatch z) h
 | @dT a kvs ea=>
   cases (show u=Value.ref a from rx)
   obtain ⟨_,_,xs,_,o,es,ep,h1,h2,_⟩:=(show bM X.prog X.w H s.heap a (.dT kvs) from I.hok a _ ea)
   exact PySem.W.kia_one PySem.W.kitx_dict I.eR ⟨o,h1,h2.1⟩ e (λz=>nomatch z) h
 | @ins a C dx fs ea cl ha hn htk hm=>
   cases (show u=Value.ref a from rx)
   obtain ⟨mA,O,_⟩:=vL I.hok ea
   obtain ⟨od,J,_⟩:=O.look
   exact PySem.W.kia_one (PySem.W.kitx_own (cl.get _) cl.hd ha hn htk hm) I.eR J e (λz=>nomatch z) h
end
section
variable {A:Around}
structure bt (k:Nat) (A:Around):Prop where
 hd:A.handled=none
 dp:A.depth + 3 * k + 5 < recursionLimit
 un:A.units + 16 * k + 200 < cLine
theorem bt.mono {j k:Nat}(r:bt k A)(h:j<=k):bt j A:=⟨r.hd,by have:=r.dp;omega,by have:=r.un;omega⟩
theorem bt.deeper {k:Nat}(r:bt (k + 1) A)(env:Env):bt k (A.deeper env):=
 ⟨r.hd,by have:=r.dp;show A.depth + 1 + 3 * k + 5 < _;omega,by have:=r.un;show A.units + 3 + 16 * k + 200 < _;omega⟩
theorem bt.depth {k:Nat}(r:bt k A):A.depth < recursionLimit:=by have:=r.dp;omega
theorem bt.units {k:Nat}(r:bt k A):A.units + 64 < cLine:=by have:=r.un;omega
def BQ:TA:=λ_ H Q=>Q [] H
def AG (ta:TE)(tr:TA):TA:=λσ H Q=>ta σ H λx H1=>tr σ H1 λxs H2=>Q (x::xs) H2
end
section
variable {X:Cx}{e:Expr}{es:List Expr}{te:TE}{t:TA}{pos:Pos}
theorem bF:PA X [] BQ:=λ_ _ _ _ H Q I h=>Calls.spliced_nil ⟨[],H,I,.nil,h⟩
theorem aQ (ha:PE X e te)(hr:PA X es t)(hs:starEach (e::es) X.env=(false,eval e X.env)::starEach es X.env:=by rfl):PA X (e::es) (AG te t):=by
 intro pos pins s σ H Q I h
 rw [hs]
 show wpAny _ _ (spliced ((false,eval e X.env)::backTo pos (starEach es X.env))) _ _ s
 refine Calls.spliced_cons (aG (ha pins s σ H _ I h) λu s1 ⟨x,H1,I1,r1,q1⟩=>?_)
 exact aG (hr pos pins s1 σ H1 _ I1 q1) λus s2 ⟨xs,H2,I2,r2,q2⟩=>⟨x::xs,H2,I2,.cons r1 r2,q2⟩
def BS (t:TA):TE:=λσ H Q=>t σ H λxs H1=>xs.length<=sizeLine/\∀p,H1 p=none->Q (.ref p) (upd H1 p (.tup xs))
def BP (t:TA):TE:=λσ H Q=>t σ H λxs H1=>xs.length<=sizeLine/\∀p,H1 p=none->Q (.ref p) (upd H1 p (.lst xs))
theorem yV {x1}(h:PA X es t):PE X (.Tuple es x1 pos) (BS t):=by
 intro pins s σ H Q I hq
 refine wpAny_Tuple_spliced (aG (h pos pins s σ H _ I hq) λus s1 ⟨xs,H1,I1,r,z,q⟩=>⟨by rw [← r.length];exact z,?_⟩)
 have hf:H1 s1.heap.objs.size=none:=I1.hok.fresh (Nat.le_refl _)
 refine ⟨.ref s1.heap.objs.size,upd H1 s1.heap.objs.size (.tup xs),I1.laid (t':=s1.toks) (λb u e=>Heap.get?_push_of_some _ e) (Nat.le_refl _) ?_,rfl,q _ hf⟩
 exact ⟨z,us,r,⟨_,Heap.get?_push_size _ rfl,rfl,_,rfl⟩⟩
theorem yx (h:PA X es t):PE X (.List es pos) (BP t):=by
 intro pins s σ H Q I hq
 refine wpAny_List_spliced (aG (h pos pins s σ H _ I hq) λus s1 ⟨xs,H1,I1,r,z,q⟩=>⟨by rw [← r.length];exact z,?_⟩)
 have hf:H1 s1.heap.objs.size=none:=I1.hok.fresh (Nat.le_refl _)
 refine ⟨.ref s1.heap.objs.size,upd H1 s1.heap.objs.size (.lst xs),I1.laid (t':=s1.toks) (λb u e=>Heap.get?_push_of_some _ e) (Nat.le_refl _) ?_,rfl,q _ hf⟩
 exact ⟨z,us,0,r,Heap.get?_push_size _ rfl⟩
end
abbrev Sp:=List V->Hp->VK->XK->Prop
abbrev gZ:=List Env->Hp->Shared->XK->Value->Shared->Prop
structure pY (P:Program) (w:World) (K:PySem.W.Frag) (mg:Str->Option Value) (base:Heap) (A:Around) (outer:List Env) (s:Shared) (H:Hp):Prop where
 frames:A.frames=some outer
 mod:Mod K mg base
 bs:∀b o,base.get? b=some o->s.heap.get? b=some o/\H b=none
 bsz:base.objs.size<=s.heap.objs.size
 funs:s.heap.FunFrames base outer
 frf:∀b∈gu outer,H b=none
 hok:cJ P w H s.heap
 bare:AllBare s.gens
def CE (outer:List Env)(P:Program)(w:World)(H:Hp)(s:Shared)(Q:VK)(u:Value)(s':Shared):Prop:=
 ∃v H',s'.os=s.os/\AllBare s'.gens/\Un (gu outer) [] H H' s.heap s'.heap/\cJ P w H' s'.heap/\RelV v u/\Q v H'
def CR (CX:gZ)(outer:List Env)(P:Program)(w:World)(H:Hp)(s:Shared)(Q:VK)(E:XK)(r:Result)(s':Shared):Prop:=
 match r with
 | .ok (.ret u)=>CE outer P w H s Q u s'
 | .ok _=>False
 | .error e=>CX outer H s E e s'
structure dG (P:Program) (w:World) (K:PySem.W.Frag) (mg:Str->Option Value) (base:Heap) (CX:gZ) (k:Nat) (f:Addr) (fd:FuncData) (ps:List Str) (sp:Sp):Prop where
 len:∀vs H Q E,sp vs H Q E->vs.length=ps.length
 run:∀(A:Around) (outer:List Env) (s:Shared) (H:Hp) (args:Args) (us:List Value) (vs:List V) (Q:VK) (E:XK),bt k A->pY P w K mg base A outer s H->BindsTo s fd args (ps.zip us)->Vals vs us->sp vs H Q E->
  codeAny (model P w) A (.call (.ref f) args) (CR CX outer P w H s Q E) s
theorem dG.mono {P:Program}{w:World}{K:PySem.W.Frag}{mg:Str->Option Value}{base:Heap}{CX:gZ}{j k:Nat}{f:Addr}{fd:FuncData}{ps:List Str}{sp:Sp}(F:dG P w K mg base CX j f fd ps sp)(h:j<=k):
 dG P w K mg base CX k f fd ps sp:=⟨F.len,λA outer s H args us vs Q E hr=>F.run A outer s H args us vs Q E (hr.mono h)⟩
section
variable {X:Cx}{pins:List (Addr×Obj)}{σ:St}{H:Hp}{s s':Shared}
theorem Inv.Cc (I:Inv X pins σ H s):pY X.prog X.w X.K X.mg X.base X.A X.stack s H:=
 ⟨I.ok.frames,I.ok.mod,I.bs,Nat.le_trans I.ok.bsz I.sz,I.stack,I.n4,I.hok,I.bare⟩
theorem Inv.after {Q:VK}{u:Value}(I:Inv X pins σ H s)(h:CE X.stack X.prog X.w H s Q u s'):EP X pins σ Q u s':=by
 obtain ⟨v,H',os,bare,un,hok,r,q⟩:=h
 obtain ⟨hh,g,d,t,os'⟩:=s'
 obtain rfl:os'=s.os:=os
 exact ⟨v,H',I.call (h':=hh) (g':=g) (d':=d) (t':=t) (ch:=[]) un hok bare (λb z=>absurd z (by simp)),r,q⟩
end
def zG (sp:Sp)(dvs:List V)(E:XK)(t:TA):TE:=λσ H Q=>t σ H λvs H1=>sp (vs++dvs) H1 Q E
def Binds (K:PySem.W.Frag)(fd:FuncData)(ps:List Str)(ds:List Value):Prop:=
 ∀(s:Shared) (us:List Value),K.In s.heap->(us++ds).length=ps.length->BindsTo s fd ⟨us,[]⟩ (ps.zip (us++ds))
theorem Binds.all {K:PySem.W.Frag}{fd:FuncData}{ps:List Str}(h:∀us:List Value,us.length=ps.length->bindArgs fd ⟨us,[]⟩=pure (ps.zip us)):Binds K fd ps []:=λs us _ hl=>by
 rw [List.append_nil] at hl ⊢
 exact .of_eq (h us hl)
def Passes (CX:gZ)(X:Cx)(E:XK):Prop:=∀(pins:List (Addr×Obj)) (σ:St) (H:Hp) (s:Shared) (e:Value) (s':Shared),Inv X pins σ H s->CX X.stack H s E e s'->X.xe e s'
section
variable {X:Cx}{CX:gZ}{k:Nat}{f C:Addr}{fd:FuncData}{ps:List Str}{sp:Sp}{dvs:List V}{ds:List Value}{E:XK}{x m:Str}{p pos apos:Pos}{e o:Expr}{es:List Expr}{ta:TE}{t:TA}
theorem xj {pins:List (Addr×Obj)}{σ:St}{H:Hp}{s:Shared}{Q:VK}{us:List Value}{vs:List V}(F:dG X.prog X.w X.K X.mg X.base CX k f fd ps sp)(hr:bt k X.A)(hb:Binds X.K fd ps ds)(hd:Vals dvs ds)(hx:Passes CX X E)
 (I:Inv X pins σ H s) (r:Vals vs us) (h:sp (vs++dvs) H Q E):wpAny (model X.prog X.w) X.A (call (.ref f) us) (EP X pins σ Q) X.xe s:=by
 have r2:Vals (vs++dvs) (us++ds):=r.append hd
 have hl:(us++ds).length=ps.length:=by rw [← r2.length];exact F.len _ _ _ _ h
 refine wpAny_call (codeAny_mono (F.run X.A X.stack s H ⟨us,[]⟩ (us++ds) (vs++dvs) Q E hr I.Cc (hb s us I.eR hl) r2 h) λr s' hq=>?_)
 cases r with
 | error e=>exact hx pins σ H s e s' I hq
 | ok fl=>
   cases fl with
   | ret u=>exact I.after hq
   | next=>exact False.elim hq
   | brk=>exact False.elim hq
   | cont=>exact False.elim hq
theorem kU (F:dG X.prog X.w X.K X.mg X.base CX k f fd ps sp)(hr:bt k X.A)(hg:Gl X x)(hm:X.mg x=some (.ref f))(hk:PySem.W.keepIn X.K (.ref f)=true)(hb:Binds X.K fd ps ds)(hd:Vals dvs ds)(hx:Passes CX X E)
 (ha:PA X (e::es) t) (hdb:(x==("__debug__":Str))=false:=by decide) (he:starEach (e::es) X.env=(false,eval e X.env)::starEach es X.env:=by rfl) (hpl:(backTo pos (starEach es X.env)).any (·.1)=false:=by rfl):
 PE X (.Call (.Name x p) (e::es) [] pos) (zG sp dvs E t):=by
 intro pins s σ H Q I h
 refine wpAny_Call_Name_kw (oW I hg hm ?_ hdb)
 refine PySem.W.callWith_K (h₀:=X.base) I.ok.mod.kin hk (aG (ha pos pins s σ H _ I h) λus s1 ⟨vs,H1,I1,r,q⟩=>⟨I1.eR,?_⟩) he hpl
 exact xj F hr hb hd hx I1 r q
end
section
variable {X:Cx}{CX:gZ}{k:Nat}{f C:Addr}{fd:FuncData}{ps ks:List Str}{sp:Sp}{E:XK}{x m:Str}{p pos apos kpos:Pos}{e o:Expr}{es:List Expr}{kws:List Keyword}{te ta:TE}{t tk:TA}{nm:Option Str}
variable {g:List Value->List Value->List Value}{gV:List V->List V->List V}
end
structure ax (N P:List Str) (sc:Scope):Prop where
 kind:sc.kind= .function
 co:sc.isCoroutine=false
 gen:sc.isGenerator=false
 nd:N.Nodup
 pre:N.take P.length=P
 par:∀x∈P,sc.names.lookup x=some .local∨sc.names.lookup x=some .cell
 nofree:∀y∈sc.names,y.2≠ .free
theorem lP {kindOf:Str->Option NameKind}{x:Str}:∀{binds:List (Str×Value)} {m:Str->Option Value},(∀v,(x,v)∉binds)->bindL kindOf binds m x=m x
 | [],_,_=>rfl
 | (n,v)::r,m,h=>by
   unfold bindL
   rw [lP λw hw=>h w (List.mem_cons_of_mem _ hw)]
   split
   ·have:x≠n:=by rintro rfl;exact h v List.mem_cons_self
    simp [this]
   ·rfl
theorem lF {kindOf:Str->Option NameKind}{x:Str}:∀{binds:List (Str×Value)} {m:Str->Option Value},(∀v,(x,v)∉binds)->bindC kindOf binds m x=m x
 | [],_,_=>rfl
 | (n,v)::r,m,h=>by
   unfold bindC
   rw [lF λw hw=>h w (List.mem_cons_of_mem _ hw)]
   split
   ·rfl
   ·have:x≠n:=by rintro rfl;exact h v List.mem_cons_self
    simp [this]
theorem k7 {kindOf:Str->Option NameKind}{x:Str}{v:Value}:∀{P:List Str} {vs:List Value} {i:Nat} {m:Str->Option Value},P.Nodup->P[i]?=some x->vs[i]?=some v->kindOf x=some .local->
 bindL kindOf (P.zip vs) m x=some v
 | [],_,_,_,_,h,_,_=>by simp at h
 | _::_,[],_,_,_,_,h,_=>by simp at h
 | p::P,w::vs,0,m,nd,h1,h2,hk=>by
   simp at h1 h2;subst h1;subst h2
   show bindL kindOf ((p,w)::P.zip vs) m p=_
   unfold bindL
   rw [lP λv hv=>(List.nodup_cons.mp nd).1 (List.of_mem_zip hv).1,if_pos hk]
   simp
 | p::P,w::vs,i + 1,m,nd,h1,h2,hk=>by
   show bindL kindOf ((p,w)::P.zip vs) m x=_
   unfold bindL
   exact k7 (i:=i) (List.nodup_cons.mp nd).2 (by simpa using h1) (by simpa using h2) hk
theorem lC {kindOf:Str->Option NameKind}{x:Str}{v:Value}:∀{P:List Str} {vs:List Value} {i:Nat} {m:Str->Option Value},P.Nodup->P[i]?=some x->vs[i]?=some v->kindOf x≠some .local->
 bindC kindOf (P.zip vs) m x=some v
 | [],_,_,_,_,h,_,_=>by simp at h
 | _::_,[],_,_,_,_,h,_=>by simp at h
 | p::P,w::vs,0,m,nd,h1,h2,hk=>by
   simp at h1 h2;subst h1;subst h2
   show bindC kindOf ((p,w)::P.zip vs) m p=_
   unfold bindC
   rw [lF λv hv=>(List.nodup_cons.mp nd).1 (List.of_mem_zip hv).1,if_neg hk]
   simp
 | p::P,w::vs,i + 1,m,nd,h1,h2,hk=>by
   show bindC kindOf ((p,w)::P.zip vs) m x=_
   unfold bindC
   exact lC (i:=i) (List.nodup_cons.mp nd).2 (by simpa using h1) (by simpa using h2) hk
def start (N:List Str)(vs:List V):St:=vs.map some++List.replicate (N.length - vs.length) none
def d4 (CX:gZ)(P:Program)(w:World)(K:PySem.W.Frag)(mg:Str->Option Value)(base:Heap)(N:List Str)(qual:Str)(scope:Scope)(f:Addr)(cd:Value)(A:Around)(outer:List Env)(s:Shared)(H:Hp)(E:XK):Cx where
 prog:=P
 w:=w
 K:=K
 mg:=mg
 base:=base
 A:=A.deeper (envOfC qual scope s.heap.objs.size f cd)
 N:=N
 s₀:=s
 H₀:=H
 env:=envOfC qual scope s.heap.objs.size f cd
 outer:=outer
 stack:=envOfC qual scope s.heap.objs.size f cd::outer
 ex:=[]
 calm:=true
 fn:=λ_=>true
 pn:=[]
 xe:=λe s'=>wpAny (model P w) (A.deeper (envOfC qual scope s.heap.objs.size f cd)) (leaving (envOfC qual scope s.heap.objs.size f cd) e) (λ_ s''=>CX outer H s E e s'') (λe' s''=>CX outer H s E e' s'') s'
theorem aE {sc:Scope}{n:Nat}{x:Str}(h:sc.names.lookup x=some .cell):∃c,(cellsFrom n sc.names []).lookup x=some c:=by
 have q:=PySem.W.cellsFrom_some sc.names n [] (.inl h)
 exact Option.isSome_iff_exists.mp q
theorem rE {CX:gZ}{P:Program}{w:World}{K:PySem.W.Frag}{mg:Str->Option Value}{base:Heap}{N ps:List Str}{qual:Str}{scope:Scope}{f:Addr}{cd:Value}{A:Around}{outer:List Env}{s s1:Shared}{H:Hp}{E:XK}{us:List Value}{vs:List V}
 (S:ax N ps scope) (hd:A.handled=none) (e0:pY P w K mg base A outer s H) (hl:vs.length=ps.length) (r:Vals vs us)
 (x:InCallC s s.heap.objs.size (bindL (envOfC qual scope s.heap.objs.size f cd).kindOf (ps.zip us) λ_=>none) (cellsFrom (s.heap.objs.size + 1) scope.names []) (bindC (envOfC qual scope s.heap.objs.size f cd).kindOf (ps.zip us) λ_=>none) s1):
 Inv (d4 CX P w K mg base N qual scope f cd A outer s H E) [] (start N vs) H s1:=by
 have hpl:ps.length<=N.length:=by have:=congrArg List.length S.pre;rw [List.length_take] at this;omega
 obtain ⟨h1,tk,rfl,hk⟩:=x.done
 have noA:∀b:Addr,b∉(d4 CX P w K mg base N qual scope f cd A outer s H E).ex:=λb z=>absurd (show b∈([]:List Addr) from z) (by simp)
 refine ⟨⟨e0.mod,S.kind,rfl,rfl,Nat.le_refl _,λy z c h1 h2=>?_,λy hy=>?_,λy c _ h=>?_,λ_=>hd,Around.frames_deeper e0.frames,.inr ⟨rfl,rfl⟩,λb z=>absurd z (noA b),e0.bs,e0.bsz,λb _ _=>noA b,λb z=>absurd z (noA b),e0.funs,e0.frf⟩,
  rfl,e0.bare,Un.kept hk,⟨_,x.toInCall.ns,λi y v h1 h2 h3=>?_⟩,λy c h=>⟨_,x.cell y c h⟩,e0.hok.fresh (Nat.le_refl _),λy c h=>?_,λp hp=>absurd (show p∈([]:List (Addr×Obj)) from hp) (by simp),e0.hok.kept hk,?_⟩
 ·exact name_of_addr x.apart (PySem.mem_of_lookup h1) (PySem.mem_of_lookup h2)
 ·have hy:scope.names.lookup y=some .cell∨scope.names.lookup y=some .free:=hy
  rcases hy with hy | hy
  ·exact aE hy
  ·exact absurd rfl (S.nofree _ (PySem.mem_of_lookup hy))
 ·exact Nat.le_of_lt (x.above y c (PySem.mem_of_lookup h))
 ·have hi:i < vs.length:=by
   unfold start at h2
   by_cases hi:i < vs.length
   ·exact hi
   ·rw [List.getElem?_append_right (by simpa using hi)] at h2
    rw [List.getElem?_replicate] at h2
    split at h2<;>cases h2
  have ha:vs[i]?=some v:=by
   unfold start at h2
   rw [List.getElem?_append_left (by simpa using hi),List.getElem?_map] at h2
   cases e:vs[i]? with
   | none=>rw [e] at h2;cases h2
   | some a=>rw [e] at h2;cases h2;rfl
  obtain ⟨u,hu,rv⟩:=r.get ha
  have hp:ps[i]?=some y:=by
   rw [← S.pre,List.getElem?_take_of_lt (by omega)];exact h1
  have ndP:ps.Nodup:=by rw [← S.pre];exact S.nd.sublist (List.take_sublist _ _)
  refine ⟨u,rv,?_⟩
  rcases S.par y (List.mem_of_getElem? hp) with k | k
  ·exact .inl ⟨k,k7 ndP hp hu k⟩
  ·obtain ⟨c,e⟩:=aE (n:=s.heap.objs.size + 1) k
   refine .inr ⟨.inl k,c,e,?_⟩
   have q:=x.cell y c e
   rw [lC ndP hp hu (by show scope.names.lookup y≠_;rw [k];decide)] at q
   exact q
 ·exact e0.hok.fresh (Nat.le_of_lt (x.above y c (PySem.mem_of_lookup h)))
 ·unfold start
  show _=N.length
  rw [List.length_append,List.length_map,List.length_replicate]
  omega
theorem A0 {CX:gZ}{P:Program}{w:World}{K:PySem.W.Frag}{mg:Str->Option Value}{base:Heap}{k:Nat}{f:Addr}{name qual:Str}{params:Arguments}{body:List Stmt}{scope:Scope}{dV kV doc pm cdv ct oc:Value}{an od:Option Addr}
 {osl:Array (Option Value)} {N ps:List Str} {sp:Sp} (lk:K.lookup f=some ⟨oc,od,.func (PySem.W.fnOf name qual params body scope dV kV doc pm an cdv ct),osl⟩) (hcd:PySem.W.codeIn K cdv qual=true) (S:ax N ps scope)
 (len:∀vs H Q E,sp vs H Q E->vs.length=ps.length)
 (hbody:∀(A:Around) (outer:List Env) (s:Shared) (H:Hp) (vs:List V) (Q:VK) (E:XK),bt k (A.deeper (envOfC qual scope s.heap.objs.size f cdv))->sp vs H Q E->
  ∃t,fg (d4 CX P w K mg base N qual scope f cdv A outer s H E) body t/\t {nx:=λ_ H'=>Q .non H',rt:=Q} (start N vs) H):
 dG P w K mg base CX (k + 1) f (PySem.W.fnOf name qual params body scope dV kV doc pm an cdv ct) ps sp:=by
 refine ⟨len,λA outer s H args us vs Q E hr e0 hb r hsp=>?_⟩
 have hl:=len _ _ _ _ hsp
 have KX:K.In s.heap:=e0.mod.kin.keeps λb o e=>(e0.bs b o e).1
 have lim:s.heap.NoLimit:=e0.mod.nolimit.keeps λb o e=>(e0.bs b o e).1
 have hkind:∀y∈ps.zip us,scope.names.lookup y.1=some .local∨(scope.names.lookup y.1=some .cell/\((cellsFrom (s.heap.objs.size + 1) scope.names []).lookup y.1).isSome=true):=λ⟨n,v⟩ hy=>by
  rcases S.par n (List.of_mem_zip hy).1 with q | q
  ·exact .inl q
  ·exact .inr ⟨q,PySem.W.cellsFrom_some _ _ _ (.inl q)⟩
 refine codeAny_call_function hr.depth (KX _ _ lk) rfl S.co S.gen rfl (PySem.W.codeRec_of KX hcd) (hb _ _ _ _ ?_)
 refine wpAny_newFunctionEnv_cells S.kind hkind λenv he s1 x=>?_
 subst he
 refine ⟨lim.keeps x.toInCall.keep,codeAny_func ?_⟩
 obtain ⟨t,ht,hq⟩:=hbody A outer s H vs Q E (hr.deeper _) hsp
 have I:Inv (d4 CX P w K mg base N qual scope f cdv A outer s H E) [] (start N vs) H s1:=rE S hr.hd e0 hl r x
 refine wpAny_mono (ht [] s1 (start N vs) H _ I hq) (λfl s' hs=>?_) λe s' hs=>hs
 have fin:∀{σ':St} {H':Hp} {v:V} {u:Value},Inv (d4 CX P w K mg base N qual scope f cdv A outer s H E) [] σ' H' s'->RelV v u->Q v H'->CE outer P w H s Q u s':=
  λ{σ' H' v u} J rv q=>⟨v,H',J.os,J.bare,J.base,J.hok,rv,q⟩
 cases fl with
 | ret u=>
   obtain ⟨v,σ',H',J,rv,q⟩:=hs
   exact fin J rv q
 | next=>
   obtain ⟨σ',H',J,q⟩:=hs
   exact fin (v:=V.non) (u:=Value.none) J rfl q
 | brk=>
   obtain ⟨_,_,_,q⟩:=hs
   exact False.elim q
 | cont=>
   obtain ⟨_,_,_,q⟩:=hs
   exact False.elim q
section
variable {X:Cx}{x:Str}{p pos:Pos}{e:Expr}{es:List Expr}{t:TA}{id T:String}{r:List V->Hp->VK->Prop}
def Bg (r:List V->Hp->VK->Prop)(t:TA):TE:=λσ H Q=>t σ H λvs H1=>r vs H1 Q
theorem cZ (hc:c4 X (.builtin id) r)(hg:Gl X x)(hm:X.mg x=none)(hv:bootBuiltins x=some (.builtin id))(ha:PA X (e::es) t)(hn:x≠"__name__":=by decide)(hdb:(x==("__debug__":Str))=false:=by decide)
 (he:starEach (e::es) X.env=(false,eval e X.env)::starEach es X.env:=by rfl) (hpl:(backTo pos (starEach es X.env)).any (·.1)=false:=by rfl):PE X (.Call (.Name x p) (e::es) [] pos) (Bg r t):=by
 intro pins s σ H Q I h
 refine wpAny_Call_Name_kw (eU I hg hm hv ?_ hn hdb)
 exact PyProof.Rows.callWith_builtin1 (aG (ha pos pins s σ H _ I h) λus s1 ⟨vs,H1,I1,r1,q1⟩=>hc pins s1 σ H1 vs us Q I1 r1 q1) he hpl
theorem dN (hc:c4 X (.type T) r)(hg:Gl X x)(hm:X.mg x=none)(hv:bootBuiltins x=some (.type T))(ha:PA X (e::es) t)(hn:x≠"__name__":=by decide)(hdb:(x==("__debug__":Str))=false:=by decide)
 (he:starEach (e::es) X.env=(false,eval e X.env)::starEach es X.env:=by rfl) (hpl:(backTo pos (starEach es X.env)).any (·.1)=false:=by rfl):PE X (.Call (.Name x p) (e::es) [] pos) (Bg r t):=by
 intro pins s σ H Q I h
 refine wpAny_Call_Name_kw (eU I hg hm hv ?_ hn hdb)
 exact PyProof.Rows.callWith_type1 (aG (ha pos pins s σ H _ I h) λus s1 ⟨vs,H1,I1,r1,q1⟩=>hc pins s1 σ H1 vs us Q I1 r1 q1) he hpl
end
end L2
namespace HT
open PySem PyProof.Rows
section
open PySem.SeqAt
open PySem.AutoSeq1 (wpAny_loadPart')
open PySem.MeetsSeq PySem.MeetsSeq2 PySem.MeetsSeq3
end
section
variable {prog:Program}{w:World}{A:Around}{E:Value->Shared->Prop}{s:Shared}
def sIx (n d:Nat):Option Int->Nat
 | none=>d
 | some v=>if v < 0 then (v + (n:Int)).toNat else min v.toNat n
theorem yD (n d:Nat)(hd:d<=n)(o:Option Int):sIx n d o<=n:=by
 cases o with
 | none=>exact hd
 | some v=>
   show (if v < 0 then (v + (n:Int)).toNat else min v.toNat n)<=n
   by_cases hv:v < 0
   ·rw [if_pos hv];omega
   ·rw [if_neg hv];exact Nat.min_le_right _ _
theorem ox (v:Int)(n d:Nat):(if v < 0 then max (v + (n:Int)) 0 else min v (n:Int))=((sIx n d (some v):Nat):Int):=by
 show (if v < 0 then max (v + (n:Int)) 0 else min v (n:Int))=(((if v < 0 then (v + (n:Int)).toNat else min v.toNat n):Nat):Int)
 by_cases hv:v < 0
 ·simp only [if_pos hv];omega
 ·simp only [if_neg hv];omega
theorem pI (lo hi:Option Int)(n:Nat):Builtin.Slice.sliceAdjust lo hi 1 (n:Int)=(((sIx n 0 lo:Nat):Int),((sIx n n hi:Nat):Int)):=by
 have h1:¬((1:Int) < 0):=by omega
 unfold Builtin.Slice.sliceAdjust
 simp only [h1,if_false]
 refine Prod.ext ?_ ?_
 ·cases lo with
  | none=>rfl
  | some v=>exact ox v n 0
 ·cases hi with
  | none=>rfl
  | some v=>exact ox v n n
theorem pw (i j:Nat):Builtin.Slice.slicePlaces (i:Int) (j:Int) 1=j - i:=by
 unfold Builtin.Slice.slicePlaces
 have h1:(1:Int) > 0:=by omega
 simp only [h1,if_true,Int.ediv_one]
 split<;>omega
theorem jF {v:Value}{o:Option Int}{Q:Option Int->Shared->Prop}(p:IsPart v o)(h:Q o s):wpAny (model prog w) A (Builtin.Slice.slicePartIndex v) Q E s:=by
 cases p with
 | none=>exact slicePart_none h
 | int i t=>exact slicePart_int h
theorem ja {sl:Addr}{vl vu:Value}{lo hi:Option Int}{n:Nat}{Q:Int×Int×Nat->Shared->Prop}(hs:s.heap.IsSliceOf sl vl vu .none)(pl:IsPart vl lo)(pu:IsPart vu hi)
 (h:Q (((sIx n 0 lo:Nat):Int),1,sIx n n hi - sIx n 0 lo) s):wpAny (model prog w) A (Builtin.Slice.sliceApplied (.ref sl) (pure (n:Int))) Q E s:=by
 obtain ⟨os,hos,hcs,hds⟩:=id hs
 unfold Builtin.Slice.sliceApplied Builtin.Slice.sliceFields
 refine wpAny_bind (wpAny_bind (wpAny_field hos hds (x:=vl) rfl (wpAny_bind (wpAny_field hos hds (x:=vu) rfl (wpAny_bind (wpAny_field hos hds (x:=.none) rfl (wpAny_pure ?_)))))))
 refine wpAny_bind (slicePart_none ?_)
 show wpAny _ _ (if ((1:Int)==0)=true then _ else _) _ _ s
 rw [if_neg (by decide)]
 refine wpAny_bind (jF pl (wpAny_bind (jF pu (wpAny_bind (wpAny_pure ?_)))))
 show wpAny _ _ (match Builtin.Slice.sliceAdjust lo hi 1 (n:Int) with | (lo,hi)=>pure (lo,(1:Int),Builtin.Slice.slicePlaces lo hi 1)) _ _ s
 rw [pI lo hi n]
 show wpAny _ _ (pure (((sIx n 0 lo:Nat):Int),(1:Int),Builtin.Slice.slicePlaces ((sIx n 0 lo:Nat):Int) ((sIx n n hi:Nat):Int) 1)) _ _ s
 rw [pw]
 exact wpAny_pure h
theorem ur (xs:Array Value)(i k:Nat):((List.range k).filterMap λ(m:Nat)=>xs[((i:Int) + (m:Int) * 1).toNat]?).toArray=((xs.toList.drop i).take k).toArray:=by
 have e:(λ(m:Nat)=>xs[((i:Int) + (m:Int) * 1).toNat]?)=λm=>xs[i + m]?:=by
  funext m
  have:((i:Int) + (m:Int) * 1).toNat=i + m:=by omega
  rw [this]
 rw [e]
 have:=pick_run xs i k
 rw [List.filterMap_map] at this
 have e2:((λx=>xs[x]?) ∘ λx=>i + x)=λm=>xs[i + m]?:=rfl
 rw [e2] at this
 rw [this]
theorem iR {t sl:Addr}{items:Array Value}{vl vu:Value}{lo hi:Option Int}{Q:Value->Shared->Prop}(ht:IsTup s.heap t items)(hs:s.heap.IsSliceOf sl vl vu .none)(pl:IsPart vl lo)(pu:IsPart vu hi)
 (hw:¬(sIx items.size 0 lo=0/\sIx items.size items.size hi=items.size))
 (h:Q (.ref s.heap.objs.size) {s with heap:=s.heap.push {cls:=.type "tuple",data:=.seq ((items.toList.drop (sIx items.size 0 lo)).take (sIx items.size items.size hi - sIx items.size 0 lo)).toArray}})
 (hsz:items.size<=sizeLine):wpAny (model prog w) A (getItem (.ref t) (.ref sl)) Q E s:=by
 have htake:sizeOk (.seq ((items.toList.drop (sIx items.size 0 lo)).take (sIx items.size items.size hi - sIx items.size 0 lo)).toArray):=by
  show ((items.toList.drop (sIx items.size 0 lo)).take (sIx items.size items.size hi - sIx items.size 0 lo)).toArray.size<=sizeLine
  rw [List.size_toArray,List.length_take,List.length_drop,Array.length_toList]
  omega
 have hj:sIx items.size items.size hi<=items.size:=yD _ _ (Nat.le_refl _) hi
 obtain ⟨os,hos,hcs,hds⟩:=id hs
 have hTs:s.TypeIs (.ref sl) "slice":=⟨os,hos,hcs⟩
 unfold getItem
 try with_reducible refine wpAny_holding ?_
 first | refine wpAny_bind (wpAny_pure ?_) | skip
 refine wpAny_bind (wpAny_sequenceKey ht.typeIs (by decide) ?_)
 refine wpAny_bind (wpAny_callSpecial?_slot (name:=Str.ofString "__getitem__") ht.typeIs PyProof.Rows.slot_tuple_getitem
  (wpAny_call_entry PyProof.Rows.slot_tuple_getitem ht.typeIs entry_tuple_getitem ?_ (args_tuple_getitem _ _)))
 show wpAny _ _ (Builtin.Tuple.tupleItemsOf (.ref t) >>=_) _ _ s
 refine wpAny_bind (tupleItemsOf_ ht ?_)
 refine wpAny_bind (wpAny_typeOf hTs ?_)
 rw [if_pos (by decide)]
 refine wpAny_bind (ja hs pl pu ?_)
 have hno:¬((((sIx items.size 0 lo:Nat):Int)==0&&(1:Int)==1&&(sIx items.size items.size hi - sIx items.size 0 lo)==items.size)=true):=by
  intro q
  rw [Bool.and_eq_true,Bool.and_eq_true] at q
  have q1:((sIx items.size 0 lo:Nat):Int)=0:=eq_of_beq q.1.1
  have q2:sIx items.size items.size hi - sIx items.size 0 lo=items.size:=eq_of_beq q.2
  exact hw ⟨by omega,by omega⟩
 show wpAny _ _ (if (((sIx items.size 0 lo:Nat):Int)==0&&(1:Int)==1&&(sIx items.size items.size hi - sIx items.size 0 lo)==items.size)=true then _ else _) _ _ s
 rw [if_neg hno,ur]
 first
  | exact wpAny_bind (m:=Builtin.Tuple.tupleExact _) (wpAny_newObj_type (wpAny_pure ⟨_,rfl,wpAny_pure h⟩) htake)
  | exact wpAny_bind (m:=Builtin.Tuple.tupleExact _) (wpAny_newObj_type (wpAny_bind (wpAny_pure (wpAny_pure ⟨_,rfl,wpAny_pure h⟩))) htake)
  | exact wpAny_bind (wpAny_bind (m:=Builtin.Tuple.tupleExact _) (wpAny_newObj_type (wpAny_pure (wpAny_pure ⟨_,rfl,wpAny_pure h⟩)) htake))
  | exact wpAny_bind (wpAny_bind (m:=Builtin.Tuple.tupleExact _) (wpAny_newObj_type (wpAny_pure ⟨_,rfl,wpAny_pure h⟩) htake))
end
end HT
namespace L2
open PySem PySem.Spec PyProof.Rows
abbrev TO:=St->Hp->(Option Int->Hp->Prop)->Prop
def PO (X:Cx)(e:Option Expr)(t:TO):Prop:=
 ∀(pins:List (Addr×Obj)) (s:Shared) (σ:St) (H:Hp) (Q:Option Int->Hp->Prop),Inv X pins σ H s->t σ H Q->
  wpAny (model X.prog X.w) X.A (evalPart e X.env) (λu s'=>∃o H',Inv X pins σ H' s'/\IsPart u o/\Q o H') X.xe s
def wL:TO:=λ_ H Q=>Q none H
def zM (t:TE):TO:=λσ H Q=>t σ H λx H1=>∃i,x= .int i/\Q (some i) H1
theorem intsAre_of {ns:List Int}:∀{us:List Value},Vals (ns.map V.int) us->IntsAre us ns:=by
 induction ns with
 | nil=>intro us r;rw [List.map_nil] at r;cases r;exact .nil
 | cons n ns ih=>
   intro us r
   rw [List.map_cons] at r
   cases r with
   | cons r1 r2=>
     obtain ⟨t,e⟩:=r1
     subst e
     exact .cons n t (ih r2)
section
variable {X:Cx}{e:Expr}{te:TE}{lo hi:Option Expr}{tl th:TO}{pos p2:Pos}
theorem oF:PO X none wL:=by
 intro pins s σ H Q I h
 rw [evalPart_none]
 exact wpAny_pure ⟨none,H,I,.none,h⟩
theorem n5 (h:PE X e te):PO X (some e) (zM te):=by
 intro pins s σ H Q I hw
 rw [evalPart_some]
 refine aG (h pins s σ H _ I hw) λu s1 ⟨x,H1,I1,r1,q1⟩=>?_
 obtain ⟨i,rfl,q⟩:=q1
 obtain ⟨t,rfl⟩:=r1
 exact ⟨some i,H1,I1,.int i t,q⟩
def zu (X:Cx)(r:V->Option Int->Option Int->Hp->VK->Prop):Prop:=
 ∀(pins:List (Addr×Obj)) (s:Shared) (σ:St) (H:Hp) (x:V) (v vl vu:Value) (lo hi:Option Int) (sl:Addr) (Q:VK),Inv X pins σ H s->RelV x v->s.heap.IsSliceOf sl vl vu .none->IsPart vl lo->IsPart vu hi->r x lo hi H Q->
  ∃T id,typeLookup (.type T) "__getitem__"=pure (some (.builtin id))/\s.TypeIs v T/\wpAny (model X.prog X.w) X.A (getItem v (.ref sl)) (EP X pins σ Q) X.xe s
def tSl (r:V->Option Int->Option Int->Hp->VK->Prop)(te:TE)(tl th:TO):TE:=λσ H Q=>te σ H λx H1=>tl σ H1 λl H2=>th σ H2 λu H3=>r x l u H3 Q
theorem my {r:V->Option Int->Option Int->Hp->VK->Prop}(hr:zu X r)(he:PE X e te)(hl:PO X lo tl)(hu:PO X hi th):PE X (.Subscript e (.Slice lo hi none p2) pos) (tSl r te tl th):=by
 intro pins s σ H Q I h
 refine Subscript_ (aG (he pins s σ H _ I h) λv s1 ⟨x,H1,I1,r1,q1⟩=>?_)
 refine wpAny_Slice (aG (hl pins s1 σ H1 _ I1 q1) λvl s2 ⟨l,H2,I2,pl,q2⟩=>aG (hu pins s2 σ H2 _ I2 q2) λvu s3 ⟨u,H3,I3,pu,q3⟩=>?_)
 rw [evalPart_none]
 refine wpAny_pure ?_
 have I4:Inv X pins σ H3 {s3 with heap:=s3.heap.push {cls:=.type "slice",data:=.fields #[vl,vu,.none]}}:=I3.kept (t':=s3.toks) λb ob q=>Heap.get?_push_of_some _ q
 obtain ⟨T,id,hT,ht,hg⟩:=hr pins {s3 with heap:=s3.heap.push {cls:=.type "slice",data:=.fields #[vl,vu,.none]}} σ H3 x v vl vu l u s3.heap.objs.size Q I4 r1 (Heap.IsSliceOf.new ..) pl pu q3
 show wpAny (model X.prog X.w) X.A (subscriptTail e (.Slice lo hi none p2) v (.ref s3.heap.objs.size)) (EP X pins σ Q) X.xe {s3 with heap:=s3.heap.push {cls:=.type "slice",data:=.fields #[vl,vu,.none]}}
 exact tail_any (ops:=[.ref s3.heap.objs.size,v]) ht hT hg (by with_unfolding_all rfl)
def jh (xs:List V)(lo hi:Option Int):List V:=(xs.drop (HT.sIx xs.length 0 lo)).take (HT.sIx xs.length xs.length hi - HT.sIx xs.length 0 lo)
theorem iU (xs:List V)(lo hi:Option Int):(jh xs lo hi).length<=xs.length:=by
 unfold jh
 rw [List.length_take,List.length_drop]
 omega
def B5 (K:PySem.W.Frag):V->Option Int->Option Int->Hp->VK->Prop:=λx lo hi H Q=>∃a xs,x= .ref a/\cU K H a xs/\
 ¬(HT.sIx xs.length 0 lo=0/\HT.sIx xs.length xs.length hi=xs.length)/\∀p,H p=none->Q (.ref p) (upd H p (.tup (jh xs lo hi)))
theorem zx:zu X (B5 X.K):=by
 intro pins s σ H x v vl vu lo hi sl Q I rx hs pl pu h
 obtain ⟨a,xs,rfl,hx,hw,q⟩:=h
 cases rx
 obtain ⟨its,r,ht,hz⟩:=I.tuple hx
 have hlen:its.toArray.size=xs.length:=by rw [List.size_toArray];exact r.length.symm
 refine ⟨"tuple",_,PyProof.Rows.slot_tuple_getitem.lookup,ht.typeIs,?_⟩
 refine HT.iR ht hs pl pu (by rw [hlen];exact hw) ?_ (by rw [hlen];exact hz)
 rw [hlen]
 refine ⟨.ref s.heap.objs.size,_,I.laid (t':=s.toks) (o:=.tup (jh xs lo hi)) (λb ob q=>Heap.get?_push_of_some _ q) (Nat.le_refl _) ?_,rfl,q _ (I.hok.fresh (Nat.le_refl _))⟩
 exact ⟨Nat.le_trans (iU xs lo hi) hz,_,(r.drop (HT.sIx xs.length 0 lo)).take (HT.sIx xs.length xs.length hi - HT.sIx xs.length 0 lo),IsTup.new _ _⟩
end
section
variable {α:Type}
def eW (n:Nat)(i:Int):Option Nat:=if 0<=i then (if i < n then some i.toNat else none) else if -(n:Int)<=i then some (i + n).toNat else none
def cO (xs:List α)(i:Int):Option α:=(eW xs.length i).bind λj=>xs[j]?
theorem kz {n:Nat}{i:Int}{j:Nat}(h:eW n i=some j):seqIndex? i n=some j/\j < n/\ -(n:Int)<=i/\i < n:=by
 unfold eW at h
 by_cases h0:0<=i
 ·rw [if_pos h0] at h
  by_cases h1:i < n
  ·rw [if_pos h1] at h
   have e:i.toNat=j:=Option.some.inj h
   exact ⟨by rw [seqIndex_of h0 h1,e],by omega,by omega,h1⟩
  ·rw [if_neg h1] at h;cases h
 ·rw [if_neg h0] at h
  by_cases h1: -(n:Int)<=i
  ·rw [if_pos h1] at h
   have e:(i + n).toNat=j:=Option.some.inj h
   exact ⟨by rw [seqIndex_neg (by omega) h1,e],by omega,h1,by omega⟩
  ·rw [if_neg h1] at h;cases h
theorem oy {xs:List α}{i:Int}{v:α}(h:cO xs i=some v):∃j,seqIndex? i xs.length=some j/\xs[j]?=some v/\j < xs.length/\ -(xs.length:Int)<=i/\i < xs.length:=by
 unfold cO at h
 cases e:eW xs.length i with
 | none=>rw [e] at h;cases h
 | some j=>
   rw [e] at h
   obtain ⟨h1,h2,h3,h4⟩:=kz e
   exact ⟨j,h1,h,h2,h3,h4⟩
theorem wN {xs:List α}{j:Nat}{v:α}(h:xs[j]?=some v):cO xs (j:Int)=some v:=by
 have hj:j < xs.length:=(List.getElem?_eq_some_iff.mp h).1
 have e:eW xs.length (j:Int)=some j:=by
  unfold eW
  rw [if_pos (by omega),if_pos (by omega)];simp
 unfold cO;rw [e];exact h
def ef (b:Expr):Prop:=∀o i,subscripted b false o i=operate [o,i] (getItem o i)
def xR (X:Cx)(r:R2):Prop:=
 ∀(value slice:Expr) (pins:List (Addr×Obj)) (s:Shared) (σ:St) (H:Hp) (x y:V) (v u:Value) (Q:VK),Inv X pins σ H s->RelV x v->RelV y u->r x y H Q->
  subscripted slice false v u=operate [v,u] (getItem v u)->wpAny (model X.prog X.w) X.A (subscriptTail value slice v u) (EP X pins σ Q) X.xe s
def xT (X:Cx)(id:String)(r:V->List V->Hp->VK->Prop):Prop:=
 ∀(pins:List (Addr×Obj)) (s:Shared) (σ:St) (H:Hp) (x:V) (xs:List V) (v:Value) (us:List Value) (Q:VK),Inv X pins σ H s->RelV x v->Vals xs us->r x xs H Q->
  wpAny (model X.prog X.w) X.A (call (.builtin id) (v::us)) (EP X pins σ Q) X.xe s
end
section
variable {X:Cx}{a b:Expr}{ta tb:TE}{pos:Pos}
theorem eZ {r:R2}(hr:xR X r)(ha:PE X a ta)(hb:PE X b tb)(hs:ef b):PE X (.Subscript a b pos) (uV r ta tb):=by
 intro pins s σ H Q I h
 exact Subscript_ (tE ha hb I h λv u s2 x y H2 I2 rx ry q=>hr a b pins s2 σ H2 x y v u Q I2 rx ry q (hs _ _))
def BW (K:PySem.W.Frag):R2:=λx y H Q=>∃p xs i v,x= .ref p/\y= .int i/\aH K H p xs/\cO xs i=some v/\Q v H
def BX (K:PySem.W.Frag):R2:=λx y H Q=>∃p xs i v,x= .ref p/\y= .int i/\cU K H p xs/\cO xs i=some v/\Q v H
theorem dM:xR X (BW X.K):=by
 intro value slice pins s σ H x y v u Q I rx ry h hs
 obtain ⟨p,xs,i,z,rfl,rfl,hq,he,q⟩:=h
 cases rx
 obtain ⟨t,rfl⟩:=ry
 obtain ⟨its,r,pl,hz⟩:=I.list hq
 obtain ⟨j,h1,h2,h3,h4,h5⟩:=oy he
 obtain ⟨w,ew,rw'⟩:=r.get h2
 have hl:=r.length
 have hn:=ia
 have fin:EP X pins σ Q w s:=⟨z,H,I,rw',q⟩
 by_cases h0:0<=i
 ·have hj:i.toNat=j:=by
   rw [seqIndex_of h0 h5] at h1
   exact Option.some.inj h1
  exact item_listR pl.isList h0 (by omega) (by rw [hj];simpa using ew) fin hs
 ·have hj:(i + (its.toArray.size:Int)).toNat=j:=by
   rw [seqIndex_neg (by omega) h4] at h1
   rw [List.size_toArray,← hl]
   exact Option.some.inj h1
  exact subscriptTail_builtinR (x:=w) pl.isList.typeIs slot_list_getitem.lookup
   (wpAny_getItem_list_neg (Q:=λr s'=>r=w/\EP X pins σ Q r s') pl.isList (by omega) (by rw [List.size_toArray]<;>omega) (by omega) (by rw [hj];simpa using ew) ⟨rfl,fin⟩) hs
theorem zg:xR X (BX X.K):=by
 intro value slice pins s σ H x y v u Q I rx ry h hs
 obtain ⟨p,xs,i,z,rfl,rfl,hq,he,q⟩:=h
 cases rx
 obtain ⟨t,rfl⟩:=ry
 obtain ⟨its,r,pl,hz⟩:=I.tuple hq
 obtain ⟨j,h1,h2,h3,h4,h5⟩:=oy he
 obtain ⟨w,ew,rw'⟩:=r.get h2
 have hl:=r.length
 have hn:=ia
 have fin:EP X pins σ Q w s:=⟨z,H,I,rw',q⟩
 exact subscriptTail_builtinR (x:=w) pl.typeIs slot_tuple_getitem.lookup
  (getItem_tuple (j:=j) (Q:=λr s'=>r=w/\EP X pins σ Q r s') pl (by omega) (by omega) (by rw [List.size_toArray,← hl];exact h1) (by simpa using ew) ⟨rfl,fin⟩) hs
theorem p6 (its:List Value)(n j:Nat)(u:Value):Obj.mapSeq (·.setIfInBounds j u) {cls:=.type "list",data:=.seq its.toArray n}={cls:=.type "list",data:=.seq (its.set j u).toArray n}:=by
 simp [Obj.mapSeq]
theorem Inv.lst {pins:List (Addr×Obj)}{σ:St}{H:Hp}{s:Shared}{p:Addr}{xs:List V}(I:Inv X pins σ H s)(h:H p=some (.lst xs)):
 ∃(its:List Value) (n:Nat),Vals xs its/\s.heap.get? p=some {cls:=.type "list",data:=.seq its.toArray n}/\xs.length<=sizeLine:=by
 obtain ⟨z,its,n,r,e⟩:=I.hok p _ h
 exact ⟨its,n,r,e,z⟩
theorem Inv.yE {pins:List (Addr×Obj)}{σ:St}{H:Hp}{s:Shared}{p:Addr}{xs ys:List V}{its its':List Value}{n n':Nat}{f:Obj->Obj}(I:Inv X pins σ H s)(h:H p=some (.lst xs))
 (ho:s.heap.get? p=some {cls:=.type "list",data:=.seq its.toArray n}) (hf:f {cls:=.type "list",data:=.seq its.toArray n}={cls:=.type "list",data:=.seq its'.toArray n'}) (r:Vals ys its') (hz:ys.length<=sizeLine) (t:Nat):
 Inv X pins σ (upd H p (.lst ys)) {s with heap:=s.heap.update p f,toks:=t}:=by
 have e:(s.heap.update p f).get? p=some {cls:=.type "list",data:=.seq its'.toArray n'}:=by
  rw [Heap.get?_update_self f ho (by rw [hf]<;>rfl),hf]
 refine I.write (x:=p) (e:=p) (by rw [h];trivial) (.inl rfl) (λb u hb q=>(Heap.get?_update_other _ _ (Ne.symm hb)).trans q) ⟨_,e⟩ ?_
 exact ⟨hz,its',n',r,e⟩
def Ac:V->V->V->Hp->(Hp->Prop)->Prop:=λo i v H Q=>∃p xs k j,o= .ref p/\i= .int k/\H p=some (.lst xs)/\eW xs.length k=some j/\Q (upd H p (.lst (xs.set j v)))
theorem set_list:yC X Ac:=by
 intro pins s σ H o i v ov iv u Q I ro ri rv h
 obtain ⟨p,xs,k,j,rfl,rfl,hp,hj,q⟩:=h
 cases ro
 obtain ⟨t,rfl⟩:=ri
 obtain ⟨its,n,r,ho,hz⟩:=I.lst hp
 obtain ⟨h1,h2,h3,h4⟩:=kz hj
 have hl:=r.length
 have hn:=ia
 have I':Inv X pins σ (upd H p (.lst (xs.set j v))) {s with heap:=s.heap.update p (Obj.mapSeq (·.setIfInBounds j u))}:=
  I.yE hp ho (p6 its n j u) (r.set rv j) (by rw [List.length_set];exact hz) s.toks
 by_cases h0:0<=k
 ·have hk:k.toNat=j:=by
   rw [seqIndex_of h0 h4] at h1
   exact Option.some.inj h1
  exact PySem.W.ki_setAt ho h0 (by omega) (by rw [List.size_toArray,← hl];exact h4) (by rw [hk];exact ⟨_,I',q⟩)
 ·have hk:(k + (its.toArray.size:Int)).toNat=j:=by
   rw [seqIndex_neg (by omega) h3] at h1
   rw [List.size_toArray,← hl]
   exact Option.some.inj h1
  exact PySem.W.ki_setBack ho (by omega) (by rw [List.size_toArray,← hl];exact h3) (by omega) (by rw [hk];exact ⟨_,I',q⟩)
theorem mV (lo hi:Option Int)(n:Nat):(sliceBounds lo hi none n).1=((HT.sIx n 0 lo:Nat):Int)/\(sliceBounds lo hi none n).2.1=((HT.sIx n n hi:Nat):Int)/\(sliceBounds lo hi none n).2.2=1:=by
 refine ⟨?_,?_,rfl⟩
 ·cases lo with
  | none=>simp [sliceBounds,HT.sIx]
  | some i=>
    simp only [sliceBounds,HT.sIx,Option.getD_none,show (1:Int) > 0 by decide,if_true]
    by_cases h:i < 0
    ·simp only [h,if_true]<;>omega
    ·simp only [h,if_false]<;>omega
 ·cases hi with
  | none=>simp [sliceBounds,HT.sIx]
  | some i=>
    simp only [sliceBounds,HT.sIx,Option.getD_none,show (1:Int) > 0 by decide,if_true]
    by_cases h:i < 0
    ·simp only [h,if_true]<;>omega
    ·simp only [h,if_false]<;>omega
theorem lS (its:List Value)(lo hi:Option Int):slicePick its.toArray lo hi none=((its.drop (HT.sIx its.length 0 lo)).take (HT.sIx its.length its.length hi - HT.sIx its.length 0 lo)).toArray:=by
 obtain ⟨h1,h2,h3⟩:=mV lo hi its.toArray.size
 unfold slicePick
 rw [h1,h2,h3]
 simp only [sliceRange_one,pick_run,List.size_toArray]<;>rfl
def BR (K:PySem.W.Frag):V->Option Int->Option Int->Hp->VK->Prop:=λx lo hi H Q=>∃a xs,x= .ref a/\aH K H a xs/\∀p,H p=none->Q (.ref p) (upd H p (.lst (jh xs lo hi)))
theorem vF:zu X (BR X.K):=by
 intro pins s σ H x v vl vu lo hi sl Q I rx hs pl pu h
 obtain ⟨a,xs,rfl,hx,q⟩:=h
 cases rx
 obtain ⟨its,r,ht,hz⟩:=I.list hx
 have hlen:=r.length
 refine ⟨"list",_,slot_list_getitem.lookup,ht.isList.typeIs,?_⟩
 refine wpAny_getItem_list_slice ht.isList hs pl pu .none (by simp) ?_ (by rw [List.size_toArray]<;>omega)
 rw [lS,← hlen]
 refine ⟨.ref s.heap.objs.size,_,I.laid (t':=s.toks) (o:=.lst (jh xs lo hi)) (λb ob q=>Heap.get?_push_of_some _ q) (Nat.le_refl _) ?_,rfl,q _ (I.hok.fresh (Nat.le_refl _))⟩
 exact ⟨Nat.le_trans (iU xs lo hi) hz,_,0,(r.drop (HT.sIx xs.length 0 lo)).take (HT.sIx xs.length xs.length hi - HT.sIx xs.length 0 lo),Heap.get?_push_size _ rfl⟩
def eY:V->Bool
 | .non=>true
 | .bl _=>true
 | .int _=>true
 | .str _=>true
 | _=>false
def j9:V->V->Bool
 | .non,.non=>true
 | .bl a,.bl b=>a==b
 | .bl a,.int b=>(if a then 1 else 0)==b
 | .int a,.bl b=>a==(if b then 1 else 0)
 | .int a,.int b=>a==b
 | .str a,.str b=>a==b
 | _,_=>false
theorem x6 {A:Around}{s:Shared}{y x:V}{u v:Value}(ry:RelV y u)(rx:RelV x v)(fy:eY y=true)(fx:eY x=true):SeqAt.EqAt A s u v (j9 y x):=by
 cases y with
 | non=>
   cases ry
   cases x with
   | non=>cases rx;exact SeqAt.EqAt.same _
   | bl b=>cases rx;exact SeqAt.EqAt.none_bool b
   | int b=>obtain ⟨t,rfl⟩:=rx;exact SeqAt.EqAt.none_int b t
   | str b=>obtain ⟨t,rfl⟩:=rx;exact SeqAt.EqAt.none_str b t
   | _=>exact absurd (show false=true from fx) Bool.false_ne_true
 | bl a=>
   cases ry
   cases x with
   | non=>cases rx;exact SeqAt.EqAt.bool_none a
   | bl b=>cases rx;exact SeqAt.EqAt.bool_bool a b
   | int b=>obtain ⟨t,rfl⟩:=rx;exact SeqAt.EqAt.bool_int a b t
   | str b=>obtain ⟨t,rfl⟩:=rx;exact SeqAt.EqAt.bool_str a b t
   | _=>exact absurd (show false=true from fx) Bool.false_ne_true
 | int a=>
   obtain ⟨t',rfl⟩:=ry
   cases x with
   | non=>cases rx;exact SeqAt.EqAt.int_none a t'
   | bl b=>cases rx;exact SeqAt.EqAt.int_bool a t' b
   | int b=>obtain ⟨t,rfl⟩:=rx;exact SeqAt.EqAt.int_int a t' b t
   | str b=>obtain ⟨t,rfl⟩:=rx;exact SeqAt.EqAt.int_str a t' b t
   | _=>exact absurd (show false=true from fx) Bool.false_ne_true
 | str a=>
   obtain ⟨t',rfl⟩:=ry
   cases x with
   | non=>cases rx;exact SeqAt.EqAt.str_none a t'
   | bl b=>cases rx;exact SeqAt.EqAt.str_bool a t' b
   | int b=>obtain ⟨t,rfl⟩:=rx;exact SeqAt.EqAt.str_int a t' b t
   | str b=>obtain ⟨t,rfl⟩:=rx;exact SeqAt.EqAt.str_str a t' b t
   | _=>exact absurd (show false=true from fx) Bool.false_ne_true
 | _=>exact absurd (show false=true from fy) Bool.false_ne_true
def jB (x:V)(u:Value):Bool:=match u with
 | .none=>j9 .non x
 | .bool b=>j9 (.bl b) x
 | .int i _=>j9 (.int i) x
 | .str z _=>j9 (.str z) x
 | _=>false
theorem rz {x y:V}{u:Value}(r:RelV y u)(f:eY y=true):jB x u=j9 y x:=by
 cases y with
 | non=>cases r;rfl
 | bl b=>cases r;rfl
 | int i=>obtain ⟨t,rfl⟩:=r;rfl
 | str z=>obtain ⟨t,rfl⟩:=r;rfl
 | _=>exact absurd (show false=true from f) Bool.false_ne_true
theorem kN {x:V}:∀{xs:List V} {us:List Value},Vals xs us->xs.all eY=true->us.any (jB x)=xs.any λy=>j9 y x
 | _,_,.nil,_=>rfl
 | y::xs,u::us,.cons r t,f=>by
   rw [List.all_cons,Bool.and_eq_true] at f
   rw [List.any_cons,List.any_cons,rz r f.1,kN t f.2]
theorem i4 {A:Around}{s:Shared}{x:V}{v:Value}(rx:RelV x v)(fx:eY x=true):∀{xs:List V} {us:List Value},Vals xs us->xs.all eY=true->∀u∈us,SeqAt.EqAt A s u v (jB x u)
 | _,_,.nil,_=>λu hu=>by cases hu
 | y::xs,u::us,.cons r t,f=>λu' hu=>by
   rw [List.all_cons,Bool.and_eq_true] at f
   rcases List.mem_cons.mp hu with rfl | hu
   ·rw [rz r f.1];exact x6 r rx f.1 fx
   ·exact i4 rx fx t f.2 u' hu
def vA (x:V)(xs:List V):Bool:=xs.any λy=>j9 y x
def rIn (K:PySem.W.Frag)(neg:Bool):R2:=λx y H Q=>∃p xs,y= .ref p/\(aH K H p xs∨cU K H p xs)/\eY x=true/\xs.all eY=true/\Q (.bl (if neg then !vA x xs else vA x xs)) H
theorem me:cT X (compareOp .NotIn) (rIn X.K true):=by
 intro pins s σ H x y v u Q I rx ry h
 obtain ⟨p,xs,rfl,hq,fx,fs,q⟩:=h
 cases ry
 rcases hq with hq | hq
 ·obtain ⟨its,r,pl,hz⟩:=I.list hq
  refine SeqAt.notIn_listAt (jB x) pl.isList (λw hw=>i4 rx fx r fs w (by simpa using hw)) ⟨.bl _,H,I,rfl,?_⟩
  rw [show its.toArray.any (jB x)=its.any (jB x) by simp,kN r fs]
  exact q
 ·obtain ⟨its,r,pl,hz⟩:=I.tuple hq
  refine SeqAt.notIn_tupleAt (jB x) pl (λw hw=>i4 rx fx r fs w (by simpa using hw)) ⟨.bl _,H,I,rfl,?_⟩
  rw [show its.toArray.any (jB x)=its.any (jB x) by simp,kN r fs]
  exact q
theorem dm:c4 X (.builtin "len") (λxs H Q=>∃p ys,xs=[.ref p]/\(aH X.K H p ys∨cU X.K H p ys)/\Q (.int ys.length) H):=by
 intro pins s σ H xs us Q I r h
 obtain ⟨p,ys,rfl,hq,q⟩:=h
 obtain ⟨u,rfl,rx⟩:=vals1 r
 cases rx
 have hn:=ia
 rcases hq with hq | hq
 ·obtain ⟨its,r',pl,hz⟩:=I.list hq
  have hlen:=r'.length
  exact Calls.call_len_list pl.isList (by simp only [List.size_toArray]<;>omega) ⟨.int ys.length,H,I.tok _,⟨s.toks + 1,by rw [List.size_toArray,hlen]⟩,q⟩
 ·obtain ⟨its,r',pl,hz⟩:=I.tuple hq
  have hlen:=r'.length
  exact len_tuple pl (by simp only [List.size_toArray]<;>omega) ⟨.int ys.length,H,I.tok _,⟨s.toks + 1,by rw [List.size_toArray,hlen]⟩,q⟩
theorem fh:c4 X (.type "list") (λxs H Q=>∃p ys,xs=[.ref p]/\(aH X.K H p ys∨cU X.K H p ys)/\∀l,H l=none->Q (.ref l) (upd H l (.lst ys))):=by
 intro pins s σ H xs us Q I r h
 obtain ⟨p,ys,rfl,hq,q⟩:=h
 obtain ⟨u,rfl,rx⟩:=vals1 r
 cases rx
 have fin:∀(its:List Value),Vals ys its->ys.length<=sizeLine->∀(h':Heap) (c':Nat),(∀b o',s.heap.get? b=some o'->h'.get? b=some o')->
  h'.get? s.heap.objs.size=some {cls:=.type "list",dict:=none,data:=.seq its.toArray c',slots:= #[]}->EP X pins σ Q (.ref s.heap.objs.size) {s with heap:=h'}:=λits r' hz h' c' kp e=>
  ⟨.ref s.heap.objs.size,_,I.laid (t':=s.toks) kp (Nat.le_refl _) (show bM X.prog X.w _ h' _ (.lst ys) from ⟨hz,its,c',r',e⟩),rfl,q _ (I.hok.fresh (Nat.le_refl _))⟩
 rcases hq with hq | hq
 ·obtain ⟨its,r',pl,hz⟩:=I.list hq
  have hlen:=r'.length
  obtain ⟨o,ho,hc,n,hd⟩:=pl.isList
  exact call_list_seq p (.inl rfl) ho hc hd (λh' c' kp e=>fin its r' hz h' c' kp e) (by simp only [List.size_toArray]<;>omega)
 ·obtain ⟨its,r',pl,hz⟩:=I.tuple hq
  have hlen:=r'.length
  obtain ⟨o,ho,hc,n,hd⟩:=pl
  exact call_list_seq p (.inr rfl) ho hc hd (λh' c' kp e=>fin its r' hz h' c' kp e) (by simp only [List.size_toArray]<;>omega)
theorem lV:c4 X (.type "tuple") (λxs H Q=>∃p ys,xs=[.ref p]/\((aH X.K H p ys/\∀l,H l=none->Q (.ref l) (upd H l (.tup ys)))∨(cU X.K H p ys/\Q (.ref p) H))):=by
 intro pins s σ H xs us Q I r h
 obtain ⟨p,ys,rfl,h⟩:=h
 obtain ⟨u,rfl,rx⟩:=vals1 r
 cases rx
 rcases h with ⟨hq,q⟩ | ⟨hq,q⟩
 ·obtain ⟨its,r',pl,hz⟩:=I.list hq
  have hlen:=r'.length
  refine call_tuple_list pl.isList (λh' kp=>?_) (by simp only [List.size_toArray]<;>omega)
  have I1:Inv X pins σ H {s with heap:=h'}:=I.kept (t':=s.toks) kp
  have I2:Inv X pins σ (upd H h'.objs.size (.tup ys)) {s with heap:=h'.push {cls:=.type "tuple",data:=.seq its.toArray}}:=
   I1.laid (t':=s.toks) (λb o e=>Heap.get?_push_of_some _ e) (Nat.le_refl _) (show bM X.prog X.w _ _ _ (.tup ys) from ⟨hz,its,r',IsTup.new _ _⟩)
  exact ⟨.ref h'.objs.size,_,I2,rfl,q _ (I1.hok.fresh (Nat.le_refl _))⟩
 ·obtain ⟨its,r',pl,hz⟩:=I.tuple hq
  exact call_tuple_same pl ⟨.ref p,H,I,rfl,q⟩
def yY (K:PySem.W.Frag)(T:String)(x:V)(H:Hp):Prop:=match x with
 | .str _=>T="str"
 | .int _=>T="int"
 | .ref p=>(T="list"/\∃xs,aH K H p xs)∨(T="tuple"/\∃o,K.lookup p=some o/\o.cls= .type "tuple"/\o.dict=none)∨
  (T="dict"/\((∃kvs,H p=some (.dK kvs))∨∃kvs,H p=some (.dT kvs)))∨(T="set"/\∃S n,H p=some (.set S n))
 | _=>False
theorem rm {pins:List (Addr×Obj)}{σ:St}{H:Hp}{s:Shared}{T:String}{x:V}{v:Value}(I:Inv X pins σ H s)(r:RelV x v)(ty:yY X.K T x H):
 s.TypeIs v T/\∀a,v= .ref a->∃ob,s.heap.get? a=some ob/\ob.dict=none:=by
 cases x with
 | str z=>
   obtain ⟨t,rfl⟩:=r
   cases (show T="str" from ty)
   exact ⟨typeIs_str s z t,λ_ e=>nomatch e⟩
 | int i=>
   obtain ⟨t,rfl⟩:=r
   cases (show T="int" from ty)
   exact ⟨typeIs_int s i t,λ_ e=>nomatch e⟩
 | ref p=>
   cases r
   rcases ty with ⟨rfl,xs,hq⟩ | ⟨rfl,o,hk,hc,hd⟩ | ⟨rfl,hk⟩ | ⟨rfl,S,n,hk⟩
   ·obtain ⟨its,_,pl,_⟩:=I.list hq
    refine ⟨pl.isList.typeIs,λa e=>?_⟩
    cases e
    obtain ⟨o,n,e,c,hd,_⟩:=pl
    exact ⟨o,e,hd⟩
   ·refine ⟨⟨o,I.eR p o hk,hc⟩,λa e=>?_⟩
    cases e
    exact ⟨o,I.eR _ o hk,hd⟩
   ·have z:∃o,s.heap.get? p=some o/\o.ExactDict:=by
     rcases hk with ⟨kvs,hk⟩ | ⟨kvs,hk⟩
     ·obtain ⟨_,_,_,_,o,_,_,e,ex,_⟩:=I.hok p _ hk
      exact ⟨o,e,ex⟩
     ·obtain ⟨_,_,_,_,o,_,_,e,ex,_⟩:=I.hok p _ hk
      exact ⟨o,e,ex⟩
    obtain ⟨o,e,ex⟩:=z
    refine ⟨⟨o,e,ex.1⟩,λa e2=>?_⟩
    cases e2
    exact ⟨o,e,ex.2.1⟩
   ·obtain ⟨o,_,_,_,e,ex,_⟩:=I.hok p _ hk
    refine ⟨⟨o,e,ex.1⟩,λa e2=>?_⟩
    cases e2
    exact ⟨o,e,ex.2.1⟩
 | _=>exact False.elim ty
def Cb (K:PySem.W.Frag)(T:String)(r:V->List V->Hp->VK->Prop)(to:TE):TE:=λσ H Q=>to σ H λx H1=>yY K T x H1/\r x [] H1 Q
def tBM (K:PySem.W.Frag)(T:String)(r:V->List V->Hp->VK->Prop)(to:TE)(t:TA):TE:=λσ H Q=>to σ H λx H1=>yY K T x H1/\t σ H1 λxs H2=>r x xs H2 Q
variable {o e:Expr}{es:List Expr}{to:TE}{t:TA}{name:Str}{apos cpos:Pos}{T id:String}{r:V->List V->Hp->VK->Prop}
theorem sI (pa:PlainAttrs T)(slot:Slot T name id)(hty:typeOf (.builtin id)=pure (.type "method_descriptor"))(hm:xT X id r)(ho:PE X o to)
 (hbase:attributeBase o name X.env (eval o X.env)=eval o X.env:=by rfl) (hline:(apos.endLine==cpos.line)=true:=by rfl):PE X (.Call (.Attribute o name apos) [] [] cpos) (Cb X.K T r to):=by
 intro pins s σ H Q I h
 refine wpAny_Call_method0_late hbase hline (aG (ho pins s σ H _ I h) λv s1 ⟨x,H1,I1,r1,ty,q1⟩=>?_)
 obtain ⟨h1,h2⟩:=rm I1 r1 ty
 exact ⟨T,id,pa,slot,hty,h1,h2,Calls.callWith_builtin rfl (PySem.evalArgs_none (hm pins s1 σ H1 x [] v [] Q I1 r1 .nil q1))⟩
theorem kd (pa:PlainAttrs T)(slot:Slot T name id)(hty:typeOf (.builtin id)=pure (.type "method_descriptor"))(hm:xT X id r)(ho:PE X o to)(ha:PA X (e::es) t)
 (hbase:attributeBase o name X.env (eval o X.env)=eval o X.env:=by rfl)
 (hfew:((backTo cpos (starEach (e::es) X.env)).all (λx=> !x.1)&&(backToKw cpos (keywordEach [] X.env)).all (λx=>x.1.isSome)
  &&decide ((e::es).length + ([]:List Keyword).length + (if ([]:List Keyword).isEmpty then 0 else 1) < 30))=true:=by rfl)
 (hline:(apos.endLine==cpos.line)=true:=by rfl) (hs:starEach (e::es) X.env=(false,eval e X.env)::starEach es X.env:=by rfl) (hplain:(backTo cpos (starEach es X.env)).any (·.1)=false:=by rfl):
 PE X (.Call (.Attribute o name apos) (e::es) [] cpos) (tBM X.K T r to t):=by
 intro pins s σ H Q I h
 refine wpAny_Call_method_late hbase hfew hline rfl (aG (ho pins s σ H _ I h) λv s1 ⟨x,H1,I1,r1,ty,q1⟩=>?_)
 obtain ⟨h1,h2⟩:=rm I1 r1 ty
 refine ⟨T,id,pa,slot,hty,h1,h2,?_⟩
 have hA:=ha cpos pins s1 σ H1 _ I1 q1
 rw [hs] at hA ⊢
 refine Calls.callWith_builtin (by show (false ||(backTo cpos (starEach es X.env)).any (·.1))=false;rw [hplain]<;>rfl) (Calls.evalArgs_plain ?_)
 exact aG hA λus s2 ⟨vs,H2,I2,r2,q2⟩=>hm pins s2 σ H2 x vs v us Q I2 r1 r2 q2
end
def sG (X:Cx)(id:String)(r:V->List V->Hp->VK->Prop):Prop:=
 ∀(pins:List (Addr×Obj)) (s:Shared) (σ:St) (H:Hp) (x:V) (xs:List V) (v:Value) (us:List Value) (Q:VK),Inv X pins σ H s->RelV x v->Vals xs us->r x xs H Q->
  wpAny (model X.prog X.w) X.A (call (.builtin id) (v::us)) (EP X pins σ Q) X.xe s
theorem Vals.one:∀{x:V} {us:List Value},Vals [x] us->∃u,us=[u]/\RelV x u
 | _,_,.cons r .nil=>⟨_,rfl,r⟩
theorem Vals.zero:∀{us:List Value},Vals [] us->us=[]
 | _,.nil=>rfl
theorem Vals.dropLast {xs:List V}{us:List Value}(h:Vals xs us):Vals xs.dropLast us.dropLast:=by
 induction h with
 | nil=>exact .nil
 | cons r t ih=>
   cases t with
   | nil=>exact .nil
   | cons q t'=>exact .cons r ih
theorem Vals.rep {xs:List V}{us:List Value}(h:Vals xs us):∀k:Nat,Vals (List.replicate k xs).flatten (List.replicate k us).flatten
 | 0=>.nil
 | k + 1=>by
   rw [List.replicate_succ,List.replicate_succ,List.flatten_cons,List.flatten_cons]
   exact Vals.append h (Vals.rep h k)
theorem pR {α:Type}(l:List α):l.eraseIdx (l.length - 1)=l.dropLast:=by
 induction l with
 | nil=>rfl
 | cons a r ih=>
   cases r with
   | nil=>rfl
   | cons b r=>
     have e:(a::b::r).length - 1=((b::r).length - 1) + 1:=by
      have h1:(a::b::r).length=r.length + 2:=rfl
      have h2:(b::r).length=r.length + 1:=rfl
      omega
     rw [e,List.eraseIdx_cons_succ,ih]
     all_goals rfl
theorem foldl_rep (its:List Value):∀(k:Nat) (acc:List Value),
 List.foldl (λx1 x2=>x1++x2) acc.toArray (List.replicate k its.toArray)=(acc++(List.replicate k its).flatten).toArray
 | 0,acc=>by simp
 | k + 1,acc=>by
   have e:acc.toArray++its.toArray=(acc++its).toArray:=by simp
   have e2:(acc++its)++(List.replicate k its).flatten=acc++(List.replicate (k + 1) its).flatten:=by
    rw [List.replicate_succ,List.flatten_cons,List.append_assoc]
   rw [← e2,← foldl_rep its k (acc++its),← e,List.replicate_succ,List.foldl_cons]
section
variable {X:Cx}{pins:List (Addr×Obj)}{σ:St}{H:Hp}{s:Shared}{l b:Addr}{xs ys zs:List V}
theorem Inv.mS {its its':List Value}{n:Nat}{f:Array Value->Array Value}{t':Nat}(I:Inv X pins σ H s)(hH:H l=some (.lst xs))
 (e:s.heap.get? l=some {cls:=.type "list",data:=.seq its.toArray n}) (hf:f its.toArray=its'.toArray) (hv:Vals ys its') (hz:ys.length<=sizeLine):
 Inv X pins σ (upd H l (.lst ys)) {s with heap:=s.heap.update l (Obj.mapSeq f),toks:=t'}:=by
 have q:=PySem.IsL.update e f
 rw [hf] at q
 refine I.write (x:=l) (e:=l) (by rw [hH];exact trivial) (.inl rfl) (λb' u hb hu=>(Heap.get?_update_other s.heap (Obj.mapSeq f) (Ne.symm hb)).trans hu) ⟨_,q⟩ ?_
 exact ⟨hz,its',_,hv,q⟩
theorem Inv.zp {its:List Value}{t':Nat}(I:Inv X pins σ H s)(hv:Vals ys its)(hz:ys.length<=sizeLine):
 Inv X pins σ (upd H s.heap.objs.size (.lst ys)) {s with heap:=s.heap.push {cls:=.type "list",data:=.seq its.toArray},toks:=t'}:=
 I.laid (λ_ _ q=>Heap.get?_push_of_some _ q) (Nat.le_refl _) ⟨hz,its,0,hv,Heap.get?_push_size _ rfl⟩
theorem Inv.fresh (I:Inv X pins σ H s):H s.heap.objs.size=none:=I.hok.fresh (Nat.le_refl _)
theorem Inv.gG (I:Inv X pins σ H s)(hH:H l=some (.lst xs)):xs.length<=sizeLine/\∃(its:List Value) (n:Nat),Vals xs its/\xs.length=its.length/\s.heap.get? l=some {cls:=.type "list",data:=.seq its.toArray n}:=by
 obtain ⟨z,its,n,r,e⟩:=I.hok l _ hH
 exact ⟨z,its,n,r,r.length,e⟩
theorem sP {n:Nat}(h:n<=sizeLine):Builtin.List.listTooLong n=false:=by
 unfold Builtin.List.listTooLong
 exact decide_eq_false (by omega)
end
section
variable {X:Cx}
def vR:V->List V->Hp->VK->Prop:=λx vs H Q=>∃l xs y,x= .ref l/\vs=[y]/\H l=some (.lst xs)/\xs.length < sizeLine/\Q .non (upd H l (.lst (xs++[y])))
theorem lA:sG X "list.append" vR:=by
 intro pins s σ H x vs v us Q I rx rv h
 obtain ⟨l,xs,y,rfl,rfl,hH,hz,q⟩:=h
 cases rx
 obtain ⟨u,rfl,ru⟩:=rv.one
 obtain ⟨z,its,n,r,hl,e⟩:=I.gG hH
 refine call_meets F.slot_list_append ⟨_,e,rfl⟩ F.entry_list_append (F.args_list_append_2 _ _) (PySem.list_append l its.toArray n u (by rw [List.size_toArray];omega)) ⟨e,?_⟩
 refine ⟨.non,_,I.mS (its':=its++[u]) hH e (by simp) (r.append (.cons ru .nil)) ?_,rfl,q⟩
 rw [List.length_append,List.length_singleton]
 omega
def BZ:V->List V->Hp->VK->Prop:=λx vs H Q=>∃l xs y,x= .ref l/\vs=[]/\H l=some (.lst xs)/\xs[xs.length - 1]?=some y/\Q y (upd H l (.lst xs.dropLast))
theorem zi:sG X "list.pop" BZ:=by
 intro pins s σ H x vs v us Q I rx rv h
 obtain ⟨l,xs,y,rfl,rfl,hH,hy,q⟩:=h
 cases rx
 have hus:=rv.zero
 subst hus
 obtain ⟨z,its,n,r,hl,e⟩:=I.gG hH
 obtain ⟨u,hu,ru⟩:=r.get hy
 have hy':its.toArray[its.toArray.size - 1]?=some u:=by
  show its.toArray[its.length - 1]?=some u
  rw [← Array.getElem?_toList,← hl]
  exact hu
 refine call_meets F.slot_list_pop ⟨_,e,rfl⟩ F.entry_list_pop (F.args_list_pop_1 _) (MeetsSeq.list_pop_last l its.toArray n u hy' (by rw [List.size_toArray];omega)) ⟨e,?_⟩
 refine ⟨y,_,I.mS (its':=its.dropLast) hH e ?_ r.dropLast ?_,ru,q⟩
 ·show its.toArray.eraseIdxIfInBounds (its.toArray.size - 1)=its.dropLast.toArray
  rw [List.size_toArray,List.eraseIdxIfInBounds_toArray,pR]
 ·rw [List.length_dropLast]
  omega
def ye:R2:=λx y H Q=>∃l b xs zs,x= .ref l/\y= .ref b/\H l=some (.lst xs)/\H b=some (.lst zs)/\xs.length + zs.length<=sizeLine/\∀p,H p=none->Q (.ref p) (upd H p (.lst (xs++zs)))
theorem m3:cT X (binaryOp .Add) ye:=by
 intro pins s σ H x y v u Q I rx ry h
 obtain ⟨l,b,xs,zs,rfl,rfl,hH,hB,hz,q⟩:=h
 cases rx
 cases ry
 obtain ⟨z,its,n,r,hl,e⟩:=I.gG hH
 obtain ⟨z2,its2,n2,r2,hl2,e2⟩:=I.gG hB
 refine PySem.P.add_list e e2 ?_ (by rw [List.size_toArray,List.size_toArray];omega)
 have ea:its.toArray++its2.toArray=(its++its2).toArray:=by simp
 rw [ea]
 exact ⟨.ref _,_,I.zp (t':=s.toks) (r.append r2) (by rw [List.length_append];omega),rfl,q _ I.fresh⟩
def B9:R2:=λx y H Q=>∃l k xs,x= .ref l/\y= .int k/\H l=some (.lst xs)/\ -(2 ^ 63)<=k/\k < 2 ^ 63/\xs.length * k.toNat<=sizeLine/\
 ∀p,H p=none->Q (.ref p) (upd H p (.lst (List.replicate k.toNat xs).flatten))
theorem len_rep {α:Type}(xs:List α)(k:Nat):(List.replicate k xs).flatten.length=k * xs.length:=by
 induction k with
 | zero=>simp
 | succ k ih=>rw [List.replicate_succ,List.flatten_cons,List.length_append,ih,Nat.succ_mul,Nat.add_comm]
theorem yJ:cT X (binaryOp .Mult) B9:=by
 intro pins s σ H x y v u Q I rx ry h
 obtain ⟨l,k,xs,rfl,rfl,hH,h1,h2,hz,q⟩:=h
 cases rx
 obtain ⟨t,rfl⟩:=ry
 obtain ⟨z,its,n,r,hl,e⟩:=I.gG hH
 have hlen:its.toArray.size * k.toNat<=sizeLine:=by rw [List.size_toArray,← hl];exact hz
 have hcap:¬its.toArray.size * k.toNat > (2 ^ 63 - 1) / 8:=by
  have:(sizeLine:Nat)<=(2 ^ 63 - 1) / 8:=by decide
  omega
 have hfit:¬(!Builtin.List.listFitsIndex k)=true:=by
  rw [fitsIndex_both h1 h2]
  exact Bool.false_ne_true
 have hlong:¬Builtin.List.listTooLong (its.toArray.size * k.toNat)=true:=by
  rw [sP hlen]
  exact Bool.false_ne_true
 have hnew:List.foldl (λx1 x2=>x1++x2) #[] (List.replicate (if its.toArray.isEmpty=true then 0 else k.toNat) its.toArray)=(List.replicate k.toNat its).flatten.toArray:=by
  have f0:∀m:Nat,List.foldl (λx1 x2=>x1++x2) #[] (List.replicate m its.toArray)=(List.replicate m its).flatten.toArray:=λm=>by
   have:=foldl_rep its m []
   rw [List.nil_append] at this
   exact this
  rw [f0]
  cases its with
  | nil=>simp
  | cons a r'=>rw [if_neg (by simp)]
 refine wpAny_binaryOp_repeat_ref (T:="list") (U:="int") (by decide) ⟨_,e,rfl⟩ (λs'=>typeIs_int s' k t) noFill_list_mul F.fills_int_mul F.slot_int_rmul repeat_list F.slot_int_index.lookup
  (call_meets F.slot_int_rmul (typeIs_int s k t) F.entry_int_rmul (F.args_int_rmul_2 _ _) (int___rmul___int_list k t l its.toArray n)
   ⟨e,rfl,⟨_,e,rfl⟩,call_meets F.slot_list_mul ⟨_,e,rfl⟩ F.entry_list_mul (F.args_list_mul_2 _ _) (AutoListH.list___mul___list_int_3 l its.toArray n k t hfit hcap hlong) ⟨e,?_⟩⟩)
 rw [hnew]
 exact ⟨.ref _,_,I.zp (t':=s.toks) (r.rep k.toNat) (by rw [len_rep,Nat.mul_comm];exact hz),rfl,q _ I.fresh⟩
end
section
variable {prog:Program}{w:World}{A:Around}{E:Value->Shared->Prop}{s:Shared}
end
section
variable {X:Cx}
end
section
variable {κ:Type} [DecidableEq κ]
variable {kvs:List (κ×V)}{vs:List (κ×Value)}
def cg (kvs:List (κ×V))(k:κ):Option V:=(kvs.find? λkv=>decide (kv.1=k)).map (·.2)
def putK (kvs:List (κ×V))(k:κ)(v:V):List (κ×V):=
 if (kvs.any λkv=>decide (kv.1=k))=true then kvs.map (λkv=>if kv.1=k then (kv.1,v) else kv) else kvs++[(k,v)]
theorem cA {p:κ×V}{r:List (κ×V)}{k:κ}(e:p.1=k):cg (p::r) k=some p.2:=by simp [cg,List.find?_cons,e]
theorem cy {p:κ×V}{r:List (κ×V)}{k:κ}(e:¬p.1=k):cg (p::r) k=cg r k:=by simp [cg,List.find?_cons,e]
theorem dF (k:κ):∀kvs:List (κ×V),(kvs.any λkv=>decide (kv.1=k))=(cg kvs k).isSome
 | []=>rfl
 | p::r=>by
   rw [List.any_cons]
   by_cases e:p.1=k
   ·simp only [cA e,decide_eq_true e,Bool.true_or,Option.isSome_some]
   ·rw [cy e,decide_eq_false e,Bool.false_or];exact dF k r
theorem nh (k j:κ)(y:V):∀kvs:List (κ×V),cg (kvs.map λkv=>if kv.1=k then (kv.1,y) else kv) j=(cg kvs j).map λx=>if j=k then y else x
 | []=>rfl
 | p::r=>by
   have ih:=nh k j y r
   rw [List.map_cons]
   by_cases h:p.1=k
   ·rw [if_pos h]
    by_cases e:p.1=j
    ·rw [cA (p:=(p.1,y)) e,cA e,Option.map_some,if_pos (e.symm.trans h)]
    ·rw [cy (p:=(p.1,y)) e,cy e,ih]
   ·rw [if_neg h]
    by_cases e:p.1=j
    ·rw [cA (p:=p) e,cA e,Option.map_some,if_neg (λz=>h (e.trans z))]
    ·rw [cy (p:=p) e,cy e,ih]
theorem lH (k j:κ)(y:V):∀kvs:List (κ×V),cg kvs k=none->cg (kvs++[(k,y)]) j=if j=k then some y else cg kvs j
 | [],_=>by
   by_cases e:k=j
   ·rw [if_pos e.symm];exact cA (p:=(k,y)) e
   ·rw [if_neg (λz=>e z.symm)];exact cy (p:=(k,y)) e
 | p::r,hn=>by
   rw [List.cons_append]
   have hk:¬p.1=k:=λz=>by rw [cA z] at hn;cases hn
   rw [cy hk] at hn
   have ih:=lH k j y r hn
   by_cases e:p.1=j
   ·rw [cA e,cA e,if_neg (λz=>hk (e.trans z))]
   ·rw [cy e,cy e,ih]
theorem sU (kvs:List (κ×V))(k j:κ)(y:V):cg (putK kvs k y) j=if j=k then some y else cg kvs j:=by
 unfold putK
 by_cases a:(kvs.any λkv=>decide (kv.1=k))=true
 ·rw [if_pos a,nh]
  rw [dF] at a
  by_cases e:j=k
  ·obtain ⟨x,hx⟩:=Option.isSome_iff_exists.mp a
   rw [if_pos e,e,hx,Option.map_some,if_pos rfl]
  ·rw [if_neg e]
   cases cg kvs j with
   | none=>rfl
   | some x=>rw [Option.map_some,if_neg e]
 ·rw [if_neg a]
  refine lH k j y kvs ?_
  rw [dF] at a
  cases q:cg kvs k with
  | none=>rfl
  | some x=>rw [q] at a;exact (a rfl).elim
theorem fN (kvs:List (κ×V))(k:κ)(v:V):(putK kvs k v).length<=kvs.length + 1:=by
 unfold putK
 split
 ·rw [List.length_map];omega
 ·rw [List.length_append,List.length_cons,List.length_nil];omega
theorem tu {k:κ}(v:V)(h:cg kvs k=none):putK kvs k v=kvs++[(k,v)]:=by
 unfold putK
 rw [dF,h]
 exact if_neg (by decide)
theorem fz.eM {o:Option V}{u:Option Value}(r:fz o u):o.isSome=u.isSome:=by
 cases o with
 | none=>cases u with
   | none=>rfl
   | some _=>exact (show False from r).elim
 | some _=>cases u with
   | none=>exact (show False from r).elim
   | some _=>rfl
theorem KV.val (r:KV kvs vs)(k:κ):fz (cg kvs k) (valueAt vs k):=by
 unfold KV at r
 induction r with
 | nil=>exact True.intro
 | @cons p q ps qs h t ih=>
   obtain ⟨h1,h2⟩:=h
   by_cases e:p.1=k
   ·have e':q.1=k:=h1.symm.trans e
    have b:valueAt (q::qs) k=some q.2:=by simp [valueAt,List.find?_cons,e']
    rw [cA e,b];exact h2
   ·have e':¬q.1=k:=λz=>e (h1.trans z)
    have b:valueAt (q::qs) k=valueAt qs k:=by simp [valueAt,List.find?_cons,e']
    rw [cy e,b];exact ih
theorem KV.any (r:KV kvs vs)(k:κ):(kvs.any λkv=>decide (kv.1=k))=vs.any λkv=>decide (kv.1=k):=by
 unfold KV at r
 induction r with
 | nil=>rfl
 | cons h t ih=>rw [List.any_cons,List.any_cons,ih,h.1]
theorem KV.tM (r:KV kvs vs)(k:κ){y:V}{u:Value}(ry:RelV y u):
 KV (kvs.map λkv=>if kv.1=k then (kv.1,y) else kv) (vs.map λkv=>if kv.1=k then (kv.1,u) else kv):=by
 unfold KV at r ⊢
 induction r with
 | nil=>exact .nil
 | @cons p q ps qs h t ih=>
   rw [List.map_cons,List.map_cons]
   refine .cons ?_ ih
   obtain ⟨h1,h2⟩:=h
   by_cases e:p.1=k
   ·rw [if_pos e,if_pos (h1.symm.trans e)];exact ⟨h1,ry⟩
   ·rw [if_neg e,if_neg (λz=>e (h1.trans z))];exact ⟨h1,h2⟩
theorem KV.put (r:KV kvs vs)(k:κ){y:V}{u:Value}(ry:RelV y u):KV (putK kvs k y) (stored vs k u):=by
 unfold putK stored
 rw [r.any k]
 by_cases e:(vs.any λkv=>decide (kv.1=k))=true
 ·rw [if_pos e,if_pos e];exact r.tM k ry
 ·rw [if_neg e,if_neg e];exact Paired.snoc r ⟨rfl,ry⟩
theorem KV.length (r:KV kvs vs):kvs.length=vs.length:=Paired.length r
end
section
variable {H:Hp}{kvs:List (List Key×V)}{xs:List (List Key×Addr×Value)}{u:Value}
theorem iL {P:Program}{w:World}{k:Key}(r:RelV (kV k) u):(cc P w).is k u=true:=by
 cases k with
 | inl i=>obtain ⟨t,e⟩:=(show∃t,u=Value.int i t from r);subst e;exact nS P w i t
 | inr x=>obtain ⟨t,e⟩:=(show∃t,u=Value.str x t from r);subst e;exact nZ P w x t
theorem lu {P:Program}{w:World}:∀{ks:List Key} {us:List Value},Vals (ks.map kV) us->ItemsAre (cc P w) ks us
 | [],_,r=>by rw [List.map_nil] at r;cases r;exact .nil
 | k::ks,_,r=>by
   rw [List.map_cons] at r
   cases r with
   | cons h t=>exact .cons (iL h) (lu t)
abbrev KT (H:Hp):List (List Key×V)->List (List Key×Addr×Value)->Prop:=Paired λp q=>p.1=q.1/\H q.2.1=some (.tup (p.1.map kV))/\RelV p.2 q.2.2
theorem KT.val (r:KT H kvs xs)(k:List Key):fz (cg kvs k) ((atKey xs k).map (·.2)):=by
 induction r with
 | nil=>exact True.intro
 | @cons p q ps qs h t ih=>
   obtain ⟨h1,_,h2⟩:=h
   by_cases e:p.1=k
   ·have e':q.1=k:=h1.symm.trans e
    have b:atKey (q::qs) k=some q.2:=by simp [atKey,List.find?_cons,e']
    rw [cA e,b];exact h2
   ·have e':¬q.1=k:=λz=>e (h1.trans z)
    have b:atKey (q::qs) k=atKey qs k:=by simp [atKey,List.find?_cons,e']
    rw [cy e,b];exact ih
theorem KT.tM (r:KT H kvs xs)(k:List Key){y:V}(ry:RelV y u):
 KT H (kvs.map λkv=>if kv.1=k then (kv.1,y) else kv) (xs.map (putAt k u)):=by
 induction r with
 | nil=>exact .nil
 | @cons p q ps qs h t ih=>
   rw [List.map_cons,List.map_cons]
   refine .cons ?_ ih
   obtain ⟨h1,h2,h3⟩:=h
   unfold putAt
   by_cases e:p.1=k
   ·rw [if_pos e,if_pos (h1.symm.trans e)];exact ⟨h1,h2,ry⟩
   ·rw [if_neg e,if_neg (λz=>e (h1.trans z))];exact ⟨h1,h2,h3⟩
theorem KT.put (r:KT H kvs xs)(k:List Key){b:Addr}{y:V}(hb:H b=some (.tup (k.map kV)))(ry:RelV y u):
 KT H (putK kvs k y) (storedH xs k b u):=by
 have e:(kvs.any λkv=>decide (kv.1=k))=(atKey xs k).isSome:=by
  rw [dF,(r.val k).eM,Option.isSome_map]
 unfold putK storedH
 rw [e]
 by_cases q:(atKey xs k).isSome=true
 ·rw [if_pos q,if_pos q];exact r.tM k ry
 ·rw [if_neg q,if_neg q];exact Paired.snoc r ⟨rfl,hb,ry⟩
theorem KT.keeps {H':Hp}(r:KT H kvs xs)(ht:∀b ys,H b=some (.tup ys)->H' b=some (.tup ys)):KT H' kvs xs:=
 Paired.tI r λ_ _ z=>⟨z.1,ht _ _ z.2.1,z.2.2⟩
end
section
variable {P:Program}{w:World}{H:Hp}{h:Heap}{a:Addr}
theorem uZ {u:HO}(ok:cJ P w H h)(e:Rd H a u):bM P w H h a u:=e.ok ok
theorem iP {kvs:List (Key×V)}(ok:cJ P w H h)(e:Rd H a (.dK kvs)):kvs.length<=sizeLine/\(a==sysModules)=false/\∃vs,KV kvs vs/\h.DictOf (cc P w) a vs:=
 show bM P w H h a (.dK kvs) from uZ ok e
theorem vo {kvs:List (Key×V)}(ok:cJ P w H h)(e:H a=some (.dK kvs)):kvs.length<=sizeLine/\(a==sysModules)=false/\∃vs,KV kvs vs/\h.DictOf (cc P w) a vs:=iP ok (.inl e)
theorem iz {ks:List Key}(ok:cJ P w H h)(e:H a=some (.tup (ks.map kV))):(tupleKind (cc P w)).is h ks a:=by
 obtain ⟨_,its,r,o,h1,h2,n,h3⟩:=(show bM P w H h a (.tup (ks.map kV)) from ok a _ e)
 exact ⟨o,its.toArray,n,h1,h2,h3,by simpa using lu r⟩
theorem j8 {kvs:List (List Key×V)}(ok:cJ P w H h)(e:Rd H a (.dT kvs)):kvs.length<=sizeLine/\(a==sysModules)=false/\
 ∃xs,KT H kvs xs/\h.DictOfH (tupleKind (cc P w)) a xs:=by
 obtain ⟨z,y,xs,r,o,es,ep,h1,h2,h3,h4,h5⟩:=(show bM P w H h a (.dT kvs) from uZ ok e)
 refine ⟨z,y,xs,r,o,es,ep,h1,h2,h3,h4,λx hx=>?_,h5⟩
 have all:∀{l:List (List Key×V)} {m:List (List Key×Addr×Value)},KT H l m->∀x∈m,(tupleKind (cc P w)).is h x.1 x.2.1:=by
  intro l m q
  induction q with
  | nil=>intro x hx;exact nomatch hx
  | @cons p q ps qs hq t ih=>
    intro x hx
    rcases List.mem_cons.mp hx with e | hx
    ·subst e
     exact iz ok (by rw [← hq.1];exact hq.2.1)
    ·exact ih x hx
 exact all r x hx
theorem Ar {kvs:List (List Key×V)}(ok:cJ P w H h)(e:H a=some (.dT kvs)):kvs.length<=sizeLine/\(a==sysModules)=false/\
 ∃xs,KT H kvs xs/\h.DictOfH (tupleKind (cc P w)) a xs:=j8 ok (.inl e)
end
def dE (H:Hp)(a:Addr)(y:V)(r:Option V):Prop:=
 (∃kvs k,Rd H a (.dK kvs)/\y=kV k/\r=cg kvs k)∨∃kvs k b,Rd H a (.dT kvs)/\y= .ref b/\H b=some (.tup (k.map kV))/\r=cg kvs k
def kR (H:Hp)(a:Addr)(y v:V)(H':Hp):Prop:=
 (∃kvs k,H a=some (.dK kvs)/\y=kV k/\kvs.length < sizeLine/\H'=upd H a (.dK (putK kvs k v)))∨
 ∃kvs k b,H a=some (.dT kvs)/\y= .ref b/\H b=some (.tup (k.map kV))/\kvs.length < sizeLine/\H'=upd H a (.dT (putK kvs k v))
theorem dE.k {H:Hp}{a:Addr}{kvs:List (Key×V)}{k:Key}(e:H a=some (.dK kvs)):dE H a (kV k) (cg kvs k):=.inl ⟨kvs,k,.inl e,rfl,rfl⟩
theorem kR.k {H:Hp}{a:Addr}{kvs:List (Key×V)}{k:Key}{v:V}(e:H a=some (.dK kvs))(hl:kvs.length < sizeLine):kR H a (kV k) v (upd H a (.dK (putK kvs k v))):=.inl ⟨kvs,k,e,rfl,hl,rfl⟩
section
variable {X:Cx}{pins:List (Addr×Obj)}{σ:St}{H:Hp}{s:Shared}{a:Addr}{y v:V}{u r:Value}{o:Option V}{A:Around}{E:Value->Shared->Prop}
variable {Q:Value->Shared->Prop}
theorem Inv.big (I:Inv X pins σ H s):sysModules < s.heap.objs.size:=by
 have h:mainGlobals < s.heap.objs.size:=(I.mod.glob.keeps I.bk).lt
 exact Nat.lt_trans (by decide) h
theorem sf (hu:A.units + 1 < cLine)(I:Inv X pins σ H s)(g:dE H a y (some v))(ry:RelV y u)(h:∀w' s',Inv X pins σ H s'->RelV v w'->Q w' s'):
 wpAny (model X.prog X.w) A (getItem (.ref a) u) Q E s:=by
 rcases g with ⟨kvs,k,e,ey,l⟩ | ⟨kvs,k,b,e,ey,eb,l⟩
 ·subst ey
  obtain ⟨z,hd,vs,rel,dd⟩:=iP I.hok e
  obtain ⟨w',hw,rw'⟩:=fz.some_of (v:=v) (o:=valueAt vs k) (by rw [l];exact rel.val k)
  exact wpAny_getItem_of (iL ry) dd.mapOf hw (h w' _ (I.tok _) rw')
 ·subst ey
  cases (show u=Value.ref b from ry)
  obtain ⟨z,hd,xs,rel,dd⟩:=j8 I.hok e
  obtain ⟨w',hw,rw'⟩:=fz.some_of (v:=v) (o:=(atKey xs k).map (·.2)) (by rw [l];exact rel.val k)
  obtain ⟨p,hp,hp2⟩:=Option.map_eq_some_iff.mp hw
  refine wpAny_getItem_heap (tupleKind_room_in1 hu) (iz I.hok eb) dd hp ?_
  rw [hp2]
  exact h w' _ (I.tok _) rw'
theorem B3 (hu:A.units + 1 < cLine)(I:Inv X pins σ H s)(g:dE H a y o)(ry:RelV y u)(h:∀s',Inv X pins σ H s'->Q (.bool o.isSome) s'):
 wpAny (model X.prog X.w) A (compareOp .In u (.ref a)) Q E s:=by
 rcases g with ⟨kvs,k,e,ey,l⟩ | ⟨kvs,k,b,e,ey,eb,l⟩
 ·subst ey
  obtain ⟨z,hd,vs,rel,dd⟩:=iP I.hok e
  refine wpAny_in_of (iL ry) hd dd.mapOf ?_
  rw [← (rel.val k).eM,← l]
  exact h _ (I.tok _)
 ·subst ey
  cases (show u=Value.ref b from ry)
  obtain ⟨z,hd,xs,rel,dd⟩:=j8 I.hok e
  refine wpAny_in_heap (tupleKind_room_in1 hu) (iz I.hok eb) hd dd ?_
  have q:=(rel.val k).eM
  rw [Option.isSome_map] at q
  rw [← q,← l]
  exact h _ (I.tok _)
theorem wz (hu:A.units + 1 < cLine)(I:Inv X pins σ H s)(g:dE H a y o)(ry:RelV y u)(h:∀s',Inv X pins σ H s'->Q (.bool (!o.isSome)) s'):
 wpAny (model X.prog X.w) A (compareOp .NotIn u (.ref a)) Q E s:=by
 rcases g with ⟨kvs,k,e,ey,l⟩ | ⟨kvs,k,b,e,ey,eb,l⟩
 ·subst ey
  obtain ⟨z,hd,vs,rel,dd⟩:=iP I.hok e
  refine wpAny_notIn_of (iL ry) hd dd.mapOf ?_
  rw [← (rel.val k).eM,← l]
  exact h _ (I.tok _)
 ·subst ey
  cases (show u=Value.ref b from ry)
  obtain ⟨z,hd,xs,rel,dd⟩:=j8 I.hok e
  refine wpAny_notIn_heap (tupleKind_room_in1 hu) (iz I.hok eb) hd dd ?_
  have q:=(rel.val k).eM
  rw [Option.isSome_map] at q
  rw [← q,← l]
  exact h _ (I.tok _)
theorem k5 {h':Heap}{t':Nat}{ob:HO}(I:Inv X pins σ H s)(mu:sr (H a))(hs:Heap.SameBut a s.heap h')(he:∃q,h'.get? a=some q)(new:bM X.prog X.w (upd H a ob) h' a ob):
 Inv X pins σ (upd H a ob) {s with heap:=h',toks:=t'}:=
 I.write (x:=a) (e:=a) mu (.inl rfl) (λb q hb z=>(hs.2 b hb).trans z) he new
theorem r6 {P:Program}{w:World}{H':Hp}{h':Heap}{kvs:List (Key×V)}{vs:List (Key×Value)}(z:kvs.length<=sizeLine)(hd:(a==sysModules)=false)(rel:KV kvs vs)(dd:h'.DictOf (cc P w) a vs):
 bM P w H' h' a (.dK kvs):=⟨z,hd,vs,rel,dd⟩
theorem qO {H':Hp}{Q:Unit->Shared->Prop}(hu:A.units + 1 < cLine)(I:Inv X pins σ H s)(g:kR H a y v H')(ry:RelV y u)(rv:RelV v r)(h:∀s',Inv X pins σ H' s'->Q () s'):
 wpAny (model X.prog X.w) A (setItem (.ref a) u r) Q E s:=by
 rcases g with ⟨kvs,k,e,ey,l,eH⟩ | ⟨kvs,k,b,e,ey,eb,l,eH⟩
 ·subst ey eH
  obtain ⟨z,hd,vs,rel,dd⟩:=vo I.hok e
  have hz:vs.length<=sizeLine:=by rw [← rel.length];exact z
  have hl:(putK kvs k v).length<=sizeLine:=by have:=fN kvs k v;omega
  refine wpAny_setItem_pairs (hsz:=hz) (iL ry) dd λh' dd' hs=>h _ ?_
  have he:∃q,h'.get? a=some q:=let ⟨q,_,_,hq,_⟩:=dd';⟨q,hq⟩
  exact k5 I (by rw [e];exact True.intro) hs he (r6 hl hd (rel.put k rv) dd')
 ·subst ey eH
  cases (show u=Value.ref b from ry)
  obtain ⟨z,hd,xs,rel,dd⟩:=Ar I.hok e
  have hz:xs.length<=sizeLine:=by rw [← Paired.length rel];exact z
  have hl:(putK kvs k v).length<=sizeLine:=by have:=fN kvs k v;omega
  refine wpAny_setItem_heap (hsz:=hz) (tupleKind_room_in1 hu) (iz I.hok eb) dd λh' dd' hs=>h _ ?_
  obtain ⟨q,es,ep,hq,h2,h3,h4,_,h5⟩:=dd'
  refine k5 I (by rw [e];exact True.intro) hs ⟨q,hq⟩ ⟨hl,hd,_,(rel.put k eb rv).keeps λc ys ec=>?_,q,es,ep,hq,h2,h3,h4,h5⟩
  rw [ay (Ad ec e (λz=>nomatch z))]
  exact ec
end
section
variable {X:Cx}{pins:List (Addr×Obj)}{σ:St}{H:Hp}{s:Shared}{a:Addr}{kvs:List (Key×V)}{k:Key}{u:Value}{A:Around}{E:Value->Shared->Prop}
theorem AA {Q:Value->Shared->Prop}(I:Inv X pins σ H s)(e:Rd H a (.dK kvs))(h:∀t s',Inv X pins σ H s'->Q (.int kvs.length t) s'):wpAny (model X.prog X.w) A (call (.builtin "len") [.ref a]) Q E s:=by
 obtain ⟨z,hd,vs,rel,dd⟩:=iP I.hok e
 refine call_len_dict hd dd (by rw [← rel.length];rw [sizeLine_eq] at z;omega) ?_
 rw [← rel.length]
 exact h _ _ (I.tok _)
end
def pC (i:Expr):Prop:=∀ov iv,subscripted i false ov iv=operate [ov,iv] (getItem ov iv)
theorem vP {prog:Program}{w:World}{A:Around}{E:Value->Shared->Prop}{s:Shared}{env:Env}{value slice:Expr}{pos:Pos}{T id:String}{Q:Value->Shared->Prop}
 (hl:typeLookup (.type T) "__getitem__"=pure (some (.builtin id))) (hs:pC slice)
 (h:wpAny (model prog w) A (eval value env) (λo s₁=>wpAny (model prog w) A (eval slice env) (λi s₂=>s₂.TypeIs o T/\wpAny (model prog w) A (getItem o i) Q E s₂) E s₁) E s):
 wpAny (model prog w) A (eval (.Subscript value slice pos) env) Q E s:=by
 refine Subscript_ (wpAny_mono h (λo s₁ h₁=>wpAny_mono h₁ (λi s₂ h₂=>?_) λ_ _ x=>x) λ_ _ x=>x)
 obtain ⟨hT,h₂⟩:=h₂
 unfold subscriptTail
 refine wpAny_bind ?_
 rw [getitemInPython_of_ne hT.not_modules]
 refine wpAny_bind (wpAny_specialOf hT hl ?_)
 have fin:wpAny (model prog w) A (subscripted slice false o i) (λr s₃=>wpAny (model prog w) A (letTemporaryGo value o r >>=λ_=>pure r) Q E s₃) E s₂:=by
  rw [hs o i]
  exact wpAny_operating (wpAny_mono h₂ (λr s₃ h₃=>wpAny_bind (wpAny_letTemporaryGo (wpAny_pure h₃))) λ_ _ x=>x)
 first
  | exact wpAny_pure (wpAny_bind fin)
  | exact wpAny_bind (wpAny_pure (wpAny_bind fin))
  | exact wpAny_bind fin
theorem nK {X:Cx}{pins:List (Addr×Obj)}{σ:St}{H:Hp}{s:Shared}{a:Addr}{y:V}{o:Option V}(I:Inv X pins σ H s)(g:dE H a y o):s.TypeIs (.ref a) "dict":=by
 rcases g with ⟨kvs,k,e,_,_⟩ | ⟨kvs,k,b,e,_,_,_⟩
 ·obtain ⟨_,_,vs,_,dd⟩:=iP I.hok e
  exact dd.typeIs
 ·obtain ⟨_,_,xs,_,dd⟩:=j8 I.hok e
  exact dd.typeIs
def AQ (td ty:TE):TE:=λσ H Q=>td σ H λx H1=>ty σ H1 λy H2=>∃a v,x= .ref a/\dE H2 a y (some v)/\Q v H2
def BK (ty td:TE):TE:=λσ H Q=>ty σ H λy H1=>td σ H1 λx H2=>∃a o,x= .ref a/\dE H2 a y o/\Q (.bl o.isSome) H2
def vB (ty td:TE):TE:=λσ H Q=>ty σ H λy H1=>td σ H1 λx H2=>∃a o,x= .ref a/\dE H2 a y o/\Q (.bl (!o.isSome)) H2
def A6 (td ty tv:TE):TS:=λD σ H=>tv σ H λv H1=>td σ H1 λx H2=>ty σ H2 λy H3=>∃a H4,x= .ref a/\kR H3 a y v H4/\D.nx σ H4
section
variable {X:Cx}{o i e value:Expr}{pos pos' tpos:Pos}{td ty tv:TE}
theorem oP (hu:X.A.units + 1 < cLine)(ho:PE X o td)(hi:PE X i ty)(hs:pC i):PE X (.Subscript o i pos) (AQ td ty):=by
 intro pins s σ H Q I h
 refine vP PySem.F.slot_dict_getitem.lookup hs (aG (ho pins s σ H _ I h) λu s1 ⟨x,H1,I1,rx,q1⟩=>aG (hi pins s1 σ H1 _ I1 q1) λiv s2 ⟨y,H2,I2,ry,a,v,ex,g,q2⟩=>?_)
 subst ex
 obtain rfl:u=Value.ref a:=rx
 exact ⟨nK I2 g,sf hu I2 g ry λw' s3 I3 rw'=>⟨v,H2,I3,rw',q2⟩⟩
theorem l8 (hu:X.A.units + 1 < cLine)(hi:PE X i ty)(ho:PE X o td):PC X .In i o (BK ty td):=by
 intro pins s σ H Q I h
 refine aG (hi pins s σ H _ I h) λiv s1 ⟨y,H1,I1,ry,q1⟩=>aG (ho pins s1 σ H1 _ I1 q1) λu s2 ⟨x,H2,I2,rx,a,ov,ex,g,q2⟩=>?_
 subst ex
 obtain rfl:u=Value.ref a:=rx
 exact B3 hu I2 g ry λs3 I3=>⟨.bl ov.isSome,H2,I3,rfl,q2⟩
theorem sy (hu:X.A.units + 1 < cLine)(hi:PE X i ty)(ho:PE X o td):PC X .NotIn i o (vB ty td):=by
 intro pins s σ H Q I h
 refine aG (hi pins s σ H _ I h) λiv s1 ⟨y,H1,I1,ry,q1⟩=>aG (ho pins s1 σ H1 _ I1 q1) λu s2 ⟨x,H2,I2,rx,a,ov,ex,g,q2⟩=>?_
 subst ex
 obtain rfl:u=Value.ref a:=rx
 exact wz hu I2 g ry λs3 I3=>⟨.bl (!ov.isSome),H2,I3,rfl,q2⟩
theorem ou (hu:X.A.units + 1 < cLine)(ho:PE X o td)(hi:PE X i ty)(hv:PE X value tv)(hs:swapsWith value (some (.Subscript o i pos')) pos.line X.env=pure false):
 PS X (.Assign [.Subscript o i pos'] value pos) (A6 td ty tv):=by
 intro pins s σ H D I h
 refine wpAny_Assign_Subscript (aG (hv pins s σ H _ I h) λr s1 ⟨v,H1,I1,rv,q1⟩=>aG (ho pins s1 σ H1 _ I1 q1) λu s2 ⟨x,H2,I2,rx,q2⟩=>aG (hi pins s2 σ H2 _ I2 q2) λiv s3 ⟨y,H3,I3,ry,a,H4,ex,g,q3⟩=>?_) hs
 subst ex
 obtain rfl:u=Value.ref a:=rx
 exact qO hu I3 g ry rv λs4 I4=>⟨σ,H4,I4,q3⟩
end
theorem uw {P:Program}{w:World}{H:Hp}(h:Heap)(hb:sysModules < h.objs.size):bM P w H (h.push {cls:=.type "dict",data:=.dict #[]}) h.objs.size (.dK []):=
 ⟨Nat.zero_le _,beq_eq_false_iff_ne.mpr (Ne.symm (Nat.ne_of_lt hb)),[],.nil,Heap.DictOf.new h⟩
section
variable {X:Cx}{pos:Pos}
end
section
variable {X:Cx}{pos:Pos}
def nk:List (TE×TE)->St->Hp->(List (V×V)->Hp->Prop)->Prop
 | [],_,H,Q=>Q [] H
 | (tk,tv)::r,σ,H,Q=>tk σ H λx H1=>tv σ H1 λy H2=>nk r σ H2 λps H3=>Q ((x,y)::ps) H3
abbrev VV:List (V×V)->List (Value×Value)->Prop:=Paired λp q=>RelV p.1 q.1/\RelV p.2 q.2
def uX (X:Cx)(pos:Pos)(keys:List (Option Expr))(values:List Expr)(trs:List (TE×TE)):Prop:=
 ∀(pins:List (Addr×Obj)) (s:Shared) (σ:St) (H:Hp) (Q:List (V×V)->Hp->Prop),Inv X pins σ H s->nk trs σ H Q->
  wpAny (model X.prog X.w) X.A (evalPairs (pairTrees keys values X.env pos)) (λvs s'=>∃ps H',Inv X pins σ H' s'/\VV ps vs/\Q ps H') X.xe s
theorem wg:uX X pos [] [] []:=λpins s σ H Q I h=>pairTrees_nil_walk ⟨[],H,I,.nil,h⟩
theorem tw {k v:Expr}{ks:List (Option Expr)}{vs:List Expr}{tk tv:TE}{trs:List (TE×TE)}(hk:PE X k tk)(hv:PE X v tv)(hr:uX X pos ks vs trs):
 uX X pos (some k::ks) (v::vs) ((tk,tv)::trs):=λpins s σ H Q I h=>
 pairTrees_cons_walk (aG (hk pins s σ H _ I h) λu s1 ⟨x,H1,I1,rx,q1⟩=>aG (hv pins s1 σ H1 _ I1 q1) λw2 s2 ⟨y,H2,I2,ry,q2⟩=>
  aG (hr pins s2 σ H2 _ I2 q2) λws s3 ⟨ps,H3,I3,rel,q3⟩=>⟨(x,y)::ps,H3,I3,.cons ⟨rx,ry⟩ rel,q3⟩)
def gg (kvs more:List (Key×V)):List (Key×V):=more.foldl (λacc kv=>putK acc kv.1 kv.2) kvs
theorem KV.merge:∀{more:List (Key×V)} {rs:List (Key×Value)} {kvs:List (Key×V)} {vs:List (Key×Value)},KV more rs->KV kvs vs->KV (gg kvs more) (merged vs rs):=by
 intro more rs kvs vs r
 unfold KV at r
 induction r generalizing kvs vs with
 | nil=>intro q;exact q
 | @cons p q ps qs h t ih=>
   intro r0
   have e:KV (putK kvs p.1 p.2) (stored vs q.1 q.2):=by
    have:=r0.put p.1 h.2
    rw [← h.1];exact this
   exact ih e
theorem gX:∀(more kvs:List (Key×V)),(gg kvs more).length<=kvs.length + more.length
 | [],kvs=>by show kvs.length<=kvs.length + 0;omega
 | p::r,kvs=>by
   have h1:=gX r (putK kvs p.1 p.2)
   have h2:=fN kvs p.1 p.2
   show (gg (putK kvs p.1 p.2) r).length<=_
   rw [List.length_cons];omega
theorem ka {P:Program}{w:World}:∀{kvs:List (Key×V)} {ws:List (Value×Value)},VV (kvs.map λkv=>(kV kv.1,kv.2)) ws->∃rs,Carries (cc P w) ws rs/\KV kvs rs
 | [],_,r=>by rw [List.map_nil] at r;cases r;exact ⟨[],True.intro,.nil⟩
 | p::kvs,_,r=>by
   rw [List.map_cons] at r
   cases r with
   | @cons a b as bs h t=>
     obtain ⟨rs,c,q⟩:=ka (P:=P) (w:=w) t
     obtain ⟨b1,b2⟩:=b
     exact ⟨(p.1,b2)::rs,⟨iL h.1,rfl,c⟩,.cons ⟨rfl,h.2⟩ q⟩
def z8 (trs:List (TE×TE)):TE:=λσ H Q=>∀p,H p=none->nk trs σ (upd H p (.dK [])) λps H2=>H2 p=some (.dK [])/\∃kvs:List (Key×V),ps=kvs.map (λkv=>(kV kv.1,kv.2))/\kvs.length<=15/\Q (.ref p) (upd H2 p (.dK (gg [] kvs)))
theorem wm {keys:List (Option Expr)}{values:List Expr}{trs:List (TE×TE)}(h:uX X pos keys values trs)(hall:keys.all (·.isSome)=true)(hl:keys.length=values.length)(h0:keys≠[])
 (h15:keys.length<=15):PE X (.Dict keys values pos) (z8 trs):=by
 intro pins s σ H Q I q
 have hn:=I.hok.fresh (Nat.le_refl s.heap.objs.size)
 have I1:=I.laid (a:=s.heap.objs.size) (o:=.dK []) (h':=s.heap.push {cls:=.type "dict",data:=.dict #[]}) (t':=s.toks) (λ_ _ q=>Heap.get?_push_of_some _ q) (Nat.le_refl _) (uw s.heap I.big)
 refine wpAny_Dict_walk (knd:=cc X.prog X.w) hall hl h0 h15 (aG (h pins _ σ _ _ I1 (q _ hn)) λws s2 ⟨ps,H2,I2,rel,e,kvs,ep,lk,q2⟩=>?_)
 subst ep
 obtain ⟨rs,c,rk⟩:=ka (P:=X.prog) (w:=X.w) rel
 obtain ⟨z,hd,vs0,r0,dd⟩:=vo I2.hok e
 cases r0
 refine ⟨rs,c,dd,λh' dd' hs=>⟨.ref s.heap.objs.size,_,?_,rfl,q2⟩⟩
 have hz:(gg [] kvs).length<=sizeLine:=by
  have h1:=gX kvs []
  rw [List.length_nil] at h1
  rw [sizeLine_eq];omega
 have he:∃q,h'.get? s.heap.objs.size=some q:=let ⟨q,_,_,hq,_⟩:=dd';⟨q,hq⟩
 exact k5 I2 (by rw [e];exact True.intro) hs he (r6 hz hd (rk.merge .nil) dd')
end
section
variable {X:Cx}{pins:List (Addr×Obj)}{σ:St}{H:Hp}{s:Shared}{a:Addr}{y d:V}{u r:Value}{o:Option V}{A:Around}{E:Value->Shared->Prop}
end
section
variable {X:Cx}{o e f:Expr}{apos cpos:Pos}{td ty tx:TE}
end
section
variable {X:Cx}{pins:List (Addr×Obj)}{σ:St}{H:Hp}{s:Shared}{a:Addr}{kvs:List (Key×V)}{A:Around}{E:Value->Shared->Prop}
end
section
variable {X:Cx}{pins:List (Addr×Obj)}{σ:St}{H:Hp}{s:Shared}{a:Addr}{y:V}{u:Value}{A:Around}{E:Value->Shared->Prop}
end
end L2
namespace Att
open PySem PySem.W PySem.Calls PyProof.Rows
theorem kg {P:Params}{h:Heap}:∀(ns:List Int) (vs:List Value),WellAll P h vs (ns.map WData.int)->IntsAre vs ns:=by
 intro ns
 induction ns with
 | nil=>
   intro vs w
   rw [List.map_nil] at w
   cases w
   exact .nil
 | cons n ns ih=>
   intro vs w
   rw [List.map_cons] at w
   cases w with
   | cons a b=>
     cases a
     exact .cons _ _ (ih _ b)
theorem qC {l:OpenLaw}{n:Nat}(hn:l.most=some n){P:Params}{h:Heap}{args:List WData}{vals:List Value}
 (hpre:l.row.toRowW.claim.pre args=true) (hwl:WellAll P h vals args):
 ∃a vs ns,vals=[Value.ref a]/\args=[WData.list (ns.map WData.int)]/\h.get? a=some {cls:=.type "list",data:=.seq vs.toArray}/\IntsAre vs ns/\ns.length<=n:=by
 have hsh:WShape.hasAll [] args [.list .int]=true:=(pre_splitW hpre).1
 have hc:l.pre.holds [] {args:=args}=true:=(pre_splitW hpre).2
 obtain ⟨d,r,rfl,h1,h2⟩:=hasAllW_cons hsh
 obtain rfl:=hasAllW_nil h2
 obtain ⟨xs,rfl,h3⟩:=hasW_list h1
 obtain ⟨ns,rfl⟩:=items_int h3
 have hlen:ns.length<=n:=by
  unfold OpenLaw.pre at hc
  have h4:(WTm.not (.lt (.lit (.int (n:Int))) (.len (.arg 0)))).holds [] {args:=[.list (ns.map .int)]}=true:=by
   have h4:=(holds_andW hc).1
   rw [hn] at h4
   exact h4
  have h5:=condW_of h4 (w_not (w_lt w_lit (w_len_list (w_arg rfl))))
  rw [List.length_map] at h5
  refine Nat.le_of_not_lt λq=>?_
  have q':(n:Int) < ((ns.length:Nat):Int):=by omega
  first
   | (rw [decide_eq_true q'] at h5;exact absurd h5 (by decide))
   | (simp at h5;omega)
 cases hwl with
 | cons w1 w2=>
   cases w2
   cases w1 with
   | list ho hall=>exact ⟨_,_,ns,rfl,rfl,ho,kg ns _ hall,hlen⟩
theorem qm (l:OpenLaw)(args:List WData):l.row.toRowW.claim.post args (.bool true) args=true:=
 postW_of (r:=l.row.toRowW) (X:=(true==true))
  (show WShape.has [] (.bool true) .bool=true by first | rfl | decide | simp [WShape.has,WShape.arms,WShape.armsAll])
  (show (WTm.eq .res (.lit (.bool true))).value [] {args:=args,res:=some (.bool true),after:=args}=some (.bool (true==true)) from w_eq_bool (w_res rfl) w_lit) rfl
section
variable {prog:Program}{w:World}{A:Around}{E:Value->Shared->Prop}{s:Shared}{K:Frag}
end
end Att
namespace L2
open PySem PySem.Spec PyProof.Rows
theorem iw:∀{vs:List Value} {ns:List Int},IntsAre vs ns->Vals (ns.map V.int) vs
 | _,_,.nil=>.nil
 | _,_,.cons n t h=>.cons ⟨t,rfl⟩ (iw h)
def uf (H:Hp):Prop:=∀b,H b=none∨∃o xs,H b=some (.frz o (.lst xs))
theorem sV {P:Program}{w:World}{K:PySem.W.Frag}{mg mb:Str->Option Value}{CX:gZ}{k:Nat}{fa a:Addr}{fd:FuncData}{x:Str}{sp:Sp}{s₁:Shared}{vs:List Value}{ns:List Int}
 (KX:K.In s₁.heap) (hns:s₁.heap.Ns mainGlobals mg) (hb:s₁.heap.Ns builtinsNs mb) (hbb:∀x:Str,x≠"__name__"->mb x=bootBuiltins x) (hlim:s₁.heap.NoLimit) (hg:s₁.gens= #[])
 (ha:s₁.heap.get? a=some {cls:=.type "list",data:=.seq vs.toArray}) (hi:IntsAre vs ns) (hl:ns.length<=sizeLine) (hr:bt k callerA)
 (F:∀base:Heap,K.In base->base.Ns mainGlobals mg->dG P w K mg base CX k fa fd [x] sp) (hbind:∀(s:Shared) (u:Value),BindsTo s fd ⟨[u],[]⟩ [(x,u)])
 (hsp:∀H:Hp,uf H->aH K H a (ns.map V.int)->sp [.ref a] H (λv _=>v= .bl true) λ_ _ _=>False)
 (hCX:∀H e s',CX [] H s₁ (λ_ _ _=>False) e s'->False):
 codeAny (model P w) callerA (.call (.ref fa) ⟨[.ref a],[]⟩) (λr s'=>r= .ok (.ret (.bool true))/\OldK s₁.heap s'.heap/\s'.os=s₁.os/\AllBare s'.gens) s₁:=by
 have rv:=iw hi
 have lenV:=hi.length
 -- from an abstract heap in which nothing but the script may be tracked
 have core:∀H:Hp,uf H->aH K H a (ns.map V.int)->cJ P w H s₁.heap->(∀b,H b≠none->b=a)->(H a≠none->K.lookup a=none)->
  codeAny (model P w) callerA (.call (.ref fa) ⟨[.ref a],[]⟩) (λr s'=>r= .ok (.ret (.bool true))/\OldK s₁.heap s'.heap/\s'.os=s₁.os/\AllBare s'.gens) s₁:=by
  intro H hO hS hok hA hK
  have base_of:∀{b:Addr} {o:Obj},s₁.heap.get? b=some o->H b=none->(gO s₁.heap H).get? b=some o:=λe n=>tL e n
  have noA:∀{b:Addr} {o:Obj} {es:Array DictEntry} {ep:Nat},s₁.heap.get? b=some o->o.data= .dict es ep->H b=none:=λ{b o es ep} e d=>by
   cases q:H b with
   | none=>rfl
   | some u=>
     have e':b=a:=hA b (by rw [q];simp)
     subst e'
     rw [ha] at e;cases e
     have d':Data.seq vs.toArray _=Data.dict es ep:=d
     cases d'
  have nsK:∀{b:Addr} {m:Str->Option Value},s₁.heap.Ns b m->(gO s₁.heap H).Ns b m:=λ{b m} ⟨o,es,ep,e,d,r⟩=>⟨o,es,ep,base_of e (noA e d),d,r⟩
  have hKb:K.In (gO s₁.heap H):=λb o e=>base_of (KX b o e) (by
   cases q:H b with
   | none=>rfl
   | some u=>
     have e':b=a:=hA b (by rw [q];simp)
     subst e'
     rw [hK (by rw [q];simp)] at e;cases e)
  have hM:Mod K mg (gO s₁.heap H):=⟨hKb,nsK hns,⟨mb,nsK hb,hbb⟩,let ⟨mc,h1,h2⟩:=hlim;⟨mc,nsK h1,h2⟩⟩
  have e0:pY P w K mg (gO s₁.heap H) callerA [] s₁ H:=⟨rfl,hM,λb o e=>vM e,Nat.le_of_eq (si _ _),trivial,λb hb=>absurd (show b∈([]:List Addr) from hb) (by simp),hok,.of_eq hg⟩
  refine codeAny_mono ((F _ hKb (nsK hns)).run callerA [] s₁ H ⟨[.ref a],[]⟩ [.ref a] [.ref a] _ _ hr e0 (hbind s₁ (.ref a)) (.cons rfl .nil) (hsp H hO hS)) λr s' h=>?_
  cases r with
  | error e=>exact (hCX H e s' h).elim
  | ok fl=>
    cases fl with
    | next=>exact False.elim h
    | brk=>exact False.elim h
    | cont=>exact False.elim h
    | ret u=>
      obtain ⟨v,H',os,bare,un,hok',r',q⟩:=h
      have q':v= .bl true:=q
      subst q'
      obtain rfl:u=Value.bool true:=r'
      refine ⟨rfl,OldK.of_keep λb o e=>?_,os,bare⟩
      cases q:H b with
      | none=>exact un.keep b o e q (by intro z;exact absurd (show b∈([]:List Addr) from z) (by simp)) (by simp)
      | some u=>
        rcases hO b with z | ⟨ob,xs,z⟩
        ·rw [q] at z;cases z
        ·have z2:=un.frzs b ob _ z
         obtain ⟨e1,_⟩:=hok b _ z
         obtain ⟨e2,_⟩:=hok' b _ z2
         rw [e] at e1;cases e1
         exact e2
 cases hk:K.lookup a with
 | some o=>
   -- the script is one of the module's own objects
   have e:=KX a o hk
   rw [ha] at e
   cases e
   refine core (λ_=>none) (λ_=>.inl rfl) (.inr ⟨_,vs.toArray,_,hk,rfl,rfl,rfl,by rw [List.size_toArray,lenV];exact hl,by simpa using rv⟩) (λb u z=>by have z':(none:Option HO)=some u:=z;cases z') (λb z=>absurd rfl z) λz=>absurd rfl z
 | none=>
   refine core (λb=>if b=a then some (.frz {cls:=.type "list",data:=.seq vs.toArray} (.lst (ns.map V.int))) else none) (λb=>?_) (.inl (.inr ⟨{cls:=.type "list",data:=.seq vs.toArray},if_pos rfl⟩)) (λb u z=>?_) (λb z=>?_) λ_=>hk
   ·by_cases hb:b=a
    ·exact .inr ⟨_,_,if_pos hb⟩
    ·exact .inl (if_neg hb)
   ·by_cases hb:b=a
    ·have z':=(if_pos hb).symm.trans z
     cases z'
     subst hb
     exact ⟨ha,by rw [List.length_map];exact hl,vs,_,rv,ha⟩
    ·have z':=(if_neg hb).symm.trans z
     cases z'
   ·by_cases hb:b=a
    ·exact hb
    ·exact absurd (if_neg hb) z
abbrev aL {K:PySem.W.Frag}{h:Heap}(_:K.In h):PySem.W.Frag:=K
def dO (s:Stmt):Arguments:=match s with
 | .FunctionDef _ a _ _ _ _ _ _ _ _=>a
 | _=>{posonlyargs:=[],args:=[],vararg:=none,kwonlyargs:=[],kw_defaults:=[],kwarg:=none,defaults:=[]}
def bY (s:Stmt):List Stmt:=match s with
 | .FunctionDef _ _ b _ _ _ _ _ _ _=>b
 | _=>[]
def ag (s:Stmt):Scope:=match s with
 | .FunctionDef _ _ _ _ _ _ sc _ _ _=>sc
 | _=>{kind:=.function,names:=[],isGenerator:=false,isCoroutine:=false}
abbrev d6:gZ:=λ_ _ _ _ _ _=>False
abbrev E0:XK:=λ_ _ _=>False
theorem pO {X:Cx}:Passes d6 X E0:=λ_ _ _ _ _ _ _ h=>h.elim
structure bz (K:PySem.W.Frag) (x qual:Str) (st:Stmt) (f:Addr) (fd:FuncData):Prop where
 ex:∃(oc:Value) (od:Option Addr) (kV doc pm:Value) (an:Option Addr) (cdv ct:Value) (osl:Array (Option Value)),
  fd=PySem.W.fnOf x qual (dO st) (bY st) (ag st) .none kV doc pm an cdv ct/\K.lookup f=some ⟨oc,od,.func fd,osl⟩/\PySem.W.codeIn K cdv qual=true
 kp:PySem.W.keepIn K (.ref f)=true
section
variable {P:Program}{w:World}{K:PySem.W.Frag}{mg:Str->Option Value}{base:Heap}
variable {x qual:Str}{st:Stmt}{f:Addr}
theorem bz.ok {fd:FuncData}{N ps:List Str}{k:Nat}{sp:Sp}(F:bz K x qual st f fd)(S:ax N ps (ag st))(len:∀vs H Q E,sp vs H Q E->vs.length=ps.length)
 (hbody:∀(cdv:Value) (A:Around) (outer:List Env) (s:Shared) (H:Hp) (vs:List V) (Q:VK) (E:XK),bt k (A.deeper (envOfC qual (ag st) s.heap.objs.size f cdv))->sp vs H Q E->
  ∃t,fg (d4 d6 P w K mg base N qual (ag st) f cdv A outer s H E).g8 (bY st) t/\t {nx:=λ_ H'=>Q .non H',rt:=Q} (start N vs) H):dG P w K mg base d6 (k + 1) f fd ps sp:=by
 obtain ⟨oc,od,kV,doc,pm,an,cdv,ct,osl,rfl,lk,hcd⟩:=F.ex
 refine A0 lk hcd S len λA outer s H vs Q E hr hsp=>?_
 obtain ⟨t,h,q⟩:=hbody cdv A outer s H vs Q E hr hsp
 exact ⟨t,h.g8,q⟩
theorem bz.binds {fd:FuncData}{ps:List Str}(F:bz K x qual st f fd)
 (h:∀(kV doc pm:Value) (an:Option Addr) (cdv ct:Value) (us:List Value),us.length=ps.length->bindArgs (PySem.W.fnOf x qual (dO st) (bY st) (ag st) .none kV doc pm an cdv ct) ⟨us,[]⟩=pure (ps.zip us)):Binds K fd ps []:=by
 obtain ⟨oc,od,kV,doc,pm,an,cdv,ct,osl,rfl,lk,hcd⟩:=F.ex
 exact .all (h kV doc pm an cdv ct)
theorem mx {oc:Value}{od an:Option Addr}{osl:Array (Option Value)}{kV doc pm cdv ct:Value}(l:K.lookup f=some ⟨oc,od,.func (PySem.W.fnOf x qual (dO st) (bY st) (ag st) .none kV doc pm an cdv ct),osl⟩)
 (c:PySem.W.codeIn K cdv qual=true) (k:PySem.W.keepIn K (.ref f)=true):bz K x qual st f (PySem.W.fnOf x qual (dO st) (bY st) (ag st) .none kV doc pm an cdv ct):=⟨⟨oc,od,kV,doc,pm,an,cdv,ct,osl,rfl,l,c⟩,k⟩
end
theorem Aw {A:Around}{k:Nat}(hr:bt k A):A.units + 1 < cLine:=Nat.lt_of_le_of_lt (Nat.add_le_add_left (by decide:1<=64) _) hr.units
section
variable {X:Cx}
end
section
variable {H:Hp}
theorem ip {A B:Prop}(h:B):if false=true then A else B:=by
 rw [if_neg Bool.false_ne_true]
 exact h
theorem hV {A B:Prop}(h:A):if true=true then A else B:=by
 rw [if_pos rfl]
 exact h
def aj (H H':Hp):Prop:=∀b o,H b=some o->H' b=some o
theorem aj.refl (H:Hp):aj H H:=λ_ _ h=>h
theorem aj.trans {H1 H2:Hp}(a:aj H H1)(b:aj H1 H2):aj H H2:=λc o h=>b c o (a c o h)
theorem aj.free {H':Hp}(e:aj H H'){l:Addr}(h:H' l=Option.none):H l=Option.none:=by
 cases q:H l with
 | none=>rfl
 | some o=>
   rw [e l o q] at h
   cases h
theorem aj.seq {K:PySem.W.Frag}{H':Hp}{a:Addr}{xs:List V}(e:aj H H')(h:aH K H a xs):aH K H' a xs:=by
 rcases h with (h | ⟨o,h⟩) | h
 ·exact .inl (.inl (e _ _ h))
 ·exact .inl (.inr ⟨o,e _ _ h⟩)
 ·exact .inr h
end
section
variable {X:Cx}
theorem qG:c4 X (.builtin "len") (λxs H Q=>∃a kvs,xs=[V.ref a]/\H a=some (.dK kvs)/\Q (.int kvs.length) H):=by
 intro pins s σ H xs us Q I r h
 obtain ⟨a,kvs,rfl,ha,q⟩:=h
 obtain ⟨u,rfl,ru⟩:=vals1 r
 cases ru
 exact AA I (.inl ha) λt s' I'=>⟨.int kvs.length,H,I',⟨t,rfl⟩,q⟩
end
section
variable {κ:Type} [DecidableEq κ]
theorem gd:∀{l:List κ} {k:κ},l.Nodup->¬k∈l->(l++[k]).Nodup
 | [],k,_,_=>by simp
 | a::r,k,h,hk=>by
   obtain ⟨h1,h2⟩:=List.nodup_cons.mp h
   show (a::(r++[k])).Nodup
   refine List.nodup_cons.mpr ⟨λm=>?_,gd h2 λm=>hk (List.mem_cons.mpr (Or.inr m))⟩
   rcases List.mem_append.mp m with q | q
   ·exact h1 q
   ·exact hk (List.mem_cons.mpr (Or.inl (List.mem_singleton.mp q).symm))
end
end L2
set_option maxHeartbeats 4000000
namespace L2
open PySem PySem.Spec PyProof.Rows
section
variable {X:Cx}
variable {elt target iter:Expr}{ifs:List Expr}{scope:Scope}{pos:Pos}{s:Shared}{cl:List (Str×Addr)}{fr:List Str}{ix:List Nat}{wi:TI}{g:TG}{tc:TT}{te:TE}
def aq (X:Cx)(scope:Scope)(cl:List (Str×Addr))(C:Addr)(N':List Str)(s:Shared)(H:Hp)(ex:List Addr):Cx:=
 {X with N:=N',s₀:=s,H₀:=H,env:=compEnvC scope cl C X.env,outer:=X.stack,stack:=X.stack,ex:=ex,fn:=λ_=>false,pn:=[],xe:=λ_ _=>False}
def PF (X:Cx)(ifs:List Expr)(t:TT):Prop:=
 ∀(pins:List (Addr×Obj)) (s:Shared) (σ:St) (H:Hp) (Q:Bool->Hp->Prop),Inv X pins σ H s->t σ H Q->
  wpAny (model X.prog X.w) X.A (forIn ifs true λc r=>if r=true then do let ok ← isTrue c X.env (eval c X.env);pure (ForInStep.yield ok) else pure (ForInStep.yield r)) (TP X pins σ Q) X.xe s
def BO:TT:=λ_ H Q=>Q true H
theorem yW:PF X [] BO:=by
 intro pins s σ H Q I h
 exact wpAny_pure ⟨H,I,h⟩
theorem xq {c:Expr}{t:TT}(hc:PT X c t):PF X [c] t:=by
 intro pins s σ H Q I h
 show wpAny _ _ (forIn [c] true λc r=>_) _ _ s
 rw [List.forIn_cons]
 simp only [if_true,List.forIn_nil]
 refine wpAny_bind (wpAny_bind (wpAny_mono (hc pins s σ H Q I h) (λb s1 h1=>?_) λ_ _ e=>e))
 exact wpAny_pure (wpAny_pure h1)
theorem mT {prog:Program}{w:World}{A:Around}{R:Result->Shared->Prop}{it acc:Value}{env:Env}(I:Nat->Shared->Prop)
 (turn:∀n s,I n s->wpAny (model prog w) A (pyNext it) (λr s₁=>match r with
  | none=>R (.ok .next) s₁
  | some v=>wpAny (model prog w) A (letOwnedTupleGo target it v) (λ_ s₁'=>wpAny (model prog w) A (assign target env v) (λ_ s₂=>
   wpAny (model prog w) A (forIn ifs true λc r=>if r=true then do let ok ← isTrue c env (eval c env);pure (ForInStep.yield ok) else pure (ForInStep.yield r)) (λok s₃=>
    if ok=true then wpAny (model prog w) A (eval elt env) (λx s₄=>
     wpAny (model prog w) A (call (.builtin "list.append") [acc,x]) (λ_ s₅=>∃m,m < n/\I m s₅) (λ_ _=>False) s₄) (λ_ _=>False) s₃
    else∃m,m < n/\I m s₃) (λ_ _=>False) s₂) (λ_ _=>False) s₁') (λ_ _=>False) s₁) (λ_ _=>False) s)
 (n:Nat) (h:I n s):
 codeAny (model prog w) A (.compLoop (.ListComp elt [⟨target,iter,ifs,0⟩] scope pos) 0 it acc env) R s:=by
 have no:∀{α:Type} {t:Sem α} {Q:α->Shared->Prop} {E:Value->Shared->Prop} {s:Shared},wpAny (model prog w) A t Q (λ_ _=>False) s->wpAny (model prog w) A t Q E s:=λh=>wpAny_mono h (λ_ _ q=>q) λ_ _ f=>f.elim
 refine codeAny_loop rfl I (λn s hI=>?_) n h
 show wpAny _ A ((compTurn (.ListComp elt [⟨target,iter,ifs,0⟩] scope pos) 0 it acc env).onRaise (λx=>do noteFrame x env;theTreesLotGoes x)) _ _ s
 refine wpAny_noted ?_
 rw [compTurn_list]
 refine wpAny_bind (wpAny_standAt (wpAny_bind (wpAny_mono (no (turn n s hI)) (λr s₁ h₁=>?_) λ_ _ h'=>h')))
 cases r with
 | none=>exact wpAny_pure h₁
 | some v=>
   refine wpAny_bind (wpAny_mono (no h₁) (λ_ s₁' h₁'=>?_) λ_ _ h'=>h')
   refine wpAny_bind (wpAny_mono (no h₁') (λ_ s₂ h₂=>wpAny_bind (wpAny_mono (no h₂) (λok s₃ h₃=>?_) λ_ _ h'=>h')) λ_ _ h'=>h')
   cases ok with
   | false=>exact wpAny_pure ⟨rfl,h₃⟩
   | true=>
     exact wpAny_bind (wpAny_bind (wpAny_mono (no h₃) (λx s₄ h₄=>wpAny_bind (wpAny_mono (no h₄) (λ_ s₅ h₅=>wpAny_pure (wpAny_pure ⟨rfl,h₅⟩)) λ_ _ h'=>h')) λ_ _ h'=>h'))
def pP (wi:TI)(g:TG)(tc:TT)(te:TE)(z:St->St):TE:=λσ H Q=>wi σ H λJ H1=>
 ∃W:Nat->Nat->List V->St->Hp->Prop,(∃m,W 0 m [] (z σ) H1)/\∀i m ys σ' H',W i m ys σ' H'->
  ys.length<=sizeLine/\((J.stop i H'/\∀p,H' p=none->Q (.ref p) (upd H' p (.lst ys)))∨
  (J.go i H'/\∀x H2,J.yld i H' x H2->g x σ' H2 λσ2 H3=>tc σ2 H3 λb H4=>
    if b=true then te σ2 H4 λv H5=>∃m',m' < m/\W (i + 1) m' (ys++[v]) σ2 H5 else∃m',m' < m/\W (i + 1) m' ys σ2 H4))
structure cf (X:Cx) (scope:Scope) (cl:List (Str×Addr)) (own fr:List Str) (ix:List Nat):Prop where
 clos:closureFor scope X.env=pure cl
 cells:∀x c,cl.lookup x=some c->X.env.cells.lookup x=some c
 kind:scope.kind= .function
 ncell:∀y∈scope.names,y.2≠ .cell
 names:∀y∈scope.names,y.2= .local->scope.names.lookup y.1=some .local
 has:∀x,scope.names.lookup x=some .free->∃c,cl.lookup x=some c
 frees:∀x∈fr,scope.names.lookup x=some .free
 len:fr.length=ix.length
 at_:∀(k:Nat) (i:Nat) (x:Str),ix[k]?=some i->fr[k]?=some x->X.N[i]?=some x/\X.env.kindOf x=some .cell
theorem d9 {env:Env}:∀{names:List (Str×NameKind)} {x:Str} {k:NameKind},
 (names.map λ(n,k)=>if (k==NameKind.free&&env.scope.kind== .function&&env.kindOf n==some .cell) then (n,NameKind.cell) else (n,k)).lookup x=some k->
 ∃k',names.lookup x=some k'/\(k=k'∨(k'= .free/\k= .cell))
 | [],_,_,h=>by simp at h
 | (n,k)::r,x,kk,h=>by
   have ih:=@d9 env r x kk
   replace h:List.lookup x ((if (k==NameKind.free&&env.scope.kind== .function&&env.kindOf n==some .cell)=true then (n,NameKind.cell) else (n,k))::_)=some kk:=h
   by_cases hc:(k==NameKind.free&&env.scope.kind== .function&&env.kindOf n==some .cell)=true
   ·rw [if_pos hc] at h
    cases hx:x==n with
    | true=>
      simp only [List.lookup_cons,hx,Option.some.injEq] at h ⊢
      have hk:k= .free:=by
       simp only [Bool.and_eq_true] at hc
       exact eq_of_beq hc.1.1
      exact ⟨k,rfl,.inr ⟨hk,h.symm⟩⟩
    | false=>
      simp only [List.lookup_cons,hx] at h ⊢
      exact ih h
   ·rw [if_neg hc] at h
    cases hx:x==n with
    | true=>
      simp only [List.lookup_cons,hx,Option.some.injEq] at h ⊢
      exact ⟨k,rfl,.inl h.symm⟩
    | false=>
      simp only [List.lookup_cons,hx] at h ⊢
      exact ih h
theorem ik {env:Env}(hf:env.scope.kind= .function):∀{names:List (Str×NameKind)} {x:Str},names.lookup x=some .free->env.kindOf x=some .cell->
 (names.map λ(n,k)=>if (k==NameKind.free&&env.scope.kind== .function&&env.kindOf n==some .cell) then (n,NameKind.cell) else (n,k)).lookup x=some .cell
 | [],_,h,_=>by simp at h
 | (n,k)::r,x,h,hk=>by
   have ih:=@ik env hf r x
   show List.lookup x ((if (k==NameKind.free&&env.scope.kind== .function&&env.kindOf n==some .cell)=true then (n,NameKind.cell) else (n,k))::_)=_
   cases hx:x==n with
   | true=>
     simp only [List.lookup_cons,hx,Option.some.injEq] at h
     have e:x=n:=eq_of_beq hx
     subst e
     subst h
     rw [if_pos (by rw [hf,hk];rfl)]
     simp [List.lookup_cons]
   | false=>
     simp only [List.lookup_cons,hx] at h
     split
     ·simp only [List.lookup_cons,hx];exact ih h hk
     ·simp only [List.lookup_cons,hx];exact ih h hk
def cM (own:List Str)(ix:List Nat)(σ:St):St:=List.replicate own.length none++ix.map λi=>(σ[i]?).join
structure Off (X:Cx) (pins:List (Addr×Obj)) (H:Hp) (s:Shared) (C:Addr):Prop where
 ns:∃m,s.heap.Ns C m
 free:H C=none
 ne:C≠X.env.locals
 young:X.s₀.heap.objs.size<=C
 cell:∀x c,X.env.cells.lookup x=some c->c≠C
 pin:∀p∈X.pn++pins,p.1≠C
theorem lg {own:List Str}
 {use:Option (Value->Sem Unit)} {Qf:Value->Shared->Prop} {pins:List (Addr×Obj)} {σ:St} {H:Hp} {Q:VK}
 (hc:X.calm=true) (S:cf X scope cl own fr ix) (hi:PI X target iter wi)
 (hb:∀(C:Addr) (s:Shared) (H:Hp) (ex:List Addr),PG (aq X scope cl C (own++fr) s H ex) target g/\PF (aq X scope cl C (own++fr) s H ex) ifs tc/\PE (aq X scope cl C (own++fr) s H ex) elt te)
 (hs:∀x,foldedSetIterable iter X.env x=pure x) (I:Inv X pins σ H s) (h:pP wi g tc te (cM own ix) σ H Q)
 (hfin:∀(D C:Addr) (H6:Hp) (s6:Shared),Inv X pins σ H6 s6->Off X pins H6 s6 C->Q (.ref D) H6->compPost (model X.prog X.w) X.A X.xe use Qf (.ref D) C (.ok .next) s6):
 wpAny (model X.prog X.w) X.A (comprehension (.ListComp elt [⟨target,iter,ifs,0⟩] scope pos) scope X.env (firstIterPos [⟨target,iter,ifs,0⟩] pos) (newList []) false (eval iter X.env) use) Qf X.xe s:=by
 refine wpAny_comprehension_free (use:=use) rfl hs S.clos S.kind S.names ?_
 refine aG (hi pins s σ H _ I h) λv s1 h1=>aG h1 λitv s2 h2=>?_
 obtain ⟨it,fp,tn,J,H2,rfl,I2,T,st2,f2,W,⟨m0,w0⟩,turn⟩:=h2
 refine wpAny_newObj_type (wpAny_newFunctionEnv S.ncell (by intro y hy;simp at hy) (λh₁ hns₁ hsb₁=>?_) S.kind)
 dsimp only at hns₁ hsb₁ ⊢
 generalize hH3:s2.heap.push {cls:=.type "list",dict:=none,data:=.seq ([]:List Value).toArray}=h3 at hns₁ hsb₁ ⊢
 have hC:h3.objs.size=s2.heap.objs.size + 1:=by rw [← hH3,Heap.size_push]
 have to3:∀b o,s2.heap.get? b=some o->h3.get? b=some o:=λb o e=>by rw [← hH3];exact Heap.get?_push_of_some _ e
 have getD3:h3.get? s2.heap.objs.size=some {cls:=.type "list",data:=.seq ([]:List Value).toArray}:=by rw [← hH3];exact Heap.get?_push_size _ rfl
 have to1:∀b o,h3.get? b=some o->h₁.get? b=some o:=λb o e=>hsb₁.extBut b o (Nat.ne_of_lt (Heap.lt_size e)) (Heap.get?_push_of_some _ e)
 have frD:∀{b:Addr},b∈fp->b≠s2.heap.objs.size:=λ{b} hb z=>by
  obtain ⟨o,e,_⟩:=T.obj 0 _ st2 b hb
  exact absurd (Heap.lt_size e) (by rw [z];exact Nat.lt_irrefl _)
 have frC:∀{b:Addr},b∈fp->b≠h3.objs.size:=λ{b} hb z=>by
  obtain ⟨o,e,_⟩:=T.obj 0 _ st2 b hb
  exact absurd (Heap.lt_size e) (by rw [z,hC];exact Nat.not_lt.mpr (Nat.le_succ _))
 have HD2:H2 s2.heap.objs.size=none:=I2.hok.fresh (Nat.le_refl _)
 -- the block's context
 let X':Cx:=aq X scope cl h3.objs.size (own++fr) {s2 with heap:=h3} H2 (s2.heap.objs.size::fp)
 have ok':X'.Ok:=by
  refine ⟨I2.ok.mod,S.kind,I2.ok.glob,I2.ok.blt,Nat.le_refl _,λx y c e1 e2=>I2.ok.inj x y c (S.cells x c e1) (S.cells y c e2),λx hx=>?_,λx c z=>?_,I2.ok.hd,I2.ok.frames,.inl rfl,λb hb=>?_,λb o e=>?_,?_,λb o e hb=>?_,λb hb z=>?_,?_,I2.n4⟩
  ·have key:scope.names.lookup x=some .free:=by
    have hx:(relabel scope X.env).names.lookup x=some .cell∨(relabel scope X.env).names.lookup x=some .free:=hx
    rcases hx with hx | hx
    ·obtain ⟨k',e,z⟩:=d9 hx
     rcases z with z | z
     ·subst z;exact absurd rfl (S.ncell _ (PySem.mem_of_lookup e))
     ·rw [e,z.1]
    ·obtain ⟨k',e,z⟩:=d9 hx
     rcases z with z | z
     ·subst z;exact e
     ·cases z.2
   exact S.has x key
  ·cases z
  ·rcases List.mem_cons.mp hb with rfl | hb
   ·refine ⟨by rw [show X'.env.locals=h3.objs.size from rfl,hC];exact Nat.ne_of_lt (Nat.lt_succ_self _),λx c e z=>?_⟩
    obtain ⟨v',q⟩:=I2.cell x c (S.cells x c e)
    exact absurd q.lt (by rw [z];exact Nat.lt_irrefl _)
   ·exact ⟨frC hb,λx c e=>(f2 b hb).2.2.2.2.1 x c (S.cells x c e)⟩
  ·obtain ⟨e1,e2⟩:=I2.bs b o e
   exact ⟨to3 b o e1,e2⟩
  ·show X.base.objs.size<=h3.objs.size
   have:=I2.ok.bsz;have:=I2.sz
   omega
  ·rcases List.mem_cons.mp hb with rfl | hb
   ·exact absurd (Heap.lt_size (I2.bs _ o e).1) (Nat.lt_irrefl _)
   ·rcases (f2 b hb).2.2.2.1 with z | z
    ·exact I2.ok.noex b o e z
    ·exact absurd (Nat.lt_of_lt_of_le (Nat.lt_of_lt_of_le (Heap.lt_size e) I2.ok.bsz) z) (Nat.lt_irrefl _)
  ·replace z:b∈gu X.stack:=z
   rcases List.mem_cons.mp hb with rfl | hb
   ·obtain ⟨_,o,ho,_⟩:=I2.stack.mem z
    exact absurd (Heap.lt_size ho) (Nat.lt_irrefl _)
   ·rcases List.mem_cons.mp (I2.mE b z) with q | q
    ·exact (f2 b hb).2.1 q
    ·exact (f2 b hb).2.2.1 q
  ·exact I2.stack.of_keeps λb o e _=>⟨o,to3 b o e,rfl⟩
 have I4:Inv X' [] (cM own ix σ) H2 {s2 with heap:=h₁,toks:=s2.toks + ([]:List (Str×Value)).length}:=by
  refine ⟨ok',rfl,I2.bare,Un.kept to1,⟨_,hns₁,λi x v e1 e2 e3=>?_⟩,λx c e=>?_,I2.hok.fresh (by show s2.heap.objs.size<=h3.objs.size;rw [hC];exact Nat.le_succ _),λx c e=>I2.freeC x c (S.cells x c e),λp hp=>absurd (show p∈([]:List (Addr×Obj)) from hp) (by simp),I2.hok.kept λb o e=>to1 b o (to3 b o e),?_⟩
  ·replace e1:(own++fr)[i]?=some x:=e1
   unfold cM at e2
   by_cases hlt:i < own.length
   ·rw [List.getElem?_append_left (by simpa using hlt),List.getElem?_replicate] at e2
    split at e2<;>cases e2
   ·rw [List.getElem?_append_right (by simpa using hlt)] at e1 e2
    rw [List.length_replicate,List.getElem?_map] at e2
    cases ek:ix[i - own.length]? with
    | none=>rw [ek] at e2;cases e2
    | some j=>
      rw [ek] at e2
      obtain ⟨n1,n2⟩:=S.at_ _ j x ek e1
      have e2':σ[j]?=some (some v):=by
       have q:(σ[j]?).join=some v:=Option.some.inj e2
       cases es:σ[j]? with
       | none=>rw [es] at q;cases q
       | some o=>rw [es] at q;exact congrArg some q
      obtain ⟨m,hn,hl⟩:=I2.loc
      obtain ⟨u,r,l⟩:=hl j x v n1 e2' (.inr (.inl n2))
      refine ⟨u,r,?_⟩
      have hfr:scope.names.lookup x=some .free:=S.frees x (List.mem_of_getElem? e1)
      rcases l with ⟨k,_⟩ | ⟨_,c,hcl,z⟩
      ·rw [n2] at k;cases k
      ·obtain ⟨c',hc'⟩:=S.has x hfr
       have q:=S.cells x c' hc'
       rw [hcl] at q
       cases q
       obtain ⟨oc,ho,hd⟩:=z
       exact .inr ⟨.inl (ik I2.ok.kind hfr n2),c,hc',oc,to1 _ _ (to3 _ _ ho),hd⟩
  ·obtain ⟨v',oc,ho,hd⟩:=I2.cell x c (S.cells x c e)
   exact ⟨v',oc,to1 _ _ (to3 _ _ ho),hd⟩
  ·show (cM own ix σ).length=(own++fr).length
   unfold cM
   rw [List.length_append,List.length_append,List.length_replicate,List.length_map,S.len]
 obtain ⟨hg,hf,he⟩:=hb h3.objs.size {s2 with heap:=h3} H2 (s2.heap.objs.size::fp)
 have hg:PG X' target g:=hg
 have hf:PF X' ifs tc:=hf
 have he:PE X' elt te:=he
 have locX:X'.env.locals=h3.objs.size:=rfl
 -- D's place
 have Dne:s2.heap.objs.size≠X'.env.locals:=by rw [locX,hC];exact Nat.ne_of_lt (Nat.lt_succ_self _)
 have Dfs:s2.heap.objs.size∉X'.fs:=ok'.exfs _ (List.mem_cons_self ..)
 have Dcl:∀x c,X'.env.cells.lookup x=some c->c≠s2.heap.objs.size:=λx c e=>(ok'.exf _ (List.mem_cons_self ..)).2 x c e
 have fpX:∀{pl:List (Addr×Obj)} {H':Hp},(∀p∈pl,p.1=s2.heap.objs.size)->(∀b∈fp,H' b=none)->∀b∈fp,gH X' pl H' b:=λhp hn b hb=>
  ⟨hn b hb,frC hb,ok'.exfs b (List.mem_cons_of_mem _ hb),.inl (List.mem_cons_of_mem _ hb),(ok'.exf b (List.mem_cons_of_mem _ hb)).2,λp q=>by
   rw [hp p (by simpa [show X'.pn=[] from rfl] using q)];exact Ne.symm (frD hb)⟩
 have pinD:∀{σ':St} {H':Hp} {s':Shared} {o:Obj},Inv X' [] σ' H' s'->s'.heap.get? s2.heap.objs.size=some o->H' s2.heap.objs.size=none->(∀v,o.data≠ .cell v)->Inv X' [(s2.heap.objs.size,o)] σ' H' s':=λI e n d=>
  I.fb λp hp=>by
    obtain rfl:=List.mem_singleton.mp hp
    exact ⟨e,n,Dne,Dfs,d⟩
 have loop:codeAny (model X.prog X.w) X.A (.compLoop (.ListComp elt [⟨target,iter,ifs,0⟩] scope pos) 0 (.ref it) (.ref s2.heap.objs.size) X'.env)
  (compPost (model X.prog X.w) X.A X.xe use Qf (.ref s2.heap.objs.size) h3.objs.size) {s2 with heap:=h₁,toks:=s2.toks + ([]:List (Str×Value)).length}:=by
  refine mT (λn s'=>∃i ys its k σ' H',Inv X' [] σ' H' s'/\tn i s'.heap/\(∀b∈fp,H' b=none)/\H' s2.heap.objs.size=none/\Vals ys its/\s'.heap.get? s2.heap.objs.size=some {cls:=.type "list",data:=.seq its.toArray k}/\W i n ys σ' H')
   ?_ m0 ⟨0,[],[],0,_,H2,I4,T.keep 0 _ _ st2 λb _ o e=>to1 b o (to3 b o e),λb hb'=>(f2 b hb').1,HD2,.nil,to1 _ _ getD3,w0⟩
  rintro n s5 ⟨i,ys,its,k,σ5,H5,I5,st5,fr5,hD5,vs5,get5,w5⟩
  obtain ⟨hlen,alt⟩:=turn i n ys σ5 H5 w5
  have P5:=pinD I5 get5 hD5 (λv z=>by cases z)
  have okp:∀p∈[(s2.heap.objs.size,({cls:=.type "list",data:=.seq its.toArray k}:Obj))],p.1=s2.heap.objs.size:=λp hp=>by
   rw [List.mem_singleton.mp hp]
  rcases alt with ⟨stop,q⟩ | ⟨go,step⟩
  ·refine aG (T.done X' rfl rfl rfl hc i _ s5 σ5 H5 _ P5 (fpX okp fr5) st5 stop) λr s6 ⟨hr,I6⟩=>?_
   subst hr
   obtain ⟨m6,hn6,_⟩:=I6.loc
   obtain ⟨get6,_,_,_,_⟩:=I6.pin (s2.heap.objs.size,({cls:=.type "list",data:=.seq its.toArray k}:Obj)) (List.mem_append_right _ (List.mem_singleton.mpr rfl))
   have toh:∀b o,b≠h3.objs.size->s6.heap.get? b=some o->s6.heap.get? b=some o:=λb o hb e=>e
   have exn:∀{b:Addr} {o:Obj},s2.heap.get? b=some o->b∉fp->b∉X'.ex:=λ{b o} e hb z=>by
    rcases List.mem_cons.mp z with z | z
    ·exact absurd (Heap.lt_size e) (by rw [z];exact Nat.lt_irrefl _)
    ·exact hb z
   have neC:∀{b:Addr} {o:Obj},s2.heap.get? b=some o->b≠h3.objs.size:=λ{b o} e z=>by
    have q1:=Heap.lt_size e
    rw [z,hC] at q1
    exact absurd q1 (Nat.not_lt.mpr (Nat.le_succ _))
   have neD:∀{b:Addr} {o:Obj},s2.heap.get? b=some o->b≠s2.heap.objs.size:=λ{b o} e=>Nat.ne_of_lt (Heap.lt_size e)
   have neD':∀{b:Addr} {o:HO},H2 b=some o->b≠s2.heap.objs.size:=λ{b o} e=>bV e HD2
   have U:Un (gu X.stack) fp H2 (upd H5 s2.heap.objs.size (.lst ys)) s2.heap s6.heap:=by
    refine ⟨λb o e n hb hx=>?_,λb o e n hb hx=>?_,λb o e n hx=>?_,λb o e hx=>?_,λb xs e=>?_,λb o u e=>?_,λb ps e=>?_⟩
    ·exact toh b o (neC e) (I6.base.keep b o (to3 b o e) n hb (exn e hx))
    ·obtain ⟨sl,q1⟩:=I6.base.slot b o (to3 b o e) n hb (exn e hx)
     exact ⟨sl,toh b _ (neC e) q1⟩
    ·rw [ay (neD e)]
     exact I6.base.free b o (to3 b o e) n (exn e hx)
    ·obtain ⟨o',q1⟩:=I6.base.there b o (to3 b o e) (exn e hx)
     exact ⟨o',toh b _ (neC e) q1⟩
    ·rw [ay (neD' e)];exact I6.base.tups b xs e
    ·rw [ay (neD' e)];exact I6.base.frzs b o u e
    ·rw [ay (neD' e)];exact I6.base.tbls b ps e
   have HC:H5 h3.objs.size=none:=I6.free
   have hok:cJ X.prog X.w (upd H5 s2.heap.objs.size (.lst ys)) s6.heap:=λb u e=>by
    by_cases hbD:b=s2.heap.objs.size
    ·subst hbD
     rw [ar] at e
     cases e
     exact ⟨hlen,its,k,vs5,toh _ _ (by rw [hC];exact Nat.ne_of_lt (Nat.lt_succ_self _)) get6⟩
    ·rw [ay hbD] at e
     refine (I6.hok b u e).ic (λc o hco q1=>toh c o (λz=>?_) q1) (λc q1=>by rw [ay (bV q1 hD5)];exact q1) λc xs q1=>by rw [ay (bV q1 hD5)];exact q1
     rcases hco with hco | hco
     ·rw [← hco,z,HC] at e;cases e
     ·rw [z,HC] at hco;cases hco
   have fin:=I2.AV (s':=s6) (ch:=fp) I6.os U hok I6.bare λb hb'=>⟨(f2 b hb').2.2.2.1,(f2 b hb').2.1,(f2 b hb').2.2.2.2.1,(f2 b hb').2.2.2.2.2⟩
   refine hfin _ h3.objs.size _ s6 fin ⟨⟨m6,hn6⟩,?_,?_,?_,λx c e z=>?_,λp hp z=>?_⟩ (q _ hD5)
   ·rw [ay (by rw [hC];exact Nat.ne_of_gt (Nat.lt_succ_self _))];exact HC
   ·intro z
    have:=I2.lt
    rw [← z,hC] at this
    exact absurd this (Nat.not_lt.mpr (Nat.le_succ _))
   ·rw [hC];exact Nat.le_trans I2.sz (Nat.le_succ _)
   ·obtain ⟨v',q1⟩:=I2.cell x c e
    have:=q1.lt
    rw [z,hC] at this
    exact absurd this (Nat.not_lt.mpr (Nat.le_succ _))
   ·have:=Heap.lt_size (I2.pin p hp).1
    rw [z,hC] at this
    exact absurd this (Nat.not_lt.mpr (Nat.le_succ _))
  ·refine aG (T.item X' rfl rfl rfl hc i _ s5 σ5 H5 _ P5 (fpX okp fr5) st5 go) λr s6 ⟨u,hr,h6⟩=>?_
   subst hr
   refine aG h6 λ_ s7 ⟨x,H7,I7,r7,y7,st7,fr7⟩=>?_
   have I7':=I7.pinned (fpX okp fr7) (T.obj _ _ st7)
   refine aG (hg _ s7 σ5 H7 x u _ I7' r7 (step x H7 y7)) λ_ s8 ⟨σ8,H8,I8,q8⟩=>?_
   refine aG (hf _ s8 σ8 H8 _ I8 q8) λb s9 ⟨H9,I9,q9⟩=>?_
   have out:∀{σ':St} {H':Hp} {s':Shared},Inv X' ([(s2.heap.objs.size,({cls:=.type "list",data:=.seq its.toArray k}:Obj))]++gf fp s7.heap) σ' H' s'->
    tn (i + 1) s'.heap/\(∀b∈fp,H' b=none)/\H' s2.heap.objs.size=none/\s'.heap.get? s2.heap.objs.size=some {cls:=.type "list",data:=.seq its.toArray k}:=λI'=>by
    refine ⟨T.keep _ _ _ st7 λb hb' o e=>(I'.pin (b,o) (List.mem_append_right _ (List.mem_append_right _ (e6 hb' e)))).1,λb hb'=>?_,(I'.pin (s2.heap.objs.size,({cls:=.type "list",data:=.seq its.toArray k}:Obj)) (List.mem_append_right _ (List.mem_append_left _ (List.mem_singleton.mpr rfl)))).2.1,(I'.pin (s2.heap.objs.size,({cls:=.type "list",data:=.seq its.toArray k}:Obj)) (List.mem_append_right _ (List.mem_append_left _ (List.mem_singleton.mpr rfl)))).1⟩
    obtain ⟨o,e,d⟩:=T.obj _ _ st7 b hb'
    exact (I'.pin (b,o) (List.mem_append_right _ (List.mem_append_right _ (e6 hb' e)))).2.1
   cases b with
   | false=>
     rw [if_neg Bool.false_ne_true] at q9 ⊢
     obtain ⟨m',hm,w'⟩:=q9
     obtain ⟨o1,o2,o3,o4⟩:=out I9
     exact ⟨m',hm,i + 1,ys,its,k,σ8,H9,I9.fb (λ_ z=>nomatch z),o1,o2,o3,vs5,o4,w'⟩
   | true=>
     rw [if_pos rfl] at q9 ⊢
     refine aG (he _ s9 σ8 H9 _ I9 q9) λuv s10 ⟨v10,H10,I10,r10,q10⟩=>?_
     obtain ⟨m',hm,w'⟩:=q10
     obtain ⟨o1,o2,o3,o4⟩:=out I10
     refine wpAny_list_append_plain ⟨k,o4⟩ (λh' hpl hsb=>?_) (by
      have:=vs5.length
      rw [List.size_toArray,← this];exact hlen)
     obtain ⟨k',hk'⟩:=hpl
     have I11:Inv X' (gf fp s7.heap) σ8 H10 s10:=I10.fb λp hp=>I10.pin p (List.mem_append_right _ (List.mem_append_right _ hp))
     have I12:Inv X' [] σ8 H10 {s10 with heap:=h'}:=(I10.fb (λ_ z=>nomatch z):Inv X' [] σ8 H10 s10).turned (t':=s10.toks) (λb o hb' e=>hsb.extBut b o hb' e) o3 Dne (.inl (List.mem_cons_self ..)) Dcl (λp hp=>absurd (show p∈([]:List (Addr×Obj)) from hp) (by simp))
     refine ⟨m',hm,i + 1,ys++[v10],its++[uv],k',σ8,H10,I12,T.keep _ _ _ o1 λb hb' o e=>hsb.extBut b o (frD hb') e,o2,o3,vs5.append (.cons r10 .nil),?_,w'⟩
     show h'.get? _=_
     rw [hk']
     simp
 exact codeAny_compStart_list loop (T.self X.A 0 _ _ _ (T.keep 0 _ _ st2 λb _ o e=>to1 b o (to3 b o e)) loop)
theorem Off.gone {pins:List (Addr×Obj)}{σ:St}{H:Hp}{C:Addr}{h':Heap}(o:Off X pins H s C)(I:Inv X pins σ H s)(hsb:Heap.SameBut C s.heap h'):Inv X pins σ H {s with heap:=h'}:=
 I.turned (t':=s.toks) (λb u hb e=>hsb.extBut b u hb e) o.free o.ne (.inr o.young) o.cell o.pin
theorem iJ {own:List Str}
 (hc:X.calm=true) (S:cf X scope cl own fr ix) (hi:PI X target iter wi)
 (hb:∀(C:Addr) (s:Shared) (H:Hp) (ex:List Addr),PG (aq X scope cl C (own++fr) s H ex) target g/\PF (aq X scope cl C (own++fr) s H ex) ifs tc/\PE (aq X scope cl C (own++fr) s H ex) elt te)
 (hs:∀x,foldedSetIterable iter X.env x=pure x:=by intro _;rfl):
 PE X (.ListComp elt [⟨target,iter,ifs,0⟩] scope pos) (pP wi g tc te (cM own ix)):=by
 intro pins s σ H Q I h
 rw [eval_ListComp]
 refine lg (use:=none) hc S hi hb hs I h λD C H6 s6 I6 o6 q=>?_
 obtain ⟨m,hn⟩:=o6.ns
 exact ⟨m,hn,λh' hsb=>⟨.ref D,H6,o6.gone I6 hsb,rfl,q⟩⟩
theorem gQ {i:Nat}{y:Str}{py spos:Pos}{own:List Str}
 (hsw:swapsWith (.ListComp elt [⟨target,iter,ifs,0⟩] scope pos) (some (.Name y py)) spos.line X.env=pure true)
 (hN:X.N.Nodup) (hi':X.N[i]?=some y) (hx:Loc X.env.scope y)
 (hc:X.calm=true) (S:cf X scope cl own fr ix) (hi:PI X target iter wi)
 (hb:∀(C:Addr) (s:Shared) (H:Hp) (ex:List Addr),PG (aq X scope cl C (own++fr) s H ex) target g/\PF (aq X scope cl C (own++fr) s H ex) ifs tc/\PE (aq X scope cl C (own++fr) s H ex) elt te)
 (hs:∀x,foldedSetIterable iter X.env x=pure x:=by intro _;rfl)
 (hf:X.fn y=true∨X.env.scope.names.lookup y=some .local:=by first | exact .inl rfl | exact .inr rfl | assumption):
 PS X (.Assign [.Name y py] (.ListComp elt [⟨target,iter,ifs,0⟩] scope pos) spos) (t9 (pP wi g tc te (cM own ix)) (lZ i)):=by
 intro pins s σ H D I h
 rw [exec_Assign_Name_used _ _ _ _ hsw]
 refine wpAny_bind (wpAny_standAt (wpAny_bind ?_))
 show wpAny _ _ (do let _ ← comprehension (.ListComp elt [⟨target,iter,ifs,0⟩] scope pos) scope X.env _ (newList []) false (eval iter X.env) (some (assign (.Name y py) X.env))) _ _ s
 refine wpAny_bind (wpAny_mono (lg (use:=some (assign (.Name y py) X.env)) (Qf:=λ_ s'=>SP X pins D .next s') hc S hi hb hs I h λA C H6 s6 I6 o6 q=>?_) (λ_ s' hq=>wpAny_pure (wpAny_pure hq)) λ_ _ e=>e)
 show wpAny _ _ (assign (.Name y py) X.env (.ref A)) _ _ _
 refine wpAny_assign_Name (k9 I6 hN hi' hx (v:=.ref A) rfl (λs7 I7 hw=>?_) hf)
 obtain ⟨c,hsb7,hcc⟩:=hw
 have neC:C≠c:=by
  rcases hcc with rfl | hcc
  ·exact o6.ne
  ·exact Ne.symm (o6.cell y c hcc)
 obtain ⟨m,hn⟩:=o6.ns
 have o7:Off X pins H6 s7 C:=⟨⟨m,hn.sameBut hsb7 neC⟩,o6.free,o6.ne,o6.young,o6.cell,o6.pin⟩
 exact ⟨m,hn.sameBut hsb7 neC,λh' hsb=>⟨_,H6,o7.gone I7 hsb,q⟩⟩
end
end L2
namespace Fc
open PySem PySem.Spec L2
open PyProof.Rows hiding St
section
variable {X:Cx}
variable {e:Expr}{σ:St}{H:Hp}{t:TT}{Q:Bool->Hp->Prop}
def cN (X:Cx)(e:Expr):TE:=λσ H Q=>∀(pins:List (Addr×Obj)) (s:Shared),Inv X pins σ H s->wpAny (model X.prog X.w) X.A (eval e X.env) (EP X pins σ Q) X.xe s
def uc (X:Cx)(e:Expr):TT:=λσ H Q=>∀(pins:List (Addr×Obj)) (s:Shared),Inv X pins σ H s->wpAny (model X.prog X.w) X.A (isTrue e X.env (eval e X.env)) (TP X pins σ Q) X.xe s
def tK (X:Cx)(e:Expr):TT:=λσ H Q=>∀(whole:Sem Value) (pins:List (Addr×Obj)) (s:Shared),Inv X pins σ H s->wpAny (model X.prog X.w) X.A (isTrue e X.env whole) (TP X pins σ Q) X.xe s
def dX (X:Cx)(e:Expr):TG:=λv σ H Q=>∀(pins:List (Addr×Obj)) (s:Shared) (u:Value),Inv X pins σ H s->RelV v u->wpAny (model X.prog X.w) X.A (assign e X.env u) (λ_ s'=>∃σ' H',Inv X pins σ' H' s'/\Q σ' H') X.xe s
def uB (X:Cx)(st:Stmt):TS:=λD σ H=>∀(pins:List (Addr×Obj)) (s:Shared),Inv X pins σ H s->wpAny (model X.prog X.w) X.A (exec st X.env) (SP X pins D) X.xe s
def l5 (X:Cx)(st:List Stmt):TS:=λD σ H=>∀(pins:List (Addr×Obj)) (s:Shared),Inv X pins σ H s->wpAny (model X.prog X.w) X.A (execs st X.env) (SP X pins D) X.xe s
def oX (X:Cx)(es:List Expr):TA:=λσ H Q=>∀(pos:Pos) (pins:List (Addr×Obj)) (s:Shared),Inv X pins σ H s->wpAny (model X.prog X.w) X.A (spliced (backTo pos (starEach es X.env))) (AP X pins σ Q) X.xe s
def eC (X:Cx)(ifs:List Expr):TT:=λσ H Q=>∀(pins:List (Addr×Obj)) (s:Shared),Inv X pins σ H s->
 wpAny (model X.prog X.w) X.A (forIn ifs true λc r=>if r=true then do let ok ← isTrue c X.env (eval c X.env);pure (ForInStep.yield ok) else pure (ForInStep.yield r)) (TP X pins σ Q) X.xe s
theorem aD:PE X e (cN X e):=λpins s _ _ _ I h=>h pins s I
theorem iS:PT X e (uc X e):=λpins s _ _ _ I h=>h pins s I
theorem uN:PW X e (tK X e):=λwh pins s _ _ _ I h=>h wh pins s I
theorem vd:PG X e (dX X e):=λpins s _ _ _ u _ I r h=>h pins s u I r
theorem A8 {e:Stmt}:PS X e (uB X e):=λpins s _ _ _ I h=>h pins s I
theorem fq {e:List Stmt}:fg X e (l5 X e):=λpins s _ _ _ I h=>h pins s I
theorem lN {e:List Expr}:PA X e (oX X e):=λpos pins s _ _ _ I h=>h pos pins s I
theorem eS {t:TE}(h:PE X e t){Q:VK}(q:t σ H Q):cN X e σ H Q:=λpins s I=>h pins s σ H Q I q
theorem tS (h:PT X e t)(q:t σ H Q):uc X e σ H Q:=λpins s I=>h pins s σ H Q I q
theorem wS (h:PW X e t)(q:t σ H Q):tK X e σ H Q:=λwh pins s I=>h wh pins s σ H Q I q
theorem gS {t:TG}(h:PG X e t){v:V}{Q:St->Hp->Prop}(q:t v σ H Q):dX X e v σ H Q:=λpins s u I r=>h pins s σ H v u Q I r q
theorem sS {e:Stmt}{t:TS}(h:PS X e t){D:Ends}(q:t D σ H):uB X e D σ H:=λpins s I=>h pins s σ H D I q
theorem w6 {e:List Stmt}{t:TS}(h:fg X e t){D:Ends}(q:t D σ H):l5 X e D σ H:=λpins s I=>h pins s σ H D I q
theorem aS {e:List Expr}{t:TA}(h:PA X e t){Q:List V->Hp->Prop}(q:t σ H Q):oX X e σ H Q:=λpos pins s I=>h pos pins s σ H Q I q
theorem fS {e:List Expr}(h:PF X e t)(q:t σ H Q):eC X e σ H Q:=λpins s I=>h pins s σ H Q I q
end
section
variable {H R:Hp}{p:Addr}{α:Type}
theorem aj.fresh (h:H p=none)(o:HO):aj H (upd H p o):=λb u q=>by rw [ay (bV q h)];exact q
structure Rep (α:Type) where
 R:PySem.W.Frag->Hp->V->α->Prop
 mono:∀{K:PySem.W.Frag} {H H':Hp} {v:V} {x:α},aj H H'->R K H v x->R K H' v x
def ab:Rep Int:=⟨λ_ _ v x=>v= .int x,λ_ h=>h⟩
def aF:Rep Bool:=⟨λ_ _ v x=>v= .bl x,λ_ h=>h⟩
theorem Paired.map {β:Type}{F G:α->β->Prop}(f:∀a b,F a b->G a b):∀{l:List α} {m:List β},PySem.Paired F l m->PySem.Paired G l m
 | _,_,.nil=>.nil
 | _,_,.cons h t=>.cons (f _ _ h) (Paired.map f t)
def ae (r:Rep α):Rep (List α):=⟨λK H v xs=>∃a vs,v= .ref a/\H a=some (.lst vs)/\PySem.Paired (r.R K H) vs xs/\xs.length<=sizeLine,
 λs ⟨a,vs,e,q,p,z⟩=>⟨a,vs,e,s _ _ q,Paired.map (λ_ _=>r.mono s) p,z⟩⟩
def fO:Rep (List Int):=⟨λK H v xs=>∃a,v= .ref a/\aH K H a (xs.map V.int)/\xs.length<=63,λs ⟨a,e,q,z⟩=>⟨a,e,s.seq q,z⟩⟩
def az {β:Type}(r:Rep α)(r':Rep β):Rep (α×β):=⟨λK H v x=>∃a v1 v2,v= .ref a/\H a=some (.tup [v1,v2])/\r.R K H v1 x.1/\r'.R K H v2 x.2,
 λs ⟨a,v1,v2,e,q,h1,h2⟩=>⟨a,v1,v2,e,s _ _ q,r.mono s h1,r'.mono s h2⟩⟩
abbrev Row:=Int×Int×Int×Int
def aB:Rep Row:=⟨λK H v x=>∃a,v= .ref a/\H a=some (.tup [.int x.1,.int x.2.1,.int x.2.2.1,.int x.2.2.2]),λs ⟨a,e,q⟩=>⟨a,e,s _ _ q⟩⟩
abbrev aN:=List Int×List Row
def bZ:Rep aN:=az (ae ab) (ae aB)
structure Ext (H R H' R':Hp):Prop where
 h:aj H H'
 r:aj R R'
 s:aj R' H'
 old:∀b,H b≠none->R' b=R b
theorem Ext.refl (s:aj R H):Ext H R H R:=⟨aj.refl _,aj.refl _,s,λ_ _=>rfl⟩
theorem aj.some {H':Hp}(s:aj H H'){b:Addr}(h:H b≠none):H' b≠none:=by
 cases q:H b with
 | none=>exact absurd q h
 | some o=>rw [s b o q];exact Option.some_ne_none o
theorem Ext.trans {H1 R1 H2 R2:Hp}(a:Ext H R H1 R1)(b:Ext H1 R1 H2 R2):Ext H R H2 R2:=
 ⟨a.h.trans b.h,a.r.trans b.r,b.s,λc hc=>(b.old c (aj.some a.h hc)).trans (a.old c hc)⟩
theorem Ext.fresh (s:aj R H)(h:H p=none)(o:HO):Ext H R (upd H p o) (upd R p o):=
 ⟨aj.fresh h o,aj.fresh (s.free h) o,λb u q=>by
  by_cases e:b=p
  ·subst e;rw [ar] at q ⊢;exact q
  ·rw [ay e] at q ⊢;exact s b u q,λb hb=>ay λe=>hb (e▸h)⟩
theorem Ext.bW (s:aj R H)(h:H p=none)(o:HO):Ext H R (upd H p o) R:=
 ⟨aj.fresh h o,aj.refl _,s.trans (aj.fresh h o),λ_ _=>rfl⟩
structure g9:Type 1 where
 fp:List Addr
 R:PySem.W.Frag->Hp->Hp->V->Prop
 loc:∀{K:PySem.W.Frag} {H R0 H' R':Hp} {v:V},(∀a∈fp,H' a=H a)->aj R0 R'->R K H R0 v->R K H' R' v
 has:∀{K:PySem.W.Frag} {H R0:Hp} {v:V},R K H R0 v->∀a∈fp,H a≠none
inductive Ent:Type 1
 | no
 | im {α:Type} (r:Rep α) (x:α)
 | mu {α:Type} (r:Rep α) (xs:List α)
 | di (kvs:List (Int×V))
 | ob (B:g9)
def cn (kvs:List (Int×V)):List (Key×V):=kvs.map λp=>(Sum.inl p.1,p.2)
def Ent.ok (K:PySem.W.Frag)(H R:Hp):Ent->Option V->Prop
 | .no,_=>True
 | .im r x,o=>∃v,o=some v/\r.R K R v x
 | .mu r xs,o=>∃a vs,o=some (.ref a)/\H a=some (.lst vs)/\R a=none/\PySem.Paired (r.R K R) vs xs
 | .di kvs,o=>∃a,o=some (.ref a)/\H a=some (.dK (cn kvs))/\R a=none
 | .ob B,o=>(∃v,o=some v/\B.R K H R v)/\∀a∈B.fp,R a=none
def Ent.own:Ent->Bool
 | .mu .. =>true
 | .di .. =>true
 | _=>false
def refOf:Option V->List Addr
 | some (.ref a)=>[a]
 | _=>[]
def Ent.fp:Ent->Option V->List Addr
 | .mu ..,o=>refOf o
 | .di ..,o=>refOf o
 | .ob B,_=>B.fp
 | _,_=>[]
abbrev Ga:=List Ent
structure ai (K:PySem.W.Frag) (σ:St) (H0 R0 H R:Hp) (Γ:Ga):Prop where
 ext:Ext H0 R0 H R
 ent:∀(i:Nat) (e:Ent),Γ[i]?=some e->e.ok K H R (σ[i]?).join
 nw:∀(i:Nat) (e:Ent) (a:Addr),Γ[i]?=some e->a∈e.fp (σ[i]?).join->H0 a=none
 ds:∀(i j:Nat) (e e':Ent) (a:Addr),Γ[i]?=some e->Γ[j]?=some e'->a∈e.fp (σ[i]?).join->a∈e'.fp (σ[j]?).join->i=j
 len:Γ.length=σ.length
end
section
variable {K:PySem.W.Frag}{σ:St}{H0 R0 H R H' R':Hp}{Γ:Ga}{α:Type}{r:Rep α}
variable {a:Addr}{o:Option V}{u:HO}{i:Nat}
theorem cG:a∈refOf o↔o=some (.ref a):=by
 unfold refOf
 split
 ·rw [List.mem_singleton];constructor
  ·rintro rfl;rfl
  ·intro e;cases e;rfl
 ·rename_i h
  constructor
  ·intro z;cases z
  ·intro e;exact absurd e (h a)
theorem Ent.kc {e:Ent}(w:e.own=true):a∈e.fp o↔o=some (.ref a):=by
 cases e with
 | no=>cases w
 | im r x=>cases w
 | mu r xs=>exact cG
 | di kvs=>exact cG
 | ob B=>cases w
theorem ai.new (E:ai K σ H0 R0 H R Γ)(i:Nat)(e:Ent)(a:Addr)(h:Γ[i]?=some e)(w:e.own=true)(ha:(σ[i]?).join=some (.ref a)):H0 a=none:=E.nw i e a h ((Ent.kc w).mpr ha)
theorem Ent.cw {e:Ent}(h:e.ok K H R o)(ha:a∈e.fp o):H a≠none/\R a=none:=by
 cases e with
 | no=>cases ha
 | im r x=>cases ha
 | mu r xs=>
   obtain ⟨b,vs,e,q,n,_⟩:=h
   rw [Ent.fp,cG,e] at ha
   cases ha
   exact ⟨by rw [q];exact Option.some_ne_none _,n⟩
 | di kvs=>
   obtain ⟨b,e,q,n⟩:=h
   rw [Ent.fp,cG,e] at ha
   cases ha
   exact ⟨by rw [q];exact Option.some_ne_none _,n⟩
 | ob B=>obtain ⟨⟨v,e,q⟩,n⟩:=h;exact ⟨B.has q a ha,n a ha⟩
theorem Ent.ok.loc {e:Ent}(h:e.ok K H R o)(hH:∀a∈e.fp o,H' a=H a)(hR:aj R R')(hn:∀a∈e.fp o,R' a=none):e.ok K H' R' o:=by
 cases e with
 | no=>trivial
 | im r y=>obtain ⟨v,e,q⟩:=h;exact ⟨v,e,r.mono hR q⟩
 | mu r xs=>
   obtain ⟨a,vs,e,q,n,p⟩:=h
   have ha:a∈Ent.fp (.mu r xs) o:=cG.mpr e
   exact ⟨a,vs,e,(hH a ha).trans q,hn a ha,Paired.map (λ_ _=>r.mono hR) p⟩
 | di kvs=>
   obtain ⟨a,e,q,n⟩:=h
   have ha:a∈Ent.fp (.di kvs) o:=cG.mpr e
   exact ⟨a,e,(hH a ha).trans q,hn a ha⟩
 | ob B=>obtain ⟨⟨v,e,q⟩,n⟩:=h;exact ⟨⟨v,e,B.loc hH hR q⟩,hn⟩
theorem Ent.ok.grow {e:Ent}(h:e.ok K H R o)(x:Ext H R H' R'):e.ok K H' R' o:=by
 refine h.loc (λa ha=>?_) x.r (λa ha=>?_)
 ·cases q:H a with
  | none=>exact absurd q (Ent.cw h ha).1
  | some u=>exact x.h _ _ q
 ·obtain ⟨h1,h2⟩:=Ent.cw h ha
  exact (x.old a h1).trans h2
theorem ai.grow (E:ai K σ H0 R0 H R Γ)(x:Ext H R H' R'):ai K σ H0 R0 H' R' Γ:=
 ⟨E.ext.trans x,λi e h=>(E.ent i e h).grow x,E.nw,E.ds,E.len⟩
theorem ai.sub (E:ai K σ H0 R0 H R Γ):aj R H:=E.ext.s
def Off (a:Addr)(σ:St)(Γ:Ga):Prop:=∀(i:Nat) (e:Ent),Γ[i]?=some e->a∉e.fp (σ[i]?).join
theorem ai.off (E:ai K σ H0 R0 H R Γ)(h:H a=none):Off a σ Γ:=λi e q w=>(Ent.cw (E.ent i e q) w).1 h
theorem set_at.{v}{β:Type v}{l:List β}{i:Nat}{y:β}{j:Nat}{e:β}(q:(l.set i y)[j]?=some e):(j=i/\e=y/\i < l.length)∨(j≠i/\l[j]?=some e):=by
 by_cases hj:j=i
 ·subst hj
  have hl:j < l.length:=by
   have:=List.getElem?_eq_some_iff.mp q
   simpa using this.1
  rw [List.getElem?_set_self hl] at q
  exact .inl ⟨rfl,(Option.some.inj q).symm,hl⟩
 ·rw [List.getElem?_set_ne (Ne.symm hj)] at q
  exact .inr ⟨hj,q⟩
theorem ai.setG (E:ai K σ H0 R0 H R Γ)(i:Nat){v:V}{en:Ent}(ho:en.ok K H R (some v))(h0:∀a∈en.fp (some v),H0 a=none)(hf:∀a∈en.fp (some v),∀(j:Nat) (e:Ent),j≠i->Γ[j]?=some e->a∉e.fp (σ[j]?).join):
 ai K (σ.set i (some v)) H0 R0 H R (Γ.set i en):=by
 have key:∀(j:Nat) (e:Ent),(Γ.set i en)[j]?=some e->(j=i/\e=en/\((σ.set i (some v))[j]?).join=some v)∨(j≠i/\Γ[j]?=some e/\(σ.set i (some v))[j]?=σ[j]?):=λj e q=>by
  rcases set_at q with ⟨rfl,rfl,hl⟩ | ⟨hj,q⟩
  ·exact .inl ⟨rfl,rfl,by rw [List.getElem?_set_self (by rw [← E.len];exact hl)];rfl⟩
  ·exact .inr ⟨hj,q,List.getElem?_set_ne (Ne.symm hj)⟩
 refine ⟨E.ext,λj e q=>?_,λj e a q w=>?_,λj k e e' a q q' w w'=>?_,by rw [List.length_set,List.length_set];exact E.len⟩
 ·rcases key j e q with ⟨_,rfl,q2⟩ | ⟨_,q1,q2⟩
  ·rw [q2];exact ho
  ·rw [q2];exact E.ent j e q1
 ·rcases key j e q with ⟨_,rfl,q2⟩ | ⟨_,q1,q2⟩
  ·rw [q2] at w;exact h0 a w
  ·rw [q2] at w;exact E.nw j e a q1 w
 ·rcases key j e q with ⟨hj,rfl,q2⟩ | ⟨hj,q1,q2⟩
  ·rcases key k e' q' with ⟨hk,rfl,q2'⟩ | ⟨hk,q1',q2'⟩
   ·rw [hj,hk]
   ·rw [q2] at w;rw [q2'] at w';exact absurd w' (hf a w k e' hk q1')
  ·rcases key k e' q' with ⟨hk,rfl,q2'⟩ | ⟨hk,q1',q2'⟩
   ·rw [q2] at w;rw [q2'] at w';exact absurd w (hf a w' j e hj q1)
   ·rw [q2] at w;rw [q2'] at w';exact E.ds j k e e' a q1 q1' w w'
theorem ai.set (E:ai K σ H0 R0 H R Γ)(i:Nat){v:V}{x:α}(h:r.R K R v x):ai K (σ.set i (some v)) H0 R0 H R (Γ.set i (.im r x)):=
 E.setG i ⟨v,rfl,h⟩ (λa w=>by cases w) λa w=>by cases w
theorem ai.du (E:ai K σ H0 R0 H R Γ)(i:Nat){u:HO}{en:Ent}(ho:en.ok K H R (some (.ref a)))(h0:H0 a=none)(hf:∀(j:Nat) (e:Ent),j≠i->Γ[j]?=some e->a∉e.fp (σ[j]?).join)(hfp:en.fp (some (.ref a))=[a]:=by rfl):
 ai K (σ.set i (some (.ref a))) H0 R0 H R (Γ.set i en):=
 E.setG i ho (λb w=>by rw [hfp,List.mem_singleton] at w;rw [w];exact h0) λb w=>by rw [hfp,List.mem_singleton] at w;rw [w];exact hf
theorem ai.l9 (E:ai K σ H0 R0 H R Γ){e0 en:Ent}(hi:Γ[i]?=some e0)(ha:a∈e0.fp (σ[i]?).join)(ho:en.ok K (L2.upd H a u) R (σ[i]?).join)
 (hsub:∀b∈en.fp (σ[i]?).join,b∈e0.fp (σ[i]?).join∨(H0 b=none/\Off b σ Γ)):ai K σ H0 R0 (L2.upd H a u) R (Γ.set i en):=by
 have h0:H0 a=none:=E.nw i e0 a hi ha
 have hR:R a=none:=(Ent.cw (E.ent i e0 hi) ha).2
 refine ⟨⟨λb o q=>?_,E.ext.r,λb o q=>?_,E.ext.old⟩,λj e q=>?_,λj e b q w=>?_,λj k e e' b q q' w w'=>?_,by rw [List.length_set];exact E.len⟩
 ·rw [ay (bV q h0)];exact E.ext.h b o q
 ·rw [ay (bV q hR)];exact E.ext.s b o q
 ·rcases set_at q with ⟨rfl,rfl,_⟩ | ⟨hj,q1⟩
  ·exact ho
  ·refine (E.ent j e q1).loc (λb hb=>ay λz=>hj ?_) (aj.refl _) λb hb=>(Ent.cw (E.ent j e q1) hb).2
   rw [z] at hb
   exact E.ds j i e e0 a q1 hi hb ha
 ·rcases set_at q with ⟨rfl,rfl,_⟩ | ⟨hj,q1⟩
  ·rcases hsub b w with z | z
   ·exact E.nw _ _ b hi z
   ·exact z.1
  ·exact E.nw j e b q1 w
 ·rcases set_at q with ⟨rfl,rfl,_⟩ | ⟨hj,q1⟩
  ·rcases set_at q' with ⟨rfl,rfl,_⟩ | ⟨hk,q1'⟩
   ·rfl
   ·rcases hsub b w with z | z
    ·exact E.ds _ _ _ _ b hi q1' z w'
    ·exact absurd w' (z.2 k e' q1')
  ·rcases set_at q' with ⟨rfl,rfl,_⟩ | ⟨hk,q1'⟩
   ·rcases hsub b w' with z | z
    ·exact E.ds _ _ _ _ b q1 hi w z
    ·exact absurd w (z.2 j e q1)
   ·exact E.ds _ _ _ _ b q1 q1' w w'
theorem ai.upd (E:ai K σ H0 R0 H R Γ){e0 en:Ent}(hi:Γ[i]?=some e0)(w0:e0.own=true)(ha:(σ[i]?).join=some (.ref a))(hR:R a=none)(ho:en.ok K (L2.upd H a u) R (some (.ref a)))(hfp:en.fp (some (.ref a))=[a]:=by rfl):
 ai K σ H0 R0 (L2.upd H a u) R (Γ.set i en):=
 E.l9 hi ((Ent.kc w0).mpr ha) (by rw [ha];exact ho) λb w=>.inl (by rw [ha,hfp,List.mem_singleton] at w;rw [w];exact (Ent.kc w0).mpr ha)
theorem ai.jJ (E:ai K σ H0 R0 H R Γ)(ha:H a=some u)(hR:R a=none)(h0:H0 a=none)(off:Off a σ Γ):ai K σ H0 R0 H (L2.upd R a u) Γ:=by
 have s2:aj R (L2.upd R a u):=aj.fresh hR _
 refine ⟨⟨E.ext.h,E.ext.r.trans s2,λb o qb=>?_,λb hb=>?_⟩,λi e qe=>?_,E.nw,E.ds,E.len⟩
 ·by_cases hb:b=a
  ·subst hb;rw [ar] at qb;cases qb;exact ha
  ·rw [ay hb] at qb;exact E.ext.s b o qb
 ·rw [ay (show b≠a from λe=>hb (by rw [e];exact h0))];exact E.ext.old b hb
 ·refine (E.ent i e qe).loc (λ_ _=>rfl) s2 λb hb=>?_
  rw [ay (show b≠a from λz=>off i e qe (z▸hb))]
  exact (Ent.cw (E.ent i e qe) hb).2
theorem ai.tell (E:ai K σ H0 R0 H R Γ){e0 en:Ent}(hi:Γ[i]?=some e0)(ho:en.ok K H R (σ[i]?).join)(hsub:∀b∈en.fp (σ[i]?).join,b∈e0.fp (σ[i]?).join):ai K σ H0 R0 H R (Γ.set i en):=by
 refine ⟨E.ext,λj e q=>?_,λj e b q w=>?_,λj k e e' b q q' w w'=>?_,by rw [List.length_set];exact E.len⟩
 ·rcases set_at q with ⟨rfl,rfl,_⟩ | ⟨hj,q1⟩
  ·exact ho
  ·exact E.ent j e q1
 ·rcases set_at q with ⟨rfl,rfl,_⟩ | ⟨hj,q1⟩
  ·exact E.nw _ _ b hi (hsub b w)
  ·exact E.nw j e b q1 w
 ·rcases set_at q with ⟨rfl,rfl,_⟩ | ⟨hj,q1⟩
  ·rcases set_at q' with ⟨rfl,rfl,_⟩ | ⟨hk,q1'⟩
   ·rfl
   ·exact E.ds _ _ _ _ b hi q1' (hsub b w) w'
  ·rcases set_at q' with ⟨rfl,rfl,_⟩ | ⟨hk,q1'⟩
   ·exact E.ds _ _ _ _ b q1 hi w (hsub b w')
   ·exact E.ds _ _ _ _ b q1 q1' w w'
def Wk:Ga->Ga->Prop
 | [],[]=>True
 | e::r,e'::r'=>(e'=e∨e'= .no)/\Wk r r'
 | _,_=>False
theorem Wk.len:∀{Γ Γ':Ga},Wk Γ Γ'->Γ'.length=Γ.length
 | [],[],_=>rfl
 | _::_,_::_,h=>by rw [List.length_cons,List.length_cons,Wk.len h.2]
theorem Wk.at:∀{Γ Γ':Ga},Wk Γ Γ'->∀(i:Nat) (e:Ent),Γ'[i]?=some e->e= .no∨Γ[i]?=some e
 | [],[],_,i,e,q=>by simp at q
 | a::_,b::_,h,0,e,q=>by
   simp at q
   rcases h.1 with z | z
   ·right;simp [← q,z]
   ·left;rw [← q,z]
 | a::r,b::r',h,i + 1,e,q=>by
   simp at q
   have:=Wk.at h.2 i e q
   simpa using this
theorem Wk.refl:∀Γ:Ga,Wk Γ Γ
 | []=>trivial
 | _::r=>⟨.inl rfl,Wk.refl r⟩
theorem ai.weak (E:ai K σ H0 R0 H R Γ){Γ':Ga}(w:Wk Γ Γ'):ai K σ H0 R0 H R Γ':=by
 refine ⟨E.ext,λi e q=>?_,λi e a q z=>?_,λi j e e' a q q' z z'=>?_,w.len.trans E.len⟩
 ·rcases w.at i e q with rfl | q
  ·trivial
  ·exact E.ent i e q
 ·rcases w.at i e q with rfl | q
  ·cases z
  ·exact E.nw i e a q z
 ·rcases w.at i e q with rfl | q
  ·cases z
  ·rcases w.at j e' q' with rfl | q'
   ·cases z'
   ·exact E.ds i j e e' a q q' z z'
end
section
variable {X:Cx}{Γ Γ1 Γ2 Γ3:Ga}{α β γ:Type}
variable {pos:Pos}{e:Expr}{r:Rep α}
def EV (X:Cx)(e:Expr)(Γ:Ga){α:Type}(r:Rep α)(y:α)(Γ':Ga):Prop:=
 ∀(σ:St) (H0 R0 H R:Hp),ai X.K σ H0 R0 H R Γ->∀Q:VK,(∀v H' R',ai X.K σ H0 R0 H' R' Γ'->aj R R'->r.R X.K R' v y->Q v H')->cN X e σ H Q
def aU (X:Cx)(e:Expr)(Γ:Ga){α:Type}(r:Rep α)(ys:List α)(Γ':Ga):Prop:=
 ∀(σ:St) (H0 R0 H R:Hp),ai X.K σ H0 R0 H R Γ->∀Q:VK,(∀a vs H' R',ai X.K σ H0 R0 H' R' Γ'->aj R R'->H' a=some (.lst vs)->R' a=none->H0 a=none->Off a σ Γ'->PySem.Paired (r.R X.K R') vs ys->ys.length<=sizeLine->Q (.ref a) H')->cN X e σ H Q
def TV (X:Cx)(e:Expr)(Γ:Ga)(b:Bool)(Γ':Ga):Prop:=
 ∀(σ:St) (H0 R0 H R:Hp),ai X.K σ H0 R0 H R Γ->∀Q:Bool->Hp->Prop,(∀H' R',ai X.K σ H0 R0 H' R' Γ'->aj R R'->Q b H')->uc X e σ H Q
def TW (X:Cx)(e:Expr)(Γ:Ga)(b:Bool)(Γ':Ga):Prop:=
 ∀(σ:St) (H0 R0 H R:Hp),ai X.K σ H0 R0 H R Γ->∀Q:Bool->Hp->Prop,(∀H' R',ai X.K σ H0 R0 H' R' Γ'->aj R R'->Q b H')->tK X e σ H Q
def TF (X:Cx)(es:List Expr)(Γ:Ga)(b:Bool)(Γ':Ga):Prop:=
 ∀(σ:St) (H0 R0 H R:Hp),ai X.K σ H0 R0 H R Γ->∀Q:Bool->Hp->Prop,(∀H' R',ai X.K σ H0 R0 H' R' Γ'->aj R R'->Q b H')->eC X es σ H Q
def BG (X:Cx)(tg:Expr){α:Type}(r:Rep α)(bf:α->Ga->Ga):Prop:=
 ∀(σ:St) (H0 R0 H R:Hp) (Γ:Ga) (v:V) (x:α),ai X.K σ H0 R0 H R Γ->r.R X.K R v x->∀Q:St->Hp->Prop,(∀σ',ai X.K σ' H0 R0 H R (bf x Γ)->Q σ' H)->dX X tg v σ H Q
abbrev RT:=Hp->V->Hp->Hp->Prop
def WS (X:Cx)(sts:List Stmt)(Γ:Ga)(N:Ga->Prop)(T:RT):Prop:=
 ∀(σ:St) (H0 R0 H R:Hp),ai X.K σ H0 R0 H R Γ->∀D:Ends,(∀σ' H' R' Γ',ai X.K σ' H0 R0 H' R' Γ'->aj R R'->N Γ'->D.nx σ' H')->(∀v H' R',Ext H0 R0 H' R'->T H0 v H' R'->D.rt v H')->l5 X sts D σ H
def W1 (X:Cx)(st:Stmt)(Γ:Ga)(N:Ga->Prop)(T:RT):Prop:=
 ∀(σ:St) (H0 R0 H R:Hp),ai X.K σ H0 R0 H R Γ->∀D:Ends,(∀σ' H' R' Γ',ai X.K σ' H0 R0 H' R' Γ'->aj R R'->N Γ'->D.nx σ' H')->(∀v H' R',Ext H0 R0 H' R'->T H0 v H' R'->D.rt v H')->uB X st D σ H
def bG (K:PySem.W.Frag){β:Type}(r:Rep β)(P:β->Prop):RT:=λ_ v _ R'=>∃y,r.R K R' v y/\P y
def hU (K:PySem.W.Frag){β:Type}(r:Rep β)(P:List β->Prop):RT:=λH0 v H' R'=>∃a vs ys,v= .ref a/\H0 a=none/\H' a=some (.lst vs)/\R' a=none/\PySem.Paired (r.R K R') vs ys/\ys.length<=sizeLine/\P ys
theorem aU.im {ys:List α}(h:aU X e Γ r ys Γ1):EV X e Γ (ae r) ys Γ1:=by
 intro σ H0 R0 H R E Q q
 refine h σ H0 R0 H R E Q λa vs H' R' E' s1 ha hR h0 off p z=>?_
 have s2:aj R' (upd R' a (.lst vs)):=aj.fresh hR _
 exact q (.ref a) H' (upd R' a (.lst vs)) (E'.jJ ha hR h0 off) (s1.trans s2) ⟨a,vs,rfl,ar,Paired.map (λ_ _=>r.mono s2) p,z⟩
theorem EV.cast {y y':α}(h:EV X e Γ r y Γ1)(e1:y=y'):EV X e Γ r y' Γ1:=e1▸h
theorem TV.cast {b b':Bool}(h:TV X e Γ b Γ1)(e1:b=b'):TV X e Γ b' Γ1:=e1▸h
theorem aa (i:Nat){x:Str}{y:α}(hΓ:Γ[i]?=some (.im r y))(hN:X.N[i]?=some x:=by rfl)(hv:bT X.env.scope x:=by first | exact Or.inl rfl | exact Or.inr (Or.inl rfl) | exact Or.inr (Or.inr rfl))
 (hd:(x==("__debug__":Str))=false:=by decide) (hcd:(x==("__classdict__":Str))=false:=by decide):EV X (.Name x pos) Γ r y Γ:=by
 intro σ H0 R0 H R E Q q
 obtain ⟨v,e,h⟩:=E.ent i _ hΓ
 refine eS (aP hN hv hd hcd) ⟨v,?_,q v H R E (aj.refl _) h⟩
 cases es:σ[i]? with
 | none=>rw [es] at e;cases e
 | some o=>rw [es] at e;exact congrArg some e
theorem au {i:Int}{j:Nat}:EV X (.Constant (.int i) j pos) Γ ab i Γ:=λ_ _ _ _ _ E _ q=>eS dq (q _ _ _ E (aj.refl _) rfl)
theorem c8 {b:Bool}{j:Nat}:EV X (.Constant (.bool b) j pos) Γ aF b Γ:=λ_ _ _ _ _ E _ q=>eS pf (q _ _ _ E (aj.refl _) rfl)
theorem ck {x:Str}{n:Int}{t:Tok}(hm:X.mg x=some (.int n t))(hg:Gl X x:=by rfl)(hd:(x==("__debug__":Str))=false:=by decide):EV X (.Name x pos) Γ ab n Γ:=
 λ_ _ _ _ _ E _ q=>eS (ot (v:=.int n) hg hm ⟨t,rfl⟩ hd) (q (.int n) _ _ E (aj.refl _) rfl)
theorem gP {op:Operator}{r2:R2}{a b:Expr}{ra:Rep α}{rb:Rep β}{rc:Rep γ}{x:α}{y:β}{z:γ}(ho:cT X (binaryOp op) r2)(ha:EV X a Γ ra x Γ1)(hb:EV X b Γ1 rb y Γ2)
 (hz:∀(R:Hp) v u H Q,ra.R X.K R v x->rb.R X.K R u y->(∀w,rc.R X.K R w z->Q w H)->r2 v u H Q):EV X (.BinOp a op b pos) Γ rc z Γ2:=by
 intro σ H0 R0 H R E Q q
 refine eS (j7 ho aD aD) (ha σ H0 R0 H R E _ λv H1 R1 E1 s1 e1=>hb σ H0 R0 H1 R1 E1 _ λu H2 R2 E2 s2 e2=>?_)
 exact hz R2 v u H2 _ (ra.mono s2 e1) e2 λw hw=>q w H2 R2 E2 (s1.trans s2) hw
section
variable {a b c:Expr}{pos:Pos}{x y z:Int}
theorem cB (ha:EV X a Γ ab x Γ1)(hb:EV X b Γ1 ab y Γ2):EV X (.BinOp a .Add b pos) Γ ab (x + y) Γ2:=gP yw ha hb λR v u H Q e1 e2 q=>⟨x,y,e1,e2,q _ rfl⟩
theorem c6 (ha:EV X a Γ ab x Γ1)(hb:EV X b Γ1 ab y Γ2):EV X (.BinOp a .Sub b pos) Γ ab (x - y) Γ2:=gP xH ha hb λR v u H Q e1 e2 q=>⟨x,y,e1,e2,q _ rfl⟩
theorem xv (ha:EV X a Γ ab x Γ1)(hb:EV X b Γ1 ab y Γ2)(h:pF x y):EV X (.BinOp a .Mult b pos) Γ ab (x * y) Γ2:=gP yn ha hb λR v u H Q e1 e2 q=>⟨x,y,e1,e2,h,q _ rfl⟩
theorem gr (ha:EV X a Γ ab x Γ1)(hb:EV X b Γ1 ab y Γ2)(h:0 < y):EV X (.BinOp a .Mod b pos) Γ ab (x % y) Γ2:=gP xI ha hb λR v u H Q e1 e2 q=>⟨x,y,e1,e2,h,q _ rfl⟩
theorem yu (ha:EV X a Γ ab x Γ1)(hb:EV X b Γ1 ab y Γ2)(h:xV x y):EV X (.BinOp a .Pow b pos) Γ ab (x ^ y.toNat) Γ2:=gP zA ha hb λR v u H Q e1 e2 q=>⟨x,y,e1,e2,h,q _ rfl⟩
theorem sv (ha:EV X a Γ ab x Γ1):EV X (.UnaryOp .USub a pos) Γ ab (-x) Γ1:=by
 intro σ H0 R0 H R E Q q
 exact eS (AH xg aD) (ha σ H0 R0 H R E _ λv H1 R1 E1 s1 e1=>⟨x,e1,q _ H1 R1 E1 s1 rfl⟩)
end
structure eN (X:Cx) (op:CmpOp) {α β:Type} (ra:Rep α) (rb:Rep β) (x:α) (y:β) (k:Bool):Prop where
 r2:∃r,cT X (compareOp op) r/\∀(R H:Hp) v u Q,aj R H->ra.R X.K R v x->rb.R X.K R u y->Q (.bl k) H->r v u H Q
theorem dB {op:CmpOp}{a b:Expr}{pos:Pos}{ra:Rep α}{rb:Rep β}{x:α}{y:β}{k:Bool}(c:eN X op ra rb x y k)(ha:EV X a Γ ra x Γ1)(hb:EV X b Γ1 rb y Γ2)(hm:behindInMarks op b=false:=by first | exact ju _ | with_unfolding_all rfl):
 EV X (.Compare a [op] [b] pos) Γ aF k Γ2:=by
 obtain ⟨r,ho,hr⟩:=c.r2
 intro σ H0 R0 H R E Q q
 refine eS (wX ho aD aD hm) (ha σ H0 R0 H R E _ λv H1 R1 E1 s1 e1=>hb σ H0 R0 H1 R1 E1 _ λu H2 R2 E2 s2 e2=>?_)
 exact hr R2 H2 v u _ E2.sub (ra.mono s2 e1) e2 (q _ H2 R2 E2 (s1.trans s2) rfl)
theorem bj {op:CmpOp}{a b:Expr}{pos:Pos}{ra:Rep α}{rb:Rep β}{x:α}{y:β}{k:Bool}(c:eN X op ra rb x y k)(ha:EV X a Γ ra x Γ1)(hb:EV X b Γ1 rb y Γ2)(hm:behindInMarks op b=false:=by first | exact ju _ | with_unfolding_all rfl):
 TV X (.Compare a [op] [b] pos) Γ k Γ2:=by
 obtain ⟨r,ho,hr⟩:=c.r2
 intro σ H0 R0 H R E Q q
 refine tS (vZ ho aD aD hm) (ha σ H0 R0 H R E _ λv H1 R1 E1 s1 e1=>hb σ H0 R0 H1 R1 E1 _ λu H2 R2 E2 s2 e2=>?_)
 exact hr R2 H2 v u _ E2.sub (ra.mono s2 e1) e2 ⟨k,rfl,q H2 R2 E2 (s1.trans s2)⟩
section
variable {x y:Int}
theorem dY:eN X .Lt ab ab x y (decide (x < y)):=⟨_,Ak,λR H v u Q _ e1 e2 q=>⟨x,y,e1,e2,q⟩⟩
theorem dU:eN X .LtE ab ab x y (decide (x<=y)):=⟨_,zY,λR H v u Q _ e1 e2 q=>⟨x,y,e1,e2,q⟩⟩
theorem Ci:eN X .GtE ab ab x y (decide (y<=x)):=⟨_,AI,λR H v u Q _ e1 e2 q=>⟨x,y,e1,e2,q⟩⟩
theorem eG:eN X .Eq ab ab x y (decide (x=y)):=⟨_,AN,λR H v u Q _ e1 e2 q=>by
 cases e1;cases e2
 exact ⟨rfl,by rw [show decide (V.int x=V.int y)=decide (x=y) by rw [iM];exact Bool.beq_eq_decide_eq x y];exact q⟩⟩
theorem k6:eN X .NotEq ab ab x y (!decide (x=y)):=⟨_,z9,λR H v u Q _ e1 e2 q=>by
 cases e1;cases e2
 exact ⟨rfl,by rw [show decide (V.int x=V.int y)=decide (x=y) by rw [iM];exact Bool.beq_eq_decide_eq x y];exact q⟩⟩
end
variable {a:Expr}{pos:Pos}{x:Bool}{b:Expr}{y:Bool}{rest:List Expr}{c:Expr}
theorem mf (x:Int):∀xs:List Int,vA (.int x) (xs.map V.int)=decide (x∈xs)
 | []=>rfl
 | y::r=>by
   have h:=mf x r
   unfold vA at h ⊢
   rw [List.map_cons,List.any_cons,h]
   have e:j9 (V.int y) (V.int x)=decide (x=y):=by
    show (y==x)=_
    by_cases h:x=y
    ·subst h;simp
    ·rw [decide_eq_false h];exact beq_eq_false_iff_ne.mpr (Ne.symm h)
   rw [e,Bool.eq_iff_iff];simp
theorem c9 {K:PySem.W.Frag}{R:Hp}:∀{vs:List V} {xs:List Int},PySem.Paired (ab.R K R) vs xs->vs=xs.map V.int
 | _,_,.nil=>rfl
 | _,_,.cons h t=>by rw [List.map_cons,← c9 t];exact congrArg (· ::_) h
theorem lh:∀xs:List Int,(xs.map V.int).all eY=true
 | []=>rfl
 | _::r=>by rw [List.map_cons,List.all_cons,lh r];rfl
theorem wH {x:Int}{xs:List Int}:eN X .NotIn ab (ae ab) x xs (!decide (x∈xs)):=⟨_,me,λR H v u Q s e1 e2 q=>by
 cases e1
 obtain ⟨a,vs,rfl,hq,p,_⟩:=e2
 have e:=c9 p
 subst e
 exact ⟨a,_,rfl,.inl (aH.of (s _ _ hq)),rfl,lh xs,by rw [if_pos rfl,mf];exact q⟩⟩
theorem fD {op op':CmpOp}{ra:Rep α}{rb:Rep β}{rc:Rep γ}{x:α}{y:β}{z:γ}{k k':Bool}(c1:eN X op ra rb x y k)(c2:eN X op' rb rc y z k')(ha:EV X a Γ ra x Γ)(hb:EV X b Γ rb y Γ)(hc:EV X c Γ rc z Γ)
 (hm:lastMarks [op,op'] [b,c]=false:=by with_unfolding_all rfl):EV X (.Compare a [op,op'] [b,c] pos) Γ aF (k&&k') Γ:=by
 obtain ⟨r,ho,hr⟩:=c1.r2
 obtain ⟨r',ho',hr'⟩:=c2.r2
 intro σ H0 R0 H R E Q q
 refine eS (uh ho ho' aD aD aD hm) (ha σ H0 R0 H R E _ λv H1 R1 E1 s1 e1=>hb σ H0 R0 H1 R1 E1 _ λu H2 R2 E2 s2 e2=>?_)
 refine hr R2 H2 v u _ E2.sub (ra.mono s2 e1) e2 ⟨k,rfl,?_⟩
 cases k with
 | false=>exact ip (q _ H2 R2 E2 (s1.trans s2) rfl)
 | true=>exact hV (hc σ H0 R0 H2 R2 E2 _ λw H3 R3 E3 s3 e3=>hr' R3 H3 u w _ E3.sub (rb.mono s3 e2) e3 (q _ H3 R3 E3 (s1.trans (s2.trans s3)) rfl))
theorem fB {op op':CmpOp}{ra:Rep α}{rb:Rep β}{rc:Rep γ}{x:α}{y:β}{z:γ}{k k':Bool}(c1:eN X op ra rb x y k)(c2:eN X op' rb rc y z k')(ha:EV X a Γ ra x Γ)(hb:EV X b Γ rb y Γ)(hc:EV X c Γ rc z Γ)
 (hm:lastMarks [op,op'] [b,c]=false:=by with_unfolding_all rfl):TV X (.Compare a [op,op'] [b,c] pos) Γ (k&&k') Γ:=by
 obtain ⟨r,ho,hr⟩:=c1.r2
 obtain ⟨r',ho',hr'⟩:=c2.r2
 intro σ H0 R0 H R E Q q
 refine tS (uk ho ho' aD aD aD hm) (ha σ H0 R0 H R E _ λv H1 R1 E1 s1 e1=>hb σ H0 R0 H1 R1 E1 _ λu H2 R2 E2 s2 e2=>?_)
 refine hr R2 H2 v u _ E2.sub (ra.mono s2 e1) e2 ⟨k,rfl,?_⟩
 cases k with
 | false=>exact ip ⟨false,rfl,q H2 R2 E2 (s1.trans s2)⟩
 | true=>exact hV (hc σ H0 R0 H2 R2 E2 _ λw H3 R3 E3 s3 e3=>hr' R3 H3 u w _ E3.sub (rb.mono s3 e2) e3 ⟨k',rfl,q H3 R3 E3 (s1.trans (s2.trans s3))⟩)
theorem dA {op:BoolOp}{r:Rep α}{x:α}(h:EV X a Γ r x Γ1):EV X (.BoolOp op [a] pos) Γ r x Γ1:=λσ H0 R0 H R E Q q=>eS (y3 aD) (h σ H0 R0 H R E Q q)
theorem dC (ha:EV X a Γ aF x Γ)(hb:x=true->EV X (.BoolOp .And (b::rest) pos) Γ aF y Γ):EV X (.BoolOp .And (a::b::rest) pos) Γ aF (x&&y) Γ:=by
 intro σ H0 R0 H R E Q q
 refine eS (xF aD aD) (ha σ H0 R0 H R E _ λv H1 R1 E1 s1 e1=>⟨x,e1,?_⟩)
 cases x with
 | false=>exact ip (q _ H1 R1 E1 s1 rfl)
 | true=>exact hV (hb rfl σ H0 R0 H1 R1 E1 _ λw H3 R3 E3 s3 e3=>q w H3 R3 E3 (s1.trans s3) e3)
theorem zK (ha:EV X a Γ aF x Γ)(hb:x=false->EV X (.BoolOp .Or (b::rest) pos) Γ aF y Γ):EV X (.BoolOp .Or (a::b::rest) pos) Γ aF (x ||y) Γ:=by
 intro σ H0 R0 H R E Q q
 refine eS (zJ aD aD) (ha σ H0 R0 H R E _ λv H1 R1 E1 s1 e1=>⟨x,e1,?_⟩)
 cases x with
 | true=>exact hV (q _ H1 R1 E1 s1 rfl)
 | false=>exact ip (hb rfl σ H0 R0 H1 R1 E1 _ λw H3 R3 E3 s3 e3=>q w H3 R3 E3 (s1.trans s3) e3)
theorem nG (ha:EV X a Γ aF x Γ1):EV X (.UnaryOp .Not a pos) Γ aF (!x) Γ1:=by
 intro σ H0 R0 H R E Q q
 exact eS (xD aD) (ha σ H0 R0 H R E _ λv H1 R1 E1 s1 e1=>⟨x,e1,q _ H1 R1 E1 s1 rfl⟩)
theorem bI (ha:TV X a Γ x Γ1):TV X (.UnaryOp .Not a pos) Γ (!x) Γ1:=by
 intro σ H0 R0 H R E Q q
 exact tS (zE iS) (ha σ H0 R0 H R E _ λH1 R1 E1 s1=>q H1 R1 E1 s1)
theorem TW.tv {e:Expr}{b:Bool}(h:TW X e Γ b Γ1):TV X e Γ b Γ1:=λσ H0 R0 H R E Q q=>tS (uN.pt) (h σ H0 R0 H R E Q q)
theorem kK (ha:TV X a Γ x Γ1):TW X (.BoolOp .And [a] pos) Γ x Γ1:=λσ H0 R0 H R E Q q=>wS (og iS) (ha σ H0 R0 H R E Q q)
theorem dQ (ha:TV X a Γ x Γ1):TW X (.BoolOp .Or [a] pos) Γ x Γ1:=λσ H0 R0 H R E Q q=>wS (xc iS) (ha σ H0 R0 H R E Q q)
theorem ku (ha:TV X a Γ x Γ)(hb:x=true->TW X (.BoolOp .And (b::rest) pos) Γ y Γ):TW X (.BoolOp .And (a::b::rest) pos) Γ (x&&y) Γ:=by
 intro σ H0 R0 H R E Q q
 refine wS (qP iS uN) (ha σ H0 R0 H R E _ λH1 R1 E1 s1=>?_)
 cases x with
 | false=>exact ip (q H1 R1 E1 s1)
 | true=>exact hV (hb rfl σ H0 R0 H1 R1 E1 _ λH3 R3 E3 s3=>q H3 R3 E3 (s1.trans s3))
theorem dD (ha:TV X a Γ x Γ)(hb:x=false->TW X (.BoolOp .Or (b::rest) pos) Γ y Γ):TW X (.BoolOp .Or (a::b::rest) pos) Γ (x ||y) Γ:=by
 intro σ H0 R0 H R E Q q
 refine wS (zH iS uN) (ha σ H0 R0 H R E _ λH1 R1 E1 s1=>?_)
 cases x with
 | true=>exact hV (q H1 R1 E1 s1)
 | false=>exact ip (hb rfl σ H0 R0 H1 R1 E1 _ λH3 R3 E3 s3=>q H3 R3 E3 (s1.trans s3))
theorem bh {k:Bool}(ha:EV X a Γ aF k Γ1)(he:∀whole,isTrue a X.env whole=(do let v ← whole;standAt a.pos;holding [v] (truthy v)):=by intro _;rfl):TV X a Γ k Γ1:=by
 intro σ H0 R0 H R E Q q
 exact tS (yv aD he) (ha σ H0 R0 H R E _ λv H1 R1 E1 s1 e1=>⟨k,e1,q H1 R1 E1 s1⟩)
theorem bA:TF X [] Γ true Γ:=λσ H0 R0 H R E Q q=>fS yW (q H R E (aj.refl _))
theorem gp {b:Bool}(h:TV X c Γ b Γ1):TF X [c] Γ b Γ1:=λσ H0 R0 H R E Q q=>fS (xq iS) (h σ H0 R0 H R E Q q)
end
section
variable {X:Cx}{Γ Γ1 Γ2 Γ3:Ga}{α β γ δ:Type}
variable {r:Rep α}{pos:Pos}{i:Int}{es:List Expr}{x:α}{b:Expr}{xs:List α}
structure Pk:Type 1 where
 {α:Type}
 r:Rep α
 x:α
inductive fM (K:PySem.W.Frag) (R:Hp):List V->List Pk->Prop
 | nil:fM K R [] []
 | cons {v:V} {vs:List V} {p:Pk} {ps:List Pk}:p.r.R K R v p.x->fM K R vs ps->fM K R (v::vs) (p::ps)
def HA (X:Cx)(es:List Expr)(Γ:Ga)(ps:List Pk)(Γ':Ga):Prop:=
 ∀(σ:St) (H0 R0 H R:Hp),ai X.K σ H0 R0 H R Γ->∀Q:List V->Hp->Prop,(∀vs H' R',ai X.K σ H0 R0 H' R' Γ'->aj R R'->fM X.K R' vs ps->Q vs H')->oX X es σ H Q
theorem ao:HA X [] Γ [] Γ:=λσ H0 R0 H R E Q q=>aS bF (q [] H R E (aj.refl _) .nil)
theorem af {e:Expr}{ps:List Pk}(he:EV X e Γ r x Γ1)(hr:HA X es Γ1 ps Γ2)(hs:starEach (e::es) X.env=(false,eval e X.env)::starEach es X.env:=by rfl):HA X (e::es) Γ (⟨r,x⟩::ps) Γ2:=by
 intro σ H0 R0 H R E Q q
 refine aS (aQ aD lN hs) (he σ H0 R0 H R E _ λv H1 R1 E1 s1 e1=>hr σ H0 R0 H1 R1 E1 _ λvs H2 R2 E2 s2 e2=>?_)
 exact q (v::vs) H2 R2 E2 (s1.trans s2) (.cons (r.mono s2 e1) e2)
def EA (X:Cx)(es:List Expr)(Γ:Ga){α:Type}(r:Rep α)(ys:List α)(Γ':Ga):Prop:=
 ∀(σ:St) (H0 R0 H R:Hp),ai X.K σ H0 R0 H R Γ->∀Q:List V->Hp->Prop,(∀vs H' R',ai X.K σ H0 R0 H' R' Γ'->aj R R'->PySem.Paired (r.R X.K R') vs ys->Q vs H')->oX X es σ H Q
theorem bu:EA X [] Γ r [] Γ:=λσ H0 R0 H R E Q q=>aS bF (q [] H R E (aj.refl _) .nil)
theorem aJ {e:Expr}{ys:List α}(he:EV X e Γ r x Γ1)(hr:EA X es Γ1 r ys Γ2)(hs:starEach (e::es) X.env=(false,eval e X.env)::starEach es X.env:=by rfl):EA X (e::es) Γ r (x::ys) Γ2:=by
 intro σ H0 R0 H R E Q q
 refine aS (aQ aD lN hs) (he σ H0 R0 H R E _ λv H1 R1 E1 s1 e1=>hr σ H0 R0 H1 R1 E1 _ λvs H2 R2 E2 s2 e2=>?_)
 exact q (v::vs) H2 R2 E2 (s1.trans s2) (.cons (r.mono s2 e1) e2)
theorem aY {ys:List α}(h:EA X es Γ r ys Γ1)(hz:ys.length<=sizeLine):aU X (.List es pos) Γ r ys Γ1:=by
 intro σ H0 R0 H R E Q q
 refine eS (yx lN) (h σ H0 R0 H R E _ λvs H1 R1 E1 s1 p1=>⟨by rw [p1.length];exact hz,λp hp=>?_⟩)
 exact q p vs _ R1 (E1.grow (Ext.bW E1.sub hp _)) s1 ar (E1.sub.free hp) (E1.ext.h.free hp) (E1.off hp) p1 hz
theorem dv {a:Expr}{k:Nat}{r':Rep β}{y:β}(h:HA X [a,b] Γ [⟨r,x⟩,⟨r',y⟩] Γ1):EV X (.Tuple [a,b] k pos) Γ (az r r') (x,y) Γ1:=by
 intro σ H0 R0 H R E Q q
 refine eS (yV lN) (h σ H0 R0 H R E _ λvs H1 R1 E1 s1 p1=>?_)
 obtain ⟨h1,h2⟩:∃v1 v2,vs=[v1,v2]/\r.R X.K R1 v1 x/\r'.R X.K R1 v2 y:=by
  cases p1 with
  | cons a1 t=>cases t with
    | cons a2 t2=>cases t2;exact ⟨_,_,rfl,a1,a2⟩
 obtain ⟨v2,rfl,e1,e2⟩:=h2
 refine ⟨by show 2<=sizeLine;decide,λp hp=>?_⟩
 have s2:aj R1 (upd R1 p (.tup [h1,v2])):=aj.fresh (E1.sub.free hp) _
 exact q _ _ (upd R1 p (.tup [h1,v2])) (E1.grow (Ext.fresh E1.sub hp _)) (s1.trans s2) ⟨p,_,_,rfl,ar,r.mono s2 e1,r'.mono s2 e2⟩
theorem cX {F:α->β->Prop}:∀{vs:List α} {xs:List β},PySem.Paired F vs xs->∀{i:Nat} {y:β},xs[i]?=some y->∃v,vs[i]?=some v/\F v y
 | _,_,.nil,i,y,h=>by simp at h
 | _,_,.cons h t,0,y,e=>by simp at e;subst e;exact ⟨_,rfl,h⟩
 | _,_,.cons h t,i + 1,y,e=>by
   obtain ⟨v,e1,e2⟩:=cX t (i:=i) (y:=y) (by simpa using e)
   exact ⟨v,by simpa using e1,e2⟩
theorem gM {F:α->β->Prop}{vs:List α}{xs:List β}(p:PySem.Paired F vs xs){y:β}(h:cO xs i=some y):∃v,cO vs i=some v/\F v y:=by
 unfold cO at h ⊢
 rw [p.length]
 cases e:eW xs.length i with
 | none=>rw [e] at h;cases h
 | some j=>rw [e] at h;exact cX p h
theorem dy (h0:0<=i)(h1:i < xs.length):cO xs i=xs[i.toNat]?:=by
 have e:i=((i.toNat:Nat):Int):=by omega
 have hl:i.toNat < xs.length:=by omega
 have q:cO xs ((i.toNat:Nat):Int)=some xs[i.toNat]:=wN (List.getElem?_eq_getElem hl)
 rw [← e] at q
 rw [q,List.getElem?_eq_getElem hl]
theorem bB {a:Expr}{y:α}(ha:EV X a Γ (ae r) xs Γ1)(hb:EV X b Γ1 ab i Γ2)(h:cO xs i=some y)(hs:ef b:=by exact λ_ _=>rfl):EV X (.Subscript a b pos) Γ r y Γ2:=by
 intro σ H0 R0 H R E Q q
 refine eS (eZ dM aD aD hs) (ha σ H0 R0 H R E _ λv H1 R1 E1 s1 e1=>hb σ H0 R0 H1 R1 E1 _ λu H2 R2 E2 s2 e2=>?_)
 obtain ⟨p,vs,rfl,ha,pp,z⟩:=(ae r).mono s2 e1
 obtain ⟨w,e3,e4⟩:=gM pp h
 exact ⟨p,vs,i,w,rfl,e2,aH.of (E2.sub _ _ ha),e3,q w H2 R2 E2 (s1.trans s2) e4⟩
theorem gk (j:Nat){x:Str}{p1:Pos}{y:α}(hb:EV X b Γ ab i Γ1)(hΓ:Γ[j]?=some (.mu r xs))(hΓ1:Γ1[j]?=some (.mu r xs))(h:cO xs i=some y)(hN:X.N[j]?=some x:=by rfl)(hv:bT X.env.scope x:=by first | exact Or.inl rfl | exact Or.inr (Or.inl rfl) | exact Or.inr (Or.inr rfl))
 (hs:ef b:=by exact λ_ _=>rfl) (hd:(x==("__debug__":Str))=false:=by decide) (hcd:(x==("__classdict__":Str))=false:=by decide):EV X (.Subscript (.Name x p1) b pos) Γ r y Γ1:=by
 intro σ H0 R0 H R E Q q
 obtain ⟨a,vs,e,_,_,_⟩:=E.ent j _ hΓ
 refine eS (eZ dM (aP hN hv hd hcd) aD hs) ⟨.ref a,?_,hb σ H0 R0 H R E _ λu H2 R2 E2 s2 e2=>?_⟩
 ·cases es:σ[j]? with
  | none=>rw [es] at e;cases e
  | some o=>rw [es] at e;exact congrArg some e
 ·obtain ⟨a',vs',e',ha,hR,pp⟩:=E2.ent j _ hΓ1
  rw [e] at e';cases e'
  obtain ⟨w,e3,e4⟩:=gM pp h
  exact ⟨a,vs',i,w,rfl,e2,aH.of ha,e3,q w H2 R2 E2 s2 e4⟩
section
variable {a:Expr}{n:Int}{j:Nat}{p1 pos:Pos}{w:Row}
variable {r:Rep α}{r':Rep β}
theorem gx {x:α}{y:β}(ha:EV X a Γ r x Γ1)(k:∀(R:Hp) v,r.R X.K R v x->∃p vs w,v= .ref p/\R p=some (.tup vs)/\cO vs n=some w/\r'.R X.K R w y):EV X (.Subscript a (.Constant (.int n) j p1) pos) Γ r' y Γ1:=by
 intro σ H0 R0 H R E Q q
 refine eS (eZ zg aD dq (λ_ _=>rfl)) (ha σ H0 R0 H R E _ λv H1 R1 E1 s1 e1=>?_)
 obtain ⟨p,vs,w,rfl,hp,e3,e4⟩:=k R1 v e1
 exact ⟨p,vs,n,w,rfl,rfl,cU.of (E1.sub _ _ hp),e3,q w H1 R1 E1 s1 e4⟩
theorem ff (ha:EV X a Γ aB w Γ1):EV X (.Subscript a (.Constant (.int 0) j p1) pos) Γ ab w.1 Γ1:=gx ha λR v ⟨p,e,h⟩=>⟨p,_,_,e,h,rfl,rfl⟩
theorem ez (ha:EV X a Γ aB w Γ1):EV X (.Subscript a (.Constant (.int 1) j p1) pos) Γ ab w.2.1 Γ1:=gx ha λR v ⟨p,e,h⟩=>⟨p,_,_,e,h,rfl,rfl⟩
theorem cQ (ha:EV X a Γ aB w Γ1):EV X (.Subscript a (.Constant (.int 2) j p1) pos) Γ ab w.2.2.1 Γ1:=gx ha λR v ⟨p,e,h⟩=>⟨p,_,_,e,h,rfl,rfl⟩
theorem kX (ha:EV X a Γ aB w Γ1):EV X (.Subscript a (.Constant (.int 3) j p1) pos) Γ ab w.2.2.2 Γ1:=gx ha λR v ⟨p,e,h⟩=>⟨p,_,_,e,h,rfl,rfl⟩
theorem c5 {x:α×β}(ha:EV X a Γ (az r r') x Γ1):EV X (.Subscript a (.Constant (.int 0) j p1) pos) Γ r x.1 Γ1:=gx ha λR v ⟨p,v1,v2,e,h,h1,h2⟩=>⟨p,_,v1,e,h,rfl,h1⟩
theorem bO {x:α×β}(ha:EV X a Γ (az r r') x Γ1):EV X (.Subscript a (.Constant (.int 1) j p1) pos) Γ r' x.2 Γ1:=gx ha λR v ⟨p,v1,v2,e,h,h1,h2⟩=>⟨p,_,v2,e,h,rfl,h2⟩
end
variable {a:Expr}{pos:Pos}{xs:List α}{r:Rep α}
def OV (X:Cx)(e:Option Expr)(Γ:Ga)(o:Option Int):Prop:=∃t,PO X e t/\∀(σ:St) (H0 R0 H R:Hp),ai X.K σ H0 R0 H R Γ->∀Q:Option Int->Hp->Prop,(∀H' R',ai X.K σ H0 R0 H' R' Γ->aj R R'->Q o H')->t σ H Q
theorem wq:OV X none Γ none:=⟨_,oF,λσ H0 R0 H R E Q q=>q H R E (aj.refl _)⟩
theorem vV {e:Expr}{i:Int}(h:EV X e Γ ab i Γ):OV X (some e) Γ (some i):=⟨_,n5 aD,λσ H0 R0 H R E Q q=>h σ H0 R0 H R E _ λv H1 R1 E1 s1 e1=>⟨i,e1,q H1 R1 E1 s1⟩⟩
def cut (xs:List α)(lo hi:Option Int):List α:=(xs.drop (HT.sIx xs.length 0 lo)).take (HT.sIx xs.length xs.length hi - HT.sIx xs.length 0 lo)
theorem fR {F:α->β->Prop}:∀(n:Nat) {vs:List α} {xs:List β},PySem.Paired F vs xs->PySem.Paired F (vs.drop n) (xs.drop n)
 | 0,_,_,h=>h
 | _ + 1,_,_,.nil=>.nil
 | n + 1,_,_,.cons _ t=>fR n t
theorem eJ {F:α->β->Prop}:∀(n:Nat) {vs:List α} {xs:List β},PySem.Paired F vs xs->PySem.Paired F (vs.take n) (xs.take n)
 | 0,_,_,_=>.nil
 | _ + 1,_,_,.nil=>.nil
 | n + 1,_,_,.cons h t=>.cons h (eJ n t)
theorem bE {F:α->β->Prop}:∀{vs:List α} {xs:List β} {vs':List α} {xs':List β},PySem.Paired F vs xs->PySem.Paired F vs' xs'->PySem.Paired F (vs++vs') (xs++xs')
 | _,_,_,_,.nil,h=>h
 | _,_,_,_,.cons h t,h'=>.cons h (bE t h')
theorem jV (xs:List α)(lo hi:Option Int):(cut xs lo hi).length<=xs.length:=by
 unfold cut
 rw [List.length_take,List.length_drop]
 omega
theorem pv {lo hi:Option Expr}{p2:Pos}{xs:List Int}{l h:Option Int}(ha:EV X a Γ fO xs Γ)(hl:OV X lo Γ l)(hh:OV X hi Γ h):aU X (.Subscript a (.Slice lo hi none p2) pos) Γ ab (cut xs l h) Γ:=by
 intro σ H0 R0 H R E Q q
 obtain ⟨tl,pl,kl⟩:=hl
 obtain ⟨th,ph,kh⟩:=hh
 refine eS (my vF aD pl ph) (ha σ H0 R0 H R E _ λv H1 R1 E1 s1 e1=>kl σ H0 R0 H1 R1 E1 _ λH2 R2 E2 s2=>kh σ H0 R0 H2 R2 E2 _ λH3 R3 E3 s3=>?_)
 obtain ⟨p,rfl,hp,z⟩:=fO.mono (s2.trans s3) e1
 refine ⟨p,_,rfl,E3.sub.seq hp,λd hd=>?_⟩
 have aints:∀ys:List Int,PySem.Paired (ab.R X.K R3) (ys.map V.int) ys:=λys=>by
  induction ys with
  | nil=>exact .nil
  | cons y r ih=>exact .cons rfl ih
 refine q d _ _ R3 (E3.grow (Ext.bW E3.sub hd _)) (s1.trans (s2.trans s3)) ar (E3.sub.free hd) (E3.ext.h.free hd) (E3.off hd) ?_ (Nat.le_trans (jV _ _ _) (Nat.le_trans z (by decide)))
 unfold cut jh
 rw [List.length_map]
 exact eJ _ (fR _ (aints xs))
theorem wM {b:Expr}{ys:List α}(ha:EV X a Γ (ae r) xs Γ1)(hb:EV X b Γ1 (ae r) ys Γ2)(hz:xs.length + ys.length<=sizeLine):aU X (.BinOp a .Add b pos) Γ r (xs++ys) Γ2:=by
 intro σ H0 R0 H R E Q q
 refine eS (j7 m3 aD aD) (ha σ H0 R0 H R E _ λv H1 R1 E1 s1 e1=>hb σ H0 R0 H1 R1 E1 _ λu H2 R2 E2 s2 e2=>?_)
 obtain ⟨p,vs,rfl,hp,pp,z⟩:=(ae r).mono s2 e1
 obtain ⟨p',ws,rfl,hp',pp',z'⟩:=e2
 refine ⟨p,p',vs,ws,rfl,rfl,E2.sub _ _ hp,E2.sub _ _ hp',by rw [pp.length,pp'.length];exact hz,λd hd=>?_⟩
 exact q d _ _ R2 (E2.grow (Ext.bW E2.sub hd _)) (s1.trans s2) ar (E2.sub.free hd) (E2.ext.h.free hd) (E2.off hd) (bE pp pp') (by rw [List.length_append];exact hz)
theorem jz {F:α->β->Prop}{vs:List α}{xs:List β}(h:PySem.Paired F vs xs):∀k:Nat,PySem.Paired F (List.replicate k vs).flatten (List.replicate k xs).flatten
 | 0=>.nil
 | k + 1=>by rw [List.replicate_succ,List.replicate_succ];exact bE h (jz h k)
theorem ow {b:Expr}{k:Int}(ha:EV X a Γ (ae r) xs Γ1)(hb:EV X b Γ1 ab k Γ2)(h1: -(2 ^ 63)<=k)(h2:k < 2 ^ 63)(hz:xs.length * k.toNat<=sizeLine):aU X (.BinOp a .Mult b pos) Γ r (List.replicate k.toNat xs).flatten Γ2:=by
 intro σ H0 R0 H R E Q q
 refine eS (j7 yJ aD aD) (ha σ H0 R0 H R E _ λv H1 R1 E1 s1 e1=>hb σ H0 R0 H1 R1 E1 _ λu H2 R2 E2 s2 e2=>?_)
 obtain ⟨p,vs,rfl,hp,pp,z⟩:=(ae r).mono s2 e1
 refine ⟨p,k,vs,rfl,e2,E2.sub _ _ hp,h1,h2,by rw [pp.length];exact hz,λd hd=>?_⟩
 exact q d _ _ R2 (E2.grow (Ext.bW E2.sub hd _)) (s1.trans s2) ar (E2.sub.free hd) (E2.ext.h.free hd) (E2.off hd) (jz pp _) (by rw [len_rep,Nat.mul_comm];exact hz)
theorem cR {p:Pos}(hm:X.mg "len"=none)(ha:EV X a Γ (ae r) xs Γ1)(hs:starEach [a] X.env=[(false,eval a X.env)]:=by rfl)(hg:Gl X "len":=by rfl):EV X (.Call (.Name "len" p) [a] [] pos) Γ ab (xs.length:Int) Γ1:=by
 intro σ H0 R0 H R E Q q
 refine eS (cZ dm hg hm PySem.boot_len (aQ aD bF hs) (by decide) (by decide) hs) (ha σ H0 R0 H R E _ λv H1 R1 E1 s1 e1=>?_)
 obtain ⟨p,vs,rfl,hp,pp,z⟩:=e1
 refine ⟨p,vs,rfl,.inl (aH.of (E1.sub _ _ hp)),?_⟩
 rw [pp.length]
 exact q _ H1 R1 E1 s1 rfl
end
section
variable {X:Cx}{Γ Γ1 Γ2 Γ3:Ga}{α β γ δ:Type}{N:Ga->Prop}{T:RT}
variable {pos:Pos}{r:Rep α}{x:Str}{e:Expr}{p1:Pos}{y:α}
theorem zd {Γ':Ga}(w:Wk Γ Γ')(h:N Γ'):WS X [] Γ N T:=λσ H0 R0 H R E D dn dr=>w6 wy (dn σ H R Γ' (E.weak w) (aj.refl _) h)
theorem a9 (h:N Γ):WS X [] Γ N T:=zd (Wk.refl Γ) h
theorem ah {st:Stmt}{rest:List Stmt}(h:W1 X st Γ (λΓ'=>WS X rest Γ' N T) T):WS X (st::rest) Γ N T:=λσ H0 R0 H R E D dn dr=>
 w6 (tU A8 fq) (h σ H0 R0 H R E {D with nx:=l5 X rest D} (λσ' H' R' Γ' E' s' h'=>h' σ' H0 R0 H' R' E' D (λσ2 H2 R2 Γ2 E2 s2=>dn σ2 H2 R2 Γ2 E2 (s'.trans s2)) dr) dr)
theorem ak {st:Stmt}(h:W1 X st Γ N T):WS X [st] Γ N T:=λσ H0 R0 H R E D dn dr=>w6 (vX A8) (h σ H0 R0 H R E D dn dr)
theorem aO (i:Nat)(he:EV X e Γ r y Γ1)(h:N (Γ1.set i (.im r y)))(hN:X.N.Nodup:=by first | assumption | decide)(hi:X.N[i]?=some x:=by rfl)(hx:Loc X.env.scope x:=by first | exact Or.inl rfl | exact Or.inr rfl)
 (hs:swapsWith e (some (.Name x p1)) pos.line X.env=pure false:=by rfl) (hf:X.fn x=true∨X.env.scope.names.lookup x=some .local:=by first | exact .inl rfl | exact .inr rfl):W1 X (.Assign [.Name x p1] e pos) Γ N T:=λσ H0 R0 H R E D dn dr=>
 sS (fA hN hi hx aD hs hf) (he σ H0 R0 H R E _ λv H1 R1 E1 s1 e1=>dn _ H1 R1 _ (E1.set i e1) s1 h)
theorem cS (i:Nat){ys:List α}(he:aU X e Γ r ys Γ1)(h:N (Γ1.set i (.mu r ys)))(hN:X.N.Nodup:=by first | assumption | decide)(hi:X.N[i]?=some x:=by rfl)(hx:Loc X.env.scope x:=by first | exact Or.inl rfl | exact Or.inr rfl)
 (hs:swapsWith e (some (.Name x p1)) pos.line X.env=pure false:=by rfl) (hf:X.fn x=true∨X.env.scope.names.lookup x=some .local:=by first | exact .inl rfl | exact .inr rfl):W1 X (.Assign [.Name x p1] e pos) Γ N T:=λσ H0 R0 H R E D dn dr=>
 sS (fA hN hi hx aD hs hf) (he σ H0 R0 H R E _ λa vs H1 R1 E1 s1 ha hR h0 off p z=>dn _ H1 R1 _ (E1.du (u:=.lst vs) (en:=.mu r ys) i ⟨a,vs,rfl,ha,hR,p⟩ h0 λj e _ q w=>off j e q w) s1 h)
theorem A4 {tg:Expr}{bf:α->Ga->Ga}(he:EV X e Γ r y Γ1)(hb:BG X tg r bf)(h:N (bf y Γ1))
 (hs:swapsWithSole [tg] e pos.line X.env=pure false:=by rfl) (hw:swappedStores [tg] e X.env=pure none:=by rfl) (h1:(assignEach [tg] X.env).map (·.2)=[assign tg X.env]:=by rfl):W1 X (.Assign [tg] e pos) Γ N T:=λσ H0 R0 H R E D dn dr=>
 sS (fv aD vd hs hw h1) (he σ H0 R0 H R E _ λv H1 R1 E1 s1 e1=>hb σ H0 R0 H1 R1 Γ1 v y E1 e1 _ λσ' E'=>dn σ' H1 R1 _ E' s1 h)
theorem bq {P:α->Prop}(he:EV X e Γ r y Γ1)(h:P y):W1 X (.Return (some e) pos) Γ N (bG X.K r P):=λσ H0 R0 H R E D dn dr=>
 sS (c7 aD) (he σ H0 R0 H R E _ λv H1 R1 E1 s1 e1=>dr v H1 R1 E1.ext ⟨y,e1,h⟩)
theorem bQ {c:Expr}{a b:List Stmt}{k:Bool}(hc:TV X c Γ k Γ1)(h1:k=true->WS X a Γ1 N T)(h2:k=false->WS X b Γ1 N T):W1 X (.If c a b pos) Γ N T:=λσ H0 R0 H R E D dn dr=>by
 refine sS (zO iS fq fq) (hc σ H0 R0 H R E _ λH1 R1 E1 s1=>?_)
 cases k with
 | true=>exact hV (h1 rfl σ H0 R0 H1 R1 E1 D (λσ2 H2 R2 Γ2 E2 s2=>dn σ2 H2 R2 Γ2 E2 (s1.trans s2)) dr)
 | false=>exact ip (h2 rfl σ H0 R0 H1 R1 E1 D (λσ2 H2 R2 Γ2 E2 s2=>dn σ2 H2 R2 Γ2 E2 (s1.trans s2)) dr)
theorem aA (i:Nat)(hN:X.N.Nodup:=by first | assumption | decide)(hi:X.N[i]?=some x:=by rfl)(hx:Loc X.env.scope x:=by first | exact Or.inl rfl | exact Or.inr rfl)(hf:X.fn x=true∨X.env.scope.names.lookup x=some .local:=by first | exact .inl rfl | exact .inr rfl):
 BG X (.Name x pos) r (λy Γ=>Γ.set i (.im r y)):=λσ H0 R0 H R Γ v x E h Q q=>gS (eh hN hi hx hf) (q _ (E.set i h))
theorem iE (i j:Nat){y:Str}{k:Nat}{p2:Pos}{r':Rep β}(hc:X.calm=true:=by rfl)(hN:X.N.Nodup:=by first | assumption | decide)(hi:X.N[i]?=some x:=by rfl)(hx:Loc X.env.scope x:=by first | exact Or.inl rfl | exact Or.inr rfl)(hf:X.fn x=true∨X.env.scope.names.lookup x=some .local:=by first | exact .inl rfl | exact .inr rfl)
 (hj:X.N[j]?=some y:=by rfl) (hy:Loc X.env.scope y:=by first | exact Or.inl rfl | exact Or.inr rfl) (hf':X.fn y=true∨X.env.scope.names.lookup y=some .local:=by first | exact .inl rfl | exact .inr rfl):
 BG X (.Tuple [.Name x p1,.Name y p2] k pos) (az r r') (λw Γ=>(Γ.set i (.im r w.1)).set j (.im r' w.2)):=λσ H0 R0 H R Γ v w E h Q q=>by
 obtain ⟨a,v1,v2,rfl,ha,e1,e2⟩:=h
 exact gS (yH hc (eA (eh hN hi hx hf) (eA (eh hN hj hy hf') ky))) ⟨a,_,rfl,cU.of (E.sub _ _ ha),rfl,v1,[v2],rfl,v2,[],rfl,rfl,q _ ((E.set i e1).set j e2)⟩
theorem gD {F:α->β->Prop}:∀{vs:List α} {xs:List β},PySem.Paired F vs xs->∀{i:Nat} {v:α},vs[i]?=some v->∃y,xs[i]?=some y/\F v y
 | _,_,.nil,i,y,h=>by simp at h
 | _,_,.cons h t,0,y,e=>by simp at e;subst e;exact ⟨_,rfl,h⟩
 | _,_,.cons h t,i + 1,y,e=>by
   obtain ⟨v,e1,e2⟩:=gD t (i:=i) (v:=y) (by simpa using e)
   exact ⟨v,by simpa using e1,e2⟩
end
section
variable {X:Cx}{Γ Γ1 Γ2 Γ3:Ga}{α β γ δ:Type}{N:Ga->Prop}{T:RT}
variable {pos:Pos}{x:Str}{p1:Pos}{r:Rep α}{xs:List α}{kvs:List (Int×V)}{v:V}{e:Expr}{y:α}{p2:Pos}
theorem at_of {σ:St}{i:Nat}(e:(σ[i]?).join=some v):σ[i]?=some (some v):=by
 cases es:σ[i]? with
 | none=>rw [es] at e;cases e
 | some o=>rw [es] at e;exact congrArg some e
theorem iO {c:Expr}{body:List Stmt}(I:Nat->Ga->Prop){m0:Nat}(h0:I m0 Γ)
 (hstep:∀(m:Nat) (Γ:Ga),I m Γ->∃(k:Bool) (Γ':Ga),TV X c Γ k Γ'/\(k=true->WS X body Γ' (λΓ''=>∃m',m' < m/\I m' Γ'') T)/\(k=false->N Γ'))
 (hp:PassesOwn (model X.prog X.w) X.A X.env X.xe:=by exact PassesOwn.never):W1 X (.While c body [] pos) Γ N T:=λσ H0 R0 H R E D dn dr=>by
 refine sS (ue hp iS fq) ?_
 refine ⟨λm σ' H'=>∃R' Γ',ai X.K σ' H0 R0 H' R' Γ'/\aj R R'/\I m Γ',⟨m0,R,Γ,E,aj.refl _,h0⟩,?_⟩
 rintro m σ' H' ⟨R',Γ',E',s',hI⟩
 obtain ⟨k,Γ2,ht,h1,h2⟩:=hstep m Γ' hI
 refine ht σ' H0 R0 H' R' E' _ λH1 R1 E1 s1=>?_
 cases k with
 | true=>
   refine hV ⟨_,λσ2 H2 h=>h,h1 rfl σ' H0 R0 H1 R1 E1 _ (λσ3 H3 R3 Γ3 E3 s3 h3=>?_) dr⟩
   obtain ⟨m',hm,hI'⟩:=h3
   exact ⟨m',hm,R3,Γ3,E3,s'.trans (s1.trans s3),hI'⟩
 | false=>exact ip (dn σ' H1 R1 Γ2 E1 (s'.trans s1) (h2 rfl))
theorem ei (i:Nat){ap cp:Pos}(he:EV X e Γ r y Γ1)(hΓ:Γ[i]?=some (.mu r xs))(hΓ1:Γ1[i]?=some (.mu r xs))(hz:xs.length < sizeLine)(h:N (Γ1.set i (.mu r (xs++[y]))))
 (hN:X.N[i]?=some x:=by rfl) (hv:bT X.env.scope x:=by first | exact Or.inl rfl | exact Or.inr (Or.inl rfl) | exact Or.inr (Or.inr rfl))
 (hd:(x==("__debug__":Str))=false:=by decide) (hcd:(x==("__classdict__":Str))=false:=by decide)
 (hsw:swapsWith (.Call (.Attribute (.Name x p1) "append" ap) [e] [] cp) none pos.line X.env=pure false:=by rfl)
 (hbase:attributeBase (.Name x p1) "append" X.env (eval (.Name x p1) X.env)=eval (.Name x p1) X.env:=by rfl)
 (hfew:((backTo cp (starEach [e] X.env)).all (λx=> !x.1)&&(backToKw cp (keywordEach [] X.env)).all (λx=>x.1.isSome)
  &&decide ([e].length + ([]:List Keyword).length + (if ([]:List Keyword).isEmpty then 0 else 1) < 30))=true:=by rfl)
 (hline:(ap.endLine==cp.line)=true:=by rfl) (hs:starEach [e] X.env=(false,eval e X.env)::starEach [] X.env:=by rfl):W1 X (.Expr (.Call (.Attribute (.Name x p1) "append" ap) [e] [] cp) pos) Γ N T:=λσ H0 R0 H R E D dn dr=>by
 obtain ⟨a,vs,ea,ha,hR,pp⟩:=E.ent i _ hΓ
 refine sS (eu (kd PySem.F.plainAttrs_list PySem.F.slot_list_append PySem.F.type_list_append lA (aP hN hv hd hcd) (aQ aD bF hs) hbase hfew hline hs rfl) hsw) ?_
 refine ⟨.ref a,at_of ea,.inl ⟨rfl,vs,aH.of ha⟩,he σ H0 R0 H R E _ λv H1 R1 E1 s1 e1=>?_⟩
 obtain ⟨a',vs',ea',ha',hR',pp'⟩:=E1.ent i _ hΓ1
 rw [ea] at ea';cases ea'
 refine ⟨a,vs',v,rfl,rfl,ha',by rw [pp'.length];exact hz,?_⟩
 exact dn σ _ R1 _ (E1.upd (en:=.mu r (xs++[y])) hΓ1 rfl ea hR' ⟨a,_,rfl,ar,hR',bE pp' (.cons e1 .nil)⟩) s1 h
theorem jx {F:α->β->Prop}{v:α}{y:β}(h:F v y):∀{vs:List α} {xs:List β} (i:Nat),PySem.Paired F vs xs->PySem.Paired F (vs.set i v) (xs.set i y)
 | _,_,_,.nil=>.nil
 | _,_,0,.cons _ t=>.cons h t
 | _,_,i + 1,.cons q t=>.cons q (jx h i t)
theorem kC (i:Nat){b:Expr}{k:Int}{j:Nat}(he:EV X e Γ r y Γ1)(hb:EV X b Γ1 ab k Γ2)(hΓ1:Γ1[i]?=some (.mu r xs))(hΓ2:Γ2[i]?=some (.mu r xs))(hj:eW xs.length k=some j)(h:N (Γ2.set i (.mu r (xs.set j y))))
 (hN:X.N[i]?=some x:=by rfl) (hv:bT X.env.scope x:=by first | exact Or.inl rfl | exact Or.inr (Or.inl rfl) | exact Or.inr (Or.inr rfl))
 (hd:(x==("__debug__":Str))=false:=by decide) (hcd:(x==("__classdict__":Str))=false:=by decide)
 (ha:∀v,assign (.Subscript (.Name x p1) b p2) X.env v=(do
  let ov ← holding [v] (eval (.Name x p1) X.env)
  let iv ← holding [v,ov] (eval b X.env)
  standAt p2
  holding [v,ov,iv] (setItem ov iv v)
  release [v,ov,iv] []):=by intro _;rfl)
 (hs:swapsWithSole [.Subscript (.Name x p1) b p2] e pos.line X.env=pure false:=by rfl) (hw:swappedStores [.Subscript (.Name x p1) b p2] e X.env=pure none:=by rfl) (h1:(assignEach [.Subscript (.Name x p1) b p2] X.env).map (·.2)=[assign (.Subscript (.Name x p1) b p2) X.env]:=by rfl):
 W1 X (.Assign [.Subscript (.Name x p1) b p2] e pos) Γ N T:=λσ H0 R0 H R E D dn dr=>by
 refine sS (fv aD (jR (aP hN hv hd hcd) aD set_list ha) hs hw h1) (he σ H0 R0 H R E _ λv H1 R1 E1 s1 e1=>?_)
 obtain ⟨a,vs,ea,hp,hR,pp⟩:=E1.ent i _ hΓ1
 refine ⟨.ref a,at_of ea,hb σ H0 R0 H1 R1 E1 _ λu H2 R2 E2 s2 e2=>?_⟩
 obtain ⟨a',vs',ea',ha',hR',pp'⟩:=E2.ent i _ hΓ2
 rw [ea] at ea';cases ea'
 refine ⟨a,vs',k,j,rfl,e2,ha',by rw [pp'.length];exact hj,?_⟩
 exact dn σ _ R2 _ (E2.upd (en:=.mu r (xs.set j y)) hΓ2 rfl ea hR' ⟨a,_,rfl,ar,hR',jx (r.mono s2 e1) j pp'⟩) (s1.trans s2) h
theorem j4 {F:α->β->Prop}{vs:List α}{xs:List β}(p:PySem.Paired F vs xs):PySem.Paired F vs.dropLast xs.dropLast:=by
 rw [List.dropLast_eq_take,List.dropLast_eq_take,p.length]
 exact eJ _ p
theorem zr (i:Nat){ap cp:Pos}(hΓ:Γ[i]?=some (.mu r xs))(hy:xs[xs.length - 1]?=some y)
 (hN:X.N[i]?=some x:=by rfl) (hv:bT X.env.scope x:=by first | exact Or.inl rfl | exact Or.inr (Or.inl rfl) | exact Or.inr (Or.inr rfl))
 (hd:(x==("__debug__":Str))=false:=by decide) (hcd:(x==("__classdict__":Str))=false:=by decide)
 (hbase:attributeBase (.Name x p1) "pop" X.env (eval (.Name x p1) X.env)=eval (.Name x p1) X.env:=by rfl) (hline:(ap.endLine==cp.line)=true:=by rfl):
 EV X (.Call (.Attribute (.Name x p1) "pop" ap) [] [] cp) Γ r y (Γ.set i (.mu r xs.dropLast)):=by
 intro σ H0 R0 H R E Q q
 obtain ⟨a,vs,ea,ha,hR,pp⟩:=E.ent i _ hΓ
 obtain ⟨v,hv',hr⟩:=cX pp hy
 refine eS (sI PySem.F.plainAttrs_list PySem.F.slot_list_pop PySem.F.type_list_pop zi (aP hN hv hd hcd) hbase hline) ⟨.ref a,at_of ea,.inl ⟨rfl,vs,aH.of ha⟩,?_⟩
 refine ⟨a,vs,v,rfl,rfl,ha,by rw [pp.length];exact hv',?_⟩
 exact q v _ R (E.upd hΓ rfl ea hR ⟨a,_,rfl,ar,hR,j4 pp⟩) (aj.refl _) hr
theorem xQ (i:Nat)(hΓ:Γ[i]?=some (.mu r xs))(hN:X.N[i]?=some x:=by rfl)(hv:bT X.env.scope x:=by first | exact Or.inl rfl | exact Or.inr (Or.inl rfl) | exact Or.inr (Or.inr rfl))
 (hd:(x==("__debug__":Str))=false:=by decide) (hcd:(x==("__classdict__":Str))=false:=by decide)
 (he:∀whole,isTrue (.Name x pos) X.env whole=(do let v ← whole;standAt (Expr.Name x pos).pos;holding [v] (truthy v)):=by intro _;rfl):TV X (.Name x pos) Γ (!xs.isEmpty) Γ:=by
 intro σ H0 R0 H R E Q q
 obtain ⟨a,vs,ea,ha,hR,pp⟩:=E.ent i _ hΓ
 refine tS (mC (aP hN hv hd hcd) he) ⟨.ref a,at_of ea, !xs.isEmpty,.inl ⟨vs,aH.of ha,?_⟩,q H R E (aj.refl _)⟩
 cases pp<;>rfl
theorem fV (i:Nat){p:Pos}(hm:X.mg "len"=none)(hΓ:Γ[i]?=some (.mu r xs))(hN:X.N[i]?=some x:=by rfl)(hv:bT X.env.scope x:=by first | exact Or.inl rfl | exact Or.inr (Or.inl rfl) | exact Or.inr (Or.inr rfl))
 (hd:(x==("__debug__":Str))=false:=by decide) (hcd:(x==("__classdict__":Str))=false:=by decide) (hg:Gl X "len":=by rfl):EV X (.Call (.Name "len" p) [.Name x p1] [] pos) Γ ab (xs.length:Int) Γ:=by
 intro σ H0 R0 H R E Q q
 obtain ⟨a,vs,ea,ha,hR,pp⟩:=E.ent i _ hΓ
 refine eS (cZ dm hg hm PySem.boot_len (aQ (aP hN hv hd hcd) bF rfl) (by decide) (by decide) rfl) ⟨.ref a,at_of ea,a,vs,rfl,.inl (aH.of ha),?_⟩
 rw [pp.length]
 exact q _ H R E (aj.refl _) rfl
theorem freeze {K:PySem.W.Frag}{σ:St}{H0 R0 H R:Hp}(E:ai K σ H0 R0 H R Γ){i:Nat}(hΓ:Γ[i]?=some (.mu r xs))(hz:xs.length<=sizeLine):∃R' v,ai K σ H0 R0 H R' (Γ.set i (.im (ae r) xs))/\aj R R'/\(σ[i]?).join=some v/\(ae r).R K R' v xs:=by
 obtain ⟨a,vs,ea,ha,hR,pp⟩:=E.ent i _ hΓ
 have h0:H0 a=none:=E.new i _ a hΓ rfl ea
 have s2:aj R (upd R a (.lst vs)):=aj.fresh hR _
 have rr:(ae r).R K (upd R a (.lst vs)) (.ref a) xs:=⟨a,vs,rfl,ar,Paired.map (λ_ _=>r.mono s2) pp,hz⟩
 have E1:ai K σ H0 R0 H R (Γ.set i .no):=E.tell hΓ trivial λb w=>by cases w
 have E2:=E1.jJ ha hR h0 λj e q w=>by
  rcases set_at q with ⟨rfl,rfl,_⟩ | ⟨hj,q1⟩
  ·cases w
  ·exact hj (E.ds j i e _ a q1 hΓ w ((Ent.kc (e:=.mu r xs) rfl).mpr ea))
 have hl:i < Γ.length:=(List.getElem?_eq_some_iff.mp hΓ).1
 have E3:=E2.tell (i:=i) (e0:=.no) (en:=.im (ae r) xs) (List.getElem?_set_self hl) ⟨_,ea,rr⟩ λb w=>by cases w
 rw [List.set_set] at E3
 exact ⟨_,.ref a,E3,s2,ea,rr⟩
theorem WS.freeze (i:Nat){sts:List Stmt}(hΓ:Γ[i]?=some (.mu r xs))(hz:xs.length<=sizeLine)(h:WS X sts (Γ.set i (.im (ae r) xs)) N T):WS X sts Γ N T:=λσ H0 R0 H R E D dn dr=>by
 obtain ⟨R',v,E',s',_,_⟩:=Fc.freeze E hΓ hz
 exact h σ H0 R0 H R' E' D (λσ2 H2 R2 Γ2 E2 s2=>dn σ2 H2 R2 Γ2 E2 (s'.trans s2)) dr
def js:Rep (List (Int×V)):=⟨λK H v kvs=>∃a,v= .ref a/\H a=some (.dK (cn kvs)),λs ⟨a,e,q⟩=>⟨a,e,s _ _ q⟩⟩
def dR (kvs:List (Int×V))(k:Int):Bool:=kvs.any λp=>decide (p.1=k)
theorem fZ (kvs:List (Int×V))(k:Int):(cg (cn kvs) (Sum.inl k:Key)).isSome=dR kvs k:=by
 rw [← dF]
 unfold cn dR
 rw [List.any_map]
 congr 1
 funext p
 show decide ((Sum.inl p.1:Key)=Sum.inl k)=decide (p.1=k)
 by_cases h:p.1=k
 ·rw [h];simp
 ·rw [decide_eq_false h,decide_eq_false λz=>h (Sum.inl.inj z)]
def l6 (X:Cx)(e:Expr)(Γ:Ga)(k:Int):Prop:=∀(σ:St) (H0 R0 H R:Hp),ai X.K σ H0 R0 H R Γ->∀(H':Hp) (Q:VK),Q (.int k) H'->cN X e σ H' Q
theorem qM {i:Int}{j:Nat}:l6 X (.Constant (.int i) j pos) Γ i:=λσ H0 R0 H R E H' Q q=>eS dq q
theorem pS (i:Nat){y:Int}(hΓ:Γ[i]?=some (.im ab y))(hN:X.N[i]?=some x:=by rfl)(hv:bT X.env.scope x:=by first | exact Or.inl rfl | exact Or.inr (Or.inl rfl) | exact Or.inr (Or.inr rfl))
 (hd:(x==("__debug__":Str))=false:=by decide) (hcd:(x==("__classdict__":Str))=false:=by decide):l6 X (.Name x pos) Γ y:=λσ H0 R0 H R E H' Q q=>by
 obtain ⟨v,e,h⟩:=E.ent i _ hΓ
 cases h
 exact eS (aP hN hv hd hcd) ⟨_,at_of e,q⟩
theorem kY (i:Nat){ke ve:Expr}{k:Int}(hk:l6 X ke Γ k)(hv:PE X ve (tC v))(h:N (Γ.set i (.di [(k,v)])))
 (hN:X.N.Nodup:=by first | assumption | decide) (hi:X.N[i]?=some x:=by rfl) (hx:Loc X.env.scope x:=by first | exact Or.inl rfl | exact Or.inr rfl)
 (hs:swapsWith (.Dict [some ke] [ve] p2) (some (.Name x p1)) pos.line X.env=pure false:=by rfl) (hf:X.fn x=true∨X.env.scope.names.lookup x=some .local:=by first | exact .inl rfl | exact .inr rfl):
 W1 X (.Assign [.Name x p1] (.Dict [some ke] [ve] p2) pos) Γ N T:=λσ H0 R0 H R E D dn dr=>by
 refine sS (fA hN hi hx (wm (tw aD hv wg) rfl rfl (by simp) (by simp)) hs hf) λp hp=>?_
 refine hk σ H0 R0 H R E _ _ ?_
 refine ⟨ar,[(Sum.inl k,v)],rfl,(by show 1<=15;decide),?_⟩
 have E1:=E.grow (Ext.bW E.sub hp (.dK (cn [(k,v)])))
 have e:upd (upd H p (.dK [])) p (.dK (gg [] [(Sum.inl k,v)]))=upd H p (.dK (cn [(k,v)])):=by
  rw [wF];rfl
 rw [e]
 exact dn _ _ R _ (E1.du (u:=.dK (cn [(k,v)])) (en:=.di [(k,v)]) i ⟨p,rfl,ar,E.sub.free hp⟩ (E.ext.h.free hp) λj e _ q w=>E.off hp j e q w) (aj.refl _) h
theorem kM (i:Nat)(neg:Bool){k:Int}(hu:X.A.units + 1 < cLine)(he:EV X e Γ ab k Γ)(hΓ:Γ[i]?=some (.di kvs))(hN:X.N[i]?=some x:=by rfl)(hv:bT X.env.scope x:=by first | exact Or.inl rfl | exact Or.inr (Or.inl rfl) | exact Or.inr (Or.inr rfl))
 (hd:(x==("__debug__":Str))=false:=by decide) (hcd:(x==("__classdict__":Str))=false:=by decide):
 TV X (.Compare e [if neg then .NotIn else .In] [.Name x p1] pos) Γ (if neg then !dR kvs k else dR kvs k) Γ:=by
 intro σ H0 R0 H R E Q q
 cases neg with
 | false=>
   refine tS (qT (l8 hu aD (aP hN hv hd hcd)) (by with_unfolding_all rfl)) (he σ H0 R0 H R E _ λv H1 R1 E1 s1 e1=>?_)
   obtain ⟨a,ea,ha,hR⟩:=E1.ent i _ hΓ
   cases e1
   refine ⟨.ref a,at_of ea,a,_,rfl,dE.k (k:=Sum.inl k) ha,_,rfl,?_⟩
   rw [fZ]
   exact q H1 R1 E1 s1
 | true=>
   refine tS (qT (sy hu aD (aP hN hv hd hcd)) (by with_unfolding_all rfl)) (he σ H0 R0 H R E _ λv H1 R1 E1 s1 e1=>?_)
   obtain ⟨a,ea,ha,hR⟩:=E1.ent i _ hΓ
   cases e1
   refine ⟨.ref a,at_of ea,a,_,rfl,dE.k (k:=Sum.inl k) ha,_,rfl,?_⟩
   rw [fZ]
   exact q H1 R1 E1 s1
theorem ql (i:Nat){ke ve:Expr}{k:Int}(hu:X.A.units + 1 < cLine)(hk:EV X ke Γ ab k Γ)(hv:PE X ve (tC v))(hΓ:Γ[i]?=some (.di kvs))(hn:dR kvs k=false)(hz:kvs.length < sizeLine)(h:N (Γ.set i (.di (kvs++[(k,v)]))))
 (hN:X.N[i]?=some x:=by rfl) (hvi:bT X.env.scope x:=by first | exact Or.inl rfl | exact Or.inr (Or.inl rfl) | exact Or.inr (Or.inr rfl))
 (hd:(x==("__debug__":Str))=false:=by decide) (hcd:(x==("__classdict__":Str))=false:=by decide)
 (hs:swapsWith ve (some (.Subscript (.Name x p1) ke p2)) pos.line X.env=pure false:=by rfl):W1 X (.Assign [.Subscript (.Name x p1) ke p2] ve pos) Γ N T:=λσ H0 R0 H R E D dn dr=>by
 refine sS (ou hu (aP hN hvi hd hcd) aD hv hs) ?_
 obtain ⟨a,ea,ha,hR⟩:=E.ent i _ hΓ
 refine ⟨.ref a,at_of ea,hk σ H0 R0 H R E _ λu H1 R1 E1 s1 e1=>?_⟩
 obtain ⟨a',ea',ha',hR'⟩:=E1.ent i _ hΓ
 rw [ea] at ea';cases ea'
 cases e1
 refine ⟨a,_,rfl,kR.k (k:=Sum.inl k) ha' (by unfold cn;rw [List.length_map];exact hz),?_⟩
 have vn:cg (cn kvs) (Sum.inl k:Key)=none:=by
  have:=fZ kvs k
  rw [hn] at this
  cases q:cg (cn kvs) (Sum.inl k:Key) with
  | none=>rfl
  | some z=>rw [q] at this;cases this
 rw [tu v vn]
 have e:cn kvs++[((Sum.inl k:Key),v)]=cn (kvs++[(k,v)]):=by unfold cn;rw [List.map_append];rfl
 rw [e]
 exact dn σ _ R1 _ (E1.upd (en:=.di (kvs++[(k,v)])) hΓ rfl ea hR' ⟨a,rfl,ar,hR'⟩) s1 h
theorem xJ (i:Nat){P:List (Int×V)->Prop}(hΓ:Γ[i]?=some (.di kvs))(h:P kvs)(hN:X.N[i]?=some x:=by rfl)(hv:bT X.env.scope x:=by first | exact Or.inl rfl | exact Or.inr (Or.inl rfl) | exact Or.inr (Or.inr rfl))
 (hd:(x==("__debug__":Str))=false:=by decide) (hcd:(x==("__classdict__":Str))=false:=by decide):W1 X (.Return (some (.Name x p1)) pos) Γ N (bG X.K js P):=λσ H0 R0 H R E D dn dr=>by
 obtain ⟨a,ea,ha,hR⟩:=E.ent i _ hΓ
 have h0:H0 a=none:=E.new i _ a hΓ rfl ea
 refine sS (c7 (aP hN hv hd hcd)) ⟨.ref a,at_of ea,dr _ H (upd R a (.dK (cn kvs))) ⟨E.ext.h,E.ext.r.trans (aj.fresh hR _),λb o qb=>?_,λb hb=>?_⟩ ⟨kvs,⟨a,rfl,ar⟩,h⟩⟩
 ·by_cases hb:b=a
  ·subst hb;rw [ar] at qb;cases qb;exact ha
  ·rw [ay hb] at qb;exact E.ext.s b o qb
 ·rw [ay (show b≠a from λe=>hb (by rw [e];exact h0))];exact E.ext.old b hb
theorem kF {a:Expr}{p:Pos}(hm:X.mg "len"=none)(ha:EV X a Γ js kvs Γ1)(hs:starEach [a] X.env=[(false,eval a X.env)]:=by rfl)(hg:Gl X "len":=by rfl):EV X (.Call (.Name "len" p) [a] [] pos) Γ ab (kvs.length:Int) Γ1:=by
 intro σ H0 R0 H R E Q q
 refine eS (cZ qG hg hm PySem.boot_len (aQ aD bF hs) (by decide) (by decide) hs) (ha σ H0 R0 H R E _ λv H1 R1 E1 s1 e1=>?_)
 obtain ⟨p,rfl,hp⟩:=e1
 refine ⟨p,_,rfl,E1.sub _ _ hp,?_⟩
 unfold cn
 rw [List.length_map]
 exact q _ H1 R1 E1 s1 rfl
theorem iB (i:Nat)(hΓ:Γ[i]?=some (.mu r xs))(hz:xs.length<=sizeLine)(hN:X.N[i]?=some x:=by rfl)(hv:bT X.env.scope x:=by first | exact Or.inl rfl | exact Or.inr (Or.inl rfl) | exact Or.inr (Or.inr rfl))
 (hd:(x==("__debug__":Str))=false:=by decide) (hcd:(x==("__classdict__":Str))=false:=by decide):EV X (.Name x p1) Γ (ae r) xs (Γ.set i (.im (ae r) xs)):=by
 intro σ H0 R0 H R E Q q
 obtain ⟨R',v,E',s',ev,hr⟩:=Fc.freeze E hΓ hz
 exact eS (aP hN hv hd hcd) ⟨v,at_of ev,q v H R' E' s' hr⟩
end
abbrev bN:=PySem.W.Frag->List Pk->RT->Prop
def aC (S:bN)(K:PySem.W.Frag):Sp:=λvs H Q _=>∃R ps T,aj R H/\fM K R vs ps/\S K ps T/\∀v H' R',Ext H R H' R'->T H v H' R'->Q v H'
theorem fM.length {K:PySem.W.Frag}{R:Hp}:∀{vs:List V} {ps:List Pk},fM K R vs ps->vs.length=ps.length
 | _,_,.nil=>rfl
 | _,_,.cons _ t=>by rw [List.length_cons,List.length_cons,fM.length t]
structure aw (P:Program) (w:World) (K:PySem.W.Frag) (mg:Str->Option Value) (base:Heap) (x:Str) (k:Nat) (sp:Sp):Prop where
 ex:∃f fd ps,dG P w K mg base d6 k f fd ps sp/\mg x=some (.ref f)/\PySem.W.keepIn K (.ref f)=true/\Binds K fd ps []
theorem aw.mono {P:Program}{w:World}{K:PySem.W.Frag}{mg:Str->Option Value}{base:Heap}{x:Str}{j k:Nat}{sp:Sp}(c:aw P w K mg base x j sp)(h:j<=k):aw P w K mg base x k sp:=by
 obtain ⟨f,fd,ps,F,a,b,c⟩:=c.ex
 exact ⟨f,fd,ps,F.mono h,a,b,c⟩
section
variable {X:Cx}{Γ Γ1 Γ2 Γ3:Ga}{α β γ δ:Type}{N:Ga->Prop}{T:RT}
variable {S:bN}{x:Str}{e:Expr}{es:List Expr}{p pos:Pos}{ps:List Pk}
theorem cH {k:Nat}{Q:VK}{σ:St}{H0 R0 H R:Hp}(C:aw X.prog X.w X.K X.mg X.base x k (aC S X.K))(hr:bt k X.A)(ha:HA X (e::es) Γ ps Γ1)(hS:S X.K ps T)(E:ai X.K σ H0 R0 H R Γ)
 (q:∀H1 R1 v H' R',ai X.K σ H0 R0 H1 R1 Γ1->aj R R1->Ext H1 R1 H' R'->T H1 v H' R'->Q v H')
 (hg:Gl X x) (hdb:(x==("__debug__":Str))=false) (he:starEach (e::es) X.env=(false,eval e X.env)::starEach es X.env) (hpl:(backTo pos (starEach es X.env)).any (·.1)=false):cN X (.Call (.Name x p) (e::es) [] pos) σ H Q:=by
 obtain ⟨f,fd,pn,F,hm,hk,hb⟩:=C.ex
 refine eS (kU F hr hg hm hk hb .nil pO lN hdb he hpl) (ha σ H0 R0 H R E _ λvs H1 R1 E1 s1 p1=>?_)
 refine ⟨R1,ps,T,E1.sub,by rw [List.append_nil];exact p1,hS,λv H' R' x t=>q H1 R1 v H' R' E1 s1 x t⟩
theorem aW {k:Nat}{r:Rep α}{y:α}(C:aw X.prog X.w X.K X.mg X.base x k (aC S X.K))(hr:bt k X.A)(ha:HA X (e::es) Γ ps Γ1)(hS:S X.K ps (bG X.K r (· =y)))
 (hg:Gl X x:=by rfl) (hdb:(x==("__debug__":Str))=false:=by decide) (he:starEach (e::es) X.env=(false,eval e X.env)::starEach es X.env:=by rfl) (hpl:(backTo pos (starEach es X.env)).any (·.1)=false:=by rfl):EV X (.Call (.Name x p) (e::es) [] pos) Γ r y Γ1:=λσ H0 R0 H R E Q q=>
 cH C hr ha hS E (λH1 R1 v H' R' E1 s1 xx t=>by
  obtain ⟨z,e1,rfl⟩:=t
  exact q v H' R' (E1.grow xx) (s1.trans xx.r) e1) hg hdb he hpl
theorem fk {k:Nat}{r:Rep α}{ys:List α}(C:aw X.prog X.w X.K X.mg X.base x k (aC S X.K))(hr:bt k X.A)(ha:HA X (e::es) Γ ps Γ1)(hS:S X.K ps (hU X.K r (· =ys)))
 (hg:Gl X x:=by rfl) (hdb:(x==("__debug__":Str))=false:=by decide) (he:starEach (e::es) X.env=(false,eval e X.env)::starEach es X.env:=by rfl) (hpl:(backTo pos (starEach es X.env)).any (·.1)=false:=by rfl):aU X (.Call (.Name x p) (e::es) [] pos) Γ r ys Γ1:=λσ H0 R0 H R E Q q=>
 cH C hr ha hS E (λH1 R1 v H' R' E1 s1 xx t=>by
  obtain ⟨a,vs,zs,rfl,h0,h1,h2,p,z,rfl⟩:=t
  exact q a vs H' R' (E1.grow xx) (s1.trans xx.r) h1 h2 (E1.ext.h.free h0) (E1.off h0) p z) hg hdb he hpl
end
def df (ps:List Pk)(n:Nat):Ga:=ps.map (λp=>Ent.im p.r p.x)++List.replicate (n - ps.length) .no
theorem eQ {K:PySem.W.Frag}{R H:Hp}{vs:List V}{ps:List Pk}{N:List Str}(s:aj R H)(p:fM K R vs ps)(hl:ps.length<=N.length):ai K (L2.start N vs) H R H R (df ps N.length):=by
 have noown:∀(i:Nat) (e:Ent) (o:Option V),(df ps N.length)[i]?=some e->e.fp o=[]:=λi e o q=>by
  unfold df at q
  rcases List.mem_append.mp (List.mem_of_getElem? q) with z | z
  ·obtain ⟨p,_,rfl⟩:=List.mem_map.mp z;rfl
  ·obtain ⟨_,rfl⟩:=List.mem_replicate.mp z;rfl
 refine ⟨Ext.refl s,λi e q=>?_,λi e a q w=>absurd w (by rw [noown i e _ q];exact List.not_mem_nil),λi j e e' a q _ w=>absurd w (by rw [noown i e _ q];exact List.not_mem_nil),?_⟩
 ·have hp:=p.length
  unfold df at q
  unfold L2.start
  by_cases hi:i < ps.length
  ·rw [List.getElem?_append_left (by simpa using hi),List.getElem?_map] at q
   rw [List.getElem?_append_left (by simpa [hp] using hi),List.getElem?_map]
   have key:∀{vs:List V} {ps:List Pk},fM K R vs ps->∀(i:Nat) (p:Pk),ps[i]?=some p->∃v,vs[i]?=some v/\p.r.R K R v p.x:=by
    intro vs ps h
    induction h with
    | nil=>intro i p e;simp at e
    | cons a b ih=>
      intro i p e
      cases i with
      | zero=>simp at e;subst e;exact ⟨_,rfl,a⟩
      | succ i=>simpa using ih i p (by simpa using e)
   cases e1:ps[i]? with
   | none=>rw [e1] at q;cases q
   | some p1=>
     rw [e1] at q
     cases q
     obtain ⟨v,h1,h2⟩:=key p i p1 e1
     rw [h1]
     exact ⟨v,rfl,h2⟩
  ·rw [List.getElem?_append_right (by simpa using hi),List.getElem?_replicate] at q
   split at q
   ·cases q;trivial
   ·cases q
 ·unfold df L2.start
  rw [List.length_append,List.length_append,List.length_map,List.length_map,List.length_replicate,List.length_replicate,p.length]
section
variable {P:Program}{w:World}{K:PySem.W.Frag}{mg:Str->Option Value}{base:Heap}
theorem bD {S:bN}{x qual:Str}{st:Stmt}{f:Addr}{fd:FuncData}{N ps:List Str}{k:Nat}(F:bz K x qual st f fd)(Sc:ax N ps (ag st))(hm:mg x=some (.ref f))(hb:Binds K fd ps [])(len:∀qs T,S K qs T->qs.length=ps.length)
 (hbody:∀(cdv:Value) (A:Around) (outer:List Env) (s:Shared) (H:Hp) (E:XK) (qs:List Pk) (T:RT),bt k (A.deeper (envOfC qual (ag st) s.heap.objs.size f cdv))->S K qs T->
  WS (d4 d6 P w K mg base N qual (ag st) f cdv A outer s H E).g8 (bY st) (df qs N.length) (λ_=>False) T):aw P w K mg base x (k + 1) (aC S K):=by
 refine ⟨f,fd,ps,?_,hm,F.kp,hb⟩
 refine F.ok Sc (λvs H Q E h=>?_) (λcdv A outer s H vs Q E hr h=>?_)
 ·obtain ⟨R,qs,T,_,p,hS,_⟩:=h
  rw [p.length];exact len qs T hS
 ·obtain ⟨R,qs,T,sR,p,hS,q⟩:=h
  have hl:qs.length<=N.length:=by
   rw [len qs T hS]
   have:=congrArg List.length Sc.pre
   rw [List.length_take] at this
   omega
  exact ⟨_,fq,hbody cdv A outer s H E qs T hr hS (L2.start N vs) H R H R (eQ sR p hl) {nx:=λ_ H'=>Q .non H',rt:=Q} (λ_ _ _ _ _ _ f=>f.elim) λv H' R' xx t=>q v H' R' xx t⟩
end
section
variable {X:Cx}{Γ Γ1 Γ2 Γ3:Ga}{α β γ δ:Type}{N:Ga->Prop}{T:RT}
variable {a:Expr}{p pos:Pos}
theorem mK {bs:List Bool}{us:List Value}(r:Vals (bs.map V.bl) us){j:Nat}{v:Value}(h:us.toArray[j]?=some v):v= .bool (bs.getD j true):=by
 induction bs generalizing us j with
 | nil=>cases r;simp at h
 | cons b r' ih=>
   cases r with
   | cons h1 t=>
     cases j with
     | zero=>simp at h;rw [← h];exact h1
     | succ j=>exact ih t (by simpa using h)
theorem all_range (bs:List Bool):((List.range bs.length).all λj=>bs.getD j true)=bs.all id:=by
 rw [Bool.eq_iff_iff,List.all_eq_true,List.all_eq_true]
 constructor
 ·intro h b hb
  obtain ⟨j,hj,rfl⟩:=List.mem_iff_getElem.mp hb
  have:=h j (List.mem_range.mpr hj)
  simpa [List.getD_eq_getElem?_getD,List.getElem?_eq_getElem hj] using this
 ·intro h j hj
  have hj:=List.mem_range.mp hj
  simpa [List.getD_eq_getElem?_getD,List.getElem?_eq_getElem hj] using h _ (List.getElem_mem hj)
theorem any_range (bs:List Bool):((List.range bs.length).any λj=>bs.getD j true)=bs.any id:=by
 rw [Bool.eq_iff_iff,List.any_eq_true,List.any_eq_true]
 constructor
 ·rintro ⟨j,hj,h⟩
  have hj:=List.mem_range.mp hj
  exact ⟨_,List.getElem_mem hj,by simpa [List.getD_eq_getElem?_getD,List.getElem?_eq_getElem hj] using h⟩
 ·rintro ⟨b,hb,h⟩
  obtain ⟨j,hj,rfl⟩:=List.mem_iff_getElem.mp hb
  exact ⟨j,List.mem_range.mpr hj,by simpa [List.getD_eq_getElem?_getD,List.getElem?_eq_getElem hj] using h⟩
theorem sQ (hc:X.calm=true):c4 X (.builtin "all") (λxs H Q=>∃(p:Addr) (bs:List Bool),xs=[.ref p]/\aH X.K H p (bs.map V.bl)/\Q (.bl (bs.all id)) H):=by
 intro pins s σ H xs us Q I r h
 obtain ⟨p,bs,rfl,hq,q⟩:=h
 obtain ⟨u,rfl,rx⟩:=vals1 r
 cases rx
 obtain ⟨its,r',pl,hz⟩:=I.list hq
 have hne:p≠s.heap.objs.size:=λe=>by obtain ⟨o,ho,_⟩:=pl.isList;exact absurd (Heap.lt_size ho) (by rw [e];exact Nat.lt_irrefl _)
 refine call_all_walk (wpAny_pyIter_list pl.isList ?_)
 refine ⟨s.heap.objs.size,_,[s.heap.objs.size],its.toArray.size,_,_,λj=>bs.getD j true,rfl,Walks.list (A:=X.A.in1) (show X.A.in1.handled=none from I.ok.hd hc) s.heap.objs.size p hne its.toArray,?_,λj v s Q E hv hQ=>?_,λh' tk hk=>?_⟩
 ·refine ⟨⟨_,Heap.get?_push_size _ rfl,rfl,rfl⟩,?_⟩
  obtain ⟨o,ho,c,n,d⟩:=pl.isList
  exact ⟨o,Heap.get?_push_of_some _ ho,c,n,d⟩
 ·rw [mK r' hv];exact wpAny_truthy_bool hQ
 ·have e:its.toArray.size=bs.length:=by rw [List.size_toArray,← r'.length,List.length_map]
  rw [e,all_range]
  exact ⟨.bl _,H,I.kept λb o e=>hk b o (λz=>absurd (Heap.lt_size e) (by rw [List.mem_singleton.mp z];exact Nat.lt_irrefl _)) (Heap.get?_push_of_some _ e),rfl,q⟩
theorem sY (hc:X.calm=true):c4 X (.builtin "any") (λxs H Q=>∃(p:Addr) (bs:List Bool),xs=[.ref p]/\aH X.K H p (bs.map V.bl)/\Q (.bl (bs.any id)) H):=by
 intro pins s σ H xs us Q I r h
 obtain ⟨p,bs,rfl,hq,q⟩:=h
 obtain ⟨u,rfl,rx⟩:=vals1 r
 cases rx
 obtain ⟨its,r',pl,hz⟩:=I.list hq
 have hne:p≠s.heap.objs.size:=λe=>by obtain ⟨o,ho,_⟩:=pl.isList;exact absurd (Heap.lt_size ho) (by rw [e];exact Nat.lt_irrefl _)
 refine call_any_walk (wpAny_pyIter_list pl.isList ?_)
 refine ⟨s.heap.objs.size,_,[s.heap.objs.size],its.toArray.size,_,_,λj=>bs.getD j true,rfl,Walks.list (A:=X.A.in1) (show X.A.in1.handled=none from I.ok.hd hc) s.heap.objs.size p hne its.toArray,?_,λj v s Q E hv hQ=>?_,λh' tk hk=>?_⟩
 ·refine ⟨⟨_,Heap.get?_push_size _ rfl,rfl,rfl⟩,?_⟩
  obtain ⟨o,ho,c,n,d⟩:=pl.isList
  exact ⟨o,Heap.get?_push_of_some _ ho,c,n,d⟩
 ·rw [mK r' hv];exact wpAny_truthy_bool hQ
 ·have e:its.toArray.size=bs.length:=by rw [List.size_toArray,← r'.length,List.length_map]
  rw [e,any_range]
  exact ⟨.bl _,H,I.kept λb o e=>hk b o (λz=>absurd (Heap.lt_size e) (by rw [List.mem_singleton.mp z];exact Nat.lt_irrefl _)) (Heap.get?_push_of_some _ e),rfl,q⟩
theorem i6 {K:PySem.W.Frag}{R:Hp}:∀{vs:List V} {xs:List Bool},PySem.Paired (aF.R K R) vs xs->vs=xs.map V.bl
 | _,_,.nil=>rfl
 | _,_,.cons h t=>by rw [List.map_cons,← i6 t];exact congrArg (· ::_) h
theorem l4 {x:Str}{id:String}{r:List V->Hp->VK->Prop}{ra:Rep α}{rb:Rep β}{y:α}{z:β}(hc:c4 X (.builtin id) r)(hm:X.mg x=none)(hv:bootBuiltins x=some (.builtin id))(ha:EV X a Γ ra y Γ1)
 (h:∀(R H:Hp) v Q,aj R H->ra.R X.K R v y->(∀w,rb.R X.K R w z->Q w H)->r [v] H Q) (hs:starEach [a] X.env=[(false,eval a X.env)]:=by rfl) (hg:Gl X x:=by rfl) (hn:x≠"__name__":=by decide) (hdb:(x==("__debug__":Str))=false:=by decide):
 EV X (.Call (.Name x p) [a] [] pos) Γ rb z Γ1:=by
 intro σ H0 R0 H R E Q q
 exact eS (cZ hc hg hm hv (aQ aD bF hs) hn hdb hs) (ha σ H0 R0 H R E _ λv H1 R1 E1 s1 e1=>h R1 H1 v _ E1.sub e1 λw hw=>q w H1 R1 E1 s1 hw)
theorem dh {bs:List Bool}(hm:X.mg "all"=none)(ha:EV X a Γ (ae aF) bs Γ1)(hs:starEach [a] X.env=[(false,eval a X.env)]:=by rfl)(hc:X.calm=true:=by rfl)(hg:Gl X "all":=by rfl):EV X (.Call (.Name "all" p) [a] [] pos) Γ aF (bs.all id) Γ1:=
 l4 (sQ hc) hm boot_all ha (λR H v Q s ⟨p,vs,e,hp,pp,_⟩ q=>⟨p,bs,by rw [e],by rw [← i6 pp];exact aH.of (s _ _ hp),q _ rfl⟩) hs hg
theorem sF {bs:List Bool}(hm:X.mg "any"=none)(ha:EV X a Γ (ae aF) bs Γ1)(hs:starEach [a] X.env=[(false,eval a X.env)]:=by rfl)(hc:X.calm=true:=by rfl)(hg:Gl X "any":=by rfl):EV X (.Call (.Name "any" p) [a] [] pos) Γ aF (bs.any id) Γ1:=
 l4 (sY hc) hm boot_any ha (λR H v Q s ⟨p,vs,e,hp,pp,_⟩ q=>⟨p,bs,by rw [e],by rw [← i6 pp];exact aH.of (s _ _ hp),q _ rfl⟩) hs hg
theorem sO {r:Rep α}{xs:List α}(hm:X.mg "list"=none)(ha:EV X a Γ (ae r) xs Γ1)(hs:starEach [a] X.env=[(false,eval a X.env)]:=by rfl)(hg:Gl X "list":=by rfl):aU X (.Call (.Name "list" p) [a] [] pos) Γ r xs Γ1:=by
 intro σ H0 R0 H R E Q q
 refine eS (dN fh hg hm PyProof.Rows.boot_list (aQ aD bF hs) (by decide) (by decide) hs) (ha σ H0 R0 H R E _ λv H1 R1 E1 s1 e1=>?_)
 obtain ⟨p,vs,rfl,hp,pp,z⟩:=e1
 exact ⟨p,vs,rfl,.inl (aH.of (E1.sub _ _ hp)),λl hl=>q l vs _ R1 (E1.grow (Ext.bW E1.sub hl _)) s1 ar (E1.sub.free hl) (E1.ext.h.free hl) (E1.off hl) pp z⟩
theorem rQ (hc:X.calm=true):c4 X (.builtin "max") (λxs H Q=>∃(p:Addr) (ns:List Int),xs=[.ref p]/\aH X.K H p (ns.map V.int)/\ns≠[]/\∀M,M∈ns->(∀a∈ns,a<=M)->Q (.int M) H):=by
 intro pins s σ H xs us Q I r h
 obtain ⟨p,ns,rfl,hq,hne,q⟩:=h
 obtain ⟨u,rfl,rx⟩:=vals1 r
 cases rx
 obtain ⟨its,r',pl,hz⟩:=I.list hq
 have hi:=intsAre_of r'
 have hne:0 < ns.length:=List.length_pos_iff.mpr hne
 have hl:=pl.isList
 obtain ⟨xs,e⟩:=hi.allInts.items
 have hns:ns=xs.toList.map (·.1):=by rw [← hi.numsOf,← nums_intItems,← e]
 have hsz:0 < xs.size:=by
  have h3:=hne;rw [hns,List.length_map,Array.length_toList] at h3;exact h3
 rw [e] at hl
 refine max_intList (I.ok.hd hc) hl hsz λv h' tk hv hk=>?_
 obtain ⟨t,rfl⟩:=intItems_at hv
 obtain ⟨h1,h2⟩:=argBest_gt (numAt xs) (xs.size - 1)
 refine ⟨.int _,H,I.kept hk,⟨t,rfl⟩,q _ ?_ λa ha=>?_⟩
 ·rw [hns,numAt_eq];exact getD_mem (by rw [List.length_map,Array.length_toList];omega)
 ·rw [hns] at ha
  obtain ⟨j,hj,rfl⟩:=mem_getD ha
  rw [List.length_map,Array.length_toList] at hj
  rw [← numAt_eq];exact h2 j (by omega)
def least:List Int->Int
 | []=>0
 | [x]=>x
 | x::y::r=>min x (least (y::r))
def most:List Int->Int
 | []=>0
 | [x]=>x
 | x::y::r=>max x (most (y::r))
theorem ee:∀{ns:List Int} {M:Int},M∈ns->(∀a∈ns,a<=M)->most ns=M:=by
 have key:∀(ns:List Int),ns≠[]->most ns∈ns/\∀a∈ns,a<=most ns:=by
  intro ns
  induction ns with
  | nil=>intro h;exact absurd rfl h
  | cons x r ih=>
    intro _
    cases r with
    | nil=>simp [most]
    | cons y r=>
      obtain ⟨h1,h2⟩:=ih (by simp)
      show max x (most (y::r))∈_/\_
      refine ⟨?_,λa ha=>?_⟩
      ·rcases Int.le_total x (most (y::r)) with h | h
       ·rw [Int.max_eq_right h];exact List.mem_cons_of_mem _ h1
       ·rw [Int.max_eq_left h];exact List.mem_cons_self
      ·show a<=max x (most (y::r))
       rcases List.mem_cons.mp ha with rfl | ha
       ·exact Int.le_max_left _ _
       ·exact Int.le_trans (h2 a ha) (Int.le_max_right _ _)
 intro ns M h1 h2
 obtain ⟨h3,h4⟩:=key ns (λe=>by rw [e] at h1;cases h1)
 exact Int.le_antisymm (h2 _ h3) (h4 M h1)
theorem wB {ns:List Int}(hm:X.mg "max"=none)(ha:EV X a Γ (ae ab) ns Γ1)(hne:ns≠[])(hs:starEach [a] X.env=[(false,eval a X.env)]:=by rfl)(hc:X.calm=true:=by rfl)(hg:Gl X "max":=by rfl):EV X (.Call (.Name "max" p) [a] [] pos) Γ ab (most ns) Γ1:=
 l4 (rQ hc) hm PyProof.Rows.boot_max ha (λR H v Q s ⟨p,vs,e,hp,pp,_⟩ q=>⟨p,ns,by rw [e],by rw [← c9 pp];exact aH.of (s _ _ hp),hne,λM h1 h2=>by rw [← ee h1 h2];exact q _ rfl⟩) hs hg
theorem wb {b:Expr}{x y:Int}(hm:X.mg "min"=none)(ha:HA X [a,b] Γ [⟨ab,x⟩,⟨ab,y⟩] Γ1)(hs:starEach [a,b] X.env=(false,eval a X.env)::starEach [b] X.env:=by rfl)(hc:X.calm=true:=by rfl)(hg:Gl X "min":=by rfl)(hpl:(backTo pos (starEach [b] X.env)).any (·.1)=false:=by rfl):EV X (.Call (.Name "min" p) [a,b] [] pos) Γ ab (if y < x then y else x) Γ1:=by
 intro σ H0 R0 H R E Q q
 refine eS (cZ (qi hc) hg hm PyProof.Rows.boot_min lN (by decide) (by decide) hs hpl) (ha σ H0 R0 H R E _ λvs H1 R1 E1 s1 p1=>?_)
 cases p1 with
 | cons a1 t=>cases t with
   | cons a2 t2=>cases t2;cases a1;cases a2;exact ⟨x,y,rfl,q _ H1 R1 E1 s1 rfl⟩
end
def Src (K:PySem.W.Frag)(J:It)(R1:Hp){α:Type}(r:Rep α)(xs:List α):Prop:=
 ∀(H' R':Hp),aj R1 R'->aj R' H'->∀i:Nat,(∀x,xs[i]?=some x->J.go i H'/\∀v H2,J.yld i H' v H2->∃R2,Ext H' R' H2 R2/\r.R K R2 v x)/\(xs.length<=i->J.stop i H')
section
variable {X:Cx}{Γ Γ1 Γ2 Γ3:Ga}{α β γ δ:Type}{N:Ga->Prop}{T:RT}
variable {tg:Expr}{xs:List α}{iter:Expr}{bf:α->Ga->Ga}{pos:Pos}{elt:Expr}{ifs:List Expr}{scope:Scope}{cl:List (Str×Addr)}{fr:List Str}{ix:List Nat}{ra:Rep α}{rb:Rep β}{p:α->Bool}{f:α->β}
def IV (X:Cx)(tg iter:Expr)(Γ:Ga){α:Type}(r:Rep α)(xs:List α)(Γ1:Ga):Prop:=
 ∃wi,PI X tg iter wi/\∀(σ:St) (H0 R0 H R:Hp),ai X.K σ H0 R0 H R Γ->∀Rq:It->Hp->Prop,(∀J H1 R1,ai X.K σ H0 R0 H1 R1 Γ1->aj R R1->xs.length<=sizeLine->Src X.K J R1 r xs->Rq J H1)->wi σ H Rq
theorem aK {r:Rep α}(h:EV X iter Γ (ae r) xs Γ1):IV X tg iter Γ r xs Γ1:=by
 refine ⟨_,oI aD,λσ H0 R0 H R E Rq q=>h σ H0 R0 H R E _ λv H1 R1 E1 s1 e1=>?_⟩
 obtain ⟨a,vs,rfl,ha,pp,z⟩:=e1
 refine ⟨a,rfl,⟨vs,aH.of (E1.sub _ _ ha)⟩,q _ H1 R1 E1 s1 z λH' R' sR sH i=>⟨λx hx=>?_,λhi=>?_⟩⟩
 ·have hq:aH X.K H' a vs:=aH.of (sH _ _ (sR _ _ ha))
  obtain ⟨v,hv,hr⟩:=cX pp hx
  refine ⟨⟨vs,v,hq,hv⟩,λv' H2 hy=>?_⟩
  obtain ⟨rfl,hy⟩:=hy
  have:=hy vs hq
  rw [hv] at this
  cases this
  exact ⟨R',Ext.refl sH,r.mono sR hr⟩
 ·exact ⟨vs,aH.of (sH _ _ (sR _ _ ha)),by rw [pp.length];exact hi⟩
def ups (lo:Int)(n:Nat):List Int:=(List.range n).map λ(k:Nat)=>lo + (k:Int)
theorem av (lo:Int)(n:Nat):(ups lo n).length=n:=by unfold ups;rw [List.length_map,List.length_range]
theorem fj {lo:Int}{n i:Nat}{x:Int}(h:(ups lo n)[i]?=some x):i < n/\x=lo + (i:Int):=by
 have hi:i < n:=by have:=(List.getElem?_eq_some_iff.mp h).1;rwa [av] at this
 refine ⟨hi,?_⟩
 unfold ups at h
 rw [List.getElem?_map,List.getElem?_range hi] at h
 exact (Option.some.inj h).symm
theorem oH {K:PySem.W.Frag}{R1:Hp}(lo:Int)(n:Nat):Src K (r9 lo n) R1 ab (ups lo n):=λH' R' sR sH i=>⟨λx hx=>by
 obtain ⟨h1,rfl⟩:=fj hx
 refine ⟨h1,λv H2 hy=>?_⟩
 obtain ⟨rfl,rfl⟩:=hy
 exact ⟨R',Ext.refl sH,rfl⟩,λhi=>by rw [av] at hi;exact hi⟩
theorem cW {a:Expr}{p1 p2:Pos}{n:Int}(hm:X.mg "range"=none)(ha:EV X a Γ ab n Γ1)(hn: -(2 ^ 62)<=n/\n<=1000000)(hs1:starEach [a] X.env=[(false,eval a X.env)]:=by rfl)(hg:Gl X "range":=by rfl):IV X tg (.Call (.Name "range" p1) [a] [] p2) Γ ab (ups 0 n.toNat) Γ1:=by
 refine ⟨_,qS hg hm (aQ aD bF hs1) hs1,λσ H0 R0 H R E Rq q=>ha σ H0 R0 H R E _ λv H1 R1 E1 s1 e1=>?_⟩
 exact ⟨n,by rw [show v=V.int n from e1],hn.1,by omega,q _ H1 R1 E1 s1 (by rw [av];exact Nat.le_trans (show n.toNat<=1000000 by omega) (by decide)) (oH 0 n.toNat)⟩
theorem lL {a b:Expr}{p1 p2:Pos}{m n:Int}(hm:X.mg "range"=none)(ha:EV X a Γ ab m Γ1)(hb:EV X b Γ1 ab n Γ2)(hn: -1000000<=m/\m<=1000000/\ -1000000<=n/\n<=1000000)
 (hs1:starEach [a,b] X.env=[(false,eval a X.env),(false,eval b X.env)]:=by rfl) (hs2:starEach [b] X.env=[(false,eval b X.env)]:=by rfl) (hg:Gl X "range":=by rfl):IV X tg (.Call (.Name "range" p1) [a,b] [] p2) Γ ab (ups m (n - m).toNat) Γ2:=by
 refine ⟨_,rh hg hm (aQ aD (aQ aD bF hs2) (by rw [hs1,hs2])) hs1 hs2,λσ H0 R0 H R E Rq q=>ha σ H0 R0 H R E _ λv H1 R1 E1 s1 e1=>hb σ H0 R0 H1 R1 E1 _ λu H2 R2 E2 s2 e2=>?_⟩
 exact ⟨m,n,by rw [show v=V.int m from e1,show u=V.int n from e2],⟨by omega,by omega,by omega,by omega⟩,q _ H2 R2 E2 (s1.trans s2) (by rw [av];exact Nat.le_trans (show (n - m).toNat<=2000000 by omega) (by decide)) (oH m (n - m).toNat)⟩
theorem cK {body:List Stmt}{r:Rep α}(I:Nat->Ga->Prop)(hit:IV X tg iter Γ r xs Γ1)(hb:BG X tg r bf)(h0:I 0 Γ1)
 (hstep:∀(i:Nat) (x:α) (Γ:Ga),xs[i]?=some x->I i Γ->WS X body (bf x Γ) (I (i + 1)) T) (hend:∀Γ:Ga,I xs.length Γ->N Γ)
 (hc:X.calm=true:=by rfl) (hp:PassesOwn (model X.prog X.w) X.A X.env X.xe:=by exact PassesOwn.never) (hs:∀x,foldedSetIterable iter X.env x=pure x:=by intro _;rfl):W1 X (.For tg iter body [] pos) Γ N T:=λσ H0 R0 H R E D dn dr=>by
 obtain ⟨wi,hi,hit⟩:=hit
 refine sS (qW hp hc hi vd fq hs) (hit σ H0 R0 H R E _ λJ H1 R1 E1 s1 hz src=>?_)
 refine ⟨λi m σ' H'=>m=xs.length - i/\i<=xs.length/\∃R' Γ',ai X.K σ' H0 R0 H' R' Γ'/\aj R1 R'/\I i Γ',⟨_,rfl,Nat.zero_le _,R1,Γ1,E1,aj.refl _,h0⟩,?_⟩
 rintro i m σ' H' ⟨rfl,hle,R',Γ',E',s',hI⟩
 obtain ⟨sgo,sstop⟩:=src H' R' s' E'.sub i
 by_cases hlt:i < xs.length
 ·obtain ⟨go,yl⟩:=sgo _ (List.getElem?_eq_getElem hlt)
  refine .inr ⟨go,λσ' H'=>i + 1<=xs.length/\∃R' Γ',ai X.K σ' H0 R0 H' R' Γ'/\aj R1 R'/\I (i + 1) Γ',λσ2 H2 h=>⟨xs.length - (i + 1),by omega,rfl,h.1,h.2⟩,λv H2 hy=>?_⟩
  obtain ⟨R2,x2,hr⟩:=yl v H2 hy
  refine hb σ' H0 R0 H2 R2 Γ' v _ (E'.grow x2) hr _ λσ2 E2=>?_
  exact hstep i _ Γ' (List.getElem?_eq_getElem hlt) hI σ2 H0 R0 H2 R2 E2 _ (λσ3 H3 R3 Γ3 E3 s3 h3=>⟨hlt,R3,Γ3,E3,s'.trans (x2.r.trans s3),h3⟩) dr
 ·have e:i=xs.length:=by omega
  subst e
  exact .inl ⟨sstop (Nat.le_refl _),dn σ' H' R' Γ' E' (s1.trans s') (hend Γ' hI)⟩
def ig:Option Ent->Ent
 | some (.im r x)=>.im r x
 | _=>.no
def bc (own:List Str)(ix:List Nat)(Γ:Ga):Ga:=List.replicate own.length .no++ix.map λi=>ig Γ[i]?
theorem jm {K:PySem.W.Frag}{σ:St}{H0 R0 H R:Hp}(E:ai K σ H0 R0 H R Γ)(own:List Str)(ix:List Nat):ai K (cM own ix σ) H R H R (bc own ix Γ):=by
 have noown:∀(i:Nat) (e:Ent) (o:Option V),(bc own ix Γ)[i]?=some e->e.fp o=[]:=λi e o q=>by
  unfold bc at q
  rcases List.mem_append.mp (List.mem_of_getElem? q) with z | z
  ·obtain ⟨_,rfl⟩:=List.mem_replicate.mp z;rfl
  ·obtain ⟨k,_,rfl⟩:=List.mem_map.mp z
   unfold ig
   split<;>rfl
 refine ⟨Ext.refl E.sub,λi e q=>?_,λi e a q w=>absurd w (by rw [noown i e _ q];exact List.not_mem_nil),λi j e e' a q _ w=>absurd w (by rw [noown i e _ q];exact List.not_mem_nil),by unfold bc cM;simp⟩
 unfold bc at q
 unfold cM
 by_cases hi:i < own.length
 ·rw [List.getElem?_append_left (by simpa using hi),List.getElem?_replicate] at q
  rw [if_pos hi] at q
  cases q;trivial
 ·rw [List.getElem?_append_right (by simpa using hi),List.length_replicate,List.getElem?_map] at q
  rw [List.getElem?_append_right (by simpa using hi),List.length_replicate,List.getElem?_map]
  cases ek:ix[i - own.length]? with
  | none=>rw [ek] at q;cases q
  | some k=>
    rw [ek] at q
    have q':ig Γ[k]?=e:=Option.some.inj q
    subst q'
    show (ig Γ[k]?).ok K H R (σ[k]?).join
    cases eg:Γ[k]? with
    | none=>trivial
    | some e=>
      cases e with
      | im r x=>exact E.ent k _ eg
      | no=>trivial
      | mu r x=>trivial
      | di x=>trivial
      | ob x=>trivial
theorem h7 {own:List Str}{J:It}{σ:St}{H0 R0 H1 R1:Hp}{Q:VK}(E1:ai X.K σ H0 R0 H1 R1 Γ1)(src:Src X.K J R1 ra xs)(hz:xs.length<=sizeLine)
 (hb:∀(C:Addr) (s:Shared) (H:Hp) (ex:List Addr),BG (aq X scope cl C (own++fr) s H ex) tg ra bf) (hw:∀x,Wk (bf x (bc own ix Γ1)) (bc own ix Γ1))
 (ht:∀(C:Addr) (s:Shared) (H:Hp) (ex:List Addr) x,x∈xs->TF (aq X scope cl C (own++fr) s H ex) ifs (bf x (bc own ix Γ1)) (p x) (bf x (bc own ix Γ1)))
 (he:∀(C:Addr) (s:Shared) (H:Hp) (ex:List Addr) x,x∈xs->p x=true->EV (aq X scope cl C (own++fr) s H ex) elt (bf x (bc own ix Γ1)) rb (f x) (bf x (bc own ix Γ1)))
 (q:∀a vs H' R',Ext H1 R1 H' R'->H' a=none->PySem.Paired (rb.R X.K R') vs ((xs.filter p).map f)->Q (.ref a) (upd H' a (.lst vs))):
 ∃W:Nat->Nat->List V->St->Hp->Prop,(∃m,W 0 m [] (cM own ix σ) H1)/\∀i m ys σ' H',W i m ys σ' H'->
  ys.length<=sizeLine/\((J.stop i H'/\∀p,H' p=none->Q (.ref p) (upd H' p (.lst ys)))∨
  (J.go i H'/\∀x H2,J.yld i H' x H2->(λv σ H Q=>∀C s Hh ex,dX (aq X scope cl C (own++fr) s Hh ex) tg v σ H Q:TG) x σ' H2 λσ2 H3=>(λσ H Q=>∀C s Hh ex,eC (aq X scope cl C (own++fr) s Hh ex) ifs σ H Q:TT) σ2 H3 λb H4=>
    if b=true then (λσ H Q=>∀C s Hh ex,cN (aq X scope cl C (own++fr) s Hh ex) elt σ H Q:TE) σ2 H4 λv H5=>∃m',m' < m/\W (i + 1) m' (ys++[v]) σ2 H5 else∃m',m' < m/\W (i + 1) m' ys σ2 H4)):=by
 refine ⟨λi m ys σ' H'=>m=xs.length - i/\i<=xs.length/\∃R',ai X.K σ' H1 R1 H' R' (bc own ix Γ1)/\PySem.Paired (rb.R X.K R') ys (((xs.take i).filter p).map f),⟨_,rfl,Nat.zero_le _,R1,jm E1 own ix,.nil⟩,?_⟩
 rintro i m ys σ' H' ⟨rfl,hle,R',E',pp⟩
 have hys:ys.length<=sizeLine:=by
  rw [pp.length,List.length_map]
  refine Nat.le_trans (List.length_filter_le _ _) (Nat.le_trans ?_ hz)
  rw [List.length_take];omega
 obtain ⟨sgo,sstop⟩:=src H' R' E'.ext.r E'.sub i
 refine ⟨hys,?_⟩
 by_cases hlt:i < xs.length
 ·obtain ⟨go,yl⟩:=sgo _ (List.getElem?_eq_getElem hlt)
  have hmem:xs[i]∈xs:=List.getElem_mem hlt
  have tk:(xs.take (i + 1))=xs.take i++[xs[i]]:=by rw [List.take_succ,List.getElem?_eq_getElem hlt];rfl
  refine .inr ⟨go,λv H2 hy C s Hh ex=>?_⟩
  obtain ⟨R2,x2,hr⟩:=yl v H2 hy
  refine hb C s Hh ex σ' H1 R1 H2 R2 _ v _ (E'.grow x2) hr _ λσ2 E2=>?_
  intro C s Hh ex
  refine ht C s Hh ex _ hmem σ2 H1 R1 H2 R2 E2 _ λH4 R4 E4 s4=>?_
  cases hpx:p xs[i] with
  | false=>
    rw [if_neg Bool.false_ne_true]
    refine ⟨xs.length - (i + 1),by omega,rfl,hlt,R4,E4.weak (hw _),?_⟩
    rw [tk,List.filter_append,List.filter_cons,hpx,if_neg Bool.false_ne_true,List.filter_nil,List.append_nil]
    exact Paired.map (λ_ _=>rb.mono (x2.r.trans s4)) pp
  | true=>
    rw [if_pos rfl]
    intro C s Hh ex
    refine he C s Hh ex _ hmem hpx σ2 H1 R1 H4 R4 E4 _ λw H5 R5 E5 s5 e5=>?_
    refine ⟨xs.length - (i + 1),by omega,rfl,hlt,R5,E5.weak (hw _),?_⟩
    rw [tk,List.filter_append,List.filter_cons,hpx,if_pos rfl,List.filter_nil,List.map_append]
    exact bE (Paired.map (λ_ _=>rb.mono (x2.r.trans (s4.trans s5))) pp) (.cons e5 .nil)
 ·have e:i=xs.length:=by omega
  subst e
  rw [List.take_length] at pp
  exact .inl ⟨sstop (Nat.le_refl _),λa ha=>q a ys H' R' E'.ext ha pp⟩
theorem aT {own:List Str}
 (S:cf X scope cl own fr ix) (hit:IV X tg iter Γ ra xs Γ1)
 (hb:∀(C:Addr) (s:Shared) (H:Hp) (ex:List Addr),BG (aq X scope cl C (own++fr) s H ex) tg ra bf) (hw:∀x,Wk (bf x (bc own ix Γ1)) (bc own ix Γ1))
 (ht:∀(C:Addr) (s:Shared) (H:Hp) (ex:List Addr) x,x∈xs->TF (aq X scope cl C (own++fr) s H ex) ifs (bf x (bc own ix Γ1)) (p x) (bf x (bc own ix Γ1)))
 (he:∀(C:Addr) (s:Shared) (H:Hp) (ex:List Addr) x,x∈xs->p x=true->EV (aq X scope cl C (own++fr) s H ex) elt (bf x (bc own ix Γ1)) rb (f x) (bf x (bc own ix Γ1)))
 (hc:X.calm=true:=by rfl) (hs:∀x,foldedSetIterable iter X.env x=pure x:=by intro _;rfl):aU X (.ListComp elt [⟨tg,iter,ifs,0⟩] scope pos) Γ rb ((xs.filter p).map f) Γ1:=by
 intro σ H0 R0 H R E Q q
 obtain ⟨wi,hi,hit⟩:=hit
 refine eS (iJ (g:=λv σ H Q=>∀C s Hh ex,dX (aq X scope cl C (own++fr) s Hh ex) tg v σ H Q) (tc:=λσ H Q=>∀C s Hh ex,eC (aq X scope cl C (own++fr) s Hh ex) ifs σ H Q) (te:=λσ H Q=>∀C s Hh ex,cN (aq X scope cl C (own++fr) s Hh ex) elt σ H Q) hc S hi
  (λC s H ex=>⟨λpins s1 σ H v u Q I r h=>h C s _ ex pins s1 u I r,λpins s1 σ H Q I h=>h C s _ ex pins s1 I,λpins s1 σ H Q I h=>h C s _ ex pins s1 I⟩) hs) ?_
 refine hit σ H0 R0 H R E _ λJ H1 R1 E1 s1 hz src=>h7 E1 src hz hb hw ht he λa vs H' R' xx ha pp=>?_
 have E2:=E1.grow xx
 exact q a vs _ R' (E2.grow (Ext.bW E2.sub ha _)) (s1.trans xx.r) ar (E2.sub.free ha) (E2.ext.h.free ha) (E2.off ha) pp (by
  rw [List.length_map];exact Nat.le_trans (List.length_filter_le _ _) hz)
theorem rD (i:Nat){y:Str}{py spos:Pos}{own:List Str}
 (S:cf X scope cl own fr ix) (hit:IV X tg iter Γ ra xs Γ1)
 (hb:∀(C:Addr) (s:Shared) (H:Hp) (ex:List Addr),BG (aq X scope cl C (own++fr) s H ex) tg ra bf) (hw:∀x,Wk (bf x (bc own ix Γ1)) (bc own ix Γ1))
 (ht:∀(C:Addr) (s:Shared) (H:Hp) (ex:List Addr) x,x∈xs->TF (aq X scope cl C (own++fr) s H ex) ifs (bf x (bc own ix Γ1)) (p x) (bf x (bc own ix Γ1)))
 (he:∀(C:Addr) (s:Shared) (H:Hp) (ex:List Addr) x,x∈xs->p x=true->EV (aq X scope cl C (own++fr) s H ex) elt (bf x (bc own ix Γ1)) rb (f x) (bf x (bc own ix Γ1)))
 (h:N (Γ1.set i (.mu rb ((xs.filter p).map f))))
 (hsw:swapsWith (.ListComp elt [⟨tg,iter,ifs,0⟩] scope pos) (some (.Name y py)) spos.line X.env=pure true:=by rfl)
 (hN:X.N.Nodup:=by first | assumption | decide) (hi':X.N[i]?=some y:=by rfl) (hx:Loc X.env.scope y:=by first | exact Or.inl rfl | exact Or.inr rfl)
 (hc:X.calm=true:=by rfl) (hs:∀x,foldedSetIterable iter X.env x=pure x:=by intro _;rfl) (hf:X.fn y=true∨X.env.scope.names.lookup y=some .local:=by first | exact .inl rfl | exact .inr rfl):
 W1 X (.Assign [.Name y py] (.ListComp elt [⟨tg,iter,ifs,0⟩] scope pos) spos) Γ N T:=λσ H0 R0 H R E D dn dr=>by
 obtain ⟨wi,hi,hit⟩:=hit
 refine sS (gQ (i:=i) (g:=λv σ H Q=>∀C s Hh ex,dX (aq X scope cl C (own++fr) s Hh ex) tg v σ H Q) (tc:=λσ H Q=>∀C s Hh ex,eC (aq X scope cl C (own++fr) s Hh ex) ifs σ H Q) (te:=λσ H Q=>∀C s Hh ex,cN (aq X scope cl C (own++fr) s Hh ex) elt σ H Q) hsw hN hi' hx hc S hi
  (λC s H ex=>⟨λpins s1 σ H v u Q I r h=>h C s _ ex pins s1 u I r,λpins s1 σ H Q I h=>h C s _ ex pins s1 I,λpins s1 σ H Q I h=>h C s _ ex pins s1 I⟩) hs hf) ?_
 refine hit σ H0 R0 H R E _ λJ H1 R1 E1 s1 hz src=>h7 (Q:=λv H'=>D.nx (σ.set i (some v)) H') E1 src hz hb hw ht he λa vs H' R' xx ha pp=>?_
 have E2:=E1.grow xx
 exact dn _ _ R' _ ((E2.grow (Ext.bW E2.sub ha _)).du (u:=.lst vs) (en:=.mu rb ((xs.filter p).map f)) i ⟨a,vs,rfl,ar,E2.sub.free ha,pp⟩ (E2.ext.h.free ha) λj e _ q w=>E2.off ha j e q w) (s1.trans xx.r) h
end
section
variable {X:Cx}{Γ Γ1 Γ2 Γ3:Ga}{α β γ δ:Type}{N:Ga->Prop}{T:RT}
variable {r:Rep α}{xs:List α}{pins:List (Addr×Obj)}{σ:St}{H:Hp}{s:Shared}{n:Nat}{K:PySem.W.Frag}{a:Addr}{A:Around}{R:Hp}{ys:List α}{es:List Expr}{tp p pos:Pos}{b:Addr}
theorem oh {h':Heap}{t':Nat}{fp:List Addr}(I:Inv X pins σ H s)(k:∀b o,b∉fp->s.heap.get? b=some o->h'.get? b=some o)(hf:∀b∈fp,gH X pins H b):Inv X pins σ H {s with heap:=h',toks:=t'}:=by
 have nit:∀b u,H b=some u->b∉fp:=λb u e z=>by rw [(hf b z).1] at e;cases e
 refine I.step (g':=s.gens) (d':=s.drawn) (ch:=fp) (λb hb=>⟨(hf b hb).2.2.2.1,(hf b hb).2.1,(hf b hb).2.2.2.2.1,(hf b hb).2.2.2.2.2⟩) (λb o _ _ hc e _=>k b o hc e) (λb o _ _ hc e _=>⟨o.slots,k b o hc e⟩) (λ_ _ _ _ n=>n)
  (λb o hc e=>⟨o,k b o hc e⟩) (λ_ _ e=>e) (λ_ _ _ e=>e) (λb ps e=>⟨#[],by rw [e];simp⟩) (λm hm=>?_) (λb u e=>?_) I.bare
 ·obtain ⟨o,es,ep,ho,r⟩:=hm
  exact ⟨o,es,ep,k _ o (λz=>(hf _ z).2.1 rfl) ho,r⟩
 ·refine (I.hok b u e).ic (λc v hc q=>k c v ?_ q) (λ_ q=>q) λ_ _ q=>q
  rcases hc with z | z
  ·rw [z];exact nit b u e
  ·exact nit c _ z
theorem adopt {o:HO}(I:Inv X pins σ H s)(hf:gH X pins H a)(hy:X.s₀.heap.objs.size<=a)(new:bM X.prog X.w (upd H a o) s.heap a o):Inv X pins σ (upd H a o) s:=by
 have ne:∀{b:Addr} {u:HO},H b=some u->b≠a:=λe=>bV e hf.1
 have ne0:∀{b:Addr} {u:Obj},X.s₀.heap.get? b=some u->b≠a:=λe z=>absurd (Nat.lt_of_lt_of_le (Heap.lt_size e) hy) (by rw [z];exact Nat.lt_irrefl _)
 refine ⟨I.ok,I.os,I.bare,⟨I.base.keep,I.base.slot,λb u e n hx=>by rw [ay (ne0 e)];exact I.base.free b u e n hx,I.base.there,λb xs e=>?_,λb u v e=>?_,λb ps e=>?_⟩,I.loc,I.cell,?_,λx c e=>?_,λp hp=>?_,λb u e=>?_,I.len⟩
 ·have q:=I.base.tups b xs e;rw [ay (ne q)];exact q
 ·have q:=I.base.frzs b u v e;rw [ay (ne q)];exact q
 ·obtain ⟨m,q⟩:=I.base.tbls b ps e;exact ⟨m,by rw [ay (ne q)];exact q⟩
 ·rw [ay (Ne.symm hf.2.1)];exact I.free
 ·rw [ay (hf.2.2.2.2.1 x c e)];exact I.freeC x c e
 ·obtain ⟨e,n,r⟩:=I.pin p hp
  exact ⟨e,by rw [ay (hf.2.2.2.2.2 p hp)];exact n,r⟩
 ·by_cases hb:b=a
  ·subst hb;rw [ar] at e;cases e;exact new
  ·rw [ay hb] at e
   exact (I.hok b u e).ic (λc v _ q=>q) (λc q=>by rw [ay (ne q)];exact q) λc xs q=>by rw [ay (ne q)];exact q
def Bp (K:PySem.W.Frag)(a:Addr):It:=
 ⟨λi H=>∃xs x,aH K H a xs/\xs[i]?=some x,λi H v H'=>∃p x,H p=none/\v= .ref p/\H'=upd H p (.tup [.int i,x])/\∀xs,aH K H a xs->xs[i]?=some x,λi H=>∃xs,aH K H a xs/\xs.length<=i⟩
theorem r8 {P:Program}{w:World}{k:Nat}(a e it:Addr)(hei:e≠it):Turn P w K (.Tuple es k tp) (Bp K a) [e,it] e (λi h=>(∃old,IsEnum h e it i old)/\h.IsListIter it a i) where
 mem:=by simp
 obj:=λi h st b hb=>by
  obtain ⟨⟨old,he⟩,o,ho,hc,hd⟩:=st
  rcases List.mem_cons.mp hb with rfl | hb
  ·exact ⟨_,he,λv z=>by cases z⟩
  ·have e2:b=it:=by simpa using hb
   subst e2
   exact ⟨o,ho,λv z=>by rw [hd] at z;cases z⟩
 keep:=λi h h' st kk=>⟨st.1.elim λold he=>⟨old,kk e (by simp) _ he⟩,st.2.at λo x=>kk it (by simp) o x⟩
 item:=by
  intro X hP hw hK hc i pins s σ H E I hf st hg
  subst hP hw hK
  obtain ⟨⟨old,he⟩,hit⟩:=st
  obtain ⟨xs,x,hq,hx⟩:=hg
  obtain ⟨its,r,pl,hz⟩:=I.list hq
  obtain ⟨u,hu,rx⟩:=r.get hx
  have hn:H s.heap.objs.size=none:=I.hok.fresh (Nat.le_refl _)
  refine wpAny_pyNext_enum_item he hit pl.isList (x:=u) (by simpa using hu) hei λh' ho hit' hT hsz hk=>?_
  refine ⟨_,rfl,?_⟩
  refine wpAny_letOwnedTupleGo_enum (s:={s with heap:=h',toks:=s.toks + 1}) ho λh2 he2 hs2=>?_
  have hk2:∀b o,b∉[e,it]->s.heap.get? b=some o->h2.get? b=some o:=λb o hb q=>by
   have hbe:b≠e:=λz=>hb (by simp [z])
   exact hs2.extBut b o hbe (hk b o hbe (λz=>hb (by simp [z])) q)
  have I1:Inv X pins σ H {s with heap:=h2,toks:=s.toks + 1}:=oh I hk2 hf
  have hel:e≠s.heap.objs.size:=Nat.ne_of_lt (Heap.lt_size he)
  have hT2:h2.get? s.heap.objs.size=some {cls:=.type "tuple",data:=.seq #[.int i s.toks,u]}:=(hs2.2 _ (Ne.symm hel)).trans hT
  have I2:Inv X pins σ (upd H s.heap.objs.size (.tup [.int i,x])) {s with heap:=h2,toks:=s.toks + 1}:=
   adopt I1 (I.kI (Nat.le_refl _) hn) (I.sz) ⟨by show 2<=sizeLine;decide,[.int i s.toks,u],.cons ⟨_,rfl⟩ (.cons rx .nil),⟨_,hT2,rfl,_,rfl⟩⟩
  refine ⟨.ref s.heap.objs.size,_,I2,rfl,⟨s.heap.objs.size,x,hn,rfl,rfl,λys hy=>?_⟩,⟨⟨u,by simpa using he2⟩,hit'.at λo y=>(hs2.2 it (Ne.symm hei)).trans y⟩,λb hb=>?_⟩
  ·rw [I.nq hy hq];exact hx
  ·have hlt:b < s.heap.objs.size:=by
    rcases List.mem_cons.mp hb with rfl | hb
    ·exact Heap.lt_size he
    ·have e2:b=it:=by simpa using hb
     subst e2
     obtain ⟨o,ho,_⟩:=hit
     exact Heap.lt_size ho
   rw [ay (Nat.ne_of_lt hlt)]
   exact (hf b hb).1
 done:=by
  intro X hP hw hK hc i pins s σ H E I hf st hg
  subst hP hw hK
  obtain ⟨⟨old,he⟩,hit⟩:=st
  obtain ⟨xs,hq,hx⟩:=hg
  obtain ⟨its,r,pl,hz⟩:=I.list hq
  refine wpAny_pyNext_enum_end (I.ok.hd hc) he hit pl.isList (by have:=r.length;simp;omega) λh' hk=>⟨rfl,?_⟩
  exact oh (t':=s.toks) I (λb o hb q=>hk b o (λz=>hb (by simp [z])) q) hf
 self:=λ_ _ _ _ _ st h=>st.1.elim λold he=>wpAny_pyIter_enum he h
def Az (K:PySem.W.Frag)(ta:TA):TI:=λσ H R=>ta σ H λvs H1=>∃a xs,vs=[.ref a]/\aH K H1 a xs/\R (Bp K a) H1
theorem wQ {a:Expr}{ta:TA}{k:Nat}(hg:Gl X "enumerate")(hm:X.mg "enumerate"=none)(ha:PA X [a] ta)(hs:starEach [a] X.env=[(false,eval a X.env)]:=by rfl):PI X (.Tuple es k tp) (.Call (.Name "enumerate" p) [a] [] pos) (Az X.K ta):=by
 intro pins s σ H R I h
 refine Call_ (eU I hg hm boot_enumerate (PyProof.Rows.callWith_type1 (aG (ha pos pins s σ H _ I h) λus s1 ⟨vs,H1,I1,r1,q1⟩=>?_) hs rfl))
 obtain ⟨l,xs,e,hq,q⟩:=q1
 subst e
 cases r1 with
 | cons r rr=>
   cases rr
   cases r
   obtain ⟨its,r',pl,hz⟩:=I1.list hq
   refine call_enumerate_list pl.isList λh' he hit hsz hk=>?_
   refine wpAny_pyIter_enum he ?_
   have I2:Inv X pins σ H1 {s1 with heap:=h'}:=I1.kept (t':=s1.toks) hk
   have f0:H1 s1.heap.objs.size=none:=I1.hok.fresh (Nat.le_refl _)
   have f1:H1 (s1.heap.objs.size + 1)=none:=I1.hok.fresh (Nat.le_succ _)
   refine ⟨s1.heap.objs.size + 1,[s1.heap.objs.size + 1,s1.heap.objs.size],_,_,H1,rfl,I2,r8 l (s1.heap.objs.size + 1) s1.heap.objs.size (Nat.ne_of_gt (Nat.lt_succ_self _)),⟨⟨.none,he⟩,hit⟩,λb hb=>?_,q⟩
   rcases List.mem_cons.mp hb with rfl | hb
   ·exact I1.kI (Nat.le_succ _) f1
   ·have e2:b=s1.heap.objs.size:=by simpa using hb
    subst e2
    exact I1.kI (Nat.le_refl _) f0
def nums (xs:List α):List (Int×α):=(xs.zipIdx).map λp=>((p.2:Int),p.1)
theorem eK (xs:List α):(nums xs).length=xs.length:=by unfold nums;rw [List.length_map,List.length_zipIdx]
theorem iN {i:Nat}{y:Int×α}(h:(nums xs)[i]?=some y):y.1=(i:Int)/\xs[i]?=some y.2:=by
 unfold nums at h
 rw [List.getElem?_map,List.getElem?_zipIdx] at h
 cases e:xs[i]? with
 | none=>rw [e] at h;cases h
 | some x=>rw [e] at h;cases h;exact ⟨by simp,rfl⟩
theorem kP {a:Expr}{k:Nat}(hm:X.mg "enumerate"=none)(ha:EV X a Γ (ae r) xs Γ1)(hs:starEach [a] X.env=[(false,eval a X.env)]:=by rfl)(hg:Gl X "enumerate":=by rfl):
 IV X (.Tuple es k tp) (.Call (.Name "enumerate" p) [a] [] pos) Γ (az ab r) (nums xs) Γ1:=by
 refine ⟨_,wQ hg hm (aQ aD bF hs) hs,λσ H0 R0 H R E Rq q=>ha σ H0 R0 H R E _ λv H1 R1 E1 s1 e1=>?_⟩
 obtain ⟨a,vs,rfl,hp,pp,z⟩:=e1
 refine ⟨a,vs,rfl,aH.of (E1.sub _ _ hp),q _ H1 R1 E1 s1 (by rw [eK];exact z) λH' R' sR sH i=>⟨λy hy=>?_,λhi=>?_⟩⟩
 ·have hq:aH X.K H' a vs:=aH.of (sH _ _ (sR _ _ hp))
  obtain ⟨e1,e2⟩:=iN hy
  obtain ⟨v,hv,hr⟩:=cX pp e2
  refine ⟨⟨vs,v,hq,hv⟩,λv' H2 hyl=>?_⟩
  obtain ⟨p,x,hpn,rfl,rfl,hy⟩:=hyl
  have:=hy vs hq
  rw [hv] at this
  cases this
  have s2:aj R' (upd R' p (.tup [.int i,v])):=aj.fresh (sH.free hpn) _
  exact ⟨upd R' p (.tup [.int i,v]),Ext.fresh sH hpn _,p,_,_,rfl,ar,by rw [e1];rfl,r.mono s2 (r.mono sR hr)⟩
 ·exact ⟨vs,aH.of (sH _ _ (sR _ _ hp)),by rw [pp.length,← eK xs];exact hi⟩
theorem nW:c4 X (.builtin "isinstance") (λxs H Q=>∃x c t b,xs=[x,.ty c]/\dc X.K H x t/\PySem.W.kitOne X.K t (.type c)=some b/\Q (.bl b) H):=by
 intro pins s σ H xs us Q I r h
 obtain ⟨x,c,t,b,rfl,ty,e,q⟩:=h
 obtain ⟨u,u2,rfl,r1,r2⟩:=vals2 r
 cases (show u2=Value.type c from r2)
 exact sk I r1 ty e λtk=>⟨.bl b,H,I.tok tk,rfl,q⟩
theorem cF {e:Expr}{y:Str}{p2:Pos}{x:α}{c:String}{t:Value}{b:Bool}(hm:X.mg "isinstance"=none)(hmy:X.mg y=none)(hvy:bootBuiltins y=some (.type c))(he:EV X e Γ r x Γ1)
 (ty:∀(R H:Hp) v,aj R H->r.R X.K R v x->dc X.K H v t) (ht:∀K:PySem.W.Frag,PySem.W.kitOne K t (.type c)=some b:=by intro;rfl)
 (hs:starEach [e,.Name y p2] X.env=(false,eval e X.env)::starEach [.Name y p2] X.env:=by rfl) (hg:Gl X "isinstance":=by rfl) (hgy:Gl X y:=by rfl) (hny:y≠"__name__":=by decide) (hdy:(y==("__debug__":Str))=false:=by decide):EV X (.Call (.Name "isinstance" p) [e,.Name y p2] [] pos) Γ aF b Γ1:=by
 intro σ H0 R0 H R E Q q
 refine eS (cZ nW hg hm PyProof.Rows.boot_isinstance (aQ aD (aQ (vY (v:=.ty c) hgy hmy hvy rfl hny hdy) bF rfl) hs) (by decide) (by decide) hs rfl) (he σ H0 R0 H R E _ λv H1 R1 E1 s1 e1=>?_)
 exact ⟨v,c,t,b,rfl,ty R1 H1 v E1.sub e1,ht _,q _ H1 R1 E1 s1 rfl⟩
theorem ty_int {x:Int}(R H:Hp)(v:V)(_:aj R H)(h:ab.R K R v x):dc K H v (.type "int"):=by cases h;exact .int _
theorem ty_list (R H:Hp)(v:V)(s:aj R H)(h:(ae r).R K R v xs):dc K H v (.type "list"):=by obtain ⟨a,vs,rfl,e,_⟩:=h;exact .lst (s _ _ e)
theorem vD {r':Rep β}{x:α×β}(R H:Hp)(v:V)(s:aj R H)(h:(az r r').R K R v x):dc K H v (.type "tuple"):=by obtain ⟨a,_,_,rfl,e,_⟩:=h;exact .tup (s _ _ e)
theorem zj {x:Row}(R H:Hp)(v:V)(s:aj R H)(h:aB.R K R v x):dc K H v (.type "tuple"):=by obtain ⟨a,rfl,e⟩:=h;exact .tup (s _ _ e)
structure dg (r:Rep α) [DecidableEq α] (n:Nat):Prop where
 inj:∀{K:PySem.W.Frag} {R:Hp} {v:V} {x y:α},r.R K R v x->r.R K R v y->x=y
 eq:∀{X:Cx} {pins:List (Addr×Obj)} {σ:St} {H:Hp} {s:Shared} {R:Hp} {A:Around} (I:Inv X pins σ H s) (sub:aj R H) {v u:V} {vv uu:Value} {x y:α},RelV v vv->RelV u uu->r.R X.K R v x->r.R X.K R u y->A.units + n < cLine->SeqAt.EqAt A s vv uu (decide (x=y))
theorem eq_int:dg ab 0:=by
 refine ⟨by rintro K R v x y h1 h2;cases h1;cases h2;rfl,?_⟩
 intro X pins σ H s R A I sub v u vv uu x y rv ru h1 h2 hu
 cases h1
 cases h2
 obtain ⟨t,rfl⟩:=rv
 obtain ⟨t',rfl⟩:=ru
 intro prog w E Q hq
 refine wpAny_eqBool_int ?_
 rw [Bool.beq_eq_decide_eq];exact hq
theorem in1_units (A:Around):A.in1.units=A.units + 1:=rfl
theorem la [DecidableEq α](e:dg r n){X:Cx}(I:Inv X pins σ H s)(sub:aj R H)(hu:A.units + n < cLine):
 ∀{vs ws:List V} {us us':List Value} {xs ys:List α},Vals vs us->Vals ws us'->PySem.Paired (r.R X.K R) vs xs->PySem.Paired (r.R X.K R) ws ys->∀(j:Nat) (h1:j < us.toArray.size) (h2:j < us'.toArray.size),SeqAt.EqAt A s us.toArray[j] us'.toArray[j] (decide (xs[j]?=ys[j]?)):=by
 intro vs ws us us' xs ys hv hw px py j h1 h2
 have h1':j < us.length:=by simpa using h1
 have h2':j < us'.length:=by simpa using h2
 have l1:j < vs.length:=by rw [hv.length];exact h1'
 have l2:j < ws.length:=by rw [hw.length];exact h2'
 obtain ⟨u,e1,r1⟩:=hv.get (List.getElem?_eq_getElem l1)
 obtain ⟨u',e2,r2⟩:=hw.get (List.getElem?_eq_getElem l2)
 obtain ⟨x,e3,q1⟩:=gD px (List.getElem?_eq_getElem l1)
 obtain ⟨y,e4,q2⟩:=gD py (List.getElem?_eq_getElem l2)
 rw [List.getElem?_eq_getElem h1'] at e1
 rw [List.getElem?_eq_getElem h2'] at e2
 have e1:=Option.some.inj e1
 have e2:=Option.some.inj e2
 have key:=e.eq (A:=A) I sub r1 r2 q1 q2 hu
 have d:decide (xs[j]?=ys[j]?)=decide (x=y):=by rw [e3,e4];simp
 rw [d]
 simp only [List.getElem_toArray]
 rw [e1,e2]
 exact key
theorem all_eq [DecidableEq α](h:xs.length=ys.length):((List.range xs.length).all λj=>decide (xs[j]?=ys[j]?))=decide (xs=ys):=by
 rw [Bool.eq_iff_iff,List.all_eq_true]
 simp only [List.mem_range,decide_eq_true_eq]
 constructor
 ·intro hh
  refine List.ext_getElem? λi=>?_
  by_cases hi:i < xs.length
  ·exact hh i hi
  ·have a1:xs[i]?=none:=List.getElem?_eq_none (by omega)
   have a2:ys[i]?=none:=List.getElem?_eq_none (by omega)
   rw [a1,a2]
 ·rintro rfl j _;rfl
theorem jQ {F:α->β->Prop}(inj:∀v x y,F v x->F v y->x=y):∀{vs:List α} {xs ys:List β},PySem.Paired F vs xs->PySem.Paired F vs ys->xs=ys
 | _,_,_,.nil,.nil=>rfl
 | _,_,_,.cons h t,.cons h' t'=>by rw [inj _ _ _ h h',jQ inj t t']
theorem kJ [DecidableEq α](e:dg r n){X:Cx}(I:Inv X pins σ H s)(sub:aj R H){vs ws:List V}(ha:R a=some (.lst vs))(hb:R b=some (.lst ws))(px:PySem.Paired (r.R X.K R) vs xs)(py:PySem.Paired (r.R X.K R) ws ys)(hu:A.units + (n + 1) < cLine):
 SeqAt.RcAt A s (.ref a) (.ref b) (decide (xs=ys))/\SeqAt.RcNeAt A s (.ref a) (.ref b) (!decide (xs=ys)):=by
 obtain ⟨us,hv,pl,_⟩:=I.list (aH.of (sub _ _ ha))
 obtain ⟨us',hw,pl',_⟩:=I.list (aH.of (sub _ _ hb))
 have lx:us.toArray.size=xs.length:=by rw [List.size_toArray,← hv.length,px.length]
 have ly:us'.toArray.size=ys.length:=by rw [List.size_toArray,← hw.length,py.length]
 by_cases hl:xs.length=ys.length
 ·have he:=la (A:=A.in1) e I sub (by rw [in1_units];omega) hv hw px py
  have r1:=SeqAt.RcAt.lists pl.isList pl'.isList (lx.trans (hl.trans ly.symm)) (by omega) he
  have r2:=SeqAt.RcNeAt.lists pl.isList pl'.isList (lx.trans (hl.trans ly.symm)) (by omega) he
  rw [lx,all_eq hl] at r1 r2
  exact ⟨r1,r2⟩
 ·have hne:(us.toArray.size != us'.toArray.size)=true:=by rw [lx,ly];simpa using hl
  have d:decide (xs=ys)=false:=decide_eq_false λz=>hl (by rw [z])
  rw [d]
  exact ⟨SeqAt.RcAt.lists_lengths pl.isList pl'.isList hne (by omega),SeqAt.RcNeAt.lists_lengths pl.isList pl'.isList hne (by omega)⟩
theorem eq_list [DecidableEq α](e:dg r n):dg (ae r) (n + 1):=by
 have inj:∀{K:PySem.W.Frag} {R:Hp} {v:V} {x y:List α},(ae r).R K R v x->(ae r).R K R v y->x=y:=by
  rintro K R v x y ⟨a,vs,rfl,h,p,_⟩ ⟨a',vs',e1,h',p',_⟩
  cases e1
  rw [h] at h'
  cases h'
  exact jQ (F:=r.R K R) (λ_ _ _ h1 h2=>e.inj h1 h2) p p'
 refine ⟨inj,?_⟩
 intro X pins σ H s R A I sub v u vv uu x y rv ru h1 h2 hu
 have h1':=h1
 have h2':=h2
 obtain ⟨a,vs,rfl,ha,px,_⟩:=h1
 obtain ⟨b,ws,rfl,hb,py,_⟩:=h2
 cases rv
 cases ru
 by_cases hab:a=b
 ·subst hab
  rw [decide_eq_true (inj h1' h2')]
  exact SeqAt.EqAt.same _
 ·exact SeqAt.EqAt.of_refs hab (kJ e I sub ha hb px py hu).1
theorem mm {X:Cx}(I:Inv X pins σ H s)(sub:aj R H){vs ws:List V}{k:Nat->Bool}(ha:R a=some (.tup vs))(hb:R b=some (.tup ws))(hl:vs.length=ws.length)(hu:A.units < cLine)
 (he:∀(us us':List Value),Vals vs us->Vals ws us'->∀(j:Nat) (h1:j < us.toArray.size) (h2:j < us'.toArray.size),SeqAt.EqAt A.in1 s us.toArray[j] us'.toArray[j] (k j)):
 SeqAt.RcAt A s (.ref a) (.ref b) ((List.range vs.length).all k)/\SeqAt.RcNeAt A s (.ref a) (.ref b) (!(List.range vs.length).all k):=by
 obtain ⟨us,hv,pl,_⟩:=I.tuple (cU.of (sub _ _ ha))
 obtain ⟨us',hw,pl',_⟩:=I.tuple (cU.of (sub _ _ hb))
 have lx:us.toArray.size=vs.length:=by rw [List.size_toArray,← hv.length]
 have ly:us'.toArray.size=vs.length:=by rw [List.size_toArray,← hw.length,hl]
 have r1:=SeqAt.RcAt.tuples (A:=A) pl pl' hu (he us us' hv hw)
 have r2:=SeqAt.RcNeAt.tuples (A:=A) pl pl' hu (he us us' hv hw)
 rw [lx,ly,Nat.min_self] at r1 r2
 simp only [beq_self_eq_true,Bool.and_true] at r1 r2
 exact ⟨r1,r2⟩
theorem x3 {X:Cx}(I:Inv X pins σ H s)(sub:aj R H){x y:Row}(ha:R a=some (.tup [.int x.1,.int x.2.1,.int x.2.2.1,.int x.2.2.2]))(hb:R b=some (.tup [.int y.1,.int y.2.1,.int y.2.2.1,.int y.2.2.2]))(hu:A.units + 1 < cLine):
 SeqAt.RcAt A s (.ref a) (.ref b) (decide (x=y)):=by
 have aints:∀ys:List Int,PySem.Paired (ab.R X.K R) (ys.map V.int) ys:=λys=>by
  induction ys with
  | nil=>exact .nil
  | cons y r ih=>exact .cons rfl ih
 have r1:=(mm (A:=A) I sub ha hb rfl (by omega) λus us' hv hw=>la (A:=A.in1) eq_int I sub (by rw [in1_units];omega) hv hw (aints [x.1,x.2.1,x.2.2.1,x.2.2.2]) (aints [y.1,y.2.1,y.2.2.1,y.2.2.2])).1
 have e1:=all_eq (xs:=[x.1,x.2.1,x.2.2.1,x.2.2.2]) (ys:=[y.1,y.2.1,y.2.2.1,y.2.2.2]) rfl
 have e2:decide ([x.1,x.2.1,x.2.2.1,x.2.2.2]=[y.1,y.2.1,y.2.2.1,y.2.2.2])=decide (x=y):=by
  obtain ⟨a1,a2,a3,a4⟩:=x
  obtain ⟨b1,b2,b3,b4⟩:=y
  simp
 rw [e2] at e1
 rw [← e1]
 exact r1
theorem sC:dg aB 1:=by
 have inj:∀{K:PySem.W.Frag} {R:Hp} {v:V} {x y:Row},aB.R K R v x->aB.R K R v y->x=y:=by
  rintro K R v x y ⟨a,rfl,h⟩ ⟨a',e1,h'⟩
  cases e1
  rw [h] at h'
  obtain ⟨a1,a2,a3,a4⟩:=x
  obtain ⟨b1,b2,b3,b4⟩:=y
  simp at h'
  simp [h']
 refine ⟨inj,?_⟩
 intro X pins σ H s R A I sub v u vv uu x y rv ru h1 h2 hu
 have h1':=h1
 have h2':=h2
 obtain ⟨a,rfl,ha⟩:=h1
 obtain ⟨b,rfl,hb⟩:=h2
 cases rv
 cases ru
 by_cases hab:a=b
 ·subst hab
  rw [decide_eq_true (inj h1' h2')]
  exact SeqAt.EqAt.same _
 ·exact SeqAt.EqAt.of_refs hab (x3 I sub ha hb hu)
theorem AY [DecidableEq α](e:dg r n)(hu:X.A.units + (n + 1) < cLine):eN X .Eq (ae r) (ae r) xs ys (decide (xs=ys)):=
 ⟨λv u H Q=>∃R,aj R H/\∃xs ys,(ae r).R X.K R v xs/\(ae r).R X.K R u ys/\Q (.bl (decide (xs=ys))) H,λpins s σ H x y v u Q I rx ry ⟨R,sub,xs,ys,h1,h2,q⟩=>by
  obtain ⟨a,vs,rfl,ha,px,_⟩:=h1
  obtain ⟨b,ws,rfl,hb,py,_⟩:=h2
  cases rx
  cases ry
  exact (kJ (A:=X.A) e I sub ha hb px py hu).1 _ _ _ _ ⟨.bl _,H,I,rfl,q⟩,λR H v u Q s h1 h2 q=>⟨R,s,xs,ys,h1,h2,q⟩⟩
theorem uW [DecidableEq α](e:dg r n)(hu:X.A.units + (n + 1) < cLine):eN X .NotEq (ae r) (ae r) xs ys (!decide (xs=ys)):=
 ⟨λv u H Q=>∃R,aj R H/\∃xs ys,(ae r).R X.K R v xs/\(ae r).R X.K R u ys/\Q (.bl (!decide (xs=ys))) H,λpins s σ H x y v u Q I rx ry ⟨R,sub,xs,ys,h1,h2,q⟩=>by
  obtain ⟨a,vs,rfl,ha,px,_⟩:=h1
  obtain ⟨b,ws,rfl,hb,py,_⟩:=h2
  cases rx
  cases ry
  exact (kJ (A:=X.A) e I sub ha hb px py hu).2 _ _ _ _ ⟨.bl _,H,I,rfl,q⟩,λR H v u Q s h1 h2 q=>⟨R,s,xs,ys,h1,h2,q⟩⟩
theorem Au {r':Rep β} [DecidableEq α] [DecidableEq β]{m:Nat}(e:dg r n)(e':dg r' m)(hu:X.A.units + (n + 1) < cLine)(hu':X.A.units + (m + 1) < cLine){x y:α×β}:eN X .NotEq (az r r') (az r r') x y (!decide (x=y)):=
 ⟨λv u H Q=>∃R,aj R H/\(az r r').R X.K R v x/\(az r r').R X.K R u y/\Q (.bl (!decide (x=y))) H,λpins s σ H v1 u1 v u Q I rx ry ⟨R,sub,h1,h2,q⟩=>by
  obtain ⟨a,v1,v2,rfl,ha,p1,p2⟩:=h1
  obtain ⟨b,w1,w2,rfl,hb,q1,q2⟩:=h2
  cases rx
  cases ry
  have key:=(mm (A:=X.A) (k:=λj=>if j=0 then decide (x.1=y.1) else decide (x.2=y.2)) I sub ha hb rfl (by omega) λus us' hv hw j h1 h2=>by
   cases hv with
   | cons a1 t=>cases t with
     | cons a2 t=>cases t;cases hw with
       | cons b1 t=>cases t with
         | cons b2 t=>
           cases t
           match j,h1 with
           | 0,_=>exact e.eq (A:=X.A.in1) I sub a1 b1 p1 q1 (by rw [in1_units];omega)
           | 1,_=>exact e'.eq (A:=X.A.in1) I sub a2 b2 p2 q2 (by rw [in1_units];omega)
           | j + 2,h=>exact absurd h (by simp)).2
  have d:(List.range [v1,v2].length).all (λj=>if j=0 then decide (x.1=y.1) else decide (x.2=y.2))=decide (x=y):=by
   obtain ⟨x1,x2⟩:=x
   obtain ⟨y1,y2⟩:=y
   simp [List.range_succ,Bool.eq_iff_iff]
  rw [d] at key
  exact key _ _ _ _ ⟨.bl _,H,I,rfl,q⟩,λR H v u Q s h1 h2 q=>⟨R,s,h1,h2,q⟩⟩
theorem kD:c4 X (.type "range") (λxs H Q=>∃n:Int,xs=[.int n]/\∀p,H p=none->Q (.ref p) (upd H p (.rng 0 n))):=by
 intro pins s σ H xs us Q I r h
 obtain ⟨n,rfl,q⟩:=h
 obtain ⟨u,rfl,t,rfl⟩:=vals1 r
 refine call_range_1 ?_
 exact ⟨.ref s.heap.objs.size,_,I.laid (o:=.rng 0 n) (λb o e=>Heap.get?_push_of_some _ e) (Nat.le_refl _) ⟨_,_,_,Heap.get?_push_size _ rfl⟩,rfl,q _ (I.hok.fresh (Nat.le_refl _))⟩
theorem mn (hc:X.calm=true):c4 X (.type "list") (λxs H Q=>∃(p:Addr) (m n:Int),xs=[.ref p]/\H p=some (.rng m n)/\ -1000000<=m/\m<=1000000/\ -1000000<=n/\n<=1000000/\∀d,H d=none->Q (.ref d) (upd H d (.lst ((ups m (n - m).toNat).map V.int)))):=by
 intro pins s σ H xs us Q I r h
 obtain ⟨p,m,n,rfl,hp,m1,m2,n1,n2,q⟩:=h
 obtain ⟨u,rfl,rx⟩:=vals1 r
 cases rx
 obtain ⟨t,t2,t3,ho⟩:=I.hok p _ hp
 have hsz:Builtin.Range.rangeSize m n 1=(((n - m).toNat:Nat):Int):=by rw [rangeSize_one];split<;>omega
 refine call_list_range (I.ok.hd hc) ho (small_one (by omega) (by omega) (by omega) (by omega)) hsz (by omega) λh' tk acc c' hk hS hacc=>?_
 have vals:Vals ((ups m (n - m).toNat).map V.int) acc.toList:=by
  have key:∀(k:Nat) (its:List Value) (lo:Int),its.length=k->(∀(j:Nat) v,its[j]?=some v->∃t,v= .int (lo + (j:Int) * 1) t)->Vals ((ups lo k).map V.int) its:=by
   intro k
   induction k with
   | zero=>intro its lo hl _;cases its with
     | nil=>exact .nil
     | cons _ _=>cases hl
   | succ k ih=>
     intro its lo hl hv
     cases its with
     | nil=>cases hl
     | cons v r=>
       have e:ups lo (k + 1)=lo::ups (lo + 1) k:=by
        unfold ups
        rw [List.range_succ_eq_map,List.map_cons,List.map_map]
        congr 1
        ·simp
        ·apply List.map_congr_left;intro a _;simp;omega
       rw [e,List.map_cons]
       obtain ⟨t,e0⟩:=hv 0 v rfl
       refine .cons ⟨t,by rw [e0];simp⟩ (ih r (lo + 1) (by simpa using hl) λj v hj=>?_)
       obtain ⟨t,ej⟩:=hv (j + 1) v (by simpa using hj)
       exact ⟨t,by rw [ej];congr 1;push_cast;omega⟩
  refine key _ _ m (by rw [Array.length_toList];exact hacc.1) λj v hj=>hacc.2 j v (by simpa using hj)
 exact ⟨.ref _,_,I.laid (a:=s.heap.objs.size) (o:=.lst ((ups m (n - m).toNat).map V.int)) hk (Nat.le_refl _) ⟨by rw [List.length_map,av];exact Nat.le_trans (show (n - m).toNat<=2000000 by omega) (by decide),acc.toList,c',vals,by rw [hS]⟩,rfl,q _ (I.hok.fresh (Nat.le_refl _))⟩
end
def kT (scope:Scope)(env:Env):List (Str×Addr):=(scope.names.filterMap λp=>if p.2== .free then (env.cells.lookup p.1).map (λc=>(p.1,c)) else none).reverse
theorem jC {env:Env}:∀(names:List (Str×NameKind)) (acc:List (Str×Addr)),(∀y∈names,y.2= .free->∃c,env.cells.lookup y.1=some c)->
 (forIn names acc λ(x:Str×NameKind) (r:List (Str×Addr))=>if (x.2==NameKind.free)=true then do let a ← cellOf env x.1;pure (ForInStep.yield ((x.1,a)::r)) else pure (ForInStep.yield r):Sem (List (Str×Addr)))
  =pure ((names.filterMap λp=>if p.2== .free then (env.cells.lookup p.1).map (λc=>(p.1,c)) else none).reverse++acc)
 | [],acc,_=>rfl
 | (n,k)::r,acc,h=>by
   have ih:=jC (env:=env) r
   rw [List.forIn_cons,List.filterMap_cons]
   cases hk:(k==NameKind.free) with
   | false=>
     simp only [hk,Bool.false_eq_true,if_false]
     rw [pure_bind]
     exact ih acc λy hy=>h y (List.mem_cons_of_mem _ hy)
   | true=>
     obtain ⟨c,hc⟩:=h (n,k) List.mem_cons_self (eq_of_beq hk)
     have hcell:cellOf env n=pure c:=by unfold cellOf;rw [hc]
     simp only [hk,if_true,hc,Option.map_some,hcell]
     rw [pure_bind,pure_bind]
     show forIn r ((n,c)::acc) _=_
     rw [ih ((n,c)::acc) λy hy=>h y (List.mem_cons_of_mem _ hy)]
     simp
theorem pJ {X:Cx}{scope:Scope}{own fr:List Str}{ix:List Nat}(hk:scope.kind= .function)(hn:∀y∈scope.names,y.2≠ .cell)(hl:∀y∈scope.names,y.2= .local->scope.names.lookup y.1=some .local)
 (hc:∀x,X.env.scope.names.lookup x=some .cell->∃c,X.env.cells.lookup x=some c) (hf:∀y∈scope.names,y.2= .free->X.env.scope.names.lookup y.1=some .cell)
 (hfr:∀x∈fr,scope.names.lookup x=some .free) (hlen:fr.length=ix.length) (hat:∀(k i:Nat) (x:Str),ix[k]?=some i->fr[k]?=some x->X.N[i]?=some x):cf X scope (kT scope X.env) own fr ix:=by
 have free:∀y∈scope.names,y.2= .free->∃c,X.env.cells.lookup y.1=some c:=λy hy e=>hc _ (hf y hy e)
 refine ⟨?_,λx c e=>?_,hk,hn,hl,λx e=>?_,hfr,hlen,λk i x e1 e2=>⟨hat k i x e1 e2,hf (x,.free) (PySem.mem_of_lookup (hfr x (List.mem_of_getElem? e2))) rfl⟩⟩
 ·have:=jC (env:=X.env) scope.names [] free
  rw [List.append_nil] at this
  have e:closureFor scope X.env=((forIn scope.names [] λ(x:Str×NameKind) (r:List (Str×Addr))=>if (x.2==NameKind.free)=true then do let a ← cellOf X.env x.1;pure (ForInStep.yield ((x.1,a)::r)) else pure (ForInStep.yield r):Sem (List (Str×Addr))) >>=λcs=>pure cs):=rfl
  rw [e,this,pure_bind]
  rfl
 ·have m:=PySem.mem_of_lookup e
  unfold kT at m
  obtain ⟨p,_,hp⟩:=List.mem_filterMap.mp (List.mem_reverse.mp m)
  split at hp
  ·cases q:X.env.cells.lookup p.1 with
   | none=>rw [q] at hp;cases hp
   | some c'=>rw [q] at hp;cases hp;exact q
  ·cases hp
 ·have m:=PySem.mem_of_lookup e
  obtain ⟨c,hcc⟩:=free _ m rfl
  have m2:(x,c)∈kT scope X.env:=by
   unfold kT
   refine List.mem_reverse.mpr (List.mem_filterMap.mpr ⟨(x,.free),m,?_⟩)
   simp [hcc]
  cases q:(kT scope X.env).lookup x with
  | some c'=>exact ⟨c',rfl⟩
  | none=>
    rw [List.lookup_eq_none_iff] at q
    exact absurd (q _ m2) (by simp)
def qE (scope so:Scope)(N0 fr:List Str)(ix:List Nat):Bool:=
 decide (scope.kind= .function)&&scope.names.all (λy=>decide (y.2≠ .cell)&&(decide (y.2≠ .local) ||decide (scope.names.lookup y.1=some .local))&&(decide (y.2≠ .free) ||decide (so.names.lookup y.1=some .cell)))
  &&fr.all (λx=>decide (scope.names.lookup x=some .free))&&decide (fr.length=ix.length)&&(List.range ix.length).all λk=>match ix[k]?,fr[k]? with | some i,some x=>decide (N0[i]?=some x) | _,_=>true
theorem aM {X:Cx}{scope so:Scope}{N0 own fr:List Str}{ix:List Nat}(hso:X.env.scope=so)(hN0:X.N=N0)(hc:∀x,X.env.scope.names.lookup x=some .cell->∃c,X.env.cells.lookup x=some c)(h:qE scope so N0 fr ix=true):cf X scope (kT scope X.env) own fr ix:=by
 unfold qE at h
 simp only [Bool.and_eq_true,Bool.or_eq_true,decide_eq_true_eq,List.all_eq_true] at h
 obtain ⟨⟨⟨⟨h1,h2⟩,h3⟩,h4⟩,h5⟩:=h
 refine pJ h1 (λy hy=>(h2 y hy).1.1) (λy hy e=>(h2 y hy).1.2.resolve_left λz=>z e) hc (λy hy e=>by rw [hso];exact (h2 y hy).2.resolve_left λz=>z e) h3 h4 λk i x e1 e2=>?_
 have hk:k < ix.length:=(List.getElem?_eq_some_iff.mp e1).1
 have:=h5 k (List.mem_range.mpr hk)
 rw [e1,e2] at this
 rw [hN0]
 simpa using this
section
variable {X:Cx}{Γ Γ1 Γ2 Γ3:Ga}{α β γ δ:Type}{N:Ga->Prop}{T:RT}
variable {r:Rep α}
theorem gq (i:Nat){S:bN}{x y:Str}{k:Nat}{e:Expr}{es:List Expr}{p p1 p2 pos:Pos}{ps:List Pk}{Pd:α->Prop}(C:aw X.prog X.w X.K X.mg X.base x k (aC S X.K))(hr:bt k X.A)(ha:HA X (e::es) Γ ps Γ1)(hS:S X.K ps (bG X.K r Pd))(h:∀z,Pd z->N (Γ1.set i (.im r z)))
 (hg:Gl X x:=by rfl) (hdb:(x==("__debug__":Str))=false:=by decide) (he:starEach (e::es) X.env=(false,eval e X.env)::starEach es X.env:=by rfl) (hpl:(backTo p2 (starEach es X.env)).any (·.1)=false:=by rfl)
 (hN:X.N.Nodup:=by first | assumption | decide) (hi:X.N[i]?=some y:=by rfl) (hx:Loc X.env.scope y:=by first | exact Or.inl rfl | exact Or.inr rfl)
 (hs:swapsWith (.Call (.Name x p) (e::es) [] p2) (some (.Name y p1)) pos.line X.env=pure false:=by rfl) (hf:X.fn y=true∨X.env.scope.names.lookup y=some .local:=by first | exact .inl rfl | exact .inr rfl):
 W1 X (.Assign [.Name y p1] (.Call (.Name x p) (e::es) [] p2) pos) Γ N T:=λσ H0 R0 H R E D dn dr=>
 sS (fA hN hi hx aD hs hf) (cH C hr ha hS E (λH1 R1 v H' R' E1 s1 xx t=>by
  obtain ⟨z,e1,hz⟩:=t
  exact dn _ H' R' _ ((E1.grow xx).set i e1) (s1.trans xx.r) (h z hz)) hg hdb he hpl)
theorem yB {tg iter:Expr}{w:Row}(h:EV X iter Γ aB w Γ1):IV X tg iter Γ ab [w.1,w.2.1,w.2.2.1,w.2.2.2] Γ1:=by
 refine ⟨_,yg aD,λσ H0 R0 H R E Rq q=>h σ H0 R0 H R E _ λv H1 R1 E1 s1 e1=>?_⟩
 obtain ⟨a,rfl,ha⟩:=e1
 have hq0:∀H' R':Hp,aj R1 R'->aj R' H'->cU X.K H' a [.int w.1,.int w.2.1,.int w.2.2.1,.int w.2.2.2]:=λH' R' sR sH=>cU.of (sH _ _ (sR _ _ ha))
 refine ⟨a,rfl,⟨_,hq0 H1 R1 (aj.refl _) E1.sub⟩,q _ H1 R1 E1 s1 (by show 4<=sizeLine;decide) λH' R' sR sH i=>⟨λx hx=>?_,λhi=>⟨_,hq0 H' R' sR sH,hi⟩⟩⟩
 have e2:([.int w.1,.int w.2.1,.int w.2.2.1,.int w.2.2.2]:List V)[i]?=some (.int x):=by
  have:=congrArg (Option.map V.int) hx
  rw [← List.getElem?_map] at this
  exact this
 refine ⟨⟨_,_,hq0 H' R' sR sH,e2⟩,λv H2 hy=>?_⟩
 obtain ⟨rfl,hy⟩:=hy
 have:=hy _ (hq0 _ R' sR sH)
 rw [e2] at this
 cases this
 exact ⟨R',Ext.refl sH,rfl⟩
theorem oO {a:Expr}{p pos:Pos}{x:α}{n:Nat}(hm:X.mg "len"=none)(ha:EV X a Γ r x Γ1)(ht:∀(R:Hp) v,r.R X.K R v x->∃q vs,v= .ref q/\R q=some (.tup vs)/\vs.length=n)(hs:starEach [a] X.env=[(false,eval a X.env)]:=by rfl)(hg:Gl X "len":=by rfl):EV X (.Call (.Name "len" p) [a] [] pos) Γ ab (n:Int) Γ1:=by
 intro σ H0 R0 H R E Q q
 refine eS (cZ dm hg hm PySem.boot_len (aQ aD bF hs) (by decide) (by decide) hs) (ha σ H0 R0 H R E _ λv H1 R1 E1 s1 e1=>?_)
 obtain ⟨p,vs,rfl,hp,hl⟩:=ht R1 v e1
 refine ⟨p,vs,rfl,.inr (cU.of (E1.sub _ _ hp)),?_⟩
 rw [hl]
 exact q _ H1 R1 E1 s1 rfl
theorem vE {K:PySem.W.Frag}{r':Rep β}{x:α×β}(R:Hp)(v:V)(h:(az r r').R K R v x):∃q vs,v= .ref q/\R q=some (.tup vs)/\vs.length=2:=by
 obtain ⟨a,v1,v2,rfl,ha,_⟩:=h
 exact ⟨a,_,rfl,ha,rfl⟩
theorem xA {K:PySem.W.Frag}{x:Row}(R:Hp)(v:V)(h:aB.R K R v x):∃q vs,v= .ref q/\R q=some (.tup vs)/\vs.length=4:=by
 obtain ⟨a,rfl,ha⟩:=h
 exact ⟨a,_,rfl,ha,rfl⟩
end
inductive Reach (es:List (Int×Int)) (s:Int):Int->Prop
 | base:Reach es s s
 | step {a b:Int}:Reach es s a->(a,b)∈es->Reach es s b
theorem Reach.sub {es:List (Int×Int)}{s:Int}{P:Int->Prop}(h0:P s)(hc:∀a b,P a->(a,b)∈es->P b):∀{k:Int},Reach es s k->P k
 | _,.base=>h0
 | _,.step r m=>hc _ _ (Reach.sub h0 hc r) m
section
variable {X:Cx}{Γ Γ1 Γ2 Γ3:Ga}{α β γ δ:Type}{N:Ga->Prop}{T:RT}
theorem wC:cT X (binaryOp .Mult) (rI IntMulOk λi j=>.int (i * j)):=qL λ_ _ _ _ _ _ _ hc q=>mul_int q hc
theorem f9 {a b:Expr}{pos:Pos}{x y:Int}(ha:EV X a Γ ab x Γ1)(hb:EV X b Γ1 ab y Γ2)(h:IntMulOk x y):EV X (.BinOp a .Mult b pos) Γ ab (x * y) Γ2:=gP wC ha hb λR v u H Q e1 e2 q=>⟨x,y,e1,e2,h,q _ rfl⟩
def m8 (a:Addr)(r:Rep α)(xs:List α):g9 where
 fp:=[a]
 R:=λK H R v=>v= .ref a/\∃vs,H a=some (.lst vs)/\PySem.Paired (r.R K R) vs xs
 loc:=λhH hR ⟨e,vs,h,p⟩=>⟨e,vs,(hH a (List.mem_singleton.mpr rfl)).trans h,Paired.map (λ_ _=>r.mono hR) p⟩
 has:=λ⟨e,vs,h,p⟩ b hb=>by rw [List.mem_singleton.mp hb,h];exact Option.some_ne_none _
theorem wG {K:PySem.W.Frag}{H R:Hp}{a:Addr}{r:Rep α}{xs:List α}{vs:List V}(h:H a=some (.lst vs))(hR:R a=none)(p:PySem.Paired (r.R K R) vs xs):(Ent.ob (m8 a r xs)).ok K H R (some (.ref a)):=
 ⟨⟨_,rfl,rfl,vs,h,p⟩,λb hb=>by rw [List.mem_singleton.mp hb];exact hR⟩
theorem om {K:PySem.W.Frag}{H R:Hp}{a:Addr}{r:Rep α}{xs:List α}{o:Option V}(h:(Ent.ob (m8 a r xs)).ok K H R o):o=some (.ref a)/\(∃vs,H a=some (.lst vs)/\PySem.Paired (r.R K R) vs xs)/\R a=none:=by
 obtain ⟨⟨v,rfl,rfl,q⟩,n⟩:=h
 exact ⟨rfl,q,n a (List.mem_singleton.mpr rfl)⟩
theorem WS.box (i:Nat){sts:List Stmt}{r:Rep α}{xs:List α}(hΓ:Γ[i]?=some (.mu r xs))(h:∀a,WS X sts (Γ.set i (.ob (m8 a r xs))) N T):WS X sts Γ N T:=λσ H0 R0 H R E D dn dr=>by
 obtain ⟨a,vs,ea,ha,hR,pp⟩:=E.ent i _ hΓ
 exact h a σ H0 R0 H R (E.tell hΓ (by rw [ea];exact wG ha hR pp) λb w=>by
  rw [show b=a from List.mem_singleton.mp w];exact cG.mpr ea) D dn dr
theorem ai.iI {K:PySem.W.Frag}{σ:St}{H0 R0 H R:Hp}(E:ai K σ H0 R0 H R Γ){i:Nat}{e0 en:Ent}(hi:Γ[i]?=some e0)(ho:en.ok K H R (σ[i]?).join)(hsub:∀b∈en.fp (σ[i]?).join,H0 b=none/\∀(j:Nat) (e:Ent),j≠i->Γ[j]?=some e->b∉e.fp (σ[j]?).join):ai K σ H0 R0 H R (Γ.set i en):=by
 refine ⟨E.ext,λj e q=>?_,λj e b q w=>?_,λj k e e' b q q' w w'=>?_,by rw [List.length_set];exact E.len⟩
 ·rcases set_at q with ⟨rfl,rfl,_⟩ | ⟨hj,q1⟩
  ·exact ho
  ·exact E.ent j e q1
 ·rcases set_at q with ⟨rfl,rfl,_⟩ | ⟨hj,q1⟩
  ·exact (hsub b w).1
  ·exact E.nw j e b q1 w
 ·rcases set_at q with ⟨rfl,rfl,_⟩ | ⟨hj,q1⟩
  ·rcases set_at q' with ⟨rfl,rfl,_⟩ | ⟨hk,q1'⟩
   ·rfl
   ·exact absurd w' ((hsub b w).2 k e' hk q1')
  ·rcases set_at q' with ⟨rfl,rfl,_⟩ | ⟨hk,q1'⟩
   ·exact absurd w ((hsub b w').2 j e hj q1)
   ·exact E.ds _ _ _ _ b q1 q1' w w'
variable {P:Program}{w:World}{K:PySem.W.Frag}{mg:Str->Option Value}{base:Heap}
end
def bU {α:Type}(k:Nat)(y:α)(xs:List α):List α:=xs.take k++y::xs.drop k
theorem mJ {α:Type}{k:Nat}{y:α}{xs:List α}:(bU k y xs).length=xs.length + 1:=by
 unfold bU;rw [List.length_append,List.length_cons,List.length_take,List.length_drop];omega
section
variable {X:Cx}{Γ Γ1 Γ2 Γ3:Ga}{α β γ δ:Type}{N:Ga->Prop}{T:RT}
variable {as:List Addr}{rs:List Row}{H:Hp}{b:Addr}{r:Row}{pos:Pos}{a:Addr}{j:Nat}{p1:Pos}{sts:List Stmt}
def vT:V->List V->Hp->VK->Prop:=λx vs H Q=>∃l xs i y,x= .ref l/\vs=[.int i,y]/\H l=some (.lst xs)/\0<=i/\i<=(xs.length:Int)/\xs.length < sizeLine/\Q .non (upd H l (.lst (bU i.toNat y xs)))
theorem sj:sG X "list.insert" vT:=by
 intro pins s σ H x vs v us Q I rx rv h
 obtain ⟨l,xs,i,y,rfl,rfl,hH,h0,h1,hz,q⟩:=h
 cases rx
 obtain ⟨u1,u2,rfl,⟨t,rfl⟩,r2⟩:=vals2 rv
 obtain ⟨z,its,n,r,hl,e⟩:=I.gG hH
 have hfit:Builtin.List.listFitsIndex i=true:=fitsIndex_both (by omega) (by
  have:sizeLine < 2 ^ 63:=by decide
  omega)
 refine call_meets PySem.F.slot_list_insert ⟨_,e,rfl⟩ PySem.F.entry_list_insert (PySem.F.args_list_insert_3 _ _ _) (PySem.AutoSeq1.list_insert_list_int_val_1 l _ n i t u2 (by simp [hfit]) (by rw [List.size_toArray];omega)) ⟨e,?_⟩
 refine ⟨.non,_,I.mS (its':=bU i.toNat u2 its) hH e ?_ ?_ ?_,rfl,q⟩
 ·have hk:(if i < 0 then (i + ((its.toArray.size:Nat):Int)).toNat else min i.toNat its.toArray.size)=i.toNat:=by
   rw [if_neg (by omega),List.size_toArray];omega
  dsimp only
  rw [hk]
  unfold bU
  apply Array.ext'
  simp
  exact List.take_of_length_le (by rw [List.length_drop];exact Nat.le_refl _)
 ·unfold bU;exact (r.take _).append (.cons r2 (r.drop _))
 ·rw [mJ];omega
def gN (r:Row):List V:=[.int r.1,.int r.2.1,.int r.2.2.1,.int r.2.2.2]
def tV:Rep Addr:=⟨λ_ _ v a=>v= .ref a,λ_ h=>h⟩
def eX:Rep Row:=⟨λ_ H v r=>∃b,v= .ref b/\H b=some (.lst (gN r)),λs ⟨b,e,h⟩=>⟨b,e,s _ _ h⟩⟩
def bL (H:Hp)(as:List Addr)(rs:List Row):Prop:=as.length=rs.length/\∀(i:Nat) (b:Addr) (r:Row),as[i]?=some b->rs[i]?=some r->H b=some (.lst (gN r))
theorem bL.row (h:bL H as rs)(hb:b∈as):∃r,H b=some (.lst (gN r)):=by
 obtain ⟨i,hi,rfl⟩:=List.mem_iff_getElem.mp hb
 exact ⟨_,h.2 i _ _ (List.getElem?_eq_getElem hi) (List.getElem?_eq_getElem (by rw [← h.1];exact hi))⟩
theorem bL.loc {H':Hp}(h:bL H as rs)(e:∀a∈as,H' a=H a):bL H' as rs:=
 ⟨h.1,λi b r h1 h2=>(e b (List.mem_of_getElem? h1)).trans (h.2 i b r h1 h2)⟩
theorem bL.put (h:bL H as rs)(nd:as.Nodup)(hb:as[j]?=some b):bL (upd H b (.lst (gN r))) as (rs.set j r):=by
 refine ⟨by rw [List.length_set];exact h.1,λi c q h1 h2=>?_⟩
 by_cases hij:i=j
 ·subst hij
  rw [hb] at h1;cases h1
  have hl:i < rs.length:=by rw [← h.1];exact (List.getElem?_eq_some_iff.mp hb).1
  rw [List.getElem?_set_self hl] at h2;cases h2
  exact ar
 ·rw [List.getElem?_set_ne (Ne.symm hij)] at h2
  have:c≠b:=λz=>by
   subst z
   have l1:=(List.getElem?_eq_some_iff.mp h1)
   have l2:=(List.getElem?_eq_some_iff.mp hb)
   exact hij ((List.getElem_inj (h₀:=l1.1) (h₁:=l2.1) nd).mp (l1.2.trans l2.2.symm))
  rw [ay this];exact h.2 i c q h1 h2
def br (a:Addr)(as:List Addr)(rs:List Row):g9 where
 fp:=a::as
 R:=λK H R v=>v= .ref a/\H a=some (.lst (as.map .ref))/\bL H as rs/\(a::as).Nodup
 loc:=λhH hR ⟨e,h1,h2,h3⟩=>⟨e,(hH a List.mem_cons_self).trans h1,h2.loc λb hb=>hH b (List.mem_cons_of_mem _ hb),h3⟩
 has:=λ⟨e,h1,h2,h3⟩ b hb=>by
  rcases List.mem_cons.mp hb with rfl | hb
  ·rw [h1];exact Option.some_ne_none _
  ·obtain ⟨r,hr⟩:=h2.row hb
   rw [hr];exact Option.some_ne_none _
def nA (a:Addr)(as:List Addr)(rs:List Row):g9 where
 fp:=as
 R:=λK H R v=>v= .ref a/\R a=some (.lst (as.map .ref))/\bL H as rs/\as.Nodup
 loc:=λhH hR ⟨e,h1,h2,h3⟩=>⟨e,hR _ _ h1,h2.loc λb hb=>hH b hb,h3⟩
 has:=λ⟨e,h1,h2,h3⟩ b hb=>by
  obtain ⟨r,hr⟩:=h2.row hb
  rw [hr];exact Option.some_ne_none _
structure mL (B B':g9) (b:Addr) (r r':Row):Prop where
 mem:b∈B.fp
 fp:B'.fp=B.fp
 get:∀{K:PySem.W.Frag} {H R:Hp} {v:V},B.R K H R v->H b=some (.lst (gN r))
 set:∀{K:PySem.W.Frag} {H R:Hp} {v:V},B.R K H R v->B'.R K (upd H b (.lst (gN r'))) R v
theorem iG {r':Row}(hb:as[j]?=some b)(hr:rs[j]?=some r):mL (br a as rs) (br a as (rs.set j r')) b r r' where
 mem:=List.mem_cons_of_mem _ (List.mem_of_getElem? hb)
 fp:=rfl
 get:=λh=>h.2.2.1.2 j b r hb hr
 set:=λ⟨e,h1,h2,h3⟩=>by
  obtain ⟨n1,n2⟩:=List.nodup_cons.mp h3
  exact ⟨e,by rw [ay (show a≠b from λz=>n1 (z▸List.mem_of_getElem? hb))];exact h1,h2.put n2 hb,h3⟩
theorem qU (i:Nat){o:Expr}{c:Int}{B B':g9}{r':Row}{y:Int}(ho:EV X o Γ tV b Γ1)(hΓ1:Γ1[i]?=some (.ob B))(hB:mL B B' b r r')(hy:cO (gN r) c=some (.int y)):EV X (.Subscript o (.Constant (.int c) j p1) pos) Γ ab y Γ1:=by
 intro σ H0 R0 H R E Q q
 refine eS (eZ dM aD dq (λ_ _=>rfl)) (ho σ H0 R0 H R E _ λv H1 R1 E1 s1 e1=>?_)
 cases e1
 obtain ⟨⟨v,ev,hv⟩,_⟩:=E1.ent i _ hΓ1
 exact ⟨b,_,c,_,rfl,rfl,aH.of (hB.get hv),hy,q _ H1 R1 E1 s1 rfl⟩
theorem mP (i:Nat){o e:Expr}{k:Nat}{p2:Pos}{B B':g9}{y:Int}(he:EV X e Γ ab y Γ1)(ho:EV X o Γ1 tV b Γ2)(hΓ2:Γ2[i]?=some (.ob B))(hB:mL B B' b r (r.1,r.2.1,r.2.2.1,y))(h:N (Γ2.set i (.ob B')))
 (ha:∀v,assign (.Subscript o (.Constant (.int 3) k p1) p2) X.env v=(do
  let ov ← holding [v] (eval o X.env)
  let iv ← holding [v,ov] (eval (.Constant (.int 3) k p1) X.env)
  standAt p2
  holding [v,ov,iv] (setItem ov iv v)
  release [v,ov,iv] []):=by intro _;rfl)
 (hs:swapsWithSole [.Subscript o (.Constant (.int 3) k p1) p2] e pos.line X.env=pure false:=by rfl) (hw:swappedStores [.Subscript o (.Constant (.int 3) k p1) p2] e X.env=pure none:=by rfl) (h1:(assignEach [.Subscript o (.Constant (.int 3) k p1) p2] X.env).map (·.2)=[assign (.Subscript o (.Constant (.int 3) k p1) p2) X.env]:=by rfl):
 W1 X (.Assign [.Subscript o (.Constant (.int 3) k p1) p2] e pos) Γ N T:=λσ H0 R0 H R E D dn dr=>by
 refine sS (fv aD (jR aD dq set_list ha) hs hw h1) (he σ H0 R0 H R E _ λv H1 R1 E1 s1 e1=>ho σ H0 R0 H1 R1 E1 _ λu H2 R2 E2 s2 e2=>?_)
 cases e2
 cases e1
 obtain ⟨⟨v,ev,hv⟩,hn⟩:=E2.ent i _ hΓ2
 refine ⟨b,_,3,3,rfl,rfl,hB.get hv,rfl,?_⟩
 exact dn σ _ R2 _ (E2.l9 (u:=.lst (gN (r.1,r.2.1,r.2.2.1,y))) (en:=.ob B') hΓ2 hB.mem ⟨⟨v,ev,hB.set hv⟩,by rw [hB.fp];exact hn⟩ λb' w=>.inl (by rw [Ent.fp,hB.fp] at w;exact w)) (s1.trans s2) h
theorem WS.vJ (i:Nat){r:Rep α}(hΓ:Γ[i]?=some (.mu r []))(h:∀a,WS X sts (Γ.set i (.ob (br a [] []))) N T):WS X sts Γ N T:=λσ H0 R0 H R E D dn dr=>by
 obtain ⟨a,vs,ea,ha,hR,pp⟩:=E.ent i _ hΓ
 cases pp
 refine h a σ H0 R0 H R (E.tell hΓ ⟨⟨.ref a,ea,rfl,ha,⟨rfl,λi b r h1=>by simp at h1⟩,by simp⟩,λb hb=>?_⟩ λb w=>?_) D dn dr
 ·rw [show b=a by simpa [br] using hb];exact hR
 ·rw [show b=a by simpa [Ent.fp,br] using w];exact cG.mpr ea
theorem pW (i:Nat){x:Str}{p:Pos}(hm:X.mg "len"=none)(hΓ:Γ[i]?=some (.ob (br a as rs)))(hN:X.N[i]?=some x:=by rfl)(hv:bT X.env.scope x:=by first | exact Or.inl rfl | exact Or.inr (Or.inl rfl) | exact Or.inr (Or.inr rfl))
 (hd:(x==("__debug__":Str))=false:=by decide) (hcd:(x==("__classdict__":Str))=false:=by decide) (hg:Gl X "len":=by rfl):EV X (.Call (.Name "len" p) [.Name x p1] [] pos) Γ ab (rs.length:Int) Γ:=by
 intro σ H0 R0 H R E Q q
 obtain ⟨⟨v,ea,rfl,ha,hr,_⟩,hR⟩:=E.ent i _ hΓ
 refine eS (cZ dm hg hm PySem.boot_len (aQ (aP hN hv hd hcd) bF rfl) (by decide) (by decide) rfl) ⟨.ref a,at_of ea,a,_,rfl,.inl (aH.of ha),?_⟩
 rw [List.length_map,hr.1]
 exact q _ H R E (aj.refl _) rfl
theorem ai.rP {K:PySem.W.Frag}{σ:St}{H0 R0:Hp}:∀(as:List Addr) {R:Hp},ai K σ H0 R0 H R Γ->(∀b∈as,H b≠none/\H0 b=none/\Off b σ Γ)->∃R',ai K σ H0 R0 H R' Γ/\aj R R'/\∀b∈as,R' b=H b
 | [],R,E,_=>⟨R,E,aj.refl _,λb hb=>by cases hb⟩
 | b::as,R,E,h=>by
   obtain ⟨h1,h2,h3⟩:=h b List.mem_cons_self
   obtain ⟨u,hu⟩:∃u,H b=some u:=by cases q:H b with
    | none=>exact absurd q h1
    | some u=>exact ⟨u,rfl⟩
   have key:∃R1,ai K σ H0 R0 H R1 Γ/\aj R R1/\R1 b=some u:=by
    cases q:R b with
    | none=>exact ⟨_,E.jJ hu q h2 h3,aj.fresh q _,ar⟩
    | some u'=>
      have:=E.sub b u' q
      rw [hu] at this
      cases this
      exact ⟨R,E,aj.refl _,q⟩
   obtain ⟨R1,E1,s1,r1⟩:=key
   obtain ⟨R2,E2,s2,r2⟩:=ai.rP as E1 λc hc=>h c (List.mem_cons_of_mem _ hc)
   refine ⟨R2,E2,s1.trans s2,λc hc=>?_⟩
   rcases List.mem_cons.mp hc with rfl | hc
   ·rw [s2 _ _ r1,hu]
   ·exact r2 c hc
theorem WS.outer (i:Nat)(hΓ:Γ[i]?=some (.ob (br a as rs)))(h:WS X sts (Γ.set i (.ob (nA a as rs))) N T):WS X sts Γ N T:=λσ H0 R0 H R E D dn dr=>by
 obtain ⟨⟨v,ea,rfl,ha,hr,nd⟩,hR⟩:=E.ent i _ hΓ
 obtain ⟨n1,n2⟩:=List.nodup_cons.mp nd
 have hl:i < Γ.length:=(List.getElem?_eq_some_iff.mp hΓ).1
 have apart:∀(j:Nat) (e:Ent),j≠i->Γ[j]?=some e->∀b∈a::as,b∉e.fp (σ[j]?).join:=λj e hj qj b hb w=>hj (E.ds j i e _ b qj hΓ w hb)
 have E1:ai X.K σ H0 R0 H R (Γ.set i .no):=E.tell hΓ trivial λb w=>by cases w
 have E2:=E1.jJ ha (hR a List.mem_cons_self) (E.nw i _ a hΓ List.mem_cons_self) λj e qj w=>by
  rcases set_at qj with ⟨rfl,rfl,_⟩ | ⟨hj,q1⟩
  ·cases w
  ·exact apart j e hj q1 a List.mem_cons_self w
 have s2:aj R (upd R a (.lst (as.map .ref))):=aj.fresh (hR a List.mem_cons_self) _
 have E3:=E2.iI (i:=i) (e0:=.no) (en:=.ob (nA a as rs)) (List.getElem?_set_self hl) ⟨⟨.ref a,ea,rfl,ar,hr,n2⟩,λb hb=>by
  rw [ay (show b≠a from λz=>n1 (z▸hb))];exact hR b (List.mem_cons_of_mem _ hb)⟩ λb w=>⟨E.nw i _ b hΓ (List.mem_cons_of_mem _ w),λj e hj qj=>apart j e hj (by rwa [List.getElem?_set_ne (Ne.symm hj)] at qj) b (List.mem_cons_of_mem _ w)⟩
 rw [List.set_set] at E3
 exact h σ H0 R0 H _ E3 D (λσ2 H2 R2 Γ2 E2 s2'=>dn σ2 H2 R2 Γ2 E2 (s2.trans s2')) dr
theorem fP {K:PySem.W.Frag}{H:Hp}:∀{as:List Addr} {rs:List Row},bL H as rs->PySem.Paired (eX.R K H) (as.map .ref) rs
 | [],[],_=>.nil
 | [],_::_,h=>absurd h.1 (by simp)
 | _::_,[],h=>absurd h.1 (by simp)
 | a::as,r::rs,h=>.cons ⟨a,rfl,h.2 0 a r rfl rfl⟩ (fP ⟨by simpa using h.1,λi b q h1 h2=>h.2 (i + 1) b q (by simpa using h1) (by simpa using h2)⟩)
theorem WS.wK (i:Nat)(hΓ:Γ[i]?=some (.ob (nA a as rs)))(hz:rs.length<=sizeLine)(h:WS X sts (Γ.set i (.im (ae eX) rs)) N T):WS X sts Γ N T:=λσ H0 R0 H R E D dn dr=>by
 obtain ⟨⟨v,ea,rfl,ha,hr,nd⟩,hR⟩:=E.ent i _ hΓ
 have hl:i < Γ.length:=(List.getElem?_eq_some_iff.mp hΓ).1
 have E1:ai X.K σ H0 R0 H R (Γ.set i .no):=E.tell hΓ trivial λb w=>by cases w
 obtain ⟨R',E2,s',rr⟩:=E1.rP as λb hb=>⟨(Ent.cw (E.ent i _ hΓ) hb).1,E.nw i _ b hΓ hb,λj e qj w=>by
  rcases set_at qj with ⟨rfl,rfl,_⟩ | ⟨hj,q1⟩
  ·cases w
  ·exact hj (E.ds j i e _ b q1 hΓ w hb)⟩
 have hr':bL R' as rs:=hr.loc rr
 have E3:=E2.iI (i:=i) (e0:=.no) (en:=.im (ae eX) rs) (List.getElem?_set_self hl) ⟨.ref a,ea,a,_,rfl,s' _ _ ha,fP hr',hz⟩ λb w=>by cases w
 rw [List.set_set] at E3
 exact h σ H0 R0 H _ E3 D (λσ2 H2 R2 Γ2 E2 s2'=>dn σ2 H2 R2 Γ2 E2 (s'.trans s2')) dr
def jL:Ent->Ent
 | .im r x=>.im r x
 | _=>.no
theorem ai.frz {K:PySem.W.Frag}{σ:St}{H0 R0 R:Hp}(E:ai K σ H0 R0 H R Γ):ai K σ H H H H (Γ.map jL):=by
 have noown:∀(i:Nat) (e:Ent) (o:Option V),(Γ.map jL)[i]?=some e->e.fp o=[]:=λi e o q=>by
  rw [List.getElem?_map] at q
  cases h:Γ[i]? with
  | none=>rw [h] at q;cases q
  | some e'=>rw [h] at q;cases q;cases e'<;>rfl
 refine ⟨Ext.refl (aj.refl _),λi e q=>?_,λi e a q w=>absurd w (by rw [noown i e _ q];exact List.not_mem_nil),λi j e e' a q _ w=>absurd w (by rw [noown i e _ q];exact List.not_mem_nil),by rw [List.length_map];exact E.len⟩
 rw [List.getElem?_map] at q
 cases h:Γ[i]? with
 | none=>rw [h] at q;cases q
 | some e'=>
   rw [h] at q;cases q
   have:=E.ent i e' h
   cases e' with
   | im r x=>obtain ⟨v,e,hr⟩:=this;exact ⟨v,e,r.mono E.sub hr⟩
   | no=>trivial
   | mu r x=>trivial
   | di x=>trivial
   | ob x=>trivial
theorem vI (i:Nat){Γf:Ga}(hF:∀(σ:St) (H0 R0 H R:Hp),ai X.K σ H0 R0 H R Γ->ai X.K σ H H H H Γf){y:Str}{py spos:Pos}{tg elt iter:Expr}{ifs:List Expr}{scope:Scope}{cl:List (Str×Addr)}{own fr:List Str}{ix:List Nat}{ra:Rep α}{rb:Rep β}{xs:List α}{p:α->Bool}{f:α->β}{bf:α->Ga->Ga}
 (flat:∀(K:PySem.W.Frag) (H H':Hp) v y,rb.R K H v y->rb.R K H' v y)
 (S:cf X scope cl own fr ix) (hit:IV X tg iter Γf ra xs Γf)
 (hb:∀(C:Addr) (s:Shared) (H:Hp) (ex:List Addr),BG (aq X scope cl C (own++fr) s H ex) tg ra bf) (hw:∀x,Wk (bf x (bc own ix Γf)) (bc own ix Γf))
 (ht:∀(C:Addr) (s:Shared) (H:Hp) (ex:List Addr) x,x∈xs->TF (aq X scope cl C (own++fr) s H ex) ifs (bf x (bc own ix Γf)) (p x) (bf x (bc own ix Γf)))
 (he:∀(C:Addr) (s:Shared) (H:Hp) (ex:List Addr) x,x∈xs->p x=true->EV (aq X scope cl C (own++fr) s H ex) elt (bf x (bc own ix Γf)) rb (f x) (bf x (bc own ix Γf)))
 (h:N (Γ.set i (.mu rb ((xs.filter p).map f))))
 (hsw:swapsWith (.ListComp elt [⟨tg,iter,ifs,0⟩] scope pos) (some (.Name y py)) spos.line X.env=pure true:=by rfl)
 (hN:X.N.Nodup:=by first | assumption | decide) (hi':X.N[i]?=some y:=by rfl) (hx:Loc X.env.scope y:=by first | exact Or.inl rfl | exact Or.inr rfl)
 (hc:X.calm=true:=by rfl) (hs:∀x,foldedSetIterable iter X.env x=pure x:=by intro _;rfl) (hf:X.fn y=true∨X.env.scope.names.lookup y=some .local:=by first | exact .inl rfl | exact .inr rfl):
 W1 X (.Assign [.Name y py] (.ListComp elt [⟨tg,iter,ifs,0⟩] scope pos) spos) Γ N T:=λσ H0 R0 H R E D dn dr=>by
 obtain ⟨wi,hi,hit⟩:=hit
 refine sS (gQ (i:=i) (g:=λv σ H Q=>∀C s Hh ex,dX (aq X scope cl C (own++fr) s Hh ex) tg v σ H Q) (tc:=λσ H Q=>∀C s Hh ex,eC (aq X scope cl C (own++fr) s Hh ex) ifs σ H Q) (te:=λσ H Q=>∀C s Hh ex,cN (aq X scope cl C (own++fr) s Hh ex) elt σ H Q) hsw hN hi' hx hc S hi
  (λC s H ex=>⟨λpins s1 σ H v u Q I r h=>h C s _ ex pins s1 u I r,λpins s1 σ H Q I h=>h C s _ ex pins s1 I,λpins s1 σ H Q I h=>h C s _ ex pins s1 I⟩) hs hf) ?_
 refine hit σ H H H H (hF σ H0 R0 H R E) _ λJ H1 R1 E1 s1 hz src=>h7 (Q:=λv H'=>D.nx (σ.set i (some v)) H') E1 src hz hb hw ht he λa vs H' R' xx ha pp=>?_
 have sH:aj H H':=E1.ext.h.trans xx.h
 have E2:=E.grow (H':=H') (R':=R) ⟨sH,aj.refl _,E.sub.trans sH,λ_ _=>rfl⟩
 exact dn _ _ R _ ((E2.grow (Ext.bW E2.sub ha _)).du (u:=.lst vs) (en:=.mu rb ((xs.filter p).map f)) i ⟨a,vs,rfl,ar,E2.sub.free ha,Paired.map (λ_ _=>flat X.K R' R _ _) pp⟩ (E2.ext.h.free ha) λj e _ q w=>E2.off ha j e q w) (aj.refl _) h
theorem lB {a:Expr}{p:Pos}(hm:X.mg "tuple"=none)(ha:EV X a Γ eX r Γ1)(hs:starEach [a] X.env=[(false,eval a X.env)]:=by rfl)(hg:Gl X "tuple":=by rfl):EV X (.Call (.Name "tuple" p) [a] [] pos) Γ aB r Γ1:=by
 intro σ H0 R0 H R E Q q
 refine eS (dN lV hg hm PyProof.Rows.boot_tuple (aQ aD bF hs) (by decide) (by decide) hs) (ha σ H0 R0 H R E _ λv H1 R1 E1 s1 e1=>?_)
 obtain ⟨b,rfl,hb⟩:=e1
 refine ⟨b,_,rfl,.inl ⟨aH.of (E1.sub _ _ hb),λl hl=>?_⟩⟩
 exact q _ _ (upd R1 l _) (E1.grow (Ext.fresh E1.sub hl _)) (s1.trans (aj.fresh (E1.sub.free hl) _)) ⟨l,rfl,ar⟩
end
end Fc
namespace K1
open PySem
abbrev top (i:Nat):Stmt:=PySem.Challenge.pw_fewcounters_k42_whole_ways_and_their_num.main.body.getD i (.Pass ⟨0,0,0,0⟩)
abbrev nJ:Nat:=14
abbrev mG:Nat:=15
abbrev rN:Nat:=16
abbrev jY:Nat:=17
abbrev kn:Nat:=18
abbrev i2:Nat:=19
abbrev jI:Nat:=20
abbrev mz:Nat:=21
abbrev jU:Nat:=22
abbrev o9:Nat:=23
abbrev nP:Nat:=24
abbrev oZ:Nat:=25
abbrev qY:Nat:=26
abbrev ko:Nat:=27
abbrev sJ:Nat:=28
abbrev nO:Nat:=30
abbrev mI:Nat:=31
abbrev lY:Nat:=32
abbrev wI:Nat:=33
abbrev o5:Nat:=34
abbrev qq:Nat:=35
abbrev m9:Nat:=36
abbrev nB:Nat:=37
abbrev i7:Nat:=38
abbrev su:Nat:=39
abbrev pQ:Nat:=40
abbrev rH:Nat:=41
abbrev lW:Nat:=43
abbrev lT:Nat:=44
abbrev nv:Nat:=45
abbrev lX:Nat:=46
abbrev m7:Nat:=47
abbrev kH:Nat:=48
abbrev nX:Nat:=49
abbrev nC:Nat:=50
abbrev mr:Nat:=51
abbrev pG:Nat:=52
abbrev kQ:Nat:=53
abbrev mj:Nat:=54
abbrev jw:Nat:=55
abbrev yF:Nat:=56
end K1
namespace K1
open PySem L2 Fc
open PySem.Spec hiding Row
open PyProof.Rows hiding St
structure bP (mg:Str->Option Value):Prop where
 mostParts:∃t,mg "MOST_PARTS"=some (.int 4 t)
 leastPlaces:∃t,mg "LEAST_PLACES"=some (.int 2 t)
 mostPlaces:∃t,mg "MOST_PLACES"=some (.int 16 t)
 mostRows:∃t,mg "MOST_ROWS"=some (.int 60 t)
 firstPart:∃t,mg "FIRST_PART"=some (.int 0 t)
 begin_:∃t,mg "BEGIN"=some (.int 0 t)
 end_:∃t,mg "END"=some (.int 1 t)
 noCall:∃t,mg "NO_CALL"=some (.int (-1) t)
 len:mg "len"=none
 all:mg "all"=none
 any:mg "any"=none
 range:mg "range"=none
 enumerate:mg "enumerate"=none
 isinstance:mg "isinstance"=none
 int:mg "int"=none
 bool:mg "bool"=none
 list:mg "list"=none
 tuple:mg "tuple"=none
 min:mg "min"=none
 max:mg "max"=none
 sorted:mg "sorted"=none
 sum:mg "sum"=none
 zip:mg "zip"=none
 reversed:mg "reversed"=none
 set:mg "set"=none
theorem boot_bool:bootBuiltins "bool"=some (.type "bool"):=by decide +kernel
section
variable {P:Program}{w:World}{K:PySem.W.Frag}{mg:Str->Option Value}{base:Heap}{f:Addr}{fd:FuncData}
theorem cz {xs:List Int}{i:Int}(h0:0<=i)(h1:i < xs.length):cO xs i=some (xs.getD i.toNat 0):=by
 rw [dy h0 h1,List.getElem?_eq_getElem (by omega),List.getD_eq_getElem?_getD,List.getElem?_eq_getElem (by omega)];rfl
abbrev vp:Stmt:=top nJ
theorem xW:ax ["value"] ["value"] (ag vp):=⟨rfl,rfl,rfl,by decide +kernel,rfl,by decide +kernel,by decide +kernel⟩
def qv:bN:=λK ps T=>∃x:Int,ps=[⟨ab,x⟩]/\T=bG K aF (· =true)
theorem Ab (M:bP mg)(F:bz K "is_whole" "is_whole" vp f fd)(hm:mg "is_whole"=some (.ref f))(hb:Binds K fd ["value"] []):aw P w K mg base "is_whole" 1 (aC qv K):=by
 have nd:=xW.nd
 refine bD F xW hm hb (λqs T ⟨x,e,_⟩=>by rw [e];rfl) (λcdv A outer s H E qs T hr hS=>?_)
 obtain ⟨x,rfl,rfl⟩:=hS
 exact ak (bq (dC (cF M.isinstance M.int PyProof.Rows.boot_int (aa 0 rfl) ty_int) (λ_=>dA (nG (cF M.isinstance M.bool boot_bool (aa 0 rfl) ty_int)))) rfl)
abbrev oG:Stmt:=top mG
theorem xt:ax ["values"] ["values"] (ag oG):=⟨rfl,rfl,rfl,by decide +kernel,rfl,by decide +kernel,by decide +kernel⟩
def yz:bN:=λK ps T=>((∃ns:List Int,ps=[⟨ae ab,ns⟩])∨(∃r:Row,ps=[⟨aB,r⟩]))/\T=bG K aF (· =true)
theorem all_true {α:Type}(xs:List α):((xs.filter λ_=>true).map λ_=>true).all id=true:=by
 rw [List.all_eq_true];intro b hb
 obtain ⟨_,_,rfl⟩:=List.mem_map.mp hb;rfl
theorem AO (M:bP mg)(CI:aw P w K mg base "is_whole" 1 (aC qv K))(F:bz K "are_whole" "are_whole" oG f fd)(hm:mg "are_whole"=some (.ref f))(hb:Binds K fd ["values"] []):aw P w K mg base "are_whole" 2 (aC yz K):=by
 have nd:=xt.nd
 have ndc:List.Nodup [("value":Str)]:=by decide
 refine bD F xt hm hb (λqs T ⟨e,_⟩=>by rcases e with ⟨_,e⟩ | ⟨_,e⟩<;>(rw [e];rfl)) (λcdv A outer s H E qs T hr hS=>?_)
 obtain ⟨⟨ns,rfl⟩ | ⟨r,rfl⟩,rfl⟩:=hS
 ·exact ak (bq (dh M.all (aU.im (aT (own:=["value"]) (fr:=[]) (ix:=[]) (p:=λ_=>true) (f:=λ_=>true) (aM (so:=ag oG) (N0:=["values"]) rfl rfl (λx h=>aE h) (by decide +kernel)) (aK (aa 0 rfl))
   (λC s H ex=>aA 0) (λx=>⟨.inr rfl,trivial⟩) (λC s H ex x hx=>bA) (λC s H ex x hx _=>aW CI hr (af (aa 0 rfl) ao) ⟨_,rfl,rfl⟩)))) (all_true ns))
 ·exact ak (bq (dh M.all (aU.im (aT (own:=["value"]) (fr:=[]) (ix:=[]) (p:=λ_=>true) (f:=λ_=>true) (aM (so:=ag oG) (N0:=["values"]) rfl rfl (λx h=>aE h) (by decide +kernel)) (yB (aa 0 rfl))
   (λC s H ex=>aA 0) (λx=>⟨.inr rfl,trivial⟩) (λC s H ex x hx=>bA) (λC s H ex x hx _=>aW CI hr (af (aa 0 rfl) ao) ⟨_,rfl,rfl⟩)))) (all_true _))
end
section
variable {P:Program}{w:World}{K:PySem.W.Frag}{mg:Str->Option Value}{base:Heap}{f:Addr}{fd:FuncData}
abbrev u9:Stmt:=top kn
theorem xi:ax ["row"] ["row"] (ag u9):=⟨rfl,rfl,rfl,by decide +kernel,rfl,by decide +kernel,by decide +kernel⟩
def Bq:bN:=λK ps T=>∃r:Row,ps=[⟨aB,r⟩]/\T=bG K aF (· =true)
theorem zW (M:bP mg)(CA:aw P w K mg base "are_whole" 2 (aC yz K))(F:bz K "has_row_form" "has_row_form" u9 f fd)(hm:mg "has_row_form"=some (.ref f))(hb:Binds K fd ["row"] []):aw P w K mg base "has_row_form" 3 (aC Bq K):=by
 have nd:=xi.nd
 refine bD F xi hm hb (λqs T ⟨x,e,_⟩=>by rw [e];rfl) (λcdv A outer s H E qs T hr hS=>?_)
 obtain ⟨r,rfl,rfl⟩:=hS
 exact ak (bq (dC (cF M.isinstance M.tuple PyProof.Rows.boot_tuple (aa 0 rfl) zj) (λ_=>dC (dB eG (oO M.len (aa 0 rfl) xA) au) (λ_=>dA (aW CA hr (af (aa 0 rfl) ao) ⟨.inr ⟨_,rfl⟩,rfl⟩)))) rfl)
abbrev qH:Stmt:=top jY
theorem yk:ax ["web","places","rows"] ["web"] (ag qH):=⟨rfl,rfl,rfl,by decide +kernel,rfl,by decide +kernel,by decide +kernel⟩
def Bc:bN:=λK ps T=>∃v:aN,ps=[⟨bZ,v⟩]/\T=bG K aF (· =true)
theorem A2 (M:bP mg)(CA:aw P w K mg base "are_whole" 2 (aC yz K))(CR:aw P w K mg base "has_row_form" 3 (aC Bq K))(F:bz K "has_web_form" "has_web_form" qH f fd)(hm:mg "has_web_form"=some (.ref f))(hb:Binds K fd ["web"] []):aw P w K mg base "has_web_form" 4 (aC Bc K):=by
 have nd:=yk.nd
 have ndc:List.Nodup [("row":Str)]:=by decide
 refine bD F yk hm hb (λqs T ⟨x,e,_⟩=>by rw [e];rfl) (λcdv A outer s H E qs T hr hS=>?_)
 obtain ⟨v,rfl,rfl⟩:=hS
 refine ah (bQ (TW.tv (dD (bI (bh (cF M.isinstance M.tuple PyProof.Rows.boot_tuple (aa 0 rfl) (vD (r:=ae ab) (r':=ae aB))))) (λ_=>dQ (bj k6 (oO M.len (aa 0 rfl) (vE (r:=ae ab) (r':=ae aB))) au)))) (λh=>absurd h (by decide)) (λ_=>a9 ?_))
 refine ah (aO 1 (c5 (r:=ae ab) (r':=ae aB) (aa 0 rfl)) (ah (aO 2 (bO (r:=ae ab) (r':=ae aB) (aa 0 rfl)) ?_)))
 refine ah (bQ (TW.tv (dD (bI (bh (cF M.isinstance M.list PyProof.Rows.boot_list (aa 1 rfl) ty_list))) (λ_=>dQ (bI (bh (cF M.isinstance M.list PyProof.Rows.boot_list (aa 2 rfl) ty_list)))))) (λh=>absurd h (by decide)) (λ_=>a9 ?_))
 exact ak (bq (dC (aW (CA.mono (by decide:2<=3)) hr (af (aa 1 rfl) ao) ⟨.inl ⟨_,rfl⟩,rfl⟩) (λ_=>dA (dh M.all (aU.im (aT (own:=["row"]) (fr:=[]) (ix:=[]) (p:=λ_=>true) (f:=λ_=>true) (aM (so:=ag qH) (N0:=["web","places","rows"]) rfl rfl (λx h=>aE h) (by decide +kernel)) (aK (aa 2 rfl))
  (λC s H ex=>aA 0) (λx=>⟨.inr rfl,trivial⟩) (λC s H ex x hx=>bA) (λC s H ex x hx _=>aW CR hr (af (aa 0 rfl) ao) ⟨_,rfl,rfl⟩)))))) (by rw [all_true];rfl))
abbrev rO:Stmt:=top i2
theorem y4:ax ["web","places","rows"] ["web"] (ag rO):=⟨rfl,rfl,rfl,by decide +kernel,rfl,by decide +kernel,by decide +kernel⟩
def fH (v:aN):Bool:=
 if !(decide ((1:Int)<=(v.1.length:Int))&&decide ((v.1.length:Int)<=4)) || !(decide ((1:Int)<=(v.2.length:Int))&&decide ((v.2.length:Int)<=60)) then false
 else ((v.1.filter λ_=>true).map λn=>decide ((2:Int)<=n)&&decide (n<=16)).all id
def BB:bN:=λK ps T=>∃v:aN,ps=[⟨bZ,v⟩]/\T=bG K aF (· =fH v)
theorem AE (M:bP mg)(F:bz K "has_web_sizes" "has_web_sizes" rO f fd)(hm:mg "has_web_sizes"=some (.ref f))(hb:Binds K fd ["web"] []):aw P w K mg base "has_web_sizes" 1 (aC BB K):=by
 have nd:=y4.nd
 have ndc:List.Nodup [("size":Str)]:=by decide
 obtain ⟨t1,h1⟩:=M.mostParts
 obtain ⟨t2,h2⟩:=M.mostRows
 obtain ⟨t3,h3⟩:=M.leastPlaces
 obtain ⟨t4,h4⟩:=M.mostPlaces
 refine bD F y4 hm hb (λqs T ⟨x,e,_⟩=>by rw [e];rfl) (λcdv A outer s H E qs T hr hS=>?_)
 obtain ⟨v,rfl,rfl⟩:=hS
 refine ah (aO 1 (c5 (r:=ae ab) (r':=ae aB) (aa 0 rfl)) (ah (aO 2 (bO (r:=ae ab) (r':=ae aB) (aa 0 rfl)) ?_)))
 refine ah (bQ (TW.tv (dD (bI (fB dU dU au (cR M.len (aa 1 rfl)) (ck h1))) (λ_=>dQ (bI (fB dU dU au (cR M.len (aa 2 rfl)) (ck h2)))))) (λh=>?_) (λh=>a9 ?_))
 ·exact ak (bq c8 (by rw [fH,if_pos h]))
 ·exact ak (bq (dh M.all (aU.im (aT (own:=["size"]) (fr:=[]) (ix:=[]) (p:=λ_=>true) (f:=λn=>decide ((2:Int)<=n)&&decide (n<=16)) (aM (so:=ag rO) (N0:=["web","places","rows"]) rfl rfl (λx h=>aE h) (by decide +kernel)) (aK (aa 1 rfl))
   (λC s H ex=>aA 0) (λx=>⟨.inr rfl,trivial⟩) (λC s H ex x hx=>bA) (λC s H ex x hx _=>fD dU dU (ck h3) (aa 0 rfl) (ck h4))))) (by rw [fH,if_neg (by rw [h];decide)]))
abbrev uJ:Stmt:=top jI
theorem xM:ax ["places","row","part"] ["places","row"] (ag uJ):=⟨rfl,rfl,rfl,by decide +kernel,rfl,by decide +kernel,by decide +kernel⟩
def e8 (ns:List Int)(r:Row):Bool:=
 if !(decide (0<=r.1)&&decide (r.1 < (ns.length:Int))) then false
 else if !(decide (0<=r.2.1)&&decide (r.2.1 < ns.getD r.1.toNat 0)) || !(decide (0<=r.2.2.1)&&decide (r.2.2.1 < ns.getD r.1.toNat 0)) then false
 else (!decide (r.2.1=1))&&(decide (r.2.2.2= -1) ||(decide (r.1 < r.2.2.2)&&decide (r.2.2.2 < (ns.length:Int))))
def Bl:bN:=λK ps T=>∃ns r,ps=[⟨ae ab,ns⟩,⟨aB,r⟩]/\T=bG K aF (· =e8 ns r)
theorem AZ (M:bP mg)(F:bz K "leads_within" "leads_within" uJ f fd)(hm:mg "leads_within"=some (.ref f))(hb:Binds K fd ["places","row"] []):aw P w K mg base "leads_within" 1 (aC Bl K):=by
 have nd:=xM.nd
 obtain ⟨t1,hEND⟩:=M.end_
 obtain ⟨t2,hNC⟩:=M.noCall
 refine bD F xM hm hb (λqs T ⟨ns,r,e,_⟩=>by rw [e];rfl) (λcdv A outer s H E qs T hr hS=>?_)
 obtain ⟨ns,r,rfl,rfl⟩:=hS
 refine ah (aO 2 (ff (aa 1 rfl)) ?_)
 refine ah (bQ (bI (fB dU dY au (aa 2 rfl) (cR M.len (aa 0 rfl)))) (λh=>?_) (λh=>?_))
 ·exact ak (bq c8 (by rw [e8,if_pos h]))
 refine a9 ?_
 have h':0<=r.1/\r.1 < (ns.length:Int):=by simpa using h
 have hix:cO ns r.1=some (ns.getD r.1.toNat 0):=cz h'.1 h'.2
 refine ah (bQ (TW.tv (dD (bI (fB dU dY au (ez (aa 1 rfl)) (bB (aa 0 rfl) (aa 2 rfl) hix))) (λ_=>dQ (bI (fB dU dY au (cQ (aa 1 rfl)) (bB (aa 0 rfl) (aa 2 rfl) hix)))))) (λh2=>?_) (λh2=>?_))
 ·exact ak (bq c8 (by rw [e8,if_neg (by rw [h];decide),if_pos h2]))
 refine a9 (ak (bq (dC (dB k6 (ez (aa 1 rfl)) (ck hEND)) (λ_=>dA (zK (dB eG (kX (aa 1 rfl)) (ck hNC)) (λ_=>dA (fD dY dY (aa 2 rfl) (kX (aa 1 rfl)) (cR M.len (aa 0 rfl))))))) ?_))
 rw [e8,if_neg (by rw [h];decide),if_neg (by rw [h2];decide)]
abbrev qA:Stmt:=top mz
theorem xo:ax ["rows","part"] ["rows","part"] (ag qA):=⟨rfl,rfl,rfl,by decide +kernel,rfl,by decide +kernel,by decide +kernel⟩
def called (rs:List Row)(p:Int):Bool:=((rs.filter λ_=>true).map λr=>decide (r.2.2.2=p)).any id
def Bi:bN:=λK ps T=>∃(rs:List Row) (p:Int),ps=[⟨ae aB,rs⟩,⟨ab,p⟩]/\T=bG K aF (· =called rs p)
theorem Ag (M:bP mg)(F:bz K "is_called" "is_called" qA f fd)(hm:mg "is_called"=some (.ref f))(hb:Binds K fd ["rows","part"] []):aw P w K mg base "is_called" 1 (aC Bi K):=by
 have nd:=xo.nd
 have ndc:List.Nodup [("row":Str),"part"]:=by decide
 refine bD F xo hm hb (λqs T ⟨_,_,e,_⟩=>by rw [e];rfl) (λcdv A outer s H E qs T hr hS=>?_)
 obtain ⟨rs,p,rfl,rfl⟩:=hS
 exact ak (bq (sF M.any (aU.im (aT (own:=["row"]) (fr:=["part"]) (ix:=[1]) (p:=λ_=>true) (f:=λr=>decide (r.2.2.2=p)) (aM (so:=ag qA) (N0:=["rows","part"]) rfl rfl (λx h=>aE h) (by decide +kernel)) (aK (aa 0 rfl))
  (λC s H ex=>aA 0) (λx=>⟨.inr rfl,.inl rfl,trivial⟩) (λC s H ex x hx=>bA) (λC s H ex x hx _=>dB eG (kX (aa 0 rfl)) (aa 1 rfl))))) rfl)
end
end K1
namespace Fc
open PySem PySem.Spec L2
open PyProof.Rows hiding St
section
variable {X:Cx}{Γ Γ1 Γ2 Γ3:Ga}{α β γ δ:Type}{N:Ga->Prop}{T:RT}
theorem EV.rep {e:Expr}{r:Rep α}{x:α}{r':Rep β}{y:β}(h:EV X e Γ r x Γ1)(c:∀(R:Hp) v,r.R X.K R v x->r'.R X.K R v y):EV X e Γ r' y Γ1:=λσ H0 R0 H R E Q q=>h σ H0 R0 H R E Q λv H' R' E' s' e'=>q v H' R' E' s' (c R' v e')
end
section
variable {X:Cx}{Γ Γ1 Γ2 Γ3:Ga}{α β γ δ:Type}{N:Ga->Prop}{T:RT}
theorem paired_ints {K:PySem.W.Frag}{R:Hp}:∀ys:List Int,PySem.Paired (ab.R K R) (ys.map V.int) ys
 | []=>.nil
 | _::r=>.cons rfl (paired_ints r)
theorem gW {a:Expr}{p1 p2 pos pos2:Pos}{n:Int}(hml:X.mg "list"=none)(hmr:X.mg "range"=none)(ha:EV X a Γ ab n Γ1)(hn: -1000000<=n/\n<=1000000)(hs:starEach [a] X.env=[(false,eval a X.env)]:=by rfl)
 (hs2:starEach [.Call (.Name "range" p2) [a] [] pos2] X.env=[(false,eval (.Call (.Name "range" p2) [a] [] pos2) X.env)]:=by rfl) (hc:X.calm=true:=by rfl) (hg:Gl X "list":=by rfl) (hgr:Gl X "range":=by rfl):aU X (.Call (.Name "list" p1) [.Call (.Name "range" p2) [a] [] pos2] [] pos) Γ ab (ups 0 n.toNat) Γ1:=by
 intro σ H0 R0 H R E Q q
 refine eS (dN (mn hc) hg hml PyProof.Rows.boot_list (aQ (dN kD hgr hmr boot_range (aQ aD bF hs) (by decide) (by decide) hs) bF hs2) (by decide) (by decide) hs2) (ha σ H0 R0 H R E _ λv H1 R1 E1 s1 e1=>⟨n,by rw [show v=V.int n from e1],λp hp=>?_⟩)
 refine ⟨p,0,n,rfl,ar,by decide,by decide,hn.1,hn.2,λd hd=>?_⟩
 have E2:=E1.grow (Ext.bW E1.sub hp (.rng 0 n))
 rw [Int.sub_zero]
 exact q d _ _ R1 (E2.grow (Ext.bW E2.sub hd _)) s1 ar (E2.sub.free hd) (E2.ext.h.free hd) (E2.off hd) (paired_ints _) (by rw [av];exact Nat.le_trans (show n.toNat<=1000000 by omega) (by decide))
end
end Fc
namespace K1
open PySem L2 Fc
open PySem.Spec hiding Row
open PyProof.Rows hiding St
open PySem.Builtin.Int (intBits)
section
variable {n:Nat}
theorem lr {a b:Int}{m:Nat}(hb:0 < b)(ha:intBits a<=m):intBits (a / b)<=m:=by
 rw [← Int.fdiv_eq_ediv_of_nonneg a (Int.le_of_lt hb)];exact bits_fdiv ha
theorem hZ {x y:Int}(h0:0<=x)(h1:x < 4294967296):IntMulOk x y:=.of_left (intBits_le_64 (by omega) (by omega))
theorem dS {i:Int}(h0:0<=i)(h1:i < n):eW n i=some i.toNat:=by unfold eW;rw [if_pos h0,if_pos h1]
abbrev jo:Rep (Int×Int):=az ab ab
theorem bo {k:Int}:k∈ups 0 n↔0<=k/\k < n:=by
 unfold ups
 rw [List.mem_map]
 constructor
 ·rintro ⟨j,hj,rfl⟩
  have:=List.mem_range.mp hj
  omega
 ·rintro ⟨h0,h1⟩
  exact ⟨k.toNat,List.mem_range.mpr (by omega),by omega⟩
theorem jd (n:Nat):(ups 0 n).Pairwise (· < ·):=by
 unfold ups
 rw [List.pairwise_map]
 exact List.pairwise_lt_range.imp λh=>by omega
theorem eO (n:Nat):(ups 0 n).Nodup:=(jd n).imp λh=>by omega
theorem aV (h:n<=1000000):n<=sizeLine:=Nat.le_trans h (by decide)
theorem cv {α:Type}{xs:List α}{i:Int}(d:α)(h0:0<=i)(h1:i < xs.length):cO xs i=some (xs.getD i.toNat d):=by
 rw [dy h0 h1,List.getElem?_eq_getElem (by omega),List.getD_eq_getElem?_getD,List.getElem?_eq_getElem (by omega)];rfl
theorem rep0 (n:Nat):(List.replicate n [(0:Int)]).flatten=List.replicate n 0:=by
 induction n with
 | zero=>rfl
 | succ n ih=>rw [List.replicate_succ,List.flatten_cons,ih,List.replicate_succ];rfl
end
end K1
namespace Fc
open PySem PySem.Spec L2
open PyProof.Rows hiding St
section
variable {X:Cx}{Γ Γ1 Γ2 Γ3:Ga}{α β γ δ:Type}{N:Ga->Prop}{T:RT}
variable {pos:Pos}{a:Expr}{r:Rep α}{x:Str}{p2:Pos}{F:List (Int×Int)}{Γf:Ga}{e:Expr}
theorem iW (xs:Array (Int×Tok)):∀n:Nat,preSum (numAt xs) n=((xs.toList.map (·.1)).take n).sum
 | 0=>rfl
 | n + 1=>by
   have e:preSum (numAt xs) (n + 1)=preSum (numAt xs) n + numAt xs n:=rfl
   rw [e,iW xs n,PySem.sum_take_succ,numAt_eq]
theorem rX (hc:X.calm=true):c4 X (.builtin "sum") (λxs H Q=>∃(p:Addr) (ns:List Int),xs=[.ref p]/\aH X.K H p (ns.map V.int)/\Q (.int ns.sum) H):=by
 intro pins s σ H xs us Q I r h
 obtain ⟨p,ns,rfl,hq,q⟩:=h
 obtain ⟨u,rfl,rx⟩:=vals1 r
 cases rx
 obtain ⟨its,r',pl,hz⟩:=I.list hq
 have hi:=intsAre_of r'
 have hl:=pl.isList
 obtain ⟨xs,e⟩:=hi.allInts.items
 have hns:ns=xs.toList.map (·.1):=by rw [← hi.numsOf,← nums_intItems,← e]
 rw [e] at hl
 refine call_sum_walkG (iter_intList hl λs₂ e st hfp hlI=>?_)
 subst e
 refine ⟨_,_,_,_,_,_,numAt xs,rfl,Walks.list (A:=X.A.in1) (I.ok.hd hc) _ p hlI (intItems xs),st,hfp,(λ_ _=>intItems_at),λh' tk t' hk=>?_⟩
 have es:preSum (numAt xs) (intItems xs).size=ns.sum:=by
  rw [iW,hns,List.take_of_length_le]
  simp [intItems]
 rw [es]
 exact ⟨.int _,H,I.kept (old_kept hk),⟨t',rfl⟩,q⟩
theorem jO {p:Pos}{ns:List Int}(hm:X.mg "sum"=none)(ha:EV X a Γ (ae ab) ns Γ1)(hs:starEach [a] X.env=[(false,eval a X.env)]:=by rfl)(hc:X.calm=true:=by rfl)(hg:Gl X "sum":=by rfl):EV X (.Call (.Name "sum" p) [a] [] pos) Γ ab ns.sum Γ1:=
 l4 (rX hc) hm PyProof.Rows.boot_sum ha (λR H v Q s ⟨p,vs,e,hp,pp,_⟩ q=>⟨p,ns,by rw [e],by rw [← c9 pp];exact aH.of (s _ _ hp),q _ rfl⟩) hs hg
theorem wc {r':Rep β} [DecidableEq α] [DecidableEq β]{n m:Nat}(e:dg r n)(e':dg r' m){X:Cx}{pins:List (Addr×Obj)}{σ:St}{H:Hp}{s:Shared}{R:Hp}{A:Around}(I:Inv X pins σ H s)(sub:aj R H){a b:Addr}{v1 v2 w1 w2:V}{x y:α×β}(ha:R a=some (.tup [v1,v2]))(hb:R b=some (.tup [w1,w2]))
 (p1:r.R X.K R v1 x.1) (p2:r'.R X.K R v2 x.2) (q1:r.R X.K R w1 y.1) (q2:r'.R X.K R w2 y.2) (hu:A.units + (n + 1) < cLine) (hu':A.units + (m + 1) < cLine):
 SeqAt.RcAt A s (.ref a) (.ref b) (decide (x=y))/\SeqAt.RcNeAt A s (.ref a) (.ref b) (!decide (x=y)):=by
 have key:=mm (A:=A) (k:=λj=>if j=0 then decide (x.1=y.1) else decide (x.2=y.2)) I sub ha hb rfl (by omega) λus us' hv hw j h1 h2=>by
  cases hv with
  | cons a1 t=>cases t with
    | cons a2 t=>cases t;cases hw with
      | cons b1 t=>cases t with
        | cons b2 t=>
          cases t
          match j,h1 with
          | 0,_=>exact e.eq (A:=A.in1) I sub a1 b1 p1 q1 (by rw [in1_units];omega)
          | 1,_=>exact e'.eq (A:=A.in1) I sub a2 b2 p2 q2 (by rw [in1_units];omega)
          | j + 2,h=>exact absurd h (by simp)
 have d:(List.range [v1,v2].length).all (λj=>if j=0 then decide (x.1=y.1) else decide (x.2=y.2))=decide (x=y):=by
  obtain ⟨x1,x2⟩:=x
  obtain ⟨y1,y2⟩:=y
  simp [List.range_succ,Bool.eq_iff_iff]
 rw [d] at key
 exact key
theorem p9 {r':Rep β} [DecidableEq α] [DecidableEq β]{n m:Nat}(e:dg r n)(e':dg r' m)(hu:X.A.units + (n + 1) < cLine)(hu':X.A.units + (m + 1) < cLine){x y:α×β}:eN X .Eq (az r r') (az r r') x y (decide (x=y)):=
 ⟨λv u H Q=>∃R,aj R H/\(az r r').R X.K R v x/\(az r r').R X.K R u y/\Q (.bl (decide (x=y))) H,λpins s σ H v1 u1 v u Q I rx ry ⟨R,sub,h1,h2,q⟩=>by
  obtain ⟨a,v1,v2,rfl,ha,p1,p2⟩:=h1
  obtain ⟨b,w1,w2,rfl,hb,q1,q2⟩:=h2
  cases rx
  cases ry
  exact (wc (A:=X.A) e e' I sub ha hb p1 p2 q1 q2 hu hu').1 _ _ _ _ ⟨.bl _,H,I,rfl,q⟩,λR H v u Q s h1 h2 q=>⟨R,s,h1,h2,q⟩⟩
theorem ui {p4:Pos}{k:Nat}{w:Row}(ha:EV X a Γ aB w Γ):EV X (.Subscript a (.Slice none (some (.Constant (.int 2) k p4)) none p2) pos) Γ (az ab ab) (w.1,w.2.1) Γ:=by
 intro σ H0 R0 H R E Q q
 refine eS (my zx aD oF (n5 dq)) (ha σ H0 R0 H R E _ λv H1 R1 E1 s1 e1=>?_)
 obtain ⟨p,rfl,hp⟩:=e1
 refine ⟨_,rfl,p,_,rfl,cU.of (E1.sub _ _ hp),?_,λd hd=>?_⟩
 ·exact λz=>absurd z.2 (by show¬(HT.sIx 4 4 (some 2)=4);decide)
 ·have s2:aj R1 (upd R1 d (.tup [V.int w.1,V.int w.2.1])):=aj.fresh (E1.sub.free hd) _
  exact q _ _ (upd R1 d (.tup [V.int w.1,V.int w.2.1])) (E1.grow (Ext.fresh E1.sub hd _)) (s1.trans s2) ⟨d,_,_,rfl,ar,rfl,rfl⟩
def cI (F:List (Int×Int)):List (Int×V):=F.map λp=>(p.1,.int p.2)
def bC (F:List (Int×Int))(k:Int):Option Int:=(F.find? λp=>decide (p.1=k)).map (·.2)
def fT (F:List (Int×Int))(k v:Int):List (Int×Int):=if (bC F k).isSome then F.map (λp=>if p.1=k then (p.1,v) else p) else F++[(k,v)]
theorem fE:∀(F:List (Int×Int)) (k:Int),cg (cn (cI F)) (Sum.inl k:Key)=(bC F k).map V.int
 | [],_=>rfl
 | p::r,k=>by
   have ih:=fE r k
   by_cases e:p.1=k
   ·have e':(Sum.inl p.1:Key)=Sum.inl k:=by rw [e]
    have h1:cg (cn (cI (p::r))) (Sum.inl k:Key)=some (.int p.2):=cA (p:=((Sum.inl p.1:Key),V.int p.2)) e'
    rw [h1]
    unfold bC
    rw [List.find?_cons,decide_eq_true e];rfl
   ·have e':¬(Sum.inl p.1:Key)=Sum.inl k:=λz=>e (Sum.inl.inj z)
    have h1:cg (cn (cI (p::r))) (Sum.inl k:Key)=cg (cn (cI r)) (Sum.inl k:Key):=cy (p:=((Sum.inl p.1:Key),V.int p.2)) e'
    rw [h1,ih]
    unfold bC
    rw [List.find?_cons,decide_eq_false e]
theorem qd (F:List (Int×Int))(k v:Int):putK (cn (cI F)) (Sum.inl k:Key) (.int v)=cn (cI (fT F k v)):=by
 unfold putK fT
 rw [dF,fE]
 have e:((bC F k).map V.int).isSome=(bC F k).isSome:=by cases bC F k<;>rfl
 rw [e]
 split
 ·unfold cn cI
  simp only [List.map_map]
  apply List.map_congr_left
  intro p _
  simp only [Function.comp]
  by_cases h:p.1=k
  ·rw [if_pos (by rw [h]),if_pos h]
  ·rw [if_neg (λz=>h (Sum.inl.inj z)),if_neg h]
 ·unfold cn cI
  rw [List.map_append,List.map_append];rfl
theorem fY (F:List (Int×Int))(k:Int):dR (cI F) k=(bC F k).isSome:=by
 rw [← fZ,fE];cases bC F k<;>rfl
def gj:Rep (List (Int×Int)):=⟨λ_ H v F=>∃a,v= .ref a/\H a=some (.dK (cn (cI F))),λs ⟨a,e,q⟩=>⟨a,e,s _ _ q⟩⟩
theorem jK {b:Expr}{k y:Int}(hu:X.A.units + 1 < cLine)(ha:EV X a Γ gj F Γ1)(hb:EV X b Γ1 ab k Γ2)(h:bC F k=some y)(hs:pC b:=by exact λ_ _=>rfl):EV X (.Subscript a b pos) Γ ab y Γ2:=by
 intro σ H0 R0 H R E Q q
 refine eS (oP hu aD aD hs) (ha σ H0 R0 H R E _ λv H1 R1 E1 s1 e1=>hb σ H0 R0 H1 R1 E1 _ λu H2 R2 E2 s2 e2=>?_)
 obtain ⟨p,rfl,hp⟩:=gj.mono s2 e1
 cases e2
 have g:=dE.k (k:=Sum.inl k) (E2.sub _ _ hp)
 rw [fE,h] at g
 exact ⟨p,_,rfl,g,q _ H2 R2 E2 (s1.trans s2) rfl⟩
theorem rT (i:Nat){ke ve:Expr}{p1:Pos}{k v:Int}(hu:X.A.units + 1 < cLine)(hk:EV X ke Γ ab k Γ)(hv':EV X ve Γ ab v Γ)(hΓ:Γ[i]?=some (.di (cI F)))(hz:F.length < sizeLine)(h:N (Γ.set i (.di (cI (fT F k v)))))
 (hN:X.N[i]?=some x:=by rfl) (hvi:bT X.env.scope x:=by first | exact Or.inl rfl | exact Or.inr (Or.inl rfl) | exact Or.inr (Or.inr rfl))
 (hd:(x==("__debug__":Str))=false:=by decide) (hcd:(x==("__classdict__":Str))=false:=by decide)
 (hs:swapsWith ve (some (.Subscript (.Name x p1) ke p2)) pos.line X.env=pure false:=by rfl):W1 X (.Assign [.Subscript (.Name x p1) ke p2] ve pos) Γ N T:=λσ H0 R0 H R E D dn dr=>by
 refine sS (ou hu (aP hN hvi hd hcd) aD aD hs) (hv' σ H0 R0 H R E _ λu0 H0' R0' E0 s0 e0=>?_)
 obtain ⟨a,ea,ha,hR⟩:=E0.ent i _ hΓ
 refine ⟨.ref a,at_of ea,hk σ H0 R0 H0' R0' E0 _ λu H1 R1 E1 s1 e1=>?_⟩
 obtain ⟨a',ea',ha',hR'⟩:=E1.ent i _ hΓ
 rw [ea] at ea';cases ea'
 cases e1
 cases e0
 refine ⟨a,_,rfl,kR.k (k:=Sum.inl k) ha' (by unfold cn cI;rw [List.length_map,List.length_map];exact hz),?_⟩
 rw [qd]
 exact dn σ _ R1 _ (E1.upd (en:=.di (cI (fT F k v))) hΓ rfl ea hR' ⟨a,rfl,ar,hR'⟩) (s0.trans s1) h
theorem oa (i:Nat){p1:Pos}{P:List (Int×Int)->Prop}(hΓ:Γ[i]?=some (.di (cI F)))(h:P F)(hN:X.N[i]?=some x:=by rfl)(hv:bT X.env.scope x:=by first | exact Or.inl rfl | exact Or.inr (Or.inl rfl) | exact Or.inr (Or.inr rfl))
 (hd:(x==("__debug__":Str))=false:=by decide) (hcd:(x==("__classdict__":Str))=false:=by decide):W1 X (.Return (some (.Name x p1)) pos) Γ N (bG X.K gj P):=λσ H0 R0 H R E D dn dr=>by
 obtain ⟨a,ea,ha,hR⟩:=E.ent i _ hΓ
 have h0:H0 a=none:=E.new i _ a hΓ rfl ea
 refine sS (c7 (aP hN hv hd hcd)) ⟨.ref a,at_of ea,dr _ H (upd R a (.dK (cn (cI F)))) ⟨E.ext.h,E.ext.r.trans (aj.fresh hR _),λb o qb=>?_,λb hb=>?_⟩ ⟨F,⟨a,rfl,ar⟩,h⟩⟩
 ·by_cases hb:b=a
  ·subst hb;rw [ar] at qb;cases qb;exact ha
  ·rw [ay hb] at qb;exact E.ext.s b o qb
 ·rw [ay (show b≠a from λe=>hb (by rw [e];exact h0))];exact E.ext.old b hb
theorem ai.xh {K:PySem.W.Frag}{σ:St}{H0 R0 H R H' R':Hp}(E:ai K σ H0 R0 H R Γ)(E':ai K σ H H H' R' Γf):ai K σ H0 R0 H' R Γ:=
 E.grow ⟨E'.ext.h,aj.refl _,E.sub.trans E'.ext.h,λ_ _=>rfl⟩
theorem TV.frz (hF:∀(σ:St) (H0 R0 H R:Hp),ai X.K σ H0 R0 H R Γ->ai X.K σ H H H H Γf){b:Bool}(h:TV X e Γf b Γf):TV X e Γ b Γ:=λσ H0 R0 H R E Q q=>
 h σ H H H H (hF σ H0 R0 H R E) Q λH' R' E' s'=>q H' R (E.xh E') (aj.refl _)
theorem EV.frz (hF:∀(σ:St) (H0 R0 H R:Hp),ai X.K σ H0 R0 H R Γ->ai X.K σ H H H H Γf){y:α}(flat:∀(K:PySem.W.Frag) (H H':Hp) v y,r.R K H v y->r.R K H' v y)(h:EV X e Γf r y Γf):EV X e Γ r y Γ:=λσ H0 R0 H R E Q q=>
 h σ H H H H (hF σ H0 R0 H R E) Q λv H' R' E' s' e'=>q v H' R (E.xh E') (aj.refl _) (flat X.K R' R v y e')
def kG:Rep Unit:=⟨λ_ _ v _=>v= .non,λ_ h=>h⟩
theorem gh {S:bN}{k:Nat}{es:List Expr}{p:Pos}{ps:List Pk}{Pd:Unit->Prop}(C:aw X.prog X.w X.K X.mg X.base x k (aC S X.K))(hr:bt k X.A)(ha:HA X (e::es) Γ ps Γ1)(hS:S X.K ps (bG X.K kG Pd))(h:N Γ1)
 (hg:Gl X x:=by rfl) (hdb:(x==("__debug__":Str))=false:=by decide) (he:starEach (e::es) X.env=(false,eval e X.env)::starEach es X.env:=by rfl) (hpl:(backTo p2 (starEach es X.env)).any (·.1)=false:=by rfl)
 (hsw:swapsWith (.Call (.Name x p) (e::es) [] p2) none pos.line X.env=pure false:=by rfl):W1 X (.Expr (.Call (.Name x p) (e::es) [] p2) pos) Γ N T:=λσ H0 R0 H R E D dn dr=>
 sS (eu aD hsw) (cH C hr ha hS E (λH1 R1 v H' R' E1 s1 xx t=>dn σ H' R' _ (E1.grow xx) (s1.trans xx.r) h) hg hdb he hpl)
end
section
variable {P:Program}{w:World}{K:PySem.W.Frag}{mg:Str->Option Value}{base:Heap}{α:Type}
theorem mX {S:bN}{x qual:Str}{st:Stmt}{f:Addr}{fd:FuncData}{N ps:List Str}{k:Nat}(F:bz K x qual st f fd)(Sc:ax N ps (ag st))(hm:mg x=some (.ref f))(hb:Binds K fd ps [])(len:∀qs T,S K qs T->qs.length=ps.length)
 (hbody:∀(cdv:Value) (A:Around) (outer:List Env) (s:Shared) (H:Hp) (E:XK) (qs:List Pk) (T:RT),bt k (A.deeper (envOfC qual (ag st) s.heap.objs.size f cdv))->S K qs T->(∀H0 H' R',T H0 .non H' R')/\
  WS (d4 d6 P w K mg base N qual (ag st) f cdv A outer s H E).g8 (bY st) (df qs N.length) (λ_=>True) T):aw P w K mg base x (k + 1) (aC S K):=by
 refine ⟨f,fd,ps,?_,hm,F.kp,hb⟩
 refine F.ok Sc (λvs H Q E h=>?_) (λcdv A outer s H vs Q E hr h=>?_)
 ·obtain ⟨R,qs,T,_,p,hS,_⟩:=h
  rw [p.length];exact len qs T hS
 ·obtain ⟨R,qs,T,sR,p,hS,q⟩:=h
  have hl:qs.length<=N.length:=by
   rw [len qs T hS]
   have:=congrArg List.length Sc.pre
   rw [List.length_take] at this
   omega
  obtain ⟨h1,h2⟩:=hbody cdv A outer s H E qs T hr hS
  exact ⟨_,fq,h2 (L2.start N vs) H R H R (eQ sR p hl) {nx:=λ_ H'=>Q .non H',rt:=Q} (λσ' H' R' Γ' E' _ _=>q .non H' R' E'.ext (h1 _ _ _)) λv H' R' xx t=>q v H' R' xx t⟩
end
variable {P:Program}{w:World}{K:PySem.W.Frag}{mg:Str->Option Value}{base:Heap}
theorem zC {S:bN}{x qual:Str}{st:Stmt}{f:Addr}{fd:FuncData}{N ps:List Str}{k:Nat}(F:bz K x qual st f fd)(Sc:ax N ps (ag st))(len:∀qs T,S K qs T->qs.length=ps.length)
 (hbody:∀(cdv:Value) (A:Around) (outer:List Env) (s:Shared) (H:Hp) (E:XK) (qs:List Pk) (T:RT),bt k (A.deeper (envOfC qual (ag st) s.heap.objs.size f cdv))->S K qs T->
  WS (d4 d6 P w K mg base N qual (ag st) f cdv A outer s H E).g8 (bY st) (df qs N.length) (λ_=>False) T):dG P w K mg base d6 (k + 1) f fd ps (aC S K):=by
 refine F.ok Sc (λvs H Q E h=>?_) (λcdv A outer s H vs Q E hr h=>?_)
 ·obtain ⟨R,qs,T,_,p,hS,_⟩:=h
  rw [p.length];exact len qs T hS
 ·obtain ⟨R,qs,T,sR,p,hS,q⟩:=h
  have hl:qs.length<=N.length:=by
   rw [len qs T hS]
   have:=congrArg List.length Sc.pre
   rw [List.length_take] at this
   omega
  exact ⟨_,fq,hbody cdv A outer s H E qs T hr hS (L2.start N vs) H R H R (eQ sR p hl) {nx:=λ_ H'=>Q .non H',rt:=Q} (λ_ _ _ _ _ _ f=>f.elim) λv H' R' xx t=>q v H' R' xx t⟩
def Def (K:PySem.W.Frag)(mg:Str->Option Value)(x:Str)(st:Stmt)(ps:List Str):Prop:=∃f fd,bz K x x st f fd/\mg x=some (.ref f)/\Binds K fd ps []
theorem aI {h:Heap}{x:Str}{st:Stmt}{ps:List Str}{f:Addr}{oc:Value}{od an:Option Addr}{osl:Array (Option Value)}{kV doc pm cdv ct:Value}(KX:K.In h)(G:h.Ns mainGlobals mg)
 (a:PySem.W.nsIn K mainGlobals x=some (some (.ref f))) (l:K.lookup f=some ⟨oc,od,.func (PySem.W.fnOf x x (dO st) (bY st) (ag st) .none kV doc pm an cdv ct),osl⟩) (c:PySem.W.codeIn K cdv x=true) (k:PySem.W.keepIn K (.ref f)=true)
 (b:∀(kV doc pm:Value) (an:Option Addr) (cdv ct:Value) (us:List Value),us.length=ps.length->bindArgs (PySem.W.fnOf x x (dO st) (bY st) (ag st) .none kV doc pm an cdv ct) ⟨us,[]⟩=pure (ps.zip us)):Def K mg x st ps:=
 ⟨f,_,mx l c k,PySem.W.mg_of KX G a,(mx l c k).binds b⟩
open PySem.Builtin.Int (intBits)
theorem nM {ns:List Int}(h:PySem.W.WData.layableAll [.list (ns.map .int)]=true):∀n∈ns,intBits n<=2 ^ 20:=λn hn=>by
 have h1:=PySem.W.layableW_arg h _ (List.mem_singleton.mpr rfl)
 have h2:=PySem.W.layableW_item h1 (.int n) (List.mem_map.mpr ⟨n,hn,rfl⟩)
 exact PySem.PyData.bits_of_layable h2
end Fc
namespace Att
open PySem PySem.W PySem.Calls PyProof.Rows
open PySem.Builtin.Int (intBits)
theorem nc {l:OpenLaw}{n:Nat}{q:Program}{loose:List Str}{XP:(Str->Option Value)->Heap->Prop}{YP:World->Heap->Prop}{d:DefRec}
 (hn:l.most=some n) (hdf:d.params.defaults=[])
 (call:∀(w:World) (s₀ s₁:Shared) (mg mb:Str->Option Value) (fa:Addr) (o:Obj) (pm cd doc:Value) (a:Addr) (vs:List Value) (ns:List Int),
  Ground q loose [] XP w s₀ mg mb s₁.heap->YP w s₁.heap->
  s₁.heap.get? fa=some o->o.data= .func (docDef d.name d.params d.body d.scope pm cd doc)->s₁.heap.CodeRec cd d.name->mg d.name=some (.ref fa)->
  s₁.heap.get? a=some {cls:=.type "list",data:=.seq vs.toArray}->IntsAre vs ns->ns.length<=n->(∀m∈ns,intBits m<=2 ^ 20)->s₁.gens= #[]->
  codeAny (model l.prog w) callerA (.call (.ref fa) ⟨[.ref a],[]⟩) (λr s'=>r= .ok (.ret (.bool true))/\OldK s₁.heap s'.heap/\s'.os=s₁.os/\AllBare s'.gens) s₁):
 WalkO q loose XP YP l.row.toRowW d [] (λf vs=>PySem.call f vs):=by
 intro w s₀ s₁ mg mb G Y fa o pm cd doc dV kV ho hd hcd hD hmg hg args vals as hpre hlay hrd hwl hlo
 obtain rfl:dV= .none:=Dflts.none hD hdf
 obtain rfl:kV= .none:=Dflts.noKw hD
 obtain ⟨a,vs,ns,rfl,rfl,hobj,hints,hlen⟩:=qC hn hpre hwl
 refine enter_call (codeAny_mono (call w s₀ s₁ mg mb fa o pm cd doc a vs ns G Y ho (fd_plain hd) hcd hmg hobj hints hlen (Fc.nM hlay) hg) λr s' hq=>?_)
 obtain ⟨rfl,h2,h3,h4⟩:=hq
 exact ⟨.inl ⟨.bool true,.bool true,[],rfl,λ_=>rfl,.bool true,qm l _,λ_=>⟨List.Pairwise.nil,λ_ hm=>(nomatch hm)⟩⟩,h2,h3,h4⟩
end Att
namespace L2
open PySem PySem.Spec PyProof.Rows
open PySem.Builtin.Int (intBits)
theorem tW {l:PySem.W.OpenLaw}{n k:Nat}{q:Program}{loose:List Str}{XP:(Str->Option Value)->Heap->Prop}{YP:World->Heap->Prop}{d:DefRec}{K:Params->PySem.W.Frag}{CX:World->gZ}{sp:World->Sp}{x:Str}
 (hn:l.most=some n) (hn2:n<=sizeLine) (hdf:d.params.defaults=[]) (hr:bt k callerA)
 (hY:∀(w:World) (h:Heap),YP w h->(K w.params).In h)
 (F:∀(w:World) (mg:Str->Option Value) (fa:Addr) (h:Heap),(K w.params).In h->h.Ns mainGlobals mg->mg d.name=some (.ref fa)->
  ∃fd:FuncData,(∀(s:Shared) (u:Value),BindsTo s fd ⟨[u],[]⟩ [(x,u)])/\
   ∀base:Heap,(K w.params).In base->base.Ns mainGlobals mg->dG l.prog w (K w.params) mg base (CX w) k fa fd [x] (sp w))
 (hsp:∀(w:World) (H:Hp) (a:Addr) (ns:List Int),ns.length<=n->(∀m∈ns,intBits m<=2 ^ 20)->uf H->aH (K w.params) H a (ns.map V.int)->sp w [.ref a] H (λv _=>v= .bl true) λ_ _ _=>False)
 (hCX:∀(w:World) (H:Hp) (s:Shared) (e:Value) (s':Shared),CX w [] H s (λ_ _ _=>False) e s'->False):
 PySem.W.WalkO q loose XP YP l.row.toRowW d [] (λf vs=>PySem.call f vs):=by
 refine Att.nc hn hdf λw s₀ s₁ mg mb fa o pm cd doc a vs ns G Y ho hd hcd hmg hobj hints hlen hbits hg=>?_
 have KX:=hY w _ Y
 obtain ⟨fd,hb,hF⟩:=F w mg fa _ KX G.T.g hmg
 exact sV KX G.T.g G.T.b G.T.builtins G.T.nolimit hg hobj hints (Nat.le_trans hlen hn2) hr hF hb (λH hO hS=>hsp w H a ns hlen hbits hO hS) λH e s'=>hCX w H s₁ e s'
end L2
namespace Fc
open PySem PySem.Spec L2
open PyProof.Rows hiding St
section
variable {X:Cx}{Γ Γ1:Ga}
end
section
variable {P:Program}{w:World}{K:PySem.W.Frag}{mg:Str->Option Value}{base:Heap}
end
section
variable {X:Cx}{pins:List (Addr×Obj)}{σ:St}{H:Hp}{s:Shared}{e:Addr}{o:Obj}
end
end Fc
namespace Fc
open PySem PySem.Spec PySem.W PySem.Calls PySem.Builtin.ObjectAttr PySem.Builtin.Getset_descriptor L2
open PyProof.Rows hiding St
section
variable {K:Frag}{D x:Addr}{prog:Program}{w:World}{A:Around}{E:Value->Shared->Prop}{s:Shared}
end
section
variable {X:Cx}{Γ Γ1:Ga}{ea D:Addr}{oe:Obj}
end
end Fc
namespace Fc
open PySem PySem.Spec L2
open PyProof.Rows hiding St
section
variable {X:Cx}{Γ Γ1 Γ2 Γ3:Ga}{α β γ δ:Type}{N:Ga->Prop}{T:RT}
variable {r:Rep α}{xs:List α}
theorem Ax (i:Nat){x:Str}{pos:Pos}(hΓ:Γ[i]?=some (.im (ae r) xs))(hN:X.N[i]?=some x:=by rfl)(hv:bT X.env.scope x:=by first | exact Or.inl rfl | exact Or.inr (Or.inl rfl) | exact Or.inr (Or.inr rfl))
 (hd:(x==("__debug__":Str))=false:=by decide) (hcd:(x==("__classdict__":Str))=false:=by decide)
 (he:∀whole,isTrue (.Name x pos) X.env whole=(do let v ← whole;standAt (Expr.Name x pos).pos;holding [v] (truthy v)):=by intro _;rfl):TV X (.Name x pos) Γ (!xs.isEmpty) Γ:=by
 intro σ H0 R0 H R E Q q
 obtain ⟨v,ea,a,vs,rfl,ha,pp,_⟩:=E.ent i _ hΓ
 refine tS (mC (aP hN hv hd hcd) he) ⟨.ref a,at_of ea, !xs.isEmpty,.inl ⟨vs,aH.of (E.sub _ _ ha),?_⟩,q H R E (aj.refl _)⟩
 cases pp<;>rfl
theorem iA {i:Nat}(hΓ:Γ[i]?=some (.mu r xs))(hz:xs.length<=sizeLine)(σ:St)(H0 R0 H R:Hp)(E:ai X.K σ H0 R0 H R Γ):ai X.K σ H H H H ((Γ.map jL).set i (.im (ae r) xs)):=by
 obtain ⟨a,vs,ea,ha,hR,pp⟩:=E.ent i _ hΓ
 exact E.frz.iI (i:=i) (e0:=.no) (by rw [List.getElem?_map,hΓ];rfl) ⟨.ref a,ea,a,vs,rfl,ha,Paired.map (λ_ _=>r.mono E.sub) pp,hz⟩ λb w=>by cases w
theorem oA (i:Nat){x:Str}{p1 pos:Pos}{P:List α->Prop}(hΓ:Γ[i]?=some (.mu r xs))(hz:xs.length<=sizeLine)(h:P xs)(hN:X.N[i]?=some x:=by rfl)(hv:bT X.env.scope x:=by first | exact Or.inl rfl | exact Or.inr (Or.inl rfl) | exact Or.inr (Or.inr rfl))
 (hd:(x==("__debug__":Str))=false:=by decide) (hcd:(x==("__classdict__":Str))=false:=by decide):W1 X (.Return (some (.Name x p1)) pos) Γ N (hU X.K r P):=λσ H0 R0 H R E D dn dr=>by
 obtain ⟨a,vs,ea,ha,hR,pp⟩:=E.ent i _ hΓ
 exact sS (c7 (aP hN hv hd hcd)) ⟨.ref a,at_of ea,dr _ H R E.ext ⟨a,vs,xs,rfl,E.new i _ a hΓ rfl ea,ha,hR,pp,hz,h⟩⟩
end
section
variable {X:Cx}{Γ Γ1 Γ2 Γ3:Ga}{α β γ δ:Type}{N:Ga->Prop}{T:RT}
end
section
variable {X:Cx}{Γ Γ1 Γ2 Γ3:Ga}{α β γ δ:Type}{N:Ga->Prop}{T:RT}
end
section
variable {X:Cx}{Γ Γ1 Γ2 Γ3:Ga}{α β γ δ:Type}{N:Ga->Prop}{T:RT}
def de (H:Hp)(l:List Addr):Hp:=λb=>if b∈l then none else H b
theorem f7 {H:Hp}{l:List Addr}{b:Addr}(h:b∈l):de H l b=none:=if_pos h
theorem cY {H:Hp}{l:List Addr}{b:Addr}(h:b∉l):de H l b=H b:=if_neg h
theorem i3 {H:Hp}{l:List Addr}:aj (de H l) H:=λb o q=>by
 by_cases h:b∈l
 ·rw [f7 h] at q;cases q
 ·rwa [cY h] at q
theorem ai.uQ {K:PySem.W.Frag}{σ:St}{H0 R0 H R H' R':Hp}{i:Nat}{B B':g9}(E:ai K σ H0 R0 H R Γ)(hΓ:Γ[i]?=some (.ob B))(x:Ext (de H B.fp) R H' R')(ho:(Ent.ob B').ok K H' R' (σ[i]?).join)(hfp:∀b∈B'.fp,b∈B.fp):ai K σ H0 R0 H' R' (Γ.set i (.ob B')):=by
 have h0:∀b∈B.fp,H0 b=none:=λb hb=>E.nw i _ b hΓ hb
 have out:∀{b:Addr},H0 b≠none->b∉B.fp:=λh e=>h (h0 _ e)
 have apart:∀(j:Nat) (e:Ent),j≠i->Γ[j]?=some e->∀b∈e.fp (σ[j]?).join,b∉B.fp:=λj e hj qj b hb w=>hj (E.ds j i e _ b qj hΓ hb w)
 refine ⟨⟨λb o q=>?_,E.ext.r.trans x.r,x.s,λb hb=>?_⟩,λj e q=>?_,λj e b q w=>?_,λj k e e' b q q' w w'=>?_,by rw [List.length_set];exact E.len⟩
 ·exact x.h b o (by rw [cY (out (by rw [q];exact Option.some_ne_none _))];exact E.ext.h b o q)
 ·refine (x.old b ?_).trans (E.ext.old b hb)
  rw [cY (out hb)];exact aj.some E.ext.h hb
 ·rcases set_at q with ⟨rfl,rfl,_⟩ | ⟨hj,q1⟩
  ·exact ho
  ·have h1:=E.ent j e q1
   refine h1.loc (λb hb=>?_) x.r λb hb=>?_
   ·cases e2:H b with
    | none=>exact absurd e2 (Ent.cw h1 hb).1
    | some u=>exact x.h b u (by rw [cY (apart j e hj q1 b hb)];exact e2)
   ·exact (x.old b (by rw [cY (apart j e hj q1 b hb)];exact (Ent.cw h1 hb).1)).trans (Ent.cw h1 hb).2
 ·rcases set_at q with ⟨rfl,rfl,_⟩ | ⟨hj,q1⟩
  ·exact h0 b (hfp b w)
  ·exact E.nw j e b q1 w
 ·rcases set_at q with ⟨rfl,rfl,_⟩ | ⟨hj,q1⟩
  ·rcases set_at q' with ⟨rfl,rfl,_⟩ | ⟨hk,q1'⟩
   ·rfl
   ·exact absurd (hfp b w) (apart k e' hk q1' b w')
  ·rcases set_at q' with ⟨rfl,rfl,_⟩ | ⟨hk,q1'⟩
   ·exact absurd (hfp b w') (apart j e hj q1 b w)
   ·exact E.ds _ _ _ _ b q1 q1' w w'
structure d5 (P:Type):Type 1 where
 bx:Addr->Addr->P->g9
 fp:∀a b s,(bx a b s).fp=[a,b]
 at_:∀{K H R v a b s},(bx a b s).R K H R v->v= .ref a
abbrev iC (P:Type):=PySem.W.Frag->P->List Pk->(P->RT)->Prop
def dz {P:Type}(B:d5 P)(S:iC P)(K:PySem.W.Frag):Sp:=λvs H Q _=>∃R a b s vs' ps T,vs= .ref a::vs'/\aj R H/\(R a=none/\R b=none)/\(B.bx a b s).R K H R (.ref a)/\fM K R vs' ps/\S K s ps T/\
 ∀v H' R' s',Ext (de H [a,b]) R H' R'->(B.bx a b s').R K H' R' (.ref a)->(R' a=none/\R' b=none)->T s' (de H [a,b]) v H' R'->Q v H'
theorem cP {P:Type}{B:d5 P}{K:PySem.W.Frag}{H R:Hp}{a b:Addr}{s:P}{o:Option V}(h:(Ent.ob (B.bx a b s)).ok K H R o):o=some (.ref a)/\(B.bx a b s).R K H R (.ref a)/\R a=none/\R b=none:=by
 obtain ⟨⟨v,e,hv⟩,hR⟩:=h
 have:=B.at_ hv
 subst this
 exact ⟨e,hv,hR a (by rw [B.fp];simp),hR b (by rw [B.fp];simp)⟩
theorem fJ {P:Type}{B:d5 P}{K:PySem.W.Frag}{H R:Hp}{a b:Addr}{s:P}(h:(B.bx a b s).R K H R (.ref a))(h1:R a=none)(h2:R b=none):(Ent.ob (B.bx a b s)).ok K H R (some (.ref a)):=
 ⟨⟨_,rfl,h⟩,λc hc=>by
   rw [B.fp] at hc
   rcases List.mem_cons.mp hc with rfl | hc
   ·exact h1
   ·rw [List.mem_singleton.mp hc];exact h2⟩
theorem ib {P:Type}{B:d5 P}{S:iC P}{x y:Str}{k:Nat}{es:List Expr}{p p1 pos:Pos}{ps:List Pk}{a b:Addr}{s0 s:P}{TM:P->RT}{Q:VK}{σ:St}{H0 R0 H R:Hp}(i:Nat)(C:aw X.prog X.w X.K X.mg X.base x k (dz B S X.K))(hr:bt k X.A)(ha:HA X es Γ ps Γ1)(hΓ:Γ[i]?=some (.ob (B.bx a b s0)))(hΓ1:Γ1[i]?=some (.ob (B.bx a b s)))(hS:S X.K s ps TM)(E:ai X.K σ H0 R0 H R Γ)
 (q:∀H1 R1 v H' R' s',ai X.K σ H0 R0 H1 R1 Γ1->aj R R1->Ext (de H1 [a,b]) R1 H' R'->ai X.K σ H0 R0 H' R' (Γ1.set i (.ob (B.bx a b s')))->TM s' (de H1 [a,b]) v H' R'->Q v H')
 (hg:Gl X x) (hdb:(x==("__debug__":Str))=false) (he:starEach (.Name y p1::es) X.env=(false,eval (.Name y p1) X.env)::starEach es X.env) (hpl:(backTo pos (starEach es X.env)).any (·.1)=false)
 (hN:X.N[i]?=some y) (hv:bT X.env.scope y) (hd:(y==("__debug__":Str))=false) (hcd:(y==("__classdict__":Str))=false):cN X (.Call (.Name x p) (.Name y p1::es) [] pos) σ H Q:=by
 obtain ⟨f,fd,pn,F,hm,hk,hb⟩:=C.ex
 obtain ⟨ea,_,_⟩:=cP (E.ent i _ hΓ)
 refine eS (kU F hr hg hm hk hb .nil pO (aQ (aP hN hv hd hcd) lN he) hdb he hpl) ⟨.ref a,at_of ea,ha σ H0 R0 H R E _ λus H1 R1 E1 s1 p1=>?_⟩
 obtain ⟨ea1,hB,hRa,hRb⟩:=cP (E1.ent i _ hΓ1)
 refine ⟨R1,a,b,s,us,ps,TM,by rw [List.append_nil],E1.sub,⟨hRa,hRb⟩,hB,p1,hS,λv H' R' s' xx hB' hR' t=>q H1 R1 v H' R' s' E1 s1 xx ?_ t⟩
 refine E1.uQ hΓ1 (by rw [B.fp];exact xx) (by rw [ea1];exact fJ hB' hR'.1 hR'.2) λc hc=>?_
 rw [B.fp] at hc ⊢;exact hc
theorem bJ (i:Nat){P:Type}{B:d5 P}{S:iC P}{x y:Str}{k:Nat}{es:List Expr}{p p1 pos:Pos}{ps:List Pk}{a b:Addr}{s0 s st:P}{rr:Rep β}{z:β}(C:aw X.prog X.w X.K X.mg X.base x k (dz B S X.K))(hr:bt k X.A)(ha:HA X es Γ ps Γ1)(hΓ:Γ[i]?=some (.ob (B.bx a b s0)))(hΓ1:Γ1[i]?=some (.ob (B.bx a b s)))(hS:S X.K s ps (λs'=>bG X.K rr λw=>s'=st/\w=z))
 (hg:Gl X x:=by rfl) (hdb:(x==("__debug__":Str))=false:=by decide) (he:starEach (.Name y p1::es) X.env=(false,eval (.Name y p1) X.env)::starEach es X.env:=by rfl) (hpl:(backTo pos (starEach es X.env)).any (·.1)=false:=by rfl)
 (hN:X.N[i]?=some y:=by rfl) (hv:bT X.env.scope y:=by first | exact Or.inl rfl | exact Or.inr (Or.inl rfl) | exact Or.inr (Or.inr rfl)) (hd:(y==("__debug__":Str))=false:=by decide) (hcd:(y==("__classdict__":Str))=false:=by decide):
 EV X (.Call (.Name x p) (.Name y p1::es) [] pos) Γ rr z (Γ1.set i (.ob (B.bx a b st))):=λσ H0 R0 H R E Q q=>
 ib i C hr ha hΓ hΓ1 hS E (λH1 R1 v H' R' s' _ s1 xx E' t=>by
  obtain ⟨w,e1,rfl,rfl⟩:=t
  exact q v H' R' E' (s1.trans xx.r) e1) hg hdb he hpl hN hv hd hcd
theorem mv {tg:Expr}(i:Nat){P:Type}{B:d5 P}{S:iC P}{x y:Str}{k:Nat}{es:List Expr}{p p1 p2 pos:Pos}{ps:List Pk}{a b:Addr}{s0 s:P}{rr:Rep β}{Pd:P->β->Prop}{bf:β->Ga->Ga}(C:aw X.prog X.w X.K X.mg X.base x k (dz B S X.K))(hr:bt k X.A)(ha:HA X es Γ ps Γ1)(hΓ:Γ[i]?=some (.ob (B.bx a b s0)))(hΓ1:Γ1[i]?=some (.ob (B.bx a b s)))(hS:S X.K s ps (λs'=>bG X.K rr (Pd s')))(hb:BG X tg rr bf)(h:∀s' z,Pd s' z->N (bf z (Γ1.set i (.ob (B.bx a b s')))))
 (hg:Gl X x:=by rfl) (hdb:(x==("__debug__":Str))=false:=by decide) (he:starEach (.Name y p1::es) X.env=(false,eval (.Name y p1) X.env)::starEach es X.env:=by rfl) (hpl:(backTo p2 (starEach es X.env)).any (·.1)=false:=by rfl)
 (hN:X.N[i]?=some y:=by rfl) (hv:bT X.env.scope y:=by first | exact Or.inl rfl | exact Or.inr (Or.inl rfl) | exact Or.inr (Or.inr rfl)) (hd:(y==("__debug__":Str))=false:=by decide) (hcd:(y==("__classdict__":Str))=false:=by decide)
 (hs:swapsWithSole [tg] (.Call (.Name x p) (.Name y p1::es) [] p2) pos.line X.env=pure false:=by rfl) (hw:swappedStores [tg] (.Call (.Name x p) (.Name y p1::es) [] p2) X.env=pure none:=by rfl) (h1:(assignEach [tg] X.env).map (·.2)=[assign tg X.env]:=by rfl):
 W1 X (.Assign [tg] (.Call (.Name x p) (.Name y p1::es) [] p2) pos) Γ N T:=λσ H0 R0 H R E D dn dr=>
 sS (fv aD vd hs hw h1) (ib i C hr ha hΓ hΓ1 hS E (λH1 R1 v H' R' s' _ s1 xx E' t=>by
  obtain ⟨w,e1,hz⟩:=t
  exact hb σ H0 R0 H' R' _ v w E' e1 _ λσ2 E2=>dn σ2 H' R' _ E2 (s1.trans xx.r) (h s' w hz)) hg hdb he hpl hN hv hd hcd)
def se (K:PySem.W.Frag){P:Type}(B:d5 P)(a b:Addr)(T:P->RT):RT:=λH0 v H' R'=>∃s',(B.bx a b s').R K H' R' (.ref a)/\(R' a=none/\R' b=none)/\T s' H0 v H' R'
theorem fX (i:Nat){P:Type}{B:d5 P}{e:Expr}{pos:Pos}{a b:Addr}{s:P}{rr:Rep β}{y:β}{Pd:P->β->Prop}(he:EV X e Γ rr y Γ1)(hΓ1:Γ1[i]?=some (.ob (B.bx a b s)))(h:Pd s y):W1 X (.Return (some e) pos) Γ N (se X.K B a b λs'=>bG X.K rr (Pd s')):=λσ H0 R0 H R E D dn dr=>
 sS (c7 aD) (he σ H0 R0 H R E _ λv H1 R1 E1 s1 e1=>by
  obtain ⟨ea,hB,hR⟩:=cP (E1.ent i _ hΓ1)
  exact dr v H1 R1 E1.ext ⟨s,hB,hR,y,e1,h⟩)
theorem pz {P:Type}{B:d5 P}{K:PySem.W.Frag}{R H:Hp}{a b:Addr}{st:P}{vs:List V}{ps:List Pk}{N:List Str}(s:aj R H)(hR:R a=none/\R b=none)(hB:(B.bx a b st).R K H R (.ref a))(p:fM K R vs ps)(hl:ps.length + 1<=N.length):
 ai K (L2.start N (.ref a::vs)) (de H [a,b]) R H R (.ob (B.bx a b st)::df ps (N.length - 1)):=by
 obtain ⟨n0,N',rfl⟩:∃n0 N',N=n0::N':=by cases N with
  | nil=>exact absurd hl (by simp)
  | cons n N'=>exact ⟨n,N',rfl⟩
 have hl':ps.length<=N'.length:=by simpa using hl
 have E0:=eQ (N:=N') s p hl'
 have es:L2.start (n0::N') (.ref a::vs)=some (.ref a)::L2.start N' vs:=by unfold L2.start;simp
 rw [es]
 have noown:∀(i:Nat) (e:Ent) (o:Option V),(df ps N'.length)[i]?=some e->e.fp o=[]:=λi e o q=>by
  unfold df at q
  rcases List.mem_append.mp (List.mem_of_getElem? q) with z | z
  ·obtain ⟨p,_,rfl⟩:=List.mem_map.mp z;rfl
  ·obtain ⟨_,rfl⟩:=List.mem_replicate.mp z;rfl
 refine ⟨⟨i3,aj.refl _,s,λ_ _=>rfl⟩,λi e q=>?_,λi e c q w=>?_,λi j e e' c q q' w w'=>?_,?_⟩
 ·cases i with
  | zero=>simp at q;subst q;exact fJ hB hR.1 hR.2
  | succ i=>simp at q;simpa using E0.ent i e q
 ·cases i with
  | zero=>
    simp at q;subst q
    have w:c∈(B.bx a b st).fp:=w
    rw [B.fp] at w
    exact f7 w
  | succ i=>simp at q;rw [noown i e _ q] at w;cases w
 ·cases i with
  | succ i=>simp at q;rw [noown i e _ q] at w;cases w
  | zero=>
    cases j with
    | zero=>rfl
    | succ j=>simp at q';rw [noown j e' _ q'] at w';cases w'
 ·have:=E0.len
  simp [this]
variable {P:Program}{w:World}{K:PySem.W.Frag}{mg:Str->Option Value}{base:Heap}
theorem iy {Q0:Type}{B:d5 Q0}{S:iC Q0}{x qual:Str}{st:Stmt}{f:Addr}{fd:FuncData}{N ps:List Str}{k:Nat}(F:bz K x qual st f fd)(Sc:ax N ps (ag st))(hm:mg x=some (.ref f))(hb:Binds K fd ps [])(len:∀s qs T,S K s qs T->qs.length + 1=ps.length)
 (hbody:∀(cdv:Value) (A:Around) (outer:List Env) (s:Shared) (H:Hp) (E:XK) (a b:Addr) (u:Q0) (qs:List Pk) (T:Q0->RT),bt k (A.deeper (envOfC qual (ag st) s.heap.objs.size f cdv))->S K u qs T->
  WS (d4 d6 P w K mg base N qual (ag st) f cdv A outer s H E).g8 (bY st) (.ob (B.bx a b u)::df qs (N.length - 1)) (λΓ=>∃u',Γ[0]?=some (.ob (B.bx a b u'))/\∀H0 H' R',T u' H0 .non H' R') (se K B a b T)):aw P w K mg base x (k + 1) (dz B S K):=by
 refine ⟨f,fd,ps,?_,hm,F.kp,hb⟩
 refine F.ok Sc (λvs H Q E h=>?_) (λcdv A outer s H vs Q E hr h=>?_)
 ·obtain ⟨R,a,b,u,vs',qs,T,rfl,_,_,_,p,hS,_⟩:=h
  rw [List.length_cons,p.length];exact len u qs T hS
 ·obtain ⟨R,a,b,u,vs',qs,T,rfl,sR,hR,hB,p,hS,q⟩:=h
  have hl:qs.length + 1<=N.length:=by
   rw [len u qs T hS]
   have:=congrArg List.length Sc.pre
   rw [List.length_take] at this
   omega
  refine ⟨_,fq,hbody cdv A outer s H E a b u qs T hr hS (L2.start N (.ref a::vs')) (de H [a,b]) R H R (pz sR hR hB p hl) {nx:=λ_ H'=>Q .non H',rt:=Q} (λσ' H' R' Γ' E' _ ⟨u',hΓ,t⟩=>?_) λv H' R' xx t=>?_⟩
  ·obtain ⟨ea,hB',hR'⟩:=cP (E'.ent 0 _ hΓ)
   exact q .non H' R' u' E'.ext hB' hR' (t _ _ _)
  ·obtain ⟨s',h1,h2,h3⟩:=t
   exact q v H' R' s' xx h1 h2 h3
end
section
variable {prog:Program}{w:World}{A:Around}{E:Value->Shared->Prop}{s:Shared}
theorem lM {it t:Addr}{items:Array Value}(hne:t≠it):∀(n i:Nat) (s:Shared) (Q:List Value->Shared->Prop),s.heap.IsListIter it t i->s.heap.IsList t items->i + n<=items.size->
 (∀h',h'.IsListIter it t (i + n)->Heap.SameBut it s.heap h'->Q ((items.toList.drop i).take n) {s with heap:=h'})->wpAny (model prog w) A (draw (.ref it) n) Q E s
 | 0,i,s,Q,hit,_,_,hQ=>by
   show wpAny _ _ (pure []) Q E s
   exact wpAny_pure (by simpa using hQ s.heap hit (Heap.SameBut.refl ..))
 | n + 1,i,s,Q,hit,ht,hle,hQ=>by
   have hlt:i < items.size:=by omega
   show wpAny _ _ (pyNext (.ref it) >>=_) Q E s
   refine wpAny_bind (wpAny_pyNext_list_item hit ht (x:=items[i]) (by simp [hlt]) λh₁ hit₁ hs₁=>?_)
   refine wpAny_bind (wpAny_holding (lM hne n (i + 1) _ _ hit₁ (ht.extBut hs₁.extBut hne) (by omega) λh₂ hit₂ hs₂=>wpAny_pure ?_))
   have hd:items.toList.drop i=items[i]::items.toList.drop (i + 1):=by simp [List.drop_eq_getElem_cons,hlt]
   have:=hQ h₂ (by rw [show i + (n + 1)=i + 1 + n by omega];exact hit₂) (hs₁.trans hs₂)
   rw [hd,List.take_succ_cons] at this
   exact this
theorem i5 {t:Addr}{items:Array Value}{Q:List Value->Shared->Prop}(hh:A.handled=none)(ht:s.heap.IsList t items)
 (hQ:∀h',Heap.ExtBut s.heap.objs.size s.heap h'->Q items.toList {s with heap:=h'}):wpAny (model prog w) A (unpackItems (.ref t) items.size none) Q E s:=by
 have hlt:t≠s.heap.objs.size:=by obtain ⟨o,ho,_⟩:=ht;exact Nat.ne_of_lt (Heap.lt_size ho)
 unfold unpackItems
 refine wpAny_bind ?_
 ·unfold notIterableAtAll
  refine wpAny_bind (wpAny_specialOf ht.typeIs slot_list_iter.lookup ?_)
  refine wpAny_pure ?_
  simp only [Bool.false_eq_true,if_false]
  refine wpAny_bind (wpAny_holding (wpAny_pyIter_list ht ?_))
  refine wpAny_bind (wpAny_holding (lM hlt items.size 0 _ _ ⟨_,Heap.get?_push_size _ rfl,rfl,rfl⟩ (ht.push _) (by omega) λh₁ hit₁ hs₁=>?_))
  have hall:List.take items.size (List.drop 0 items.toList)=items.toList:=by
   rw [List.drop_zero];exact List.take_of_length_le (by simp)
  rw [hall]
  rw [if_neg (by simp)]
  have ht₁:h₁.IsList t items:=(ht.push _).extBut hs₁.extBut hlt
  refine wpAny_bind (wpAny_holding (wpAny_pyNext_list_end hh hit₁ ht₁ (by simp) λh₂ he₂=>?_))
  simp only [Option.isSome_none,Bool.false_eq_true,if_false]
  refine wpAny_pure (hQ h₂ λb o hb e=>he₂ b o hb (hs₁.extBut b o hb (Heap.get?_push_of_some _ e)))
theorem iQ {env:Env}{elts:List Expr}{x1}{pos:Pos}{t:Addr}{items:Array Value}{Q:Unit->Shared->Prop}(hh:A.handled=none)(ht:s.heap.IsList t items)
 (hn:(assignEach elts env).length=items.size) (hstar:(assignEach elts env).findIdx? (·.1)=none)
 (h:∀h',Heap.ExtBut s.heap.objs.size s.heap h'->wpAny (model prog w) A (assignInOrder ((assignEach elts env).map (·.2)) items.toList) Q E {s with heap:=h'}):
 wpAny (model prog w) A (assign (.Tuple elts x1 pos) env (.ref t)) Q E s:=by
 rw [assign_Tuple]
 refine wpAny_bind (wpAny_standAt ?_)
 unfold unpack
 rw [hn,hstar]
 exact wpAny_bind (wpAny_holding (i5 hh ht h))
end
section
variable {X:Cx}{Γ Γ1 Γ2 Γ3:Ga}{α β γ δ:Type}{N:Ga->Prop}{T:RT}
def Ck (K:PySem.W.Frag)(n:Nat)(t:jy):TG:=λv σ H Q=>∃a xs,v= .ref a/\aH K H a xs/\xs.length=n/\t xs σ H Q
theorem rS {es:List Expr}{k:Nat}{pos:Pos}{t:jy}{n:Nat}(hc:X.calm=true)(h:qc X es t)
 (hn:(assignEach es X.env).length=n:=by rfl) (hst:(assignEach es X.env).findIdx? (·.1)=none:=by rfl):PG X (.Tuple es k pos) (Ck X.K n t):=by
 intro pins s σ H v u Q I r hw
 obtain ⟨a,xs,e1,hq,hl,hw⟩:=hw
 subst e1
 cases r
 obtain ⟨its,rv,pl,hz⟩:=I.list hq
 refine iQ (I.ok.hd hc) pl.isList (by simp [hn,← hl,rv.length]) hst λh' hx=>?_
 have I1:Inv X pins σ H {s with heap:=h'}:=I.kept (t':=s.toks) λb o e=>hx b o (Nat.ne_of_lt (Heap.lt_size e)) e
 exact h pins _ σ H xs _ Q I1 (by simpa using rv) hw
def dW (r:Rep α):Rep (α×α):=⟨λK H v x=>(ae r).R K H v [x.1,x.2],λs h=>(ae r).mono s h⟩
theorem kB (i j:Nat){x y:Str}{k:Nat}{p1 p2 pos:Pos}{r:Rep α}(hc:X.calm=true:=by rfl)(hN:X.N.Nodup:=by first | assumption | decide)(hi:X.N[i]?=some x:=by rfl)(hx:Loc X.env.scope x:=by first | exact Or.inl rfl | exact Or.inr rfl)(hf:X.fn x=true∨X.env.scope.names.lookup x=some .local:=by first | exact .inl rfl | exact .inr rfl)
 (hj:X.N[j]?=some y:=by rfl) (hy:Loc X.env.scope y:=by first | exact Or.inl rfl | exact Or.inr rfl) (hf':X.fn y=true∨X.env.scope.names.lookup y=some .local:=by first | exact .inl rfl | exact .inr rfl):
 BG X (.Tuple [.Name x p1,.Name y p2] k pos) (dW r) (λw Γ=>(Γ.set i (.im r w.1)).set j (.im r w.2)):=λσ H0 R0 H R Γ v w E h Q q=>by
 obtain ⟨a,vs,rfl,ha,pp,_⟩:=h
 obtain ⟨v1,v2,rfl,e1,e2⟩:∃v1 v2,vs=[v1,v2]/\r.R X.K R v1 w.1/\r.R X.K R v2 w.2:=by
  cases pp with
  | cons h1 t=>cases t with
    | cons h2 t=>cases t;exact ⟨_,_,rfl,h1,h2⟩
 exact gS (rS hc (eA (eh hN hi hx hf) (eA (eh hN hj hy hf') ky))) ⟨a,_,rfl,aH.of (E.sub _ _ ha),rfl,v1,[v2],rfl,v2,[],rfl,rfl,q _ ((E.set i e1).set j e2)⟩
end
abbrev Pu:=List Int×Int
def u4 (a b:Addr)(s:Pu):g9 where
 fp:=[a,b]
 R:=λK H R v=>v= .ref a/\H a=some (.lst [.ref b,.int s.2])/\H b=some (.lst (s.1.map V.int))/\a≠b
 loc:=λhH hR ⟨e,h1,h2,h3⟩=>⟨e,(hH a List.mem_cons_self).trans h1,(hH b (by simp)).trans h2,h3⟩
 has:=λ⟨e,h1,h2,h3⟩ c hc=>by
  rcases List.mem_cons.mp hc with rfl | hc
  ·rw [h1];exact Option.some_ne_none _
  ·rw [List.mem_singleton.mp hc,h2];exact Option.some_ne_none _
def aR:d5 Pu:=⟨u4,λ_ _ _=>rfl,λh=>h.1⟩
def rV:Rep V:=⟨λ_ _ v x=>v=x,λ_ h=>h⟩
theorem lQ {K:PySem.W.Frag}{R:Hp}:∀{vs ys:List V},PySem.Paired (rV.R K R) vs ys->vs=ys
 | _,_,.nil=>rfl
 | _,_,.cons h t=>by rw [show _=_ from h,lQ t]
section
variable {X:Cx}{Γ Γ1 Γ2 Γ3:Ga}{α β γ δ:Type}{N:Ga->Prop}{T:RT}
variable {b:Addr}{pos:Pos}{e:Expr}{y:Str}{p1:Pos}{a:Addr}{s:Pu}{p p2:Pos}{x:Str}{c:Int}
theorem EV.AM {n:Int}(h:EV X e Γ ab n Γ1):EV X e Γ rV (.int n) Γ1:=EV.rep h λ_ _ q=>q
theorem tZ (i:Nat){r:Rep α}{xs:List α}(hΓ:Γ[i]?=some (.ob (m8 b r xs)))(hN:X.N[i]?=some x:=by rfl)(hv:bT X.env.scope x:=by first | exact Or.inl rfl | exact Or.inr (Or.inl rfl) | exact Or.inr (Or.inr rfl))
 (hd:(x==("__debug__":Str))=false:=by decide) (hcd:(x==("__classdict__":Str))=false:=by decide):EV X (.Name x p) Γ rV (.ref b) Γ:=λσ H0 R0 H R E Q q=>by
 obtain ⟨ea,_⟩:=om (E.ent i _ hΓ)
 exact eS (aP hN hv hd hcd) ⟨.ref b,at_of ea,q _ H R E (aj.refl _) rfl⟩
def pj (P:Pu->Prop):RT:=λH0 v H' R'=>∃a b s,v= .ref a/\(H0 a=none/\H0 b=none)/\(R' a=none/\R' b=none)/\H' a=some (.lst [.ref b,.int s.2])/\H' b=some (.lst (s.1.map V.int))/\a≠b/\P s
theorem vW (i:Nat){xs:List Int}{t:Int}{P:Pu->Prop}(he:aU X e Γ rV [.ref b,.int t] Γ1)(hΓ1:Γ1[i]?=some (.ob (m8 b ab xs)))(h:P (xs,t)):W1 X (.Return (some e) pos) Γ N (pj P):=λσ H0 R0 H R E D dn dr=>
 sS (c7 aD) (he σ H0 R0 H R E _ λa vs H1 R1 E1 s1 ha hR h0 off pp _=>by
  obtain ⟨ea,⟨ws,hb,pb⟩,hRb⟩:=om (E1.ent i _ hΓ1)
  have:=lQ pp
  subst this
  have hne:a≠b:=λz=>off i _ hΓ1 (by rw [z];exact List.mem_singleton.mpr rfl)
  exact dr _ H1 R1 E1.ext ⟨a,b,(xs,t),rfl,⟨h0,E1.nw i _ b hΓ1 (List.mem_singleton.mpr rfl)⟩,⟨hR,hRb⟩,ha,by rw [← c9 pb];exact hb,hne,h⟩)
theorem sW (i:Nat){S:bN}{k:Nat}{es:List Expr}{ps:List Pk}{Pd:Pu->Prop}(C:aw X.prog X.w X.K X.mg X.base x k (aC S X.K))(hr:bt k X.A)(ha:HA X (e::es) Γ ps Γ1)(hS:S X.K ps (pj Pd))(h:∀a b s,Pd s->N (Γ1.set i (.ob (aR.bx a b s))))
 (hg:Gl X x:=by rfl) (hdb:(x==("__debug__":Str))=false:=by decide) (he:starEach (e::es) X.env=(false,eval e X.env)::starEach es X.env:=by rfl) (hpl:(backTo p2 (starEach es X.env)).any (·.1)=false:=by rfl)
 (hN:X.N.Nodup:=by first | assumption | decide) (hi:X.N[i]?=some y:=by rfl) (hx:Loc X.env.scope y:=by first | exact Or.inl rfl | exact Or.inr rfl)
 (hs:swapsWith (.Call (.Name x p) (e::es) [] p2) (some (.Name y p1)) pos.line X.env=pure false:=by rfl) (hf:X.fn y=true∨X.env.scope.names.lookup y=some .local:=by first | exact .inl rfl | exact .inr rfl):
 W1 X (.Assign [.Name y p1] (.Call (.Name x p) (e::es) [] p2) pos) Γ N T:=λσ H0 R0 H R E D dn dr=>
 sS (fA hN hi hx aD hs hf) (cH C hr ha hS E (λH1 R1 v H' R' E1 s1 xx t=>by
  obtain ⟨a,b,s,rfl,hn,hR,h1,h2,h3,h4⟩:=t
  have hm:∀c∈(aR.bx a b s).fp,c=a∨c=b:=λc hc=>by
   rcases List.mem_cons.mp hc with rfl | hc
   ·exact .inl rfl
   ·exact .inr (List.mem_singleton.mp hc)
  refine dn _ H' R' _ ((E1.grow xx).setG (en:=.ob (aR.bx a b s)) i (fJ (B:=aR) ⟨rfl,h1,h2,h3⟩ hR.1 hR.2) (λc hc=>?_) λc hc j e _ qj w=>?_) (s1.trans xx.r) (h a b s h4)
  ·rcases hm c hc with rfl | rfl
   ·exact E1.ext.h.free hn.1
   ·exact E1.ext.h.free hn.2
  ·rcases hm c hc with rfl | rfl
   ·exact (Ent.cw (E1.ent j e qj) w).1 hn.1
   ·exact (Ent.cw (E1.ent j e qj) w).1 hn.2) hg hdb he hpl)
theorem wV (i j m:Nat){z:Str}{k:Nat}{p3:Pos}(hΓ:Γ[i]?=some (.ob (aR.bx a b s)))(h:N ((Γ.set j (.im rV (.ref b))).set m (.im ab s.2)))
 (hNi:X.N[i]?=some x:=by rfl) (hv:bT X.env.scope x:=by first | exact Or.inl rfl | exact Or.inr (Or.inl rfl) | exact Or.inr (Or.inr rfl)) (hd:(x==("__debug__":Str))=false:=by decide) (hcd:(x==("__classdict__":Str))=false:=by decide)
 (hc:X.calm=true:=by rfl) (hN:X.N.Nodup:=by first | assumption | decide) (hj:X.N[j]?=some y:=by rfl) (hy:Loc X.env.scope y:=by first | exact Or.inl rfl | exact Or.inr rfl) (hf:X.fn y=true∨X.env.scope.names.lookup y=some .local:=by first | exact .inl rfl | exact .inr rfl)
 (hm:X.N[m]?=some z:=by rfl) (hz:Loc X.env.scope z:=by first | exact Or.inl rfl | exact Or.inr rfl) (hf':X.fn z=true∨X.env.scope.names.lookup z=some .local:=by first | exact .inl rfl | exact .inr rfl)
 (hs:swapsWithSole [.Tuple [.Name y p1,.Name z p2] k p3] (.Name x p) pos.line X.env=pure false:=by rfl) (hw:swappedStores [.Tuple [.Name y p1,.Name z p2] k p3] (.Name x p) X.env=pure none:=by rfl) (h1:(assignEach [.Tuple [.Name y p1,.Name z p2] k p3] X.env).map (·.2)=[assign (.Tuple [.Name y p1,.Name z p2] k p3) X.env]:=by rfl):
 W1 X (.Assign [.Tuple [.Name y p1,.Name z p2] k p3] (.Name x p) pos) Γ N T:=λσ H0 R0 H R E D dn dr=>by
 obtain ⟨ea,⟨_,ha,hb,_⟩,_⟩:=cP (E.ent i _ hΓ)
 refine sS (fv (aP hNi hv hd hcd) (rS hc (eA (eh hN hj hy hf) (eA (eh hN hm hz hf') ky))) hs hw h1) ⟨.ref a,at_of ea,a,_,rfl,aH.of ha,rfl,.ref b,[.int s.2],rfl,.int s.2,[],rfl,rfl,?_⟩
 exact dn _ H R _ ((E.set j (r:=rV) (x:=.ref b) rfl).set m (r:=ab) (x:=s.2) rfl) (aj.refl _) h
theorem uF (i j:Nat)(hm:X.mg "len"=none)(hΓ:Γ[i]?=some (.ob (aR.bx a b s)))(hj:Γ[j]?=some (.im rV (.ref b)))
 (hN:X.N[j]?=some y:=by rfl) (hv:bT X.env.scope y:=by first | exact Or.inl rfl | exact Or.inr (Or.inl rfl) | exact Or.inr (Or.inr rfl)) (hd:(y==("__debug__":Str))=false:=by decide) (hcd:(y==("__classdict__":Str))=false:=by decide)
 (hs:starEach [.Name y p1] X.env=[(false,eval (.Name y p1) X.env)]:=by rfl) (hg:Gl X "len":=by rfl):EV X (.Call (.Name "len" p) [.Name y p1] [] pos) Γ ab (s.1.length:Int) Γ:=λσ H0 R0 H R E Q q=>by
 obtain ⟨ea,⟨_,ha,hb,_⟩,_⟩:=cP (E.ent i _ hΓ)
 obtain ⟨v0,e0,hv0⟩:=E.ent j _ hj
 cases hv0
 refine eS (cZ dm hg hm PySem.boot_len (aQ (aP hN hv hd hcd) bF hs) (by decide) (by decide) hs) ⟨.ref b,at_of e0,b,_,rfl,.inl (aH.of hb),?_⟩
 rw [List.length_map]
 exact q _ H R E (aj.refl _) rfl
theorem vN (i j:Nat){k:Int}(he:EV X e Γ ab k Γ)(hΓ:Γ[i]?=some (.ob (aR.bx a b s)))(hj:Γ[j]?=some (.im rV (.ref b)))(hk:cO s.1 k=some c)
 (hN:X.N[j]?=some y:=by rfl) (hv:bT X.env.scope y:=by first | exact Or.inl rfl | exact Or.inr (Or.inl rfl) | exact Or.inr (Or.inr rfl)) (hd:(y==("__debug__":Str))=false:=by decide) (hcd:(y==("__classdict__":Str))=false:=by decide) (hsx:ef e:=by exact λ_ _=>rfl):EV X (.Subscript (.Name y p1) e pos) Γ ab c Γ:=λσ H0 R0 H R E Q q=>by
 obtain ⟨v0,e0,hv0⟩:=E.ent j _ hj
 cases hv0
 refine eS (eZ dM (aP hN hv hd hcd) aD hsx) ⟨.ref b,at_of e0,he σ H0 R0 H R E _ λu H2 R2 E2 s2 e2=>?_⟩
 obtain ⟨ea,⟨_,ha,hb,_⟩,_⟩:=cP (E2.ent i _ hΓ)
 obtain ⟨w,e3,e4⟩:=gM (paired_ints (K:=X.K) (R:=R2) s.1) hk
 exact ⟨b,_,k,w,rfl,e2,aH.of hb,e3,q w H2 R2 E2 s2 e4⟩
theorem nN (xs:List Int)(j:Nat)(y:Int):(xs.map V.int).set j (.int y)=(xs.set j y).map V.int:=by rw [List.map_set]
theorem qw (i j:Nat){b0:Expr}{k:Int}{n:Nat}(he:EV X e Γ ab c Γ)(hb0:EV X b0 Γ ab k Γ)(hΓ:Γ[i]?=some (.ob (aR.bx a b s)))(hj:Γ[j]?=some (.im rV (.ref b)))(hk:eW s.1.length k=some n)(h:N (Γ.set i (.ob (aR.bx a b (s.1.set n c,s.2)))))
 (hN:X.N[j]?=some y:=by rfl) (hv:bT X.env.scope y:=by first | exact Or.inl rfl | exact Or.inr (Or.inl rfl) | exact Or.inr (Or.inr rfl)) (hd:(y==("__debug__":Str))=false:=by decide) (hcd:(y==("__classdict__":Str))=false:=by decide)
 (ha:∀v,assign (.Subscript (.Name y p1) b0 p2) X.env v=(do
  let ov ← holding [v] (eval (.Name y p1) X.env)
  let iv ← holding [v,ov] (eval b0 X.env)
  standAt p2
  holding [v,ov,iv] (setItem ov iv v)
  release [v,ov,iv] []):=by intro _;rfl)
 (hs:swapsWithSole [.Subscript (.Name y p1) b0 p2] e pos.line X.env=pure false:=by rfl) (hw:swappedStores [.Subscript (.Name y p1) b0 p2] e X.env=pure none:=by rfl) (h1:(assignEach [.Subscript (.Name y p1) b0 p2] X.env).map (·.2)=[assign (.Subscript (.Name y p1) b0 p2) X.env]:=by rfl):
 W1 X (.Assign [.Subscript (.Name y p1) b0 p2] e pos) Γ N T:=λσ H0 R0 H R E D dn dr=>by
 refine sS (fv aD (jR (aP hN hv hd hcd) aD set_list ha) hs hw h1) (he σ H0 R0 H R E _ λv H1 R1 E1 s1 e1=>?_)
 obtain ⟨v0,e0,hv0⟩:=E1.ent j _ hj
 cases hv0
 refine ⟨.ref b,at_of e0,hb0 σ H0 R0 H1 R1 E1 _ λu H2 R2 E2 s2 e2=>?_⟩
 obtain ⟨ea,⟨_,h2,h3,hne⟩,hRa,hRb⟩:=cP (E2.ent i _ hΓ)
 cases e1
 refine ⟨b,_,k,n,rfl,e2,h3,by rw [List.length_map];exact hk,?_⟩
 rw [nN]
 exact dn σ _ R2 _ (E2.l9 (en:=.ob (aR.bx a b (s.1.set n c,s.2))) hΓ (show b∈[a,b] by simp) (by rw [ea];exact fJ (B:=aR) ⟨rfl,by rw [ay hne];exact h2,ar,hne⟩ hRa hRb) λc w=>.inl w) (s1.trans s2) h
theorem tO (i:Nat){p3:Pos}{kk:Nat}(he:EV X e Γ ab c Γ)(hΓ:Γ[i]?=some (.ob (aR.bx a b s)))(h:N (Γ.set i (.ob (aR.bx a b (s.1,c)))))
 (hN:X.N[i]?=some y:=by rfl) (hv:bT X.env.scope y:=by first | exact Or.inl rfl | exact Or.inr (Or.inl rfl) | exact Or.inr (Or.inr rfl)) (hd:(y==("__debug__":Str))=false:=by decide) (hcd:(y==("__classdict__":Str))=false:=by decide)
 (ha:∀v,assign (.Subscript (.Name y p1) (.Constant (.int 1) kk p3) p2) X.env v=(do
  let ov ← holding [v] (eval (.Name y p1) X.env)
  let iv ← holding [v,ov] (eval (.Constant (.int 1) kk p3) X.env)
  standAt p2
  holding [v,ov,iv] (setItem ov iv v)
  release [v,ov,iv] []):=by intro _;rfl)
 (hs:swapsWithSole [.Subscript (.Name y p1) (.Constant (.int 1) kk p3) p2] e pos.line X.env=pure false:=by rfl) (hw:swappedStores [.Subscript (.Name y p1) (.Constant (.int 1) kk p3) p2] e X.env=pure none:=by rfl) (h1:(assignEach [.Subscript (.Name y p1) (.Constant (.int 1) kk p3) p2] X.env).map (·.2)=[assign (.Subscript (.Name y p1) (.Constant (.int 1) kk p3) p2) X.env]:=by rfl):
 W1 X (.Assign [.Subscript (.Name y p1) (.Constant (.int 1) kk p3) p2] e pos) Γ N T:=λσ H0 R0 H R E D dn dr=>by
 refine sS (fv aD (jR (aP hN hv hd hcd) dq set_list ha) hs hw h1) (he σ H0 R0 H R E _ λv H1 R1 E1 s1 e1=>?_)
 obtain ⟨ea,⟨_,h2,h3,hne⟩,hRa,hRb⟩:=cP (E1.ent i _ hΓ)
 cases e1
 refine ⟨.ref a,at_of ea,a,_,1,1,rfl,rfl,h2,rfl,?_⟩
 exact dn σ _ R1 _ (E1.l9 (en:=.ob (aR.bx a b (s.1,c))) hΓ (show a∈[a,b] by simp) (by rw [ea];exact fJ (B:=aR) ⟨rfl,ar,by rw [ay (Ne.symm hne)];exact h3,hne⟩ hRa hRb) λc w=>.inl w) s1 h
end
end Fc
namespace K1
open PySem L2 Fc
open PySem.Spec hiding Row
open PyProof.Rows hiding St
open PySem.Builtin.Int (intBits)
theorem fC {α:Type} [DecidableEq α]:∀{xs ys:List α},xs.Nodup->(∀x∈xs,x∈ys)->xs.length<=ys.length
 | [],_,_,_=>Nat.zero_le _
 | x::xs,ys,h,hs=>by
   obtain ⟨h1,h2⟩:=List.nodup_cons.mp h
   have hx:x∈ys:=hs x List.mem_cons_self
   have:=fC (xs:=xs) (ys:=ys.erase x) h2 λy hy=>(List.mem_erase_of_ne (show y≠x from λe=>h1 (e▸hy))).mpr (hs y (List.mem_cons_of_mem _ hy))
   rw [List.length_erase_of_mem hx] at this
   have:=List.length_pos_of_mem hx
   rw [List.length_cons]
   omega
theorem fG {α:Type} [DecidableEq α]{xs ys:List α}(h:xs.Nodup)(h':ys.Nodup)(e:∀x,x∈xs↔x∈ys):xs.length=ys.length:=
 Nat.le_antisymm (fC h λx hx=>(e x).mp hx) (fC h' λx hx=>(e x).mpr hx)
def iT (ks:List Int):List (Int×V):=ks.map λk=>(k,.bl true)
theorem kA (ks:List Int)(k:Int):dR (iT ks) k=decide (k∈ks):=by
 unfold dR iT
 rw [List.any_map,Bool.eq_iff_iff,List.any_eq_true]
 simp
structure mq (es:List (Int×Int)) (s:Int) (ks ws:List Int):Prop where
 nd:ks.Nodup
 re:∀k∈ks,Reach es s k
 st:s∈ks
 wt:∀k∈ws,k∈ks
 bd:∀k∈ks,k∈s::es.map (·.2)
theorem mq.le {es:List (Int×Int)}{s:Int}{ks ws:List Int}(h:mq es s ks ws):ks.length<=es.length + 1:=by
 have:=fC h.nd h.bd
 simpa using this
section
variable {P:Program}{w:World}{K:PySem.W.Frag}{mg:Str->Option Value}{base:Heap}{f:Addr}{fd:FuncData}
abbrev uU:Stmt:=top o9
abbrev nRE:List Str:=["leads","start","found","waiting","place","lead"]
theorem yM:ax nRE ["leads","start"] (ag uU):=⟨rfl,rfl,rfl,by decide +kernel,rfl,by decide +kernel,by decide +kernel⟩
def y8:bN:=λK ps T=>∃(es:List (Int×Int)) (s:Int),ps=[⟨ae jo,es⟩,⟨ab,s⟩]/\es.length<=100000/\T=bG K js λkvs=>(kvs.map (·.1)).Nodup/\∀k,k∈kvs.map (·.1)↔Reach es s k
theorem zF (F:bz K "reached" "reached" uU f fd)(hm:mg "reached"=some (.ref f))(hb:Binds K fd ["leads","start"] []):aw P w K mg base "reached" 1 (aC y8 K):=by
 have nd:=yM.nd
 refine bD F yM hm hb (λqs T ⟨_,_,e,_⟩=>by rw [e];rfl) (λcdv A outer s H E qs T hr hS=>?_)
 obtain ⟨es,s0,rfl,hlen,rfl⟩:=hS
 have hu:=Aw hr
 change WS _ _ [.im (ae jo) es,.im ab s0,.no,.no,.no,.no] _ _
 refine ah (kY 2 (pS 1 rfl) pf (ah (cS 3 (aY (aJ (aa 1 rfl) bu) (by show 1<=sizeLine;decide)) ?_)))
 refine ah (iO (λm Γ=>∃ks ws v4 v5,Γ=[.im (ae jo) es,.im ab s0,.di (iT ks),.mu ab ws,v4,v5]/\mq es s0 ks ws/\m=2 * (es.length + 1 - ks.length) + ws.length/\m<=2 * es.length + 1/\∀k∈ks,k∉ws->∀b,(k,b)∈es->b∈ks) (m0:=2 * (es.length + 1 - 1) + 1)
  ⟨[s0],[s0],.no,.no,rfl,⟨by simp,λk hk=>by rw [List.mem_singleton.mp hk];exact .base,List.mem_singleton.mpr rfl,λk hk=>hk,λk hk=>by rw [List.mem_singleton.mp hk];exact List.mem_cons_self⟩,rfl,Nat.le_refl _,λk hk hn=>absurd hk hn⟩ ?_)
 rintro m Γ ⟨ks,ws,v4,v5,rfl,hI,rfl,hmb,hcl⟩
 refine ⟨!ws.isEmpty,_,xQ 3 rfl,λhne=>?_,λhe=>?_⟩
 ·have hws:ws≠[]:=by intro e;rw [e] at hne;exact absurd hne (by decide)
  have hpos:0 < ws.length:=List.length_pos_iff.mpr hws
  obtain ⟨p,hp⟩:∃p,ws[ws.length - 1]?=some p:=⟨_,List.getElem?_eq_getElem (by omega)⟩
  have hpm:p∈ws:=List.mem_of_getElem? hp
  have hsplit:ws=ws.dropLast++[p]:=by
   have e:=List.dropLast_concat_getLast hws
   rw [List.getLast_eq_getElem,] at e
   rw [List.getElem?_eq_getElem (by omega)] at hp
   rw [Option.some.inj hp] at e
   exact e.symm
  have hdl:ws.dropLast.length=ws.length - 1:=List.length_dropLast
  refine ah (aO 4 (zr 3 rfl hp) ?_)
  refine ak (cK (r:=jo) (λi Γ=>∃ks1 ws1 v5,Γ=[.im (ae jo) es,.im ab s0,.di (iT ks1),.mu ab ws1,.im ab p,v5]/\mq es s0 ks1 ws1/\p∈ks1/\2 * (es.length + 1 - ks1.length) + ws1.length < 2 * (es.length + 1 - ks.length) + ws.length/\(∀k∈ks1,k∉ws1->k≠p->∀b,(k,b)∈es->b∈ks1)/\∀(j:Nat) b,j < i->es[j]?=some (p,b)->b∈ks1)
   (aK (aa 0 rfl)) (aA 5) ⟨ks,ws.dropLast,v5,rfl,⟨hI.nd,hI.re,hI.st,λk hk=>hI.wt k (List.dropLast_subset _ hk),hI.bd⟩,hI.wt p hpm,by omega,λk hk hn hkp=>hcl k hk λhw=>?_,λj b hj=>absurd hj (Nat.not_lt_zero _)⟩ ?_ ?_)
  ·rw [hsplit] at hw
   rcases List.mem_append.mp hw with q | q
   ·exact hn q
   ·exact hkp (List.mem_singleton.mp q)
  ·rintro i t Γ ht ⟨ks1,ws1,u5,rfl,hJ,hp1,hme,hc1,hc2⟩
   have htm:t∈es:=List.mem_of_getElem? ht
   refine ak (bQ (TW.tv (ku (bj eG (c5 (aa 5 rfl)) (aa 4 rfl)) (λ_=>kK (kM 2 true hu (bO (aa 5 rfl)) rfl)))) (λh=>?_) (λh=>a9 ?_))
   ·rw [Bool.and_eq_true] at h
    have h1:t.1=p:=of_decide_eq_true h.1
    have h2:t.2∉ks1:=by
     have:=h.2
     rw [if_pos rfl,kA] at this
     simpa using this
    have hJ':mq es s0 (ks1++[t.2]) (ws1++[t.2]):=by
     refine ⟨gd hJ.nd h2,λk hk=>?_,List.mem_append_left _ hJ.st,λk hk=>?_,λk hk=>?_⟩
     ·rcases List.mem_append.mp hk with q | q
      ·exact hJ.re k q
      ·rw [List.mem_singleton.mp q]
       exact .step (hJ.re p hp1) (by rw [← h1];exact htm)
     ·rcases List.mem_append.mp hk with q | q
      ·exact List.mem_append_left _ (hJ.wt k q)
      ·exact List.mem_append_right _ q
     ·rcases List.mem_append.mp hk with q | q
      ·exact hJ.bd k q
      ·rw [List.mem_singleton.mp q]
       exact List.mem_cons_of_mem _ (List.mem_map.mpr ⟨t,htm,rfl⟩)
    have hle:=hJ'.le
    have hle1:=hJ.le
    rw [List.length_append,List.length_singleton] at hle
    refine ah (ql 2 hu (bO (aa 5 rfl)) pf rfl (by rw [kA];exact decide_eq_false h2) (by unfold iT;rw [List.length_map];exact Nat.lt_of_le_of_lt (show ks1.length<=100001 by omega) (by decide)) ?_)
    have ed:iT ks1++[(t.2,V.bl true)]=iT (ks1++[t.2]):=by unfold iT;rw [List.map_append];rfl
    rw [ed]
    have hwl:ws1.length<=400000:=by
     omega
    refine ak (ei 3 (bO (aa 5 rfl)) rfl rfl (Nat.lt_of_le_of_lt hwl (by decide)) ?_)
    refine ⟨ks1++[t.2],ws1++[t.2],_,rfl,hJ',List.mem_append_left _ hp1,?_,λk hk hn hkp b hb=>?_,λj b hj hjb=>?_⟩
    ·rw [List.length_append,List.length_append,List.length_singleton];omega
    ·rcases List.mem_append.mp hk with q | q
     ·exact List.mem_append_left _ (hc1 k q (λz=>hn (List.mem_append_left _ z)) hkp b hb)
     ·exact absurd (List.mem_append_right _ q) hn
    ·rcases Nat.lt_or_ge j i with q | q
     ·exact List.mem_append_left _ (hc2 j b q hjb)
     ·have:j=i:=by omega
      subst this
      rw [ht] at hjb
      cases hjb
      exact List.mem_append_right _ (List.mem_singleton.mpr rfl)
   ·refine ⟨ks1,ws1,_,rfl,hJ,hp1,hme,hc1,λj b hj hjb=>?_⟩
    rcases Nat.lt_or_ge j i with q | q
    ·exact hc2 j b q hjb
    ·have:j=i:=by omega
     subst this
     rw [ht] at hjb
     cases hjb
     have h':=h
     rw [Bool.and_eq_false_iff] at h'
     rcases h' with z | z
     ·exact absurd rfl (of_decide_eq_false z)
     ·rw [if_pos rfl,kA] at z
      simpa using z
  ·rintro Γ ⟨ks1,ws1,u5,rfl,hJ,hp1,hme,hc1,hc2⟩
   refine ⟨_,hme,ks1,ws1,_,_,rfl,hJ,rfl,by omega,λk hk hn b hb=>?_⟩
   by_cases hkp:k=p
   ·subst hkp
    obtain ⟨j,hj⟩:=List.mem_iff_getElem?.mp hb
    exact hc2 j b (List.getElem?_eq_some_iff.mp hj).1 hj
   ·exact hc1 k hk hn hkp b hb
 ·have hws:ws=[]:=by
   cases ws with
   | nil=>rfl
   | cons _ _=>simp at he
  subst hws
  refine ak (xJ 2 rfl ?_)
  have em:(iT ks).map (·.1)=ks:=by unfold iT;rw [List.map_map];exact List.map_id ks
  rw [em]
  exact ⟨hI.nd,λk=>⟨hI.re k,λhk=>Reach.sub (P:=λk=>k∈ks) hI.st (λa b ha hab=>hcl a ha (by simp) b hab) hk⟩⟩
open Classical in
noncomputable def fW (es:List (Int×Int))(s n:Int):Bool:=decide (∃ks:List Int,ks.Nodup/\(∀k,k∈ks↔Reach es s k)/\(ks.length:Int)=n)
open Classical in
theorem lJ {es:List (Int×Int)}{s n:Int}{ks:List Int}(h:ks.Nodup)(e:∀k,k∈ks↔Reach es s k):decide ((ks.length:Int)=n)=fW es s n:=by
 unfold fW
 by_cases hn:(ks.length:Int)=n
 ·rw [decide_eq_true hn,decide_eq_true];exact ⟨ks,h,e,hn⟩
 ·rw [decide_eq_false hn,decide_eq_false]
  rintro ⟨ks',h',e',hn'⟩
  exact hn (by rw [← hn',fG h h' λk=>(e k).trans (e' k).symm])
def fwd (rs:List Row)(p:Int):List (Int×Int):=(rs.filter λr=>decide (r.1=p)).map λr=>(r.2.1,r.2.2.1)
def bwd (rs:List Row)(p:Int):List (Int×Int):=(rs.filter λr=>decide (r.1=p)).map λr=>(r.2.2.1,r.2.1)
noncomputable def mZ (rs:List Row)(p n:Int):Bool:=fW (fwd rs p) 0 n&&fW (bwd rs p) 1 n
abbrev n6:Stmt:=top jU
abbrev xY:List Str:=["rows","part","size","ahead","behind"]
theorem xX:ax xY ["rows","part","size"] (ag n6):=⟨rfl,rfl,rfl,by decide +kernel,rfl,by decide +kernel,by decide +kernel⟩
def Bu:bN:=λK ps T=>∃(rs:List Row) (p n:Int),ps=[⟨ae aB,rs⟩,⟨ab,p⟩,⟨ab,n⟩]/\rs.length<=1000/\T=bG K aF (· =mZ rs p n)
theorem zT (M:bP mg)(CR:aw P w K mg base "reached" 1 (aC y8 K))(F:bz K "lies_on_ways" "lies_on_ways" n6 f fd)(hm:mg "lies_on_ways"=some (.ref f))(hb:Binds K fd ["rows","part","size"] []):aw P w K mg base "lies_on_ways" 2 (aC Bu K):=by
 have nd:=xX.nd
 have ndc:List.Nodup [("row":Str),"part"]:=by decide
 obtain ⟨t1,hB⟩:=M.begin_
 obtain ⟨t2,hE⟩:=M.end_
 refine bD F xX hm hb (λqs T ⟨_,_,_,e,_⟩=>by rw [e];rfl) (λcdv A outer s H E qs T hr hS=>?_)
 obtain ⟨rs,p,n,rfl,hl,rfl⟩:=hS
 change WS _ _ [.im (ae aB) rs,.im ab p,.im ab n,.no,.no] _ _
 have lf:∀g:Row->Int×Int,((rs.filter λr=>decide (r.1=p)).map g).length<=100000:=λg=>by
  rw [List.length_map]
  have:=List.length_filter_le (λr:Row=>decide (r.1=p)) rs
  omega
 refine ah (gq 3 CR hr (af (aU.im (aT (own:=["row"]) (fr:=["part"]) (ix:=[1]) (p:=λr=>decide (r.1=p)) (f:=λr=>(r.2.1,r.2.2.1)) (aM (so:=ag n6) (N0:=xY) rfl rfl (λx h=>aE h) (by decide +kernel)) (aK (aa 0 rfl))
  (λC s H ex=>aA 0) (λx=>⟨.inr rfl,.inl rfl,trivial⟩) (λC s H ex x hx=>gp (bj eG (ff (aa 0 rfl)) (aa 1 rfl))) (λC s H ex x hx _=>dv (af (ez (aa 0 rfl)) (af (cQ (aa 0 rfl)) ao))))) (af (ck hB) ao)) ⟨_,_,rfl,lf _,rfl⟩ ?_)
 rintro kv1 ⟨n1,e1⟩
 refine ah (gq 4 CR hr (af (aU.im (aT (own:=["row"]) (fr:=["part"]) (ix:=[1]) (p:=λr=>decide (r.1=p)) (f:=λr=>(r.2.2.1,r.2.1)) (aM (so:=ag n6) (N0:=xY) rfl rfl (λx h=>aE h) (by decide +kernel)) (aK (aa 0 rfl))
  (λC s H ex=>aA 0) (λx=>⟨.inr rfl,.inl rfl,trivial⟩) (λC s H ex x hx=>gp (bj eG (ff (aa 0 rfl)) (aa 1 rfl))) (λC s H ex x hx _=>dv (af (cQ (aa 0 rfl)) (af (ez (aa 0 rfl)) ao))))) (af (ck hE) ao)) ⟨_,_,rfl,lf _,rfl⟩ ?_)
 rintro kv2 ⟨n2,e2⟩
 refine ak (bq (dC (dB eG (kF M.len (aa 3 rfl)) (aa 2 rfl)) (λ_=>dA (dB eG (kF M.len (aa 4 rfl)) (aa 2 rfl)))) ?_)
 have q1:=lJ (n:=n) n1 e1
 have q2:=lJ (n:=n) n2 e2
 rw [List.length_map] at q1 q2
 show (decide ((kv1.length:Int)=n)&&decide ((kv2.length:Int)=n))=mZ rs p n
 rw [q1,q2];rfl
abbrev nu:Stmt:=top rN
abbrev uT:List Str:=["web","places","rows"]
theorem yp:ax uT ["web"] (ag nu):=⟨rfl,rfl,rfl,by decide +kernel,rfl,by decide +kernel,by decide +kernel⟩
noncomputable def jg (v:aN):Bool:=
 if !fH v then false
 else if !((v.2.filter λ_=>true).map (e8 v.1)).all id then false
 else if !(((ups (0 + 1) ((v.1.length:Int) - (0 + 1)).toNat).filter λ_=>true).map (called v.2)).all id then false
 else (((nums v.1).filter λ_=>true).map λx=>mZ v.2 x.1 x.2).all id
def Bw:bN:=λK ps T=>∃v:aN,ps=[⟨bZ,v⟩]/\v.1.length<=1000/\v.2.length<=1000/\T=bG K aF (· =jg v)
theorem zI (M:bP mg)(C1:aw P w K mg base "has_web_form" 4 (aC Bc K))(C2:aw P w K mg base "has_web_sizes" 1 (aC BB K))(C3:aw P w K mg base "leads_within" 1 (aC Bl K))(C4:aw P w K mg base "is_called" 1 (aC Bi K))(C5:aw P w K mg base "lies_on_ways" 2 (aC Bu K))(F:bz K "is_web" "is_web" nu f fd)(hm:mg "is_web"=some (.ref f))(hb:Binds K fd ["web"] []):aw P w K mg base "is_web" 5 (aC Bw K):=by
 have nd:=yp.nd
 have C2:=C2.mono (show 1<=4 by decide)
 have C3:=C3.mono (show 1<=4 by decide)
 have C4:=C4.mono (show 1<=4 by decide)
 have C5:=C5.mono (show 2<=4 by decide)
 have nd1:List.Nodup [("row":Str),"places"]:=by decide
 have nd2:List.Nodup [("part":Str),"rows"]:=by decide
 have nd3:List.Nodup [("part":Str),"size","rows"]:=by decide
 obtain ⟨t1,hFP⟩:=M.firstPart
 refine bD F yp hm hb (λqs T ⟨_,e,_⟩=>by rw [e];rfl) (λcdv A outer s H E qs T hr hS=>?_)
 obtain ⟨v,rfl,l1,l2,rfl⟩:=hS
 change WS _ _ [.im bZ v,.no,.no] _ _
 refine ah (bQ (TW.tv (dD (bI (bh (aW C1 hr (af (aa 0 rfl) ao) ⟨v,rfl,rfl⟩))) (λ_=>dQ (bI (bh (aW C2 hr (af (aa 0 rfl) ao) ⟨v,rfl,rfl⟩)))))) (λh=>?_) (λh=>a9 ?_))
 ·have h:(!fH v)=true:=by simpa using h
  exact ak (bq c8 (by rw [jg,if_pos h]))
 have h1:(!fH v)=false:=by simpa using h
 refine ah (aO 1 (c5 (r:=ae ab) (r':=ae aB) (aa 0 rfl)) (ah (aO 2 (bO (r:=ae ab) (r':=ae aB) (aa 0 rfl)) ?_)))
 refine ah (bQ (bI (bh (dh M.all (aU.im (aT (own:=["row"]) (fr:=["places"]) (ix:=[1]) (p:=λ_=>true) (f:=e8 v.1) (aM (so:=ag nu) (N0:=uT) rfl rfl (λx h=>aE h) (by decide +kernel)) (aK (aa 2 rfl))
  (λC s H ex=>aA 0) (λx=>⟨.inr rfl,.inl rfl,trivial⟩) (λC s H ex x hx=>bA) (λC s H ex x hx _=>aW C3 hr (af (aa 1 rfl) (af (aa 0 rfl) ao)) ⟨_,_,rfl,rfl⟩)))))) (λh=>?_) (λh=>a9 ?_))
 ·exact ak (bq c8 (by rw [jg,if_neg (by rw [h1];decide),if_pos h]))
 have h2:=h
 refine ah (bQ (bI (bh (dh M.all (aU.im (aT (own:=["part"]) (fr:=["rows"]) (ix:=[2]) (p:=λ_=>true) (f:=called v.2) (aM (so:=ag nu) (N0:=uT) rfl rfl (λx h=>aE h) (by decide +kernel)) (lL M.range (cB (ck hFP) au) (cR M.len (aa 1 rfl)) ⟨by decide,by decide,by omega,by omega⟩)
  (λC s H ex=>aA 0) (λx=>⟨.inr rfl,.inl rfl,trivial⟩) (λC s H ex x hx=>bA) (λC s H ex x hx _=>aW C4 hr (af (aa 1 rfl) (af (aa 0 rfl) ao)) ⟨_,_,rfl,rfl⟩)))))) (λh=>?_) (λh=>a9 ?_))
 ·exact ak (bq c8 (by rw [jg,if_neg (by rw [h1];decide),if_neg (by rw [h2];decide),if_pos h]))
 have h3:=h
 refine ak (bq (dh M.all (aU.im (aT (own:=["part","size"]) (fr:=["rows"]) (ix:=[2]) (p:=λ_=>true) (f:=λx=>mZ v.2 x.1 x.2) (aM (so:=ag nu) (N0:=uT) rfl rfl (λx h=>aE h) (by decide +kernel)) (kP M.enumerate (aa 1 rfl))
  (λC s H ex=>iE 0 1) (λx=>⟨.inr rfl,.inr rfl,.inl rfl,trivial⟩) (λC s H ex x hx=>bA) (λC s H ex x hx _=>aW C5 hr (af (aa 2 rfl) (af (aa 0 rfl) (af (aa 1 rfl) ao))) ⟨_,_,_,rfl,l2,rfl⟩)))) ?_)
 rw [jg,if_neg (by rw [h1];decide),if_neg (by rw [h2];decide),if_neg (by rw [h3];decide)]
end
end K1
namespace Fc
open PySem PySem.Spec L2
open PyProof.Rows hiding St
def uR (i j:Int):Prop:=0 < j/\j < 1000000000000000000
theorem tD {X:Cx}:cT X (binaryOp .FloorDiv) (rI uR λi j=>.int (i / j)):=qL λi j _ _ _ _ _ hc q=>by
 have h1:(0:Int) < j:=hc.1
 have h2:j < 1000000000000000000:=hc.2
 exact floordiv_int (by omega) (by rw [Int.fdiv_eq_ediv_of_nonneg i (by omega)];exact q) (.inl (PyProof.noPylong_of_log2 (Nat.lt_of_lt_of_le ((Nat.log2_lt (by omega)).mpr (show j.natAbs < 2 ^ 60 by omega)) (by decide))))
theorem uC {X:Cx}{Γ Γ1 Γ2:Ga}{a b:Expr}{pos:Pos}{x y:Int}(ha:EV X a Γ ab x Γ1)(hb:EV X b Γ1 ab y Γ2)(h:uR x y):EV X (.BinOp a .FloorDiv b pos) Γ ab (x / y) Γ2:=gP tD ha hb λR v u H Q e1 e2 q=>⟨x,y,e1,e2,h,q _ rfl⟩
end Fc
namespace K1
open PySem L2 Fc
open PySem.Spec hiding Row
open PyProof.Rows hiding St
open PySem.Builtin.Int (intBits)
section
variable {n:Int}{s:Pu}
structure cu (n:Int) (s:Pu):Prop where
 ne:1<=s.1.length
 le:s.1.length<=63
 bits:∀c∈s.1,intBits c<=2 ^ 20
 t0:0<=s.2
 t1:s.2<=n
theorem cu.mono {n':Int}(h:cu n s)(hn:n<=n'):cu n' s:=⟨h.ne,h.le,h.bits,h.t0,Int.le_trans h.t1 hn⟩
def sq (s:Pu):Nat:=(s.2 % (s.1.length:Int)).toNat
def eI (s:Pu):Int:=s.1.getD (sq s) 0
def mB (s:Pu):Int:=(eI s * 48271 + s.2 * s.2 * 69621 + 7) % 2147483647
def jt (s:Pu):Int:=mB s * mB s % 2147483629
def dP (s:Pu)(b:Int):Int:=if 10 ^ 18<=eI s then eI s % b else jt s * jt s % 2147483587 % b
def e9 (s:Pu)(b:Int):Pu:=if 10 ^ 18<=eI s then (s.1.set (sq s) (eI s / b),s.2 + 1) else (s.1,s.2 + 1)
theorem sM (h:cu n s):sq s < s.1.length:=by
 have h1:=Int.emod_lt_of_pos s.2 (show (0:Int) < (s.1.length:Int) by have:=h.ne;omega)
 have h2:=Int.emod_nonneg s.2 (show (s.1.length:Int)≠0 by have:=h.ne;omega)
 unfold sq;omega
theorem ie (h:cu n s):eI s∈s.1:=by
 unfold eI
 rw [List.getD_eq_getElem?_getD,List.getElem?_eq_getElem (sM h)]
 exact List.getElem_mem _
end
section
variable {P:Program}{w:World}{K:PySem.W.Frag}{mg:Str->Option Value}{base:Heap}{f:Addr}{fd:FuncData}
abbrev vx:Stmt:=top nv
abbrev nDR:List Str:=["_law_purse_here","_law_out_of","_law_cells","_law_turn","_law_at","_law_cell","_law_number"]
theorem yQ:ax nDR ["_law_purse_here","_law_out_of"] (ag vx):=⟨rfl,rfl,rfl,by decide +kernel,rfl,by decide +kernel,by decide +kernel⟩
def lO:iC Pu:=λK s ps T=>∃b:Int,cu 1000000 s/\ps=[⟨ab,b⟩]/\0 < b/\b < 1000000000000000000/\T=λs'=>bG K ab λy=>s'=e9 s b/\y=dP s b
theorem zU (M:bP mg)(F:bz K "_law_draw" "_law_draw" vx f fd)(hm:mg "_law_draw"=some (.ref f))(hb:Binds K fd ["_law_purse_here","_law_out_of"] []):aw P w K mg base "_law_draw" 1 (dz aR lO K):=by
 have nd:=yQ.nd
 refine iy F yQ hm hb (λxs qs T ⟨b,_,e,_⟩=>by rw [e];rfl) (λcdv A outer s H E a b st qs T hr hS=>?_)
 obtain ⟨d,hP,rfl,b0,b1,rfl⟩:=hS
 have al:=sM hP
 have t0:=hP.t0;have t1:=hP.t1;have ne:=hP.ne;have le:=hP.le
 have hbc:=hP.bits _ (ie hP)
 have m0:=Int.emod_nonneg st.2 (show (st.1.length:Int)≠0 by omega)
 have m1:=Int.emod_lt_of_pos st.2 (show (0:Int) < (st.1.length:Int) by omega)
 change WS _ _ [.ob (aR.bx a b st),.im ab d,.no,.no,.no,.no,.no] _ _
 refine ah (wV 0 2 3 rfl ?_)
 refine ah (aO 4 (gr (aa 3 rfl) (uF 0 2 M.len rfl rfl) (by omega)) ?_)
 refine ah (aO 5 (vN 0 2 (c:=eI st) (aa 4 rfl) rfl rfl (by rw [cz m0 m1];rfl)) ?_)
 refine ah (tO 0 (cB (aa 3 rfl) au) rfl ?_)
 refine ah (bQ (bj Ci (aa 5 rfl) (yu au au ⟨by decide,by decide,by decide⟩)) (λh=>?_) (λh=>a9 ?_))
 ·have h:(10:Int) ^ 18<=eI st:=of_decide_eq_true h
  refine ah (qw 0 2 (n:=sq st) (uC (aa 5 rfl) (aa 1 rfl) ⟨b0,b1⟩) (aa 4 rfl) rfl rfl (dS m0 m1) ?_)
  refine ak (fX 0 (B:=aR) (gr (aa 5 rfl) (aa 1 rfl) b0) rfl ⟨?_,?_⟩)
  ·rw [e9,if_pos h]
  ·rw [dP,if_pos h]
 ·have h:¬(10:Int) ^ 18<=eI st:=of_decide_eq_false h
  have n0:0<=mB st:=Int.emod_nonneg _ (by decide)
  have n1:mB st < 2147483647:=Int.emod_lt_of_pos _ (by decide)
  have q0:0<=jt st:=Int.emod_nonneg _ (by decide)
  have q1:jt st < 2147483629:=Int.emod_lt_of_pos _ (by decide)
  refine ah (aO 6 (EV.cast (y':=mB st) (gr (cB (cB (f9 (aa 5 rfl) au (.of_right (by decide))) (f9 (f9 (aa 3 rfl) (aa 3 rfl) (hZ t0 (by omega))) au (.of_right (by decide)))) au) au (by decide)) rfl) ?_)
  refine ah (aO 6 (EV.cast (y':=jt st) (gr (f9 (aa 6 rfl) (aa 6 rfl) (hZ n0 (by omega))) au (by decide)) rfl) ?_)
  refine ak (fX 0 (B:=aR) (gr (gr (f9 (aa 6 rfl) (aa 6 rfl) (hZ q0 (by omega))) au (by decide)) (aa 1 rfl) b0) rfl ⟨?_,?_⟩)
  ·rw [e9,if_neg h]
  ·rw [dP,if_neg h]
theorem cC {n:Int}{s:Pu}(h:cu n s)(hn:n < 1000000){b:Int}(b0:0 < b)(b1:b < 1000000000000000000):∃y st,0<=y/\y < b/\cu (n + 1) st/\∀K,lO K s [⟨ab,b⟩] (λs'=>bG K ab λz=>s'=st/\z=y):=by
 have hbc:=h.bits _ (ie h)
 have t0:=h.t0;have t1:=h.t1;have ne:=h.ne;have le:=h.le
 refine ⟨dP s b,e9 s b,?_,?_,?_,λK=>⟨b,h.mono (by omega),rfl,b0,b1,rfl⟩⟩
 ·unfold dP;split<;>exact Int.emod_nonneg _ (by omega)
 ·unfold dP;split<;>exact Int.emod_lt_of_pos _ b0
 ·unfold e9
  split
  ·refine ⟨by rw [List.length_set];exact ne,by rw [List.length_set];exact le,λc hc=>?_,by show 0<=s.2 + 1;omega,by show s.2 + 1<=n + 1;omega⟩
   rcases List.mem_or_eq_of_mem_set hc with z | rfl
   ·exact h.bits c z
   ·exact lr b0 hbc
  ·exact ⟨ne,le,h.bits,by show 0<=s.2 + 1;omega,by show s.2 + 1<=n + 1;omega⟩
abbrev l7:Stmt:=top lT
abbrev BH:List Str:=["_law_script","_law_cells"]
theorem x9:ax BH ["_law_script"] (ag l7):=⟨rfl,rfl,rfl,by decide +kernel,rfl,by decide +kernel,by decide +kernel⟩
def BA:bN:=λK ps T=>∃ns:List Int,ps=[⟨fO,ns⟩]/\ns.length<=63/\(∀n∈ns,intBits n<=2 ^ 20)/\T=pj (cu 0)
theorem vU {α:Type}(xs:List α)(l h:Option Int):∀x∈cut xs l h,x∈xs:=by
 intro x hx
 unfold cut at hx
 first | exact List.mem_of_mem_drop (List.mem_of_mem_take hx) | exact List.mem_of_mem_take (List.mem_of_mem_drop hx) | (simp at hx;exact hx)
theorem Ai (F:bz K "_law_purse" "_law_purse" l7 f fd)(hm:mg "_law_purse"=some (.ref f))(hb:Binds K fd ["_law_script"] []):aw P w K mg base "_law_purse" 1 (aC BA K):=by
 have nd:=x9.nd
 refine bD F x9 hm hb (λqs T ⟨_,e,_⟩=>by rw [e];rfl) (λcdv A outer s H E qs T hr hS=>?_)
 obtain ⟨ns,rfl,hl,hbits,rfl⟩:=hS
 have hu:(A.deeper (envOfC "_law_purse" (ag l7) s.heap.objs.size f cdv)).units + 1 < cLine:=Nat.lt_of_le_of_lt (Nat.add_le_add_left (by decide:1<=64) _) hr.units
 change WS _ _ [.im fO ns,.no] _ _
 refine ah (cS 1 (pv (aa 0 rfl) wq (vV au)) ?_)
 have cl:(cut ns none (some 63)).length<=63:=Nat.le_trans (jV _ _ _) hl
 have cb:∀n∈cut ns none (some 63),intBits n<=2 ^ 20:=λn hn=>hbits n (vU ns none (some 63) n hn)
 generalize cut ns none (some 63)=cs at cl cb
 have fin:∀xs:List Int,1<=xs.length->xs.length<=63->(∀n∈xs,intBits n<=2 ^ 20)->WS (d4 d6 P w K mg base BH "_law_purse" (ag l7) f cdv A outer s H E).g8 ((bY l7).drop 2) [.im fO ns,.mu ab xs] (λ_=>False) (pj (cu 0)):=by
  intro xs h1 h2 h3
  refine WS.box 1 rfl λb=>?_
  exact ak (vW 1 (aY (aJ (tZ 1 rfl) (aJ (EV.AM au) bu)) (by show 2<=sizeLine;decide)) rfl ⟨h1,h2,h3,Int.le_refl _,Int.le_refl _⟩)
 refine ah (bQ (TV.frz (iA (i:=1) rfl (aV (by omega))) (bj (AY (r:=ab) eq_int hu) (aa 1 rfl) (aU.im (aY bu (by decide))))) (λh=>?_) (λh=>a9 ?_))
 ·refine ak (cS 1 (r:=ab) (aY (aJ au bu) (by show 1<=sizeLine;decide)) ?_)
  exact fin [0] (by simp) (by simp) (by intro n hn;rw [List.mem_singleton.mp hn];decide)
 ·have h:cs≠[]:=of_decide_eq_false h
  exact fin cs (by cases cs with
   | nil=>exact absurd rfl h
   | cons=>simp) cl cb
end
end K1
namespace Fc
open PySem PySem.Spec L2
open PyProof.Rows hiding St
theorem ng {α β:Type}{F:α->β->Prop}{v:α}{y:β}{vs:List α}{xs:List β}(k:Nat)(h:F v y)(p:PySem.Paired F vs xs):PySem.Paired F (bU k v vs) (bU k y xs):=by
 unfold bU
 exact bE (eJ k p) (.cons h (fR k p))
def oD (k:Int):Value->Bool
 | .int n _=>decide (n=k)
 | _=>false
section
variable {X:Cx}{Γ Γ1 Γ2 Γ3:Ga}{α β γ δ:Type}{N:Ga->Prop}{T:RT}
variable {x:Str}{p1 ap cp:Pos}{e:Expr}
theorem pU (i:Nat){e1 e2:Expr}{pos:Pos}{r:Rep α}{xs:List α}{y:α}{k:Int}(h1:EV X e1 Γ ab k Γ1)(h2:EV X e2 Γ1 r y Γ2)(hΓ:Γ[i]?=some (.mu r xs))(hΓ2:Γ2[i]?=some (.mu r xs))
 (k0:0<=k) (k1:k<=(xs.length:Int)) (hz:xs.length < sizeLine) (h:N (Γ2.set i (.mu r (bU k.toNat y xs))))
 (hN:X.N[i]?=some x:=by rfl) (hv:bT X.env.scope x:=by first | exact Or.inl rfl | exact Or.inr (Or.inl rfl) | exact Or.inr (Or.inr rfl))
 (hd:(x==("__debug__":Str))=false:=by decide) (hcd:(x==("__classdict__":Str))=false:=by decide)
 (hsw:swapsWith (.Call (.Attribute (.Name x p1) "insert" ap) [e1,e2] [] cp) none pos.line X.env=pure false:=by rfl)
 (hbase:attributeBase (.Name x p1) "insert" X.env (eval (.Name x p1) X.env)=eval (.Name x p1) X.env:=by rfl)
 (hfew:((backTo cp (starEach [e1,e2] X.env)).all (λx=> !x.1)&&(backToKw cp (keywordEach [] X.env)).all (λx=>x.1.isSome)
  &&decide ([e1,e2].length + ([]:List Keyword).length + (if ([]:List Keyword).isEmpty then 0 else 1) < 30))=true:=by rfl)
 (hline:(ap.endLine==cp.line)=true:=by rfl) (hs:starEach [e1,e2] X.env=(false,eval e1 X.env)::starEach [e2] X.env:=by rfl) (hs2:starEach [e2] X.env=(false,eval e2 X.env)::starEach [] X.env:=by rfl) (hpl:(backTo cp (starEach [e2] X.env)).any (·.1)=false:=by rfl):
 W1 X (.Expr (.Call (.Attribute (.Name x p1) "insert" ap) [e1,e2] [] cp) pos) Γ N T:=λσ H0 R0 H R E D dn dr=>by
 obtain ⟨a,vs,ea,ha,hR,pp⟩:=E.ent i _ hΓ
 refine sS (eu (kd PySem.F.plainAttrs_list PySem.F.slot_list_insert PySem.F.type_list_insert sj (aP hN hv hd hcd) (aQ aD (aQ aD bF hs2) hs) hbase hfew hline hs hpl) hsw) ?_
 refine ⟨.ref a,at_of ea,.inl ⟨rfl,_,aH.of ha⟩,h1 σ H0 R0 H R E _ λv1 H1 R1 E1 s1 q1=>h2 σ H0 R0 H1 R1 E1 _ λv2 H2 R2 E2 s2 q2=>?_⟩
 cases q1
 obtain ⟨a',vs',ea',ha',hR',pp'⟩:=E2.ent i _ hΓ2
 rw [ea] at ea';cases ea'
 refine ⟨a,vs',k,v2,rfl,rfl,ha',k0,by rw [pp'.length];exact k1,by rw [pp'.length];exact hz,?_⟩
 exact dn σ _ R2 _ (E2.upd (en:=.mu r (bU k.toNat y xs)) hΓ2 rfl ea hR' ⟨a,_,rfl,ar,hR',ng _ q2 pp'⟩) (s1.trans s2) h
def zo:V->List V->Hp->VK->Prop:=λx vs H Q=>∃(l:Addr) (ns:List Int) (k:Int) (j:Nat),x= .ref l/\vs=[.int k]/\H l=some (.lst (ns.map V.int))/\ns[j]?=some k/\(∀m,m < j->ns[m]?≠some k)/\Q (.int (j:Nat)) H
theorem tX (hu:X.A.units + 1 < cLine):xT X "list.index" zo:=by
 intro pins s σ H x vs v us Q I rx rv h
 obtain ⟨l,ns,k,j,rfl,rfl,hH,hj,hno,q⟩:=h
 cases rx
 obtain ⟨u,rfl,t,rfl⟩:=rv.one
 obtain ⟨hz,its,m,r1,hl,ho⟩:=I.gG hH
 have jl:j < ns.length:=(List.getElem?_eq_some_iff.mp hj).1
 have hl2:its.length=ns.length:=by rw [← hl,List.length_map]
 have at_:∀(n:Nat) (h1:n < its.length) (h2:n < ns.length),∃t',its[n]= .int ns[n] t':=λn h1 h2=>by
  obtain ⟨u,e1,t',e2⟩:=r1.get (show (ns.map V.int)[n]?=some (.int ns[n]) by rw [List.getElem?_map,List.getElem?_eq_getElem h2];rfl)
  rw [List.getElem?_eq_getElem h1] at e1
  exact ⟨t',(Option.some.inj e1).trans e2⟩
 refine call_meets PySem.F.slot_list_index ⟨_,ho,rfl⟩ PySem.F.entry_list_index (PySem.F.args_list_index_2 _ _)
  (SeqAt.list_indexAt l its.toArray m _ _ (.int k t) (oD k) j (by simpa [hl2] using jl) ?_ ?_ ?_) ⟨ho,λw hw=>?_,?_⟩
 ·have:sizeLine < 2 ^ 63 - 1:=by decide
  rw [List.length_map] at hz
  omega
 ·obtain ⟨t',e⟩:=at_ j (by omega) jl
  show oD k its[j]=true
  rw [e]
  rw [List.getElem?_eq_getElem jl] at hj
  exact decide_eq_true (Option.some.inj hj)
 ·intro n hn hnj
  obtain ⟨t',e⟩:=at_ n (by simpa using hn) (by omega)
  show oD k its[n]=false
  rw [e]
  refine decide_eq_false λz=>hno n hnj ?_
  rw [List.getElem?_eq_getElem (by omega),z]
 ·have hw:w∈its:=by simpa using hw
  obtain ⟨n,hn,rfl⟩:=List.mem_iff_getElem.mp hw
  obtain ⟨t',e⟩:=at_ n hn (by omega)
  rw [e]
  intro prog w E Q hq
  refine wpAny_eqBool_int ?_
  rw [Bool.beq_eq_decide_eq];exact hq
 ·exact ⟨.int _,H,I.tok _,⟨_,rfl⟩,q⟩
theorem mR (i:Nat){ns:List Int}{k:Int}{j:Nat}(hu:X.A.units + 1 < cLine)(he:EV X e Γ ab k Γ1)(hΓ:Γ[i]?=some (.mu ab ns))(hΓ1:Γ1[i]?=some (.mu ab ns))(hj:ns[j]?=some k)(hno:∀m,m < j->ns[m]?≠some k)
 (hN:X.N[i]?=some x:=by rfl) (hv:bT X.env.scope x:=by first | exact Or.inl rfl | exact Or.inr (Or.inl rfl) | exact Or.inr (Or.inr rfl))
 (hd:(x==("__debug__":Str))=false:=by decide) (hcd:(x==("__classdict__":Str))=false:=by decide)
 (hbase:attributeBase (.Name x p1) "index" X.env (eval (.Name x p1) X.env)=eval (.Name x p1) X.env:=by rfl)
 (hfew:((backTo cp (starEach [e] X.env)).all (λx=> !x.1)&&(backToKw cp (keywordEach [] X.env)).all (λx=>x.1.isSome)
  &&decide ([e].length + ([]:List Keyword).length + (if ([]:List Keyword).isEmpty then 0 else 1) < 30))=true:=by rfl)
 (hline:(ap.endLine==cp.line)=true:=by rfl) (hs:starEach [e] X.env=(false,eval e X.env)::starEach [] X.env:=by rfl):EV X (.Call (.Attribute (.Name x p1) "index" ap) [e] [] cp) Γ ab (j:Nat) Γ1:=λσ H0 R0 H R E Q q=>by
 obtain ⟨a,vs,ea,ha,hR,pp⟩:=E.ent i _ hΓ
 refine eS (kd PySem.F.plainAttrs_list PySem.F.slot_list_index PySem.F.type_list_index (tX hu) (aP hN hv hd hcd) (aQ aD bF hs) hbase hfew hline hs rfl) ?_
 refine ⟨.ref a,at_of ea,.inl ⟨rfl,vs,aH.of ha⟩,he σ H0 R0 H R E _ λv H1 R1 E1 s1 e1=>?_⟩
 obtain ⟨a',vs',ea',ha',hR',pp'⟩:=E1.ent i _ hΓ1
 rw [ea] at ea';cases ea'
 cases e1
 exact ⟨a,ns,k,j,rfl,rfl,by rw [ha',c9 pp'],hj,hno,q _ _ _ E1 s1 rfl⟩
def wU:V->List V->Hp->VK->Prop:=λx vs H Q=>∃(l:Addr) (ns:List Int) (k:Int) (j:Nat),x= .ref l/\vs=[.int k]/\H l=some (.lst (ns.map V.int))/\ns[j]?=some k/\(∀m,m < j->ns[m]?≠some k)/\Q .non (upd H l (.lst ((ns.eraseIdx j).map V.int)))
theorem qo:sG X "list.remove" wU:=by
 intro pins s σ H x vs v us Q I rx rv h
 obtain ⟨l,ns,k,j,rfl,rfl,hH,hj,hno,q⟩:=h
 cases rx
 obtain ⟨u,rfl,t,rfl⟩:=rv.one
 obtain ⟨hz,its,m,r1,hl,ho⟩:=I.gG hH
 have jl:j < ns.length:=(List.getElem?_eq_some_iff.mp hj).1
 have hl2:its.length=ns.length:=by rw [← hl,List.length_map]
 have at_:∀(n:Nat) (h1:n < its.length) (h2:n < ns.length),∃t',its[n]= .int ns[n] t':=λn h1 h2=>by
  obtain ⟨u,e1,t',e2⟩:=r1.get (show (ns.map V.int)[n]?=some (.int ns[n]) by rw [List.getElem?_map,List.getElem?_eq_getElem h2];rfl)
  rw [List.getElem?_eq_getElem h1] at e1
  exact ⟨t',(Option.some.inj e1).trans e2⟩
 refine call_meets PySem.F.slot_list_remove ⟨_,ho,rfl⟩ PySem.F.entry_list_remove (PySem.F.args_list_remove_2 _ _)
  (MeetsSeq.list_remove l its.toArray m (.int k t) (oD k) (λw hw=>?_) j (by simpa [hl2] using jl) ?_ ?_ (by rw [List.size_toArray,hl2,← List.length_map (f:=V.int)];exact hz)) ⟨ho,?_⟩
 ·have hw:w∈its:=by simpa using hw
  obtain ⟨n,hn,rfl⟩:=List.mem_iff_getElem.mp hw
  obtain ⟨t',e⟩:=at_ n hn (by omega)
  rw [e]
  intro prog w A E s Q hq
  refine wpAny_eqBool_int ?_
  rw [Bool.beq_eq_decide_eq];exact hq
 ·obtain ⟨t',e⟩:=at_ j (by omega) jl
  show oD k its[j]=true
  rw [e]
  rw [List.getElem?_eq_getElem jl] at hj
  exact decide_eq_true (Option.some.inj hj)
 ·intro n hn hnj
  obtain ⟨t',e⟩:=at_ n (by simpa using hn) (by omega)
  show oD k its[n]=false
  rw [e]
  refine decide_eq_false λz=>hno n hnj ?_
  rw [List.getElem?_eq_getElem (by omega),z]
 ·refine ⟨.non,_,I.mS (its':=its.eraseIdx j) hH ho ?_ ?_ ?_,rfl,q⟩
  ·rw [List.eraseIdxIfInBounds_toArray]
  ·have key:∀(ns:List Int) (ws:List Value) (j:Nat),Vals (ns.map V.int) ws->Vals ((ns.eraseIdx j).map V.int) (ws.eraseIdx j):=by
    intro ns
    induction ns with
    | nil=>intro ws j h;cases h;exact .nil
    | cons a ns ih=>
      intro ws j h
      cases h with
      | cons h1 t=>
        cases j with
        | zero=>exact t
        | succ j=>exact .cons h1 (ih _ j t)
   exact key ns its j r1
  ·rw [List.length_map]
   rw [List.length_map] at hz
   exact Nat.le_trans (List.length_eraseIdx_le ns j) hz
theorem tm (i:Nat){pos:Pos}{ns:List Int}{k:Int}{j:Nat}(he:EV X e Γ ab k Γ1)(hΓ:Γ[i]?=some (.mu ab ns))(hΓ1:Γ1[i]?=some (.mu ab ns))(hj:ns[j]?=some k)(hno:∀m,m < j->ns[m]?≠some k)(h:N (Γ1.set i (.mu ab (ns.eraseIdx j))))
 (hN:X.N[i]?=some x:=by rfl) (hv:bT X.env.scope x:=by first | exact Or.inl rfl | exact Or.inr (Or.inl rfl) | exact Or.inr (Or.inr rfl))
 (hd:(x==("__debug__":Str))=false:=by decide) (hcd:(x==("__classdict__":Str))=false:=by decide)
 (hsw:swapsWith (.Call (.Attribute (.Name x p1) "remove" ap) [e] [] cp) none pos.line X.env=pure false:=by rfl)
 (hbase:attributeBase (.Name x p1) "remove" X.env (eval (.Name x p1) X.env)=eval (.Name x p1) X.env:=by rfl)
 (hfew:((backTo cp (starEach [e] X.env)).all (λx=> !x.1)&&(backToKw cp (keywordEach [] X.env)).all (λx=>x.1.isSome)
  &&decide ([e].length + ([]:List Keyword).length + (if ([]:List Keyword).isEmpty then 0 else 1) < 30))=true:=by rfl)
 (hline:(ap.endLine==cp.line)=true:=by rfl) (hs:starEach [e] X.env=(false,eval e X.env)::starEach [] X.env:=by rfl):W1 X (.Expr (.Call (.Attribute (.Name x p1) "remove" ap) [e] [] cp) pos) Γ N T:=λσ H0 R0 H R E D dn dr=>by
 obtain ⟨a,vs,ea,ha,hR,pp⟩:=E.ent i _ hΓ
 refine sS (eu (kd PySem.F.plainAttrs_list PySem.F.slot_list_remove PySem.F.type_list_remove qo (aP hN hv hd hcd) (aQ aD bF hs) hbase hfew hline hs rfl) hsw) ?_
 refine ⟨.ref a,at_of ea,.inl ⟨rfl,vs,aH.of ha⟩,he σ H0 R0 H R E _ λv H1 R1 E1 s1 e1=>?_⟩
 obtain ⟨a',vs',ea',ha',hR',pp'⟩:=E1.ent i _ hΓ1
 rw [ea] at ea';cases ea'
 cases e1
 refine ⟨a,ns,k,j,rfl,rfl,by rw [ha',c9 pp'],hj,hno,?_⟩
 exact dn σ _ R1 _ (E1.upd (en:=.mu ab (ns.eraseIdx j)) hΓ1 rfl ea hR' ⟨a,_,rfl,ar,hR',paired_ints _⟩) s1 h
theorem EV.two {r:Rep α}{x y:α}(h:EV X e Γ (ae r) [x,y] Γ1):EV X e Γ (dW r) (x,y) Γ1:=EV.rep h λ_ _ q=>q
end
section
variable {X:Cx}{Γ Γ1 Γ2 Γ3:Ga}{α β γ δ:Type}{N:Ga->Prop}{T:RT}
theorem vK {a b:Expr}{rest:List Expr}{pos:Pos}{y:Bool}(ha:TV X a Γ true Γ1)(hb:TW X (.BoolOp .And (b::rest) pos) Γ1 y Γ2):TW X (.BoolOp .And (a::b::rest) pos) Γ y Γ2:=λσ H0 R0 H R E Q q=>
 wS (qP iS uN) (ha σ H0 R0 H R E _ λH1 R1 E1 s1=>ite_tt (hb σ H0 R0 H1 R1 E1 Q λH2 R2 E2 s2=>q H2 R2 E2 (s1.trans s2)))
theorem tT {a:Expr}{pos:Pos}{x:Bool}(ha:TV X a Γ x Γ1):TW X (.BoolOp .And [a] pos) Γ x Γ1:=λσ H0 R0 H R E Q q=>wS (og iS) (ha σ H0 R0 H R E Q q)
end
end Fc
namespace K1
open PySem L2 Fc
open PySem.Spec hiding Row
open PyProof.Rows hiding St
open PySem.Builtin.Int (intBits)
section
variable {a b n:Int}{ties:List (Int×Int)}
def jZ (t:Int×Int):Int×Int:=(t.2,t.1)
theorem dI {es:List (Int×Int)}:(a,b)∈es.map jZ↔(b,a)∈es:=by
 rw [List.mem_map]
 constructor
 ·rintro ⟨⟨x,y⟩,h,e⟩
  simp only [jZ,Prod.mk.injEq] at e
  rw [← e.1,← e.2];exact h
 ·intro h;exact ⟨(b,a),h,rfl⟩
structure dw (many:Int) (ties:List (Int×Int)):Prop where
 m2:2<=many
 bd:∀t∈ties,0<=t.1/\t.1 < many/\t.1≠1/\0<=t.2/\t.2 < many
 fw:∀k,0<=k->k < many->Reach ties 0 k
 bw:∀k,0<=k->k < many->Reach (ties.map jZ) 1 k
theorem Reach.mono {es es':List (Int×Int)}{s:Int}(h:∀t∈es,t∈es'){k:Int}(r:Reach es s k):Reach es' s k:=Reach.sub .base (λ_ _ ha hab=>.step ha (h _ hab)) r
theorem dw.more (h:dw n ties)(a0:0<=a)(a1:a < n)(an:a≠1)(b0:0<=b)(b1:b < n):dw n (ties++[(a,b)]):=by
 refine ⟨h.m2,λt ht=>?_,λk k0 k1=>Reach.mono (λt ht=>List.mem_append_left _ ht) (h.fw k k0 k1),λk k0 k1=>Reach.mono (λt ht=>?_) (h.bw k k0 k1)⟩
 ·rcases List.mem_append.mp ht with z | z
  ·exact h.bd t z
  ·rw [List.mem_singleton.mp z];exact ⟨a0,a1,an,b0,b1⟩
 ·rw [List.map_append];exact List.mem_append_left _ ht
theorem dw.split (h:dw n ties){i:Nat}(hi:ties[i]?=some (a,b)):dw (n + 1) (ties.set i (a,n)++[(n,b)]):=by
 have il:=(List.getElem?_eq_some_iff.mp hi).1
 have hm:=h.m2
 have hab:=h.bd _ (List.mem_of_getElem? hi)
 have e1:(a,n)∈ties.set i (a,n)++[(n,b)]:=List.mem_append_left _ (List.mem_iff_getElem?.mpr ⟨i,List.getElem?_set_self il⟩)
 have e2:(n,b)∈ties.set i (a,n)++[(n,b)]:=List.mem_append_right _ (by simp)
 have keep:∀t∈ties,t=(a,b)∨t∈ties.set i (a,n)++[(n,b)]:=λt ht=>by
  obtain ⟨j,hj⟩:=List.mem_iff_getElem?.mp ht
  by_cases e:i=j
  ·subst e;rw [hi] at hj;cases hj;exact .inl rfl
  ·exact .inr (List.mem_append_left _ (List.mem_iff_getElem?.mpr ⟨j,by rw [List.getElem?_set_ne e];exact hj⟩))
 have fw:∀{k:Int},Reach ties 0 k->Reach (ties.set i (a,n)++[(n,b)]) 0 k:=λr=>Reach.sub .base (λx y hx hxy=>by
  rcases keep _ hxy with z | z
  ·cases z;exact .step (.step hx e1) e2
  ·exact .step hx z) r
 have bw:∀{k:Int},Reach (ties.map jZ) 1 k->Reach ((ties.set i (a,n)++[(n,b)]).map jZ) 1 k:=λr=>Reach.sub .base (λx y hx hxy=>by
  rcases keep _ (dI.mp hxy) with z | z
  ·cases z;exact .step (.step hx (dI.mpr e2)) (dI.mpr e1)
  ·exact .step hx (dI.mpr z)) r
 refine ⟨by omega,λt ht=>?_,λk k0 k1=>?_,λk k0 k1=>?_⟩
 ·rcases List.mem_append.mp ht with z | z
  ·rcases List.mem_or_eq_of_mem_set z with z | z
   ·have:=h.bd t z;omega
   ·rw [z];exact ⟨hab.1,by show a < n + 1;omega,hab.2.2.1,by show 0<=n;omega,by show n < n + 1;omega⟩
  ·rw [List.mem_singleton.mp z];exact ⟨by show 0<=n;omega,by show n < n + 1;omega,by show n≠1;omega,hab.2.2.2.1,by show b < n + 1;omega⟩
 ·by_cases e:k=n
  ·rw [e];exact .step (fw (h.fw a hab.1 hab.2.1)) e1
  ·exact fw (h.fw k k0 (by omega))
 ·by_cases e:k=n
  ·rw [e];exact .step (bw (h.bw b hab.2.2.2.1 hab.2.2.2.2)) (dI.mpr e2)
  ·exact bw (h.bw k k0 (by omega))
theorem dw.ren (h:dw n ties){g:Int->Int}(gb:∀k,0<=k->k < n->0<=g k/\g k < n)(gs:∀k,0<=k->k < n->∃j,0<=j/\j < n/\g j=k)(g0:g 0=0)(g1:g 1=1)(gi:∀k,0<=k->k < n->g k=1->k=1):dw n (ties.map λ(t:Int×Int)=>(g t.1,g t.2)):=by
 have fw:∀{k:Int},Reach ties 0 k->Reach (ties.map λ(t:Int×Int)=>(g t.1,g t.2)) 0 (g k):=λr=>by
  refine Reach.sub (P:=λk=>Reach (ties.map λ(t:Int×Int)=>(g t.1,g t.2)) 0 (g k)) (by rw [g0];exact .base) (λx y hx hxy=>.step hx (List.mem_map.mpr ⟨_,hxy,rfl⟩)) r
 have bw:∀{k:Int},Reach (ties.map jZ) 1 k->Reach ((ties.map λ(t:Int×Int)=>(g t.1,g t.2)).map jZ) 1 (g k):=λr=>by
  refine Reach.sub (P:=λk=>Reach ((ties.map λ(t:Int×Int)=>(g t.1,g t.2)).map jZ) 1 (g k)) (by rw [g1];exact .base) (λx y hx hxy=>.step hx (dI.mpr (List.mem_map.mpr ⟨_,dI.mp hxy,rfl⟩))) r
 refine ⟨h.m2,λt ht=>?_,λk k0 k1=>?_,λk k0 k1=>?_⟩
 ·obtain ⟨u,hu,rfl⟩:=List.mem_map.mp ht
  have b:=h.bd u hu
  have b1:=gb u.1 b.1 b.2.1
  have b2:=gb u.2 b.2.2.2.1 b.2.2.2.2
  exact ⟨b1.1,b1.2,λe=>b.2.2.1 (gi u.1 b.1 b.2.1 e),b2.1,b2.2⟩
 ·obtain ⟨j,j0,j1,rfl⟩:=gs k k0 k1
  exact fw (h.fw j j0 j1)
 ·obtain ⟨j,j0,j1,rfl⟩:=gs k k0 k1
  exact bw (h.bw j j0 j1)
structure gL (n:Nat) (xs:List Int):Prop where
 len:xs.length=n
 nd:xs.Nodup
 mem:∀k,k∈xs↔0<=k/\k < (n:Int)
theorem gB {α:Type}{k:Nat}{y:α}{xs:List α}:(bU k y xs).Perm (y::xs):=by
 unfold bU
 have:=List.perm_middle (a:=y) (l₁:=xs.take k) (l₂:=xs.drop k)
 rwa [List.take_append_drop] at this
theorem gL.ins {n:Nat}{xs:List Int}(h:gL n xs)(k:Nat):gL (n + 1) (bU k (n:Int) xs):=by
 have p:=gB (k:=k) (y:=(n:Int)) (xs:=xs)
 refine ⟨by rw [p.length_eq,List.length_cons,h.len],p.nodup_iff.mpr (List.nodup_cons.mpr ⟨λz=>by have:=(h.mem _).mp z;omega,h.nd⟩),λj=>?_⟩
 rw [p.mem_iff,List.mem_cons,h.mem]
 omega
end
section
variable {P:Program}{w:World}{K:PySem.W.Frag}{mg:Str->Option Value}{base:Heap}{f:Addr}{fd:FuncData}
abbrev uL:Stmt:=top lX
abbrev nOR:List Str:=["_law_purse_here","_law_many","_law_found","_law_k"]
theorem xu:ax nOR ["_law_purse_here","_law_many"] (ag uL):=⟨rfl,rfl,rfl,by decide +kernel,rfl,by decide +kernel,by decide +kernel⟩
def bX (s:Pu):Nat->Pu×List Int
 | 0=>(s,[])
 | k + 1=>(e9 (bX s k).1 ((k:Int) + 1),bU (dP (bX s k).1 ((k:Int) + 1)).toNat (k:Int) (bX s k).2)
theorem fK {n:Int}{s:Pu}(h:cu n s):∀m:Nat,n + m<=200000->cu (n + m) (bX s m).1/\gL m (bX s m).2
 | 0,_=>⟨h.mono (by omega),rfl,List.nodup_nil,λk=>by simp [bX]<;>omega⟩
 | k + 1,hk=>by
   have hn0:0<=n:=Int.le_trans h.t0 h.t1
   obtain ⟨h1,h2⟩:=fK h k (by omega)
   refine ⟨?_,h2.ins _⟩
   obtain ⟨y,st,_,_,h3,h4⟩:=cC h1 (by omega) (b:=(k:Int) + 1) (by omega) (by omega)
   have hbc:=h1.bits _ (ie h1)
   show cu _ (e9 (bX s k).1 ((k:Int) + 1))
   have t0:=h1.t0;have t1:=h1.t1;have ne:=h1.ne;have le:=h1.le
   unfold e9
   split
   ·refine ⟨by rw [List.length_set];exact ne,by rw [List.length_set];exact le,λc hc=>?_,by show 0<=(bX s k).1.2 + 1;omega,by show (bX s k).1.2 + 1<=_;omega⟩
    rcases List.mem_or_eq_of_mem_set hc with z | rfl
    ·exact h1.bits c z
    ·exact lr (by omega) hbc
   ·exact ⟨ne,le,h1.bits,by show 0<=(bX s k).1.2 + 1;omega,by show (bX s k).1.2 + 1<=_;omega⟩
def vw:iC Pu:=λK s ps T=>∃(n:Int) (m:Nat),cu n s/\0<=n/\n<=100000/\ps=[⟨ab,(m:Int)⟩]/\m<=100/\T=λs'=>bG K (ae ab) λxs=>s'=(bX s m).1/\xs=(bX s m).2
theorem oz {n:Int}{s:Pu}(h:cu n s)(n0:0<=n)(hn:n<=100000){m:Nat}(hm:m<=100):∃xs st,cu (n + m) st/\gL m xs/\∀K,vw K s [⟨ab,(m:Int)⟩] (λs'=>bG K (ae ab) λz=>s'=st/\z=xs):=by
 obtain ⟨h1,h2⟩:=fK h m (by omega)
 exact ⟨_,_,h1,h2,λK=>⟨n,m,h,n0,hn,rfl,hm,rfl⟩⟩
theorem zL (M:bP mg)(CD:aw P w K mg base "_law_draw" 1 (dz aR lO K))(F:bz K "_law_order" "_law_order" uL f fd)(hm:mg "_law_order"=some (.ref f))(hb:Binds K fd ["_law_purse_here","_law_many"] []):aw P w K mg base "_law_order" 2 (dz aR vw K):=by
 have nd:=xu.nd
 refine iy F xu hm hb (λxs qs T ⟨_,_,_,_,_,e,_⟩=>by rw [e];rfl) (λcdv A outer s H E a b st qs T hr hS=>?_)
 obtain ⟨n,m,hP,n0,n1,rfl,hm,rfl⟩:=hS
 change WS _ _ [.ob (aR.bx a b st),.im ab (m:Int),.no,.no] _ _
 refine ah (cS 2 (r:=ab) (aY bu (by decide)) ?_)
 refine ah (cK (r:=ab) (λi Γ=>∃v3,Γ=[.ob (aR.bx a b (bX st i).1),.im ab (m:Int),.mu ab (bX st i).2,v3])
  (cW M.range (aa 1 rfl) ⟨by omega,by omega⟩) (aA 3) ⟨_,rfl⟩ ?_ ?_)
 ·rintro i x Γ hx ⟨v3,rfl⟩
  obtain ⟨hi,rfl⟩:=fj hx
  obtain ⟨hP1,hX⟩:=fK hP i (by omega)
  have hl:=hX.len
  have e0:(0:Int) + (i:Int)=(i:Int):=by omega
  have hb1:0<=dP (bX st i).1 ((i:Int) + 1)/\dP (bX st i).1 ((i:Int) + 1) < (i:Int) + 1:=by
   unfold dP;split<;>exact ⟨Int.emod_nonneg _ (by omega),Int.emod_lt_of_pos _ (by omega)⟩
  refine ak (pU 2 (k:=dP (bX st i).1 ((i:Int) + 1)) (bJ 0 (st:=e9 (bX st i).1 ((i:Int) + 1)) CD hr (af (EV.cast (y':=(i:Int) + 1) (cB (aa 3 rfl) au) (by omega)) ao) rfl rfl ⟨_,hP1.mono (by omega),rfl,by omega,by omega,rfl⟩) (EV.cast (y':=(i:Int)) (aa 3 rfl) e0) rfl rfl hb1.1 (by omega) (Nat.lt_of_le_of_lt (show (bX st i).2.length<=1000 by omega) (by decide)) ?_)
  exact ⟨_,rfl⟩
 ·rintro Γ ⟨v3,rfl⟩
  rw [av]
  obtain ⟨hP1,hX⟩:=fK hP m (by omega)
  have hl:=hX.len
  rw [show ((m:Int)).toNat=m by omega]
  exact ak (fX 0 (B:=aR) (iB 2 rfl (aV (by omega))) rfl ⟨rfl,rfl⟩)
end
section
variable {i:Nat}{loose:Bool}{od:List Int}{rows:List (Int×Int)}{α:Type}{y:α}{xs:List α}{x:Int}
theorem mY {k:Nat}(h:i < k)(hk:k<=xs.length):(bU k y xs)[i]?=xs[i]?:=by
 unfold bU
 rw [List.getElem?_append_left (by rw [List.length_take];omega),List.getElem?_take_of_lt h]
theorem ni {k:Nat}(hk:k<=xs.length):(bU k y xs)[k]?=some y:=by
 unfold bU
 rw [List.getElem?_append_right (by rw [List.length_take];omega),List.length_take,Nat.min_eq_left hk,Nat.sub_self];rfl
theorem nj {k:Nat}(h:k<=i)(hk:k<=xs.length):(bU k y xs)[i + 1]?=xs[i]?:=by
 unfold bU
 rw [List.getElem?_append_right (by rw [List.length_take];omega),List.length_take,Nat.min_eq_left hk,show i + 1 - k=(i - k) + 1 by omega,List.getElem?_cons_succ,List.getElem?_drop]
 congr 1;omega
structure d7 (loose:Bool) (od:List Int) (rows:List (Int×Int)):Prop where
 pm:gL od.length od
 l2:2<=od.length
 first:od[0]?=some 0
 last:od[od.length - 1]?=some 1
 good:dw od.length rows
 up:loose=true->∀t∈rows,∃(i j:Nat),od[i]?=some t.1/\od[j]?=some t.2/\i < j
theorem d7.base (loose:Bool):d7 loose [0,1] [(0,1)]:=by
 refine ⟨⟨rfl,by decide,λk=>by simp;omega⟩,by decide,rfl,rfl,⟨by decide,λt ht=>?_,λk k0 k1=>?_,λk k0 k1=>?_⟩,λ_ t ht=>?_⟩
 ·rw [List.mem_singleton.mp ht];decide
 ·have k1:k < 2:=k1
  rcases (show k=0∨k=1 by omega) with rfl | rfl
  ·exact .base
  ·exact .step .base (by simp)
 ·have k1:k < 2:=k1
  rcases (show k=0∨k=1 by omega) with rfl | rfl
  ·exact .step (a:=1) .base (by simp [jZ])
  ·exact .base
 ·rw [List.mem_singleton.mp ht];exact ⟨0,1,rfl,rfl,by decide⟩
theorem d7.ne1 (h:d7 loose od rows)(hi:od[i]?=some x)(hl:i + 1 < od.length):x≠1:=λe=>by
 subst e
 have a:=(List.getElem?_eq_some_iff.mp hi)
 have b:=(List.getElem?_eq_some_iff.mp h.last)
 have:=(List.getElem_inj (h₀:=a.1) (h₁:=b.1) h.pm.nd).mp (a.2.trans b.2.symm)
 omega
theorem d7.bd (h:d7 loose od rows)(hi:od[i]?=some x):0<=x/\x < (od.length:Int):=(h.pm.mem x).mp (List.mem_of_getElem? hi)
theorem d7.more (h:d7 loose od rows){j:Nat}{y:Int}(hi:od[i]?=some x)(hj:od[j]?=some y)(hl:i + 1 < od.length)(hij:loose=true->i < j):d7 loose od (rows++[(x,y)]):=by
 have bx:=h.bd hi
 have by_:=h.bd hj
 refine ⟨h.pm,h.l2,h.first,h.last,h.good.more bx.1 bx.2 (h.ne1 hi hl) by_.1 by_.2,λe t ht=>?_⟩
 rcases List.mem_append.mp ht with z | z
 ·exact h.up e t z
 ·rw [List.mem_singleton.mp z];exact ⟨i,j,hi,hj,hij e⟩
theorem d7.split {loose:Bool}{od:List Int}{rows:List (Int×Int)}(h:d7 loose od rows){r q:Nat}{x y:Int}(hr:rows[r]?=some (x,y))(q0:1<=q)(q1:q + 1<=od.length)(hq:loose=true->∃(i j:Nat),od[i]?=some x/\od[j]?=some y/\i < q/\q<=j):
 d7 loose (bU q (od.length:Int) od) (rows.set r (x,(od.length:Int))++[((od.length:Int),y)]):=by
 have ln:(bU q (od.length:Int) od).length=od.length + 1:=by rw [gB.length_eq];rfl
 have l2:=h.l2
 have sh:∀{i:Nat} {z:Int},od[i]?=some z->(bU q (od.length:Int) od)[if i < q then i else i + 1]?=some z:=λ{i z} hi=>by
  split
  ·rename_i hl;rw [mY hl (by omega)];exact hi
  ·rename_i hl;rw [nj (by omega) (by omega)];exact hi
 refine ⟨by rw [ln];exact h.pm.ins q,by omega,by rw [mY (by omega) (by omega)];exact h.first,?_,by rw [ln];exact h.good.split hr,λe t ht=>?_⟩
 ·rw [ln,show od.length + 1 - 1=(od.length - 1) + 1 by omega,nj (by omega) (by omega)];exact h.last
 ·obtain ⟨i,j,hi,hj,iq,qj⟩:=hq e
  rcases List.mem_append.mp ht with z | z
  ·rcases List.mem_or_eq_of_mem_set z with z | z
   ·obtain ⟨i',j',a,b,c⟩:=h.up e t z
    exact ⟨_,_,sh a,sh b,by split<;>split<;>omega⟩
   ·rw [z];exact ⟨_,q,sh hi,ni (by omega),by rw [if_pos iq];exact iq⟩
  ·rw [List.mem_singleton.mp z]
   exact ⟨q,_,ni (by omega),sh hj,by rw [if_neg (by omega)];omega⟩
structure iD (loose:Bool) (m:Nat) (size:Int) (ties:List (Int×Int)):Prop where
 good:dw size ties
 le:size<=16
 len:ties.length=m + 1
 up:loose=true->∃rk:Int->Int,∀t∈ties,rk t.1 < rk t.2
def eT (names:List Int)(k:Int):Int:=names.getD k.toNat 0
theorem d7.fin (h:d7 loose od rows){xs:List Int}(hx:gL (od.length - 2) xs)(h16:od.length<=16){m:Nat}(hm:rows.length=m + 1):iD loose m od.length (rows.map λ(t:Int×Int)=>(eT ([0,1]++xs.map (2 + ·)) t.1,eT ([0,1]++xs.map (2 + ·)) t.2)):=by
 have l2:=h.l2
 have hl:=hx.len
 have n0:eT ([0,1]++xs.map (2 + ·)) 0=0:=rfl
 have n1:eT ([0,1]++xs.map (2 + ·)) 1=1:=rfl
 have n2:∀k:Nat,k < xs.length->eT ([0,1]++xs.map (2 + ·)) ((k:Int) + 2)=2 + xs.getD k 0:=λk hk=>by
  unfold eT
  rw [show ((k:Int) + 2).toNat=k + 2 by omega]
  show ((xs.map (2 + ·)).getD k 0)=_
  rw [List.getD_eq_getElem?_getD,List.getD_eq_getElem?_getD,List.getElem?_map,List.getElem?_eq_getElem hk];rfl
 have xb:∀k:Nat,k < xs.length->0<=xs.getD k 0/\xs.getD k 0 < ((od.length - 2:Nat):Int):=λk hk=>(hx.mem _).mp (by rw [List.getD_eq_getElem?_getD,List.getElem?_eq_getElem hk];exact List.getElem_mem _)
 have cs:∀k:Int,0<=k->k < (od.length:Int)->k=0∨k=1∨∃j:Nat,j < xs.length/\k=(j:Int) + 2:=λk k0 k1=>by
  rcases (show k=0∨k=1∨2<=k by omega) with z | z | z
  ·exact .inl z
  ·exact .inr (.inl z)
  ·exact .inr (.inr ⟨(k - 2).toNat,by omega,by omega⟩)
 have inj:∀k j:Int,0<=k->k < (od.length:Int)->0<=j->j < (od.length:Int)->eT ([0,1]++xs.map (2 + ·)) k=eT ([0,1]++xs.map (2 + ·)) j->k=j:=by
  intro k j k0 k1 j0 j1 e
  rcases cs k k0 k1 with rfl | rfl | ⟨a,ha,rfl⟩<;>rcases cs j j0 j1 with rfl | rfl | ⟨b,hb,rfl⟩<;>simp only [n0,n1] at e<;>try rfl
  ·exact absurd e (by decide)
  ·rw [n2 b hb] at e;have:=xb b hb;omega
  ·exact absurd e (by decide)
  ·rw [n2 b hb] at e;have:=xb b hb;omega
  ·rw [n2 a ha] at e;have:=xb a ha;omega
  ·rw [n2 a ha] at e;have:=xb a ha;omega
  ·rw [n2 a ha,n2 b hb] at e
   have e:xs.getD a 0=xs.getD b 0:=by omega
   rw [List.getD_eq_getElem?_getD,List.getD_eq_getElem?_getD,List.getElem?_eq_getElem ha,List.getElem?_eq_getElem hb] at e
   have:=(List.getElem_inj (h₀:=ha) (h₁:=hb) hx.nd).mp e
   omega
 refine ⟨h.good.ren (λk k0 k1=>?_) (λk k0 k1=>?_) n0 n1 (λk k0 k1 e=>inj k 1 k0 k1 (by omega) (by omega) (by rw [e,n1])),by omega,by rw [List.length_map];exact hm,λe=>?_⟩
 ·rcases cs k k0 k1 with rfl | rfl | ⟨a,ha,rfl⟩
  ·rw [n0];omega
  ·rw [n1];omega
  ·rw [n2 a ha];have:=xb a ha;omega
 ·rcases cs k k0 k1 with rfl | rfl | ⟨a,ha,rfl⟩
  ·exact ⟨0,by omega,by omega,n0⟩
  ·exact ⟨1,by omega,by omega,n1⟩
  ·have:(a:Int)∈xs:=(hx.mem _).mpr (by omega)
   obtain ⟨j,hj,e⟩:=List.mem_iff_getElem.mp this
   refine ⟨(j:Int) + 2,by omega,by omega,?_⟩
   rw [n2 j hj,List.getD_eq_getElem?_getD,List.getElem?_eq_getElem hj]
   show 2 + xs[j]=_
   omega
 ·classical
  -- the rank of a name:where the place stands in the order
  let g:=eT ([0,1]++xs.map (2 + ·))
  refine ⟨λz=>if hz:∃k:Int,0<=k/\k < (od.length:Int)/\g k=z then ((od.idxOf hz.choose:Nat):Int) else 0,λt ht=>?_⟩
  obtain ⟨u,hu,rfl⟩:=List.mem_map.mp ht
  have b:=h.good.bd u hu
  obtain ⟨i,j,hi,hj,hij⟩:=h.up e u hu
  have rk:∀k:Int,0<=k->k < (od.length:Int)->∀n:Nat,od[n]?=some k->(if hz:∃k':Int,0<=k'/\k' < (od.length:Int)/\g k'=g k then ((od.idxOf hz.choose:Nat):Int) else 0)=n:=by
   intro k k0 k1 n hn
   have hz:∃k':Int,0<=k'/\k' < (od.length:Int)/\g k'=g k:=⟨k,k0,k1,rfl⟩
   rw [dif_pos hz]
   have hc:=hz.choose_spec
   have:hz.choose=k:=inj _ _ hc.1 hc.2.1 k0 k1 hc.2.2
   rw [this]
   have nl:=(List.getElem?_eq_some_iff.mp hn)
   have:=List.Nodup.idxOf_getElem h.pm.nd n nl.1
   rw [nl.2] at this
   rw [this]
  show (if hz:_ then _ else _) < (if hz:_ then _ else _)
  rw [rk u.1 b.1 b.2.1 i hi,rk u.2 b.2.2.2.1 b.2.2.2.2 j hj]
  omega
end
section
variable {P:Program}{w:World}{K:PySem.W.Frag}{mg:Str->Option Value}{base:Heap}{f:Addr}{fd:FuncData}
abbrev ir:Stmt:=top m7
abbrev sA:List Str:=["_law_purse_here","_law_many","_law_loose","_law_order_here","_law_rows","_law_k","_law_size","_law_at","_law_one","_law_other","_law_low","_law_names"]
theorem xC:ax sA ["_law_purse_here","_law_many","_law_loose"] (ag ir):=⟨rfl,rfl,rfl,by decide +kernel,rfl,by decide +kernel,by decide +kernel⟩
def Bd:iC Pu:=λK s ps T=>∃(n:Int) (m:Nat) (loose:Bool),cu n s/\n<=10000/\ps=[⟨ab,(m:Int)⟩,⟨aF,loose⟩]/\m<=30/\T=λs'=>bG K (az ab (ae (dW ab))) λz=>cu (n + 200) s'/\iD loose m z.1 z.2
theorem z4 (M:bP mg)(CD:aw P w K mg base "_law_draw" 1 (dz aR lO K))(CO:aw P w K mg base "_law_order" 2 (dz aR vw K))(F:bz K "_law_part" "_law_part" ir f fd)(hm:mg "_law_part"=some (.ref f))(hb:Binds K fd ["_law_purse_here","_law_many","_law_loose"] []):aw P w K mg base "_law_part" 3 (dz aR Bd K):=by
 have nd:=xC.nd
 have nd1:List.Nodup [("_law_place":Str)]:=by decide
 have nd2:List.Nodup [("_law_one":Str),"_law_other","_law_names"]:=by decide
 have CD:=CD.mono (show 1<=2 by decide)
 refine iy F xC hm hb (λxs qs T ⟨_,_,_,_,_,e,_⟩=>by rw [e];rfl) (λcdv A outer s H E a b st qs T hr hS=>?_)
 obtain ⟨n,m,loose,hP,n1,rfl,hm,rfl⟩:=hS
 have hu:(A.deeper (envOfC "_law_part" (ag ir) s.heap.objs.size f cdv)).units + 1 < cLine:=Nat.lt_of_le_of_lt (Nat.add_le_add_left (by decide:1<=64) _) hr.units
 have n0:0<=n:=Int.le_trans hP.t0 hP.t1
 change WS _ _ [.ob (aR.bx a b st),.im ab (m:Int),.im aF loose,.no,.no,.no,.no,.no,.no,.no,.no,.no] _ _
 refine ah (cS 3 (r:=ab) (aY (aJ au (aJ au bu)) (by show 2<=sizeLine;decide)) ?_)
 refine ah (cS 4 (r:=dW ab) (aY (aJ (EV.two (aU.im (aY (aJ au (aJ au bu)) (by show 2<=sizeLine;decide)))) bu) (by show 1<=sizeLine;decide)) ?_)
 refine ah (cK (r:=ab) (λi Γ=>∃st od rows v5 v6 v7 v8 v9 v10,Γ=[.ob (aR.bx a b st),.im ab (m:Int),.im aF loose,.mu ab od,.mu (dW ab) rows,v5,v6,v7,v8,v9,v10,.no]/\cu (n + 4 * i) st/\d7 loose od rows/\rows.length=i + 1/\od.length<=16)
  (cW M.range (aa 1 rfl) ⟨by omega,by omega⟩) (aA 5) ⟨st,[0,1],[(0,1)],_,_,_,_,_,_,rfl,hP.mono (by omega),d7.base loose,rfl,by decide⟩ ?_ ?_)
 ·rintro i x Γ hx ⟨st,od,rows,v5,v6,v7,v8,v9,v10,rfl,hP,hO,hlen,h16⟩
  obtain ⟨hi,rfl⟩:=fj hx
  have l2:=hO.l2
  have zz:∀{k:Nat},k<=1000->k < sizeLine:=λh=>Nat.lt_of_le_of_lt h (by decide)
  refine ah (aO 6 (fV 3 M.len rfl) ?_)
  have more:∀(st1:Pu),cu (n + 4 * i + 1) st1->WS (d4 d6 P w K mg base sA "_law_part" (ag ir) f cdv A outer s H E).g8
   (match (bY ir).getD 2 (.Pass ⟨0,0,0,0⟩) with | .For _ _ body _ _=>(match body.getD 1 (.Pass ⟨0,0,0,0⟩) with | .If _ _ els _=>els | _=>[]) | _=>[])
   [.ob (aR.bx a b st1),.im ab (m:Int),.im aF loose,.mu ab od,.mu (dW ab) rows,.im ab (0 + (i:Int)),.im ab (od.length:Int),v7,v8,v9,v10,.no]
   (λΓ=>∃st od rows v5 v6 v7 v8 v9 v10,Γ=[.ob (aR.bx a b st),.im ab (m:Int),.im aF loose,.mu ab od,.mu (dW ab) rows,v5,v6,v7,v8,v9,v10,.no]/\cu (n + 4 * ((i + 1:Nat):Int)) st/\d7 loose od rows/\rows.length=i + 1 + 1/\od.length<=16)
   (se K aR a b λs'=>bG K (az ab (ae (dW ab))) λz=>cu (n + 200) s'/\iD loose m z.1 z.2):=by
   intro st1 hP1
   have gt:∀{k:Int},0<=k->k < (od.length:Int)->∃y,od[k.toNat]?=some y:=λk0 k1=>⟨_,List.getElem?_eq_getElem (by omega)⟩
   refine ak (bQ (bh (aa 2 rfl)) (λhl=>?_) (λhl=>?_))
   ·obtain ⟨c,st2,c0,c1,hP2,hS2⟩:=cC hP1 (by omega) (b:=(od.length:Int) - 1) (by omega) (by omega)
    refine ah (aO 10 (bJ 0 CD hr (af (c6 (aa 6 rfl) au) ao) rfl rfl (hS2 _)) ?_)
    obtain ⟨d,st3,d0,d1,hP3,hS3⟩:=cC hP2 (by omega) (b:=(od.length:Int) - 1 - c) (by omega) (by omega)
    obtain ⟨y1,h1⟩:=gt c0 (by omega)
    obtain ⟨y2,h2⟩:=gt (k:=c + 1 + d) (by omega) (by omega)
    refine ak (ei 4 (EV.two (aU.im (aY (aJ (gk 3 (y:=y1) (aa 10 rfl) rfl rfl (by rw [dy c0 (by omega)];exact h1)) (aJ (gk 3 (y:=y2) (cB (cB (aa 10 rfl) au) (bJ 0 CD hr (af (c6 (c6 (aa 6 rfl) au) (aa 10 rfl)) ao) rfl rfl (hS3 _))) rfl rfl (by rw [dy (by omega) (by omega)];exact h2)) bu)) (by show 2<=sizeLine;decide)))) rfl rfl (zz (by omega)) ?_)
    exact ⟨st3,_,_,_,_,_,_,_,_,rfl,hP3.mono (by omega),hO.more h1 h2 (by omega) (λ_=>by omega),by rw [List.length_append];simp;omega,h16⟩
   ·obtain ⟨c,st2,c0,c1,hP2,hS2⟩:=cC hP1 (by omega) (b:=(od.length:Int) - 1) (by omega) (by omega)
    obtain ⟨d,st3,d0,d1,hP3,hS3⟩:=cC hP2 (by omega) (b:=(od.length:Int)) (by omega) (by omega)
    obtain ⟨y1,h1⟩:=gt c0 (by omega)
    obtain ⟨y2,h2⟩:=gt d0 d1
    refine ak (ei 4 (EV.two (aU.im (aY (aJ (gk 3 (y:=y1) (bJ 0 CD hr (af (c6 (aa 6 rfl) au) ao) rfl rfl (hS2 _)) rfl rfl (by rw [dy c0 (by omega)];exact h1)) (aJ (gk 3 (y:=y2) (bJ 0 CD hr (af (aa 6 rfl) ao) rfl rfl (hS3 _)) rfl rfl (by rw [dy d0 (by omega)];exact h2)) bu)) (by show 2<=sizeLine;decide)))) rfl rfl (zz (by omega)) ?_)
    exact ⟨st3,_,_,_,_,_,_,_,_,rfl,hP3.mono (by omega),hO.more h1 h2 (by omega) (λe=>by rw [hl] at e;cases e),by rw [List.length_append];simp;omega,h16⟩
  by_cases hsz:od.length < 16
  ·obtain ⟨c,st1,c0,c1,hP1,hS1⟩:=cC hP (by omega) (b:=2) (by decide) (by decide)
   refine ak (bQ (TW.tv (vK (TV.cast (bj dY (aa 6 rfl) au) (decide_eq_true (by omega))) (tT (bj eG (bJ 0 CD hr (af au ao) rfl rfl (hS1 _)) au)))) (λh=>?_) (λh=>more st1 hP1))
   obtain ⟨k,st2,k0,k1,hP2,hS2⟩:=cC hP1 (by omega) (b:=(rows.length:Int)) (by omega) (by omega)
   refine ah (aO 7 (bJ 0 CD hr (af (fV 4 M.len rfl) ao) rfl rfl (hS2 _)) ?_)
   obtain ⟨t,ht⟩:∃t,rows[k.toNat]?=some t:=⟨_,List.getElem?_eq_getElem (by omega)⟩
   have at1:cO rows k=some t:=by rw [dy k0 (by omega),ht]
   refine ah (A4 (gk 4 (aa 7 rfl) rfl rfl at1) (kB 8 9) ?_)
   -- what comes of either
   have fin:∀(st3:Pu) (q:Nat) v10',cu (n + 4 * i + 3) st3->1<=q->q + 1<=od.length->(loose=true->∃(i j:Nat),od[i]?=some t.1/\od[j]?=some t.2/\i < q/\q<=j)->WS (d4 d6 P w K mg base sA "_law_part" (ag ir) f cdv A outer s H E).g8
    (match (bY ir).getD 2 (.Pass ⟨0,0,0,0⟩) with | .For _ _ body _ _=>(match body.getD 1 (.Pass ⟨0,0,0,0⟩) with | .If _ yes _ _=>yes.drop 3 | _=>[]) | _=>[])
    [.ob (aR.bx a b st3),.im ab (m:Int),.im aF loose,.mu ab (bU q (od.length:Int) od),.mu (dW ab) rows,.im ab (0 + (i:Int)),.im ab (od.length:Int),.im ab k,.im ab t.1,.im ab t.2,v10',.no]
    (λΓ=>∃st od rows v5 v6 v7 v8 v9 v10,Γ=[.ob (aR.bx a b st),.im ab (m:Int),.im aF loose,.mu ab od,.mu (dW ab) rows,v5,v6,v7,v8,v9,v10,.no]/\cu (n + 4 * ((i + 1:Nat):Int)) st/\d7 loose od rows/\rows.length=i + 1 + 1/\od.length<=16)
    (se K aR a b λs'=>bG K (az ab (ae (dW ab))) λz=>cu (n + 200) s'/\iD loose m z.1 z.2):=by
    intro st3 q v10' hP3 q0 q1 hq
    refine ah (kC 4 (j:=k.toNat) (y:=(t.1,(od.length:Int))) (EV.two (aU.im (aY (aJ (aa 8 rfl) (aJ (aa 6 rfl) bu)) (by show 2<=sizeLine;decide)))) (aa 7 rfl) rfl rfl (dS k0 (by omega)) ?_)
    refine ak (ei 4 (y:=((od.length:Int),t.2)) (EV.two (aU.im (aY (aJ (aa 6 rfl) (aJ (aa 9 rfl) bu)) (by show 2<=sizeLine;decide)))) rfl rfl (zz (by rw [List.length_set];omega)) ?_)
    exact ⟨st3,_,_,_,_,_,_,_,_,rfl,hP3.mono (by omega),hO.split (show rows[k.toNat]?=some (t.1,t.2) from ht) q0 q1 hq,by rw [List.length_append,List.length_set];simp;omega,by rw [gB.length_eq];simp;omega⟩
   refine ah (bQ (bh (aa 2 rfl)) (λhl=>?_) (λhl=>?_))
   ·obtain ⟨i1,j1,a1,a2,a3⟩:=hO.up hl t (List.mem_of_getElem? ht)
    have no:∀{i1:Nat} {z:Int},od[i1]?=some z->∀m',m' < i1->od[m']?≠some z:=λ{i1 z} hz m' hm' e=>by
     have q1:=List.getElem?_eq_some_iff.mp hz
     have q2:=List.getElem?_eq_some_iff.mp e
     have:=(List.getElem_inj (h₀:=q2.1) (h₁:=q1.1) hO.pm.nd).mp (q2.2.trans q1.2.symm)
     omega
    have jl:=(List.getElem?_eq_some_iff.mp a2).1
    refine ah (aO 10 (mR 3 hu (aa 8 rfl) rfl rfl a1 (no a1)) ?_)
    obtain ⟨d,st3,d0,d1,hP3,hS3⟩:=cC hP2 (by omega) (b:=(j1:Int) - (i1:Int)) (by omega) (by omega)
    refine ak (pU 3 (k:=(i1:Int) + 1 + d) (cB (cB (aa 10 rfl) au) (bJ 0 CD hr (af (c6 (mR 3 hu (aa 9 rfl) rfl rfl a2 (no a2)) (aa 10 rfl)) ao) rfl rfl (hS3 _))) (aa 6 rfl) rfl rfl (by omega) (by omega) (zz (by omega)) ?_)
    exact fin st3 _ _ (hP3.mono (by omega)) (by omega) (by omega) (λ_=>⟨i1,j1,a1,a2,by omega,by omega⟩)
   ·obtain ⟨d,st3,d0,d1,hP3,hS3⟩:=cC hP2 (by omega) (b:=(od.length:Int) - 1) (by omega) (by omega)
    refine ak (pU 3 (k:=1 + d) (cB au (bJ 0 CD hr (af (c6 (aa 6 rfl) au) ao) rfl rfl (hS3 _))) (aa 6 rfl) rfl rfl (by omega) (by omega) (zz (by omega)) ?_)
    exact fin st3 _ _ (hP3.mono (by omega)) (by omega) (by omega) (λe=>by rw [hl] at e;cases e)
  ·refine ak (bQ (TW.tv (ku (y:=false) (bj dY (aa 6 rfl) au) (λh=>absurd (of_decide_eq_true h) (by omega)))) (λh=>by simp at h) (λh=>more st (hP.mono (by omega))))
 ·rintro Γ ⟨st,od,rows,v5,v6,v7,v8,v9,v10,rfl,hP,hO,hlen,h16⟩
  rw [av,show ((m:Int)).toNat=m by omega] at hP hlen
  have l2:=hO.l2
  obtain ⟨xs,st1,hP1,hX,hS⟩:=oz hP (by omega) (by omega) (m:=od.length - 2) (by omega)
  have xl:=hX.len
  have ec:((od.length - 2:Nat):Int)=(od.length:Int) - 2:=by omega
  have hid:((xs.filter λ_=>true).map λk=>2 + k)=xs.map (2 + ·):=by rw [List.filter_eq_self.mpr (by simp)]
  refine ah (aO 11 (EV.cast (y':=[0,1]++xs.map (2 + ·)) (aU.im (wM (aU.im (aY (aJ au (aJ au bu)) (by show 2<=sizeLine;decide))) (aU.im (aT (own:=["_law_place"]) (fr:=[]) (ix:=[]) (ra:=ab) (rb:=ab) (p:=λ_=>true) (f:=λk=>2 + k) (aM (so:=ag ir) (N0:=sA) rfl rfl (λx h=>aE h) (by decide +kernel)) (aK (bJ 0 CO hr (af (EV.cast (c6 (fV 3 M.len rfl) au) ec.symm) ao) rfl rfl (hS _)))
   (λC s H ex=>aA 0) (λx=>⟨.inr rfl,trivial⟩) (λC s H ex x hx=>bA) (λC s H ex x hx _=>cB au (aa 0 rfl)))) (aV (by rw [List.length_map,List.filter_eq_self.mpr (by simp)];show 2 + _<=_;omega)))) (by rw [hid])) ?_)
  have hnl:(([0,1]++xs.map (2 + ·)).length:Int)=od.length:=by rw [List.length_append,List.length_map];show ((2 + xs.length:Nat):Int)=_;omega
  have hfin:=hO.fin hX h16 hlen
  have hid2:((rows.filter λ_=>true).map λ(t:Int×Int)=>(eT ([0,1]++xs.map (2 + ·)) t.1,eT ([0,1]++xs.map (2 + ·)) t.2))=rows.map λ(t:Int×Int)=>(eT ([0,1]++xs.map (2 + ·)) t.1,eT ([0,1]++xs.map (2 + ·)) t.2):=by rw [List.filter_eq_self.mpr (by simp)]
  have hbd:=hO.good.bd
  generalize [0,1]++xs.map (2 + ·)=names at hnl hfin hid2
  refine ak (fX 0 (B:=aR) (y:=((od.length:Int),rows.map λ(t:Int×Int)=>(eT names t.1,eT names t.2))) (dv (af (fV 3 M.len rfl) (af (EV.cast (aU.im (aT (own:=["_law_one","_law_other"]) (fr:=["_law_names"]) (ix:=[11]) (ra:=dW ab) (rb:=dW ab) (p:=λ_=>true) (f:=λ(t:Int×Int)=>(eT names t.1,eT names t.2)) (aM (so:=ag ir) (N0:=sA) rfl rfl (λx h=>aE h) (by decide +kernel)) (aK (iB 4 rfl (aV (by omega))))
   (λC s H ex=>kB 0 1) (λx=>⟨.inr rfl,.inr rfl,.inl rfl,trivial⟩) (λC s H ex x hx=>bA) (λC s H ex x hx _=>EV.two (aU.im (aY (aJ (bB (aa 2 rfl) (aa 0 rfl) (cz (hbd x hx).1 (by rw [hnl];exact (hbd x hx).2.1))) (aJ (bB (aa 2 rfl) (aa 1 rfl) (cz (hbd x hx).2.2.2.1 (by rw [hnl];exact (hbd x hx).2.2.2.2))) bu)) (by show 2<=sizeLine;decide)))))) hid2) ao))) rfl ⟨hP1.mono (by omega),hfin⟩)
end
end K1
namespace Fc
open PySem PySem.Spec L2
open PyProof.Rows hiding St
def AS:Ent->Prop
 | .no=>True
 | .im _ _=>True
 | _=>False
def gK:Ga->Prop
 | []=>True
 | e::r=>AS e/\gK r
theorem gK.fp:∀{Γ:Ga},gK Γ->∀(i:Nat) (e:Ent),Γ[i]?=some e->∀o,e.fp o=[]
 | e::_,⟨h,_⟩,0,_,q,o=>by
   cases q
   cases e with
   | no=>rfl
   | im _ _=>rfl
   | mu _ _=>exact h.elim
   | di _=>exact h.elim
   | ob _=>exact h.elim
 | _::r,⟨_,h⟩,i + 1,e,q,o=>gK.fp h i e (by simpa using q) o
 | [],_,i,e,q,o=>by simp at q
theorem ai.rebase {K:PySem.W.Frag}{σ:St}{H0 R0 H R:Hp}{Γ:Ga}(E:ai K σ H0 R0 H R Γ)(fl:gK Γ):ai K σ H R H R Γ:=
 ⟨⟨aj.refl _,aj.refl _,E.sub,λ_ _=>rfl⟩,E.ent,(λi e a q w=>by rw [fl.fp i e q] at w;cases w),(λi j e e' a q q' w w'=>by rw [fl.fp i e q] at w;cases w),E.len⟩
def mH (r:Row):List Int:=[r.1,r.2.1,r.2.2.1,r.2.2.2]
section
variable {X:Cx}{Γ Γ1 Γ2 Γ3:Ga}{α β γ δ:Type}{N:Ga->Prop}{T:RT}
variable {as:List Addr}{rs:List Row}{H:Hp}
theorem bL.sZ {H':Hp}(h:bL H as rs)(s:aj H H'):bL H' as rs:=⟨h.1,λi b r h1 h2=>s _ _ (h.2 i b r h1 h2)⟩
theorem bL.snoc (h:bL H as rs){b:Addr}{r:Row}(hb:H b=some (.lst (gN r))):bL H (as++[b]) (rs++[r]):=by
 refine ⟨by rw [List.length_append,List.length_append,h.1];rfl,λi c q h1 h2=>?_⟩
 rcases Nat.lt_or_ge i as.length with hl | hl
 ·rw [List.getElem?_append_left hl] at h1
  rw [List.getElem?_append_left (by rw [← h.1];exact hl)] at h2
  exact h.2 i c q h1 h2
 ·rw [List.getElem?_append_right hl] at h1
  rw [List.getElem?_append_right (by rw [← h.1];exact hl)] at h2
  have e:i - as.length=0:=by
   have:=(List.getElem?_eq_some_iff.mp h1).1
   simp at this;omega
  rw [e] at h1
  rw [← h.1,e] at h2
  simp at h1 h2
  rw [← h1,← h2];exact hb
theorem bL.app (h:bL H as rs):∀{bs:List Addr} {qs:List Row},bL H bs qs->bL H (as++bs) (rs++qs):=by
 intro bs qs g
 refine ⟨by rw [List.length_append,List.length_append,h.1,g.1],λi c q h1 h2=>?_⟩
 rcases Nat.lt_or_ge i as.length with hl | hl
 ·rw [List.getElem?_append_left hl] at h1
  rw [List.getElem?_append_left (by rw [← h.1];exact hl)] at h2
  exact h.2 i c q h1 h2
 ·rw [List.getElem?_append_right hl] at h1
  rw [List.getElem?_append_right (by rw [← h.1];exact hl),← h.1] at h2
  exact g.2 _ c q h1 h2
theorem pd {tg elt:Expr}{scope:Scope}{cl:List (Str×Addr)}{own fr:List Str}{ix:List Nat}{ra:Rep α}{xs:List α}{f:α->Row}{bf:α->Ga->Ga}{J:It}{σ:St}{H0 R0 H1 R1:Hp}{Q:VK}(E1:ai X.K σ H0 R0 H1 R1 Γ1)(src:Src X.K J R1 ra xs)(hz:xs.length<=sizeLine)
 (hb:∀(C:Addr) (s:Shared) (H:Hp) (ex:List Addr),BG (aq X scope cl C (own++fr) s H ex) tg ra bf) (hw:∀x,Wk (bf x (bc own ix Γ1)) (bc own ix Γ1)) (hfl:∀x,gK (bf x (bc own ix Γ1)))
 (he:∀(C:Addr) (s:Shared) (H:Hp) (ex:List Addr) x,x∈xs->aU (aq X scope cl C (own++fr) s H ex) elt (bf x (bc own ix Γ1)) ab (mH (f x)) (bf x (bc own ix Γ1)))
 (q:∀a bs H' R',Ext H1 R1 H' R'->H' a=none->bL H' bs (xs.map f)->bs.Nodup->(∀b∈bs,H1 b=none/\R' b=none)->Q (.ref a) (upd H' a (.lst (bs.map .ref)))):
 ∃W:Nat->Nat->List V->St->Hp->Prop,(∃m,W 0 m [] (cM own ix σ) H1)/\∀i m ys σ' H',W i m ys σ' H'->
  ys.length<=sizeLine/\((J.stop i H'/\∀p,H' p=none->Q (.ref p) (upd H' p (.lst ys)))∨
  (J.go i H'/\∀x H2,J.yld i H' x H2->(λv σ H Q=>∀C s Hh ex,dX (aq X scope cl C (own++fr) s Hh ex) tg v σ H Q:TG) x σ' H2 λσ2 H3=>(λσ H Q=>∀C s Hh ex,eC (aq X scope cl C (own++fr) s Hh ex) [] σ H Q:TT) σ2 H3 λb H4=>
    if b=true then (λσ H Q=>∀C s Hh ex,cN (aq X scope cl C (own++fr) s Hh ex) elt σ H Q:TE) σ2 H4 λv H5=>∃m',m' < m/\W (i + 1) m' (ys++[v]) σ2 H5 else∃m',m' < m/\W (i + 1) m' ys σ2 H4)):=by
 refine ⟨λi m ys σ' H'=>m=xs.length - i/\i<=xs.length/\∃R' bs,ai X.K σ' H1 R1 H' R' (bc own ix Γ1)/\ys=bs.map .ref/\bL H' bs ((xs.take i).map f)/\bs.Nodup/\∀b∈bs,H1 b=none/\R' b=none,⟨_,rfl,Nat.zero_le _,R1,[],jm E1 own ix,rfl,⟨rfl,λi b r h1=>by simp at h1⟩,List.nodup_nil,λb hb=>by cases hb⟩,?_⟩
 rintro i m ys σ' H' ⟨rfl,hle,R',bs,E',rfl,hrs,hnd,hbs⟩
 have hbl:bs.length=i:=by rw [hrs.1,List.length_map,List.length_take];omega
 have hys:(bs.map V.ref).length<=sizeLine:=by rw [List.length_map,hbl];omega
 obtain ⟨sgo,sstop⟩:=src H' R' E'.ext.r E'.sub i
 refine ⟨hys,?_⟩
 by_cases hlt:i < xs.length
 ·obtain ⟨go,yl⟩:=sgo _ (List.getElem?_eq_getElem hlt)
  have hmem:xs[i]∈xs:=List.getElem_mem hlt
  have tk:(xs.take (i + 1))=xs.take i++[xs[i]]:=by rw [List.take_succ,List.getElem?_eq_getElem hlt];rfl
  refine .inr ⟨go,λv H2 hy C s Hh ex=>?_⟩
  obtain ⟨R2,x2,hr⟩:=yl v H2 hy
  refine hb C s Hh ex σ' H1 R1 H2 R2 _ v _ (E'.grow x2) hr _ λσ2 E2=>?_
  intro C s Hh ex
  refine (bA (X:=aq X scope cl C (own++fr) s Hh ex)) σ2 H2 R2 H2 R2 (E2.rebase (hfl _)) _ λH4 R4 E4 s4=>?_
  rw [if_pos rfl]
  intro C s Hh ex
  refine he C s Hh ex _ hmem σ2 H4 R4 H4 R4 (E4.rebase (hfl _)) _ λa vs H5 R5 E5 s5 ha hR h0 off pp hz'=>?_
  have hv:=c9 pp
  subst hv
  have x5:Ext H' R' H5 R5:=x2.trans (E4.ext.trans E5.ext)
  have x25:Ext H2 R2 H5 R5:=E4.ext.trans E5.ext
  have hin:∀b∈bs,H' b≠none:=λb hb=>by
   obtain ⟨r,hr⟩:=hrs.row hb
   rw [hr];exact Option.some_ne_none _
  have hold:∀b∈bs,b≠a:=λb hb e=>by
   have:H4 b≠none:=aj.some (x2.h.trans E4.ext.h) (hin b hb)
   exact this (e▸h0)
  refine ⟨xs.length - (i + 1),by omega,rfl,hlt,R5,bs++[a],(E2.grow x25).weak (hw _),by rw [List.map_append];rfl,?_,?_,λb hb=>?_⟩
  ·rw [tk,List.map_append]
   exact (hrs.sZ x5.h).snoc ha
  ·exact gd hnd λz=>hold a z rfl
  ·rcases List.mem_append.mp hb with z | z
   ·exact ⟨(hbs b z).1,(x5.old b (hin b z)).trans (hbs b z).2⟩
   ·rw [List.mem_singleton.mp z]
    exact ⟨(E'.ext.h.trans (x2.h.trans E4.ext.h)).free h0,hR⟩
 ·have e:i=xs.length:=by omega
  subst e
  rw [List.take_length] at hrs
  exact .inl ⟨sstop (Nat.le_refl _),λa ha=>q a bs H' R' E'.ext ha hrs hnd hbs⟩
theorem rA (i:Nat){y:Str}{py p1 bp spos:Pos}{tg elt iter:Expr}{scope:Scope}{pos:Pos}{cl:List (Str×Addr)}{own fr:List Str}{ix:List Nat}{ra:Rep α}{xs:List α}{f:α->Row}{bf:α->Ga->Ga}{a:Addr}
 (S:cf X scope cl own fr ix) (hit:IV X tg iter Γ ra xs Γ)
 (hb:∀(C:Addr) (s:Shared) (H:Hp) (ex:List Addr),BG (aq X scope cl C (own++fr) s H ex) tg ra bf) (hw:∀x,Wk (bf x (bc own ix Γ)) (bc own ix Γ)) (hfl:∀x,gK (bf x (bc own ix Γ)))
 (he:∀(C:Addr) (s:Shared) (H:Hp) (ex:List Addr) x,x∈xs->aU (aq X scope cl C (own++fr) s H ex) elt (bf x (bc own ix Γ)) ab (mH (f x)) (bf x (bc own ix Γ)))
 (hΓ:Γ[i]?=some (.ob (br a as rs))) (hz:rs.length + xs.length<=sizeLine) (h:∀d bs,N (Γ.set i (.ob (br d (as++bs) (rs++xs.map f)))))
 (hN:X.N.Nodup:=by first | assumption | decide) (hi':X.N[i]?=some y:=by rfl) (hx:Loc X.env.scope y:=by first | exact Or.inl rfl | exact Or.inr rfl) (hv:bT X.env.scope y:=by first | exact Or.inl rfl | exact Or.inr (Or.inl rfl) | exact Or.inr (Or.inr rfl)) (hd:(y==("__debug__":Str))=false:=by decide) (hcd:(y==("__classdict__":Str))=false:=by decide)
 (hsw:swapsWith (.BinOp (.Name y p1) .Add (.ListComp elt [⟨tg,iter,[],0⟩] scope pos) bp) (some (.Name y py)) spos.line X.env=pure false:=by rfl)
 (hc:X.calm=true:=by rfl) (hs:∀x,foldedSetIterable iter X.env x=pure x:=by intro _;rfl) (hf:X.fn y=true∨X.env.scope.names.lookup y=some .local:=by first | exact .inl rfl | exact .inr rfl):
 W1 X (.Assign [.Name y py] (.BinOp (.Name y p1) .Add (.ListComp elt [⟨tg,iter,[],0⟩] scope pos) bp) spos) Γ N T:=λσ H0 R0 H R E D dn dr=>by
 obtain ⟨wi,hi,hit⟩:=hit
 obtain ⟨⟨v,ea,rfl,ha,hr,nd⟩,hR⟩:=E.ent i _ hΓ
 refine sS (fA hN hi' hx (j7 m3 (aP hi' hv hd hcd) (iJ (g:=λv σ H Q=>∀C s Hh ex,dX (aq X scope cl C (own++fr) s Hh ex) tg v σ H Q) (tc:=λσ H Q=>∀C s Hh ex,eC (aq X scope cl C (own++fr) s Hh ex) [] σ H Q) (te:=λσ H Q=>∀C s Hh ex,cN (aq X scope cl C (own++fr) s Hh ex) elt σ H Q) hc S hi
  (λC s H ex=>⟨λpins s1 σ H v u Q I r h=>h C s _ ex pins s1 u I r,λpins s1 σ H Q I h=>h C s _ ex pins s1 I,λpins s1 σ H Q I h=>h C s _ ex pins s1 I⟩) hs)) hsw hf) ⟨.ref a,at_of ea,?_⟩
 refine hit σ H0 R0 H R E _ λJ H1 R1 E1 s1 hz1 src=>pd (Q:=λy H2=>ye (V.ref a) y H2 λx H1=>lZ i x σ H1 D.nx) E1 src hz1 hb hw hfl he λb bs H' R' xx hb0 hrs hnd hbs=>?_
 have E2:=E1.grow xx
 have E3:=E2.grow (Ext.bW E2.sub hb0 (.lst (bs.map .ref)))
 obtain ⟨⟨v3,ea3,rfl,ha3,hr3,nd3⟩,hR3⟩:=E3.ent i _ hΓ
 have hsb:aj H' (upd H' b (.lst (bs.map .ref))):=aj.fresh hb0 _
 have hlen:as.length=rs.length:=hr3.1
 have hlen2:bs.length=xs.length:=by rw [hrs.1,List.length_map]
 refine ⟨a,b,as.map .ref,bs.map .ref,rfl,rfl,ha3,ar,by rw [List.length_map,List.length_map,hlen,hlen2];exact hz,λd hd0=>?_⟩
 have E4:=E3.grow (Ext.bW E3.sub hd0 (.lst (as.map .ref++bs.map .ref)))
 have hsd:aj (upd H' b (.lst (bs.map .ref))) (upd (upd H' b (.lst (bs.map .ref))) d (.lst (as.map .ref++bs.map .ref))):=aj.fresh hd0 _
 have inb:∀c∈bs,H' c≠none:=λc hc=>by
  obtain ⟨r,hr⟩:=hrs.row hc
  rw [hr];exact Option.some_ne_none _
 have ina:∀c∈as,H1 c≠none:=λc hc=>by
  obtain ⟨⟨v,_,_,_,hr1,_⟩,_⟩:=E1.ent i _ hΓ
  obtain ⟨r,hr⟩:=hr1.row hc
  rw [hr];exact Option.some_ne_none _
 have nda:=List.nodup_cons.mp nd3
 have dne:∀c,upd H' b (.lst (bs.map .ref)) c≠none->c≠d:=λc hc e=>hc (e▸hd0)
 have hd1:H' d=none:=hsb.free hd0
 have r4:∀c∈as++bs,upd H' b (.lst (bs.map .ref)) c≠none:=λc hc=>by
  rcases List.mem_append.mp hc with z | z
  ·exact aj.some hsb (aj.some xx.h (ina c z))
  ·exact aj.some hsb (inb c z)
 refine dn _ _ R' _ (E4.setG (v:=.ref d) (en:=.ob (br d (as++bs) (rs++xs.map f))) i ⟨⟨.ref d,rfl,rfl,?_,?_,?_⟩,λc hc=>?_⟩ (λc hc=>?_) λc hc j e hj qj w=>?_) (s1.trans xx.r) (h d bs)
 ·rw [ar,List.map_append]
 ·exact (hr3.sZ hsd).app (hrs.sZ (hsb.trans hsd))
 ·refine List.nodup_cons.mpr ⟨λz=>dne d (r4 d z) rfl,?_⟩
  rw [List.nodup_append]
  refine ⟨nda.2,hnd,λc hc c' hc' e=>?_⟩
  subst e
  exact ina c hc (hbs c hc').1
 ·rcases List.mem_cons.mp hc with rfl | hc
  ·exact E2.sub.free hd1
  ·rcases List.mem_append.mp hc with z | z
   ·exact hR3 c (List.mem_cons_of_mem _ z)
   ·exact (hbs c z).2
 ·have hc:c∈d::(as++bs):=hc
  rcases List.mem_cons.mp hc with rfl | hc
  ·exact E2.ext.h.free hd1
  ·rcases List.mem_append.mp hc with z | z
   ·exact E3.nw i _ c hΓ (List.mem_cons_of_mem _ z)
   ·exact E1.ext.h.free (hbs c z).1
 ·have hc:c∈d::(as++bs):=hc
  rcases List.mem_cons.mp hc with rfl | hc
  ·exact (Ent.cw (E3.ent j e qj) w).1 hd0
  ·rcases List.mem_append.mp hc with z | z
   ·exact hj (E3.ds j i e _ c qj hΓ w (List.mem_cons_of_mem _ z))
   ·exact (Ent.cw (E1.ent j e qj) w).1 (hbs c z).1
end
section
variable {X:Cx}{Γ Γ1 Γ2 Γ3:Ga}{α β γ δ:Type}{N:Ga->Prop}{T:RT}
theorem ai.zm {K:PySem.W.Frag}{σ:St}{H0 R0 H R H' R':Hp}{i j:Nat}{B C B' C':g9}(hij:i≠j)(E:ai K σ H0 R0 H R Γ)(hΓ:Γ[i]?=some (.ob B))(hΓj:Γ[j]?=some (.ob C))(x:Ext (de H (B.fp++C.fp)) R H' R')(ho:(Ent.ob B').ok K H' R' (σ[i]?).join)(hoj:(Ent.ob C').ok K H' R' (σ[j]?).join)(hfp:∀b∈B'.fp,b∈B.fp)(hfpj:∀b∈C'.fp,b∈C.fp):ai K σ H0 R0 H' R' ((Γ.set i (.ob B')).set j (.ob C')):=by
 have h0:∀b∈B.fp++C.fp,H0 b=none:=λb hb=>by
  rcases List.mem_append.mp hb with z | z
  ·exact E.nw i _ b hΓ z
  ·exact E.nw j _ b hΓj z
 have out:∀{b:Addr},H0 b≠none->b∉B.fp++C.fp:=λh e=>h (h0 _ e)
 have apart:∀(k:Nat) (e:Ent),k≠i->k≠j->Γ[k]?=some e->∀b∈e.fp (σ[k]?).join,b∉B.fp++C.fp:=λk e hi hj qk b hb w=>by
  rcases List.mem_append.mp w with z | z
  ·exact hi (E.ds k i e _ b qk hΓ hb z)
  ·exact hj (E.ds k j e _ b qk hΓj hb z)
 have key:∀(k:Nat) (e:Ent),((Γ.set i (.ob B')).set j (.ob C'))[k]?=some e->(k=j/\e= .ob C')∨(k=i/\e= .ob B')∨(k≠i/\k≠j/\Γ[k]?=some e):=λk e q=>by
  rcases set_at q with ⟨rfl,rfl,_⟩ | ⟨hk,q1⟩
  ·exact .inl ⟨rfl,rfl⟩
  ·rcases set_at q1 with ⟨rfl,rfl,_⟩ | ⟨hk2,q2⟩
   ·exact .inr (.inl ⟨rfl,rfl⟩)
   ·exact .inr (.inr ⟨hk2,hk,q2⟩)
 refine ⟨⟨λb o q=>?_,E.ext.r.trans x.r,x.s,λb hb=>?_⟩,λk e q=>?_,λk e b q w=>?_,λk l e e' b q q' w w'=>?_,by rw [List.length_set,List.length_set];exact E.len⟩
 ·exact x.h b o (by rw [cY (out (by rw [q];exact Option.some_ne_none _))];exact E.ext.h b o q)
 ·refine (x.old b ?_).trans (E.ext.old b hb)
  rw [cY (out hb)];exact aj.some E.ext.h hb
 ·rcases key k e q with ⟨rfl,rfl⟩ | ⟨rfl,rfl⟩ | ⟨hi,hj,q1⟩
  ·exact hoj
  ·exact ho
  ·have h1:=E.ent k e q1
   refine h1.loc (λb hb=>?_) x.r λb hb=>?_
   ·cases e2:H b with
    | none=>exact absurd e2 (Ent.cw h1 hb).1
    | some u=>exact x.h b u (by rw [cY (apart k e hi hj q1 b hb)];exact e2)
   ·exact (x.old b (by rw [cY (apart k e hi hj q1 b hb)];exact (Ent.cw h1 hb).1)).trans (Ent.cw h1 hb).2
 ·rcases key k e q with ⟨rfl,rfl⟩ | ⟨rfl,rfl⟩ | ⟨hi,hj,q1⟩
  ·exact h0 b (List.mem_append_right _ (hfpj b w))
  ·exact h0 b (List.mem_append_left _ (hfp b w))
  ·exact E.nw k e b q1 w
 ·rcases key k e q with ⟨rfl,rfl⟩ | ⟨rfl,rfl⟩ | ⟨hi,hj,q1⟩<;>rcases key l e' q' with ⟨rfl,rfl⟩ | ⟨rfl,rfl⟩ | ⟨hi',hj',q1'⟩
  ·rfl
  ·exact E.ds _ _ _ _ b hΓj hΓ (hfpj b w) (hfp b w')
  ·exact absurd (List.mem_append_right _ (hfpj b w)) (apart l e' hi' hj' q1' b w')
  ·exact E.ds _ _ _ _ b hΓ hΓj (hfp b w) (hfpj b w')
  ·rfl
  ·exact absurd (List.mem_append_left _ (hfp b w)) (apart l e' hi' hj' q1' b w')
  ·exact absurd (List.mem_append_right _ (hfpj b w')) (apart k e hi hj q1 b w)
  ·exact absurd (List.mem_append_left _ (hfp b w')) (apart k e hi hj q1 b w)
  ·exact E.ds _ _ _ _ b q1 q1' w w'
abbrev pN:=PySem.W.Frag->Pu->List Row->List Pk->(Pu->List Row->RT)->Prop
def pM (S:pN)(K:PySem.W.Frag):Sp:=λvs H Q _=>∃R a b s c cs rs vs' ps T,vs= .ref a:: .ref c::vs'/\aj R H/\(∀x∈[a,b]++(c::cs),R x=none)/\(u4 a b s).R K H R (.ref a)/\(br c cs rs).R K H R (.ref c)/\(∀x∈[a,b],x∉c::cs)/\fM K R vs' ps/\S K s rs ps T/\
 ∀v H' R' s' rs',Ext (de H ([a,b]++(c::cs))) R H' R'->(u4 a b s').R K H' R' (.ref a)->(br c cs rs').R K H' R' (.ref c)->(∀x∈[a,b]++(c::cs),R' x=none)->T s' rs' (de H ([a,b]++(c::cs))) v H' R'->Q v H'
theorem uz (i j:Nat){S:pN}{x y z:Str}{k:Nat}{es:List Expr}{p p1 p2 p3 pos:Pos}{ps:List Pk}{a b c:Addr}{s:Pu}{cs:List Addr}{rs:List Row}{Pd:Pu->List Row->Prop}(C:aw X.prog X.w X.K X.mg X.base x k (pM S X.K))(hr:bt k X.A)(hij:i≠j)(ha:HA X es Γ ps Γ)(hΓ:Γ[i]?=some (.ob (aR.bx a b s)))(hΓj:Γ[j]?=some (.ob (br c cs rs)))(hS:S X.K s rs ps (λs' rs'=>bG X.K kG λ_=>Pd s' rs'))(h:∀s' rs',Pd s' rs'->N ((Γ.set i (.ob (aR.bx a b s'))).set j (.ob (br c cs rs'))))
 (hg:Gl X x:=by rfl) (hdb:(x==("__debug__":Str))=false:=by decide) (he:starEach (.Name y p1:: .Name z p2::es) X.env=(false,eval (.Name y p1) X.env)::starEach (.Name z p2::es) X.env:=by rfl) (he2:starEach (.Name z p2::es) X.env=(false,eval (.Name z p2) X.env)::starEach es X.env:=by rfl) (hpl:(backTo p3 (starEach (.Name z p2::es) X.env)).any (·.1)=false:=by rfl)
 (hN:X.N[i]?=some y:=by rfl) (hv:bT X.env.scope y:=by first | exact Or.inl rfl | exact Or.inr (Or.inl rfl) | exact Or.inr (Or.inr rfl)) (hd:(y==("__debug__":Str))=false:=by decide) (hcd:(y==("__classdict__":Str))=false:=by decide)
 (hNj:X.N[j]?=some z:=by rfl) (hvj:bT X.env.scope z:=by first | exact Or.inl rfl | exact Or.inr (Or.inl rfl) | exact Or.inr (Or.inr rfl)) (hdj:(z==("__debug__":Str))=false:=by decide) (hcdj:(z==("__classdict__":Str))=false:=by decide)
 (hsw:swapsWith (.Call (.Name x p) (.Name y p1:: .Name z p2::es) [] p3) none pos.line X.env=pure false:=by rfl):W1 X (.Expr (.Call (.Name x p) (.Name y p1:: .Name z p2::es) [] p3) pos) Γ N T:=λσ H0 R0 H R E D dn dr=>by
 obtain ⟨f,fd,pn,F,hm,hk,hb⟩:=C.ex
 obtain ⟨ea,_,_⟩:=cP (E.ent i _ hΓ)
 obtain ⟨⟨vc,ec,rfl,_,_,_⟩,_⟩:=E.ent j _ hΓj
 refine sS (eu (kU F hr hg hm hk hb .nil pO (aQ (aP hN hv hd hcd) (aQ (aP hNj hvj hdj hcdj) lN he2) he) hdb he hpl) hsw) ⟨.ref a,at_of ea,.ref c,at_of ec,ha σ H0 R0 H R E _ λus H1 R1 E1 s1 p1=>?_⟩
 obtain ⟨ea1,hB,hRa,hRb⟩:=cP (E1.ent i _ hΓ)
 obtain ⟨⟨vc1,ec1,rfl,hc1,hc2,hc3⟩,hRc⟩:=E1.ent j _ hΓj
 have dis:∀x∈[a,b],x∉c::cs:=λx hx w=>hij (E1.ds i j _ _ x hΓ hΓj hx w)
 refine ⟨R1,a,b,s,c,cs,rs,us,ps,_,by rw [List.append_nil],E1.sub,λx hx=>?_,hB,⟨rfl,hc1,hc2,hc3⟩,dis,p1,hS,λv H' R' s' rs' xx hB' hC' hR' t=>?_⟩
 ·rcases List.mem_append.mp hx with w | w
  ·rcases List.mem_cons.mp w with rfl | w
   ·exact hRa
   ·rw [List.mem_singleton.mp w];exact hRb
  ·exact hRc x w
 ·obtain ⟨_,_,hP⟩:=t
  refine dn σ H' R' _ (E1.zm (B':=aR.bx a b s') (C':=br c cs rs') hij hΓ hΓj xx ?_ ?_ (λc hc=>hc) λc hc=>hc) (s1.trans xx.r) (h s' rs' hP)
  ·rw [ea1];exact fJ (B:=aR) hB' (hR' a (by simp)) (hR' b (by simp))
  ·rw [ec1];exact ⟨⟨.ref c,rfl,hC'⟩,λx hx=>hR' x (List.mem_append_right _ hx)⟩
variable {P:Program}{w:World}{K:PySem.W.Frag}{mg:Str->Option Value}{base:Heap}
theorem nU {K:PySem.W.Frag}{R H:Hp}{a b c:Addr}{st:Pu}{cs:List Addr}{rs:List Row}{vs:List V}{ps:List Pk}{N:List Str}(s:aj R H)(hR:∀x∈[a,b]++(c::cs),R x=none)(hB:(u4 a b st).R K H R (.ref a))(hC:(br c cs rs).R K H R (.ref c))(dis:∀x∈[a,b],x∉c::cs)(p:fM K R vs ps)(hl:ps.length + 2<=N.length):
 ai K (L2.start N (.ref a:: .ref c::vs)) (de H ([a,b]++(c::cs))) R H R (.ob (aR.bx a b st):: .ob (br c cs rs)::df ps (N.length - 2)):=by
 obtain ⟨n0,n1,N',rfl⟩:∃n0 n1 N',N=n0::n1::N':=by
  match N,hl with
  | [],h=>exact absurd h (by simp)
  | [_],h=>exact absurd h (by simp)
  | n0::n1::N',_=>exact ⟨n0,n1,N',rfl⟩
 have hl':ps.length<=N'.length:=by simpa using hl
 have E0:=eQ (N:=N') s p hl'
 have es:L2.start (n0::n1::N') (.ref a:: .ref c::vs)=some (.ref a)::some (.ref c)::L2.start N' vs:=by unfold L2.start;simp
 rw [es]
 have noown:∀(i:Nat) (e:Ent) (o:Option V),(df ps N'.length)[i]?=some e->e.fp o=[]:=λi e o q=>by
  unfold df at q
  rcases List.mem_append.mp (List.mem_of_getElem? q) with z | z
  ·obtain ⟨p,_,rfl⟩:=List.mem_map.mp z;rfl
  ·obtain ⟨_,rfl⟩:=List.mem_replicate.mp z;rfl
 have ha:=hR a (by simp)
 have hb:=hR b (by simp)
 have key:∀(i:Nat) (e:Ent),(Ent.ob (aR.bx a b st)::Ent.ob (br c cs rs)::df ps (n0::n1::N').length.pred.pred)[i]?=some e->(i=0/\e= .ob (aR.bx a b st))∨(i=1/\e= .ob (br c cs rs))∨∃i',i=i' + 2/\(df ps N'.length)[i']?=some e:=by
  intro i e q
  match i,q with
  | 0,q=>simp at q;exact .inl ⟨rfl,q.symm⟩
  | 1,q=>simp at q;exact .inr (.inl ⟨rfl,q.symm⟩)
  | i + 2,q=>exact .inr (.inr ⟨i,rfl,by simpa using q⟩)
 refine ⟨⟨i3,aj.refl _,s,λ_ _=>rfl⟩,λi e q=>?_,λi e d q w=>?_,λi j e e' d q q' w w'=>?_,?_⟩
 ·rcases key i e q with ⟨rfl,rfl⟩ | ⟨rfl,rfl⟩ | ⟨i',rfl,q1⟩
  ·exact fJ (B:=aR) hB ha hb
  ·exact ⟨⟨.ref c,rfl,hC⟩,λx hx=>hR x (List.mem_append_right _ hx)⟩
  ·simpa using E0.ent i' e q1
 ·rcases key i e q with ⟨rfl,rfl⟩ | ⟨rfl,rfl⟩ | ⟨i',rfl,q1⟩
  ·exact f7 (List.mem_append_left _ w)
  ·exact f7 (List.mem_append_right _ w)
  ·rw [noown i' e _ q1] at w;cases w
 ·rcases key i e q with ⟨rfl,rfl⟩ | ⟨rfl,rfl⟩ | ⟨i',rfl,q1⟩
  ·rcases key j e' q' with ⟨rfl,rfl⟩ | ⟨rfl,rfl⟩ | ⟨j',rfl,q1'⟩
   ·rfl
   ·exact absurd w' (dis d w)
   ·rw [noown j' e' _ q1'] at w';cases w'
  ·rcases key j e' q' with ⟨rfl,rfl⟩ | ⟨rfl,rfl⟩ | ⟨j',rfl,q1'⟩
   ·exact absurd w (dis d w')
   ·rfl
   ·rw [noown j' e' _ q1'] at w';cases w'
  ·rw [noown i' e _ q1] at w;cases w
 ·have:=E0.len
  simp [this]
theorem w4 {S:pN}{x qual:Str}{st:Stmt}{f:Addr}{fd:FuncData}{N ps:List Str}{k:Nat}(F:bz K x qual st f fd)(Sc:ax N ps (ag st))(hm:mg x=some (.ref f))(hb:Binds K fd ps [])(len:∀s rs qs T,S K s rs qs T->qs.length + 2=ps.length)
 (hbody:∀(cdv:Value) (A:Around) (outer:List Env) (s:Shared) (H:Hp) (E:XK) (a b c:Addr) (cs:List Addr) (u:Pu) (rs:List Row) (qs:List Pk) (T:Pu->List Row->RT),bt k (A.deeper (envOfC qual (ag st) s.heap.objs.size f cdv))->S K u rs qs T->
  WS (d4 d6 P w K mg base N qual (ag st) f cdv A outer s H E).g8 (bY st) (.ob (aR.bx a b u):: .ob (br c cs rs)::df qs (N.length - 2)) (λΓ=>∃u' rs',Γ[0]?=some (.ob (aR.bx a b u'))/\Γ[1]?=some (.ob (br c cs rs'))/\∀H0 H' R',T u' rs' H0 .non H' R') (λ_ _ _ _=>False)):aw P w K mg base x (k + 1) (pM S K):=by
 refine ⟨f,fd,ps,?_,hm,F.kp,hb⟩
 refine F.ok Sc (λvs H Q E h=>?_) (λcdv A outer s H vs Q E hr h=>?_)
 ·obtain ⟨R,a,b,u,c,cs,rs,vs',qs,T,rfl,_,_,_,_,_,p,hS,_⟩:=h
  rw [List.length_cons,List.length_cons,p.length];exact len u rs qs T hS
 ·obtain ⟨R,a,b,u,c,cs,rs,vs',qs,T,rfl,sR,hR,hB,hC,dis,p,hS,q⟩:=h
  have hl:qs.length + 2<=N.length:=by
   rw [len u rs qs T hS]
   have:=congrArg List.length Sc.pre
   rw [List.length_take] at this
   omega
  refine ⟨_,fq,hbody cdv A outer s H E a b c cs u rs qs T hr hS (L2.start N (.ref a:: .ref c::vs')) (de H ([a,b]++(c::cs))) R H R (nU sR hR hB hC dis p hl) {nx:=λ_ H'=>Q .non H',rt:=Q} (λσ' H' R' Γ' E' _ ⟨u',rs',hΓ,hΓ1,t⟩=>?_) λv H' R' xx t=>t.elim⟩
  obtain ⟨ea,hB',hR'⟩:=cP (E'.ent 0 _ hΓ)
  obtain ⟨⟨vc,ec,e2,hc'⟩,hRc⟩:=E'.ent 1 _ hΓ1
  refine q .non H' R' u' rs' E'.ext hB' ⟨rfl,hc'⟩ (λx hx=>?_) (t _ _ _)
  rcases List.mem_append.mp hx with w | w
  ·rcases List.mem_cons.mp w with rfl | w
   ·exact hR'.1
   ·rw [List.mem_singleton.mp w];exact hR'.2
  ·exact hRc x w
theorem gT (i:Nat){x:Str}{e:Expr}{p1 pos:Pos}{a:Addr}{as:List Addr}{rs:List Row}{k:Int}{j:Nat}{b:Addr}(he:EV X e Γ ab k Γ1)(hΓ:Γ[i]?=some (.ob (br a as rs)))(hΓ1:Γ1[i]?=some (.ob (br a as rs)))(hk:eW as.length k=some j)(hb:as[j]?=some b)
 (hN:X.N[i]?=some x:=by rfl) (hv:bT X.env.scope x:=by first | exact Or.inl rfl | exact Or.inr (Or.inl rfl) | exact Or.inr (Or.inr rfl)) (hd:(x==("__debug__":Str))=false:=by decide) (hcd:(x==("__classdict__":Str))=false:=by decide) (hsx:ef e:=by exact λ_ _=>rfl):EV X (.Subscript (.Name x p1) e pos) Γ tV b Γ1:=λσ H0 R0 H R E Q q=>by
 obtain ⟨⟨v,ea,rfl,ha,hr,_⟩,hR⟩:=E.ent i _ hΓ
 refine eS (eZ dM (aP hN hv hd hcd) aD hsx) ⟨.ref a,at_of ea,he σ H0 R0 H R E _ λu H2 R2 E2 s2 e2=>?_⟩
 obtain ⟨⟨v,ea2,e3,ha2,hr2,nd⟩,hR2⟩:=E2.ent i _ hΓ1
 refine ⟨a,_,k,.ref b,rfl,e2,aH.of ha2,?_,q _ H2 R2 E2 s2 rfl⟩
 unfold cO
 rw [List.length_map,hk]
 show (as.map V.ref)[j]?=_
 rw [List.getElem?_map,hb];rfl
theorem Aa {i j:Nat}{a:Addr}{as:List Addr}{rs:List Row}{xs:List Int}(hij:i≠j)(hΓ:Γ[i]?=some (.ob (br a as rs)))(hj:Γ[j]?=some (.mu ab xs))(hz:rs.length<=sizeLine)(hzx:xs.length<=sizeLine)(σ:St)(H0 R0 H R:Hp)(E:ai X.K σ H0 R0 H R Γ):ai X.K σ H H H H (((Γ.map jL).set i (.im (ae eX) rs)).set j (.im (ae ab) xs)):=by
 obtain ⟨⟨v,ea,rfl,ha,hr,nd⟩,hR⟩:=E.ent i _ hΓ
 obtain ⟨b,vs,eb,hb,hRb,pp⟩:=E.ent j _ hj
 have E1:=E.frz.iI (i:=i) (e0:=.no) (en:=.im (ae eX) rs) (by rw [List.getElem?_map,hΓ];rfl) ⟨.ref a,ea,a,_,rfl,ha,fP hr,hz⟩ λb w=>by cases w
 exact E1.iI (i:=j) (e0:=.no) (by rw [List.getElem?_set_ne hij,List.getElem?_map,hj];rfl) ⟨.ref b,eb,b,vs,rfl,hb,Paired.map (λ_ _=>ab.mono E.sub) pp,hzx⟩ λb w=>by cases w
theorem ug {a:Expr}{j:Nat}{p1 pos:Pos}{r:Row}(ha:EV X a Γ eX r Γ1):EV X (.Subscript a (.Constant (.int 0) j p1) pos) Γ ab r.1 Γ1:=λσ H0 R0 H R E Q q=>by
 refine eS (eZ dM aD dq (λ_ _=>rfl)) (ha σ H0 R0 H R E _ λv H1 R1 E1 s1 e1=>?_)
 obtain ⟨b,rfl,hb⟩:=e1
 exact ⟨b,_,0,.int r.1,rfl,rfl,aH.of (E1.sub _ _ hb),rfl,q _ H1 R1 E1 s1 rfl⟩
end
end Fc
namespace Fc
open PySem PySem.Spec L2
theorem WS.n9 {X:Cx}{Γ:Ga}{N:Ga->Prop}{T:RT}(i:Nat){sts:List Stmt}{a:Addr}{as:List Addr}{rs:List Row}(hΓ:Γ[i]?=some (.ob (br a as rs)))(h:as.length=rs.length->WS X sts Γ N T):WS X sts Γ N T:=λσ H0 R0 H R E D dn dr=>by
 obtain ⟨⟨v,ea,_,ha,hr,nd⟩,hR⟩:=E.ent i _ hΓ
 exact h hr.1 σ H0 R0 H R E D dn dr
end Fc
namespace K1
open PySem L2 Fc
open PySem.Spec hiding Row
open PyProof.Rows hiding St
open PySem.Builtin.Int (intBits)
abbrev bR:Row:=(0,0,0,0)
theorem dt:∀(l m:List Int),l.Nodup->(∀x∈l,x∈m)->l.length<=m.length
 | [],_,_,_=>Nat.zero_le _
 | a::l,m,nd,h=>by
   obtain ⟨n1,n2⟩:=List.nodup_cons.mp nd
   have am:=h a List.mem_cons_self
   have ih:=dt l (m.erase a) n2 λx hx=>(List.mem_erase_of_ne (show x≠a from λe=>n1 (by rw [← e];exact hx))).mpr (h x (List.mem_cons_of_mem _ hx))
   have:=List.length_erase_of_mem am
   have:0 < m.length:=List.length_pos_of_mem am
   rw [List.length_cons];omega
structure h9 (parts:Int) (rs0 rs:List Row):Prop where
 len:rs.length=rs0.length
 same:∀(k:Nat) (r:Row),rs[k]?=some r->∃r0,rs0[k]?=some r0/\r.1=r0.1/\r.2.1=r0.2.1/\r.2.2.1=r0.2.2.1
 ok:∀r∈rs,r.2.2.2= -1∨(r.1 < r.2.2.2/\r.2.2.2 < parts)
theorem h9.set {parts:Int}{rs0 rs:List Row}(h:h9 parts rs0 rs){k:Nat}{r:Row}(hk:rs[k]?=some r){c:Int}(hc:r.1 < c/\c < parts):h9 parts rs0 (rs.set k (r.1,r.2.1,r.2.2.1,c)):=by
 have kl:=(List.getElem?_eq_some_iff.mp hk).1
 refine ⟨by rw [List.length_set];exact h.len,λj q hj=>?_,λq hq=>?_⟩
 ·by_cases e:k=j
  ·subst e
   rw [List.getElem?_set_self kl] at hj;cases hj
   exact h.same k r hk
  ·rw [List.getElem?_set_ne e] at hj;exact h.same j q hj
 ·rcases List.mem_or_eq_of_mem_set hq with z | z
  ·exact h.ok q z
  ·rw [z];exact .inr hc
structure tF (parts:Int) (rs0:List Row) (i:Nat) (rs:List Row) (free used:List Int):Prop where
 c:h9 parts rs0 rs
 nd:free.Nodup
 bd:∀k∈free,0<=k/\k < (rs0.length:Int)
 fr:∀k∈free,∀r,rs[k.toNat]?=some r->r.2.2.2= -1
 cov:∀k:Int,0<=k->k < (rs0.length:Int)->k∈free∨k∈used
 ulen:used.length=i
 cl:∀q:Nat,1<=q->q<=i->∃r∈rs,r.2.2.2=(q:Int)
theorem tF.one {parts:Int}{rs0:List Row}{i:Nat}{rs:List Row}{free used:List Int}(h:tF parts rs0 i rs free used)(hp:∀q:Nat,q<=i->∃(k:Nat) (r:Row),rs0[k]?=some r/\r.1=(q:Int)):∃k∈free,∀r,rs[k.toNat]?=some r->r.1 < (i:Int) + 1:=by
 refine Classical.byContradiction λno=>?_
 -- one row of each part,all different
 have reps:∀n:Nat,n<=i + 1->∃l:List Int,l.length=n/\l.Nodup/\∀x∈l,0<=x/\x < (rs0.length:Int)/\∃r,rs0[x.toNat]?=some r/\r.1 < (n:Int):=by
  intro n
  induction n with
  | zero=>intro _;exact ⟨[],rfl,List.nodup_nil,by simp⟩
  | succ n ih=>
    intro hn
    obtain ⟨l,l1,l2,l3⟩:=ih (by omega)
    obtain ⟨k,r,hk,hr⟩:=hp n (by omega)
    have kl:=(List.getElem?_eq_some_iff.mp hk).1
    refine ⟨(k:Int)::l,by rw [List.length_cons,l1],List.nodup_cons.mpr ⟨λz=>?_,l2⟩,λx hx=>?_⟩
    ·obtain ⟨_,_,r',h1,h2⟩:=l3 _ z
     rw [show ((k:Int)).toNat=k by omega,hk] at h1
     cases h1;omega
    ·rcases List.mem_cons.mp hx with rfl | z
     ·exact ⟨by omega,by omega,r,by rw [show ((k:Int)).toNat=k by omega];exact hk,by omega⟩
     ·obtain ⟨a,b,r',c,d⟩:=l3 x z
      exact ⟨a,b,r',c,by omega⟩
 obtain ⟨l,l1,l2,l3⟩:=reps (i + 1) (Nat.le_refl _)
 have:=dt l used l2 λx hx=>by
  obtain ⟨a,b,r0,c,d⟩:=l3 x hx
  rcases h.cov x a b with z | z
  ·refine absurd ⟨x,z,λr hr=>?_⟩ no
   obtain ⟨r0',e1,e2,_⟩:=h.c.same _ r hr
   rw [c] at e1;cases e1
   omega
  ·exact z
 rw [l1,h.ulen] at this
 omega
section
variable {P:Program}{w:World}{K:PySem.W.Frag}{mg:Str->Option Value}{base:Heap}{f:Addr}{fd:FuncData}
abbrev rY:Stmt:=top kH
abbrev Bk:List Str:=["_law_purse_here","_law_rows","_law_parts","_law_free","_law_part_here","_law_some","_law_k","_law_later","_law_pick"]
theorem zD:ax Bk ["_law_purse_here","_law_rows","_law_parts"] (ag rY):=⟨rfl,rfl,rfl,by decide +kernel,rfl,by decide +kernel,by decide +kernel⟩
structure mF (parts:Int) (rs0 rs:List Row):Prop where
 c:h9 parts rs0 rs
 cl:∀q:Nat,1<=q->(q:Int) < parts->∃r∈rs,r.2.2.2=(q:Int)
def SCL:pN:=λK s rs ps T=>∃(n parts:Int),cu n s/\n<=10000/\ps=[⟨ab,parts⟩]/\1<=parts/\parts<=4/\rs.length<=100/\(∀r∈rs,0<=r.1/\r.1 < parts/\r.2.2.2= -1)/\(∀q:Nat,(q:Int) < parts->∃(k:Nat) (r:Row),rs[k]?=some r/\r.1=(q:Int))/\T=λs' rs'=>bG K kG λ_=>cu (n + 200) s'/\mF parts rs rs'
theorem zX (M:bP mg)(CD:aw P w K mg base "_law_draw" 1 (dz aR lO K))(F:bz K "_law_called" "_law_called" rY f fd)(hm:mg "_law_called"=some (.ref f))(hb:Binds K fd ["_law_purse_here","_law_rows","_law_parts"] []):aw P w K mg base "_law_called" 2 (pM SCL K):=by
 have nd:=zD.nd
 have nd1:List.Nodup [("_law_k":Str),"_law_part_here","_law_rows"]:=by decide
 refine w4 F zD hm hb (λ_ _ qs T ⟨_,_,_,_,e,_⟩=>by rw [e];rfl) (λcdv A outer s H E a b c cs st rs0 qs T hr hS=>?_)
 obtain ⟨n,parts,hP,n1,rfl,p1,p4,hl,hrow,hpart,rfl⟩:=hS
 have n0:0<=n:=Int.le_trans hP.t0 hP.t1
 change WS _ _ [.ob (aR.bx a b st),.ob (br c cs rs0),.im ab parts,.no,.no,.no,.no,.no,.no] _ _
 refine ah (cS 3 (gW M.list M.range (pW 1 M.len rfl) ⟨by omega,by omega⟩) ?_)
 have e0:ups 0 ((rs0.length:Int)).toNat=ups 0 rs0.length:=by rw [show ((rs0.length:Int)).toNat=rs0.length by omega]
 rw [e0]
 refine ah (cK (r:=ab) (λi Γ=>∃st rs free used v4 v5 v6,Γ=[.ob (aR.bx a b st),.ob (br c cs rs),.im ab parts,.mu ab free,v4,v5,v6,.no,.no]/\cu (n + i) st/\tF parts rs0 i rs free used/\free.length<=100)
  (lL M.range au (aa 2 rfl) ⟨by decide,by decide,by omega,by omega⟩) (aA 4) ⟨st,rs0,ups 0 rs0.length,[],_,_,_,rfl,hP.mono (by omega),⟨⟨rfl,λk r hk=>⟨r,hk,rfl,rfl,rfl⟩,λr hr=>.inl (hrow r hr).2.2⟩,eO _,λk hk=>bo.mp hk,λk _ r hr=>(hrow r (List.mem_of_getElem? hr)).2.2,λk k0 k1=>.inl (bo.mpr ⟨k0,k1⟩),rfl,λq q1 q2=>by omega⟩,by rw [av];exact hl⟩ ?_ ?_)
 ·rintro i x Γ hx ⟨st,rs,free,used,v4,v5,v6,rfl,hP,hK,hfl⟩
  obtain ⟨hi,ex⟩:=fj hx
  have ex:x=(i:Int) + 1:=by omega
  subst ex
  have il:(i:Int) + 1 < parts:=by omega
  have hrl:=hK.c.len
  refine WS.n9 1 rfl λhcs=>?_
  have rg:∀k∈free,∃r,rs[k.toNat]?=some r:=λk hk=>⟨_,List.getElem?_eq_getElem (by have:=hK.bd k hk;omega)⟩
  have hkk:∀k∈free,cO rs k=some (rs.getD k.toNat bR):=λk hk=>cv bR (hK.bd k hk).1 (by have:=hK.bd k hk;omega)
  refine ah (vI 5 (Aa (i:=1) (j:=3) (by decide) rfl rfl (aV (by omega)) (aV (by omega))) (own:=["_law_k"]) (fr:=["_law_part_here","_law_rows"]) (ix:=[4,1]) (ra:=ab) (rb:=ab) (p:=λk=>decide ((rs.getD k.toNat bR).1 < (i:Int) + 1)) (f:=λk=>k) (λ_ _ _ _ _ h=>h) (aM (so:=ag rY) (N0:=Bk) rfl rfl (λx h=>aE h) (by decide +kernel)) (aK (aa 3 rfl))
   (λC s H ex=>aA 0) (λx=>⟨.inr rfl,.inl rfl,.inl rfl,trivial⟩) (λC s H ex x hx=>gp (bj dY (ug (bB (aa 2 rfl) (aa 0 rfl) (hkk x hx))) (aa 1 rfl))) (λC s H ex x hx _=>aa 0 rfl) ?_)
  have hid:((free.filter λk=>decide ((rs.getD k.toNat bR).1 < (i:Int) + 1)).map λk=>k)=free.filter λk=>decide ((rs.getD k.toNat bR).1 < (i:Int) + 1):=by simp
  rw [hid]
  have hne:free.filter (λk=>decide ((rs.getD k.toNat bR).1 < (i:Int) + 1))≠[]:=λz=>by
   obtain ⟨k,hk,hr⟩:=hK.one λq hq=>hpart q (by omega)
   have:k∈free.filter λk=>decide ((rs.getD k.toNat bR).1 < (i:Int) + 1):=by
    rw [List.mem_filter]
    refine ⟨hk,decide_eq_true ?_⟩
    obtain ⟨r,er⟩:=rg k hk
    rw [List.getD_eq_getElem?_getD,er];exact hr r er
   rw [z] at this;cases this
  have hsl:=List.length_filter_le (λk=>decide ((rs.getD k.toNat bR).1 < (i:Int) + 1)) free
  have hsub:∀k∈free.filter (λk=>decide ((rs.getD k.toNat bR).1 < (i:Int) + 1)),k∈free/\(rs.getD k.toNat bR).1 < (i:Int) + 1:=λk hk=>⟨(List.mem_filter.mp hk).1,of_decide_eq_true (List.mem_filter.mp hk).2⟩
  generalize free.filter (λk=>decide ((rs.getD k.toNat bR).1 < (i:Int) + 1))=sm at hne hsl hsub
  have sl:1<=sm.length:=by cases sm with
   | nil=>exact absurd rfl hne
   | cons=>simp
  obtain ⟨y,st1,y0,y1,hP1,hS⟩:=cC hP (by omega) (b:=(sm.length:Int)) (by omega) (by omega)
  obtain ⟨k,hk⟩:∃k,sm[y.toNat]?=some k:=⟨_,List.getElem?_eq_getElem (by omega)⟩
  obtain ⟨kf,kp⟩:=hsub k (List.mem_of_getElem? hk)
  have kb:=hK.bd k kf
  refine ah (aO 6 (gk 5 (y:=k) (bJ 0 CD hr (af (fV 5 M.len rfl) ao) rfl rfl (hS _)) rfl rfl (by rw [dy y0 (by omega)];exact hk)) ?_)
  obtain ⟨r,er⟩:=rg k kf
  rw [List.getD_eq_getElem?_getD,er] at kp
  have kp:r.1 < (i:Int) + 1:=kp
  obtain ⟨bk,hbk⟩:∃bk,cs[k.toNat]?=some bk:=⟨_,List.getElem?_eq_getElem (by omega)⟩
  refine ah (mP 1 (y:=(i:Int) + 1) (aa 4 rfl) (gT 1 (aa 6 rfl) rfl rfl (dS kb.1 (by omega)) hbk) rfl (iG hbk er) ?_)
  obtain ⟨j,hj,hno⟩:∃j:Nat,free[j]?=some k/\∀m,m < j->free[m]?≠some k:=by
   obtain ⟨j,hj⟩:=List.mem_iff_getElem?.mp kf
   refine ⟨j,hj,λm hm e=>?_⟩
   have q1:=List.getElem?_eq_some_iff.mp hj
   have q2:=List.getElem?_eq_some_iff.mp e
   have:=(List.getElem_inj (h₀:=q2.1) (h₁:=q1.1) hK.nd).mp (q2.2.trans q1.2.symm)
   omega
  refine ak (tm 3 (aa 6 rfl) rfl rfl hj hno ?_)
  have jl:=(List.getElem?_eq_some_iff.mp hj)
  have em:∀z,z∈free.eraseIdx j↔z∈free/\z≠k:=λz=>by
   rw [List.mem_eraseIdx_iff_getElem?]
   constructor
   ·rintro ⟨m,m1,m2⟩
    refine ⟨List.mem_of_getElem? m2,λe=>m1 ?_⟩
    subst e
    have q2:=List.getElem?_eq_some_iff.mp m2
    exact (List.getElem_inj (h₀:=q2.1) (h₁:=jl.1) hK.nd).mp (q2.2.trans jl.2.symm)
   ·rintro ⟨m1,m2⟩
    obtain ⟨m,hm⟩:=List.mem_iff_getElem?.mp m1
    refine ⟨m,λe=>m2 ?_,hm⟩
    subst e
    rw [hj] at hm;exact (Option.some.inj hm).symm
  refine ⟨st1,_,free.eraseIdx j,k::used,_,_,_,rfl,hP1.mono (by omega),⟨hK.c.set er ⟨by omega,by omega⟩,hK.nd.sublist (List.eraseIdx_sublist _ _),λz hz=>hK.bd z ((em z).mp hz).1,λz hz q hq=>?_,λz z0 z1=>?_,by rw [List.length_cons,hK.ulen],λq q1 q2=>?_⟩,Nat.le_trans (List.length_eraseIdx_le _ _) hfl⟩
  ·obtain ⟨zf,zk⟩:=(em z).mp hz
   have zb:=hK.bd z zf
   rw [List.getElem?_set_ne (by omega)] at hq
   exact hK.fr z zf q hq
  ·rcases hK.cov z z0 z1 with h | h
   ·by_cases e:z=k
    ·exact .inr (by rw [e];simp)
    ·exact .inl ((em z).mpr ⟨h,e⟩)
   ·exact .inr (List.mem_cons_of_mem _ h)
  ·rcases Nat.lt_or_ge q (i + 1) with h | h
   ·obtain ⟨r',hr',e'⟩:=hK.cl q q1 (by omega)
    obtain ⟨j',hj'⟩:=List.mem_iff_getElem?.mp hr'
    refine ⟨r',List.mem_iff_getElem?.mpr ⟨j',?_⟩,e'⟩
    rw [List.getElem?_set_ne (λz=>?_)];· exact hj'
    subst z
    rw [er] at hj';cases hj'
    have:=hK.fr k kf r er
    omega
   ·have:q=i + 1:=by omega
    subst this
    exact ⟨(r.1,r.2.1,r.2.2.1,(i:Int) + 1),List.mem_iff_getElem?.mpr ⟨k.toNat,List.getElem?_set_self (by omega)⟩,by show (i:Int) + 1=_;omega⟩
 ·rintro Γ ⟨st,rs,free,used,v4,v5,v6,rfl,hP,hK,hfl⟩
  rw [av] at hP hK
  have em:(parts - 1).toNat=(parts - 1).toNat:=rfl
  have hrl:=hK.c.len
  refine ak (cK (r:=ab) (λi Γ=>∃st rs v6 v7 v8,Γ=[.ob (aR.bx a b st),.ob (br c cs rs),.im ab parts,.im (ae ab) free,v4,v5,v6,v7,v8]/\cu (n + 10 + i) st/\mF parts rs0 rs/\∀m k,i<=m->free[m]?=some k->∀r,rs[k.toNat]?=some r->r.2.2.2= -1)
   (aK (iB 3 rfl (aV (by omega)))) (aA 6) ⟨st,rs,_,_,_,rfl,hP.mono (by omega),⟨hK.c,λq q1 q2=>hK.cl q q1 (by omega)⟩,λm k _ hk r hr=>hK.fr k (List.mem_of_getElem? hk) r hr⟩ ?_ ?_)
  ·rintro i k Γ hk ⟨st,rs,v6,v7,v8,rfl,hP,hC,hfr⟩
   have il:=(List.getElem?_eq_some_iff.mp hk).1
   have kb:=hK.bd k (List.mem_of_getElem? hk)
   have hl2:=hC.c.len
   refine WS.n9 1 rfl λhcs=>?_
   obtain ⟨r,er⟩:∃r,rs[k.toNat]?=some r:=⟨_,List.getElem?_eq_getElem (by omega)⟩
   obtain ⟨bk,hbk⟩:∃bk,cs[k.toNat]?=some bk:=⟨_,List.getElem?_eq_getElem (by omega)⟩
   obtain ⟨r0,er0,e1,_⟩:=hC.c.same _ r er
   have hr0:=hrow r0 (List.mem_of_getElem? er0)
   have hcol:∀(Γ':Ga) (pos p1 p2 p3:Pos) (jj:Nat),Γ'[6]?=some (.im ab k)->Γ'[1]?=some (.ob (br c cs rs))->True:=λ_ _ _ _ _ _ _ _=>trivial
   refine ah (aO 7 (c6 (c6 (aa 2 rfl) au) (qU 1 (c:=0) (y:=r.1) (gT 1 (aa 6 rfl) rfl rfl (dS kb.1 (by omega)) hbk) rfl (iG (r':=r) hbk er) rfl)) ?_)
   obtain ⟨y,st1,y0,y1,hP1,hS⟩:=cC hP (by omega) (b:=3 * (parts - 1 - r.1) + 1) (by omega) (by omega)
   refine ah (aO 8 (bJ 0 CD hr (af (cB (xv au (aa 7 rfl) (.inl (by decide))) au) ao) rfl rfl (hS _)) ?_)
   refine ak (bQ (bj dY (aa 8 rfl) (aa 7 rfl)) (λh=>?_) (λh=>a9 ?_))
   ·have h:y < parts - 1 - r.1:=of_decide_eq_true h
    refine ak (mP 1 (y:=r.1 + 1 + y) (cB (cB (qU 1 (c:=0) (y:=r.1) (gT 1 (aa 6 rfl) rfl rfl (dS kb.1 (by omega)) hbk) rfl (iG (r':=r) hbk er) rfl) au) (aa 8 rfl)) (gT 1 (aa 6 rfl) rfl rfl (dS kb.1 (by omega)) hbk) rfl (iG hbk er) ?_)
    refine ⟨st1,_,_,_,_,rfl,hP1.mono (by omega),⟨hC.c.set er ⟨by omega,by omega⟩,λq q1 q2=>?_⟩,λm k' hm hk' r' hr'=>?_⟩
    ·obtain ⟨r',hr',e'⟩:=hC.cl q q1 q2
     obtain ⟨j',hj'⟩:=List.mem_iff_getElem?.mp hr'
     refine ⟨r',List.mem_iff_getElem?.mpr ⟨j',?_⟩,e'⟩
     rw [List.getElem?_set_ne (λz=>?_)];· exact hj'
     subst z
     rw [er] at hj';cases hj'
     have:=hfr i k (Nat.le_refl _) hk r er
     omega
    ·have kb':=hK.bd k' (List.mem_of_getElem? hk')
     have:k.toNat≠k'.toNat:=λz=>by
      have e:k=k':=by omega
      subst e
      have q1:=List.getElem?_eq_some_iff.mp hk
      have q2:=List.getElem?_eq_some_iff.mp hk'
      have:=(List.getElem_inj (h₀:=q1.1) (h₁:=q2.1) hK.nd).mp (q1.2.trans q2.2.symm)
      omega
     rw [List.getElem?_set_ne this] at hr'
     exact hfr m k' (by omega) hk' r' hr'
   ·exact ⟨st1,_,_,_,_,rfl,hP1.mono (by omega),hC,λm k' hm hk' r' hr'=>hfr m k' (by omega) hk' r' hr'⟩
  ·rintro Γ ⟨st,rs,v6,v7,v8,rfl,hP,hC,_⟩
   exact ⟨st,rs,rfl,rfl,λ_ _ _=>⟨(),rfl,hP.mono (by omega),hC⟩⟩
end
section
variable {v:aN}
theorem gY {es es':List (Int×Int)}{s:Int}(h:∀t∈es,t∈es'){k:Int}(r:Reach es s k):Reach es' s k:=Reach.mono h r
structure A7 (k:Nat) (places:List Int) (rs:List Row):Prop where
 len:places.length=k
 part:∀(i:Nat) (m:Int),places[i]?=some m->∃ties,dw m ties/\∀a b,(∃r∈rs,r.1=(i:Int)/\r.2.1=a/\r.2.2.1=b)↔(a,b)∈ties
 row:∀r∈rs,0<=r.1/\r.1 < (k:Int)/\(r.2.2.2= -1∨(r.1 < r.2.2.2/\r.2.2.2 < (k:Int)))
 call:∀i:Nat,0 < i->i < k->∃r∈rs,r.2.2.2=(i:Int)
structure bg (v:aN):Prop where
 good:A7 v.1.length v.1 v.2
 pl:1<=v.1.length/\v.1.length<=4
 rl:1<=v.2.length/\v.2.length<=60
 sz:∀m∈v.1,2<=m/\m<=16
theorem ua {xs:List Int}{x:Int×Int}:x∈nums xs↔∃i:Nat,x.1=(i:Int)/\xs[i]?=some x.2:=by
 constructor
 ·intro h
  obtain ⟨i,hi⟩:=List.mem_iff_getElem?.mp h
  exact ⟨i,iN hi⟩
 ·rintro ⟨i,h1,h2⟩
  refine List.mem_iff_getElem?.mpr ⟨i,?_⟩
  unfold nums
  rw [List.getElem?_map,List.getElem?_zipIdx,h2]
  obtain ⟨a,b⟩:=x
  simp at h1
  simp [h1]
theorem all_map {α:Type}{xs:List α}{g:α->Bool}:((xs.filter λ_=>true).map g).all id=true↔∀x∈xs,g x=true:=by
 rw [List.filter_eq_self.mpr (by simp),List.all_map,List.all_eq_true];rfl
structure pV (ns:List Int) (r:Row):Prop where
 p0:0<=r.1
 p1:r.1 < (ns.length:Int)
 s1:r.2.1≠1
 c0: -1<=r.2.2.2
 c1:r.2.2.2 < (ns.length:Int)
 s0:0<=r.2.1
 e0:0<=r.2.2.1
 sn:r.2.1 < ns.getD r.1.toNat 0
 en:r.2.2.1 < ns.getD r.1.toNat 0
 cp:¬(0<=r.2.2.2/\r.2.2.2<=r.1)
theorem rR {ns:List Int}{r:Row}(q:pV ns r):e8 ns r=true:=by
 unfold e8
 have:=q.p0;have:=q.p1;have:=q.s1;have:=q.c0;have:=q.c1;have:=q.s0;have:=q.e0;have h1:=q.sn;have h2:=q.en;have:=q.cp
 rw [List.getD_eq_getElem?_getD] at h1 h2
 rw [if_neg (by simp;omega),if_neg (by simp [List.getD_eq_getElem?_getD];omega)]
 simp
 omega
theorem bg.dk (h:bg v){r:Row}(hr:r∈v.2):pV v.1 r:=by
 have q:=h.good.row r hr
 obtain ⟨m,hm⟩:∃m,v.1[r.1.toNat]?=some m:=⟨_,List.getElem?_eq_getElem (by omega)⟩
 obtain ⟨ts,hg,hts⟩:=h.good.part _ _ hm
 have b:=hg.bd (r.2.1,r.2.2.1) ((hts _ _).mp ⟨r,hr,by omega,rfl,rfl⟩)
 have e:v.1.getD r.1.toNat 0=m:=by rw [List.getD_eq_getElem?_getD,hm];rfl
 refine ⟨q.1,q.2.1,b.2.2.1,by omega,by omega,b.1,b.2.2.2.1,by rw [e];exact b.2.1,by rw [e];exact b.2.2.2.2,by omega⟩
theorem fc {rs:List Row}{p a b:Int}:(a,b)∈fwd rs p↔∃r∈rs,r.1=p/\r.2.1=a/\r.2.2.1=b:=by
 unfold fwd
 simp only [List.mem_map,List.mem_filter,decide_eq_true_eq,Prod.mk.injEq]
 constructor
 ·rintro ⟨r,⟨h1,h2⟩,h3,h4⟩;exact ⟨r,h1,h2,h3,h4⟩
 ·rintro ⟨r,h1,h2,h3,h4⟩;exact ⟨r,⟨h1,h2⟩,h3,h4⟩
theorem oR {rs:List Row}{p a b:Int}:(a,b)∈bwd rs p↔∃r∈rs,r.1=p/\r.2.2.1=a/\r.2.1=b:=by
 unfold bwd
 simp only [List.mem_map,List.mem_filter,decide_eq_true_eq,Prod.mk.injEq]
 constructor
 ·rintro ⟨r,⟨h1,h2⟩,h3,h4⟩;exact ⟨r,h1,h2,h3,h4⟩
 ·rintro ⟨r,h1,h2,h3,h4⟩;exact ⟨r,⟨h1,h2⟩,h3,h4⟩
theorem bg.toEnd (h:bg v){i:Nat}{m:Int}(hi:v.1[i]?=some m){k:Int}(k0:0<=k)(k1:k < m):Reach (bwd v.2 i) 1 k:=by
 obtain ⟨ts,hg,hts⟩:=h.good.part i m hi
 refine gY (λt ht=>?_) (hg.bw k k0 k1)
 obtain ⟨a,b⟩:=t
 obtain ⟨r,hr,e0,e1,e2⟩:=(hts b a).mpr (dI.mp ht)
 exact oR.mpr ⟨r,hr,e0,e2,e1⟩
theorem bg.qQ (h:bg v){i:Nat}{m:Int}(hi:v.1[i]?=some m){k:Int}(k0:0<=k)(k1:k < m):Reach (fwd v.2 i) 0 k:=by
 obtain ⟨ts,hg,hts⟩:=h.good.part i m hi
 refine gY (λt ht=>?_) (hg.fw k k0 k1)
 obtain ⟨a,b⟩:=t
 obtain ⟨r,hr,e0,e1,e2⟩:=(hts a b).mpr ht
 exact fc.mpr ⟨r,hr,e0,e1,e2⟩
open Classical in
theorem jv {es:List (Int×Int)}{s n:Int}(hes:∀a b,(a,b)∈es->0<=b/\b < n)(h0:0<=s)(h1:s < n)(h:∀k,0<=k->k < n->Reach es s k):fW es s n=true:=by
 unfold fW
 rw [decide_eq_true_eq]
 refine ⟨ups 0 n.toNat,eO _,λk=>⟨λhk=>?_,λhk=>?_⟩,by rw [av];omega⟩
 ·have:=bo.mp hk
  exact h k (by omega) (by omega)
 ·have:0<=k/\k < n:=by
   cases hk with
   | base=>exact ⟨h0,h1⟩
   | step _ m=>exact hes _ _ m
  exact bo.mpr (by omega)
theorem bg.AK {v:aN}(h:bg v):jg v=true:=by
 have pl:=h.pl
 have rl:=h.rl
 have hsz:fH v=true:=by
  unfold fH
  rw [if_neg (by simp;omega),all_map]
  intro m hm
  have:=h.sz m hm
  simp;omega
 unfold jg
 rw [if_neg (by rw [hsz];decide)]
 have h2:(List.map (e8 v.1) (List.filter (λ_=>true) v.2)).all id=true:=all_map.mpr λr hr=>rR (h.dk hr)
 rw [if_neg (by rw [h2];decide)]
 have h3:(List.map (called v.2) (List.filter (λ_=>true) (ups (0 + 1) ((v.1.length:Int) - (0 + 1)).toNat))).all id=true:=all_map.mpr λp hp=>by
  unfold ups at hp
  obtain ⟨k,hk,rfl⟩:=List.mem_map.mp hp
  have hk:=List.mem_range.mp hk
  obtain ⟨r,hr1,hr2⟩:=h.good.call (k + 1) (by omega) (by omega)
  unfold called
  rw [List.filter_eq_self.mpr (by simp),List.any_map,List.any_eq_true]
  exact ⟨r,hr1,by simp [hr2];omega⟩
 rw [if_neg (by rw [h3];decide)]
 refine all_map.mpr λx hx=>?_
 obtain ⟨i,h1,hi⟩:=ua.mp hx
 have nb:=h.sz _ (List.mem_of_getElem? hi)
 have hd:∀r∈v.2,r.1=(i:Int)->v.1.getD r.1.toNat 0=x.2:=λr hr hp=>by
  rw [hp,List.getD_eq_getElem?_getD,show ((i:Int)).toNat=i by omega,hi];rfl
 unfold mZ
 rw [h1,Bool.and_eq_true]
 refine ⟨jv (λa b hab=>?_) (by decide) (by omega) λk k0 k1=>h.qQ hi k0 k1,jv (λa b hab=>?_) (by decide) (by omega) λk k0 k1=>h.toEnd hi k0 k1⟩
 ·obtain ⟨r,hr,hp,e1,e2⟩:=fc.mp hab
  have q:=h.dk hr
  have q1:=q.en;rw [hd r hr hp] at q1
  rw [← e2];exact ⟨q.e0,q1⟩
 ·obtain ⟨r,hr,hp,e1,e2⟩:=oR.mp hab
  have q:=h.dk hr
  have q1:=q.sn;rw [hd r hr hp] at q1
  rw [← e2];exact ⟨q.s0,q1⟩
def aX (rs:List Row)(p:Nat):Prop:=∃rk:Int->Int,∀r∈rs,r.1=(p:Int)->rk r.2.1 < rk r.2.2.1
structure eL (loose:Bool) (i:Nat) (places:List Int) (rs:List Row):Prop where
 len:places.length=i
 sz:∀m∈places,2<=m/\m<=16
 part:∀(p:Nat) (m:Int),places[p]?=some m->∃ties,dw m ties/\∀a b,(∃r∈rs,r.1=(p:Int)/\r.2.1=a/\r.2.2.1=b)↔(a,b)∈ties
 row:∀r∈rs,0<=r.1/\r.1 < (i:Int)/\r.2.2.2= -1
 has:∀p:Nat,p < i->∃(k:Nat) (r:Row),rs[k]?=some r/\r.1=(p:Int)
 up:loose=true->∀p:Nat,p < i->aX rs p
theorem eL.nil (loose:Bool):eL loose 0 [] []:=⟨rfl,by simp,by simp,by simp,λp h=>by omega,λ_ p h=>by omega⟩
theorem eL.more {loose:Bool}{i m:Nat}{places:List Int}{rs:List Row}(h:eL loose i places rs){size:Int}{ties:List (Int×Int)}(hp:iD loose m size ties):eL loose (i + 1) (places++[size]) (rs++ties.map λ(t:Int×Int)=>((i:Int),t.1,t.2,(-1:Int))):=by
 have hl:=h.len
 have nw:∀r,r∈ties.map (λ(t:Int×Int)=>((i:Int),t.1,t.2,(-1:Int)))↔r.1=(i:Int)/\r.2.2.2= -1/\(r.2.1,r.2.2.1)∈ties:=λr=>by
  rw [List.mem_map]
  constructor
  ·rintro ⟨t,ht,rfl⟩;exact ⟨rfl,rfl,ht⟩
  ·rintro ⟨a,b,c⟩
   refine ⟨_,c,?_⟩
   obtain ⟨r1,r2,r3,r4⟩:=r
   simp only at a b
   subst a;subst b;rfl
 refine ⟨by rw [List.length_append,hl];rfl,λz hz=>?_,λp z hz=>?_,λr hr=>?_,λp hp'=>?_,λe p hp'=>?_⟩
 ·rcases List.mem_append.mp hz with q | q
  ·exact h.sz z q
  ·rw [List.mem_singleton.mp q];exact ⟨hp.good.m2,hp.le⟩
 ·rcases Nat.lt_or_ge p i with pl | pl
  ·rw [List.getElem?_append_left (by omega)] at hz
   obtain ⟨ts,g1,g2⟩:=h.part p z hz
   refine ⟨ts,g1,λa b=>?_⟩
   rw [← g2 a b]
   constructor
   ·rintro ⟨r,hr,r1,r2⟩
    rcases List.mem_append.mp hr with q | q
    ·exact ⟨r,q,r1,r2⟩
    ·have:=((nw r).mp q).1;omega
   ·rintro ⟨r,hr,r1⟩;exact ⟨r,List.mem_append_left _ hr,r1⟩
  ·have pe:p=i:=by
    have:=(List.getElem?_eq_some_iff.mp hz).1
    rw [List.length_append,hl] at this
    simp at this;omega
   subst pe
   rw [List.getElem?_append_right (by omega),hl,Nat.sub_self] at hz
   have hz:size=z:=by simpa using hz
   subst hz
   refine ⟨ties,hp.good,λa b=>?_⟩
   constructor
   ·rintro ⟨r,hr,r1,r2,r3⟩
    rcases List.mem_append.mp hr with q | q
    ·have:=(h.row r q).2.1;omega
    ·have:=((nw r).mp q).2.2
     rw [r2,r3] at this;exact this
   ·intro hab
    exact ⟨((p:Int),a,b, -1),List.mem_append_right _ ((nw _).mpr ⟨rfl,rfl,hab⟩),rfl,rfl,rfl⟩
 ·rcases List.mem_append.mp hr with q | q
  ·have:=h.row r q;exact ⟨this.1,by omega,this.2.2⟩
  ·have:=(nw r).mp q;exact ⟨by omega,by omega,this.2.1⟩
 ·rcases Nat.lt_or_ge p i with pl | pl
  ·obtain ⟨k,r,a,b⟩:=h.has p pl
   exact ⟨k,r,by rw [List.getElem?_append_left (List.getElem?_eq_some_iff.mp a).1];exact a,b⟩
  ·have pe:p=i:=by omega
   subst pe
   have tl:=hp.len
   have hm:((p:Int),(ties[0]'(by omega)).1,(ties[0]'(by omega)).2,(-1:Int))∈rs++ties.map λ(t:Int×Int)=>((p:Int),t.1,t.2,(-1:Int)):=List.mem_append_right _ (List.mem_map.mpr ⟨_,List.getElem_mem (by omega),rfl⟩)
   obtain ⟨k,hk⟩:=List.mem_iff_getElem?.mp hm
   exact ⟨k,_,hk,rfl⟩
 ·rcases Nat.lt_or_ge p i with pl | pl
  ·obtain ⟨rk,hrk⟩:=h.up e p pl
   refine ⟨rk,λr hr r1=>?_⟩
   rcases List.mem_append.mp hr with q | q
   ·exact hrk r q r1
   ·have:=((nw r).mp q).1;omega
  ·have pe:p=i:=by omega
   subst pe
   obtain ⟨rk,hrk⟩:=hp.up e
   refine ⟨rk,λr hr r1=>?_⟩
   rcases List.mem_append.mp hr with q | q
   ·have:=(h.row r q).2.1;omega
   ·exact hrk _ ((nw r).mp q).2.2
structure zh (loose:Bool) (v:aN):Prop where
 g:bg v
 le:v.2.length<=30
 up:loose=true->∀p:Nat,p < v.1.length->aX v.2 p
theorem wx {loose:Bool}{parts:Nat}{places:List Int}{rs0 rs rs':List Row}(h:eL loose parts places rs0)(p1:1<=parts)(p4:parts<=4)(hc:mF (parts:Int) rs0 rs)(hl:rs0.length<=30)(hm:∀r,r∈rs'↔r∈rs)(hl':rs'.length=rs.length):zh loose (places,rs'):=by
 have hlen:=h.len
 have fw:∀r∈rs,∃r0∈rs0,r.1=r0.1/\r.2.1=r0.2.1/\r.2.2.1=r0.2.2.1:=λr hr=>by
  obtain ⟨k,hk⟩:=List.mem_iff_getElem?.mp hr
  obtain ⟨r0,a,b⟩:=hc.c.same k r hk
  exact ⟨r0,List.mem_of_getElem? a,b⟩
 have bw:∀r0∈rs0,∃r∈rs,r.1=r0.1/\r.2.1=r0.2.1/\r.2.2.1=r0.2.2.1:=λr0 hr=>by
  obtain ⟨k,hk⟩:=List.mem_iff_getElem?.mp hr
  have kl:=(List.getElem?_eq_some_iff.mp hk).1
  have kl2:k < rs.length:=by rw [hc.c.len];exact kl
  obtain ⟨r0',a,b⟩:=hc.c.same k _ (List.getElem?_eq_getElem kl2)
  rw [hk] at a;cases a
  exact ⟨_,List.getElem_mem kl2,b⟩
 have n1:1<=rs'.length:=by
  obtain ⟨k,r,a,_⟩:=h.has 0 (by omega)
  have:=(List.getElem?_eq_some_iff.mp a).1
  rw [hl',hc.c.len];omega
 refine ⟨⟨⟨rfl,λi m hi=>?_,λr hr=>?_,λi i0 i1=>?_⟩,by show 1<=places.length/\places.length<=4;omega,by show 1<=rs'.length/\rs'.length<=60;rw [hl',hc.c.len] at *;omega,h.sz⟩,by show rs'.length<=30;rw [hl',hc.c.len];exact hl,λe p hp=>?_⟩
 ·obtain ⟨ties,g1,g2⟩:=h.part i m hi
  refine ⟨ties,g1,λa b=>?_⟩
  rw [← g2 a b]
  constructor
  ·rintro ⟨r,hr,r1,r2,r3⟩
   obtain ⟨r0,h0,e1,e2,e3⟩:=fw r ((hm r).mp hr)
   exact ⟨r0,h0,by omega,by omega,by omega⟩
  ·rintro ⟨r0,h0,r1,r2,r3⟩
   obtain ⟨r,hr,e1,e2,e3⟩:=bw r0 h0
   exact ⟨r,(hm r).mpr hr,by omega,by omega,by omega⟩
 ·have hr:=(hm r).mp hr
  obtain ⟨r0,h0,e1,_⟩:=fw r hr
  have a:=h.row r0 h0
  have b:=hc.c.ok r hr
  show 0<=r.1/\r.1 < (places.length:Int)/\(r.2.2.2= -1∨(r.1 < r.2.2.2/\r.2.2.2 < (places.length:Int)))
  omega
 ·have i1:i < places.length:=i1
  obtain ⟨r,hr,e⟩:=hc.cl i i0 (by omega)
  exact ⟨r,(hm r).mpr hr,e⟩
 ·have hp:p < places.length:=hp
  obtain ⟨rk,hrk⟩:=h.up e p (by omega)
  refine ⟨rk,λr hr r1=>?_⟩
  obtain ⟨r0,h0,e1,e2,e3⟩:=fw r ((hm r).mp hr)
  have:=hrk r0 h0 (by omega)
  rw [e2,e3];exact this
end
section
variable {P:Program}{w:World}{K:PySem.W.Frag}{mg:Str->Option Value}{base:Heap}{f:Addr}{fd:FuncData}
abbrev oE:Stmt:=top nX
abbrev xZ:List Str:=["_law_purse_here","_law_loose","_law_parts","_law_left","_law_places","_law_rows","_law_part_here","_law_many","_law_size","_law_told"]
theorem yU:ax xZ ["_law_purse_here","_law_loose"] (ag oE):=⟨rfl,rfl,rfl,by decide +kernel,rfl,by decide +kernel,by decide +kernel⟩
def Bs:iC Pu:=λK s ps T=>∃(n:Int) (loose:Bool),cu n s/\n<=1000/\ps=[⟨aF,loose⟩]/\T=λs'=>bG K bZ λv=>cu (n + 2000) s'/\zh loose v
theorem AJ (M:bP mg)(CD:aw P w K mg base "_law_draw" 1 (dz aR lO K))(CO:aw P w K mg base "_law_order" 2 (dz aR vw K))(CP:aw P w K mg base "_law_part" 3 (dz aR Bd K))(CC:aw P w K mg base "_law_called" 2 (pM SCL K))(F:bz K "_law_web" "_law_web" oE f fd)(hm:mg "_law_web"=some (.ref f))(hb:Binds K fd ["_law_purse_here","_law_loose"] []):aw P w K mg base "_law_web" 4 (dz aR Bs K):=by
 have nd:=yU.nd
 have nd1:List.Nodup [("_law_one":Str),"_law_other","_law_part_here"]:=by decide
 have nd2:List.Nodup [("_law_k":Str),"_law_rows"]:=by decide
 have CD:=CD.mono (show 1<=3 by decide)
 have CO:=CO.mono (show 2<=3 by decide)
 have CC:=CC.mono (show 2<=3 by decide)
 refine iy F yU hm hb (λxs qs T ⟨_,_,_,_,e,_⟩=>by rw [e];rfl) (λcdv A outer s H E a b st qs T hr hS=>?_)
 obtain ⟨n,loose,hP,n1,rfl,rfl⟩:=hS
 have n0:0<=n:=Int.le_trans hP.t0 hP.t1
 change WS _ _ [.ob (aR.bx a b st),.im aF loose,.no,.no,.no,.no,.no,.no,.no,.no] _ _
 obtain ⟨d,st1,d0,d1,hP1,hS1⟩:=cC hP (by omega) (b:=4) (by decide) (by decide)
 refine ah (aO 2 (cB au (bJ 0 CD hr (af au ao) rfl rfl (hS1 _))) ?_)
 obtain ⟨parts,hparts⟩:∃parts:Nat,1 + d=(parts:Int):=⟨(1 + d).toNat,by omega⟩
 rw [hparts]
 refine ah (aO 3 (c6 au (aa 2 rfl)) ?_)
 refine ah (cS 4 (r:=ab) (aY bu (by decide)) (ah (cS 5 (r:=ab) (aY bu (by decide)) ?_)))
 refine WS.vJ 5 rfl λc=>?_
 refine ah (cK (r:=ab) (λi Γ=>∃st left places c cs rs v6 v7 v8 v9,Γ=[.ob (aR.bx a b st),.im aF loose,.im ab (parts:Int),.im ab left,.mu ab places,.ob (br c cs rs),v6,v7,v8,v9]/\cu (n + 1 + 202 * i) st/\eL loose i places rs/\0<=left/\(rs.length:Int) + left=29 - parts + i)
  (cW M.range (aa 2 rfl) ⟨by omega,by omega⟩) (aA 6) ⟨st1,_,[],c,[],[],_,_,_,_,rfl,hP1.mono (by omega),eL.nil loose,by omega,by simp⟩ ?_ ?_)
 ·rintro i x Γ hx ⟨st,left,places,c,cs,rs,v6,v7,v8,v9,rfl,hP,hW,l0,hl⟩
  obtain ⟨hi,rfl⟩:=fj hx
  have e0:(0:Int) + (i:Int)=(i:Int):=by omega
  rw [e0]
  change WS _ _ [.ob (aR.bx a b st),.im aF loose,.im ab (parts:Int),.im ab left,.mu ab places,.ob (br c cs rs),.im ab (i:Int),v7,v8,v9] _ _
  obtain ⟨c3,st2,c0,c1,hP2,hS2⟩:=cC hP (by omega) (b:=3) (by decide) (by decide)
  obtain ⟨q,hq,q0,q1⟩:∃q:Int,cO [(4:Int),8,30] c3=some q/\4<=q/\q<=30:=by
   rcases (show c3=0∨c3=1∨c3=2 by omega) with rfl | rfl | rfl
   ·exact ⟨4,rfl,by decide,by decide⟩
   ·exact ⟨8,rfl,by decide,by decide⟩
   ·exact ⟨30,rfl,by decide,by decide⟩
  obtain ⟨y,st3,y0,y1,hP3,hS3⟩:=cC hP2 (by omega) (b:=q) (by omega) (by omega)
  refine ah (aO 7 (wb M.min (af (aa 3 rfl) (af (bJ 0 CD hr (af (bB (aU.im (aY (aJ au (aJ au (aJ au bu))) (by show 3<=sizeLine;decide))) (bJ 0 CD hr (af au ao) rfl rfl (hS2 _)) hq) ao) rfl rfl (hS3 _)) ao))) ?_)
  obtain ⟨m,hm'⟩:∃m:Nat,(if y < left then y else left)=(m:Int):=⟨(if y < left then y else left).toNat,by split<;>omega⟩
  rw [hm']
  have ml:(m:Int)<=left:=by rw [← hm'];split<;>omega
  refine ah (aO 3 (c6 (aa 3 rfl) (aa 7 rfl)) ?_)
  refine ah (mv 0 CP hr (af (aa 7 rfl) (af (aa 1 rfl) ao)) rfl rfl ⟨n + 1 + 202 * i + 1 + 1,m,loose,hP3,by omega,rfl,by omega,rfl⟩ (iE 8 9) ?_)
  rintro st4 ⟨size,told⟩ ⟨hP4,hPO⟩
  have tl:told.length=m + 1:=hPO.len
  have wl:=hW.len
  have ple:parts<=4:=by omega
  refine ah (ei 4 (aa 8 rfl) rfl rfl (Nat.lt_of_le_of_lt (show places.length<=100 by omega) (by decide)) ?_)
  refine ak (rA 5 (own:=["_law_one","_law_other"]) (fr:=["_law_part_here"]) (ix:=[6]) (ra:=dW ab) (f:=λ(t:Int×Int)=>((i:Int),t.1,t.2,(-1:Int))) (aM (so:=ag oE) (N0:=xZ) rfl rfl (λx h=>aE h) (by decide +kernel)) (aK (aa 9 rfl))
   (λC s H ex=>kB 0 1) (λx=>⟨.inr rfl,.inr rfl,.inl rfl,trivial⟩) (λx=>⟨trivial,trivial,trivial,trivial⟩) (λC s H ex x hx=>aY (aJ (aa 2 rfl) (aJ (aa 0 rfl) (aJ (aa 1 rfl) (aJ (sv au) bu)))) (by show 4<=sizeLine;decide)) rfl (aV (by show rs.length + told.length<=_;omega)) λdd bs=>?_)
  exact ⟨st4,_,_,_,_,_,_,_,_,_,rfl,hP4.mono (by omega),hW.more hPO,by omega,by rw [List.length_append,List.length_map];show ((rs.length + told.length:Nat):Int) + _=_;omega⟩
 ·rintro Γ ⟨st,left,places,c,cs,rs,v6,v7,v8,v9,rfl,hP,hW,l0,hl⟩
  rw [av,show ((parts:Int)).toNat=parts by omega] at hP hW hl
  have wl:=hW.len
  refine ah (uz 0 5 CC hr (by decide) (af (aa 2 rfl) ao) rfl rfl ⟨n + 1 + 202 * parts,(parts:Int),hP,by omega,rfl,by omega,by omega,by omega,λr hr=>hW.row r hr,λq hq=>hW.has q (by omega),rfl⟩ ?_)
  rintro st1 rs1 ⟨hP1,hC⟩
  have rl:=hC.c.len
  change WS _ _ [.ob (aR.bx a b st1),.im aF loose,.im ab (parts:Int),.im ab left,.mu ab places,.ob (br c cs rs1),v6,v7,v8,v9] _ _
  refine WS.outer 5 rfl ?_
  refine WS.wK 5 rfl (aV (by omega)) ?_
  change WS _ _ [.ob (aR.bx a b st1),.im aF loose,.im ab (parts:Int),.im ab left,.mu ab places,.im (ae eX) rs1,v6,v7,v8,v9] _ _
  obtain ⟨xs,st2,hP2,hX,hS⟩:=oz hP1 (by omega) (by omega) (m:=rs1.length) (by omega)
  have xl:=hX.len
  have hid:((xs.filter λ_=>true).map λk=>rs1.getD k.toNat bR)=xs.map λk=>rs1.getD k.toNat bR:=by rw [List.filter_eq_self.mpr (by simp)]
  refine ak (fX 0 (B:=aR) (y:=(places,xs.map λk=>rs1.getD k.toNat bR)) (dv (r:=ae ab) (r':=ae aB) (af (iB 4 rfl (aV (by omega))) (af (EV.cast (aU.im (aT (own:=["_law_k"]) (fr:=["_law_rows"]) (ix:=[5]) (ra:=ab) (rb:=aB) (p:=λ_=>true) (f:=λk=>rs1.getD k.toNat bR) (aM (so:=ag oE) (N0:=xZ) rfl rfl (λx h=>aE h) (by decide +kernel)) (aK (bJ 0 CO hr (af (cR M.len (aa 5 rfl)) ao) rfl rfl (hS _)))
   (λC s H ex=>aA 0) (λx=>⟨.inr rfl,.inl rfl,trivial⟩) (λC s H ex x hx=>bA) (λC s H ex x hx _=>lB M.tuple (bB (aa 1 rfl) (aa 0 rfl) (cv bR ((hX.mem x).mp hx).1 ((hX.mem x).mp hx).2))))) hid) ao))) rfl ⟨hP2.mono (by omega),wx hW (by omega) (by omega) hC (by omega) (λr=>?_) (by rw [List.length_map];exact xl)⟩)
  rw [List.mem_map]
  constructor
  ·rintro ⟨k,hk,rfl⟩
   have kb:=(hX.mem k).mp hk
   rw [List.getD_eq_getElem?_getD,List.getElem?_eq_getElem (by omega)]
   exact List.getElem_mem _
  ·intro hr'
   obtain ⟨j,hj⟩:=List.mem_iff_getElem?.mp hr'
   have jl:=(List.getElem?_eq_some_iff.mp hj).1
   exact ⟨(j:Int),(hX.mem _).mpr (by omega),by rw [show ((j:Int)).toNat=j by omega,List.getD_eq_getElem?_getD,hj];rfl⟩
end
end K1
namespace Fc
open PySem PySem.Spec L2
open PyProof.Rows hiding St
section
variable {X:Cx}{Γ Γ1 Γ2 Γ3:Ga}{α β γ δ:Type}{N:Ga->Prop}{T:RT}
theorem nQ {a:Expr}{p pos:Pos}{r:Row}(hm:X.mg "list"=none)(ha:EV X a Γ aB r Γ1)(hs:starEach [a] X.env=[(false,eval a X.env)]:=by rfl)(hg:Gl X "list":=by rfl):aU X (.Call (.Name "list" p) [a] [] pos) Γ ab (mH r) Γ1:=λσ H0 R0 H R E Q q=>by
 refine eS (dN fh hg hm PyProof.Rows.boot_list (aQ aD bF hs) (by decide) (by decide) hs) (ha σ H0 R0 H R E _ λv H1 R1 E1 s1 e1=>?_)
 obtain ⟨b,rfl,hb⟩:=e1
 refine ⟨b,_,rfl,.inr (cU.of (E1.sub _ _ hb)),λl hl=>?_⟩
 exact q l _ _ R1 (E1.grow (Ext.bW E1.sub hl _)) s1 ar (E1.sub.free hl) (E1.ext.h.free hl) (E1.off hl) (paired_ints (mH r)) (by show 4<=sizeLine;decide)
theorem EV.BV {e:Expr}{r:Row}(h:EV X e Γ (ae ab) (mH r) Γ1):EV X e Γ eX r Γ1:=EV.rep h λK R q=>by
 obtain ⟨b,vs,e,hb,pp,_⟩:=q
 exact ⟨b,e,by rw [hb,c9 pp];rfl⟩
end
end Fc
namespace K1
open PySem L2 Fc
open PySem.Spec hiding Row
open PyProof.Rows hiding St
open PySem.Builtin.Int (intBits)
def rowOf (v:aN)(k:Int):Row:=v.2.getD k.toNat bR
section
variable {P:Program}{w:World}{K:PySem.W.Frag}{mg:Str->Option Value}{base:Heap}{f:Addr}{fd:FuncData}
abbrev rC:Stmt:=top nC
theorem zw:ax ["_law_web_here"] ["_law_web_here"] (ag rC):=⟨rfl,rfl,rfl,by decide +kernel,rfl,by decide +kernel,by decide +kernel⟩
def Bh:bN:=λK ps T=>∃v:aN,ps=[⟨bZ,v⟩]/\T=bG K bZ (· =v)
theorem AR (M:bP mg)(F:bz K "_law_copy" "_law_copy" rC f fd)(hm:mg "_law_copy"=some (.ref f))(hb:Binds K fd ["_law_web_here"] []):aw P w K mg base "_law_copy" 1 (aC Bh K):=by
 have nd:=zw.nd
 have nd1:List.Nodup [("_law_row":Str)]:=by decide
 refine bD F zw hm hb (λqs T ⟨_,e,_⟩=>by rw [e];rfl) (λcdv A outer s H E qs T hr hS=>?_)
 obtain ⟨v,rfl,rfl⟩:=hS
 change WS _ _ [.im (az (ae ab) (ae aB)) v] _ _
 have hid:((v.2.filter λ_=>true).map λr=>r)=v.2:=by rw [List.filter_eq_self.mpr (by simp)];simp
 exact ak (bq (r:=az (ae ab) (ae aB)) (dv (af (aU.im (sO M.list (c5 (r:=ae ab) (r':=ae aB) (aa 0 rfl)))) (af (EV.cast (aU.im (aT (own:=["_law_row"]) (fr:=[]) (ix:=[]) (ra:=aB) (rb:=aB) (p:=λ_=>true) (f:=λr=>r) (aM (so:=ag rC) (N0:=["_law_web_here"]) rfl rfl (λx h=>aE h) (by decide +kernel)) (aK (bO (r:=ae ab) (r':=ae aB) (aa 0 rfl)))
  (λC s H ex=>aA 0) (λx=>⟨.inr rfl,trivial⟩) (λC s H ex x hx=>bA) (λC s H ex x hx _=>lB M.tuple (EV.BV (aU.im (nQ M.list (aa 0 rfl))))))) hid) ao))) rfl)
end
end K1
namespace Fc
open PySem PySem.Spec L2
open PyProof.Rows hiding St
section
variable {X:Cx}{Γ Γ1 Γ2 Γ3:Ga}{α β γ δ:Type}{N:Ga->Prop}{T:RT}
def BY:Rep (Int->Bool):=⟨λK H v g=>∃kvs,js.R K H v kvs/\∀k,dR kvs k=g k,λs ⟨kvs,a,b⟩=>⟨kvs,js.mono s a,b⟩⟩
theorem wu {a b:Expr}{pos:Pos}{g:Int->Bool}{k:Int}(hu:X.A.units + 1 < cLine)(ha:EV X a Γ ab k Γ1)(hb:EV X b Γ1 BY g Γ2)(hm:behindInMarks .In b=false:=by first | exact ju _ | with_unfolding_all rfl):EV X (.Compare a [.In] [b] pos) Γ aF (g k) Γ2:=by
 intro σ H0 R0 H R E Q q
 refine eS (rK (l8 hu aD aD) hm) (ha σ H0 R0 H R E _ λv H1 R1 E1 s1 e1=>hb σ H0 R0 H1 R1 E1 _ λu H2 R2 E2 s2 e2=>?_)
 cases e1
 obtain ⟨kvs,⟨p,rfl,hp⟩,hk⟩:=e2
 refine ⟨p,_,rfl,dE.k (k:=Sum.inl k) (E2.sub _ _ hp),?_⟩
 rw [fZ,hk]
 exact q _ H2 R2 E2 (s1.trans s2) rfl
theorem tj {S:bN}{x:Str}{k:Nat}{e:Expr}{es:List Expr}{p pos:Pos}{ps:List Pk}{r:Rep α}{Pd:α->Prop}{r':Rep β}{y:β}(C:aw X.prog X.w X.K X.mg X.base x k (aC S X.K))(hr:bt k X.A)(ha:HA X (e::es) Γ ps Γ1)(hS:S X.K ps (bG X.K r Pd))(hc:∀(R:Hp) v z,Pd z->r.R X.K R v z->r'.R X.K R v y)
 (hg:Gl X x:=by rfl) (hdb:(x==("__debug__":Str))=false:=by decide) (he:starEach (e::es) X.env=(false,eval e X.env)::starEach es X.env:=by rfl) (hpl:(backTo pos (starEach es X.env)).any (·.1)=false:=by rfl):EV X (.Call (.Name x p) (e::es) [] pos) Γ r' y Γ1:=λσ H0 R0 H R E Q q=>
 cH C hr ha hS E (λH1 R1 v H' R' E1 s1 xx t=>by
  obtain ⟨z,e1,hz⟩:=t
  exact q v H' R' (E1.grow xx) (s1.trans xx.r) (hc _ _ _ hz e1)) hg hdb he hpl
end
end Fc
namespace K1
open PySem L2 Fc
open PySem.Spec hiding Row
open PyProof.Rows hiding St
open PySem.Builtin.Int (intBits)
section
variable {P:Program}{w:World}{K:PySem.W.Frag}{mg:Str->Option Value}{base:Heap}{f:Addr}{fd:FuncData}
abbrev vk:Stmt:=top nP
theorem yA:ax ["web"] ["web"] (ag vk):=⟨rfl,rfl,rfl,by decide +kernel,rfl,by decide +kernel,by decide +kernel⟩
def Bx:bN:=λK ps T=>∃v:aN,ps=[⟨bZ,v⟩]/\bg v/\T=bG K kG (λ_=>True)
theorem Aj (CW:aw P w K mg base "is_web" 5 (aC Bw K))(F:bz K "need_web" "need_web" vk f fd)(hm:mg "need_web"=some (.ref f))(hb:Binds K fd ["web"] []):aw P w K mg base "need_web" 6 (aC Bx K):=by
 have nd:=yA.nd
 refine mX F yA hm hb (λqs T ⟨_,e,_⟩=>by rw [e];rfl) (λcdv A outer s H E qs T hr hS=>?_)
 obtain ⟨v,rfl,hv,rfl⟩:=hS
 have pl:=hv.pl
 have rl:=hv.rl
 refine ⟨λ_ _ _=>⟨(),rfl,trivial⟩,?_⟩
 change WS _ _ [.im bZ v] _ _
 refine ak (bQ (bI (bh (aW CW hr (af (aa 0 rfl) ao) ⟨v,rfl,by omega,by omega,rfl⟩))) (λh=>?_) (λh=>a9 trivial))
 rw [hv.AK] at h;exact absurd h (by decide)
end
section
variable {P:Program}{w:World}{K:PySem.W.Frag}{mg:Str->Option Value}{base:Heap}{f:Addr}{fd:FuncData}
abbrev vy:Stmt:=top oZ
theorem xG:ax ["web","part"] ["web","part"] (ag vy):=⟨rfl,rfl,rfl,by decide +kernel,rfl,by decide +kernel,by decide +kernel⟩
def Bo:bN:=λK ps T=>∃(v:aN) (p:Int),ps=[⟨bZ,v⟩,⟨ab,p⟩]/\0<=p/\p < (v.1.length:Int)/\T=bG K aF (· =true)
theorem AB (M:bP mg)(CI:aw P w K mg base "is_whole" 1 (aC qv K))(F:bz K "is_part" "is_part" vy f fd)(hm:mg "is_part"=some (.ref f))(hb:Binds K fd ["web","part"] []):aw P w K mg base "is_part" 2 (aC Bo K):=by
 have nd:=xG.nd
 refine bD F xG hm hb (λqs T ⟨_,_,e,_⟩=>by rw [e];rfl) (λcdv A outer s H E qs T hr hS=>?_)
 obtain ⟨v,p,rfl,p0,p1,rfl⟩:=hS
 change WS _ _ [.im (az (ae ab) (ae aB)) v,.im ab p] _ _
 refine ak (bq (dC (aW CI hr (af (aa 1 rfl) ao) ⟨p,rfl,rfl⟩) (λ_=>dA (fD dU dY au (aa 1 rfl) (cR M.len (c5 (aa 0 rfl)))))) ?_)
 simp [p0,p1]
abbrev uK:Stmt:=top mI
theorem za:ax ["web","part"] ["web","part"] (ag uK):=⟨rfl,rfl,rfl,by decide +kernel,rfl,by decide +kernel,by decide +kernel⟩
def Be:bN:=λK ps T=>∃(v:aN) (p:Int),ps=[⟨bZ,v⟩,⟨ab,p⟩]/\bg v/\0<=p/\p < (v.1.length:Int)/\T=bG K kG (λ_=>True)
theorem AD (CN:aw P w K mg base "need_web" 6 (aC Bx K))(CI:aw P w K mg base "is_part" 2 (aC Bo K))(F:bz K "need_part" "need_part" uK f fd)(hm:mg "need_part"=some (.ref f))(hb:Binds K fd ["web","part"] []):aw P w K mg base "need_part" 7 (aC Be K):=by
 have nd:=za.nd
 have CI:=CI.mono (show 2<=6 by decide)
 refine mX F za hm hb (λqs T ⟨_,_,e,_⟩=>by rw [e];rfl) (λcdv A outer s H E qs T hr hS=>?_)
 obtain ⟨v,p,rfl,hv,p0,p1,rfl⟩:=hS
 refine ⟨λ_ _ _=>⟨(),rfl,trivial⟩,?_⟩
 change WS _ _ [.im bZ v,.im ab p] _ _
 refine ah (gh CN hr (af (aa 0 rfl) ao) ⟨v,rfl,hv,rfl⟩ ?_)
 refine ak (bQ (bI (bh (aW CI hr (af (aa 0 rfl) (af (aa 1 rfl) ao)) ⟨v,p,rfl,p0,p1,rfl⟩))) (λh=>?_) (λh=>a9 trivial))
 exact absurd h (by decide)
end
section
variable {P:Program}{w:World}{K:PySem.W.Frag}{mg:Str->Option Value}{base:Heap}{f:Addr}{fd:FuncData}
abbrev n8:Stmt:=top mr
abbrev uM:List Str:=["_law_web_here","_law_part_here","_law_place"]
theorem yt:ax uM uM (ag n8):=⟨rfl,rfl,rfl,by decide +kernel,rfl,by decide +kernel,by decide +kernel⟩
def fromF (v:aN)(p q:Int):List Int:=(ups 0 v.2.length).filter λk=>decide (((rowOf v k).1,(rowOf v k).2.1)=(p,q))
def uG:bN:=λK ps T=>∃(v:aN) (p q:Int),ps=[⟨bZ,v⟩,⟨ab,p⟩,⟨ab,q⟩]/\v.2.length<=60/\T=bG K (ae ab) (· =fromF v p q)
theorem Ay (M:bP mg)(F:bz K "_law_from" "_law_from" n8 f fd)(hm:mg "_law_from"=some (.ref f))(hb:Binds K fd uM []):aw P w K mg base "_law_from" 1 (aC uG K):=by
 have nd:=yt.nd
 have nd1:List.Nodup [("_law_k":Str),"_law_part_here","_law_place","_law_web_here"]:=by decide
 refine bD F yt hm hb (λqs T ⟨_,_,_,e,_⟩=>by rw [e];rfl) (λcdv A outer s H E qs T hr hS=>?_)
 obtain ⟨v,p,q,rfl,rl,rfl⟩:=hS
 have hu:(A.deeper (envOfC "_law_from" (ag n8) s.heap.objs.size f cdv)).units + 1 < cLine:=Nat.lt_of_le_of_lt (Nat.add_le_add_left (by decide:1<=64) _) hr.units
 change WS _ _ [.im (az (ae ab) (ae aB)) v,.im ab p,.im ab q] _ _
 have el:((v.2.length:Int)).toNat=v.2.length:=by omega
 have hid:(((ups 0 ((v.2.length:Int)).toNat).filter λk=>decide (((rowOf v k).1,(rowOf v k).2.1)=(p,q))).map λk=>k)=fromF v p q:=by rw [el];simp [fromF]
 exact ak (bq (EV.cast (aU.im (aT (own:=["_law_k"]) (fr:=["_law_part_here","_law_place","_law_web_here"]) (ix:=[1,2,0]) (ra:=ab) (rb:=ab) (p:=λk=>decide (((rowOf v k).1,(rowOf v k).2.1)=(p,q))) (f:=λk=>k) (aM (so:=ag n8) (N0:=uM) rfl rfl (λx h=>aE h) (by decide +kernel)) (cW M.range (cR M.len (bO (aa 0 rfl))) ⟨by omega,by omega⟩)
  (λC s H ex=>aA 0) (λx=>⟨.inr rfl,.inl rfl,.inl rfl,.inl rfl,trivial⟩)
  (λC s H ex x hx=>gp (bj (y:=(p,q)) (p9 eq_int eq_int hu hu) (ui (bB (bO (aa 3 rfl)) (aa 0 rfl) (cv bR (by have:=bo.mp hx;omega) (by have:=bo.mp hx;omega)))) (dv (af (aa 1 rfl) (af (aa 2 rfl) ao)))))
  (λC s H ex x hx _=>aa 0 rfl))) hid) rfl)
end
open Classical in
noncomputable def jN (v:aN)(p:Int):Bool:=decide (aX v.2 p.toNat)
theorem Reach.head {es:List (Int×Int)}{a b:Int}(h:(a,b)∈es){k:Int}(r:Reach es b k):Reach es a k:=Reach.sub (.step .base h) (λ_ _ x y=>.step x y) r
open Classical in
noncomputable def cE (es:List (Int×Int))(a:Int):Nat:=((ups 0 16).filter λk=>decide (Reach es a k)).length
open Classical in
theorem oU {es:List (Int×Int)}{a b:Int}(h:(a,b)∈es)(hn:¬Reach es b a)(a0:0<=a)(a1:a < 16):cE es b < cE es a:=by
 unfold cE
 have nd:∀g:Int->Bool,((ups 0 16).filter g).Nodup:=λg=>(eO 16).filter g
 have:=fC (xs:=a::(ups 0 16).filter λk=>decide (Reach es b k)) (ys:=(ups 0 16).filter λk=>decide (Reach es a k)) (List.nodup_cons.mpr ⟨λhm=>hn (of_decide_eq_true (List.mem_filter.mp hm).2),nd _⟩) λx hx=>by
  rcases List.mem_cons.mp hx with rfl | hx
  ·exact List.mem_filter.mpr ⟨bo.mpr ⟨a0,by omega⟩,decide_eq_true .base⟩
  ·obtain ⟨m1,m2⟩:=List.mem_filter.mp hx
   exact List.mem_filter.mpr ⟨m1,decide_eq_true (Reach.head h (of_decide_eq_true m2))⟩
 rw [List.length_cons] at this
 omega
theorem jb {v:aN}(hv:bg v){p:Int}(p0:0<=p):aX v.2 p.toNat↔∀t∈fwd v.2 p,¬Reach (fwd v.2 p) t.2 t.1:=by
 have ep:((p.toNat:Nat):Int)=p:=by omega
 constructor
 ·rintro ⟨rk,hrk⟩ ⟨a,b⟩ ht hR
  have up:∀x y,(x,y)∈fwd v.2 p->rk x < rk y:=λx y h=>by
   obtain ⟨r,hr,r1,r2,r3⟩:=fc.mp h
   rw [← r2,← r3];exact hrk r hr (by omega)
  have:rk b<=rk a:=Reach.sub (P:=λk=>rk b<=rk k) (Int.le_refl _) (λx y hx hxy=>Int.le_trans hx (Int.le_of_lt (up x y hxy))) hR
  have:=up a b ht
  omega
 ·intro h
  refine ⟨λq=> -(cE (fwd v.2 p) q:Int),λr hr r1=>?_⟩
  have ht:(r.2.1,r.2.2.1)∈fwd v.2 p:=fc.mpr ⟨r,hr,by omega,rfl,rfl⟩
  have rp:=hv.dk hr
  have s0:=rp.s0;have sn:=rp.sn;have q1:=rp.p1;have q0:=rp.p0
  have sz:=hv.sz (v.1.getD r.1.toNat 0) (by rw [List.getD_eq_getElem?_getD,List.getElem?_eq_getElem (by omega)];exact List.getElem_mem _)
  have:=oU ht (h _ ht) s0 (by omega)
  show -(cE (fwd v.2 p) r.2.1:Int) < -(cE (fwd v.2 p) r.2.2.1:Int)
  omega
open Classical in
noncomputable def gc (es:List (Int×Int))(s k:Int):Bool:=decide (Reach es s k)
section
variable {P:Program}{w:World}{K:PySem.W.Frag}{mg:Str->Option Value}{base:Heap}{f:Addr}{fd:FuncData}
def BI:bN:=λK ps T=>∃(v:aN) (p:Int),ps=[⟨bZ,v⟩,⟨ab,p⟩]/\bg v/\0<=p/\p < (v.1.length:Int)/\T=bG K aF (· =jN v p)
abbrev nD:Stmt:=top nO
abbrev zc:List Str:=["web","part","leads"]
theorem y9:ax zc ["web","part"] (ag nD):=⟨rfl,rfl,rfl,by decide +kernel,rfl,by decide +kernel,by decide +kernel⟩
theorem Al (M:bP mg)(CN:aw P w K mg base "need_part" 7 (aC Be K))(CR:aw P w K mg base "reached" 1 (aC y8 K))(F:bz K "is_loose" "is_loose" nD f fd)(hm:mg "is_loose"=some (.ref f))(hb:Binds K fd ["web","part"] []):aw P w K mg base "is_loose" 8 (aC BI K):=by
 have nd:=y9.nd
 have nd1:List.Nodup [("row":Str),"part"]:=by decide
 have nd2:List.Nodup [("lead":Str),"leads"]:=by decide
 have CR:=CR.mono (show 1<=7 by decide)
 refine bD F y9 hm hb (λqs T ⟨_,_,e,_⟩=>by rw [e];rfl) (λcdv A outer s H E qs T hr hS=>?_)
 obtain ⟨v,p,rfl,hv,p0,p1,rfl⟩:=hS
 have hu:(A.deeper (envOfC "is_loose" (ag nD) s.heap.objs.size f cdv)).units + 1 < cLine:=Nat.lt_of_le_of_lt (Nat.add_le_add_left (by decide:1<=64) _) hr.units
 have rl:=hv.rl
 change WS _ _ [.im (az (ae ab) (ae aB)) v,.im ab p,.no] _ _
 refine ah (gh CN hr (af (aa 0 rfl) (af (aa 1 rfl) ao)) ⟨v,p,rfl,hv,p0,p1,rfl⟩ ?_)
 refine ah (aO 2 (aU.im (aT (own:=["row"]) (fr:=["part"]) (ix:=[1]) (p:=λr=>decide (r.1=p)) (f:=λr=>(r.2.1,r.2.2.1)) (aM (so:=ag nD) (N0:=zc) rfl rfl (λx h=>aE h) (by decide +kernel)) (aK (bO (aa 0 rfl)))
  (λC s H ex=>aA 0) (λx=>⟨.inr rfl,.inl rfl,trivial⟩) (λC s H ex x hx=>gp (bj eG (ff (aa 0 rfl)) (aa 1 rfl))) (λC s H ex x hx _=>dv (af (ez (aa 0 rfl)) (af (cQ (aa 0 rfl)) ao))))) ?_)
 change WS _ _ [.im (az (ae ab) (ae aB)) v,.im ab p,.im (ae jo) (fwd v.2 p)] _ _
 have fl:(fwd v.2 p).length<=100000:=by
  unfold fwd
  rw [List.length_map]
  have:=List.length_filter_le (λr:Row=>decide (r.1=p)) v.2
  omega
 refine ak (bq (nG (sF M.any (aU.im (aT (own:=["lead"]) (fr:=["leads"]) (ix:=[2]) (ra:=jo) (rb:=aF) (p:=λ_=>true) (f:=λt=>gc (fwd v.2 p) t.2 t.1) (aM (so:=ag nD) (N0:=zc) rfl rfl (λx h=>aE h) (by decide +kernel)) (aK (aa 2 rfl))
  (λC s H ex=>aA 0) (λx=>⟨.inr rfl,.inl rfl,trivial⟩) (λC s H ex x hx=>bA) (λC s H ex x hx _=>wu (g:=gc (fwd v.2 p) x.2) hu (c5 (aa 0 rfl)) (tj CR hr (af (aa 1 rfl) (af (bO (aa 0 rfl)) ao)) ⟨_,_,rfl,fl,rfl⟩ λR u z hz hR=>⟨z,hR,λk=>?_⟩)))))) ?_)
 ·rw [Bool.eq_iff_iff]
  unfold gc
  classical
  show _↔decide (Reach (fwd v.2 p) x.2 k)=true
  rw [decide_eq_true_iff,← hz.2 k]
  unfold dR
  rw [List.any_eq_true,List.mem_map]
  constructor
  ·rintro ⟨q,h,e⟩;exact ⟨q,h,of_decide_eq_true e⟩
  ·rintro ⟨q,h,e⟩;exact ⟨q,h,decide_eq_true e⟩
 ·unfold jN
  classical
  rw [Bool.eq_iff_iff]
  show _↔decide (aX v.2 p.toNat)=true
  rw [decide_eq_true_eq,jb hv p0,Bool.not_eq_true',List.any_eq_false]
  constructor
  ·intro h t ht hR
   refine h (gc (fwd v.2 p) t.2 t.1) (List.mem_map.mpr ⟨t,List.mem_filter.mpr ⟨ht,rfl⟩,rfl⟩) ?_
   unfold gc;exact decide_eq_true hR
  ·intro h b hb
   obtain ⟨t,ht,rfl⟩:=List.mem_map.mp hb
   unfold gc
   have:=h t (List.mem_filter.mp ht).1
   simpa using this
end
end K1
namespace Fc
open PySem PySem.Spec L2
open PyProof.Rows hiding St
section
variable {X:Cx}{Γ Γ1 Γ2 Γ3:Ga}{α β γ δ:Type}{N:Ga->Prop}{T:RT}
end
section
variable {X:Cx}{Γ Γ1 Γ2 Γ3:Ga}{α β γ δ:Type}{N:Ga->Prop}{T:RT}
variable {as:List Addr}{r:Rep α}{xss:List (List α)}{H R:Hp}{K:PySem.W.Frag}{xs:List α}{b:Addr}{j:Nat}{x:Str}{p1:Pos}{a:Addr}{pos:Pos}
def dH (K:PySem.W.Frag)(r:Rep α)(H R:Hp)(as:List Addr)(xss:List (List α)):Prop:=as.length=xss.length/\∀(i:Nat) (b:Addr) (xs:List α),as[i]?=some b->xss[i]?=some xs->∃ws,H b=some (.lst ws)/\PySem.Paired (r.R K R) ws xs
theorem dH.at_ (h:dH K r H R as xss){i:Nat}(hx:xss[i]?=some xs):∃b ws,as[i]?=some b/\H b=some (.lst ws)/\PySem.Paired (r.R K R) ws xs:=by
 have hl:i < as.length:=by rw [h.1];exact (List.getElem?_eq_some_iff.mp hx).1
 obtain ⟨ws,h1,h2⟩:=h.2 i _ xs (List.getElem?_eq_getElem hl) hx
 exact ⟨_,ws,List.getElem?_eq_getElem hl,h1,h2⟩
theorem dH.one (h:dH K r H R as xss)(hb:b∈as):∃ws,H b=some (.lst ws):=by
 obtain ⟨i,hi,rfl⟩:=List.mem_iff_getElem.mp hb
 obtain ⟨ws,h1,_⟩:=h.2 i _ _ (List.getElem?_eq_getElem hi) (List.getElem?_eq_getElem (by rw [← h.1];exact hi))
 exact ⟨ws,h1⟩
theorem dH.loc {H' R':Hp}(h:dH K r H R as xss)(e:∀a∈as,H' a=H a)(s:aj R R'):dH K r H' R' as xss:=
 ⟨h.1,λi b xs h1 h2=>by
   obtain ⟨ws,q1,q2⟩:=h.2 i b xs h1 h2
   exact ⟨ws,(e b (List.mem_of_getElem? h1)).trans q1,Paired.map (λ_ _=>r.mono s) q2⟩⟩
theorem dH.put (h:dH K r H R as xss)(nd:as.Nodup){ws:List V}(hb:as[j]?=some b)(hp:PySem.Paired (r.R K R) ws xs):dH K r (upd H b (.lst ws)) R as (xss.set j xs):=by
 refine ⟨by rw [List.length_set];exact h.1,λi c q h1 h2=>?_⟩
 by_cases hij:i=j
 ·subst hij
  rw [hb] at h1;cases h1
  have hl:i < xss.length:=by rw [← h.1];exact (List.getElem?_eq_some_iff.mp hb).1
  rw [List.getElem?_set_self hl] at h2;cases h2
  exact ⟨ws,ar,hp⟩
 ·rw [List.getElem?_set_ne (Ne.symm hij)] at h2
  have:c≠b:=λz=>by
   subst z
   have l1:=(List.getElem?_eq_some_iff.mp h1)
   have l2:=(List.getElem?_eq_some_iff.mp hb)
   exact hij ((List.getElem_inj (h₀:=l1.1) (h₁:=l2.1) nd).mp (l1.2.trans l2.2.symm))
  rw [ay this];exact h.2 i c q h1 h2
theorem dH.snoc (h:dH K r H R as xss){ws:List V}(hb:H b=some (.lst ws))(hp:PySem.Paired (r.R K R) ws xs):dH K r H R (as++[b]) (xss++[xs]):=by
 refine ⟨by rw [List.length_append,List.length_append,h.1];rfl,λi c q h1 h2=>?_⟩
 rcases Nat.lt_or_ge i as.length with hl | hl
 ·rw [List.getElem?_append_left hl] at h1
  rw [List.getElem?_append_left (by rw [← h.1];exact hl)] at h2
  exact h.2 i c q h1 h2
 ·rw [List.getElem?_append_right hl] at h1
  rw [List.getElem?_append_right (by rw [← h.1];exact hl)] at h2
  have e:i - as.length=0:=by
   have:=(List.getElem?_eq_some_iff.mp h1).1
   simp at this;omega
  rw [e] at h1
  rw [← h.1,e] at h2
  simp at h1 h2
  rw [← h1,← h2];exact ⟨ws,hb,hp⟩
def j6 (r:Rep α)(a:Addr)(as:List Addr)(xss:List (List α)):g9 where
 fp:=a::as
 R:=λK H R v=>v= .ref a/\H a=some (.lst (as.map .ref))/\dH K r H R as xss/\(a::as).Nodup
 loc:=λhH hR ⟨e,h1,h2,h3⟩=>⟨e,(hH a List.mem_cons_self).trans h1,h2.loc (λb hb=>hH b (List.mem_cons_of_mem _ hb)) hR,h3⟩
 has:=λ⟨e,h1,h2,h3⟩ b hb=>by
  rcases List.mem_cons.mp hb with rfl | hb
  ·rw [h1];exact Option.some_ne_none _
  ·obtain ⟨r,hr⟩:=h2.one hb
   rw [hr];exact Option.some_ne_none _
theorem xm {k:Int}(hk:eW as.length k=some j)(hb:as[j]?=some b):cO (as.map V.ref) k=some (.ref b):=by
 unfold cO
 rw [List.length_map,hk]
 show (as.map V.ref)[j]?=_
 rw [List.getElem?_map,hb];rfl
theorem yP (i:Nat){b:Expr}{p2:Pos}{k:Int}{σ:St}{H0 R0:Hp}{Q:VK}(hb:EV X b Γ ab k Γ)(hΓ:Γ[i]?=some (.ob (j6 r a as xss)))(hk:eW xss.length k=some j)(E:ai X.K σ H0 R0 H R Γ)
 (q:∀c H' R',ai X.K σ H0 R0 H' R' Γ->aj R R'->as[j]?=some c->Q (.ref c) H')
 (hN:X.N[i]?=some x) (hv:bT X.env.scope x) (hd:(x==("__debug__":Str))=false) (hcd:(x==("__classdict__":Str))=false) (hsx:ef b):cN X (.Subscript (.Name x p1) b p2) σ H Q:=by
 obtain ⟨⟨v,ea,rfl,ha,hr,_⟩,hR⟩:=E.ent i _ hΓ
 refine eS (eZ dM (aP hN hv hd hcd) aD hsx) ⟨.ref a,at_of ea,hb σ H0 R0 H R E _ λu H2 R2 E2 s2 e2=>?_⟩
 obtain ⟨⟨v,ea2,e3,ha2,hr2,nd⟩,hR2⟩:=E2.ent i _ hΓ
 have hl:j < as.length:=by rw [hr2.1];exact (kz hk).2.1
 exact ⟨a,_,k,.ref as[j],rfl,e2,aH.of ha2,xm (by rw [hr2.1];exact hk) (List.getElem?_eq_getElem hl),q _ H2 R2 E2 s2 (List.getElem?_eq_getElem hl)⟩
theorem pK (i:Nat){b e:Expr}{p2 ap cp:Pos}{k:Int}{y:α}(hb:EV X b Γ ab k Γ)(he:EV X e Γ r y Γ)(hΓ:Γ[i]?=some (.ob (j6 r a as xss)))(hk:eW xss.length k=some j)(hx:xss[j]?=some xs)(hz:xs.length < sizeLine)(h:N (Γ.set i (.ob (j6 r a as (xss.set j (xs++[y]))))))
 (hN:X.N[i]?=some x:=by rfl) (hv:bT X.env.scope x:=by first | exact Or.inl rfl | exact Or.inr (Or.inl rfl) | exact Or.inr (Or.inr rfl))
 (hd:(x==("__debug__":Str))=false:=by decide) (hcd:(x==("__classdict__":Str))=false:=by decide) (hsx:ef b:=by exact λ_ _=>rfl)
 (hsw:swapsWith (.Call (.Attribute (.Subscript (.Name x p1) b p2) "append" ap) [e] [] cp) none pos.line X.env=pure false:=by rfl)
 (hbase:attributeBase (.Subscript (.Name x p1) b p2) "append" X.env (eval (.Subscript (.Name x p1) b p2) X.env)=eval (.Subscript (.Name x p1) b p2) X.env:=by rfl)
 (hfew:((backTo cp (starEach [e] X.env)).all (λx=> !x.1)&&(backToKw cp (keywordEach [] X.env)).all (λx=>x.1.isSome)
  &&decide ([e].length + ([]:List Keyword).length + (if ([]:List Keyword).isEmpty then 0 else 1) < 30))=true:=by rfl)
 (hline:(ap.endLine==cp.line)=true:=by rfl) (hs:starEach [e] X.env=(false,eval e X.env)::starEach [] X.env:=by rfl):W1 X (.Expr (.Call (.Attribute (.Subscript (.Name x p1) b p2) "append" ap) [e] [] cp) pos) Γ N T:=λσ H0 R0 H R E D dn dr=>by
 refine sS (eu (kd PySem.F.plainAttrs_list PySem.F.slot_list_append PySem.F.type_list_append lA aD (aQ aD bF hs) hbase hfew hline hs rfl) hsw) ?_
 refine yP i hb hΓ hk E (λc H1 R1 E1 s1 hc=>?_) hN hv hd hcd hsx
 obtain ⟨⟨v,ea1,rfl,ha1,hr1,nd1⟩,hR1⟩:=E1.ent i _ hΓ
 obtain ⟨ws1,q1,q2⟩:=hr1.2 j c xs hc hx
 refine ⟨.inl ⟨rfl,_,aH.of q1⟩,he σ H0 R0 H1 R1 E1 _ λu H2 R2 E2 s2 e2=>?_⟩
 obtain ⟨⟨v,ea2,rfl,ha2,hr2,nd2⟩,hR2⟩:=E2.ent i _ hΓ
 obtain ⟨ws2,q1,q2⟩:=hr2.2 j c xs hc hx
 obtain ⟨n1,n2⟩:=List.nodup_cons.mp nd2
 have cm:c∈as:=List.mem_of_getElem? hc
 refine ⟨c,ws2,u,rfl,rfl,q1,by rw [q2.length];exact hz,?_⟩
 refine dn σ _ R2 _ (E2.l9 (en:=.ob (j6 r a as (xss.set j (xs++[y])))) hΓ (List.mem_cons_of_mem _ cm) ⟨⟨.ref a,ea2,rfl,?_,hr2.put n2 hc (bE q2 (.cons e2 .nil)),nd2⟩,hR2⟩ λc w=>.inl w) (s1.trans s2) h
 rw [ay (show a≠c from λz=>n1 (z▸cm))];exact ha2
def qB (K:PySem.W.Frag)(r:Rep α)(P:List (List α)->Prop):RT:=λH0 v H' R'=>∃a as xss,v= .ref a/\(∀b∈a::as,H0 b=none/\R' b=none)/\H' a=some (.lst (as.map .ref))/\dH K r H' R' as xss/\(a::as).Nodup/\P xss
theorem yr (i:Nat){P:List (List α)->Prop}(hΓ:Γ[i]?=some (.ob (j6 r a as xss)))(h:P xss)(hN:X.N[i]?=some x:=by rfl)(hv:bT X.env.scope x:=by first | exact Or.inl rfl | exact Or.inr (Or.inl rfl) | exact Or.inr (Or.inr rfl))
 (hd:(x==("__debug__":Str))=false:=by decide) (hcd:(x==("__classdict__":Str))=false:=by decide):W1 X (.Return (some (.Name x p1)) pos) Γ N (qB X.K r P):=λσ H0 R0 H R E D dn dr=>by
 obtain ⟨⟨v,ea,rfl,ha,hr,nd⟩,hR⟩:=E.ent i _ hΓ
 exact sS (c7 (aP hN hv hd hcd)) ⟨.ref a,at_of ea,dr _ H R E.ext ⟨a,as,xss,rfl,λb hb=>⟨E.nw i _ b hΓ hb,hR b hb⟩,ha,hr,nd,h⟩⟩
def fQ (R H:Hp)(l:List Addr):Hp:=λb=>if b∈l then H b else R b
theorem wW (i:Nat){P:List (List α)->Prop}(hΓ:Γ[i]?=some (.ob (j6 r a as xss)))(hz:xss.length<=sizeLine)(hzi:∀xs∈xss,xs.length<=sizeLine)(h:P xss)(hN:X.N[i]?=some x:=by rfl)(hv:bT X.env.scope x:=by first | exact Or.inl rfl | exact Or.inr (Or.inl rfl) | exact Or.inr (Or.inr rfl))
 (hd:(x==("__debug__":Str))=false:=by decide) (hcd:(x==("__classdict__":Str))=false:=by decide):W1 X (.Return (some (.Name x p1)) pos) Γ N (hU X.K (ae r) P):=λσ H0 R0 H R E D dn dr=>by
 obtain ⟨⟨v,ea,rfl,ha,hr,nd⟩,hR⟩:=E.ent i _ hΓ
 obtain ⟨n1,n2⟩:=List.nodup_cons.mp nd
 have sR:aj R (fQ R H as):=λb o q=>by
  unfold fQ
  split
  ·rename_i hb
   rw [hR b (List.mem_cons_of_mem _ hb)] at q;cases q
  ·exact q
 have sH:aj (fQ R H as) H:=λb o q=>by
  unfold fQ at q
  split at q
  ·exact q
  ·exact E.sub b o q
 have pr:PySem.Paired ((ae r).R X.K (fQ R H as)) (as.map .ref) xss:=by
  have key:∀(bs:List Addr) (yss:List (List α)),(∀b∈bs,b∈as)->dH X.K r H R bs yss->(∀xs∈yss,xs.length<=sizeLine)->PySem.Paired ((ae r).R X.K (fQ R H as)) (bs.map .ref) yss:=by
   intro bs
   induction bs with
   | nil=>intro yss _ h _;cases yss with
     | nil=>exact .nil
     | cons _ _=>exact absurd h.1 (by simp)
   | cons b bs ih=>intro yss hm h hz;cases yss with
     | nil=>exact absurd h.1 (by simp)
     | cons ys yss=>
       obtain ⟨ws,q1,q2⟩:=h.2 0 b ys rfl rfl
       refine .cons ⟨b,ws,rfl,?_,Paired.map (λ_ _=>r.mono sR) q2,hz ys List.mem_cons_self⟩ (ih yss (λc hc=>hm c (List.mem_cons_of_mem _ hc)) ⟨by simpa using h.1,λi c xs h1 h2=>h.2 (i + 1) c xs (by simpa using h1) (by simpa using h2)⟩ λxs hx=>hz xs (List.mem_cons_of_mem _ hx))
       unfold fQ
       rw [if_pos (hm b List.mem_cons_self)];exact q1
  exact key as xss (λ_ h=>h) hr hzi
 refine sS (c7 (aP hN hv hd hcd)) ⟨.ref a,at_of ea,dr _ H (fQ R H as) ⟨E.ext.h,E.ext.r.trans sR,sH,λb hb=>?_⟩ ⟨a,_,xss,rfl,E.nw i _ a hΓ List.mem_cons_self,ha,?_,pr,hz,h⟩⟩
 ·unfold fQ
  rw [if_neg λz=>hb (E.nw i _ b hΓ (List.mem_cons_of_mem _ z))]
  exact E.ext.old b hb
 ·unfold fQ
  rw [if_neg n1];exact hR a List.mem_cons_self
end
def FlE:Ent->Prop
 | .no=>True
 | .im _ _=>True
 | _=>False
def lG:Ga->Prop
 | []=>True
 | e::r=>FlE e/\lG r
theorem lG.fp:∀{Γ:Ga},lG Γ->∀(i:Nat) (e:Ent),Γ[i]?=some e->∀o,e.fp o=[]
 | e::_,⟨h,_⟩,0,_,q,o=>by
   cases q
   cases e with
   | no=>rfl
   | im _ _=>rfl
   | mu _ _=>exact h.elim
   | di _=>exact h.elim
   | ob _=>exact h.elim
 | _::r,⟨_,h⟩,i + 1,e,q,o=>lG.fp h i e (by simpa using q) o
 | [],_,i,e,q,o=>by simp at q
theorem ai.vm {K:PySem.W.Frag}{σ:St}{H0 R0 H R:Hp}{Γ:Ga}(E:ai K σ H0 R0 H R Γ)(fl:lG Γ):ai K σ H R H R Γ:=
 ⟨⟨aj.refl _,aj.refl _,E.sub,λ_ _=>rfl⟩,E.ent,(λi e a q w=>by rw [fl.fp i e q] at w;cases w),(λi j e e' a q q' w w'=>by rw [fl.fp i e q] at w;cases w),E.len⟩
section
variable {X:Cx}{Γ Γ1 Γ2 Γ3:Ga}{α β γ δ:Type}{N:Ga->Prop}{T:RT}
def qX (X:Cx)(e:Expr)(Γ:Ga){α:Type}(r:Rep α)(P:List α->Prop)(Γ':Ga):Prop:=
 ∀(σ:St) (H0 R0 H R:Hp),ai X.K σ H0 R0 H R Γ->∀Q:VK,(∀a vs ys H' R',ai X.K σ H0 R0 H' R' Γ'->aj R R'->H' a=some (.lst vs)->R' a=none->H0 a=none->Off a σ Γ'->PySem.Paired (r.R X.K R') vs ys->ys.length<=sizeLine->P ys->Q (.ref a) H')->cN X e σ H Q
theorem aU.evr {e:Expr}{r:Rep α}{ys:List α}{P:List α->Prop}(h:aU X e Γ r ys Γ1)(hp:P ys):qX X e Γ r P Γ1:=λσ H0 R0 H R E Q q=>h σ H0 R0 H R E Q λa vs H' R' E' s' h1 h2 h3 h4 h5 h6=>q a vs ys H' R' E' s' h1 h2 h3 h4 h5 h6 hp
theorem tP {S:bN}{x:Str}{k:Nat}{e:Expr}{es:List Expr}{p pos:Pos}{ps:List Pk}{r:Rep α}{Pd:List α->Prop}(C:aw X.prog X.w X.K X.mg X.base x k (aC S X.K))(hr:bt k X.A)(ha:HA X (e::es) Γ ps Γ1)(hS:S X.K ps (hU X.K r Pd))
 (hg:Gl X x:=by rfl) (hdb:(x==("__debug__":Str))=false:=by decide) (he:starEach (e::es) X.env=(false,eval e X.env)::starEach es X.env:=by rfl) (hpl:(backTo pos (starEach es X.env)).any (·.1)=false:=by rfl):qX X (.Call (.Name x p) (e::es) [] pos) Γ r Pd Γ1:=λσ H0 R0 H R E Q q=>
 cH C hr ha hS E (λH1 R1 v H' R' E1 s1 xx t=>by
  obtain ⟨a,vs,zs,rfl,h0,ha,hR,pp,hz,hp⟩:=t
  exact q a vs zs H' R' (E1.grow xx) (s1.trans xx.r) ha hR (E1.ext.h.free h0) (λj e q w=>(Ent.cw (E1.ent j e q) w).1 h0) pp hz hp) hg hdb he hpl
theorem jD {tg elt:Expr}{scope:Scope}{cl:List (Str×Addr)}{own fr:List Str}{ix:List Nat}{ra:Rep α}{rb:Rep β}{xs:List α}{P:α->List β->Prop}{bf:α->Ga->Ga}{J:It}{σ:St}{H0 R0 H1 R1:Hp}{Q:VK}(E1:ai X.K σ H0 R0 H1 R1 Γ1)(src:Src X.K J R1 ra xs)(hz:xs.length<=sizeLine)
 (hb:∀(C:Addr) (s:Shared) (H:Hp) (ex:List Addr),BG (aq X scope cl C (own++fr) s H ex) tg ra bf) (hw:∀x,Wk (bf x (bc own ix Γ1)) (bc own ix Γ1)) (hfl:∀x,lG (bf x (bc own ix Γ1)))
 (he:∀(C:Addr) (s:Shared) (H:Hp) (ex:List Addr) x,x∈xs->qX (aq X scope cl C (own++fr) s H ex) elt (bf x (bc own ix Γ1)) rb (P x) (bf x (bc own ix Γ1)))
 (q:∀a bs yss H' R',Ext H1 R1 H' R'->H' a=none->dH X.K rb H' R' bs yss->bs.Nodup->(∀b∈bs,H1 b=none/\R' b=none)->PySem.Paired P xs yss->(∀ys∈yss,ys.length<=sizeLine)->Q (.ref a) (upd H' a (.lst (bs.map .ref)))):
 ∃W:Nat->Nat->List V->St->Hp->Prop,(∃m,W 0 m [] (cM own ix σ) H1)/\∀i m ys σ' H',W i m ys σ' H'->
  ys.length<=sizeLine/\((J.stop i H'/\∀p,H' p=none->Q (.ref p) (upd H' p (.lst ys)))∨
  (J.go i H'/\∀x H2,J.yld i H' x H2->(λv σ H Q=>∀C s Hh ex,dX (aq X scope cl C (own++fr) s Hh ex) tg v σ H Q:TG) x σ' H2 λσ2 H3=>(λσ H Q=>∀C s Hh ex,eC (aq X scope cl C (own++fr) s Hh ex) [] σ H Q:TT) σ2 H3 λb H4=>
    if b=true then (λσ H Q=>∀C s Hh ex,cN (aq X scope cl C (own++fr) s Hh ex) elt σ H Q:TE) σ2 H4 λv H5=>∃m',m' < m/\W (i + 1) m' (ys++[v]) σ2 H5 else∃m',m' < m/\W (i + 1) m' ys σ2 H4)):=by
 refine ⟨λi m ys σ' H'=>m=xs.length - i/\i<=xs.length/\∃R' bs yss,ai X.K σ' H1 R1 H' R' (bc own ix Γ1)/\ys=bs.map .ref/\dH X.K rb H' R' bs yss/\bs.Nodup/\(∀b∈bs,H1 b=none/\R' b=none)/\PySem.Paired P (xs.take i) yss/\∀ys∈yss,ys.length<=sizeLine,⟨_,rfl,Nat.zero_le _,R1,[],[],jm E1 own ix,rfl,⟨rfl,λi b r h1=>by simp at h1⟩,List.nodup_nil,(λb hb=>by cases hb),(.nil:PySem.Paired P [] []),(λys hy=>by cases hy)⟩,?_⟩
 rintro i m ys σ' H' ⟨rfl,hle,R',bs,yss,E',rfl,hrs,hnd,hbs,pq,hsz⟩
 have hbl:bs.length=i:=by rw [hrs.1,← pq.length,List.length_take];omega
 have hys:(bs.map V.ref).length<=sizeLine:=by rw [List.length_map,hbl];omega
 obtain ⟨sgo,sstop⟩:=src H' R' E'.ext.r E'.sub i
 refine ⟨hys,?_⟩
 by_cases hlt:i < xs.length
 ·obtain ⟨go,yl⟩:=sgo _ (List.getElem?_eq_getElem hlt)
  have hmem:xs[i]∈xs:=List.getElem_mem hlt
  have tk:(xs.take (i + 1))=xs.take i++[xs[i]]:=by rw [List.take_succ,List.getElem?_eq_getElem hlt];rfl
  refine .inr ⟨go,λv H2 hy C s Hh ex=>?_⟩
  obtain ⟨R2,x2,hr⟩:=yl v H2 hy
  refine hb C s Hh ex σ' H1 R1 H2 R2 _ v _ (E'.grow x2) hr _ λσ2 E2=>?_
  intro C s Hh ex
  refine (bA (X:=aq X scope cl C (own++fr) s Hh ex)) σ2 H2 R2 H2 R2 (E2.vm (hfl _)) _ λH4 R4 E4 s4=>?_
  rw [if_pos rfl]
  intro C s Hh ex
  refine he C s Hh ex _ hmem σ2 H4 R4 H4 R4 (E4.vm (hfl _)) _ λa vs zs H5 R5 E5 s5 ha hR h0 off pp hz' hP=>?_
  have x5:Ext H' R' H5 R5:=x2.trans (E4.ext.trans E5.ext)
  have x25:Ext H2 R2 H5 R5:=E4.ext.trans E5.ext
  have hin:∀b∈bs,H' b≠none:=λb hb=>by
   obtain ⟨r,hr⟩:=hrs.one hb
   rw [hr];exact Option.some_ne_none _
  have hold:∀b∈bs,b≠a:=λb hb e=>by
   have:H4 b≠none:=aj.some (x2.h.trans E4.ext.h) (hin b hb)
   exact this (e▸h0)
  refine ⟨xs.length - (i + 1),by omega,rfl,hlt,R5,bs++[a],yss++[zs],(E2.grow x25).weak (hw _),by rw [List.map_append];rfl,?_,?_,λb hb=>?_,?_,λys hy=>?_⟩
  ·refine dH.snoc (dH.loc hrs (λc hc=>?_) x5.r) ha pp
   cases e:H' c with
   | none=>exact absurd e (hin c hc)
   | some u=>exact x5.h c u e
  ·exact gd hnd λz=>hold a z rfl
  ·rcases List.mem_append.mp hb with z | z
   ·exact ⟨(hbs b z).1,(x5.old b (hin b z)).trans (hbs b z).2⟩
   ·rw [List.mem_singleton.mp z]
    exact ⟨(E'.ext.h.trans (x2.h.trans E4.ext.h)).free h0,hR⟩
  ·rw [tk]
   exact bE pq (.cons hP .nil)
  ·rcases List.mem_append.mp hy with z | z
   ·exact hsz ys z
   ·rw [List.mem_singleton.mp z];exact hz'
 ·have e:i=xs.length:=by omega
  subst e
  rw [List.take_length] at pq
  exact .inl ⟨sstop (Nat.le_refl _),λa ha=>q a bs yss H' R' E'.ext ha hrs hnd hbs pq hsz⟩
theorem vG (i:Nat){y:Str}{py spos:Pos}{tg elt iter:Expr}{scope:Scope}{pos:Pos}{cl:List (Str×Addr)}{own fr:List Str}{ix:List Nat}{ra:Rep α}{rb:Rep β}{xs:List α}{P:α->List β->Prop}{bf:α->Ga->Ga}
 (S:cf X scope cl own fr ix) (hit:IV X tg iter Γ ra xs Γ1)
 (hb:∀(C:Addr) (s:Shared) (H:Hp) (ex:List Addr),BG (aq X scope cl C (own++fr) s H ex) tg ra bf) (hw:∀x,Wk (bf x (bc own ix Γ1)) (bc own ix Γ1)) (hfl:∀x,lG (bf x (bc own ix Γ1)))
 (he:∀(C:Addr) (s:Shared) (H:Hp) (ex:List Addr) x,x∈xs->qX (aq X scope cl C (own++fr) s H ex) elt (bf x (bc own ix Γ1)) rb (P x) (bf x (bc own ix Γ1)))
 (h:∀a bs yss,PySem.Paired P xs yss->(∀ys∈yss,ys.length<=sizeLine)->N (Γ1.set i (.ob (j6 rb a bs yss))))
 (hsw:swapsWith (.ListComp elt [⟨tg,iter,[],0⟩] scope pos) (some (.Name y py)) spos.line X.env=pure true:=by rfl)
 (hN:X.N.Nodup:=by first | assumption | decide) (hi':X.N[i]?=some y:=by rfl) (hx:Loc X.env.scope y:=by first | exact Or.inl rfl | exact Or.inr rfl)
 (hc:X.calm=true:=by rfl) (hs:∀x,foldedSetIterable iter X.env x=pure x:=by intro _;rfl) (hf:X.fn y=true∨X.env.scope.names.lookup y=some .local:=by first | exact .inl rfl | exact .inr rfl):
 W1 X (.Assign [.Name y py] (.ListComp elt [⟨tg,iter,[],0⟩] scope pos) spos) Γ N T:=λσ H0 R0 H R E D dn dr=>by
 obtain ⟨wi,hi,hit⟩:=hit
 refine sS (gQ (i:=i) (g:=λv σ H Q=>∀C s Hh ex,dX (aq X scope cl C (own++fr) s Hh ex) tg v σ H Q) (tc:=λσ H Q=>∀C s Hh ex,eC (aq X scope cl C (own++fr) s Hh ex) [] σ H Q) (te:=λσ H Q=>∀C s Hh ex,cN (aq X scope cl C (own++fr) s Hh ex) elt σ H Q) hsw hN hi' hx hc S hi
  (λC s H ex=>⟨λpins s1 σ H v u Q I r h=>h C s _ ex pins s1 u I r,λpins s1 σ H Q I h=>h C s _ ex pins s1 I,λpins s1 σ H Q I h=>h C s _ ex pins s1 I⟩) hs hf) ?_
 refine hit σ H0 R0 H R E _ λJ H1 R1 E1 s1 hz src=>jD (Q:=λv H'=>D.nx (σ.set i (some v)) H') E1 src hz hb hw hfl he λa bs yss H' R' xx ha hg hnd hbs pq hsz=>?_
 have E2:=E1.grow xx
 have E3:=E2.grow (Ext.bW E2.sub ha (.lst (bs.map .ref)))
 have inb:∀c∈bs,H' c≠none:=λc hc=>by
  obtain ⟨r,hr⟩:=hg.one hc
  rw [hr];exact Option.some_ne_none _
 have nab:a∉bs:=λz=>inb a z ha
 refine dn _ _ R' _ (E3.setG (en:=.ob (j6 rb a bs yss)) i ⟨⟨.ref a,rfl,rfl,ar,hg.loc (λc hc=>ay λz=>nab (z▸hc)) (aj.refl _),List.nodup_cons.mpr ⟨nab,hnd⟩⟩,λb hb=>?_⟩ (λb hb=>?_) λb hb j e _ qj w=>?_) (s1.trans xx.r) (h a bs yss pq hsz)
 ·rcases List.mem_cons.mp hb with rfl | hb
  ·exact E2.sub.free ha
  ·exact (hbs b hb).2
 ·rcases List.mem_cons.mp hb with rfl | hb
  ·exact E2.ext.h.free ha
  ·exact E1.ext.h.free (hbs b hb).1
 ·rcases List.mem_cons.mp hb with rfl | hb
  ·exact E2.off ha j e qj w
  ·exact (Ent.cw (E1.ent j e qj) w).1 (hbs b hb).1
end
end Fc
namespace K1
open PySem L2 Fc
open PySem.Spec hiding Row
open PyProof.Rows hiding St
open PySem.Builtin.Int (intBits)
section
variable {n:Nat}{v:aN}{p:Int}{i:Nat}
theorem iV {α β:Type}{P:α->List β->Prop}(hp:∀x ys,P x ys->ys=[]):∀{xs:List α} {yss:List (List β)},PySem.Paired P xs yss->yss=List.replicate xs.length []
 | _,_,.nil=>rfl
 | _,_,.cons h t=>by rw [List.length_cons,List.replicate_succ,iV hp t,hp _ _ h]
def e7 (v:aN)(p:Int)(i:Nat)(q:Int):List Int:=(ups 0 i).filter λk=>decide (((rowOf v k).1,(rowOf v k).2.1)=(p,q))
theorem ux (i:Nat):ups 0 (i + 1)=ups 0 i++[(i:Int)]:=by
 unfold ups
 rw [List.range_succ,List.map_append]
 simp
theorem jM (v:aN)(p:Int)(i:Nat)(q:Int):e7 v p (i + 1) q=e7 v p i q++(if (rowOf v (i:Int)).1=p/\(rowOf v (i:Int)).2.1=q then [(i:Int)] else []):=by
 unfold e7
 rw [ux,List.filter_append]
 congr 1
 by_cases h:(rowOf v (i:Int)).1=p/\(rowOf v (i:Int)).2.1=q
 ·rw [if_pos h,List.filter_cons_of_pos (by simp [h.1,h.2])];rfl
 ·rw [if_neg h,List.filter_cons_of_neg (by simp;exact λa b=>h ⟨a,b⟩)];rfl
def et (v:aN)(p:Int)(n i:Nat):List (List Int):=(ups 0 n).map (e7 v p i)
def da (v:aN)(p:Int):List (List Int):=(ups 0 (v.1.getD p.toNat 0).toNat).map (fromF v p)
theorem fu (v:aN)(p:Int)(n i:Nat):(et v p n i).length=n:=by unfold et;rw [List.length_map,av]
theorem fe {j:Nat}(h:j < n):(ups 0 n)[j]?=some (j:Int):=by unfold ups;rw [List.getElem?_map,List.getElem?_range h];simp
theorem kL {j:Nat}(h:j < n):(et v p n i)[j]?=some (e7 v p i (j:Int)):=by unfold et;rw [List.getElem?_map,fe h];rfl
theorem qu (h:(rowOf v (i:Int)).1≠p):et v p n (i + 1)=et v p n i:=by
 unfold et
 refine List.map_congr_left λq hq=>?_
 rw [jM,if_neg (λz=>h z.1),List.append_nil]
theorem ud (h:(rowOf v (i:Int)).1=p)(s0:0<=(rowOf v (i:Int)).2.1)(s1:(rowOf v (i:Int)).2.1 < (n:Int)):(et v p n i).set (rowOf v (i:Int)).2.1.toNat (e7 v p i (rowOf v (i:Int)).2.1++[(i:Int)])=et v p n (i + 1):=by
 apply List.ext_getElem?
 intro j
 by_cases hj:j < n
 ·rw [kL hj,jM]
  by_cases e:(rowOf v (i:Int)).2.1.toNat=j
  ·subst e
   rw [List.getElem?_set_self (by rw [fu];exact hj),if_pos ⟨h,by omega⟩]
   rw [show (((rowOf v (i:Int)).2.1.toNat:Nat):Int)=(rowOf v (i:Int)).2.1 by omega]
  ·rw [List.getElem?_set_ne e,kL hj,if_neg (λz=>e (by have:=z.2;omega)),List.append_nil]
 ·rw [List.getElem?_eq_none (by rw [List.length_set,fu];omega),List.getElem?_eq_none (by rw [fu];omega)]
theorem lI (v:aN)(p:Int)(i:Nat)(q:Int):(e7 v p i q).length<=i:=by
 unfold e7
 refine Nat.le_trans (List.length_filter_le _ _) ?_
 rw [av];exact Nat.le_refl _
end
section
variable {P:Program}{w:World}{K:PySem.W.Frag}{mg:Str->Option Value}{base:Heap}{f:Addr}{fd:FuncData}
abbrev rJ:Stmt:=top ko
abbrev BE:List Str:=["web","part","leaving","number","row"]
theorem x8:ax BE ["web","part"] (ag rJ):=⟨rfl,rfl,rfl,by decide +kernel,rfl,by decide +kernel,by decide +kernel⟩
def uP (fr:Bool):bN:=λK ps T=>∃(v:aN) (p:Int),ps=[⟨bZ,v⟩,⟨ab,p⟩]/\bg v/\0<=p/\p < (v.1.length:Int)/\T=if fr=true then hU K (ae ab) (· =da v p) else qB K ab (· =da v p)
theorem zQ (fr:Bool)(M:bP mg)(F:bz K "rows_leaving" "rows_leaving" rJ f fd)(hm:mg "rows_leaving"=some (.ref f))(hb:Binds K fd ["web","part"] []):aw P w K mg base "rows_leaving" 1 (aC (uP fr) K):=by
 have nd:=x8.nd
 have ndc:List.Nodup [("place":Str)]:=by decide
 refine bD F x8 hm hb (λqs T ⟨_,_,e,_⟩=>by rw [e];rfl) (λcdv A outer s H E qs T hr hS=>?_)
 obtain ⟨v,p,rfl,hv,p0,p1,rfl⟩:=hS
 have pl:=hv.pl
 have rl:=hv.rl
 have hn:cO v.1 p=some (v.1.getD p.toNat 0):=cz p0 p1
 have nb:=hv.sz (v.1.getD p.toNat 0) (by rw [List.getD_eq_getElem?_getD,List.getElem?_eq_getElem (by omega)];exact List.getElem_mem _)
 generalize hN:v.1.getD p.toNat 0=n at hn nb
 change WS _ _ [.im (az (ae ab) (ae aB)) v,.im ab p,.no,.no,.no] _ _
 refine ah (vG 2 (own:=["place"]) (fr:=[]) (ix:=[]) (ra:=ab) (rb:=ab) (P:=λ_ ys=>ys=[]) (aM (so:=ag rJ) (N0:=BE) rfl rfl (λx h=>aE h) (by decide +kernel)) (cW M.range (bB (c5 (aa 0 rfl)) (aa 1 rfl) hn) ⟨by omega,by omega⟩)
  (λC s H ex=>aA 0) (λx=>⟨.inr rfl,trivial⟩) (λx=>⟨trivial,trivial⟩) (λC s H ex x hx=>aU.evr (aY bu (by decide)) rfl) λa bs yss pq _=>?_)
 have ey:=iV (λ_ _ h=>h) pq
 rw [av] at ey
 have e0:List.replicate n.toNat ([]:List Int)=et v p n.toNat 0:=by
  unfold et e7
  apply List.ext_getElem?
  intro j
  rw [List.getElem?_replicate,List.getElem?_map]
  by_cases hj:j < n.toNat
  ·rw [if_pos hj,fe hj];rfl
  ·rw [if_neg hj,List.getElem?_eq_none (by rw [av];omega)];rfl
 rw [e0] at ey
 subst ey
 refine ah (cK (r:=az ab aB) (λi Γ=>∃v3 v4,Γ=[.im (az (ae ab) (ae aB)) v,.im ab p,.ob (j6 ab a bs (et v p n.toNat i)),v3,v4])
  (kP M.enumerate (bO (aa 0 rfl))) (iE 3 4) ⟨_,_,rfl⟩ ?_ ?_)
 ·rintro i x Γ hx ⟨v3,v4,rfl⟩
  obtain ⟨e1,e2⟩:=iN hx
  have il:=(List.getElem?_eq_some_iff.mp e2).1
  have er:rowOf v i=x.2:=by unfold rowOf;rw [List.getD_eq_getElem?_getD,show ((i:Int)).toNat=i by omega,e2];rfl
  refine ak (bQ (bj eG (ff (aa 4 rfl)) (aa 1 rfl)) (λh=>?_) (λh=>a9 ?_))
  ·have h:x.2.1=p:=of_decide_eq_true h
   have rp:=hv.dk (List.mem_of_getElem? e2)
   have q0:=rp.s0
   have q1:=rp.sn
   rw [h,hN] at q1
   have len:=fu v p n.toNat i
   refine ak (pK 2 (ez (aa 4 rfl)) (aa 3 rfl) rfl (dS q0 (by omega)) (kL (j:=x.2.2.1.toNat) (by omega)) (Nat.lt_of_le_of_lt (Nat.le_trans (lI v p i _) (show i<=100 by omega)) (by decide)) ?_)
   refine ⟨.im ab x.1,.im aB x.2,?_⟩
   have:=ud (v:=v) (p:=p) (n:=n.toNat) (i:=i) (by rw [er];exact h) (by rw [er];exact q0) (by rw [er];omega)
   rw [er] at this
   rw [e1,show ((x.2.2.1.toNat:Nat):Int)=x.2.2.1 by omega,this]
   rfl
  ·have h:x.2.1≠p:=of_decide_eq_false h
   refine ⟨.im ab x.1,.im aB x.2,?_⟩
   rw [qu (by rw [er];exact h)]
   rfl
 ·rintro Γ ⟨v3,v4,rfl⟩
  rw [eK]
  have e:et v p n.toNat v.2.length=da v p:=by unfold da;rw [hN];rfl
  rw [e]
  have ll:(da v p).length<=16:=by rw [← e,fu];omega
  cases fr with
  | false=>exact ak (yr 2 rfl rfl)
  | true=>
    refine ak (wW 2 rfl (aV (by omega)) (λxs hx=>?_) rfl)
    rw [← e] at hx
    obtain ⟨q,_,rfl⟩:=List.mem_map.mp hx
    exact aV (Nat.le_trans (lI v p _ q) (by omega))
end
end K1
namespace Fc
open PySem PySem.Spec L2
open PyProof.Rows hiding St
section
variable {X:Cx}{Γ Γ1 Γ2 Γ3:Ga}{α β γ δ:Type}{N:Ga->Prop}{T:RT}
def xp:V->List V->Hp->VK->Prop:=λx vs H Q=>∃l xs,x= .ref l/\vs=[]/\H l=some (.lst xs)/\Q .non (upd H l (.lst []))
theorem tJ:sG X "list.clear" xp:=by
 intro pins s σ H x vs v us Q I rx rv h
 obtain ⟨l,xs,rfl,rfl,hH,q⟩:=h
 cases rx
 have hus:=rv.zero
 subst hus
 obtain ⟨z,its,n,r,hl,e⟩:=I.gG hH
 refine call_meets PySem.F.slot_list_clear ⟨_,e,rfl⟩ PySem.F.entry_list_clear (PySem.F.args_list_clear_1 _) (PySem.AutoSeq1.list_clear_list_0 l its.toArray n (by rw [List.size_toArray];omega)) ⟨e,?_⟩
 exact ⟨.non,_,I.mS (its':=[]) hH e rfl .nil (Nat.zero_le _),rfl,q⟩
theorem wA (i:Nat){x:Str}{p1 ap cp pos:Pos}{r:Rep α}{xs:List α}(hΓ:Γ[i]?=some (.mu r xs))(h:N (Γ.set i (.mu r [])))
 (hN:X.N[i]?=some x:=by rfl) (hv:bT X.env.scope x:=by first | exact Or.inl rfl | exact Or.inr (Or.inl rfl) | exact Or.inr (Or.inr rfl))
 (hd:(x==("__debug__":Str))=false:=by decide) (hcd:(x==("__classdict__":Str))=false:=by decide)
 (hsw:swapsWith (.Call (.Attribute (.Name x p1) "clear" ap) [] [] cp) none pos.line X.env=pure false:=by rfl)
 (hbase:attributeBase (.Name x p1) "clear" X.env (eval (.Name x p1) X.env)=eval (.Name x p1) X.env:=by rfl) (hline:(ap.endLine==cp.line)=true:=by rfl):
 W1 X (.Expr (.Call (.Attribute (.Name x p1) "clear" ap) [] [] cp) pos) Γ N T:=λσ H0 R0 H R E D dn dr=>by
 obtain ⟨a,vs,ea,ha,hR,pp⟩:=E.ent i _ hΓ
 refine sS (eu (sI PySem.F.plainAttrs_list PySem.F.slot_list_clear PySem.F.type_list_clear tJ (aP hN hv hd hcd) hbase hline) hsw) ⟨.ref a,at_of ea,.inl ⟨rfl,vs,aH.of ha⟩,?_⟩
 refine ⟨a,vs,rfl,rfl,ha,?_⟩
 exact dn σ _ R _ (E.upd (en:=.mu r []) hΓ rfl ea hR ⟨a,_,rfl,ar,hR,.nil⟩) (aj.refl _) h
end
end Fc
namespace K1
open PySem L2 Fc
open PySem.Spec hiding Row
open PyProof.Rows hiding St
open PySem.Builtin.Int (intBits)
section
variable {P:Program}{w:World}{K:PySem.W.Frag}{mg:Str->Option Value}{base:Heap}{f:Addr}{fd:FuncData}
abbrev uI:Stmt:=top lW
theorem yR:ax ["_law_found"] ["_law_found"] (ag uI):=⟨rfl,rfl,rfl,by decide +kernel,rfl,by decide +kernel,by decide +kernel⟩
def BD:bN:=λK ps T=>∃x:Int,ps=[⟨ab,x⟩]/\T=bG K aF (· =true)
theorem zN (M:bP mg)(F:bz K "_law_whole" "_law_whole" uI f fd)(hm:mg "_law_whole"=some (.ref f))(hb:Binds K fd ["_law_found"] []):aw P w K mg base "_law_whole" 1 (aC BD K):=by
 have nd:=yR.nd
 refine bD F yR hm hb (λqs T ⟨x,e,_⟩=>by rw [e];rfl) (λcdv A outer s H E qs T hr hS=>?_)
 obtain ⟨x,rfl,rfl⟩:=hS
 exact ak (bq (dC (cF M.isinstance M.int PyProof.Rows.boot_int (aa 0 rfl) ty_int) (λ_=>dA (nG (cF M.isinstance M.bool boot_bool (aa 0 rfl) ty_int)))) rfl)
end
end K1
namespace Fc
open PySem PySem.Spec L2
open PyProof.Rows hiding St
section
variable {X:Cx}{Γ Γ1 Γ2 Γ3:Ga}{α β γ δ:Type}{N:Ga->Prop}{T:RT}
variable {F:List (Int×Int)}
theorem oq {a b:Expr}{pos:Pos}{k:Int}(hu:X.A.units + 1 < cLine)(ha:EV X a Γ ab k Γ1)(hb:EV X b Γ1 gj F Γ2)(hm:behindInMarks .In b=false:=by first | exact ju _ | with_unfolding_all rfl):EV X (.Compare a [.In] [b] pos) Γ aF (bC F k).isSome Γ2:=by
 intro σ H0 R0 H R E Q q
 refine eS (rK (l8 hu aD aD) hm) (ha σ H0 R0 H R E _ λv H1 R1 E1 s1 e1=>hb σ H0 R0 H1 R1 E1 _ λu H2 R2 E2 s2 e2=>?_)
 cases e1
 obtain ⟨p,rfl,hp⟩:=e2
 refine ⟨p,_,rfl,dE.k (k:=Sum.inl k) (E2.sub _ _ hp),?_⟩
 rw [fZ,fY]
 exact q _ H2 R2 E2 (s1.trans s2) rfl
theorem m4 {a:Expr}{p pos:Pos}(hm:X.mg "len"=none)(ha:EV X a Γ gj F Γ1)(hs:starEach [a] X.env=[(false,eval a X.env)]:=by rfl)(hg:Gl X "len":=by rfl):EV X (.Call (.Name "len" p) [a] [] pos) Γ ab (F.length:Int) Γ1:=
 EV.cast (kF (kvs:=cI F) hm (EV.rep ha λ_ _ q=>q) hs hg) (by unfold cI;rw [List.length_map])
theorem iH {i:Nat}(hΓ:Γ[i]?=some (.di (cI F)))(σ:St)(H0 R0 H R:Hp)(E:ai X.K σ H0 R0 H R Γ):ai X.K σ H H H H ((Γ.map jL).set i (.im gj F)):=by
 obtain ⟨a,ea,ha,hR⟩:=E.ent i _ hΓ
 exact E.frz.iI (i:=i) (e0:=.no) (by rw [List.getElem?_map,hΓ];rfl) ⟨.ref a,ea,a,rfl,ha⟩ λb w=>by cases w
end
end Fc
namespace K1
open PySem L2 Fc
open PySem.Spec hiding Row
open PyProof.Rows hiding St
open PySem.Builtin.Int (intBits)
section
variable {v:aN}{p:Int}{F:List (Int×Int)}
theorem uD {a b:Option Int}(h:a.map V.int=b.map V.int):a=b:=by
 cases a<;>cases b<;>simp at h<;>simp [h]
theorem sX (F:List (Int×Int))(k v j:Int):bC (fT F k v) j=if j=k then some v else bC F j:=by
 have h:=sU (cn (cI F)) (Sum.inl k:Key) (Sum.inl j) (.int v)
 rw [qd,fE,fE] at h
 apply uD
 rw [h]
 by_cases e:j=k
 ·rw [if_pos (by rw [e]),if_pos e];rfl
 ·rw [if_neg (λz=>e (Sum.inl.inj z)),if_neg e]
theorem eF {k:Int}:(bC F k).isSome=true↔k∈F.map (·.1):=by
 unfold bC
 rw [Option.isSome_map,List.find?_isSome]
 simp only [decide_eq_true_eq,List.mem_map]
theorem mU (rk:Int->Int):∀(l:List Int),l≠[]->∃x∈l,∀y∈l,rk y<=rk x
 | [],h=>absurd rfl h
 | [a],_=>⟨a,by simp,λy hy=>by rw [List.mem_singleton.mp hy];exact Int.le_refl _⟩
 | a::b::l,_=>by
   obtain ⟨x,hx,h⟩:=mU rk (b::l) (by simp)
   by_cases z:rk a<=rk x
   ·exact ⟨x,List.mem_cons_of_mem _ hx,λy hy=>by
     rcases List.mem_cons.mp hy with rfl | hy
     ·exact z
     ·exact h y hy⟩
   ·exact ⟨a,List.mem_cons_self,λy hy=>by
     rcases List.mem_cons.mp hy with rfl | hy
     ·exact Int.le_refl _
     ·have:=h y hy;omega⟩
def ba (v:aN)(k:Int):Int:=(rowOf v k).2.2.1
def goal (v:aN)(p q:Int):List Int:=(fromF v p q).map (ba v)
structure cD (v:aN) (p:Int) (g:Int->Int):Prop where
 one:g 1=1
 step:∀q,0<=q->q < v.1.getD p.toNat 0->q≠1->g q=((goal v p q).map g).sum
theorem bK {q k:Int}(h:k∈fromF v p q):0<=k/\k < (v.2.length:Int)/\(rowOf v k).1=p/\(rowOf v k).2.1=q/\rowOf v k∈v.2:=by
 unfold fromF at h
 obtain ⟨h1,h2⟩:=List.mem_filter.mp h
 have kb:=bo.mp h1
 have h2:=of_decide_eq_true h2
 refine ⟨kb.1,kb.2,congrArg Prod.fst h2,congrArg Prod.snd h2,?_⟩
 unfold rowOf
 rw [List.getD_eq_getElem?_getD,List.getElem?_eq_getElem (by omega)]
 exact List.getElem_mem _
theorem fm (hv:bg v){q z:Int}(h:z∈goal v p q):0<=z/\z < v.1.getD p.toNat 0/\q≠1/\∃r∈v.2,r.1=p/\r.2.1=q/\r.2.2.1=z:=by
 obtain ⟨k,hk,rfl⟩:=List.mem_map.mp h
 obtain ⟨_,_,h1,h2,h3⟩:=bK hk
 have r:=hv.dk h3
 have a:=r.e0;have b:=r.en;have c:=r.s1
 rw [h1] at b
 rw [h2] at c
 exact ⟨a,b,c,_,h3,h1,h2,rfl⟩
theorem cD.uniq (hv:bg v)(p0:0<=p)(hr:aX v.2 p.toNat){g g':Int->Int}(h:cD v p g)(h':cD v p g'):∀q,0<=q->q < v.1.getD p.toNat 0->g q=g' q:=by
 obtain ⟨rk,hrk⟩:=hr
 intro q q0 q1
 refine Classical.byContradiction λne=>?_
 have hne:((ups 0 (v.1.getD p.toNat 0).toNat).filter λz=>decide (g z≠g' z))≠[]:=λe=>by
  have:q∈(ups 0 (v.1.getD p.toNat 0).toNat).filter λz=>decide (g z≠g' z):=List.mem_filter.mpr ⟨bo.mpr ⟨q0,by omega⟩,decide_eq_true ne⟩
  rw [e] at this;cases this
 obtain ⟨x,hx,hmax⟩:=mU rk _ hne
 obtain ⟨x1,x2⟩:=List.mem_filter.mp hx
 have xb:=bo.mp x1
 have x2:g x≠g' x:=of_decide_eq_true x2
 have xn:x≠1:=λe=>x2 (by rw [e,h.one,h'.one])
 refine x2 ?_
 rw [h.step x xb.1 (by omega) xn,h'.step x xb.1 (by omega) xn]
 congr 1
 refine List.map_congr_left λz hz=>Classical.byContradiction λnz=>?_
 obtain ⟨a,b,_,r,r0,r1,r2,r3⟩:=fm hv hz
 have:=hmax z (List.mem_filter.mpr ⟨bo.mpr ⟨a,by omega⟩,decide_eq_true nz⟩)
 have:=hrk r r0 (by omega)
 rw [r2,r3] at this
 omega
def gF (F:List (Int×Int))(q:Int):Int:=(bC F q).getD 0
structure cV (v:aN) (p:Int) (F:List (Int×Int)):Prop where
 one:bC F 1=some 1
 nd:(F.map (·.1)).Nodup
 bd:∀q∈F.map (·.1),0<=q/\q < v.1.getD p.toNat 0
 ok:∀q,q∈F.map (·.1)->q≠1->(∀z∈goal v p q,z∈F.map (·.1))/\gF F q=((goal v p q).map (gF F)).sum
theorem i9 {k y:Int}(hk:k∉F.map (·.1))(z:Int):bC (F++[(k,y)]) z=if z=k then some y else bC F z:=by
 have hn:(bC F k).isSome=false:=by
  cases e:(bC F k).isSome with
  | false=>rfl
  | true=>exact absurd (eF.mp e) hk
 have:=sX F k y z
 unfold fT at this
 rw [hn] at this
 simpa using this
theorem cV.add (h:cV v p F){q:Int}(hq:q∉F.map (·.1))(q0:0<=q)(q1:q < v.1.getD p.toNat 0)(hg:∀z∈goal v p q,z∈F.map (·.1)):cV v p (F++[(q,((goal v p q).map (gF F)).sum)]):=by
 have keep:∀z,z∈F.map (·.1)->gF (F++[(q,((goal v p q).map (gF F)).sum)]) z=gF F z:=λz hz=>by
  unfold gF
  rw [i9 hq,if_neg (show¬z=q from λe=>hq (e▸hz))]
 have one:(1:Int)∈F.map (·.1):=eF.mp (by rw [h.one];rfl)
 have mp:(F++[(q,((goal v p q).map (gF F)).sum)]).map (·.1)=F.map (·.1)++[q]:=by rw [List.map_append];rfl
 refine ⟨?_,?_,λz hz=>?_,λz hz zn=>?_⟩
 ·rw [i9 hq,if_neg (show¬(1:Int)=q from λe=>hq (e▸one))];exact h.one
 ·rw [mp];exact gd h.nd hq
 ·rw [mp] at hz
  rcases List.mem_append.mp hz with w | w
  ·exact h.bd z w
  ·rw [List.mem_singleton.mp w];exact ⟨q0,q1⟩
 ·rw [mp] at hz ⊢
  rcases List.mem_append.mp hz with w | w
  ·obtain ⟨a,b⟩:=h.ok z w zn
   refine ⟨λy hy=>List.mem_append_left _ (a y hy),?_⟩
   rw [keep z w,b]
   congr 1
   exact List.map_congr_left λy hy=>(keep y (a y hy)).symm
  ·rw [List.mem_singleton.mp w]
   refine ⟨λy hy=>List.mem_append_left _ (hg y hy),?_⟩
   have e:gF (F++[(q,((goal v p q).map (gF F)).sum)]) q=((goal v p q).map (gF F)).sum:=by unfold gF;rw [i9 hq,if_pos rfl];rfl
   rw [e]
   congr 1
   exact List.map_congr_left λy hy=>(keep y (hg y hy)).symm
theorem cV.le (h:cV v p F)(hs:0<=v.1.getD p.toNat 0):(F.length:Int)<=v.1.getD p.toNat 0:=by
 have:=dt (F.map (·.1)) (ups 0 (v.1.getD p.toNat 0).toNat) h.nd λx hx=>bo.mpr (by have:=h.bd x hx;omega)
 rw [List.length_map,av] at this
 omega
theorem cV.all (h:cV v p F)(hs:v.1.getD p.toNat 0<=(F.length:Int)):∀q,0<=q->q < v.1.getD p.toNat 0->q∈F.map (·.1):=by
 intro q q0 q1
 refine Classical.byContradiction λno=>?_
 have:=dt (q::F.map (·.1)) (ups 0 (v.1.getD p.toNat 0).toNat) (List.nodup_cons.mpr ⟨no,h.nd⟩) λx hx=>by
  rcases List.mem_cons.mp hx with rfl | hx
  ·exact bo.mpr (by omega)
  ·exact bo.mpr (by have:=h.bd x hx;omega)
 rw [List.length_cons,List.length_map,av] at this
 omega
theorem cV.eq (h:cV v p F)(hs:v.1.getD p.toNat 0<=(F.length:Int)):cD v p (gF F):=by
 refine ⟨by unfold gF;rw [h.one];rfl,λq q0 q1 qn=>(h.ok q (h.all hs q q0 q1) qn).2⟩
theorem cV.next (hv:bg v)(p0:0<=p)(hr:aX v.2 p.toNat)(h:cV v p F)(hs:(F.length:Int) < v.1.getD p.toNat 0):∃q,0<=q/\q < v.1.getD p.toNat 0/\q∉F.map (·.1)/\∀z∈goal v p q,z∈F.map (·.1):=by
 obtain ⟨rk,hrk⟩:=hr
 have hne:((ups 0 (v.1.getD p.toNat 0).toNat).filter λz=>decide (z∉F.map (·.1)))≠[]:=λe=>by
  have all:∀z∈ups 0 (v.1.getD p.toNat 0).toNat,z∈F.map (·.1):=λz hz=>Classical.byContradiction λno=>by
   have:z∈(ups 0 (v.1.getD p.toNat 0).toNat).filter λz=>decide (z∉F.map (·.1)):=List.mem_filter.mpr ⟨hz,decide_eq_true no⟩
   rw [e] at this;cases this
  have:=dt _ _ (eO _) all
  rw [av,List.length_map] at this
  omega
 obtain ⟨x,hx,hmax⟩:=mU rk _ hne
 obtain ⟨x1,x2⟩:=List.mem_filter.mp hx
 have xb:=bo.mp x1
 refine ⟨x,xb.1,by omega,of_decide_eq_true x2,λz hz=>Classical.byContradiction λno=>?_⟩
 obtain ⟨a,b,_,r,r0,r1,r2,r3⟩:=fm hv hz
 have:=hmax z (List.mem_filter.mpr ⟨bo.mpr ⟨a,by omega⟩,decide_eq_true no⟩)
 have:=hrk r r0 (by omega)
 rw [r2,r3] at this
 omega
end
section
variable {P:Program}{w:World}{K:PySem.W.Frag}{mg:Str->Option Value}{base:Heap}{f:Addr}{fd:FuncData}
abbrev lD:Stmt:=top pG
abbrev vj:List Str:=["_law_web_here","_law_part_here","_law_on_here","_law_place","_law_goals"]
theorem yX:ax vj ["_law_web_here","_law_part_here"] (ag lD):=⟨rfl,rfl,rfl,by decide +kernel,rfl,by decide +kernel,by decide +kernel⟩
def nH:bN:=λK ps T=>∃(v:aN) (p:Int),ps=[⟨bZ,v⟩,⟨ab,p⟩]/\bg v/\0<=p/\p < (v.1.length:Int)/\aX v.2 p.toNat/\T=bG K gj (λF=>cV v p F/\v.1.getD p.toNat 0<=(F.length:Int))
theorem Aq (M:bP mg)(CF:aw P w K mg base "_law_from" 1 (aC uG K))(F:bz K "_law_on" "_law_on" lD f fd)(hm:mg "_law_on"=some (.ref f))(hb:Binds K fd ["_law_web_here","_law_part_here"] []):aw P w K mg base "_law_on" 2 (aC nH K):=by
 have nd:=yX.nd
 have nd1:List.Nodup [("_law_k":Str),"_law_web_here"]:=by decide
 have nd2:List.Nodup [("_law_goal":Str),"_law_on_here"]:=by decide
 refine bD F yX hm hb (λqs T ⟨_,_,e,_⟩=>by rw [e];rfl) (λcdv A outer s H E qs T hr hS=>?_)
 obtain ⟨v,p,rfl,hv,p0,p1,hR,rfl⟩:=hS
 have hu:(A.deeper (envOfC "_law_on" (ag lD) s.heap.objs.size f cdv)).units + 1 < cLine:=Nat.lt_of_le_of_lt (Nat.add_le_add_left (by decide:1<=64) _) hr.units
 have pl:=hv.pl
 have rl:=hv.rl
 have hs:=hv.sz (v.1.getD p.toNat 0) (by rw [List.getD_eq_getElem?_getD,List.getElem?_eq_getElem (by omega)];exact List.getElem_mem _)
 change WS _ _ [.im (az (ae ab) (ae aB)) v,.im ab p,.no,.no,.no] _ _
 refine ah (kY 2 qM dq ?_)
 have o0:cV v p [(1,1)]:=⟨rfl,by simp,λq hq=>by (have:q=1:=by simpa using hq);omega,λq hq qn=>absurd (show q=1 by simpa using hq) qn⟩
 refine ah (iO (λm Γ=>∃F v3 v4,Γ=[.im (az (ae ab) (ae aB)) v,.im ab p,.di (cI F),v3,v4]/\cV v p F/\m=(v.1.getD p.toNat 0 - (F.length:Int)).toNat) ⟨[(1,1)],_,_,rfl,o0,rfl⟩ ?_)
 rintro m Γ ⟨F,v3,v4,rfl,hO,rfl⟩
 have hle:=hO.le (by omega)
 refine ⟨_,_,TV.frz (iH (i:=2) rfl) (bj dY (m4 M.len (aa 2 rfl)) (bB (c5 (aa 0 rfl)) (aa 1 rfl) (cz p0 p1))),λh=>?_,λh=>?_⟩
 ·have h:(F.length:Int) < v.1.getD p.toNat 0:=of_decide_eq_true h
  obtain ⟨qs,s0,s1,sn,sg⟩:=hO.next hv p0 hR h
  refine ak (cK (r:=ab) (λi Γ=>∃G v3 v4,Γ=[.im (az (ae ab) (ae aB)) v,.im ab p,.di (cI G),v3,v4]/\cV v p G/\(∀z∈F.map (·.1),z∈G.map (·.1))/\F.length<=G.length/\(qs < (i:Int)->F.length < G.length))
   (cW M.range (bB (c5 (aa 0 rfl)) (aa 1 rfl) (cz p0 p1)) ⟨by omega,by omega⟩) (aA 3) ⟨F,_,_,rfl,hO,λz hz=>hz,Nat.le_refl _,λe=>by omega⟩ ?_ ?_)
  ·rintro i q Γ hq ⟨G,v3,v4,rfl,hG,hsub,hfl,hq1⟩
   have qb:=bo.mp (List.mem_of_getElem? hq)
   obtain ⟨hi,eq⟩:=fj hq
   have hid:((((fromF v p q).filter λ_=>true).map λk=>(rowOf v k).2.2.1))=goal v p q:=by rw [List.filter_eq_self.mpr (by simp)];rfl
   have hk:∀k∈fromF v p q,cO v.2 k=some (rowOf v k):=λk hk=>cv bR (bK hk).1 (bK hk).2.1
   refine ah (rD 4 (own:=["_law_k"]) (fr:=["_law_web_here"]) (ix:=[0]) (ra:=ab) (rb:=ab) (p:=λ_=>true) (f:=λk=>(rowOf v k).2.2.1) (aM (so:=ag lD) (N0:=vj) rfl rfl (λx h=>aE h) (by decide +kernel)) (aK (aW CF hr (af (aa 0 rfl) (af (aa 1 rfl) (af (aa 3 rfl) ao))) ⟨v,p,q,rfl,by omega,rfl⟩))
    (λC s H ex=>aA 0) (λx=>⟨.inr rfl,.inl rfl,trivial⟩) (λC s H ex x hx=>bA) (λC s H ex x hx _=>cQ (bB (bO (aa 1 rfl)) (aa 0 rfl) (hk x hx))) ?_)
   rw [hid]
   have gl:(goal v p q).length<=60:=by
    unfold goal fromF
    rw [List.length_map]
    refine Nat.le_trans (List.length_filter_le _ _) ?_
    rw [av];omega
   refine WS.freeze 4 rfl (aV (by omega)) ?_
   change WS _ _ [.im (az (ae ab) (ae aB)) v,.im ab p,.di (cI G),.im ab q,.im (ae ab) (goal v p q)] _ _
   have mem:∀z,(bC G z).isSome=true↔z∈G.map (·.1):=λz=>eF
   have hglen:=hG.le (by omega)
   refine ak (bQ (TW.tv (ku (kM 2 true hu (aa 3 rfl) rfl) (λ_=>kK (TV.frz (iH (i:=2) rfl) (bh (dh M.all (aU.im (aT (own:=["_law_goal"]) (fr:=["_law_on_here"]) (ix:=[2]) (ra:=ab) (rb:=aF) (p:=λ_=>true) (f:=λz=>(bC G z).isSome) (aM (so:=ag lD) (N0:=vj) rfl rfl (λx h=>aE h) (by decide +kernel)) (aK (aa 4 rfl))
    (λC s H ex=>aA 0) (λx=>⟨.inr rfl,.inl rfl,trivial⟩) (λC s H ex x hx=>bA) (λC s H ex x hx _=>oq hu (aa 0 rfl) (aa 1 rfl)))))))))) (λh=>?_) (λh=>a9 ?_))
   ·obtain ⟨h1,h2⟩:=Bool.and_eq_true_iff.mp h
    have h1:q∉G.map (·.1):=λw=>by
     have:=(mem q).mpr w
     rw [← fY] at this
     simp [this] at h1
    have h2:∀z∈goal v p q,z∈G.map (·.1):=λz hz=>by
     rw [List.all_eq_true] at h2
     exact (mem z).mp (h2 _ (List.mem_map.mpr ⟨z,List.mem_filter.mpr ⟨hz,rfl⟩,rfl⟩))
    have hg2:∀z∈goal v p q,bC G z=some (gF G z):=λz hz=>by
     have:=(mem z).mpr (h2 z hz)
     unfold gF
     cases e:bC G z with
     | none=>rw [e] at this;cases this
     | some y=>rfl
    have hid2:(((goal v p q).filter λ_=>true).map λz=>gF G z).sum=((goal v p q).map (gF G)).sum:=by rw [List.filter_eq_self.mpr (by simp)]
    refine ak (rT 2 hu (aa 3 rfl) (EV.frz (iH (i:=2) rfl) (λ_ _ _ _ _ h=>h) (EV.cast (jO M.sum (aU.im (aT (own:=["_law_goal"]) (fr:=["_law_on_here"]) (ix:=[2]) (ra:=ab) (rb:=ab) (p:=λ_=>true) (f:=λz=>gF G z) (aM (so:=ag lD) (N0:=vj) rfl rfl (λx h=>aE h) (by decide +kernel)) (aK (aa 4 rfl))
     (λC s H ex=>aA 0) (λx=>⟨.inr rfl,.inl rfl,trivial⟩) (λC s H ex x hx=>bA) (λC s H ex x hx _=>jK hu (aa 1 rfl) (aa 0 rfl) (hg2 x hx))))) hid2)) rfl (Nat.lt_of_le_of_lt (show G.length<=1000 by omega) (by decide)) ?_)
    have ep:fT G q ((goal v p q).map (gF G)).sum=G++[(q,((goal v p q).map (gF G)).sum)]:=by
     unfold fT
     rw [if_neg (λe=>h1 ((mem q).mp e))]
    refine ⟨G++[(q,((goal v p q).map (gF G)).sum)],_,_,by rw [ep];rfl,hG.add h1 qb.1 (by omega) h2,λz hz=>?_,by rw [List.length_append];omega,λ_=>by rw [List.length_append];simp;omega⟩
    rw [List.map_append];exact List.mem_append_left _ (hsub z hz)
   ·refine ⟨G,_,_,rfl,hG,hsub,hfl,λhlt=>?_⟩
    by_cases e:qs < (i:Int)
    ·exact hq1 e
    ·have eqq:q=qs:=by omega
     subst eqq
     -- it stands there already
     have hin:q∈G.map (·.1):=Classical.byContradiction λno=>by
      have a1:(if true=true then !dR (cI G) q else dR (cI G) q)=true:=by
       rw [if_pos rfl,fY]
       cases e2:(bC G q).isSome with
       | false=>rfl
       | true=>exact absurd ((mem q).mp e2) no
      have a2:((((goal v p q).filter λ_=>true).map λz=>(bC G z).isSome).all id)=true:=by
       rw [List.all_eq_true]
       intro y hy
       obtain ⟨z,hz,rfl⟩:=List.mem_map.mp hy
       exact (mem z).mpr (hsub z (sg z (List.mem_filter.mp hz).1))
      rw [a1,a2] at h
      exact absurd h (by decide)
     have:=dt (q::F.map (·.1)) (G.map (·.1)) (List.nodup_cons.mpr ⟨sn,hO.nd⟩) λx hx=>by
      rcases List.mem_cons.mp hx with rfl | hx
      ·exact hin
      ·exact hsub x hx
     rw [List.length_cons,List.length_map,List.length_map] at this
     omega
  ·rintro Γ ⟨G,v3,v4,rfl,hG,_,_,hq1⟩
   rw [av] at hq1
   have:=hq1 (by omega)
   have:=hG.le (by omega)
   exact ⟨_,by omega,G,_,_,rfl,hG,rfl⟩
 ·have h:¬(F.length:Int) < v.1.getD p.toNat 0:=of_decide_eq_false h
  exact ak (oa 2 rfl ⟨hO,by omega⟩)
end
def bb (v:aN)(p:Int)(g:Int->Int)(k:Int):Int:=if (rowOf v k).1=p then (((fromF v p (rowOf v k).2.1).filter λj=>decide (j < k)).map λj=>g (ba v j)).sum else 0
def bH (v:aN)(p:Int)(g:Int->Int):List Int:=(ups 0 v.2.length).map (bb v p g)
theorem lz (v:aN)(p q:Int):(fromF v p q).Pairwise (· < ·):=by
 unfold fromF
 exact (jd _).filter _
theorem before {v:aN}{p q:Int}{i:Nat}{k:Int}(h:(fromF v p q)[i]?=some k):(fromF v p q).filter (λj=>decide (j < k))=(fromF v p q).take i:=by
 have hp:=lz v p q
 generalize fromF v p q=l at h hp
 induction l generalizing i with
 | nil=>simp at h
 | cons a l ih=>
   obtain ⟨h1,h2⟩:=List.pairwise_cons.mp hp
   cases i with
   | zero=>
     have e:a=k:=by simpa using h
     subst e
     rw [List.take_zero,List.filter_eq_nil_iff]
     intro x hx
     rcases List.mem_cons.mp hx with rfl | hx
     ·simp
     ·have:=h1 x hx;simp;omega
   | succ i=>
     have h:l[i]?=some k:=by simpa using h
     have:=h1 k (List.mem_of_getElem? h)
     rw [List.filter_cons,decide_eq_true (show a < k by omega),if_pos rfl,List.take_succ_cons,ih h h2]
structure iK (v:aN) (p:Int) (g:Int->Int) (n:Int) (q:Int) (i:Nat) (xs:List Int):Prop where
 len:xs.length=v.2.length
 val:∀k,0<=k->k < (v.2.length:Int)->xs.getD k.toNat 0=if (rowOf v k).1=p/\((rowOf v k).2.1 < n∨((rowOf v k).2.1=q/\k∈(fromF v p q).take i)) then bb v p g k else 0
section
variable {P:Program}{w:World}{K:PySem.W.Frag}{mg:Str->Option Value}{base:Heap}{f:Addr}{fd:FuncData}
abbrev rj:Stmt:=top kQ
abbrev nWO:List Str:=["_law_web_here","_law_part_here","_law_on_here","_law_found","_law_place","_law_total","_law_k"]
theorem yi:ax nWO ["_law_web_here","_law_part_here"] (ag rj):=⟨rfl,rfl,rfl,by decide +kernel,rfl,by decide +kernel,by decide +kernel⟩
def A9:bN:=λK ps T=>∃(v:aN) (p:Int),ps=[⟨bZ,v⟩,⟨ab,p⟩]/\bg v/\0<=p/\p < (v.1.length:Int)/\aX v.2 p.toNat/\T=bG K (ae ab) (λws=>∃g,cD v p g/\ws=bH v p g)
theorem AF (M:bP mg)(CN:aw P w K mg base "_law_on" 2 (aC nH K))(CF:aw P w K mg base "_law_from" 1 (aC uG K))(F:bz K "_law_worths" "_law_worths" rj f fd)(hm:mg "_law_worths"=some (.ref f))(hb:Binds K fd ["_law_web_here","_law_part_here"] []):aw P w K mg base "_law_worths" 3 (aC A9 K):=by
 have nd:=yi.nd
 have CF:=CF.mono (show 1<=2 by decide)
 refine bD F yi hm hb (λqs T ⟨_,_,e,_⟩=>by rw [e];rfl) (λcdv A outer s H E qs T hr hS=>?_)
 obtain ⟨v,p,rfl,hv,p0,p1,hR,rfl⟩:=hS
 have hu:(A.deeper (envOfC "_law_worths" (ag rj) s.heap.objs.size f cdv)).units + 1 < cLine:=Nat.lt_of_le_of_lt (Nat.add_le_add_left (by decide:1<=64) _) hr.units
 have pl:=hv.pl
 have rl:=hv.rl
 have hs:=hv.sz (v.1.getD p.toNat 0) (by rw [List.getD_eq_getElem?_getD,List.getElem?_eq_getElem (by omega)];exact List.getElem_mem _)
 change WS _ _ [.im (az (ae ab) (ae aB)) v,.im ab p,.no,.no,.no,.no,.no] _ _
 refine ah (gq 2 CN hr (af (aa 0 rfl) (af (aa 1 rfl) ao)) ⟨v,p,rfl,hv,p0,p1,hR,rfl⟩ ?_)
 rintro D ⟨hD,hDl⟩
 have hE:=hD.eq hDl
 have hall:=hD.all hDl
 have hget:∀z,0<=z->z < v.1.getD p.toNat 0->bC D z=some (gF D z):=λz z0 z1=>by
  have:=eF.mpr (hall z z0 z1)
  unfold gF
  cases e:bC D z with
  | none=>rw [e] at this;cases this
  | some y=>rfl
 refine ah (cS 3 (r:=ab) (ow (aU.im (aY (aJ au bu) (by show 1<=sizeLine;decide))) (cR M.len (bO (aa 0 rfl))) (by omega) (by omega) (aV (by simp;omega))) ?_)
 rw [rep0,show ((v.2.length:Int)).toNat=v.2.length by omega]
 have rp:∀k,0<=k->k < (v.2.length:Int)->pV v.1 (rowOf v k):=λk k0 k1=>hv.dk (by unfold rowOf;rw [List.getD_eq_getElem?_getD,List.getElem?_eq_getElem (by omega)];exact List.getElem_mem _)
 have w0:iK v p (gF D) 0 0 0 (List.replicate v.2.length 0):=by
  refine ⟨List.length_replicate,λk k0 k1=>?_⟩
  rw [List.getD_eq_getElem?_getD,List.getElem?_replicate,if_pos (by omega),if_neg]
  ·rfl
  ·rintro ⟨_,z | ⟨_,z⟩⟩
   ·have:=(rp k k0 k1).s0;omega
   ·simp at z
 refine ah (cK (r:=ab) (λi Γ=>∃xs v4 v5 v6,Γ=[.im (az (ae ab) (ae aB)) v,.im ab p,.im gj D,.mu ab xs,v4,v5,v6]/\iK v p (gF D) (i:Int) 0 0 xs)
  (cW M.range (bB (c5 (aa 0 rfl)) (aa 1 rfl) (cz p0 p1)) ⟨by omega,by omega⟩) (aA 4) ⟨_,_,_,_,rfl,w0⟩ ?_ ?_)
 ·rintro i q Γ hq ⟨xs,v4,v5,v6,rfl,hW⟩
  obtain ⟨hi,eq⟩:=fj hq
  have eq:q=(i:Int):=by omega
  subst eq
  refine ah (aO 5 au ?_)
  refine ak (cK (r:=ab) (λj Γ=>∃xs v6,Γ=[.im (az (ae ab) (ae aB)) v,.im ab p,.im gj D,.mu ab xs,.im ab (i:Int),.im ab ((((fromF v p (i:Int)).take j).map λk=>gF D (ba v k)).sum),v6]/\iK v p (gF D) (i:Int) (i:Int) j xs)
   (aK (aW CF hr (af (aa 0 rfl) (af (aa 1 rfl) (af (aa 4 rfl) ao))) ⟨v,p,(i:Int),rfl,by omega,rfl⟩)) (aA 6) ⟨xs,_,rfl,⟨hW.len,λk k0 k1=>by rw [hW.val k k0 k1];simp⟩⟩ ?_ ?_)
  ·rintro j k Γ hk ⟨xs,v6,rfl,hW⟩
   have km:=List.mem_of_getElem? hk
   obtain ⟨k0,k1,kp,kq,kr⟩:=bK km
   have hl:=hW.len
   have tk:(fromF v p (i:Int)).take (j + 1)=(fromF v p (i:Int)).take j++[k]:=by rw [List.take_succ,hk];rfl
   refine ah (kC 3 (j:=k.toNat) (aa 5 rfl) (aa 6 rfl) rfl rfl (dS k0 (by omega)) ?_)
   have q:=hv.dk kr
   have e0:=q.e0;have en:=q.en
   rw [kp] at en
   refine ak (aO 5 (cB (aa 5 rfl) (jK hu (aa 2 rfl) (cQ (bB (bO (aa 0 rfl)) (aa 6 rfl) (cv bR k0 k1))) (hget _ e0 en))) ?_)
   have es:(((fromF v p (i:Int)).take (j + 1)).map λk=>gF D (ba v k)).sum=(((fromF v p (i:Int)).take j).map λk=>gF D (ba v k)).sum + gF D (rowOf v k).2.2.1:=by rw [tk,List.map_append,List.sum_append];simp [ba]
   refine ⟨xs.set k.toNat ((((fromF v p (i:Int)).take j).map λk=>gF D (ba v k)).sum),.im ab k,by rw [es];rfl,by rw [List.length_set];exact hl,λm m0 m1=>?_⟩
   by_cases e:m=k
   ·subst e
    have hw:bb v p (gF D) m=(((fromF v p (i:Int)).take j).map λk=>gF D (ba v k)).sum:=by
     unfold bb
     rw [if_pos kp,kq,before hk]
    rw [List.getD_eq_getElem?_getD,List.getElem?_set_self (by omega),if_pos ⟨kp,.inr ⟨kq,by rw [tk];simp⟩⟩,hw];rfl
   ·have:(xs.set k.toNat ((((fromF v p (i:Int)).take j).map λk=>gF D (ba v k)).sum)).getD m.toNat 0=xs.getD m.toNat 0:=by
     rw [List.getD_eq_getElem?_getD,List.getElem?_set_ne (by omega),← List.getD_eq_getElem?_getD]
    rw [this,hW.val m m0 m1,tk]
    have:m∈(fromF v p (i:Int)).take j++[k]↔m∈(fromF v p (i:Int)).take j:=by
     rw [List.mem_append,List.mem_singleton]
     exact ⟨λz=>z.resolve_right e,.inl⟩
    simp only [this]
  ·rintro Γ ⟨xs,v6,rfl,hW⟩
   refine ⟨xs,_,_,_,rfl,hW.len,λk k0 k1=>?_⟩
   rw [hW.val k k0 k1,List.take_length]
   have hiff:((rowOf v k).1=p/\((rowOf v k).2.1 < (i:Int)∨((rowOf v k).2.1=(i:Int)/\k∈fromF v p (i:Int))))↔((rowOf v k).1=p/\((rowOf v k).2.1 < ((i + 1:Nat):Int)∨((rowOf v k).2.1=0/\k∈(fromF v p 0).take 0))):=by
    constructor
    ·rintro ⟨a,b | ⟨b,_⟩⟩
     ·exact ⟨a,.inl (by omega)⟩
     ·exact ⟨a,.inl (by omega)⟩
    ·rintro ⟨a,b | ⟨_,b⟩⟩
     ·by_cases z:(rowOf v k).2.1 < (i:Int)
      ·exact ⟨a,.inl z⟩
      ·have e:(rowOf v k).2.1=(i:Int):=by omega
       refine ⟨a,.inr ⟨e,?_⟩⟩
       unfold fromF
       exact List.mem_filter.mpr ⟨bo.mpr ⟨k0,k1⟩,decide_eq_true (by rw [a,e])⟩
     ·simp at b
   by_cases c:(rowOf v k).1=p/\((rowOf v k).2.1 < (i:Int)∨((rowOf v k).2.1=(i:Int)/\k∈fromF v p (i:Int)))
   ·rw [if_pos c,if_pos (hiff.mp c)]
   ·rw [if_neg c,if_neg (λz=>c (hiff.mpr z))]
 ·rintro Γ ⟨xs,v4,v5,v6,rfl,hW⟩
  rw [av] at hW
  have hl:=hW.len
  refine ak (bq (iB 3 rfl (aV (by omega))) ⟨gF D,hE,?_⟩)
  unfold bH
  refine List.ext_getElem? λm=>?_
  by_cases hm:m < v.2.length
  ·have hu:(ups 0 v.2.length)[m]?=some (m:Int):=by unfold ups;rw [List.getElem?_map,List.getElem?_range hm];simp
   have:=hW.val (m:Int) (by omega) (by omega)
   rw [show ((m:Int)).toNat=m by omega,List.getD_eq_getElem?_getD,List.getElem?_eq_getElem (by omega)] at this
   rw [List.getElem?_map,hu,List.getElem?_eq_getElem (by omega)]
   have this:xs[m]=_:=this
   rw [this]
   congr 1
   by_cases c:(rowOf v (m:Int)).1=p
   ·have r:=rp (m:Int) (by omega) (by omega)
    have b:=r.sn
    rw [c] at b
    rw [if_pos ⟨c,.inl (by omega)⟩]
   ·rw [if_neg (λz=>c z.1)]
    unfold bb
    rw [if_neg c]
  ·rw [List.getElem?_eq_none (by omega),List.getElem?_eq_none (by rw [List.length_map,av];omega)]
def qJ:bN:=λK ps T=>∃(v:aN) (p:Int),ps=[⟨bZ,v⟩,⟨ab,p⟩]/\bg v/\0<=p/\p < (v.1.length:Int)/\aX v.2 p.toNat/\T=hU K ab (λws=>∃g,cD v p g/\ws=bH v p g)
theorem gU {v:aN}(hv:bg v){p:Int}(p0:0<=p)(p1:p < (v.1.length:Int))(hR:aX v.2 p.toNat){g g':Int->Int}(h:cD v p g)(h':cD v p g'):bH v p g=bH v p g':=by
 unfold bH
 refine List.map_congr_left λk hk=>?_
 unfold bb
 split
 ·congr 1
  refine List.map_congr_left λj hj=>?_
  have hj:=(List.mem_filter.mp hj).1
  obtain ⟨_,_,jp,_,jr⟩:=bK hj
  have q:=hv.dk jr
  have a:=q.e0;have b:=q.en
  rw [jp] at b
  exact h.uniq hv p0 hR h' _ a b
 ·rfl
theorem lK {X:Cx}{Γ Γ1:Ga}{N:Ga->Prop}{T:RT}(i:Nat){S:bN}{x y:Str}{k:Nat}{e:Expr}{es:List Expr}{p p1 p2 pos:Pos}{ps:List Pk}{r:Rep Int}{Pd:List Int->Prop}(C:aw X.prog X.w X.K X.mg X.base x k (aC S X.K))(hr:bt k X.A)(ha:HA X (e::es) Γ ps Γ1)(hS:S X.K ps (hU X.K r Pd))(h:∀ys,Pd ys->ys.length<=sizeLine->N (Γ1.set i (.mu r ys)))
 (hg:Gl X x:=by rfl) (hdb:(x==("__debug__":Str))=false:=by decide) (he:starEach (e::es) X.env=(false,eval e X.env)::starEach es X.env:=by rfl) (hpl:(backTo p2 (starEach es X.env)).any (·.1)=false:=by rfl)
 (hN:X.N.Nodup:=by first | assumption | decide) (hi:X.N[i]?=some y:=by rfl) (hx:Loc X.env.scope y:=by first | exact Or.inl rfl | exact Or.inr rfl)
 (hs:swapsWith (.Call (.Name x p) (e::es) [] p2) (some (.Name y p1)) pos.line X.env=pure false:=by rfl) (hf:X.fn y=true∨X.env.scope.names.lookup y=some .local:=by first | exact .inl rfl | exact .inr rfl):
 W1 X (.Assign [.Name y p1] (.Call (.Name x p) (e::es) [] p2) pos) Γ N T:=λσ H0 R0 H R E D dn dr=>
 sS (fA hN hi hx aD hs hf) (cH C hr ha hS E (λH1 R1 v H' R' E1 s1 xx t=>by
  obtain ⟨a,vs,ys,rfl,h0,h1,h2,p,z,hP⟩:=t
  have E2:=E1.grow xx
  exact dn _ H' R' _ (E2.setG (v:=.ref a) (en:=.mu r ys) i ⟨a,vs,rfl,h1,h2,p⟩ (λc hc=>by rw [show c=a by have:=cG.mp (show c∈refOf (some (.ref a)) from hc);cases this;rfl];exact E1.ext.h.free h0) λc hc j e _ qj w=>by
   have:c=a:=by have:=cG.mp (show c∈refOf (some (.ref a)) from hc);cases this;rfl
   subst this
   exact (Ent.cw (E1.ent j e qj) w).1 h0) (s1.trans xx.r) (h ys hP z)) hg hdb he hpl)
theorem gJ {X:Cx}{Γ Γ1:Ga}{S:bN}{x:Str}{k:Nat}{e b:Expr}{es:List Expr}{p p2 pos:Pos}{ps:List Pk}{Pd:List (Int×Int)->Prop}{kk y:Int}(hu:X.A.units + 1 < cLine)(C:aw X.prog X.w X.K X.mg X.base x k (aC S X.K))(hr:bt k X.A)(ha:HA X (e::es) Γ ps Γ1)(hS:S X.K ps (bG X.K gj Pd))(hb:EV X b Γ1 ab kk Γ1)(h:∀F,Pd F->bC F kk=some y)
 (hg:Gl X x:=by rfl) (hdb:(x==("__debug__":Str))=false:=by decide) (he:starEach (e::es) X.env=(false,eval e X.env)::starEach es X.env:=by rfl) (hpl:(backTo p2 (starEach es X.env)).any (·.1)=false:=by rfl) (hs:pC b:=by exact λ_ _=>rfl):EV X (.Subscript (.Call (.Name x p) (e::es) [] p2) b pos) Γ ab y Γ1:=λσ H0 R0 H R E Q q=>
 eS (oP hu aD aD hs) (cH C hr ha hS E (λH1 R1 v H' R' E1 s1 xx t=>by
  obtain ⟨F,e1,hF⟩:=t
  refine hb σ H0 R0 H' R' (E1.grow xx) _ λu H2 R2 E2 s2 e2=>?_
  obtain ⟨a,rfl,hp⟩:=gj.mono s2 e1
  cases e2
  have g:=dE.k (k:=Sum.inl kk) (E2.sub _ _ hp)
  rw [fE,h F hF] at g
  exact ⟨a,_,rfl,g,q _ H2 R2 E2 (s1.trans (xx.r.trans s2)) rfl⟩) hg hdb he hpl)
end
end K1
namespace Fc
open PySem PySem.Spec L2
open PyProof.Rows hiding St
section
variable {X:Cx}{Γ Γ1 Γ2 Γ3:Ga}{α β γ δ:Type}{N:Ga->Prop}{T:RT}
theorem yh (i:Nat){x:Str}{e:Expr}{p1 pos:Pos}{a c:Int}(he:EV X e Γ ab c Γ)(hΓ:Γ[i]?=some (.im ab a))(h:N (Γ.set i (.im ab (a + c))))
 (hN:X.N.Nodup:=by first | assumption | decide) (hi:X.N[i]?=some x:=by rfl) (hx:Loc X.env.scope x:=by first | exact Or.inl rfl | exact Or.inr rfl)
 (hf:X.fn x=true∨X.env.scope.names.lookup x=some .local:=by first | exact .inl rfl | exact .inr rfl):
 W1 X (.AugAssign (.Name x p1) .Add e pos) Γ N T:=λσ H0 R0 H R E D dn dr=>by
 obtain ⟨v,ea,hr⟩:=E.ent i _ hΓ
 cases (show v=V.int a from hr)
 refine sS (rB hN hi hx aD yK hf) ⟨.int a,at_of ea,he σ H0 R0 H R E _ λu H2 R2 E2 s2 e2=>?_⟩
 cases (show u=V.int c from e2)
 exact ⟨a,c,rfl,rfl,dn _ H2 R2 _ (E2.set i (r:=ab) (x:=a + c) rfl) s2 h⟩
theorem w_subN (i:Nat){x:Str}{e:Expr}{p1 pos:Pos}{a c:Int}(he:EV X e Γ ab c Γ)(hΓ:Γ[i]?=some (.im ab a))(h:N (Γ.set i (.im ab (a - c))))
 (hN:X.N.Nodup:=by first | assumption | decide) (hi:X.N[i]?=some x:=by rfl) (hx:Loc X.env.scope x:=by first | exact Or.inl rfl | exact Or.inr rfl)
 (hf:X.fn x=true∨X.env.scope.names.lookup x=some .local:=by first | exact .inl rfl | exact .inr rfl):
 W1 X (.AugAssign (.Name x p1) .Sub e pos) Γ N T:=λσ H0 R0 H R E D dn dr=>by
 obtain ⟨v,ea,hr⟩:=E.ent i _ hΓ
 cases (show v=V.int a from hr)
 refine sS (rB hN hi hx aD yI hf) ⟨.int a,at_of ea,he σ H0 R0 H R E _ λu H2 R2 E2 s2 e2=>?_⟩
 cases (show u=V.int c from e2)
 exact ⟨a,c,rfl,rfl,dn _ H2 R2 _ (E2.set i (r:=ab) (x:=a - c) rfl) s2 h⟩
end
section
variable {X:Cx}{Γ Γ1 Γ2 Γ3:Ga}{α β γ δ:Type}{N:Ga->Prop}{T:RT}
theorem pE {x:Str}{pos:Pos}{n:Int}{t:Tok}(hm:X.mg x=some (.int n t))(hg:Gl X x:=by rfl)(hd:(x==("__debug__":Str))=false:=by decide):l6 X (.Name x pos) Γ n:=λσ H0 R0 H R E H' Q q=>eS (ot (v:=.int n) hg hm ⟨t,rfl⟩ hd) q
theorem vH {S:bN}{x:Str}{k:Nat}{e:Expr}{es:List Expr}{p p2 pos:Pos}{ps:List Pk}{r:Rep α}{Pd Pd':List α->Prop}(C:aw X.prog X.w X.K X.mg X.base x k (aC S X.K))(hr:bt k X.A)(ha:HA X (e::es) Γ ps Γ1)(hS:S X.K ps (hU X.K r Pd))(h:∀z,Pd z->Pd' z)
 (hg:Gl X x:=by rfl) (hdb:(x==("__debug__":Str))=false:=by decide) (he:starEach (e::es) X.env=(false,eval e X.env)::starEach es X.env:=by rfl) (hpl:(backTo p2 (starEach es X.env)).any (·.1)=false:=by rfl):
 W1 X (.Return (some (.Call (.Name x p) (e::es) [] p2)) pos) Γ N (hU X.K r Pd'):=λσ H0 R0 H R E D dn dr=>
 sS (c7 aD) (cH C hr ha hS E (λH1 R1 v H' R' E1 s1 xx t=>by
  obtain ⟨a,vs,ys,rfl,h0,h1,h2,p,z,hP⟩:=t
  exact dr _ H' R' ((E1.grow xx).ext) ⟨a,vs,ys,rfl,E1.ext.h.free h0,h1,h2,p,z,h ys hP⟩) hg hdb he hpl)
end
end Fc
namespace K1
open PySem L2 Fc
open PySem.Spec hiding Row
open PyProof.Rows hiding St
open PySem.Builtin.Int (intBits)
theorem Ae {v:aN}(hv:bg v){p:Int}(p0:0<=p)(p1:p < (v.1.length:Int))(hR:aX v.2 p.toNat):∃g,cD v p g:=by
 have hs:=hv.sz (v.1.getD p.toNat 0) (by rw [List.getD_eq_getElem?_getD,List.getElem?_eq_getElem (by omega)];exact List.getElem_mem _)
 have o0:cV v p [(1,1)]:=⟨rfl,by simp,λq hq=>by (have:q=1:=by simpa using hq);omega,λq hq qn=>absurd (show q=1 by simpa using hq) qn⟩
 have go:∀(m:Nat) (F:List (Int×Int)),cV v p F->m=(v.1.getD p.toNat 0 - (F.length:Int)).toNat->∃g,cD v p g:=by
  intro m
  induction m with
  | zero=>exact λF h e=>⟨_,h.eq (by omega)⟩
  | succ m ih=>
    intro F h e
    obtain ⟨q,q0,q1,qn,qg⟩:=h.next hv p0 hR (by omega)
    exact ih _ (h.add qn q0 q1 qg) (by rw [List.length_append,List.length_singleton];omega)
 exact go _ _ o0 rfl
open Classical in
noncomputable def onG (v:aN)(p:Int):Int->Int:=if h:∃g,cD v p g then Classical.choose h else λ_=>0
section
variable {v:aN}{p:Int}
theorem f6 (hv:bg v)(p0:0<=p)(p1:p < (v.1.length:Int))(hR:aX v.2 p.toNat):cD v p (onG v p):=by
 have h:=Ae hv p0 p1 hR
 unfold onG
 rw [dif_pos h]
 exact Classical.choose_spec h
theorem cV.get (hv:bg v)(p0:0<=p)(p1:p < (v.1.length:Int))(hR:aX v.2 p.toNat){F:List (Int×Int)}(h1:cV v p F)(h2:v.1.getD p.toNat 0<=(F.length:Int)){q:Int}(q0:0<=q)(q1:q < v.1.getD p.toNat 0):bC F q=some (onG v p q):=by
 have e:=(h1.eq h2).uniq hv p0 hR (f6 hv p0 p1 hR) q q0 q1
 have:=eF.mpr (h1.all h2 q q0 q1)
 unfold gF at e
 cases e2:bC F q with
 | none=>rw [e2] at this;cases this
 | some y=>rw [e2] at e;exact congrArg some e
theorem eB:(da v p).length=(v.1.getD p.toNat 0).toNat:=by unfold da;rw [List.length_map,av]
theorem qp {i:Nat}{x:List Int}(h:(da v p)[i]?=some x):i < (v.1.getD p.toNat 0).toNat/\x=fromF v p (i:Int):=by
 have il:=(List.getElem?_eq_some_iff.mp h).1
 rw [eB] at il
 unfold da at h
 rw [List.getElem?_map,fe il] at h
 exact ⟨il,(Option.some.inj h).symm⟩
end
section
variable {P:Program}{w:World}{K:PySem.W.Frag}{mg:Str->Option Value}{base:Heap}{f:Addr}{fd:FuncData}
abbrev vf:Stmt:=top lY
theorem zy:ax ["web","part"] ["web","part"] (ag vf):=⟨rfl,rfl,rfl,by decide +kernel,rfl,by decide +kernel,by decide +kernel⟩
def vh:bN:=λK ps T=>∃(v:aN) (p:Int),ps=[⟨bZ,v⟩,⟨ab,p⟩]/\bg v/\0<=p/\p < (v.1.length:Int)/\aX v.2 p.toNat/\T=bG K kG (λ_=>True)
theorem Ah (CI:aw P w K mg base "is_loose" 8 (aC BI K))(F:bz K "need_loose" "need_loose" vf f fd)(hm:mg "need_loose"=some (.ref f))(hb:Binds K fd ["web","part"] []):aw P w K mg base "need_loose" 9 (aC vh K):=by
 have nd:=zy.nd
 refine mX F zy hm hb (λqs T ⟨_,_,e,_⟩=>by rw [e];rfl) (λcdv A outer s H E qs T hr hS=>?_)
 obtain ⟨v,p,rfl,hv,p0,p1,hR,rfl⟩:=hS
 refine ⟨λ_ _ _=>⟨(),rfl,trivial⟩,?_⟩
 change WS _ _ [.im bZ v,.im ab p] _ _
 refine ak (bQ (bI (bh (aW CI hr (af (aa 0 rfl) (af (aa 1 rfl) ao)) ⟨v,p,rfl,hv,p0,p1,rfl⟩))) (λh=>?_) (λh=>a9 trivial))
 have:jN v p=true:=by
  unfold jN
  classical
  exact decide_eq_true hR
 rw [this] at h
 exact absurd h (by decide)
abbrev lj:Stmt:=top o5
abbrev va:List Str:=["web","part","leaving","known","place","numbers","following"]
theorem xP:ax va ["web","part"] (ag lj):=⟨rfl,rfl,rfl,by decide +kernel,rfl,by decide +kernel,by decide +kernel⟩
theorem AL (M:bP mg)(CL:aw P w K mg base "rows_leaving" 1 (aC (uP true) K))(F:bz K "ways_on" "ways_on" lj f fd)(hm:mg "ways_on"=some (.ref f))(hb:Binds K fd ["web","part"] []):aw P w K mg base "ways_on" 2 (aC nH K):=by
 have nd:=xP.nd
 have nd1:List.Nodup [("number":Str),"web"]:=by decide
 have nd2:List.Nodup [("to":Str),"known"]:=by decide
 obtain ⟨t2,hEND⟩:=M.end_
 refine bD F xP hm hb (λqs T ⟨_,_,e,_⟩=>by rw [e];rfl) (λcdv A outer s H E qs T hr hS=>?_)
 obtain ⟨v,p,rfl,hv,p0,p1,hR,rfl⟩:=hS
 have hu:(A.deeper (envOfC "ways_on" (ag lj) s.heap.objs.size f cdv)).units + 1 < cLine:=Nat.lt_of_le_of_lt (Nat.add_le_add_left (by decide:1<=64) _) hr.units
 have pl:=hv.pl
 have rl:=hv.rl
 have hs:=hv.sz (v.1.getD p.toNat 0) (by rw [List.getD_eq_getElem?_getD,List.getElem?_eq_getElem (by omega)];exact List.getElem_mem _)
 have ll:=eB (v:=v) (p:=p)
 change WS _ _ [.im (az (ae ab) (ae aB)) v,.im ab p,.no,.no,.no,.no,.no] _ _
 refine ah (aO 2 (aU.im (fk CL hr (af (aa 0 rfl) (af (aa 1 rfl) ao)) ⟨v,p,rfl,hv,p0,p1,rfl⟩)) ?_)
 refine ah (kY 3 (pE hEND) dq ?_)
 have o0:cV v p [(1,1)]:=⟨rfl,by simp,λq hq=>by (have:q=1:=by simpa using hq);omega,λq hq qn=>absurd (show q=1 by simpa using hq) qn⟩
 refine ah (iO (λm Γ=>∃F v4 v5 v6,Γ=[.im (az (ae ab) (ae aB)) v,.im ab p,.im (ae (ae ab)) (da v p),.di (cI F),v4,v5,v6]/\cV v p F/\m=(v.1.getD p.toNat 0 - (F.length:Int)).toNat) ⟨[(1,1)],_,_,_,rfl,o0,rfl⟩ ?_)
 rintro m Γ ⟨F,v4,v5,v6,rfl,hO,rfl⟩
 have hle:=hO.le (by omega)
 refine ⟨_,_,TV.frz (iH (i:=3) rfl) (bj dY (m4 M.len (aa 3 rfl)) (cR M.len (aa 2 rfl))),λh=>?_,λh=>?_⟩
 ·have h:(F.length:Int) < v.1.getD p.toNat 0:=by have:=of_decide_eq_true h;omega
  obtain ⟨qs,s0,s1,sn,sg⟩:=hO.next hv p0 hR h
  refine ak (cK (r:=az ab (ae ab)) (λi Γ=>∃G v4 v5 v6,Γ=[.im (az (ae ab) (ae aB)) v,.im ab p,.im (ae (ae ab)) (da v p),.di (cI G),v4,v5,v6]/\cV v p G/\(∀z∈F.map (·.1),z∈G.map (·.1))/\F.length<=G.length/\(qs < (i:Int)->F.length < G.length))
   (kP M.enumerate (aa 2 rfl)) (iE 4 5) ⟨F,_,_,_,rfl,hO,λz hz=>hz,Nat.le_refl _,λe=>by omega⟩ ?_ ?_)
  ·rintro i x Γ hx ⟨G,v4,v5,v6,rfl,hG,hsub,hfl,hq1⟩
   obtain ⟨e1,e2⟩:=iN hx
   obtain ⟨il,e3⟩:=qp e2
   obtain ⟨q,ns⟩:=x
   have e1:q=(i:Int):=e1
   have e3:ns=fromF v p (i:Int):=e3
   rw [← e1] at e3
   subst e3
   have hid:((((fromF v p q).filter λ_=>true).map λk=>(rowOf v k).2.2.1))=goal v p q:=by rw [List.filter_eq_self.mpr (by simp)];rfl
   have hk:∀k∈fromF v p q,cO v.2 k=some (rowOf v k):=λk hk=>cv bR (bK hk).1 (bK hk).2.1
   change WS _ _ [.im (az (ae ab) (ae aB)) v,.im ab p,.im (ae (ae ab)) (da v p),.di (cI G),.im ab q,.im (ae ab) (fromF v p q),v6] _ _
   refine ah (rD 6 (own:=["number"]) (fr:=["web"]) (ix:=[0]) (ra:=ab) (rb:=ab) (p:=λ_=>true) (f:=λk=>(rowOf v k).2.2.1) (aM (so:=ag lj) (N0:=va) rfl rfl (λx h=>aE h) (by decide +kernel)) (aK (aa 5 rfl))
    (λC s H ex=>aA 0) (λx=>⟨.inr rfl,.inl rfl,trivial⟩) (λC s H ex x hx=>bA) (λC s H ex x hx _=>cQ (bB (bO (aa 1 rfl)) (aa 0 rfl) (hk x hx))) ?_)
   rw [hid]
   have gl:(goal v p q).length<=60:=by
    unfold goal fromF
    rw [List.length_map]
    refine Nat.le_trans (List.length_filter_le _ _) ?_
    rw [av];omega
   refine WS.freeze 6 rfl (aV (by omega)) ?_
   change WS _ _ [.im (az (ae ab) (ae aB)) v,.im ab p,.im (ae (ae ab)) (da v p),.di (cI G),.im ab q,.im (ae ab) (fromF v p q),.im (ae ab) (goal v p q)] _ _
   have mem:∀z,(bC G z).isSome=true↔z∈G.map (·.1):=λz=>eF
   have hglen:=hG.le (by omega)
   refine ak (bQ (TW.tv (ku (kM 3 true hu (aa 4 rfl) rfl) (λ_=>kK (TV.frz (iH (i:=3) rfl) (bh (dh M.all (aU.im (aT (own:=["to"]) (fr:=["known"]) (ix:=[3]) (ra:=ab) (rb:=aF) (p:=λ_=>true) (f:=λz=>(bC G z).isSome) (aM (so:=ag lj) (N0:=va) rfl rfl (λx h=>aE h) (by decide +kernel)) (aK (aa 6 rfl))
    (λC s H ex=>aA 0) (λx=>⟨.inr rfl,.inl rfl,trivial⟩) (λC s H ex x hx=>bA) (λC s H ex x hx _=>oq hu (aa 0 rfl) (aa 1 rfl)))))))))) (λh=>?_) (λh=>a9 ?_))
   ·obtain ⟨h1,h2⟩:=Bool.and_eq_true_iff.mp h
    have h1:q∉G.map (·.1):=λw=>by
     have:=(mem q).mpr w
     rw [← fY] at this
     simp [this] at h1
    have h2:∀z∈goal v p q,z∈G.map (·.1):=λz hz=>by
     rw [List.all_eq_true] at h2
     exact (mem z).mp (h2 _ (List.mem_map.mpr ⟨z,List.mem_filter.mpr ⟨hz,rfl⟩,rfl⟩))
    have hg2:∀z∈goal v p q,bC G z=some (gF G z):=λz hz=>by
     have:=(mem z).mpr (h2 z hz)
     unfold gF
     cases e:bC G z with
     | none=>rw [e] at this;cases this
     | some y=>rfl
    have hid2:(((goal v p q).filter λ_=>true).map λz=>gF G z).sum=((goal v p q).map (gF G)).sum:=by rw [List.filter_eq_self.mpr (by simp)]
    refine ak (rT 3 hu (aa 4 rfl) (EV.frz (iH (i:=3) rfl) (λ_ _ _ _ _ h=>h) (EV.cast (jO M.sum (aU.im (aT (own:=["to"]) (fr:=["known"]) (ix:=[3]) (ra:=ab) (rb:=ab) (p:=λ_=>true) (f:=λz=>gF G z) (aM (so:=ag lj) (N0:=va) rfl rfl (λx h=>aE h) (by decide +kernel)) (aK (aa 6 rfl))
     (λC s H ex=>aA 0) (λx=>⟨.inr rfl,.inl rfl,trivial⟩) (λC s H ex x hx=>bA) (λC s H ex x hx _=>jK hu (aa 1 rfl) (aa 0 rfl) (hg2 x hx))))) hid2)) rfl (Nat.lt_of_le_of_lt (show G.length<=1000 by omega) (by decide)) ?_)
    have ep:fT G q ((goal v p q).map (gF G)).sum=G++[(q,((goal v p q).map (gF G)).sum)]:=by
     unfold fT
     rw [if_neg (λe=>h1 ((mem q).mp e))]
    refine ⟨G++[(q,((goal v p q).map (gF G)).sum)],_,_,_,by rw [ep];rfl,hG.add h1 (by omega) (by omega) h2,λz hz=>?_,by rw [List.length_append];omega,λ_=>by rw [List.length_append];simp;omega⟩
    rw [List.map_append];exact List.mem_append_left _ (hsub z hz)
   ·refine ⟨G,_,_,_,rfl,hG,hsub,hfl,λhlt=>?_⟩
    by_cases e:qs < (i:Int)
    ·exact hq1 e
    ·have eqq:q=qs:=by omega
     subst eqq
     have hin:q∈G.map (·.1):=Classical.byContradiction λno=>by
      have a1:(if true=true then !dR (cI G) q else dR (cI G) q)=true:=by
       rw [if_pos rfl,fY]
       cases e2:(bC G q).isSome with
       | false=>rfl
       | true=>exact absurd ((mem q).mp e2) no
      have a2:((((goal v p q).filter λ_=>true).map λz=>(bC G z).isSome).all id)=true:=by
       rw [List.all_eq_true]
       intro y hy
       obtain ⟨z,hz,rfl⟩:=List.mem_map.mp hy
       exact (mem z).mpr (hsub z (sg z (List.mem_filter.mp hz).1))
      rw [a1,a2] at h
      exact absurd h (by decide)
     have:=dt (q::F.map (·.1)) (G.map (·.1)) (List.nodup_cons.mpr ⟨sn,hO.nd⟩) λx hx=>by
      rcases List.mem_cons.mp hx with rfl | hx
      ·exact hin
      ·exact hsub x hx
     rw [List.length_cons,List.length_map,List.length_map] at this
     omega
  ·rintro Γ ⟨G,v4,v5,v6,rfl,hG,_,_,hq1⟩
   rw [eK,eB] at hq1
   have:=hq1 (by omega)
   have:=hG.le (by omega)
   exact ⟨_,by omega,G,_,_,_,rfl,hG,rfl⟩
 ·have h:¬(F.length:Int) < v.1.getD p.toNat 0:=by have:=of_decide_eq_false h;omega
  exact ak (oa 3 rfl ⟨hO,by omega⟩)
abbrev sE:Stmt:=top m9
abbrev nWI:List Str:=["web","part","known","told","numbers","total","number"]
theorem xU:ax nWI ["web","part"] (ag sE):=⟨rfl,rfl,rfl,by decide +kernel,rfl,by decide +kernel,by decide +kernel⟩
theorem zS (M:bP mg)(CN:aw P w K mg base "ways_on" 2 (aC nH K))(CL:aw P w K mg base "rows_leaving" 1 (aC (uP true) K))(F:bz K "worths_in" "worths_in" sE f fd)(hm:mg "worths_in"=some (.ref f))(hb:Binds K fd ["web","part"] []):aw P w K mg base "worths_in" 3 (aC qJ K):=by
 have nd:=xU.nd
 have CN:=CN.mono (show 2<=2 by decide)
 have CL:=CL.mono (show 1<=2 by decide)
 refine bD F xU hm hb (λqs T ⟨_,_,e,_⟩=>by rw [e];rfl) (λcdv A outer s H E qs T hr hS=>?_)
 obtain ⟨v,p,rfl,hv,p0,p1,hR,rfl⟩:=hS
 have hu:(A.deeper (envOfC "worths_in" (ag sE) s.heap.objs.size f cdv)).units + 1 < cLine:=Nat.lt_of_le_of_lt (Nat.add_le_add_left (by decide:1<=64) _) hr.units
 have pl:=hv.pl
 have rl:=hv.rl
 have hs:=hv.sz (v.1.getD p.toNat 0) (by rw [List.getD_eq_getElem?_getD,List.getElem?_eq_getElem (by omega)];exact List.getElem_mem _)
 have ll:=eB (v:=v) (p:=p)
 change WS _ _ [.im (az (ae ab) (ae aB)) v,.im ab p,.no,.no,.no,.no,.no] _ _
 refine ah (gq 2 CN hr (af (aa 0 rfl) (af (aa 1 rfl) ao)) ⟨v,p,rfl,hv,p0,p1,hR,rfl⟩ ?_)
 rintro D ⟨hD,hDl⟩
 have hE:=f6 hv p0 p1 hR
 have hget:∀z,0<=z->z < v.1.getD p.toNat 0->bC D z=some (onG v p z):=λz z0 z1=>cV.get hv p0 p1 hR hD hDl z0 z1
 generalize onG v p=g at hE hget
 refine ah (cS 3 (r:=ab) (ow (aU.im (aY (aJ au bu) (by show 1<=sizeLine;decide))) (cR M.len (bO (aa 0 rfl))) (by omega) (by omega) (aV (by simp;omega))) ?_)
 rw [rep0,show ((v.2.length:Int)).toNat=v.2.length by omega]
 have rp:∀k,0<=k->k < (v.2.length:Int)->pV v.1 (rowOf v k):=λk k0 k1=>hv.dk (by unfold rowOf;rw [List.getD_eq_getElem?_getD,List.getElem?_eq_getElem (by omega)];exact List.getElem_mem _)
 have w0:iK v p g 0 0 0 (List.replicate v.2.length 0):=by
  refine ⟨List.length_replicate,λk k0 k1=>?_⟩
  rw [List.getD_eq_getElem?_getD,List.getElem?_replicate,if_pos (by omega),if_neg]
  ·rfl
  ·rintro ⟨_,z | ⟨_,z⟩⟩
   ·have:=(rp k k0 k1).s0;omega
   ·simp at z
 refine ah (cK (r:=ae ab) (λi Γ=>∃xs v4 v5 v6,Γ=[.im (az (ae ab) (ae aB)) v,.im ab p,.im gj D,.mu ab xs,v4,v5,v6]/\iK v p g (i:Int) 0 0 xs)
  (aK (aU.im (fk CL hr (af (aa 0 rfl) (af (aa 1 rfl) ao)) ⟨v,p,rfl,hv,p0,p1,rfl⟩))) (aA 4) ⟨_,_,_,_,rfl,w0⟩ ?_ ?_)
 ·rintro i ns Γ hq ⟨xs,v4,v5,v6,rfl,hW⟩
  obtain ⟨hi,rfl⟩:=qp hq
  refine ah (aO 5 au ?_)
  refine ak (cK (r:=ab) (λj Γ=>∃xs v6,Γ=[.im (az (ae ab) (ae aB)) v,.im ab p,.im gj D,.mu ab xs,.im (ae ab) (fromF v p (i:Int)),.im ab ((((fromF v p (i:Int)).take j).map λk=>g (ba v k)).sum),v6]/\iK v p g (i:Int) (i:Int) j xs)
   (aK (aa 4 rfl)) (aA 6) ⟨xs,_,rfl,⟨hW.len,λk k0 k1=>by rw [hW.val k k0 k1];simp⟩⟩ ?_ ?_)
  ·rintro j k Γ hk ⟨xs,v6,rfl,hW⟩
   have km:=List.mem_of_getElem? hk
   obtain ⟨k0,k1,kp,kq,kr⟩:=bK km
   have hl:=hW.len
   have tk:(fromF v p (i:Int)).take (j + 1)=(fromF v p (i:Int)).take j++[k]:=by rw [List.take_succ,hk];rfl
   refine ah (kC 3 (aa 5 rfl) (aa 6 rfl) rfl rfl (dS k0 (by omega)) ?_)
   have q:=hv.dk kr
   have e0:=q.e0;have en:=q.en
   rw [kp] at en
   refine ak (yh 5 (jK hu (aa 2 rfl) (cQ (bB (bO (aa 0 rfl)) (aa 6 rfl) (cv bR k0 k1))) (hget _ e0 en)) rfl ?_)
   have es:(((fromF v p (i:Int)).take (j + 1)).map λk=>g (ba v k)).sum=(((fromF v p (i:Int)).take j).map λk=>g (ba v k)).sum + g (rowOf v k).2.2.1:=by rw [tk,List.map_append,List.sum_append];simp [ba]
   refine ⟨xs.set k.toNat ((((fromF v p (i:Int)).take j).map λk=>g (ba v k)).sum),.im ab k,by rw [es];rfl,by rw [List.length_set];exact hl,λm m0 m1=>?_⟩
   by_cases e:m=k
   ·subst e
    have hw:bb v p g m=(((fromF v p (i:Int)).take j).map λk=>g (ba v k)).sum:=by
     unfold bb
     rw [if_pos kp,kq,before hk]
    rw [List.getD_eq_getElem?_getD,List.getElem?_set_self (by omega),if_pos ⟨kp,.inr ⟨kq,by rw [tk];simp⟩⟩,hw];rfl
   ·have:(xs.set k.toNat ((((fromF v p (i:Int)).take j).map λk=>g (ba v k)).sum)).getD m.toNat 0=xs.getD m.toNat 0:=by
     rw [List.getD_eq_getElem?_getD,List.getElem?_set_ne (by omega),← List.getD_eq_getElem?_getD]
    rw [this,hW.val m m0 m1,tk]
    have:m∈(fromF v p (i:Int)).take j++[k]↔m∈(fromF v p (i:Int)).take j:=by
     rw [List.mem_append,List.mem_singleton]
     exact ⟨λz=>z.resolve_right e,.inl⟩
    simp only [this]
  ·rintro Γ ⟨xs,v6,rfl,hW⟩
   refine ⟨xs,_,_,_,rfl,hW.len,λk k0 k1=>?_⟩
   rw [hW.val k k0 k1,List.take_length]
   have hiff:((rowOf v k).1=p/\((rowOf v k).2.1 < (i:Int)∨((rowOf v k).2.1=(i:Int)/\k∈fromF v p (i:Int))))↔((rowOf v k).1=p/\((rowOf v k).2.1 < ((i + 1:Nat):Int)∨((rowOf v k).2.1=0/\k∈(fromF v p 0).take 0))):=by
    constructor
    ·rintro ⟨a,b | ⟨b,_⟩⟩
     ·exact ⟨a,.inl (by omega)⟩
     ·exact ⟨a,.inl (by omega)⟩
    ·rintro ⟨a,b | ⟨_,b⟩⟩
     ·by_cases z:(rowOf v k).2.1 < (i:Int)
      ·exact ⟨a,.inl z⟩
      ·have e:(rowOf v k).2.1=(i:Int):=by omega
       refine ⟨a,.inr ⟨e,?_⟩⟩
       unfold fromF
       exact List.mem_filter.mpr ⟨bo.mpr ⟨k0,k1⟩,decide_eq_true (by rw [a,e])⟩
     ·simp at b
   by_cases c:(rowOf v k).1=p/\((rowOf v k).2.1 < (i:Int)∨((rowOf v k).2.1=(i:Int)/\k∈fromF v p (i:Int)))
   ·rw [if_pos c,if_pos (hiff.mp c)]
   ·rw [if_neg c,if_neg (λz=>c (hiff.mpr z))]
 ·rintro Γ ⟨xs,v4,v5,v6,rfl,hW⟩
  rw [eB] at hW
  have hl:=hW.len
  refine ak (oA 3 rfl (aV (by omega)) ⟨g,hE,?_⟩)
  unfold bH
  refine List.ext_getElem? λm=>?_
  by_cases hm:m < v.2.length
  ·have hu:(ups 0 v.2.length)[m]?=some (m:Int):=fe hm
   have:=hW.val (m:Int) (by omega) (by omega)
   rw [show ((m:Int)).toNat=m by omega,List.getD_eq_getElem?_getD,List.getElem?_eq_getElem (by omega)] at this
   rw [List.getElem?_map,hu,List.getElem?_eq_getElem (by omega)]
   have this:xs[m]=_:=this
   rw [this]
   congr 1
   by_cases c:(rowOf v (m:Int)).1=p
   ·have r:=rp (m:Int) (by omega) (by omega)
    have b:=r.sn
    rw [c] at b
    rw [if_pos ⟨c,.inl (by omega)⟩]
   ·rw [if_neg (λz=>c z.1)]
    unfold bb
    rw [if_neg c]
  ·rw [List.getElem?_eq_none (by omega),List.getElem?_eq_none (by rw [List.length_map,av];omega)]
abbrev u3:Stmt:=top qq
theorem yO:ax ["web","part"] ["web","part"] (ag u3):=⟨rfl,rfl,rfl,by decide +kernel,rfl,by decide +kernel,by decide +kernel⟩
theorem Ao (CO:aw P w K mg base "need_loose" 9 (aC vh K))(CI:aw P w K mg base "worths_in" 3 (aC qJ K))(F:bz K "worths" "worths" u3 f fd)(hm:mg "worths"=some (.ref f))(hb:Binds K fd ["web","part"] []):aw P w K mg base "worths" 10 (aC qJ K):=by
 have nd:=yO.nd
 have CI:=CI.mono (show 3<=9 by decide)
 refine bD F yO hm hb (λqs T ⟨_,_,e,_⟩=>by rw [e];rfl) (λcdv A outer s H E qs T hr hS=>?_)
 obtain ⟨v,p,rfl,hv,p0,p1,hR,rfl⟩:=hS
 change WS _ _ [.im (az (ae ab) (ae aB)) v,.im ab p] _ _
 refine ah (gh CO hr (af (aa 0 rfl) (af (aa 1 rfl) ao)) ⟨v,p,rfl,hv,p0,p1,hR,rfl⟩ ?_)
 exact ak (vH CI hr (af (aa 0 rfl) (af (aa 1 rfl) ao)) ⟨v,p,rfl,hv,p0,p1,hR,rfl⟩ λz h=>h)
end
section
variable {P:Program}{w:World}{K:PySem.W.Frag}{mg:Str->Option Value}{base:Heap}{f:Addr}{fd:FuncData}
end
end K1
namespace Fc
open PySem PySem.Spec L2
open PyProof.Rows hiding St
section
variable {X:Cx}{Γ Γ1 Γ2 Γ3:Ga}{α β γ δ:Type}{N:Ga->Prop}{T:RT}
variable {r:Rep α}{tg:Expr}{pos:Pos}{bf:α->Ga->Ga}{a b:Addr}{xs:List α}{Pp:Type}{B:d5 Pp}{s0:Pp}
def lq (X:Cx)(e:Expr)(Γ:Ga){α:Type}(r:Rep α)(P:List α->Ga->Prop):Prop:=
 ∀(σ:St) (H0 R0 H R:Hp),ai X.K σ H0 R0 H R Γ->∀Q:VK,(∀a vs ys Γ' H' R',P ys Γ'->ai X.K σ H0 R0 H' R' Γ'->aj R R'->H' a=some (.lst vs)->R' a=none->H0 a=none->Off a σ Γ'->PySem.Paired (r.R X.K R') vs ys->ys.length<=sizeLine->Q (.ref a) H')->cN X e σ H Q
def mQ (X:Cx)(e:Expr)(Γ:Ga){α:Type}(r:Rep α)(P:α->Ga->Prop):Prop:=
 ∀(σ:St) (H0 R0 H R:Hp),ai X.K σ H0 R0 H R Γ->∀Q:VK,(∀v y Γ' H' R',P y Γ'->ai X.K σ H0 R0 H' R' Γ'->aj R R'->r.R X.K R' v y->Q v H')->cN X e σ H Q
theorem EV.evq {e:Expr}{y:α}{P:α->Ga->Prop}(h:EV X e Γ r y Γ1)(hp:P y Γ1):mQ X e Γ r P:=λσ H0 R0 H R E Q q=>h σ H0 R0 H R E Q λv H' R' E' s' e'=>q v y Γ1 H' R' hp E' s' e'
def Bj (X:Cx)(tg iter:Expr)(Γ:Ga){α:Type}(r:Rep α)(P:List α->Ga->Prop):Prop:=
 ∃wi,PI X tg iter wi/\∀(σ:St) (H0 R0 H R:Hp),ai X.K σ H0 R0 H R Γ->∀Rq:It->Hp->Prop,(∀J H1 R1 xs Γ1,P xs Γ1->ai X.K σ H0 R0 H1 R1 Γ1->aj R R1->xs.length<=sizeLine->Src X.K J R1 r xs->Rq J H1)->wi σ H Rq
theorem yy {iter:Expr}{body:List Stmt}{P:List α->Ga->Prop}(I:List α->Nat->Ga->Prop)(hit:Bj X tg iter Γ r P)(hb:BG X tg r bf)(h0:∀xs Γ1,P xs Γ1->I xs 0 Γ1)
 (hstep:∀xs,(∃Γ1,P xs Γ1)->∀(i:Nat) (x:α) (Γ:Ga),xs[i]?=some x->I xs i Γ->WS X body (bf x Γ) (I xs (i + 1)) T) (hend:∀xs,(∃Γ1,P xs Γ1)->∀Γ:Ga,I xs xs.length Γ->N Γ)
 (hc:X.calm=true:=by rfl) (hp:PassesOwn (model X.prog X.w) X.A X.env X.xe:=by exact PassesOwn.never) (hs:∀x,foldedSetIterable iter X.env x=pure x:=by intro _;rfl):W1 X (.For tg iter body [] pos) Γ N T:=λσ H0 R0 H R E D dn dr=>by
 obtain ⟨wi,hi,hit⟩:=hit
 refine sS (qW hp hc hi vd fq hs) (hit σ H0 R0 H R E _ λJ H1 R1 xs Γ1 hP E1 s1 hz src=>?_)
 have hP':∃Γ1,P xs Γ1:=⟨Γ1,hP⟩
 refine ⟨λi m σ' H'=>m=xs.length - i/\i<=xs.length/\∃R' Γ',ai X.K σ' H0 R0 H' R' Γ'/\aj R1 R'/\I xs i Γ',⟨_,rfl,Nat.zero_le _,R1,Γ1,E1,aj.refl _,h0 xs Γ1 hP⟩,?_⟩
 rintro i m σ' H' ⟨rfl,hle,R',Γ',E',s',hI⟩
 obtain ⟨sgo,sstop⟩:=src H' R' s' E'.sub i
 by_cases hlt:i < xs.length
 ·obtain ⟨go,yl⟩:=sgo _ (List.getElem?_eq_getElem hlt)
  refine .inr ⟨go,λσ' H'=>i + 1<=xs.length/\∃R' Γ',ai X.K σ' H0 R0 H' R' Γ'/\aj R1 R'/\I xs (i + 1) Γ',λσ2 H2 h=>⟨xs.length - (i + 1),by omega,rfl,h.1,h.2⟩,λv H2 hy=>?_⟩
  obtain ⟨R2,x2,hr⟩:=yl v H2 hy
  refine hb σ' H0 R0 H2 R2 Γ' v _ (E'.grow x2) hr _ λσ2 E2=>?_
  exact hstep xs hP' i _ Γ' (List.getElem?_eq_getElem hlt) hI σ2 H0 R0 H2 R2 E2 _ (λσ3 H3 R3 Γ3 E3 s3 h3=>⟨hlt,R3,Γ3,E3,s'.trans (x2.r.trans s3),h3⟩) dr
 ·have e:i=xs.length:=by omega
  subst e
  exact .inl ⟨sstop (Nat.le_refl _),dn σ' H' R' Γ' E' (s1.trans s') (hend xs hP' Γ' hI)⟩
theorem wk {a b:Expr}{P:List α->Ga->Prop}(ha:EV X a Γ (ae r) xs Γ1)(hb:lq X b Γ1 r P)(hz:∀ys Γ2,P ys Γ2->xs.length + ys.length<=sizeLine):lq X (.BinOp a .Add b pos) Γ r (λzs Γ2=>∃ys,zs=xs++ys/\P ys Γ2):=by
 intro σ H0 R0 H R E Q q
 refine eS (j7 m3 aD aD) (ha σ H0 R0 H R E _ λv H1 R1 E1 s1 e1=>hb σ H0 R0 H1 R1 E1 _ λc ws ys Γ2 H2 R2 hP E2 s2 hc hR h0 off pp' z'=>?_)
 obtain ⟨p,vs,rfl,hp,pp,z⟩:=(ae r).mono s2 e1
 refine ⟨p,c,vs,ws,rfl,rfl,E2.sub _ _ hp,hc,by rw [pp.length,pp'.length];exact hz ys Γ2 hP,λd hd=>?_⟩
 exact q d _ _ Γ2 _ R2 ⟨ys,rfl,hP⟩ (E2.grow (Ext.bW E2.sub hd _)) (s1.trans s2) ar (E2.sub.free hd) (E2.ext.h.free hd) (E2.off hd) (bE pp pp') (by rw [List.length_append];exact hz ys Γ2 hP)
def oQ (own:List Str)(ix:List Nat)(l:Nat)(e:Ent)(Γ:Ga):Ga:=List.replicate own.length .no++ix.map λi=>if i=l then e else ig Γ[i]?
theorem rG {K:PySem.W.Frag}{σ:St}{H0 R0 H R:Hp}{l:Nat}(E:ai K σ H0 R0 H R Γ)(own:List Str)(ix:List Nat)(hl:Γ[l]?=some (.ob (B.bx a b s0)))(hu:∀(j k:Nat),ix[j]?=some l->ix[k]?=some l->j=k):ai K (cM own ix σ) (de H [a,b]) R H R (oQ own ix l (.ob (B.bx a b s0)) Γ):=by
 obtain ⟨ea,hB,hRa,hRb⟩:=cP (E.ent l _ hl)
 have look:∀(i:Nat) (e:Ent),(oQ own ix l (.ob (B.bx a b s0)) Γ)[i]?=some e->e= .no∨∃k,own.length<=i/\ix[i - own.length]?=some k/\((cM own ix σ)[i]?).join=(σ[k]?).join/\e=if k=l then .ob (B.bx a b s0) else ig Γ[k]?:=λi e q=>by
  unfold oQ at q
  by_cases hi:i < own.length
  ·rw [List.getElem?_append_left (by simpa using hi),List.getElem?_replicate,if_pos hi] at q
   exact .inl (Option.some.inj q).symm
  ·rw [List.getElem?_append_right (by simpa using hi),List.length_replicate,List.getElem?_map] at q
   cases ek:ix[i - own.length]? with
   | none=>rw [ek] at q;cases q
   | some k=>
     rw [ek] at q
     refine .inr ⟨k,by omega,rfl,?_,(Option.some.inj q).symm⟩
     unfold cM
     rw [List.getElem?_append_right (by simpa using hi),List.length_replicate,List.getElem?_map,ek]
     rfl
 have lentfp:∀(k:Nat) (o:Option V),(ig Γ[k]?).fp o=[]:=λk o=>by unfold ig;split<;>rfl
 refine ⟨⟨i3,aj.refl _,E.sub,λ_ _=>rfl⟩,λi e q=>?_,λi e c q w=>?_,λi j e e' c q q' w w'=>?_,by unfold oQ cM;simp⟩
 ·rcases look i e q with rfl | ⟨k,_,_,ej,rfl⟩
  ·trivial
  ·rw [ej]
   split
   ·rename_i hk;rw [hk];exact E.ent l _ hl
   ·cases eg:Γ[k]? with
    | none=>trivial
    | some e=>
      cases e with
      | im r x=>exact E.ent k _ eg
      | no=>trivial
      | mu r x=>trivial
      | di x=>trivial
      | ob x=>trivial
 ·rcases look i e q with rfl | ⟨k,_,_,ej,rfl⟩
  ·cases w
  ·split at w
   ·have w:c∈(B.bx a b s0).fp:=w
    rw [B.fp] at w
    exact f7 w
   ·rw [lentfp] at w;cases w
 ·rcases look i e q with rfl | ⟨k,oi,ki,_,rfl⟩
  ·cases w
  ·rcases look j e' q' with rfl | ⟨k',oj,kj,_,rfl⟩
   ·cases w'
   ·split at w
    ·rename_i h1
     split at w'
     ·rename_i h2
      rw [h1] at ki;rw [h2] at kj
      have:=hu _ _ ki kj
      omega
     ·rw [lentfp] at w';cases w'
    ·rw [lentfp] at w;cases w
theorem pk {elt:Expr}{scope:Scope}{cl:List (Str×Addr)}{own fr:List Str}{ix:List Nat}{ra:Rep α}{rb:Rep β}{l li:Nat}{G:Pp->Ga}{Inv:Nat->Pp->Prop}{P:α->β->Prop}{J:It}{σ:St}{H0 R0 H1 R1:Hp}{Q:VK}(E1:ai X.K σ H0 R0 H1 R1 Γ1)(hl:Γ1[l]?=some (.ob (B.bx a b s0)))(hu:∀(j k:Nat),ix[j]?=some l->ix[k]?=some l->j=k)(hG0:oQ own ix l (.ob (B.bx a b s0)) Γ1=G s0)(hG:∀s,(G s)[li]?=some (.ob (B.bx a b s)))(src:Src X.K J R1 ra xs)(hz:xs.length<=sizeLine)(hI0:Inv 0 s0)
 (hb:∀(C:Addr) (s:Shared) (H:Hp) (ex:List Addr),BG (aq X scope cl C (own++fr) s H ex) tg ra bf) (hw:∀x s,Wk (bf x (G s)) (G s))
 (he:∀(C:Addr) (s:Shared) (H:Hp) (ex:List Addr) (i:Nat) x st,xs[i]?=some x->Inv i st->mQ (aq X scope cl C (own++fr) s H ex) elt (bf x (G st)) rb (λy Γ'=>∃st',Γ'=bf x (G st')/\P x y/\Inv (i + 1) st'))
 (q:∀c vs zs H' R' st,Ext (de H1 [a,b]) R1 H' R'->(B.bx a b st).R X.K H' R' (.ref a)->R' a=none->R' b=none->H' c=none->PySem.Paired (rb.R X.K R') vs zs->PySem.Paired P xs zs->Inv xs.length st->Q (.ref c) (upd H' c (.lst vs))):
 ∃W:Nat->Nat->List V->St->Hp->Prop,(∃m,W 0 m [] (cM own ix σ) H1)/\∀i m ys σ' H',W i m ys σ' H'->
  ys.length<=sizeLine/\((J.stop i H'/\∀p,H' p=none->Q (.ref p) (upd H' p (.lst ys)))∨
  (J.go i H'/\∀x H2,J.yld i H' x H2->(λv σ H Q=>∀C s Hh ex,dX (aq X scope cl C (own++fr) s Hh ex) tg v σ H Q:TG) x σ' H2 λσ2 H3=>(λσ H Q=>∀C s Hh ex,eC (aq X scope cl C (own++fr) s Hh ex) [] σ H Q:TT) σ2 H3 λb H4=>
    if b=true then (λσ H Q=>∀C s Hh ex,cN (aq X scope cl C (own++fr) s Hh ex) elt σ H Q:TE) σ2 H4 λv H5=>∃m',m' < m/\W (i + 1) m' (ys++[v]) σ2 H5 else∃m',m' < m/\W (i + 1) m' ys σ2 H4)):=by
 refine ⟨λi m ys σ' H'=>m=xs.length - i/\i<=xs.length/\∃R' zs st,ai X.K σ' (de H1 [a,b]) R1 H' R' (G st)/\PySem.Paired (rb.R X.K R') ys zs/\PySem.Paired P (xs.take i) zs/\Inv i st,⟨_,rfl,Nat.zero_le _,R1,[],s0,by rw [← hG0];exact rG E1 own ix hl hu,.nil,(.nil:PySem.Paired P [] []),hI0⟩,?_⟩
 rintro i m ys σ' H' ⟨rfl,hle,R',zs,st,E',pp,pq,hI⟩
 have hys:ys.length<=sizeLine:=by
  rw [pp.length,← pq.length]
  refine Nat.le_trans ?_ hz
  rw [List.length_take];omega
 obtain ⟨sgo,sstop⟩:=src H' R' E'.ext.r E'.sub i
 refine ⟨hys,?_⟩
 by_cases hlt:i < xs.length
 ·obtain ⟨go,yl⟩:=sgo _ (List.getElem?_eq_getElem hlt)
  have tk:(xs.take (i + 1))=xs.take i++[xs[i]]:=by rw [List.take_succ,List.getElem?_eq_getElem hlt];rfl
  refine .inr ⟨go,λv H2 hy C s Hh ex=>?_⟩
  obtain ⟨R2,x2,hr⟩:=yl v H2 hy
  refine hb C s Hh ex σ' _ R1 H2 R2 _ v _ (E'.grow x2) hr _ λσ2 E2=>?_
  intro C s Hh ex
  refine (bA (X:=aq X scope cl C (own++fr) s Hh ex)) σ2 _ R1 H2 R2 E2 _ λH4 R4 E4 s4=>?_
  rw [if_pos rfl]
  intro C s Hh ex
  refine he C s Hh ex i _ st (List.getElem?_eq_getElem hlt) hI σ2 _ R1 H4 R4 E4 _ λw z Γ' H5 R5 hP E5 s5 e5=>?_
  obtain ⟨st',rfl,hPz,hI'⟩:=hP
  refine ⟨xs.length - (i + 1),by omega,rfl,hlt,R5,zs++[z],st',E5.weak (hw _ _),?_,?_,hI'⟩
  ·exact bE (Paired.map (λ_ _=>rb.mono (x2.r.trans (s4.trans s5))) pp) (.cons e5 .nil)
  ·rw [tk];exact bE pq (.cons hPz .nil)
 ·have e:i=xs.length:=by omega
  subst e
  rw [List.take_length] at pq
  obtain ⟨_,hB,hRa,hRb⟩:=cP (E'.ent li _ (hG st))
  exact .inl ⟨sstop (Nat.le_refl _),λc hc=>q c ys zs H' R' st E'.ext hB hRa hRb hc pp pq hI⟩
theorem qt (l li:Nat){elt iter:Expr}{scope:Scope}{cl:List (Str×Addr)}{own fr:List Str}{ix:List Nat}{ra:Rep α}{rb:Rep β}(G:Pp->Ga)(Inv:Nat->Pp->Prop){P:α->β->Prop}
 (S:cf X scope cl own fr ix) (hit:IV X tg iter Γ ra xs Γ1) (hl:Γ1[l]?=some (.ob (B.bx a b s0))) (hu:∀(j k:Nat),ix[j]?=some l->ix[k]?=some l->j=k) (hG0:oQ own ix l (.ob (B.bx a b s0)) Γ1=G s0) (hG:∀s,(G s)[li]?=some (.ob (B.bx a b s))) (hI0:Inv 0 s0)
 (hb:∀(C:Addr) (s:Shared) (H:Hp) (ex:List Addr),BG (aq X scope cl C (own++fr) s H ex) tg ra bf) (hw:∀x s,Wk (bf x (G s)) (G s))
 (he:∀(C:Addr) (s:Shared) (H:Hp) (ex:List Addr) (i:Nat) x st,xs[i]?=some x->Inv i st->mQ (aq X scope cl C (own++fr) s H ex) elt (bf x (G st)) rb (λy Γ'=>∃st',Γ'=bf x (G st')/\P x y/\Inv (i + 1) st'))
 (hc:X.calm=true:=by rfl) (hs:∀x,foldedSetIterable iter X.env x=pure x:=by intro _;rfl):lq X (.ListComp elt [⟨tg,iter,[],0⟩] scope pos) Γ rb (λzs Γ2=>PySem.Paired P xs zs/\∃st,Inv xs.length st/\Γ2=Γ1.set l (.ob (B.bx a b st))):=by
 intro σ H0 R0 H R E Q q
 obtain ⟨wi,hi,hit⟩:=hit
 refine eS (iJ (g:=λv σ H Q=>∀C s Hh ex,dX (aq X scope cl C (own++fr) s Hh ex) tg v σ H Q) (tc:=λσ H Q=>∀C s Hh ex,eC (aq X scope cl C (own++fr) s Hh ex) [] σ H Q) (te:=λσ H Q=>∀C s Hh ex,cN (aq X scope cl C (own++fr) s Hh ex) elt σ H Q) hc S hi
  (λC s H ex=>⟨λpins s1 σ H v u Q I r h=>h C s _ ex pins s1 u I r,λpins s1 σ H Q I h=>h C s _ ex pins s1 I,λpins s1 σ H Q I h=>h C s _ ex pins s1 I⟩) hs) ?_
 refine hit σ H0 R0 H R E _ λJ H1 R1 E1 s1 hz src=>pk E1 hl hu hG0 hG src hz hI0 hb hw he λc vs zs H' R' st xx hB hRa hRb hc pp pq hI=>?_
 obtain ⟨ea,_⟩:=cP (E1.ent l _ hl)
 have E2:ai X.K σ H0 R0 H' R' (Γ1.set l (.ob (B.bx a b st))):=E1.uQ hl (by rw [B.fp];exact xx) (by rw [ea];exact fJ hB hRa hRb) λc hc=>by rw [B.fp] at hc ⊢;exact hc
 exact q c vs zs _ _ R' ⟨pq,st,hI,rfl⟩ (E2.grow (Ext.bW E2.sub hc _)) (s1.trans xx.r) ar (E2.sub.free hc) (E2.ext.h.free hc) (E2.off hc) pp (by rw [← pq.length];exact hz)
end
section
variable {prog:Program}{w:World}{A:Around}{E:Value->Shared->Prop}{s:Shared}
end
section
variable {X:Cx}{Γ Γ1 Γ2 Γ3:Ga}{α β γ δ:Type}{N:Ga->Prop}{T:RT}
end
end Fc
namespace K1
open PySem L2 Fc
open PySem.Spec hiding Row
open PyProof.Rows hiding St
open PySem.Builtin.Int (intBits)
section
variable {v:aN}{p:Int}
theorem jH:∀(xs:List Int),(∀x∈xs,0<=x)->0<=xs.sum
 | [],_=>by simp
 | x::xs,h=>by
   rw [List.sum_cons]
   have:=h x List.mem_cons_self
   have:=jH xs λy hy=>h y (List.mem_cons_of_mem _ hy)
   omega
theorem step_at (g:Nat->Int)(l:Int):∀n,g 0<=l->l < g n->∃i,i < n/\g i<=l/\l < g (i + 1)
 | 0,h0,h1=>by omega
 | n + 1,h0,h1=>by
   by_cases e:g n<=l
   ·exact ⟨n,by omega,e,h1⟩
   ·obtain ⟨i,h2,h3,h4⟩:=step_at g l n h0 (by omega)
    exact ⟨i,by omega,h3,h4⟩
theorem wj {g:Nat->Int}{n:Nat}(h:∀i,i < n->g i<=g (i + 1)):∀{i j:Nat},i<=j->j<=n->g i<=g j:=by
 intro i j hij
 induction hij with
 | refl=>intro _;exact Int.le_refl _
 | step _ ih=>intro hj;exact Int.le_trans (ih (by omega)) (h _ (by omega))
theorem d8 (hv:bg v)(p0:0<=p)(hR:aX v.2 p.toNat){r:Row}(hr:r∈v.2)(hp:r.1=p):cE (fwd v.2 p) r.2.2.1 < cE (fwd v.2 p) r.2.1:=by
 have ht:(r.2.1,r.2.2.1)∈fwd v.2 p:=fc.mpr ⟨r,hr,hp,rfl,rfl⟩
 have rp:=hv.dk hr
 have s0:=rp.s0;have sn:=rp.sn;have q1:=rp.p1;have q0:=rp.p0
 have sz:=hv.sz (v.1.getD r.1.toNat 0) (by rw [List.getD_eq_getElem?_getD,List.getElem?_eq_getElem (by omega)];exact List.getElem_mem _)
 exact oU ht ((jb hv p0).mp hR _ ht) s0 (by omega)
theorem um {v:aN}(hv:bg v){p:Int}(p0:0<=p)(hR:aX v.2 p.toNat){g:Int->Int}(hE:cD v p g):∀(n:Nat) (q:Int),cE (fwd v.2 p) q < n->0<=q->q < v.1.getD p.toNat 0->0<=g q
 | 0,q,h,_,_=>by omega
 | n + 1,q,h,q0,q1=>by
   by_cases e:q=1
   ·rw [e,hE.one];decide
   ·rw [hE.step q q0 q1 e]
    refine jH _ λy hy=>?_
    obtain ⟨z,hz,rfl⟩:=List.mem_map.mp hy
    obtain ⟨z0,z1,_,r,hr,r1,r2,r3⟩:=fm hv hz
    have:=d8 hv p0 hR hr r1
    rw [r2,r3] at this
    exact um hv p0 hR hE n z (by omega) z0 z1
theorem dJ {g:Int->Int}{k:Int}(k0:0<=k)(k1:k < (v.2.length:Int)):(bH v p g).getD k.toNat 0=bb v p g k:=by
 unfold bH
 rw [List.getD_eq_getElem?_getD,List.getElem?_map]
 unfold ups
 rw [List.getElem?_map,List.getElem?_range (by omega)]
 simp only [Option.map_some,Option.getD_some]
 rw [show (0:Int) + (k.toNat:Int)=k by omega]
def bS (v:aN)(p:Int)(g:Int->Int)(left:Int)(k:Int):Bool:=decide ((bH v p g).getD k.toNat 0<=left)
theorem ft (hv:bg v)(p0:0<=p)(hR:aX v.2 p.toNat){g:Int->Int}(hE:cD v p g){q left:Int}(q0:0<=q)(q1:q < v.1.getD p.toNat 0)(qn:q≠1)(l0:0<=left)(l1:left < g q):
 ∃k,k∈fromF v p q/\bb v p g k<=left/\left - bb v p g k < g (ba v k)/\k∈(fromF v p q).filter (bS v p g left)/\∀x∈(fromF v p q).filter (bS v p g left),x<=k:=by
 have hg:g q=((fromF v p q).map λk=>g (ba v k)).sum:=by
  rw [hE.step q q0 q1 qn]
  unfold goal
  rw [List.map_map];rfl
 have gn:∀k∈fromF v p q,0<=g (ba v k):=λk hk=>by
  obtain ⟨_,_,h1,h2,h3⟩:=bK hk
  have r:=hv.dk h3
  have a:=r.e0;have b:=r.en
  rw [h1] at b
  exact um hv p0 hR hE _ _ (Nat.lt_succ_self _) a b
 have tk:∀(i:Nat) (k:Int),(fromF v p q)[i]?=some k->(((fromF v p q).take (i + 1)).map λk=>g (ba v k)).sum=(((fromF v p q).take i).map λk=>g (ba v k)).sum + g (ba v k):=λi k hk=>by
  rw [List.take_succ,hk,List.map_append,List.sum_append];simp
 obtain ⟨j,hj,h1,h2⟩:=step_at (λi=>(((fromF v p q).take i).map λk=>g (ba v k)).sum) left (fromF v p q).length (by simpa using l0) (by rw [List.take_length,← hg];exact l1)
 have h1:(((fromF v p q).take j).map λk=>g (ba v k)).sum<=left:=h1
 have h2:left < (((fromF v p q).take (j + 1)).map λk=>g (ba v k)).sum:=h2
 obtain ⟨k,hk⟩:∃k,(fromF v p q)[j]?=some k:=⟨_,List.getElem?_eq_getElem hj⟩
 have wa:∀(i:Nat) (x:Int),(fromF v p q)[i]?=some x->bb v p g x=(((fromF v p q).take i).map λk=>g (ba v k)).sum:=λi x hx=>by
  obtain ⟨_,_,e1,e2,_⟩:=bK (List.mem_of_getElem? hx)
  unfold bb
  rw [if_pos e1,e2,before hx]
 have wf:∀(i:Nat) (x:Int),(fromF v p q)[i]?=some x->(bH v p g).getD x.toNat 0=(((fromF v p q).take i).map λk=>g (ba v k)).sum:=λi x hx=>by
  obtain ⟨e0,e1,_⟩:=bK (List.mem_of_getElem? hx)
  rw [dJ e0 e1,wa i x hx]
 have h3:=tk j k hk
 refine ⟨k,List.mem_of_getElem? hk,by rw [wa j k hk];exact h1,by rw [wa j k hk];omega,List.mem_filter.mpr ⟨List.mem_of_getElem? hk,?_⟩,λx hx=>?_⟩
 ·unfold bS
  rw [wf j k hk];exact decide_eq_true h1
 ·obtain ⟨hx1,hx2⟩:=List.mem_filter.mp hx
  obtain ⟨i,hi⟩:=List.mem_iff_getElem?.mp hx1
  unfold bS at hx2
  have hx2:=of_decide_eq_true hx2
  rw [wf i x hi] at hx2
  have il:=(List.getElem?_eq_some_iff.mp hi).1
  have mono:∀m,m < (fromF v p q).length->(((fromF v p q).take m).map λk=>g (ba v k)).sum<=(((fromF v p q).take (m + 1)).map λk=>g (ba v k)).sum:=λm hm=>by
   rw [tk m _ (List.getElem?_eq_getElem hm)]
   have:=gn _ (List.getElem_mem hm)
   omega
  have ij:i<=j:=Nat.le_of_not_lt λz=>by
   have:=wj (g:=λi=>(((fromF v p q).take i).map λk=>g (ba v k)).sum) mono (i:=j + 1) (j:=i) (by omega) (by omega)
   have this:(((fromF v p q).take (j + 1)).map λk=>g (ba v k)).sum<=(((fromF v p q).take i).map λk=>g (ba v k)).sum:=this
   omega
  have hp:=lz v p q
  rcases Nat.lt_or_ge i j with z | z
  ·have a1:=List.getElem?_eq_some_iff.mp hi
   have a2:=List.getElem?_eq_some_iff.mp hk
   have:=List.pairwise_iff_getElem.mp hp i j a1.1 a2.1 z
   rw [a1.2,a2.2] at this
   omega
  ·have:i=j:=by omega
   subst this
   rw [hk] at hi;cases hi;exact Int.le_refl _
theorem rf (es:List (Int×Int))(a:Int):cE es a<=16:=by
 unfold cE
 refine Nat.le_trans (List.length_filter_le _ _) ?_
 rw [av];exact Nat.le_refl _
def cj (v:aN)(p:Int)(g:Int->Int):Nat->Int->Int->List Int
 | 0,_,_=>[]
 | m + 1,q,left=>if q=1 then [] else most ((fromF v p q).filter (bS v p g left))::cj v p g m (ba v (most ((fromF v p q).filter (bS v p g left)))) (left - bb v p g (most ((fromF v p q).filter (bS v p g left))))
end
section
variable {P:Program}{w:World}{K:PySem.W.Frag}{mg:Str->Option Value}{base:Heap}{f:Addr}{fd:FuncData}{C:Addr}
abbrev rM:Stmt:=top rH
abbrev Bf:List Str:=["web","known","leaving","number","way","place","left","row"]
theorem x4:ax Bf ["web","known","leaving","number"] (ag rM):=⟨rfl,rfl,rfl,by decide +kernel,rfl,by decide +kernel,by decide +kernel⟩
def By:bN:=λK ps T=>∃(v:aN) (p:Int) (g:Int->Int) (n:Int),ps=[⟨bZ,v⟩,⟨ae ab,bH v p g⟩,⟨ae (ae ab),da v p⟩,⟨ab,n⟩]/\bg v/\0<=p/\p < (v.1.length:Int)/\aX v.2 p.toNat/\cD v p g/\0<=n/\n < g 0/\T=hU K ab (· =cj v p g 17 0 n)
theorem Av (M:bP mg)(F:bz K "way_by" "way_by" rM f fd)(hm:mg "way_by"=some (.ref f))(hb:Binds K fd ["web","known","leaving","number"] []):aw P w K mg base "way_by" 1 (aC By K):=by
 have nd:=x4.nd
 have nd1:List.Nodup [("choice":Str),"known","left"]:=by decide
 obtain ⟨t1,hB⟩:=M.begin_
 obtain ⟨t2,hEND⟩:=M.end_
 refine bD F x4 hm hb (λqs T ⟨_,_,_,_,e,_⟩=>by rw [e];rfl) (λcdv A outer s H E qs T hr hS=>?_)
 obtain ⟨v,p,g,n,rfl,hv,p0,p1,hR,hE,n0,n1,rfl⟩:=hS
 have rl:=hv.rl
 have hs:=hv.sz (v.1.getD p.toNat 0) (by rw [List.getD_eq_getElem?_getD,List.getElem?_eq_getElem (by omega)];exact List.getElem_mem _)
 have ll:=eB (v:=v) (p:=p)
 have wl:(bH v p g).length=v.2.length:=by unfold bH;rw [List.length_map,av]
 change WS _ _ [.im (az (ae ab) (ae aB)) v,.im (ae ab) (bH v p g),.im (ae (ae ab)) (da v p),.im ab n,.no,.no,.no,.no] _ _
 refine ah (cS 4 (r:=ab) (aY bu (by decide)) ?_)
 refine ah (aO 5 (ck hB) ?_)
 refine ah (aO 6 (aa 3 rfl) ?_)
 refine ah (iO (λm Γ=>∃way q left v7,Γ=[.im (az (ae ab) (ae aB)) v,.im (ae ab) (bH v p g),.im (ae (ae ab)) (da v p),.im ab n,.mu ab way,.im ab q,.im ab left,v7]/\0<=q/\q < v.1.getD p.toNat 0/\0<=left/\left < g q/\m=cE (fwd v.2 p) q/\way.length + cE (fwd v.2 p) q<=16/\cj v p g 17 0 n=way++cj v p g (17 - way.length) q left) (m0:=cE (fwd v.2 p) 0) ⟨_,_,_,_,rfl,by decide,by omega,n0,n1,rfl,by have:=rf (fwd v.2 p) 0;simpa using this,rfl⟩ ?_)
 rintro m Γ ⟨way,q,left,v7,rfl,q0,q1,l0,l1,rfl,hl,hw⟩
 have ew:cj v p g (17 - way.length) q left=if q=1 then [] else most ((fromF v p q).filter (bS v p g left))::cj v p g (16 - way.length) (ba v (most ((fromF v p q).filter (bS v p g left)))) (left - bb v p g (most ((fromF v p q).filter (bS v p g left)))):=by
  rw [show 17 - way.length=(16 - way.length) + 1 by omega];rfl
 rw [ew] at hw
 refine ⟨_,_,bj k6 (aa 5 rfl) (ck hEND),λh=>?_,λh=>?_⟩
 ·have h:q≠1:=by simpa using h
  obtain ⟨k,km,w1,w2,kf,kx⟩:=ft hv p0 hR hE q0 q1 h l0 l1
  obtain ⟨k0,k1,kp,kq,kr⟩:=bK km
  have lat:cO (da v p) q=some (fromF v p q):=by
   rw [dy q0 (by omega)]
   unfold da
   rw [List.getElem?_map,fe (by omega)]
   simp only [Option.map_some]
   rw [show ((q.toNat:Nat):Int)=q by omega]
  have w0:0<=bb v p g k:=by
   unfold bb
   rw [if_pos kp]
   refine jH _ λy hy=>?_
   obtain ⟨j,hj,rfl⟩:=List.mem_map.mp hy
   rw [kq] at hj
   obtain ⟨_,_,j1,j2,j3⟩:=bK (List.mem_filter.mp hj).1
   have r:=hv.dk j3
   have a:=r.e0;have b:=r.en
   rw [j1] at b
   exact um hv p0 hR hE _ _ (Nat.lt_succ_self _) a b
  refine ah (aO 7 (y:=k) (EV.cast (wB M.max (aU.im (aT (own:=["choice"]) (fr:=["known","left"]) (ix:=[1,6]) (ra:=ab) (rb:=ab) (p:=bS v p g left) (f:=λx=>x) (aM (so:=ag rM) (N0:=Bf) rfl rfl (λx h=>aE h) (by decide +kernel)) (aK (bB (aa 2 rfl) (aa 5 rfl) lat))
   (λC s H ex=>aA 0) (λx=>⟨.inr rfl,.inl rfl,.inl rfl,trivial⟩) (λC s H ex x hx=>gp (bj dU (bB (aa 1 rfl) (aa 0 rfl) (by have:=bK hx;exact cz this.1 (by omega))) (aa 2 rfl))) (λC s H ex x hx _=>aa 0 rfl))) (by rw [List.map_id'];exact List.ne_nil_of_mem kf)) (by rw [List.map_id'];exact ee kf kx)) ?_)
  refine ah (w_subN 6 (c:=bb v p g k) (bB (aa 1 rfl) (aa 7 rfl) (by rw [cz k0 (by omega),dJ k0 k1])) rfl ?_)
  refine ah (ei 4 (aa 7 rfl) rfl rfl (Nat.lt_of_le_of_lt (show way.length<=1000 by omega) (by decide)) ?_)
  refine ak (aO 5 (cQ (bB (y:=rowOf v k) (bO (aa 0 rfl)) (aa 7 rfl) (cv bR k0 k1))) ?_)
  have cd:=d8 hv p0 hR kr kp
  rw [kq] at cd
  have r:=hv.dk kr
  have a:=r.e0;have b:=r.en
  rw [kp] at b
  refine ⟨cE (fwd v.2 p) (rowOf v k).2.2.1,cd,_,_,_,_,rfl,a,b,by omega,w2,rfl,?_,?_⟩
  ·rw [List.length_append,List.length_singleton];omega
  ·rw [if_neg h,ee kf kx] at hw
   rw [hw,List.append_assoc,List.length_append,List.length_singleton,show 17 - (way.length + 1)=16 - way.length by omega];rfl
 ·have h:q=1:=by simpa using h
  rw [if_pos h,List.append_nil] at hw
  exact ak (oA 4 rfl (aV (by omega)) hw.symm)
end
def lp (v:aN)(p q k:Int):Bool:=(decide (0<=k)&&decide (k < (v.2.length:Int)))&&decide (((rowOf v k).1,(rowOf v k).2.1)=(p,q))
def dj (v:aN)(p:Int):Int->List Int->Bool
 | q,[]=>decide (q=1)
 | q,k::ks=>lp v p q k&&dj v p (ba v k) ks
theorem gm {v:aN}{p:Int}:∀{xs:List Int} {q:Int},dj v p q xs=true->∀k∈xs,0<=k/\k < (v.2.length:Int)
 | [],_,_,k,hk=>by cases hk
 | x::xs,q,h,k,hk=>by
   rw [dj,Bool.and_eq_true] at h
   rcases List.mem_cons.mp hk with rfl | hk
   ·have:=Bool.and_eq_true_iff.mp (Bool.and_eq_true_iff.mp h.1).1
    exact ⟨of_decide_eq_true this.1,of_decide_eq_true this.2⟩
   ·exact gm h.2 k hk
section
variable {P:Program}{w:World}{K:PySem.W.Frag}{mg:Str->Option Value}{base:Heap}{f:Addr}{fd:FuncData}{C:Addr}
abbrev u7:Stmt:=top qY
theorem xw:ax ["web","number"] ["web","number"] (ag u7):=⟨rfl,rfl,rfl,by decide +kernel,rfl,by decide +kernel,by decide +kernel⟩
def Bn:bN:=λK ps T=>∃(v:aN) (k:Int),ps=[⟨bZ,v⟩,⟨ab,k⟩]/\T=bG K aF (· =(decide (0<=k)&&decide (k < (v.2.length:Int))))
theorem A1 (M:bP mg)(CI:aw P w K mg base "is_whole" 1 (aC qv K))(F:bz K "is_row" "is_row" u7 f fd)(hm:mg "is_row"=some (.ref f))(hb:Binds K fd ["web","number"] []):aw P w K mg base "is_row" 2 (aC Bn K):=by
 have nd:=xw.nd
 refine bD F xw hm hb (λqs T ⟨_,_,e,_⟩=>by rw [e];rfl) (λcdv A outer s H E qs T hr hS=>?_)
 obtain ⟨v,k,rfl,rfl⟩:=hS
 change WS _ _ [.im (az (ae ab) (ae aB)) v,.im ab k] _ _
 exact ak (bq (dC (aW CI hr (af (aa 1 rfl) ao) ⟨k,rfl,rfl⟩) (λ_=>dA (fD dU dY au (aa 1 rfl) (cR M.len (bO (aa 0 rfl)))))) (Bool.true_and _))
abbrev rq:Stmt:=top sJ
abbrev nCG:List Str:=["web","stack","number","row"]
theorem zq:ax nCG ["web","stack","number"] (ag rq):=⟨rfl,rfl,rfl,by decide +kernel,rfl,by decide +kernel,by decide +kernel⟩
def yT:bN:=λK ps T=>∃(v:aN) (p q k:Int),ps=[⟨bZ,v⟩,⟨ae (az ab ab),[(p,q)]⟩,⟨ab,k⟩]/\T=bG K aF (· =lp v p q k)
theorem w8 (CI:aw P w K mg base "is_row" 2 (aC Bn K))(F:bz K "can_go" "can_go" rq f fd)(hm:mg "can_go"=some (.ref f))(hb:Binds K fd ["web","stack","number"] []):aw P w K mg base "can_go" 3 (aC yT K):=by
 have nd:=zq.nd
 refine bD F zq hm hb (λqs T ⟨_,_,_,_,e,_⟩=>by rw [e];rfl) (λcdv A outer s H E qs T hr hS=>?_)
 obtain ⟨v,p,q,k,rfl,rfl⟩:=hS
 have hu1:(A.deeper (envOfC "can_go" (ag rq) s.heap.objs.size f cdv)).units + (0 + 1) < cLine:=Nat.lt_of_le_of_lt (Nat.add_le_add_left (by decide:1<=64) _) hr.units
 change WS _ _ [.im (az (ae ab) (ae aB)) v,.im (ae (az ab ab)) [(p,q)],.im ab k,.no] _ _
 refine ah (bQ (TW.tv (dD (bI (Ax 1 rfl)) λ_=>dQ (bI (bh (aW CI hr (af (aa 0 rfl) (af (aa 2 rfl) ao)) ⟨v,k,rfl,rfl⟩))))) (λh=>?_) (λh=>a9 ?_))
 ·have h:(decide (0<=k)&&decide (k < (v.2.length:Int)))=false:=by
   cases z:(decide (0<=k)&&decide (k < (v.2.length:Int))) with
   | false=>rfl
   | true=>rw [z] at h;simp at h
  refine ak (bq c8 ?_)
  unfold lp
  rw [h];rfl
 ·have h:(decide (0<=k)&&decide (k < (v.2.length:Int)))=true:=by simpa using h
  have h':=Bool.and_eq_true_iff.mp h
  refine ah (aO 3 (y:=rowOf v k) (bB (bO (aa 0 rfl)) (aa 2 rfl) (cv bR (of_decide_eq_true h'.1) (of_decide_eq_true h'.2))) ?_)
  refine ak (bq (dB (p9 (r:=ab) (r':=ab) eq_int eq_int hu1 hu1) (dv (af (ff (aa 3 rfl)) (af (ez (aa 3 rfl)) ao))) (bB (y:=(p,q)) (aa 1 rfl) (sv au) rfl)) ?_)
  unfold lp
  rw [h];rfl
abbrev vz:Stmt:=top i7
abbrev nLT:List Str:=["web","part","rows","place","number"]
theorem xK:ax nLT ["web","part","rows"] (ag vz):=⟨rfl,rfl,rfl,by decide +kernel,rfl,by decide +kernel,by decide +kernel⟩
def Bz:bN:=λK ps T=>∃(v:aN) (p:Int) (xs:List Int),ps=[⟨bZ,v⟩,⟨ab,p⟩,⟨ae ab,xs⟩]/\xs.length<=1000/\T=bG K aF (· =dj v p 0 xs)
theorem Af (M:bP mg)(CG:aw P w K mg base "can_go" 3 (aC yT K))(F:bz K "leads_through" "leads_through" vz f fd)(hm:mg "leads_through"=some (.ref f))(hb:Binds K fd ["web","part","rows"] []):aw P w K mg base "leads_through" 4 (aC Bz K):=by
 have nd:=xK.nd
 obtain ⟨t1,hB⟩:=M.begin_
 obtain ⟨t2,hEND⟩:=M.end_
 refine bD F xK hm hb (λqs T ⟨_,_,_,e,_⟩=>by rw [e];rfl) (λcdv A outer s H E qs T hr hS=>?_)
 obtain ⟨v,p,xs,rfl,hl,rfl⟩:=hS
 change WS _ _ [.im (az (ae ab) (ae aB)) v,.im ab p,.im (ae ab) xs,.no,.no] _ _
 refine ah (bQ (bI (bh (cF M.isinstance M.list PyProof.Rows.boot_list (aa 2 rfl) ty_list (b:=true)))) (λh=>absurd h (by decide)) (λ_=>a9 ?_))
 refine ah (aO 3 (ck hB) ?_)
 refine ah (cK (r:=ab) (λi Γ=>∃q v4,Γ=[.im (az (ae ab) (ae aB)) v,.im ab p,.im (ae ab) xs,.im ab q,v4]/\dj v p 0 xs=dj v p q (xs.drop i)) (aK (aa 2 rfl)) (aA 4) ⟨0,_,rfl,rfl⟩ ?_ ?_)
 ·rintro i k Γ hk ⟨q,v4,rfl,hc⟩
  have hd:xs.drop i=k::xs.drop (i + 1):=by
   obtain ⟨h1,h2⟩:=List.getElem?_eq_some_iff.mp hk
   rw [List.drop_eq_getElem_cons h1,h2]
  rw [hd,dj] at hc
  refine ah (bQ (bI (bh (aW CG hr (af (aa 0 rfl) (af (aU.im (aY (r:=az ab ab) (aJ (dv (af (aa 1 rfl) (af (aa 3 rfl) ao))) bu) (by show 1<=sizeLine;decide))) (af (aa 4 rfl) ao))) ⟨v,p,q,k,rfl,rfl⟩))) (λh=>?_) (λh=>a9 ?_))
  ·have h:lp v p q k=false:=by simpa using h
   refine ak (bq c8 ?_)
   rw [hc,h];rfl
  ·have h:lp v p q k=true:=by simpa using h
   have h':=Bool.and_eq_true_iff.mp (Bool.and_eq_true_iff.mp h).1
   refine ak (aO 3 (y:=ba v k) (cQ (bB (y:=rowOf v k) (bO (aa 0 rfl)) (aa 4 rfl) (cv bR (of_decide_eq_true h'.1) (of_decide_eq_true h'.2)))) ?_)
   exact ⟨ba v k,_,rfl,by rw [hc,h];rfl⟩
 ·rintro Γ ⟨q,v4,rfl,hc⟩
  rw [List.drop_length] at hc
  refine ak (bq (dB eG (aa 3 rfl) (ck hEND)) ?_)
  rw [hc,dj]
end
theorem sd (v:aN){n:Nat}(h:n<=v.2.length):(ups 0 n).map (rowOf v)=v.2.take n:=by
 refine List.ext_getElem? λj=>?_
 by_cases hj:j < n
 ·rw [List.getElem?_map,fe hj,List.getElem?_take,if_pos hj,List.getElem?_eq_getElem (by omega)]
  show some (rowOf v (j:Int))=_
  unfold rowOf
  rw [show ((j:Int)).toNat=j by omega,List.getD_eq_getElem?_getD,List.getElem?_eq_getElem (by omega)];rfl
 ·rw [List.getElem?_eq_none (by rw [List.length_map,av];omega),List.getElem?_eq_none (by rw [List.length_take];omega)]
theorem uA (v:aN):(ups 0 v.2.length).map (rowOf v)=v.2:=by rw [sd v (Nat.le_refl _),List.take_length]
theorem qR (v:aN)(p q:Int):goal v p q=(v.2.filter λr=>decide ((r.1,r.2.1)=(p,q))).map λr=>r.2.2.1:=by
 have h:(v.2.filter λr=>decide ((r.1,r.2.1)=(p,q)))=(fromF v p q).map (rowOf v):=by
  have:=congrArg (List.filter λr:Row=>decide ((r.1,r.2.1)=(p,q))) (uA v)
  rw [← this,List.filter_map];rfl
 rw [h,List.map_map];rfl
theorem wo {v:aN}(hv:bg v){p q:Int}(p0:0<=p)(p1:p < (v.1.length:Int))(q0:0<=q)(q1:q < v.1.getD p.toNat 0)(qn:q≠1):∃k,(fromF v p q)[0]?=some k:=by
 have hm:v.1[p.toNat]?=some (v.1.getD p.toNat 0):=by rw [List.getD_eq_getElem?_getD,List.getElem?_eq_getElem (by omega)];rfl
 have h:=hv.toEnd hm q0 q1
 have:∃r∈v.2,r.1=p/\r.2.1=q:=by
  cases h with
  | base=>exact absurd rfl qn
  | step _ m=>
    unfold bwd at m
    obtain ⟨r,hr,e⟩:=List.mem_map.mp m
    obtain ⟨h1,h2⟩:=List.mem_filter.mp hr
    have h2:=of_decide_eq_true h2
    exact ⟨r,h1,by omega,congrArg Prod.snd e⟩
 obtain ⟨r,hr,r1,r2⟩:=this
 obtain ⟨j,hj⟩:=List.mem_iff_getElem?.mp hr
 have jl:=(List.getElem?_eq_some_iff.mp hj).1
 have er:rowOf v (j:Int)=r:=by unfold rowOf;rw [show ((j:Int)).toNat=j by omega,List.getD_eq_getElem?_getD,hj];rfl
 have hm:(j:Int)∈fromF v p q:=by
  unfold fromF
  exact List.mem_filter.mpr ⟨bo.mpr ⟨by omega,by omega⟩,decide_eq_true (by rw [er,r1,r2])⟩
 cases e:fromF v p q with
 | nil=>rw [e] at hm;cases hm
 | cons a l=>exact ⟨a,rfl⟩
theorem ny {v:aN}{p q k:Int}:lp v p q k=decide (k∈fromF v p q):=by
 unfold lp fromF
 by_cases h:k∈(ups 0 v.2.length).filter λk=>decide (((rowOf v k).1,(rowOf v k).2.1)=(p,q))
 ·rw [decide_eq_true h]
  obtain ⟨h1,h2⟩:=List.mem_filter.mp h
  have:=bo.mp h1
  rw [h2,decide_eq_true this.1,decide_eq_true (show k < (v.2.length:Int) by omega)];rfl
 ·rw [decide_eq_false h]
  refine Bool.eq_false_iff.mpr λh'=>h ?_
  obtain ⟨a,c⟩:=Bool.and_eq_true_iff.mp h'
  obtain ⟨a,b⟩:=Bool.and_eq_true_iff.mp a
  exact List.mem_filter.mpr ⟨bo.mpr ⟨of_decide_eq_true a,by have:=of_decide_eq_true b;omega⟩,c⟩
theorem vQ:∀(xs:List Int),(∀x∈xs,1<=x)->xs≠[]->1<=xs.sum
 | [],_,h=>absurd rfl h
 | x::xs,h,_=>by
   rw [List.sum_cons]
   have:=h x List.mem_cons_self
   have:=jH xs λy hy=>by have:=h y (List.mem_cons_of_mem _ hy);omega
   omega
theorem jW {B:Int}:∀(xs:List Int),(∀x∈xs,x<=B)->xs.sum<=(xs.length:Int) * B
 | [],_=>by simp
 | x::xs,h=>by
   rw [List.sum_cons,List.length_cons]
   have:=h x List.mem_cons_self
   have:=jW xs λy hy=>h y (List.mem_cons_of_mem _ hy)
   rw [show (((xs.length + 1:Nat):Int)) * B=(xs.length:Int) * B + B by rw [Int.natCast_add,Int.add_mul];simp]
   omega
theorem vt {v:aN}(hv:bg v){p:Int}(p0:0<=p)(p1:p < (v.1.length:Int))(hR:aX v.2 p.toNat){g:Int->Int}(hE:cD v p g):∀(n:Nat) (q:Int),cE (fwd v.2 p) q < n->0<=q->q < v.1.getD p.toNat 0->1<=g q
 | 0,q,h,_,_=>by omega
 | n + 1,q,h,q0,q1=>by
   by_cases e:q=1
   ·rw [e,hE.one];decide
   ·rw [hE.step q q0 q1 e]
    refine vQ _ (λy hy=>?_) ?_
    ·obtain ⟨z,hz,rfl⟩:=List.mem_map.mp hy
     obtain ⟨z0,z1,_,r,hr,r1,r2,r3⟩:=fm hv hz
     have:=d8 hv p0 hR hr r1
     rw [r2,r3] at this
     exact vt hv p0 p1 hR hE n z (by omega) z0 z1
    ·obtain ⟨k,hk⟩:=wo hv p0 p1 q0 q1 e
     intro z
     unfold goal at z
     rw [List.map_eq_nil_iff,List.map_eq_nil_iff] at z
     rw [z] at hk;cases hk
theorem oJ {v:aN}(hv:bg v){p:Int}(p0:0<=p)(hR:aX v.2 p.toNat){g:Int->Int}(hE:cD v p g):∀(m:Nat) (q left:Int),cE (fwd v.2 p) q < m->0<=q->q < v.1.getD p.toNat 0->0<=left->left < g q->dj v p q (cj v p g m q left)=true
 | 0,q,left,h,_,_,_,_=>by omega
 | m + 1,q,left,h,q0,q1,l0,l1=>by
   unfold cj
   by_cases e:q=1
   ·rw [if_pos e,dj,decide_eq_true e]
   ·obtain ⟨k,hk,w1,w2,hkf,hmax⟩:=ft hv p0 hR hE q0 q1 e l0 l1
    rw [if_neg e,ee hkf hmax,dj,ny,decide_eq_true hk,Bool.true_and]
    obtain ⟨k0,k1,kp,kq,kr⟩:=bK hk
    have R:=hv.dk kr
    have e0:=R.e0;have en:=R.en
    rw [kp] at en
    have:=d8 hv p0 hR kr kp
    rw [kq] at this
    exact oJ hv p0 hR hE m _ _ (by show cE _ (rowOf v k).2.2.1 < m;omega) e0 en (by omega) (by show _ < g (ba v k);omega)
theorem h8 {α:Type}{A B C:α->Bool}:∀(l:List α),(∀x∈l,A x=true->B x=false)->(∀x∈l,A x=true->C x=true)->(∀x∈l,B x=true->C x=true)->(l.filter A).length + (l.filter B).length<=(l.filter C).length
 | [],_,_,_=>by simp
 | x::l,h1,h2,h3=>by
   have ih:=h8 (A:=A) (B:=B) (C:=C) l (λy hy=>h1 y (List.mem_cons_of_mem _ hy)) (λy hy=>h2 y (List.mem_cons_of_mem _ hy)) (λy hy=>h3 y (List.mem_cons_of_mem _ hy))
   have a:=h1 x List.mem_cons_self
   have b:=h2 x List.mem_cons_self
   have c:=h3 x List.mem_cons_self
   rw [List.filter_cons,List.filter_cons,List.filter_cons]
   cases hA:A x with
   | true=>
     rw [a hA,b hA]
     simp only [if_pos,if_neg,Bool.false_eq_true,if_false,if_true,List.length_cons]
     omega
   | false=>
     cases hB:B x with
     | true=>
       rw [c hB]
       simp only [Bool.false_eq_true,if_false,if_true,List.length_cons]
       omega
     | false=>
       cases hC:C x<;>simp only [Bool.false_eq_true,if_false,if_true,List.length_cons]<;>omega
open Classical in
noncomputable def nR (v:aN)(p q:Int):Nat:=((v.2.filter λr=>decide (r.1=p)).filter λr=>decide (Reach (fwd v.2 p) q r.2.1)).length
theorem nL {es:List (Int×Int)}{a b c:Int}(h:Reach es a b)(h2:Reach es b c):Reach es a c:=Reach.sub h (λ_ _ ha hab=>.step ha hab) h2
theorem jA {m n:Nat}(h:m<=n):((2:Int) ^ m)<=2 ^ n:=by
 have:(2:Nat) ^ m<=2 ^ n:=Nat.pow_le_pow_right (by decide) h
 exact_mod_cast this
theorem yG {v:aN}(hv:bg v){p:Int}(p0:0<=p)(hR:aX v.2 p.toNat){g:Int->Int}(hE:cD v p g):∀(n:Nat) (q:Int),cE (fwd v.2 p) q < n->0<=q->q < v.1.getD p.toNat 0->g q<=2 ^ nR v p q
 | 0,q,h,_,_=>by omega
 | n + 1,q,h,q0,q1=>by
   by_cases e:q=1
   ·rw [e,hE.one]
    have:=jA (Nat.zero_le (nR v p 1))
    simpa using this
   ·rw [hE.step q q0 q1 e]
    classical
    have hgl:(goal v p q).length=((v.2.filter λr=>decide (r.1=p)).filter λr=>decide (r.2.1=q)).length:=by
     rw [qR,List.length_map,List.filter_filter]
     congr 1
     refine List.filter_congr λr _=>?_
     by_cases h1:r.1=p<;>by_cases h2:r.2.1=q<;>simp [h1,h2]
    have step:∀z∈goal v p q,g z<=2 ^ (nR v p q - (goal v p q).length):=λz hz=>by
     obtain ⟨z0,z1,_,r,hr,r1,r2,r3⟩:=fm hv hz
     have hc:=d8 hv p0 hR hr r1
     rw [r2,r3] at hc
     have ih:=yG hv p0 hR hE n z (by omega) z0 z1
     refine Int.le_trans ih (jA ?_)
     have ht:(q,z)∈fwd v.2 p:=fc.mpr ⟨r,hr,r1,r2,r3⟩
     have nz:¬Reach (fwd v.2 p) z q:=(jb hv p0).mp hR _ ht
     have qz:Reach (fwd v.2 p) q z:=.step .base ht
     have:=h8 (A:=λr:Row=>decide (Reach (fwd v.2 p) z r.2.1)) (B:=λr:Row=>decide (r.2.1=q)) (C:=λr:Row=>decide (Reach (fwd v.2 p) q r.2.1)) (v.2.filter λr=>decide (r.1=p)) (λx _ hx=>decide_eq_false λhq=>nz (hq▸of_decide_eq_true hx)) (λx _ hx=>decide_eq_true (nL qz (of_decide_eq_true hx))) (λx _ hx=>decide_eq_true (by rw [of_decide_eq_true hx];exact .base))
     rw [← hgl] at this
     have this:nR v p z + (goal v p q).length<=nR v p q:=this
     omega
    have hle:(goal v p q).length<=nR v p q:=by
     rw [hgl]
     unfold nR
     have:=h8 (A:=λ_:Row=>false) (B:=λr:Row=>decide (r.2.1=q)) (C:=λr:Row=>decide (Reach (fwd v.2 p) q r.2.1)) (v.2.filter λr=>decide (r.1=p)) (λx _ hx=>by cases hx) (λx _ hx=>by cases hx) (λx _ hx=>decide_eq_true (by rw [of_decide_eq_true hx];exact .base))
     omega
    have h1:=jW (B:=2 ^ (nR v p q - (goal v p q).length)) ((goal v p q).map g) λy hy=>by
     obtain ⟨z,hz,rfl⟩:=List.mem_map.mp hy
     exact step z hz
    rw [List.length_map] at h1
    refine Int.le_trans h1 ?_
    have h2:((goal v p q).length:Int)<=2 ^ (goal v p q).length:=by
     have:(goal v p q).length < 2 ^ (goal v p q).length:=Nat.lt_two_pow_self
     exact_mod_cast Nat.le_of_lt this
    have h3:(0:Int)<=2 ^ (nR v p q - (goal v p q).length):=by
     have:=jA (Nat.zero_le (nR v p q - (goal v p q).length))
     simp at this;omega
    refine Int.le_trans (Int.mul_le_mul_of_nonneg_right h2 h3) ?_
    rw [← Int.pow_add,Nat.add_sub_cancel' hle]
    exact Int.le_refl _
theorem vC {v:aN}(hv:bg v)(hl:v.2.length<=30){p:Int}(p0:0<=p)(p1:p < (v.1.length:Int))(hR:aX v.2 p.toNat){g:Int->Int}(hE:cD v p g):1<=g 0/\g 0 < 1000000000000000000:=by
 have hs:=hv.sz (v.1.getD p.toNat 0) (by rw [List.getD_eq_getElem?_getD,List.getElem?_eq_getElem (by omega)];exact List.getElem_mem _)
 refine ⟨vt hv p0 p1 hR hE _ 0 (Nat.lt_succ_self _) (Int.le_refl 0) (by omega),?_⟩
 have h1:=yG hv p0 hR hE _ 0 (Nat.lt_succ_self _) (Int.le_refl 0) (by omega)
 have h2:nR v p 0<=30:=by
  unfold nR
  exact Nat.le_trans (List.length_filter_le _ _) (Nat.le_trans (List.length_filter_le _ _) hl)
 have h3:=jA h2
 have h4:((2:Int) ^ 30) < 1000000000000000000:=by decide +kernel
 omega
end K1
namespace Fc
open PySem PySem.Spec PySem.W PySem.Calls L2
open PyProof.Rows hiding St
end Fc
namespace K1
open PySem L2 Fc
open PySem.Spec hiding Row
open PyProof.Rows hiding St
open PySem.Builtin.Int (intBits)
theorem lE:∀(ns:List Int),ns≠[]->most ns∈ns/\∀a∈ns,a<=most ns
 | [],h=>absurd rfl h
 | [x],_=>by simp [most]
 | x::y::r,_=>by
   obtain ⟨h1,h2⟩:=lE (y::r) (by simp)
   have e:most (x::y::r)=max x (most (y::r)):=rfl
   rw [e]
   refine ⟨?_,λa ha=>?_⟩
   ·rcases Int.le_total x (most (y::r)) with h | h
    ·rw [Int.max_eq_right h];exact List.mem_cons_of_mem _ h1
    ·rw [Int.max_eq_left h];exact List.mem_cons_self
   ·rcases List.mem_cons.mp ha with rfl | ha
    ·exact Int.le_max_left _ _
    ·exact Int.le_trans (h2 a ha) (Int.le_max_right _ _)
noncomputable def oY (v:aN)(p:Int)(ns:List Int):Bool:=((ns.filter λ_=>true).map λn=>true&&(decide (0<=n)&&decide (n < onG v p 0))).all id
section
variable {P:Program}{w:World}{K:PySem.W.Frag}{mg:Str->Option Value}{base:Heap}{f:Addr}{fd:FuncData}
abbrev mD:Stmt:=top wI
theorem vb:ax ["web","part"] ["web","part"] (ag mD):=⟨rfl,rfl,rfl,by decide +kernel,rfl,by decide +kernel,by decide +kernel⟩
def yN:bN:=λK ps T=>∃(v:aN) (p:Int),ps=[⟨bZ,v⟩,⟨ab,p⟩]/\bg v/\0<=p/\p < (v.1.length:Int)/\aX v.2 p.toNat/\T=bG K ab (· =onG v p 0)
theorem ym (M:bP mg)(CO:aw P w K mg base "need_loose" 9 (aC vh K))(CN:aw P w K mg base "ways_on" 2 (aC nH K))(F:bz K "ways" "ways" mD f fd)(hm:mg "ways"=some (.ref f))(hb:Binds K fd ["web","part"] []):aw P w K mg base "ways" 10 (aC yN K):=by
 have nd:=vb.nd
 have CN:=CN.mono (show 2<=9 by decide)
 obtain ⟨t2,hB⟩:=M.begin_
 refine bD F vb hm hb (λqs T ⟨_,_,e,_⟩=>by rw [e];rfl) (λcdv A outer s H E qs T hr hS=>?_)
 obtain ⟨v,p,rfl,hv,p0,p1,hR,rfl⟩:=hS
 have hu:(A.deeper (envOfC "ways" (ag mD) s.heap.objs.size f cdv)).units + 1 < cLine:=Nat.lt_of_le_of_lt (Nat.add_le_add_left (by decide:1<=64) _) hr.units
 have hs:=hv.sz (v.1.getD p.toNat 0) (by rw [List.getD_eq_getElem?_getD,List.getElem?_eq_getElem (by omega)];exact List.getElem_mem _)
 change WS _ _ [.im (az (ae ab) (ae aB)) v,.im ab p] _ _
 refine ah (gh CO hr (af (aa 0 rfl) (af (aa 1 rfl) ao)) ⟨v,p,rfl,hv,p0,p1,hR,rfl⟩ ?_)
 exact ak (bq (gJ hu CN hr (af (aa 0 rfl) (af (aa 1 rfl) ao)) ⟨v,p,rfl,hv,p0,p1,hR,rfl⟩ (ck hB) (λF ⟨h1,h2⟩=>cV.get hv p0 p1 hR h1 h2 (by omega) (by omega))) rfl)
abbrev qx:Stmt:=top nB
abbrev Bb:List Str:=["web","part","way","known"]
theorem yo:ax Bb ["web","part","way"] (ag qx):=⟨rfl,rfl,rfl,by decide +kernel,rfl,by decide +kernel,by decide +kernel⟩
def Bv:bN:=λK ps T=>∃(v:aN) (p:Int) (xs:List Int),ps=[⟨bZ,v⟩,⟨ab,p⟩,⟨ae ab,xs⟩]/\bg v/\0<=p/\p < (v.1.length:Int)/\aX v.2 p.toNat/\xs.length<=1000/\dj v p 0 xs=true/\T=bG K ab (· =(xs.map (bb v p (onG v p))).sum)
theorem Ap (M:bP mg)(CT:aw P w K mg base "worths" 10 (aC qJ K))(CL:aw P w K mg base "leads_through" 4 (aC Bz K))(F:bz K "number_of" "number_of" qx f fd)(hm:mg "number_of"=some (.ref f))(hb:Binds K fd ["web","part","way"] []):aw P w K mg base "number_of" 11 (aC Bv K):=by
 have nd:=yo.nd
 have nd1:List.Nodup [("number":Str),"known"]:=by decide
 have CL:=CL.mono (show 4<=10 by decide)
 refine bD F yo hm hb (λqs T ⟨_,_,_,e,_⟩=>by rw [e];rfl) (λcdv A outer s H E qs T hr hS=>?_)
 obtain ⟨v,p,xs,rfl,hv,p0,p1,hR,hl,hc,rfl⟩:=hS
 have rl:=hv.rl
 change WS _ _ [.im (az (ae ab) (ae aB)) v,.im ab p,.im (ae ab) xs,.no] _ _
 refine ah (lK 3 CT hr (af (aa 0 rfl) (af (aa 1 rfl) ao)) ⟨v,p,rfl,hv,p0,p1,hR,rfl⟩ ?_)
 rintro ws ⟨g,hE,rfl⟩ hz
 rw [gU hv p0 p1 hR hE (f6 hv p0 p1 hR)] at hz ⊢
 generalize onG v p=g at hz
 have wl:(bH v p g).length=v.2.length:=by unfold bH;rw [List.length_map,av]
 refine WS.freeze 3 rfl hz ?_
 refine ah (bQ (bI (bh (aW CL hr (af (aa 0 rfl) (af (aa 1 rfl) (af (aa 2 rfl) ao))) ⟨v,p,xs,rfl,hl,rfl⟩))) (λh=>by rw [hc] at h;exact absurd h (by decide)) (λ_=>a9 ?_))
 refine ak (bq (jO M.sum (aU.im (aT (own:=["number"]) (fr:=["known"]) (ix:=[3]) (ra:=ab) (rb:=ab) (p:=λ_=>true) (f:=λk=>(bH v p g).getD k.toNat 0) (aM (so:=ag qx) (N0:=Bb) rfl rfl (λx h=>aE h) (by decide +kernel)) (aK (aa 2 rfl))
  (λC s H ex=>aA 0) (λx=>⟨.inr rfl,.inl rfl,trivial⟩) (λC s H ex x hx=>bA) (λC s H ex x hx h=>bB (aa 1 rfl) (aa 0 rfl) (by have:=gm hc x hx;exact cz this.1 (by omega)))))) ?_)
 rw [List.filter_eq_self.mpr (by simp)]
 congr 1
 exact List.map_congr_left λk hk=>dJ (gm hc k hk).1 (gm hc k hk).2
abbrev vi:Stmt:=top su
theorem yb:ax ["web","part","number"] ["web","part","number"] (ag vi):=⟨rfl,rfl,rfl,by decide +kernel,rfl,by decide +kernel,by decide +kernel⟩
theorem tG {v:aN}(hv:bg v){p:Int}(p0:0<=p)(p1:p < (v.1.length:Int))(hR:aX v.2 p.toNat){g g':Int->Int}(h:cD v p g)(h':cD v p g'):∀(m:Nat) (q left:Int),cj v p g m q left=cj v p g' m q left:=by
 have e:=gU hv p0 p1 hR h h'
 have en:∀left,bS v p g left=bS v p g' left:=λleft=>by funext x;unfold bS;rw [e]
 intro m
 induction m with
 | zero=>intro q left;rfl
 | succ m ih=>
   intro q left
   unfold cj
   rw [en left]
   by_cases z:q=1
   ·rw [if_pos z,if_pos z]
   ·rw [if_neg z,if_neg z]
    have hw:bb v p g (most ((fromF v p q).filter (bS v p g' left)))=bb v p g' (most ((fromF v p q).filter (bS v p g' left))):=by
     generalize hmm:most ((fromF v p q).filter (bS v p g' left))=x
     by_cases b:0<=x/\x < (v.2.length:Int)
     ·rw [← dJ b.1 b.2,← dJ b.1 b.2,e]
     ·by_cases hn:(fromF v p q).filter (bS v p g' left)=[]
      ·rw [hn] at hmm
       have hx:x=most []:=hmm.symm
       exact absurd ⟨by rw [hx];decide,by rw [hx];have:=hv.rl;show (0:Int) < _;omega⟩ b
      ·have:=(lE _ hn).1
       rw [hmm] at this
       obtain ⟨a1,a2,_⟩:=bK (List.mem_filter.mp this).1
       exact absurd ⟨a1,a2⟩ b
    rw [hw,ih]
abbrev uY:Stmt:=top mj
abbrev nGO:List Str:=["_law_web_here","_law_part_here","_law_rows","_law_here","_law_k"]
theorem xa:ax nGO ["_law_web_here","_law_part_here","_law_rows"] (ag uY):=⟨rfl,rfl,rfl,by decide +kernel,rfl,by decide +kernel,by decide +kernel⟩
def Br:bN:=λK ps T=>∃(v:aN) (p:Int) (xs:List Int),ps=[⟨bZ,v⟩,⟨ab,p⟩,⟨ae ab,xs⟩]/\v.2.length<=60/\xs.length<=1000/\T=bG K aF (· =dj v p 0 xs)
theorem AU (CF:aw P w K mg base "_law_from" 1 (aC uG K))(F:bz K "_law_goes" "_law_goes" uY f fd)(hm:mg "_law_goes"=some (.ref f))(hb:Binds K fd ["_law_web_here","_law_part_here","_law_rows"] []):aw P w K mg base "_law_goes" 2 (aC Br K):=by
 have nd:=xa.nd
 refine bD F xa hm hb (λqs T ⟨_,_,_,e,_⟩=>by rw [e];rfl) (λcdv A outer s H E qs T hr hS=>?_)
 obtain ⟨v,p,xs,rfl,rl,hl,rfl⟩:=hS
 change WS _ _ [.im (az (ae ab) (ae aB)) v,.im ab p,.im (ae ab) xs,.no,.no] _ _
 refine ah (aO 3 au ?_)
 refine ah (cK (r:=ab) (λi Γ=>∃q v4,Γ=[.im (az (ae ab) (ae aB)) v,.im ab p,.im (ae ab) xs,.im ab q,v4]/\dj v p 0 xs=dj v p q (xs.drop i)) (aK (aa 2 rfl)) (aA 4) ⟨0,_,rfl,rfl⟩ ?_ ?_)
 ·rintro i k Γ hk ⟨q,v4,rfl,hc⟩
  have hd:xs.drop i=k::xs.drop (i + 1):=by
   obtain ⟨h1,h2⟩:=List.getElem?_eq_some_iff.mp hk
   rw [List.drop_eq_getElem_cons h1,h2]
  rw [hd,dj,ny] at hc
  refine ah (bQ (bj wH (aa 4 rfl) (aW CF hr (af (aa 0 rfl) (af (aa 1 rfl) (af (aa 3 rfl) ao))) ⟨v,p,q,rfl,rl,rfl⟩)) (λh=>?_) (λh=>a9 ?_))
  ·have h:decide (k∈fromF v p q)=false:=by simpa using h
   refine ak (bq c8 ?_)
   rw [hc,h];rfl
  ·have h:decide (k∈fromF v p q)=true:=by simpa using h
   obtain ⟨k0,k1,_⟩:=bK (of_decide_eq_true h)
   refine ak (aO 3 (y:=ba v k) (cQ (bB (y:=rowOf v k) (bO (aa 0 rfl)) (aa 4 rfl) (cv bR k0 k1))) ?_)
   exact ⟨ba v k,_,rfl,by rw [hc,h];rfl⟩
 ·rintro Γ ⟨q,v4,rfl,hc⟩
  rw [List.drop_length] at hc
  refine ak (bq (dB eG (aa 3 rfl) au) ?_)
  rw [hc,dj]
end
end K1
namespace Fc.SetT
open PySem
section
variable {j i mask:Nat}{xs:Array Nat}{t:SetTable}
abbrev aX (l:List Nat):Prop:=l.Pairwise (· < ·)
theorem fo {l:List Nat}(h:aX l)(hij:i < j)(hj:j < l.length):l[i]'(by omega) < l[j]:=List.pairwise_iff_getElem.mp h i j (by omega) hj hij
theorem ji (xs:Array Nat)(j:Nat)(h:aX xs.toList):∀(fuel lo hi:Nat),hi - lo<=fuel->lo<=hi->hi<=xs.size->
 (∀k (hk:k < xs.size),k < lo->xs[k] < j)->(∀k (hk:k < xs.size),hi<=k->j<=xs[k])->
 SetTable.below.go xs j fuel lo hi<=xs.size/\(∀k (hk:k < xs.size),k < SetTable.below.go xs j fuel lo hi->xs[k] < j)/\(∀k (hk:k < xs.size),SetTable.below.go xs j fuel lo hi<=k->j<=xs[k])
 | 0,lo,hi,hf,hlo,hhi,h1,h2=>by
   have:lo=hi:=by omega
   subst this
   rw [SetTable.below.go]
   exact ⟨hhi,h1,h2⟩
 | fuel + 1,lo,hi,hf,hlo,hhi,h1,h2=>by
   rw [SetTable.below.go]
   split
   ·rename_i hlt
    have hm:(lo + hi) / 2 < hi:=by omega
    have hm':lo<=(lo + hi) / 2:=by omega
    have hms:(lo + hi) / 2 < xs.size:=by omega
    have e:xs.getD ((lo + hi) / 2) j=xs[(lo + hi) / 2]:=by simp [Array.getD,hms]
    dsimp only
    rw [e]
    split
    ·rename_i hl
     refine ji xs j h fuel _ hi (by omega) (by omega) hhi (λk hk hkl=>?_) h2
     rcases Nat.lt_or_ge k ((lo + hi) / 2) with hlt' | hge
     ·have:=fo h hlt' (by simpa using hms)
      simp only [Array.getElem_toList] at this
      omega
     ·have:k=(lo + hi) / 2:=by omega
      subst this;exact hl
    ·rename_i hl
     refine ji xs j h fuel lo _ (by omega) (by omega) (by omega) h1 (λk hk hkl=>?_)
     rcases Nat.lt_or_ge ((lo + hi) / 2) k with hlt' | hge
     ·have:=fo h hlt' (by simpa using hk)
      simp only [Array.getElem_toList] at this
      omega
     ·have:k=(lo + hi) / 2:=by omega
      subst this;omega
   ·have:lo=hi:=by omega
    subst this
    exact ⟨hhi,h1,h2⟩
theorem gE (h:aX xs.toList)(j:Nat):SetTable.below xs j<=xs.size/\(∀k (hk:k < xs.size),k < SetTable.below xs j->xs[k] < j)/\(∀k (hk:k < xs.size),SetTable.below xs j<=k->j<=xs[k]):=by
 unfold SetTable.below
 exact ji xs j h _ 0 _ (by omega) (Nat.zero_le _) (Nat.le_refl _) (λ_ _ h=>absurd h (Nat.not_lt_zero _)) (λk hk h=>absurd hk (by omega))
theorem jP (h:aX xs.toList)(hi:i<=xs.size)(h1:∀k (hk:k < xs.size),k < i->xs[k] < j)(h2:∀k (hk:k < xs.size),i<=k->j<=xs[k]):SetTable.below xs j=i:=by
 obtain ⟨a,b,c⟩:=gE h j
 rcases Nat.lt_trichotomy (SetTable.below xs j) i with q | q | q
 ·have hk:SetTable.below xs j < xs.size:=by omega
  have:=h1 _ hk q;have:=c _ hk (Nat.le_refl _);omega
 ·exact q
 ·have hk:i < xs.size:=by omega
  have:=b _ hk q;have:=h2 _ hk (Nat.le_refl _);omega
theorem pD (h:aX xs.toList):SetTable.below xs 0=0:=
 jP h (Nat.zero_le _) (λ_ _ q=>absurd q (Nat.not_lt_zero _)) (λ_ _ _=>Nat.zero_le _)
theorem pL (h:aX xs.toList)(hi:i < xs.size):SetTable.below xs (xs[i] + 1)=i + 1:=by
 refine jP h hi (λk hk q=>?_) (λk hk q=>?_)
 ·rcases Nat.lt_or_ge k i with q' | q'
  ·have:=fo h q' (by simpa using hi);simp only [Array.getElem_toList] at this;omega
  ·have:k=i:=by omega
   subst this;omega
 ·have:=fo h (show i < k from q) (by simpa using hk);simp only [Array.getElem_toList] at this;omega
theorem p5 (h:aX t.place.toList)(hd:t.dummies= #[])(hj:j∉t.place.toList):t.slot j= .empty:=by
 unfold SetTable.slot
 dsimp only
 have e:(t.place[SetTable.below t.place j]?==some j)=false:=by
  rw [beq_eq_false_iff_ne];intro q
  rw [Array.getElem?_eq_some_iff] at q
  obtain ⟨hk,q⟩:=q
  exact hj (by rw [← q];simp)
 rw [e,hd]
 simp [SetTable.has]
theorem kO (hd:t.dummies= #[]):t.slot j≠ .dummy:=by
 unfold SetTable.slot
 dsimp only
 rw [hd]
 split
 ·intro q;cases q
 ·simp [SetTable.has]
theorem kE (h:aX t.place.toList)(hj:t.slot j= .empty):j∉t.place.toList:=by
 intro hm
 obtain ⟨k,hk,e⟩:=List.getElem_of_mem hm
 simp only [Array.length_toList] at hk
 simp only [Array.getElem_toList] at e
 obtain ⟨a,b,c⟩:=gE h j
 have hb:SetTable.below t.place j=k:=by
  rcases Nat.lt_trichotomy (SetTable.below t.place j) k with q | q | q
  ·have:=c _ (by omega) (Nat.le_refl _)
   have h2:=fo h q (by simpa using hk);simp only [Array.getElem_toList] at h2
   omega
  ·exact q
  ·have:=b k hk q;omega
 unfold SetTable.slot at hj
 dsimp only at hj
 rw [hb] at hj
 have:(t.place[k]?==some j)=true:=by rw [beq_iff_eq,Array.getElem?_eq_some_iff];exact ⟨hk,e⟩
 rw [if_pos this] at hj
 cases hj
def cL (mask:Nat):Nat->Nat×Nat->Nat×Nat
 | 0,p=>p
 | n + 1,p=>cL mask n (SetTable.leap mask p.1 p.2)
theorem lb (mask:Nat):∀(m n:Nat) (p:Nat×Nat),cL mask (m + n) p=cL mask n (cL mask m p)
 | 0,n,p=>by rw [Nat.zero_add];rfl
 | m + 1,n,p=>by rw [show m + 1 + n=(m + n) + 1 by omega];show cL mask (m + n) _=_;rw [lb mask m n];rfl
theorem jG (mask:Nat):∀(n:Nat) (p:Nat×Nat),(cL mask n p).2=p.2 / 32 ^ n
 | 0,p=>by simp [cL]
 | n + 1,p=>by show (cL mask n _).2=_;rw [jG mask n];simp [SetTable.leap,Nat.div_div_eq_div_mul,Nat.pow_succ,Nat.mul_comm]
theorem mw (mask:Nat):∀(n:Nat) (p:Nat×Nat),p.1<=mask->(cL mask n p).1<=mask
 | 0,p,h=>h
 | n + 1,p,h=>mw mask n _ (Nat.le_of_lt_succ (Nat.mod_lt (p.1 * 5 + 1 + p.2 / 32) (Nat.succ_pos mask)))
def vq (mask i:Nat):Nat:=(i * 5 + 1) % (mask + 1)
def gA (mask:Nat):Nat->Nat->Nat
 | 0,i=>i
 | n + 1,i=>gA mask n (vq mask i)
theorem gR (mask:Nat):∀(m n i:Nat),gA mask (m + n) i=gA mask n (gA mask m i)
 | 0,n,i=>by rw [Nat.zero_add];rfl
 | m + 1,n,i=>by rw [show m + 1 + n=(m + n) + 1 by omega];show gA mask (m + n) _=_;rw [gR mask m n];rfl
theorem j5 (mask:Nat):∀(n i:Nat),cL mask n (i,0)=(gA mask n i,0)
 | 0,i=>rfl
 | n + 1,i=>by show cL mask n (SetTable.leap mask i 0)=_;rw [show SetTable.leap mask i 0=(vq mask i,0) by simp [SetTable.leap,vq]];exact j5 mask n _
def kS (mask:Nat):Nat->Nat->List Nat
 | 0,_=>[]
 | n + 1,i=>i::kS mask n (vq mask i)
theorem jc (mask:Nat):∀(n i j:Nat),j∈kS mask n i->∃m,m < n/\gA mask m i=j
 | 0,_,_,h=>by cases h
 | n + 1,i,j,h=>by
   rcases List.mem_cons.mp h with rfl | h
   ·exact ⟨0,Nat.succ_pos _,rfl⟩
   ·obtain ⟨m,hm,e⟩:=jc mask n _ j h
    exact ⟨m + 1,by omega,e⟩
abbrev Round (mask:Nat):Prop:=mask=7∨mask=31∨mask=127
theorem nr (hm:Round mask)(hj:j<=mask):j∈kS mask (mask + 1) 0:=by
 rcases hm with rfl | rfl | rfl
 ·have:∀j,j < 8->j∈kS 7 8 0:=by decide +kernel
  exact this j (by omega)
 ·have:∀j,j < 32->j∈kS 31 32 0:=by decide +kernel
  exact this j (by omega)
 ·have:∀j,j < 128->j∈kS 127 128 0:=by decide +kernel
  exact this j (by omega)
theorem qN (hm:Round mask):gA mask (mask + 1) 0=0:=by rcases hm with rfl | rfl | rfl<;>decide +kernel
theorem sT (hm:Round mask)(hi:i<=mask)(hj:j<=mask):∃m,m<=mask/\gA mask m i=j:=by
 obtain ⟨a,ha,rfl⟩:=jc mask _ 0 i (nr hm hi)
 obtain ⟨b,hb,rfl⟩:=jc mask _ 0 j (nr hm hj)
 rcases Nat.lt_or_ge b a with q | q
 ·refine ⟨mask + 1 - a + b,by omega,?_⟩
  rw [← gR,show a + (mask + 1 - a + b)=mask + 1 + b by omega,gR,qN hm]
 ·exact ⟨b - a,by omega,by rw [← gR,show a + (b - a)=b by omega]⟩
theorem nE (hm:Round mask){p:Nat}(hi:i<=mask)(hj:j<=mask)(hp:p < 2 ^ 64):∃m,m < SetTable.turns mask/\(cL mask m (i,p)).1=j:=by
 have h0:(cL mask 13 (i,p)).2=0:=by rw [jG];exact Nat.div_eq_of_lt (Nat.lt_of_lt_of_le hp (by decide))
 have h1:(cL mask 13 (i,p)).1<=mask:=mw mask 13 _ hi
 obtain ⟨m,hm',e⟩:=sT hm h1 hj
 refine ⟨13 + m,by unfold SetTable.turns;omega,?_⟩
 rw [lb,show cL mask 13 (i,p)=((cL mask 13 (i,p)).1,0) from Prod.ext rfl h0,j5]
 exact e
theorem oN (h:Int):SetTable.bits h < 2 ^ 64:=by unfold SetTable.bits;omega
theorem k8 (h:i<=mask):SetTable.runEnd mask i<=mask/\i<=SetTable.runEnd mask i/\SetTable.runEnd mask i<=i + 9:=by
 unfold SetTable.runEnd;split<;>omega
end
section
variable {t:SetTable}(hr:aX t.place.toList)(hd:t.dummies= #[])
include hr hd
theorem qK (h:Int):∀(more fuel j i pert:Nat),j + more<=t.mask->
 (∃k,k<=t.mask/\k∉t.place.toList/\SetTable.probe.go t (λ_=>h + 1) h (more + 1 + fuel) ⟨j,more,i,pert,none⟩=some (.empty k none))∨
 (SetTable.probe.go t (λ_=>h + 1) h (more + 1 + fuel) ⟨j,more,i,pert,none⟩=SetTable.probe.go t (λ_=>h + 1) h fuel (t.advance ⟨j + more,0,i,pert,none⟩)/\j∈t.place.toList)
 | more,fuel,j,i,pert,hm=>by
   by_cases hj:j∈t.place.toList
   ·have hs:∃n,t.slot j= .live n:=by
     cases q:t.slot j with
     | empty=>exact absurd hj (kE hr q)
     | dummy=>exact absurd q (kO hd)
     | live n=>exact ⟨n,rfl⟩
    obtain ⟨n,hs⟩:=hs
    have hne:(h + 1==h)=false:=by rw [beq_eq_false_iff_ne];omega
    have step:∀f,SetTable.probe.go t (λ_=>h + 1) h (f + 1) ⟨j,more,i,pert,none⟩=SetTable.probe.go t (λ_=>h + 1) h f (t.advance ⟨j,more,i,pert,none⟩):=by
     intro f
     rw [SetTable.probe.go]
     simp only [hs,hne,Bool.false_eq_true,if_false]
    match more,hm with
    | 0,hm=>
      refine .inr ⟨?_,hj⟩
      rw [show 0 + 1 + fuel=fuel + 1 by omega,step]
      rfl
    | more + 1,hm=>
      have e:t.advance ⟨j,more + 1,i,pert,none⟩=⟨j + 1,more,i,pert,none⟩:=by
       unfold SetTable.advance;simp
      have ih:=qK h more fuel (j + 1) i pert (by omega)
      rw [show more + 1 + 1 + fuel=(more + 1 + fuel) + 1 by omega,step,e]
      rcases ih with ih | ⟨ih,_⟩
      ·exact .inl ih
      ·refine .inr ⟨?_,hj⟩
       rw [ih,show j + 1 + more=j + (more + 1) by omega]
   ·refine .inl ⟨j,by omega,hj,?_⟩
    rw [show more + 1 + fuel=(more + fuel) + 1 by omega,SetTable.probe.go]
    simp only [p5 hr hd hj]
termination_by more=>more
theorem mN (h:Int):∀(m fuel i pert:Nat),i<=t.mask->(cL t.mask m (i,pert)).1∉t.place.toList->10 * (m + 1)<=fuel->
 ∃k,k<=t.mask/\k∉t.place.toList/\SetTable.probe.go t (λ_=>h + 1) h fuel ⟨i,SetTable.runEnd t.mask i - i,i,pert,none⟩=some (.empty k none)
 | m,fuel,i,pert,hi,hf,hfu=>by
   obtain ⟨r1,r2,r3⟩:=k8 hi
   have key:=qK hr hd h (SetTable.runEnd t.mask i - i) (fuel - (SetTable.runEnd t.mask i - i) - 1) i i pert (by omega)
   rw [show SetTable.runEnd t.mask i - i + 1 + (fuel - (SetTable.runEnd t.mask i - i) - 1)=fuel by omega] at key
   rcases key with key | ⟨key,hmem⟩
   ·exact key
   ·match m,hf,hfu with
    | 0,hf,hfu=>exact absurd hmem hf
    | m + 1,hf,hfu=>
      rw [key]
      have e:t.advance ⟨i + (SetTable.runEnd t.mask i - i),0,i,pert,none⟩=⟨(SetTable.leap t.mask i pert).1,SetTable.runEnd t.mask (SetTable.leap t.mask i pert).1 - (SetTable.leap t.mask i pert).1,(SetTable.leap t.mask i pert).1,(SetTable.leap t.mask i pert).2,none⟩:=by
       unfold SetTable.advance;simp
      rw [e]
      exact mN h m _ _ _ (Nat.le_of_lt_succ (Nat.mod_lt _ (Nat.succ_pos t.mask))) hf (by omega)
termination_by m=>m
theorem sx (hm:Round t.mask)(hx:∃j,j<=t.mask/\j∉t.place.toList)(h:Int):∃k,k<=t.mask/\k∉t.place.toList/\t.freeSlot h=some (k,false):=by
 obtain ⟨j,hj,hn⟩:=hx
 have hi:SetTable.bits h % (t.mask + 1)<=t.mask:=Nat.le_of_lt_succ (Nat.mod_lt _ (Nat.succ_pos _))
 obtain ⟨m,hm',e⟩:=nE hm hi hj (oN h)
 obtain ⟨k,hk,hkn,e'⟩:=mN hr hd h m (10 * SetTable.turns t.mask) _ (SetTable.bits h) hi (by rw [e];exact hn) (by omega)
 refine ⟨k,hk,hkn,?_⟩
 unfold SetTable.freeSlot SetTable.probe SetTable.probeStart
 dsimp only
 rw [e']
 rfl
end
section
variable {mask:Nat}{t:SetTable}{es:Array (Int×Value)}{j:Nat}
theorem fG:∀{l m:List Nat},l.Nodup->l ⊆ m->l.length<=m.length
 | [],_,_,_=>Nat.zero_le _
 | a::l,m,hn,hs=>by
   have ha:a∈m:=hs List.mem_cons_self
   have ih:=fG (l:=l) (m:=m.erase a) (List.nodup_cons.mp hn).2 (λx hx=>by
    have hne:x≠a:=λe=>(List.nodup_cons.mp hn).1 (e▸hx)
    exact (List.mem_erase_of_ne hne).mpr (hs (List.mem_cons_of_mem _ hx)))
   rw [List.length_erase_of_mem ha] at ih
   have:0 < m.length:=List.length_pos_of_mem ha
   simp only [List.length_cons]
   omega
theorem qy {l:List Nat}(hr:aX l)(h:l.length<=mask):∃j,j<=mask/\j∉l:=by
 apply Classical.byContradiction
 intro hc
 have hall:∀j,j < mask + 1->j∈l:=λj hj=>by
  apply Classical.byContradiction;intro hn;exact hc ⟨j,by omega,hn⟩
 have hnd:(List.range (mask + 1)).Nodup:=List.nodup_range
 have hsub:(List.range (mask + 1)) ⊆ l:=λj hj=>hall j (List.mem_range.mp hj)
 have:=fG hnd hsub
 simp at this
 omega
structure Good (t:SetTable) (n:Nat):Prop where
 plain:t.plain=true
 led:t.led=true
 dum:t.dummies= #[]
 size:t.place.size=n
 rise:aX t.place.toList
 round:Round t.mask
theorem nI {l:List Nat}{p:Nat}(h:aX l)(h1:∀x∈l.take p,x < j)(h2:∀x∈l.drop p,j < x):aX (l.take p++j::l.drop p):=by
 refine List.pairwise_append.mpr ⟨h.sublist (List.take_sublist _ _),List.pairwise_cons.mpr ⟨h2,h.sublist (List.drop_sublist _ _)⟩,λa ha b hb=>?_⟩
 rcases List.mem_cons.mp hb with rfl | hb
 ·exact h1 a ha
 ·exact Nat.lt_trans (h1 a ha) (h2 b hb)
theorem tY (h:aX t.place.toList)(hj:j∉t.place.toList):aX (SetTable.insertAt t.place (SetTable.below t.place j) j).toList:=by
 rw [SetTable.toList_insertAt]
 obtain ⟨a,b,c⟩:=gE h j
 refine nI h (λx hx=>?_) (λx hx=>?_)
 ·obtain ⟨k,hk,e⟩:=List.getElem_of_mem hx
  rw [List.length_take] at hk
  rw [List.getElem_take] at e
  simp only [Array.getElem_toList] at e
  rw [← e]
  exact b k (by simp at hk;omega) (by omega)
 ·obtain ⟨k,hk,e⟩:=List.getElem_of_mem hx
  rw [List.length_drop] at hk
  rw [List.getElem_drop] at e
  simp only [Array.getElem_toList] at e
  simp at hk
  have:=c (SetTable.below t.place j + k) (by omega) (by omega)
  rw [e] at this
  rcases Nat.lt_or_ge j x with q | q
  ·exact q
  ·have:x=j:=by omega
   subst this
   exact absurd (List.mem_of_mem_drop hx) hj
theorem g4 {α:Type}(xs:Array α)(p:Nat)(x:α):(SetTable.insertAt xs p x).size=xs.size + 1:=by
 have:=(SetTable.insertAt_perm xs p x).length_eq
 simpa using this
theorem nT (G:Good t es.size)(hf:es.size + 1<=t.mask)(h:Int)(x:Value):
 ∃t',(layNew t es h x).2.1=t'/\Good t' (es.size + 1)/\t'.mask=t.mask/\(layNew t es h x).1.size=es.size + 1/\(layNew t es h x).2.2.1=false:=by
 obtain ⟨k,hk,hkn,e⟩:=sx G.rise G.dum G.round (qy G.rise (mask:=t.mask) (by simp [G.size];omega)) h
 have hsz:(SetTable.insertAt es (t.put k).2 (h,x)).size=es.size + 1:=g4 ..
 have hd:(t.put k).1.dummies= #[]:=by unfold SetTable.put;simp [G.dum,SetTable.has]
 have hp:(t.put k).1.place.size=es.size + 1:=by unfold SetTable.put;simp [g4,G.size]
 have hfit:(t.put k).1.fits (es.size + 1)=true:=by
  unfold SetTable.fits SetTable.fill
  rw [hp,hd]
  have:(t.put k).1.mask=t.mask:=rfl
  rw [this];simp;omega
 have hor:(t.put k).1.orStandIn (es.size + 1)=(t.put k).1:=by unfold SetTable.orStandIn;rw [if_pos hfit]
 unfold layNew
 rw [e]
 dsimp only
 refine ⟨(t.put k).1,?_,⟨G.plain,G.led,hd,hp,tY G.rise hkn,G.round⟩,rfl,hsz,rfl⟩
 rw [hsz,hor]
def Own (mask:Nat)(owner:Array (Option Nat))(k:Nat):Prop:=
 owner.size=mask + 1/\List.Perm ((List.range (mask + 1)).filterMap λj=>owner.getD j none) (List.range k)
theorem gy {α:Type}{f g:Nat->Option α}:∀{l:List Nat},(∀i∈l,g i=f i)->l.filterMap g=l.filterMap f
 | [],_=>rfl
 | a::l,h=>by rw [List.filterMap_cons,List.filterMap_cons,h a List.mem_cons_self,gy λi hi=>h i (List.mem_cons_of_mem _ hi)]
theorem g7 {α:Type}{f g:Nat->Option α}{j:Nat}{a:α}(hf:f j=none)(hg:g j=some a)(ho:∀i,i≠j->g i=f i):
 ∀N,j < N->List.Perm ((List.range N).filterMap g) (a::(List.range N).filterMap f)
 | 0,h=>absurd h (Nat.not_lt_zero _)
 | N + 1,h=>by
   rw [List.range_succ,List.filterMap_append,List.filterMap_append]
   rcases Nat.lt_or_ge j N with q | q
   ·have ih:=g7 hf hg ho N q
    have e:List.filterMap g [N]=List.filterMap f [N]:=by simp [List.filterMap_cons,ho N (by omega)]
    rw [e]
    exact (ih.append_right _)
   ·have e:j=N:=by omega
    subst e
    have e1:List.filterMap g [j]=[a]:=by simp [List.filterMap_cons,hg]
    have e2:List.filterMap f [j]=[]:=by simp [List.filterMap_cons,hf]
    have e3:(List.range j).filterMap g=(List.range j).filterMap f:=gy λi hi=>ho i (by have:=List.mem_range.mp hi;omega)
    rw [e1,e2,e3,List.append_nil]
    exact List.perm_append_comm
theorem getD_eq {α:Type}(xs:Array α)(i:Nat)(d:α):xs.getD i d=xs[i]?.getD d:=by
 unfold Array.getD
 split
 ·rename_i h;rw [Array.getElem?_eq_getElem h];rfl
 ·rename_i h;rw [Array.getElem?_eq_none (by omega)];rfl
theorem we {owner:Array (Option Nat)}{k:Nat}(h:Own mask owner k)(hj:j<=mask)(hn:owner.getD j none=none):Own mask (owner.setIfInBounds j (some k)) (k + 1):=by
 obtain ⟨hs,hp⟩:=h
 refine ⟨by simp [hs],?_⟩
 have hjs:j < owner.size:=by omega
 have:=g7 (f:=λj=>owner.getD j none) (g:=λi=>(owner.setIfInBounds j (some k)).getD i none) (j:=j) (a:=k) hn (by simp [getD_eq,Array.getElem?_setIfInBounds,hjs]) (λi hi=>by
  simp only [getD_eq,Array.getElem?_setIfInBounds,if_neg (Ne.symm hi)]) (mask + 1) (by omega)
 refine this.trans ?_
 rw [List.range_succ (n:=k)]
 exact (List.Perm.cons k hp).trans (List.perm_append_singleton k _).symm
theorem tq (mask:Nat):Own mask (Array.replicate (mask + 1) none) 0:=by
 refine ⟨by simp,?_⟩
 have:((List.range (mask + 1)).filterMap λj=>(Array.replicate (mask + 1) (none:Option Nat)).getD j none)=[]:=by
  rw [List.filterMap_eq_nil_iff]
  intro i _
  rw [getD_eq,Array.getElem?_replicate]
  split<;>rfl
 rw [this];exact .rfl
theorem tR {owner:Array (Option Nat)}{k:Nat}(h:Own mask owner k)(hk:k<=mask):∃j,j<=mask/\owner.getD j none=none:=by
 apply Classical.byContradiction
 intro hc
 have hall:∀j,j < mask + 1->∃a,owner.getD j none=some a:=λj hj=>by
  cases q:owner.getD j none with
  | none=>exact absurd ⟨j,by omega,q⟩ hc
  | some a=>exact ⟨a,rfl⟩
 have hl:((List.range (mask + 1)).filterMap λj=>owner.getD j none).length=mask + 1:=by
  have:∀(l:List Nat),(∀j∈l,j < mask + 1)->(l.filterMap λj=>owner.getD j none).length=l.length:=by
   intro l
   induction l with
   | nil=>intro _;rfl
   | cons a l ih=>
     intro hl
     obtain ⟨b,e⟩:=hall a (hl a List.mem_cons_self)
     rw [List.filterMap_cons,e,List.length_cons,List.length_cons,ih λj hj=>hl j (List.mem_cons_of_mem _ hj)]
  rw [this _ λj hj=>List.mem_range.mp hj,List.length_range]
 have:=h.2.length_eq
 rw [hl,List.length_range] at this
 omega
theorem jE {mask:Nat}{owner:Array (Option Nat)}(hs:owner.size=mask + 1):∀(m fuel i pert:Nat),i<=mask->owner.getD (cL mask m (i,pert)).1 none=none->m < fuel->
 ∃j,j<=mask/\owner.getD j none=none/\SetTable.layClean.free mask owner fuel i pert=some j
 | m,0,i,pert,hi,hf,hfu=>absurd hfu (Nat.not_lt_zero _)
 | m,fuel + 1,i,pert,hi,hf,hfu=>by
   obtain ⟨r1,r2,r3⟩:=k8 hi
   rw [SetTable.layClean.free]
   cases q:(List.range (SetTable.runEnd mask i + 1 - i)).find? λk=>(owner.getD (i + k) (some 0)).isNone with
   | some k=>
     have h1:=List.find?_some q
     have h2:=List.mem_range.mp (List.mem_of_find?_eq_some q)
     refine ⟨i + k,by omega,?_,rfl⟩
     have hlt:i + k < owner.size:=by omega
     rw [getD_eq] at h1 ⊢
     rw [Array.getElem?_eq_getElem hlt] at h1 ⊢
     simpa using h1
   | none=>
     match m,hf,hfu with
     | 0,hf,hfu=>
       have:=List.find?_eq_none.mp q 0 (List.mem_range.mpr (by omega))
       have hlt:i < owner.size:=by omega
       have hf':owner.getD i none=none:=hf
       rw [getD_eq,Array.getElem?_eq_getElem hlt] at hf'
       rw [Nat.add_zero,getD_eq,Array.getElem?_eq_getElem hlt] at this
       simp only [Option.getD_some] at hf' this
       rw [hf'] at this
       exact absurd rfl this
     | m + 1,hf,hfu=>exact jE hs m fuel _ _ (Nat.le_of_lt_succ (Nat.mod_lt _ (Nat.succ_pos mask))) hf (by omega)
termination_by m fuel=>fuel
theorem mM (hm:Round mask)(hashes:List Int):∀(owner:Array (Option Nat)) (k:Nat),Own mask owner k->k + hashes.length<=mask + 1->
 ∃owner',hashes.foldl (init:=some (owner,k)) (λacc h=>do
  let (owner,k) ← acc
  let j ← SetTable.layClean.free mask owner (SetTable.turns mask) (SetTable.bits h % (mask + 1)) (SetTable.bits h)
  pure (owner.setIfInBounds j (some k),k + 1))=some (owner',k + hashes.length)/\Own mask owner' (k + hashes.length):=by
 induction hashes with
 | nil=>intro owner k h _;exact ⟨owner,rfl,h⟩
 | cons x l ih=>
   intro owner k h hk
   simp only [List.length_cons] at hk
   obtain ⟨j0,hj0,hn0⟩:=tR h (by omega)
   have hi:SetTable.bits x % (mask + 1)<=mask:=Nat.le_of_lt_succ (Nat.mod_lt _ (Nat.succ_pos _))
   obtain ⟨m,hm',e⟩:=nE hm hi hj0 (oN x)
   obtain ⟨j,hj,hn,e'⟩:=jE h.1 m (SetTable.turns mask) _ (SetTable.bits x) hi (by rw [e];exact hn0) hm'
   obtain ⟨o',e2,ho'⟩:=ih _ (k + 1) (we h hj hn) (by omega)
   refine ⟨o',?_,by rw [List.length_cons,show k + (l.length + 1)=k + 1 + l.length by omega];exact ho'⟩
   rw [List.foldl_cons,List.length_cons,show k + (l.length + 1)=k + 1 + l.length by omega,← e2]
   congr 1
   simp [e']
theorem jk {owner:Array (Option Nat)}:∀(l:List Nat),((l.filterMap λj=>(owner.getD j none).map (j,·)).map (·.1)).Sublist l
 | []=>.slnil
 | a::l=>by
   rw [List.filterMap_cons]
   cases q:owner.getD a none with
   | none=>exact (jk l).cons _
   | some b=>exact (jk l).cons₂ _
theorem gI {owner:Array (Option Nat)}:∀(l:List Nat),(l.filterMap λj=>(owner.getD j none).map (j,·)).map (·.2)=l.filterMap λj=>owner.getD j none
 | []=>rfl
 | a::l=>by
   rw [List.filterMap_cons,List.filterMap_cons]
   cases q:owner.getD a none with
   | none=>exact gI l
   | some b=>simp only [Option.map_some,List.map_cons,gI l]
theorem qf {finger moves:Nat}(hm:Round mask){hashes:Array Int}(hk:hashes.size<=mask):
 ∃t' order,SetTable.laid mask finger moves true true hashes=some (t',order)/\Good t' hashes.size/\t'.mask=mask/\List.Perm order.toList (List.range hashes.size):=by
 obtain ⟨o',e,ho⟩:=mM hm hashes.toList (Array.replicate (mask + 1) none) 0 (tq mask) (by simp;omega)
 simp only [Nat.zero_add,Array.length_toList] at e ho
 unfold SetTable.laid SetTable.layClean
 rw [← Array.foldl_toList,e]
 refine ⟨_,_,rfl,⟨rfl,rfl,rfl,?_,?_,hm⟩,rfl,?_⟩
 ·have h1:=ho.2.length_eq
  rw [List.length_range,← gI,List.length_map] at h1
  simpa using h1
 ·refine List.Pairwise.sublist (jk (owner:=o') (List.range (mask + 1))) List.pairwise_lt_range
 ·rw [List.toList_toArray,gI];exact ho.2
theorem qa (G:Good t es.size){wanted:Nat}(hm:Round (SetTable.sizeAbove wanted - 1))(hk:es.size<=SetTable.sizeAbove wanted - 1):
 ∃t',(relayAll t es wanted).2.1=t'/\Good t' es.size/\t'.mask=SetTable.sizeAbove wanted - 1/\(relayAll t es wanted).1.size=es.size:=by
 have hsz:(relayAll t es wanted).1.size=es.size:=by have:=(relayAll_perm t es wanted).length_eq;simpa using this
 obtain ⟨t',order,e,G',hmk,hp⟩:=qf (finger:=t.finger) (moves:=t.movedTo (SetTable.sizeAbove wanted - 1)) hm (hashes:=es.map (·.1)) (by simpa using hk)
 simp only [Array.size_map] at G' hp
 have hc:coversAll order es.size=true:=by unfold coversAll;exact List.isPerm_iff.mpr hp
 have hes:(order.filterMap (es[·]?)).size=es.size:=by
  have:=(hp.filterMap (λi=>es[i]?)).length_eq
  rw [filterMap_getElem?_range] at this
  rw [← Array.length_toList,Array.toList_filterMap,this,Array.length_toList]
 have hfit:t'.fits (order.filterMap (es[·]?)).size=true:=by
  rw [hes]
  unfold SetTable.fits SetTable.fill
  rw [G'.size,G'.dum,hmk]
  simp;omega
 refine ⟨t',?_,G',hmk,hsz⟩
 unfold relayAll SetTable.relaid
 rw [G.led,G.plain,e]
 dsimp only
 rw [hc,hfit]
 rfl
def kZ:Value->Int
 | .int n _=>n
 | _=>0
theorem oM {k:Int}{v:Value}(h:Value.isInt k v=true):kZ v=k:=by obtain ⟨t,rfl⟩:=Value.isInt_shape h;rfl
theorem nF {prog:Program}{w:World}{l:List (Int×Value)}(h:ElemsOf (intKind prog w) l){e:Int×Value}(he:e∈l):Value.isInt (kZ e.2) e.2=true:=by
 obtain ⟨⟨k,hk,_⟩,_⟩:=h e he
 have hk:Value.isInt k e.2=true:=hk
 rw [oM hk];exact hk
abbrev nums (es:Array (Int×Value)):List Int:=es.toList.map λe=>kZ e.2
def eD (σ:List Int)(k:Int):List Int:=if σ.any (· ==k) then σ else σ++[k]
def eE (prog:Program)(w:World)(o:Obj)(σ:List Int):Prop:=
 o.ExactSet/\∃es ep t,o.data= .set es ep t/\ElemsOf (intKind prog w) es.toList/\(nums es).Perm σ/\t.fits es.size=true/\(w.params.followText "set-order"=false->Good t es.size/\es.size * 5 < t.mask * 3)
theorem eE.len {prog:Program}{w:World}{o:Obj}{σ:List Int}(p:(nums es).Perm σ):es.size=σ.length:=by have:=p.length_eq;simpa [nums] using this
theorem sL (G:Good t es.size)(hl:es.size * 5 < t.mask * 3)(hb:es.size + 1<=64)(h:Int)(x:Value):
 let L:=layNew t es h x
 Good L.2.1 L.1.size/\L.2.2.1=false/\(L.2.1.tooFull=false->L.1.size * 5 < L.2.1.mask * 3)/\
  (L.2.1.tooFull=true->Good (relayAll L.2.1 L.1 (SetTable.grown L.1.size)).2.1 (relayAll L.2.1 L.1 (SetTable.grown L.1.size)).1.size/\
    (relayAll L.2.1 L.1 (SetTable.grown L.1.size)).1.size * 5 < (relayAll L.2.1 L.1 (SetTable.grown L.1.size)).2.1.mask * 3):=by
 have hr:=G.round
 have hf:es.size + 1<=t.mask:=by rcases hr with e | e | e<;>omega
 obtain ⟨t',e,G',hm,hs,hw⟩:=nT G hf h x
 dsimp only
 rw [e]
 refine ⟨by rw [hs];exact G',hw,λhn=>?_,λhn=>?_⟩
 ·unfold SetTable.tooFull SetTable.fill at hn
  rw [G'.size,G'.dum,hm] at hn
  simp only [Array.size_empty,Nat.add_zero,ge_iff_le,decide_eq_false_iff_not] at hn
  rw [hs,hm];omega
 ·unfold SetTable.tooFull SetTable.fill at hn
  rw [G'.size,G'.dum,hm] at hn
  simp only [Array.size_empty,Nat.add_zero,ge_iff_le,decide_eq_true_eq] at hn
  have G1:Good t' (layNew t es h x).1.size:=by rw [hs];exact G'
  have hcase:((layNew t es h x).1.size=5)∨((layNew t es h x).1.size=19):=by
   rw [hs];rcases hr with q | q | q<;>rw [q] at hn hl<;>omega
  have key:∀n m,(layNew t es h x).1.size=n->SetTable.sizeAbove (SetTable.grown n) - 1=m->Round m->n<=m->n * 5 < m * 3->
   Good (relayAll t' (layNew t es h x).1 (SetTable.grown (layNew t es h x).1.size)).2.1 (relayAll t' (layNew t es h x).1 (SetTable.grown (layNew t es h x).1.size)).1.size/\
   (relayAll t' (layNew t es h x).1 (SetTable.grown (layNew t es h x).1.size)).1.size * 5 < (relayAll t' (layNew t es h x).1 (SetTable.grown (layNew t es h x).1.size)).2.1.mask * 3:=by
   intro n m hn hm hrm hnm hlt
   obtain ⟨t2,e2,G2,hm2,hs2⟩:=qa G1 (wanted:=SetTable.grown (layNew t es h x).1.size) (by rw [hn,hm];exact hrm) (by rw [hn,hm];exact hnm)
   rw [hs2,e2]
   refine ⟨G2,?_⟩
   rw [hm2,hn,hm];exact hlt
  rcases hcase with q | q
  ·exact key 5 31 q (by decide +kernel) (by decide) (by decide) (by decide)
  ·exact key 19 127 q (by decide +kernel) (by decide) (by decide) (by decide)
end
section
variable {prog:Program}{w:World}{A:Around}{E:Value->Shared->Prop}{s:Shared}
variable {σ:List Int}
theorem jq {a:Addr}{o:Obj}{es:Array (Int×Value)}{ep:Nat}{t:SetTable}(ho:s.heap.get? a=some o)(hex:o.ExactSet)(hd:o.data= .set es ep t)(es':Array (Int×Value))(t':SetTable)
 (hel:ElemsOf (intKind prog w) es'.toList) (hp:(nums es').Perm σ) (hf:t'.fits es'.size=true) (hg:w.params.followText "set-order"=false->Good t' es'.size/\es'.size * 5 < t'.mask * 3):
 ∃o',(s.heap.update a (Obj.putSet es' t')).get? a=some o'/\eE prog w o' σ:=by
 refine ⟨{o with data:=.set es' (ep + 1) t'},?_,hex,es',ep + 1,t',rfl,hel,hp,hf,hg⟩
 have q:=Heap.get?_update_self (Obj.putSet es' t') ho (by rw [putSet_of es' t' hd];rfl)
 rw [putSet_of es' t' hd] at q
 exact q
theorem uj {es:Array (Int×Value)}(hel:ElemsOf (intKind prog w) es.toList)(hp:(nums es).Perm σ)(k:Int):σ.any (· ==k)=(es.toList.findIdx? λe=>(intKind prog w).is k e.2).isSome:=by
 rw [Bool.eq_iff_iff,List.any_eq_true,Option.isSome_iff_ne_none]
 constructor
 ·rintro ⟨y,hy,e⟩ hn
  have e:y=k:=by simpa using e
  subst e
  obtain ⟨c,hc,e⟩:=List.mem_map.mp (hp.mem_iff.mpr hy)
  have:=List.findIdx?_eq_none_iff.mp hn c hc
  have h2:=nF hel hc
  rw [e] at h2
  exact Bool.noConfusion (this.symm.trans h2)
 ·intro hn
  cases q:es.toList.findIdx? λe=>(intKind prog w).is k e.2 with
  | none=>exact absurd q hn
  | some j=>
    obtain ⟨hj,hpj,_⟩:=List.findIdx?_eq_some_iff_getElem.mp q
    exact ⟨k,hp.mem_iff.mp (List.mem_map.mpr ⟨_,List.getElem_mem hj,oM hpj⟩),by simp⟩
theorem uE {a:Addr}{o:Obj}{k:Int}{tk:Tok}{Q:Bool->Shared->Prop}(ho:s.heap.get? a=some o)(hS:eE prog w o σ)(hb:σ.length + 1<=64)
 (h:∀(h':Heap) (o':Obj),Heap.SameBut a s.heap h'->h'.get? a=some o'->eE prog w o' (eD σ k)->Q (!σ.any (· ==k)) {s with heap:=h'}):
 wpAny (model prog w) A (setAddHashed a (.int k tk) (hashInt k)) Q E s:=by
 obtain ⟨hex,es,ep,t,hd,hel,hp,hf,hg⟩:=hS
 have hsz:es.size=σ.length:=eE.len (prog:=prog) (w:=w) (o:=o) hp
 have hkey:(intKind prog w).is k (.int k tk)=true:=by simp [intKind,Value.isInt]
 have hb1:es.size + 1 < scanBound:=by unfold scanBound;omega
 unfold setAddHashed setAddHashedIn
 refine wpAny_holding (wpAny_bind (wpAny_setState_of ho hd hf ?_))
 dsimp only
 rw [byScan_of (knd:=intKind prog w) (x:=.int k tk) rfl (by omega) hel,if_pos rfl]
 unfold setAddByScan
 refine wpAny_bind (wpAny_bind (wpAny_rule (wpAny_bind (wpAny_setScan_of (knd:=intKind prog w) hkey ho hd hf hel ?_))))
 have hany:=uj hel hp k
 cases hr:es.toList.findIdx? λe=>(intKind prog w).is k e.2 with
 | some j=>
   rw [hr] at hany
   have ha:σ.any (· ==k)=true:=hany
   dsimp only
   refine wpAny_pure (wpAny_pure ?_)
   have:=h s.heap o (Heap.SameBut.refl a s.heap) ho ⟨hex,es,ep,t,hd,hel,by unfold eD;rw [if_pos ha];exact hp,hf,hg⟩
   rw [ha] at this
   exact this
 | none=>
   rw [hr] at hany
   have ha:σ.any (· ==k)=false:=hany
   dsimp only
   have gw:∀(b:Bool) {s₁:Shared} {Q':Unit->Shared->Prop},Q' () s₁->wpAny (model prog w) A (match b with | true=>rule "set.scan.the-table-gave-way" | false=>pure ()) Q' E s₁:=by
    intro b s₁ Q' q;cases b
    ·exact wpAny_pure q
    ·exact wpAny_rule q
   have hpm:=layNew_perm t es (hashInt k) (.int k tk)
   have hfi:=layNew_fits t es (hashInt k) (.int k tk)
   have hgr:=λe=>sL (hg e).1 (hg e).2 (by omega) (hashInt k) (.int k tk)
   generalize layNew t es (hashInt k) (.int k tk)=L at hpm hfi hgr ⊢
   obtain ⟨es1,t1,wd,gv⟩:=L
   dsimp only at hpm hfi hgr ⊢
   rw [Array.toList_push] at hpm
   have hel1:ElemsOf (intKind prog w) es1.toList:=(ElemsOf.push hel hkey rfl).perm hpm
   have hp1:(nums es1).Perm (eD σ k):=by
    unfold eD;rw [if_neg (by rw [ha];exact Bool.false_ne_true)]
    refine (hpm.map _).trans ?_
    rw [List.map_append]
    exact hp.append_right _
   have hs1:es1.size=es.size + 1:=by have:=hpm.length_eq;simpa using this
   have hl1:es1.size<=sizeLine:=fits_of_scanBound (by omega)
   refine wpAny_bind (gw _ ?_)
   have goal:∀(h':Heap) (o':Obj),Heap.SameBut a s.heap h'->h'.get? a=some o'->eE prog w o' (eD σ k)->Q true {s with heap:=h'}:=by
    intro h' o' e1 e2 e3;have:=h h' o' e1 e2 e3;rw [ha] at this;exact this
   have sb1:=Heap.SameBut.update s.heap a (Obj.putSet es1 t1)
   have hbv:plainKind (.int k tk)=true:=rfl
   split
   case' isTrue=>refine wpAny_bind ?_;rw [hashByValue_scannable 8 rfl];refine wpAny_pure ?_
   case' isFalse=>refine wpAny_bind (wpAny_pure ?_)
   all_goals
    simp only [hbv,if_true]
    refine wpAny_bind (wpAny_storeSet_of ho hd ?_ hl1)
    by_cases hc:(!wd&&t1.tooFull)=true
    ·rw [if_pos hc]
     have hq:=relayAll_perm t1 es1 (SetTable.grown es1.size)
     have hqf:=relayAll_fits t1 es1 (SetTable.grown es1.size)
     have hfu:t1.tooFull=true:=by rw [Bool.and_eq_true] at hc;exact hc.2
     have hgg:=λe=>(hgr e).2.2.2 hfu
     generalize relayAll t1 es1 (SetTable.grown es1.size)=L at hq hqf hgg ⊢
     obtain ⟨es2,t2,gv2⟩:=L
     dsimp only at hq hqf hgg ⊢
     have hs2:es2.size=es1.size:=by have:=hq.length_eq;simpa using this
     obtain ⟨o1,ho1⟩:∃o1,(s.heap.update a (Obj.putSet es1 t1)).get? a=some o1/\o1={o with data:=.set es1 (ep + 1) t1}:=by
      have q:=Heap.get?_update_self (Obj.putSet es1 t1) ho (by rw [putSet_of es1 t1 hd];rfl)
      rw [putSet_of es1 t1 hd] at q
      exact ⟨_,q,rfl⟩
     obtain ⟨ho1,e1⟩:=ho1
     have hex1:o1.ExactSet:=by rw [e1];exact hex
     have hd1:o1.data= .set es1 (ep + 1) t1:=by rw [e1]
     refine wpAny_bind (gw _ (wpAny_bind (wpAny_storeSet_of ho1 hd1 ?_ (by rw [hs2];exact hl1))))
     obtain ⟨o2,ho2,hS2⟩:=jq (s:={s with heap:=s.heap.update a (Obj.putSet es1 t1)}) ho1 hex1 hd1 es2 t2 (hel1.perm hq) ((hq.map _).trans hp1) hqf hgg
     exact wpAny_pure (wpAny_pure (goal _ o2 (sb1.trans (Heap.SameBut.update _ a _)) ho2 hS2))
    ·rw [if_neg hc]
     obtain ⟨o2,ho2,hS2⟩:=jq ho hex hd es1 t1 hel1 hp1 hfi (λe=>⟨(hgr e).1,(hgr e).2.2.1 (by
      have h1:=(hgr e).2.1
      rw [h1] at hc;simpa using hc)⟩)
     exact wpAny_pure (wpAny_pure (goal _ o2 sb1 ho2 hS2))
end
theorem g6 {α:Type}:∀{l:List α} {i:Nat} (h:i < l.length),(l[i]::l.eraseIdx i).Perm l
 | a::l,0,h=>.rfl
 | a::l,i + 1,h=>by
   have h':i < l.length:=by simpa using h
   show (l[i]::a::l.eraseIdx i).Perm (a::l)
   exact (List.Perm.swap _ _ _).trans ((g6 h').cons a)
theorem oT {α:Type}(next:Nat->Nat):∀(fuel k:Nat) (left:List α) (out:Array α),fuel=left.length->(pickOrder.go next fuel k left out).toList.Perm (out.toList++left)
 | 0,k,left,out,h=>by
   have:left=[]:=List.length_eq_zero_iff.mp h.symm
   subst this
   rw [pickOrder.go,List.append_nil]
 | fuel + 1,k,left,out,h=>by
   have hp:0 < left.length:=by omega
   have hi:next k % left.length < left.length:=Nat.mod_lt _ hp
   rw [pickOrder.go,List.getElem?_eq_getElem hi]
   dsimp only
   refine (oT next fuel (k + 1) _ _ (by rw [List.length_eraseIdx_of_lt hi];omega)).trans ?_
   rw [Array.toList_push,List.append_assoc]
   exact (g6 hi).append_left _
theorem rd {α:Type}(next:Nat->Nat)(xs:Array α):(pickOrder next xs).toList.Perm xs.toList:=by
 have:=oT next xs.size 0 xs.toList #[] (by simp)
 simpa [pickOrder] using this
def dZ (w:World)(a:Addr)(ep:Nat)(es:Array (Int×Value)):Array (Int×Value):=if w.params.followText "set-order"=true then pickOrder (w.params.setOrder a ep) es else es
theorem mO (w:World)(a:Addr)(ep:Nat)(es:Array (Int×Value)):(dZ w a ep es).toList.Perm es.toList:=by
 unfold dZ;split
 ·exact rd _ _
 ·exact .rfl
theorem gz (w:World)(a:Addr)(ep:Nat)(es:Array (Int×Value)):(dZ w a ep es).size=es.size:=by have:=(mO w a ep es).length_eq;simpa using this
section
variable {prog:Program}{w:World}{A:Around}{E:Value->Shared->Prop}{s:Shared}
variable {ep:Nat}{a:Addr}{o:Obj}{es:Array (Int×Value)}{t:SetTable}{slot i:Nat}{it:Addr}
def At (w:World)(t:SetTable)(slot i:Nat):Prop:=w.params.followText "set-order"=false->SetTable.below t.place slot=i
theorem fL {Q:Bool->Shared->Prop}(h:Q (w.params.followText "set-order") s):wpAny (model prog w) A setsByText Q E s:=by
 unfold setsByText
 exact wpAny_bind (wpAny_askSetting (wpAny_pure h))
theorem oB {Q:Array (Int×Value)->Shared->Prop}(ho:s.heap.get? a=some o)(hd:o.data= .set es ep t)(hf:t.fits es.size=true)
 (hb:w.params.followText "set-order"=true) (h:Q (dZ w a ep es) s):wpAny (model prog w) A (setWalk a) Q E s:=by
 unfold setWalk
 refine wpAny_bind (wpAny_setState_of ho hd hf ?_)
 dsimp only
 refine wpAny_bind (fL ?_)
 rw [hb,if_pos rfl]
 refine wpAny_bind (wpAny_askSetting (wpAny_pure ?_))
 unfold dZ at h
 rw [if_pos hb] at h
 exact h
theorem next_item {Q:Option (Value×Nat)->Shared->Prop}(ho:s.heap.get? a=some o)(hd:o.data= .set es ep t)(hf:t.fits es.size=true)
 (hg:w.params.followText "set-order"=false->Good t es.size) (hat:At w t slot i) {x:Int×Value} (hx:(dZ w a ep es)[i]?=some x)
 (h:∀slot',At w t slot' (i + 1)->Q (some (x.2,slot')) s):wpAny (model prog w) A (setNext a slot i ep) Q E s:=by
 unfold setNext
 refine wpAny_bind (wpAny_setState_of ho hd hf ?_)
 dsimp only
 refine wpAny_bind (fL ?_)
 cases hb:w.params.followText "set-order" with
 | true=>
   rw [if_pos rfl,if_neg (by simp)]
   refine wpAny_bind (oB ho hd hf hb ?_)
   rw [hx]
   exact wpAny_pure (h slot λe=>by rw [hb] at e;cases e)
 | false=>
   have G:=hg hb
   have hi:=hat hb
   unfold dZ at hx
   rw [if_neg (by rw [hb];exact Bool.false_ne_true)] at hx
   have hlt:i < es.size:=by
    rcases Nat.lt_or_ge i es.size with q | q
    ·exact q
    ·rw [Array.getElem?_eq_none q] at hx;cases hx
   have hpl:i < t.place.size:=by rw [G.size];exact hlt
   rw [if_neg Bool.false_ne_true,if_neg (by show¬((!t.plain&&decide (es.size > 1))=true);rw [G.plain];simp)]
   refine wpAny_bind ?_
   show wpAny _ _ (if (!t.led&& !es.isEmpty)=true then unsupported "set:maker-not-led" else pure ()) _ _ _
   rw [if_neg (by rw [G.led];simp)]
   refine wpAny_pure ?_
   rw [hi,hx,Array.getElem?_eq_getElem hpl]
   exact wpAny_pure (h _ λ_=>pL G.rise hpl)
theorem next_end {Q:Option (Value×Nat)->Shared->Prop}(ho:s.heap.get? a=some o)(hd:o.data= .set es ep t)(hf:t.fits es.size=true)
 (hg:w.params.followText "set-order"=false->Good t es.size) (hat:At w t slot es.size) (h:Q none s):wpAny (model prog w) A (setNext a slot es.size ep) Q E s:=by
 unfold setNext
 refine wpAny_bind (wpAny_setState_of ho hd hf ?_)
 dsimp only
 refine wpAny_bind (fL ?_)
 cases hb:w.params.followText "set-order" with
 | true=>
   rw [if_pos rfl,if_neg (by simp)]
   refine wpAny_bind (oB ho hd hf hb ?_)
   rw [Array.getElem?_eq_none (by rw [gz];exact Nat.le_refl _)]
   exact wpAny_pure h
 | false=>
   have G:=hg hb
   have hi:=hat hb
   rw [if_neg Bool.false_ne_true,if_neg (by show¬((!t.plain&&decide (es.size > 1))=true);rw [G.plain];simp)]
   refine wpAny_bind ?_
   show wpAny _ _ (if (!t.led&& !es.isEmpty)=true then unsupported "set:maker-not-led" else pure ()) _ _ _
   rw [if_neg (by rw [G.led];simp)]
   refine wpAny_pure ?_
   rw [hi,Array.getElem?_eq_none (Nat.le_refl _)]
   exact wpAny_pure h
theorem cx:Slot "set_iterator" "__next__" "set_iterator.__next__":=
 .of (owner:="set_iterator") (n:="__next__") (by rw [typeLookup_type,builtinLookup_eq_fast];kernel_rfl) (by decide +kernel) (by decide +kernel) (by decide +kernel)
  (by first | exact .inl (by decide +kernel) | exact .inr (by decide +kernel)) (by rw [isSubtype_type];kernel_rfl)
theorem fi:entryFor table "set_iterator.__next__"=some Builtin.«set_iterator.__next__»:=entryFor_of_tree (by kernel_rfl)
theorem iY:Manifest.owners.lookup (String.ofList ['r', 'o', 't', 'a', 'r', 'e', 't', 'i', '_', 't', 'e', 's'].reverse)=some Manifest.sig_set_iterator:=by kernel_rfl
theorem fF (a:Value):argsOk "set_iterator.__next__" ⟨[a],[]⟩:=by
 unfold argsOk;rw [signature?_of (id:="set_iterator.__next__") (n:=['_', '_', 't', 'x', 'e', 'n', '_', '_']) (o:=['r', 'o', 't', 'a', 'r', 'e', 't', 'i', '_', 't', 'e', 's']) (by kernel_rfl) iY];kernel_rfl
def jf (h:Heap)(it a:Addr)(slot i n ep:Nat):Prop:=∃o,h.get? it=some o/\o.cls= .type "set_iterator"/\o.data= .fields #[.int slot 0,.int i 0,.ref a,.int n 0,.int ep 0]
theorem jf.typeIs {n:Nat}(x:jf s.heap it a slot i n ep):s.TypeIs (.ref it) "set_iterator":=let ⟨o,ho,hc,_⟩:=x;⟨o,ho,hc⟩
theorem nV {Q:Option Value->Shared->Prop}(hit:jf s.heap it a slot i es.size ep)(hne:a≠it)
 (ho:s.heap.get? a=some o) (hd:o.data= .set es ep t) (hf:t.fits es.size=true) (hg:w.params.followText "set-order"=false->Good t es.size) (hat:At w t slot i) {x:Int×Value} (hx:(dZ w a ep es)[i]?=some x)
 (h:∀(h':Heap) (slot':Nat),At w t slot' (i + 1)->jf h' it a slot' (i + 1) es.size ep->Heap.ExtBut it s.heap h'->Q (some x.2) {s with heap:=h'}):wpAny (model prog w) A (pyNext (.ref it)) Q E s:=by
 obtain ⟨oi,hoi,hci,hdi⟩:=id hit
 unfold pyNext
 refine wpAny_bind (wpAny_attempt (wpAny_callSpecial?_slot (name:=Str.ofString "__next__") hit.typeIs cx (wpAny_call_entry cx hit.typeIs fi ?_ (fF _))))
 unfold Builtin.«set_iterator.__next__»
 refine wpAny_bind (wpAny_pure ?_)
 refine wpAny_bind (wpAny_fieldsOf hoi hdi ?_)
 dsimp only
 refine wpAny_bind (wpAny_setEntries_of ho hd hf ?_)
 rw [if_neg (by simp)]
 simp only [Int.toNat_natCast]
 refine wpAny_bind (next_item ho hd hf hg hat hx λslot' hat'=>?_)
 dsimp only
 refine wpAny_bind (wpAny_setField hoi hdi (by simp) ?_)
 have h1:=Heap.get?_update_self (Obj.mapFields (·.setIfInBounds 0 (rawInt slot'))) hoi (Obj.isFreed_of_fields (Obj.data_mapFields hdi _))
 have d1:=Obj.data_mapFields hdi (·.setIfInBounds 0 (rawInt slot'))
 refine wpAny_bind (wpAny_setField (s:={s with heap:=_}) h1 d1 (by simp) (wpAny_pure ⟨x.2,rfl,wpAny_pure (h _ slot' hat' ?_ ?_)⟩))
 ·refine ⟨_,Heap.get?_update_self _ h1 (Obj.isFreed_of_fields (Obj.data_mapFields d1 _)),((Obj.cls_mapFields ..).trans (Obj.cls_mapFields ..)).trans hci,?_⟩
  rw [Obj.data_mapFields d1];simp [rawInt]
 ·exact (Heap.SameBut.trans (Heap.SameBut.update ..) (Heap.SameBut.update ..)).extBut
theorem pA {Q:Option Value->Shared->Prop}(hh:A.handled=none)(hit:jf s.heap it a slot es.size es.size ep)
 (ho:s.heap.get? a=some o) (hd:o.data= .set es ep t) (hf:t.fits es.size=true) (hg:w.params.followText "set-order"=false->Good t es.size) (hat:At w t slot es.size)
 (h:∀(h':Heap),Heap.ExtBut it s.heap h'->Q none {s with heap:=h'}):wpAny (model prog w) A (pyNext (.ref it)) Q E s:=by
 obtain ⟨oi,hoi,hci,hdi⟩:=id hit
 unfold pyNext
 refine wpAny_bind (wpAny_attempt (wpAny_callSpecial?_slot (name:=Str.ofString "__next__") hit.typeIs cx (wpAny_call_entry cx hit.typeIs fi ?_ (fF _))))
 unfold Builtin.«set_iterator.__next__»
 refine wpAny_bind (wpAny_pure ?_)
 refine wpAny_bind (wpAny_fieldsOf hoi hdi ?_)
 dsimp only
 refine wpAny_bind (wpAny_setEntries_of ho hd hf ?_)
 rw [if_neg (by simp)]
 simp only [Int.toNat_natCast]
 refine wpAny_bind (next_end ho hd hf hg hat ?_)
 dsimp only
 refine wpAny_bind (wpAny_setField hoi hdi (by simp) (wpAny_bind ?_))
 simp only [newExc,newTuple]
 refine wpAny_bind (wpAny_newObj_type ?_ (by size_fits))
 refine wpAny_bind (m:=firstArgMember _ _) (wpAny_of_eq (a:=Value.none) (by first | rfl | (simp only [firstArgMember];rfl)) (wpAny_newObj_type ?_ (by size_fits)))
 simp only [raiseNew]
 refine wpAny_bind (wpAny_handled ?_)
 rw [show A.in1.handled=none from hh]
 refine wpAny_bind (wpAny_pure (wpAny_throw ?_))
 refine wpAny_bind (wpAny_isInstance (T:="StopIteration") (b:=true) ⟨_,Heap.get?_push_size _ rfl,rfl⟩ isSubtype_stop (wpAny_pure (h _ ?_)))
 exact ((Heap.SameBut.update ..).extBut.push _).push _
theorem fI:Slot "set_iterator" "__iter__" "set_iterator.__iter__":=
 .of (owner:="set_iterator") (n:="__iter__") (by rw [typeLookup_type,builtinLookup_eq_fast];kernel_rfl) (by decide +kernel) (by decide +kernel) (by decide +kernel)
  (by first | exact .inl (by decide +kernel) | exact .inr (by decide +kernel)) (by rw [isSubtype_type];kernel_rfl)
theorem je:entryFor table "set_iterator.__iter__"=some Builtin.«dict_keyiterator.__iter__»:=entryFor_alias (id':="dict_keyiterator.__iter__") (by kernel_rfl) rfl (by decide +kernel) (by kernel_rfl)
theorem jT (a:Value):argsOk "set_iterator.__iter__" ⟨[a],[]⟩:=by
 unfold argsOk;rw [signature?_of (id:="set_iterator.__iter__") (n:=['_', '_', 'r', 'e', 't', 'i', '_', '_']) (o:=['r', 'o', 't', 'a', 'r', 'e', 't', 'i', '_', 't', 'e', 's']) (by kernel_rfl) iY];kernel_rfl
theorem qI {n:Nat}{Q:Value->Shared->Prop}(hit:jf s.heap it a slot i n ep)(h:Q (.ref it) s):wpAny (model prog w) A (pyIter (.ref it)) Q E s:=by
 refine wpAny_pyIter_slot hit.typeIs fI (wpAny_call_entry fI hit.typeIs je ?_ (jT _))
 show wpAny _ _ (ret (.ref it)) _ _ s
 exact wpAny_pure ⟨_,rfl,"set_iterator",_,hit.typeIs,cx.lookup,h⟩
theorem kW:entryFor table "set.__iter__"=some Builtin.«frozenset.__iter__»:=entryFor_alias (id':="frozenset.__iter__") (by kernel_rfl) rfl (by decide +kernel) (by kernel_rfl)
theorem slot_set_iter:Slot "set" "__iter__" "set.__iter__":=
 .of (owner:="set") (n:="__iter__") (by rw [typeLookup_type,builtinLookup_eq_fast];kernel_rfl) (by decide +kernel) (by decide +kernel) (by decide +kernel)
  (by first | exact .inl (by decide +kernel) | exact .inr (by decide +kernel)) (by rw [isSubtype_type];kernel_rfl)
theorem owner_set:Manifest.owners.lookup (String.ofList ['t', 'e', 's'].reverse)=some Manifest.sig_set:=by kernel_rfl
theorem lU (a:Value):argsOk "set.__iter__" ⟨[a],[]⟩:=by
 unfold argsOk;rw [signature?_of (id:="set.__iter__") (n:=['_', '_', 'r', 'e', 't', 'i', '_', '_']) (o:=['t', 'e', 's']) (by kernel_rfl) owner_set];kernel_rfl
def vg (a:Addr)(n ep:Nat):Obj:={cls:=.type "set_iterator",data:=.fields #[.int 0 0,.int 0 0,.ref a,.int n 0,.int ep 0]}
theorem pZ {Q:Value->Shared->Prop}(ho:s.heap.get? a=some o)(hex:o.ExactSet)(hd:o.data= .set es ep t)(hf:t.fits es.size=true)
 (hg:w.params.followText "set-order"=false->Good t es.size) (h:Q (.ref s.heap.objs.size) {s with heap:=s.heap.push (vg a es.size ep)}):wpAny (model prog w) A (pyIter (.ref a)) Q E s:=by
 have hT:s.TypeIs (.ref a) "set":=⟨o,ho,hex.1⟩
 refine wpAny_pyIter_slot hT slot_set_iter (wpAny_call_entry slot_set_iter hT kW ?_ (lU _))
 unfold Builtin.«frozenset.__iter__» Builtin.Frozenset.slot0 Builtin.Frozenset.sizeOf
 refine wpAny_bind (wpAny_bind (wpAny_pure (wpAny_pure ?_)))
 refine wpAny_bind (wpAny_bind (wpAny_setEntries_of ho hd hf (wpAny_pure ?_)))
 unfold setDrawn
 refine wpAny_bind (wpAny_bind (wpAny_setState_of ho hd hf ?_))
 dsimp only
 refine wpAny_bind (fL (wpAny_pure ?_))
 have hn:(!w.params.followText "set-order"&&(!t.plain&&decide (es.size > 1)))=false:=by
  cases hb:w.params.followText "set-order" with
  | true=>rfl
  | false=>rw [(hg hb).plain];rfl
 rw [if_neg (by intro q;exact Bool.false_ne_true (hn.symm.trans q))]
 refine wpAny_bind (wpAny_pure ?_)
 refine wpAny_bind (wpAny_setEpoch_of ho hd hf ?_)
 refine wpAny_bind (wpAny_newObj_type (wpAny_pure ⟨_,rfl,"set_iterator",_,⟨_,Heap.get?_push_size _ rfl,rfl⟩,cx.lookup,h⟩))
theorem walks (hh:A.handled=none)(I a:Addr)(hne:a≠I)(hd:o.data= .set es ep t)(hf:t.fits es.size=true)
 (hg:w.params.followText "set-order"=false->Good t es.size):
 Walks prog w A I [I,a] [I] es.size (λi v=>∃x,(dZ w a ep es)[i]?=some x/\v=x.2) (λi h=>(∃slot,jf h I a slot i es.size ep/\At w t slot i)/\h.get? a=some o) where
 sub:=λb hb=>by simp at hb;simp [hb]
 frame:=λi h h' ⟨⟨slot,⟨oi,e,r⟩,ha⟩,ho⟩ hk=>⟨⟨slot,⟨oi,hk I (by simp) _ e,r⟩,ha⟩,hk a (by simp) _ ho⟩
 item:=λi s Q E hi ⟨⟨slot,hit,ha⟩,ho⟩ hQ=>by
  have hi':i < (dZ w a ep es).size:=by rw [gz];exact hi
  refine nV hit hne ho hd hf hg ha (Array.getElem?_eq_getElem hi') λh' slot' ha' hit' he=>?_
  exact hQ _ h' s.toks ⟨_,Array.getElem?_eq_getElem hi',rfl⟩ ⟨⟨slot',hit',ha'⟩,he a o hne ho⟩ λb o hb e=>he b o (λq=>hb (by simp [q])) e
 done:=λs Q E ⟨⟨slot,hit,ha⟩,ho⟩ hQ=>pA hh hit ho hd hf hg ha λh' he=>hQ h' s.toks λb o hb e=>he b o (λq=>hb (by simp [q])) e
 self:=λ_ _ _ _ ⟨⟨slot,hit,_⟩,_⟩ hQ=>qI hit hQ
end
end Fc.SetT
namespace Fc.SetT
open PySem PyProof.Rows
def eV (val:Nat->Int)(i:Nat):List Int:=((List.range i).map val).foldl eD []
theorem iu (val:Nat->Int)(i:Nat):eV val (i + 1)=eD (eV val i) (val i):=by unfold eV;rw [List.range_succ,List.map_append,List.foldl_append];rfl
theorem tf (σ:List Int)(k:Int):(eD σ k).length<=σ.length + 1:=by unfold eD;split<;>simp
theorem gC (val:Nat->Int):∀i,(eV val i).length<=i
 | 0=>Nat.le_refl _
 | i + 1=>by rw [iu];exact Nat.le_trans (tf _ _) (Nat.succ_le_succ (gC val i))
section
variable {prog:Program}{w:World}{A:Around}{R:Result->Shared->Prop}{I:Addr}{fp wr:List Addr}{G:Array GenState->Array GenState->Prop}{n:Nat}{P:Nat->Value->Prop}{St:Nat->Shared->Prop}
theorem nY (W:WalksS prog w A.in1 I fp wr G n P St)(S:Addr)(hSf:S∉fp)(val:Nat->Int)(hval:∀i v,P i v->∃t,v= .int (val i) t)(hb:n + 1<=64):
 ∀(k i:Nat) (s:Shared) (o:Obj),n - i=k->i<=n->St i s->s.heap.get? S=some o->eE prog w o (eV val i)->
  (∀(s':Shared) (o':Obj),Moved (S::wr) G s s'->s'.heap.get? S=some o'->eE prog w o' (eV val n)->R (.ok (.ret .none)) s')->
  codeAny (model prog w) A (.builtin "set.update.loop" ⟨[.ref S,.ref I],[]⟩) R s:=by
 have hSw:S∉wr:=λh=>hSf (W.sub _ h)
 have hsub:∀b∈wr,b∈S::wr:=λb hb=>List.mem_cons_of_mem _ hb
 intro k
 induction k with
 | zero=>
   intro i s o hk hi hst ho hS hR
   have hin:i=n:=by omega
   subst hin
   refine codeAny_builtin F.entry_set_update_loop ?_
   rw [Around.under_plainId F.plain_set_update_loop _];show wpAny _ A.in1 (pyNext (.ref I) >>=_) _ _ s
   refine wpAny_bind (W.done s _ _ hst λs' hm=>?_);show wpAny _ A.in1 (ret Value.none) _ _ s'
   exact wpAny_pure (hR s' o (hm.mono hsub) (hm.heap S _ hSw ho) hS)
 | succ k ih=>
   intro i s o hk hi hst ho hS hR
   have hlt:i < n:=by omega
   refine codeAny_builtin F.entry_set_update_loop ?_
   rw [Around.under_plainId F.plain_set_update_loop _];show wpAny _ A.in1 (pyNext (.ref I) >>=_) _ _ s
   refine wpAny_bind (W.item i s _ _ hlt hst λv s' hP hst' hm=>?_)
   obtain ⟨t,rfl⟩:=hval i v hP
   have ho':s'.heap.get? S=some o:=hm.heap S _ hSw ho
   show wpAny _ A.in1 (holding [Value.int (val i) t] (setAdd S (.int (val i) t)) >>=_) _ _ s'
   refine wpAny_bind (wpAny_holding ?_);unfold setAdd
   refine wpAny_holding (wpAny_bind ((intKind prog w).pyHash (k:=val i) (intKind_is _ _ _ _) ?_))
   have hl:=gC val i
   refine uE (s:={s' with toks:=s'.toks + 1}) ho' hS (by omega) λh' o' hsb ho2 hS2=>?_
   rw [← iu] at hS2
   refine wpAny_pure ⟨plainId_quiet F.plain_set_update_loop _,ih (i + 1) _ o' (by omega) hlt (W.frame _ s' _ _ hst' (Nat.le_succ _) λb hb u e=>?_) ho2 hS2 λs'' o'' hm'' ho'' hS''=>?_⟩
   ·rw [hsb.2 b (λh:b=S=>hSf (by rw [← h];exact hb))];exact e
   ·refine hR s'' o'' (Moved.trans W.gtrans ((hm.mono hsub).then_heap (Nat.le_succ _) λb u hb e=>?_) hm'') ho'' hS''
    rw [hsb.2 b (λh:b=S=>hb (by rw [h];exact List.mem_cons_self))];exact e
end
section
variable {prog:Program}{w:World}{A:Around}{E:Value->Shared->Prop}{s:Shared}
abbrev yc (w:World):Bool:= !w.params.followText "set-order"
abbrev du (w:World):Obj:={cls:=.type "set",dict:=none,data:=.set #[] 0 (.fresh 0 0 (yc w))}
theorem rL:eE prog w (du w) []:=by
 refine ⟨⟨rfl,rfl,rfl⟩, #[],0,_,rfl,λe he=>by simp at he,.rfl,by rfl,λhb=>⟨⟨rfl,by simp [SetTable.fresh,yc,hb],rfl,rfl,.nil,.inl rfl⟩,by show 0 * 5 < 7 * 3;decide⟩⟩
theorem wD (a:Value){Q₁:Value->Shared->Prop}(h:Q₁ (.ref s.heap.objs.size) {s with heap:=s.heap.push (du w)}):
 codeAny (model prog w) A (.call (.builtin "set.__new__") ⟨[.type "set",a],[]⟩) (wants Q₁ E) s:=by
 refine codeAny_of_tree ?_;show wpAny _ A.in1 (do checkBuiltinCall "set.__new__" ⟨[.type "set",a],[]⟩;again (.builtin "set.__new__" ⟨[.type "set",a],[]⟩)) _ _ s
 refine wpAny_bind (wpAny_of_eq (F.newCall_set_1 a) (wpAny_pure ⟨plainId_quiet F.plain_set_new _,codeAny_builtin F.entry_set_new ?_⟩));rw [Around.under_plainId F.plain_set_new _]
 unfold Builtin.«set.__new__» Builtin.Frozenset.newClass;have hsub:=sub_set_self;obtain ⟨hp,g,d,tk,os⟩:=s;dsimp only
 wp_walk
 refine wpAny_askSetting (wpAny_pure ?_);dsimp only;simp only [newObj]
 exact wpAny_bind (wpAny_alloc (wpAny_pure (wpAny_pure h)))
set_option maxHeartbeats 3200000 in
theorem tH {l:Addr}{items:Array Value}{ns:List Int}{Q:Value->Shared->Prop}(hh:A.handled=none)(hl:s.heap.IsList l items)(hi:PyProof.Rows.IntsAre items.toList ns)(hb:items.size + 1<=64)
 (h:∀(h':Heap) (tk:Nat) (o:Obj),h'.get? s.heap.objs.size=some o->eE prog w o (eV (λi=>ns.getD i 0) items.size)->(∀b u,b < s.heap.objs.size->s.heap.get? b=some u->h'.get? b=some u)->Q (.ref s.heap.objs.size) {s with heap:=h',toks:=tk}):
 wpAny (model prog w) A (call (.type "set") [.ref l]) Q E s:=by
 obtain ⟨c,tl,hmro⟩:=F.called_set.mro
 have hmade:=F.called_set.made
 have hsub:=F.called_set.sub
 refine wpAny_call (codeAny_of_tree ?_);show wpAny _ _ (callAny (.type "set") _) _ _ _
 refine wpAny_pure ⟨Code.quiet_builtin _ (by decide +kernel),codeAny_builtin F.entry_type_call ?_⟩;rw [Around.under_plain (weight_type_call_type "set" [.ref l] []) rfl]
 have h1:=F.called_set.notType
 have h2:=F.called_set.canCreate
 have hct:=F.typeCall_set_1 (.ref l)
 repeat (any_goals (first | assumption | wp_step))
 refine codeAny_mono (wD (.ref l) (E:=E) (Q₁:=λobj s₁=>obj= .ref s.heap.objs.size/\s₁={s with heap:=s.heap.push (du w)}) ⟨rfl,rfl⟩) λr s₁ hr=>?_
 cases r with
 | error e=>exact hr
 | ok fl=>
   cases fl with
   | ret obj=>
     obtain ⟨rfl,rfl⟩:=hr
     have hS:(s.heap.push (du w)).get? s.heap.objs.size=some (du w):=Heap.get?_push_size _ rfl
     have hT:Shared.TypeIs {s with heap:=s.heap.push (du w)} (.ref s.heap.objs.size) "set":=⟨_,hS,rfl⟩
     have hli:=F.called_set.init.lookup
     have hbi:=F.called_set.init.bind (.ref s.heap.objs.size)
     repeat (any_goals (first | assumption | wp_step))
     refine codeAny_mono (codeAny_call_builtin (R:=wants (λr s₂=>r= .none/\∃h' tk o,s₂={s with heap:=h',toks:=tk}/\h'.get? s.heap.objs.size=some o/\eE prog w o (eV (λi=>ns.getD i 0) items.size)/\
      (∀b u,b < s.heap.objs.size->s.heap.get? b=some u->h'.get? b=some u)) E) F.called_set.init.plain F.entry_set_init (check_set_init_1 hT ?_)) λr₂ s₂ hr₂=>?_
     ·obtain ⟨ol,hol,hcl,nl,hdl⟩:=hl
      obtain ⟨ocls,odict,odata,oslots⟩:=ol
      simp only at hcl hdl
      subst hcl;subst hdl
      have hol':(s.heap.push (du w)).get? l=some {cls:=.type "list",dict:=odict,data:=.seq items nl,slots:=oslots}:=Heap.get?_push_of_some _ hol
      have hsls:=F.sub_list_set
      have hslf:=F.sub_list_frozenset
      have hne:(Value.type "list"==Value.type "dict")=false:=by decide
      have hl1:(s.heap.push (du w)).IsList l items:=⟨_,hol',rfl,nl,rfl⟩
      unfold Builtin.«set.__init__» noKeywords Builtin.Frozenset.updateFrom;generalize hPI:pyIter=PI
      wp_walk
      subst hPI
      refine wpAny_pyIter_list hl1 (wpAny_bind (wpAny_runValue ?_))
      have hlS:l < s.heap.objs.size:=Heap.lt_size hol
      have hh3:A.in1.in1.in1.handled=none:=by simp [hh]
      have hsz:(s.heap.push (du w)).objs.size=s.heap.objs.size + 1:=Heap.size_push ..
      have hneI:l≠(s.heap.push (du w)).objs.size:=by rw [hsz];exact Nat.ne_of_lt (Nat.lt_succ_of_lt hlS)
      have hSf:s.heap.objs.size∉[(s.heap.push (du w)).objs.size,l]:=by simp only [List.mem_cons,List.not_mem_nil,or_false,not_or];exact ⟨by rw [hsz];exact Nat.ne_of_lt (Nat.lt_succ_self _),Nat.ne_of_gt hlS⟩
      have hval:∀(i:Nat) (v:Value),items[i]?=some v->∃t,v= .int ((λi=>ns.getD i 0) i) t:=λi v hv=>PyProof.Rows.IntsAre.int_at hi i v (by rw [Array.getElem?_toList];exact hv)
      refine nY ((Walks.list hh3 _ l hneI items).toS) s.heap.objs.size hSf (λi=>ns.getD i 0) hval hb (items.size - 0) 0 _ (du w) (by omega) (Nat.zero_le _) ⟨⟨_,Heap.get?_push_size _ rfl,rfl,rfl⟩,(hl1.push _)⟩ (Heap.get?_push_of_some _ hS) rL ?hR
      case hR=>
       intro s' o' hm ho' hS'
       obtain ⟨h',g',d',tk',os'⟩:=s'
       have eg:g'=s.gens:=hm.gens
       have ed:d'=s.drawn:=hm.drawn
       have eo:os'=s.os:=hm.os
       subst eg;subst ed;subst eo
       refine wpAny_pure (wpAny_pure ⟨rfl,h',tk',o',rfl,ho',hS',λb u hb e=>?_⟩)
       exact hm.heap b u (by simp only [List.mem_cons,List.not_mem_nil,or_false,not_or];exact ⟨Nat.ne_of_lt hb,by rw [hsz];exact Nat.ne_of_lt (Nat.lt_succ_of_lt hb)⟩) (Heap.get?_push_of_some _ (Heap.get?_push_of_some _ e))
     ·cases r₂ with
      | error e=>exact hr₂
      | ok fl₂=>
        cases fl₂ with
        | ret r=>
          obtain ⟨rfl,h',tk,o',rfl,ho',hS',hk'⟩:=hr₂
          repeat (any_goals (first | assumption | wp_step))
          exact h _ _ _ ho' hS' hk'
        | _=>exact hr₂.elim
   | _=>exact hr.elim
end
end Fc.SetT
namespace Fc.SetT
open PySem PyProof.Rows PySem.W
section
variable {prog:Program}{w:World}{A:Around}{E:Value->Shared->Prop}{s:Shared}
variable {a:Addr}
theorem uy {r:Addr}{Q:Bool->Shared->Prop}(hT:s.TypeIs (.ref r) "set")(h:Q false s):wpAny (model prog w) A (Builtin.List.listLengthHint (.ref r)) Q E s:=by
 unfold Builtin.List.listLengthHint;refine wpAny_bind (wpAny_specialOf hT PySem.F.slot_set_len.lookup ?_)
 generalize hid:("set.__len__":String)=id0
 wp_delta
 rw [show splitId id0=some ("set","__len__") from by subst hid;decide +kernel]
 subst hid
 refine wpAny_bind (wpAny_isInstance (T:="set") (b:=true) hT (by rw [isSubtype_type];kernel_rfl) ?_)
 refine wpAny_ite_split (λhab=>absurd hab (by decide)) (λ_=>wpAny_ite_split (λ_=>?_) (λhab=>absurd (by decide +kernel) hab))
 exact wpAny_bind (wpAny_typeOf hT (wpAny_pure h))
theorem src {o:Obj}{es:Array (Int×Value)}{ep:Nat}{t:SetTable}(hex:o.ExactSet)(hd:o.data= .set es ep t)(hf:t.fits es.size=true)(hg:w.params.followText "set-order"=false->Good t es.size):
 KdlSrc prog w "set" a a es.size (λi v=>∃x,(dZ w a ep es)[i]?=some x/\v=x.2) (λh=>h.get? a=some o) where
 type:=λs h=>⟨o,h,hex.1⟩
 there:=λh e=>⟨Heap.lt_size e,Heap.lt_size e⟩
 keep:=λh h' e k=>k a (.inl rfl) o e
 notList:=by decide
 notTuple:=by decide
 hint:=λA E s Q e q=>uy ⟨o,e,hex.1⟩ q
 iter:=λA s hh e=>by
  have hne:a≠s.heap.objs.size:=Nat.ne_of_lt (Heap.lt_size e)
  refine ⟨vg a es.size ep,_,λE Q q=>pZ e hex hd hf hg q,walks hh s.heap.objs.size a hne hd hf hg,⟨0,⟨_,Heap.get?_push_size _ rfl,rfl,rfl⟩,λhb=>pD (hg hb).rise⟩,Heap.get?_push_of_some _ e⟩
theorem pX {es:Array (Int×Value)}{ep:Nat}(hel:ElemsOf (intKind prog w) es.toList){acc:Array Value}(h:ItemsOf (λi v=>∃x,(dZ w a ep es)[i]?=some x/\v=x.2) acc es.size):
 IntsAre acc.toList (acc.toList.map kZ)/\(acc.toList.map kZ).Perm (nums es):=by
 have e:acc.toList=(dZ w a ep es).toList.map (·.2):=by
  apply List.ext_getElem
  ·simp [h.1,gz]
  ·intro i h1 h2
   have hi:i < acc.size:=by simpa using h1
   obtain ⟨x,hx,hv⟩:=h.2 i acc[i] (by rw [Array.getElem?_eq_getElem hi])
   have hi2:i < (dZ w a ep es).size:=by rw [gz,← h.1];exact hi
   rw [Array.getElem?_eq_getElem hi2] at hx
   cases hx
   simp only [Array.getElem_toList,List.getElem_map]
   exact hv
 have hp:=mO w a ep es
 constructor
 ·have:∀l:List (Int×Value),ElemsOf (intKind prog w) l->IntsAre (l.map (·.2)) ((l.map (·.2)).map kZ):=by
   intro l
   induction l with
   | nil=>intro _;exact .nil
   | cons c l ih=>
     intro hl
     obtain ⟨t,e⟩:=Value.isInt_shape (nF hl List.mem_cons_self)
     simp only [List.map_cons]
     rw [e]
     exact .cons _ t (ih hl.tail)
  rw [e]
  exact this _ (hel.perm hp)
 ·rw [e,List.map_map]
  exact hp.map _
theorem pT {o:Obj}{σ:List Int}{Q:Value->Shared->Prop}(hh:A.handled=none)(ho:s.heap.get? a=some o)(hS:eE prog w o σ)(h64:σ.length < 64)
 (h:∀(h1 h':Heap) (tk:Nat) (out:Array Value) (ms:List Int) (e:Nat),(∀b u,s.heap.get? b=some u->h1.get? b=some u)->(∀b u,h1.get? b=some u->h'.get? b=some u)->h'.get? h1.objs.size=some (seqObj "list" out e)->IntsAre out.toList ms->ms.Perm σ->ms.Pairwise (· <=·)->Q (.ref h1.objs.size) {s with heap:=h',toks:=tk}):
 wpAny (model prog w) A (call (.builtin "sorted") [.ref a]) Q E s:=by
 obtain ⟨hex,es,ep,t,hd,hel,hp,hf,hg⟩:=hS
 have hl:=eE.len (prog:=prog) (w:=w) (o:=o) hp
 refine Calls.call_function_entry kind_sorted plain_sorted entry_sorted (args_sorted1 _) ?_
 unfold Builtin.«sorted»;refine wpAny_bind (m:=checkCount "sorted" 1 1 _) (wpAny_pure ?_)
 refine wpAny_bind (kdu_collect (A:=A.in1) (src hex hd hf (λe=>(hg e).1)) hh ho (by rw [sizeLine_eq];omega) λh1 tk acc hk hacc=>?_)
 obtain ⟨hI,hpm⟩:=pX hel hacc
 have hal:acc.toList.length=σ.length:=by rw [Array.length_toList,hacc.1,hl]
 refine wpAny_bind (wpAny_newList ?_ (by rw [hal,sizeLine_eq];omega))
 have hoL:(h1.push (seqObj "list" acc.toList.toArray 0)).get? h1.objs.size=some (seqObj "list" acc.toList.toArray 0):=Heap.get?_push_size _ rfl
 refine wpAny_bind (wpAny_holding (wpAny_call_entry slot_list_sort ⟨_,hoL,rfl⟩ entry_list_sort (list_sort_tree (s:={s with heap:=_,toks:=tk}) hoL hI (by rw [hal];exact h64) λout ms a1 a2 a3=>⟨_,rfl,?_⟩) (args_list_sort _)))
 obtain ⟨e,he⟩:=sortedHeap_at (out:=out) hoL
 have hold:∀b u,h1.get? b=some u->(sortedHeap (h1.push (seqObj "list" acc.toList.toArray 0)) h1.objs.size acc.toList out).get? b=some u:=by
  intro b u q
  have hb:b < h1.objs.size:=Heap.lt_size q
  rw [sortedHeap_old (Nat.ne_of_lt hb) (by rw [size_push'];exact Nat.lt_succ_of_lt hb),Heap.get?_push_ne _ _ _ (Nat.ne_of_lt hb)]
  exact q
 exact wpAny_pure ⟨_,rfl,h _ _ tk out ms e hk hold he a1 (a2.trans (hpm.trans hp)) a3⟩
end
end Fc.SetT
namespace Fc
open PySem PySem.Spec L2
open PyProof.Rows hiding St
section
variable {X:Cx}{Γ Γ1:Ga}
theorem p8 {σ:List Int}{k:Int}(h:σ.Nodup):(SetT.eD σ k).Nodup:=by
 unfold SetT.eD;split
 ·exact h
 ·rename_i hn
  rw [List.nodup_append]
  refine ⟨h,by simp,λa ha b hb e=>hn ?_⟩
  rw [List.mem_singleton] at hb
  subst hb;subst e
  exact List.any_eq_true.mpr ⟨a,ha,by simp⟩
theorem sN {σ:List Int}{k z:Int}:z∈SetT.eD σ k↔z∈σ∨z=k:=by
 unfold SetT.eD;split
 ·rename_i hn
  obtain ⟨y,hy,e⟩:=List.any_eq_true.mp hn
  have e:y=k:=by simpa using e
  subst e
  constructor
  ·exact .inl
  ·rintro (h | rfl)
   ·exact h
   ·exact hy
 ·simp
theorem mW (val:Nat->Int):∀i,(SetT.eV val i).Nodup/\∀z,z∈SetT.eV val i↔∃j,j < i/\val j=z
 | 0=>⟨.nil,λz=>⟨λh=>(by cases h),λ⟨j,h,_⟩=>absurd h (Nat.not_lt_zero _)⟩⟩
 | i + 1=>by
   obtain ⟨h1,h2⟩:=mW val i
   rw [SetT.iu]
   refine ⟨p8 h1,λz=>?_⟩
   rw [sN,h2]
   constructor
   ·rintro (⟨j,hj,e⟩ | rfl)
    ·exact ⟨j,by omega,e⟩
    ·exact ⟨i,by omega,rfl⟩
   ·rintro ⟨j,hj,e⟩
    rcases Nat.lt_or_ge j i with q | q
    ·exact .inl ⟨j,q,e⟩
    ·have:j=i:=by omega
     subst this;exact .inr e.symm
theorem uq (ns:List Int):(SetT.eV (λi=>ns.getD i 0) ns.length).Nodup/\∀z,z∈SetT.eV (λi=>ns.getD i 0) ns.length↔z∈ns:=by
 obtain ⟨h1,h2⟩:=mW (λi=>ns.getD i 0) ns.length
 refine ⟨h1,λz=>(h2 z).trans ⟨?_,?_⟩⟩
 ·rintro ⟨j,hj,rfl⟩
  simp [List.getD,List.getElem?_eq_getElem hj]
 ·intro hz
  obtain ⟨j,hj,e⟩:=List.getElem_of_mem hz
  exact ⟨j,hj,by simp [List.getD,List.getElem?_eq_getElem hj,e]⟩
theorem lR {a:Expr}{p p2 pos pos2:Pos}{P:List Int->Ga->Prop}(hm:X.mg "sorted"=none)(hm2:X.mg "set"=none)(ha:lq X a Γ ab P)(h64:∀ys Γ1,P ys Γ1->ys.length < 63)(hc:X.calm=true:=by rfl)
 (hs:starEach [.Call (.Name "set" p2) [a] [] pos2] X.env=(false,eval (.Call (.Name "set" p2) [a] [] pos2) X.env)::starEach [] X.env:=by rfl) (hs2:starEach [a] X.env=(false,eval a X.env)::starEach [] X.env:=by rfl) (hg:Gl X "sorted":=by rfl) (hg2:Gl X "set":=by rfl):
 lq X (.Call (.Name "sorted" p) [.Call (.Name "set" p2) [a] [] pos2] [] pos) Γ ab (λzs Γ1=>∃ys,P ys Γ1/\zs.Nodup/\zs.Pairwise (· <=·)/\∀z,z∈zs↔z∈ys):=by
 intro σ H0 R0 H R E Q q pins s I
 refine wpAny_Call_Name_kw (eU I hg hm PyProof.Rows.boot_sorted ?_ (by decide) (by decide))
 refine PyProof.Rows.callWith_builtin1 ?_ hs rfl
 rw [hs]
 show wpAny _ _ (spliced ((false,eval (.Call (.Name "set" p2) [a] [] pos2) X.env)::backTo pos (starEach [] X.env))) _ _ s
 refine Calls.spliced_cons (wpAny_Call_Name_kw (eU I hg2 hm2 PyProof.Rows.boot_set ?_ (by decide) (by decide)))
 refine PyProof.Rows.callWith_type1 (aG (aQ (aD (X:=X) (e:=a)) bF hs2 pos2 pins s σ H (λvs H1=>∃c us ys Γ1 R1,vs=[.ref c]/\P ys Γ1/\ai X.K σ H0 R0 H1 R1 Γ1/\aj R R1/\H1 c=some (.lst us)/\PySem.Paired (ab.R X.K R1) us ys) I
  (ha σ H0 R0 H R E _ λc us ys Γ1 H1 R1 hP E1 s1 hc hR h0 off pp z=>⟨c,us,ys,Γ1,R1,rfl,hP,E1,s1,hc,pp⟩)) λus s1 ⟨vs,H1,I1,r1,c,ws,ys,Γ1,R1,e,hP,E1,sR,hcl,pp⟩=>?_) hs2 rfl
 subst e
 obtain ⟨u,rfl,rx⟩:=vals1 r1
 cases rx
 have hsq:aH X.K H1 c (ys.map V.int):=by rw [← c9 pp];exact aH.of hcl
 obtain ⟨its,r',pl,hz⟩:=I1.list hsq
 have hl:its.length=ys.length:=by rw [← r'.length,List.length_map]
 have h63:=h64 ys Γ1 hP
 have hh:=I1.ok.hd hc
 refine SetT.tH (ns:=ys) hh pl.isList (by simpa using intsAre_of r') (by simp [hl];omega) λh2 tk o ho hS hk=>?_
 rw [show its.toArray.size=ys.length by simp [hl]] at hS
 obtain ⟨hnd,hmem⟩:=uq ys
 refine Calls.spliced_nil ?_
 have I2:Inv X pins σ H1 {s1 with heap:=h2,toks:=tk}:=I1.kept λb w e=>hk b w (Heap.lt_size e) e
 refine SetT.pT hh ho hS (Nat.lt_of_le_of_lt (SetT.gC _ _) (by omega)) λh3 h4 tk2 out ms e k3 k4 he hi hp hsd=>?_
 have I3:Inv X pins σ H1 {s1 with heap:=h3,toks:=tk}:=I2.kept k3
 have hn:H1 h3.objs.size=none:=I3.hok.fresh (Nat.le_refl _)
 have hml:ms.length<=ys.length:=by rw [hp.length_eq];exact SetT.gC _ _
 have aints:∀zs:List Int,PySem.Paired (ab.R X.K R1) (zs.map V.int) zs:=λzs=>by
  induction zs with
  | nil=>exact .nil
  | cons y r ih=>exact .cons rfl ih
 have hle:ms.length<=sizeLine:=Nat.le_trans hml (Nat.le_trans (Nat.le_of_lt h63) (by decide))
 refine ⟨.ref h3.objs.size,upd H1 h3.objs.size (.lst (ms.map V.int)),I3.laid (a:=h3.objs.size) (o:=.lst (ms.map V.int)) (t':=tk2) k4 (Nat.le_refl _) ⟨by rw [List.length_map];exact hle,out.toList,e,iw hi,by rw [he]⟩,rfl,?_⟩
 exact q _ _ ms Γ1 _ R1 ⟨ys,hP,hp.nodup_iff.mpr hnd,hsd,λz=>hp.mem_iff.trans (hmem z)⟩ (E1.grow (Ext.bW E1.sub hn _)) sR ar (E1.sub.free hn) (E1.ext.h.free hn) (E1.off hn) (aints _) hle
end
section
variable {X:Cx}{Γ Γ1 Γ2 Γ3:Ga}{α β γ δ:Type}{N:Ga->Prop}{T:RT}
variable {pos:Pos}
theorem lq.q {e:Expr}{r:Rep α}{P:List α->Ga->Prop}(h:lq X e Γ r P):mQ X e Γ (ae r) P:=λσ H0 R0 H R E Q q=>
 h σ H0 R0 H R E Q λa vs ys Γ' H' R' hP E' s' ha hR h0 off pp z=>by
   have s2:aj R' (upd R' a (.lst vs)):=aj.fresh hR _
   exact q _ ys Γ' H' _ hP (E'.jJ ha hR h0 off) (s'.trans s2) ⟨a,vs,rfl,ar,Paired.map (λ_ _=>r.mono s2) pp,z⟩
theorem rF (i:Nat){x:Str}{p p1:Pos}{r:Rep α}{xs:List α}(hm:X.mg "list"=none)(hΓ:Γ[i]?=some (.mu r xs))(hz:xs.length<=sizeLine)(hN:X.N[i]?=some x:=by rfl)(hv:bT X.env.scope x:=by first | exact Or.inl rfl | exact Or.inr (Or.inl rfl) | exact Or.inr (Or.inr rfl))
 (hd:(x==("__debug__":Str))=false:=by decide) (hcd:(x==("__classdict__":Str))=false:=by decide) (hs:starEach [.Name x p1] X.env=[(false,eval (.Name x p1) X.env)]:=by rfl) (hg:Gl X "list":=by rfl):aU X (.Call (.Name "list" p) [.Name x p1] [] pos) Γ r xs Γ:=by
 intro σ H0 R0 H R E Q q
 obtain ⟨a,vs,ea,ha,hn,pp⟩:=E.ent i _ hΓ
 refine eS (dN fh hg hm PyProof.Rows.boot_list (aQ (aP hN hv hd hcd) bF hs) (by decide) (by decide) hs) ⟨.ref a,at_of ea,a,vs,rfl,.inl (aH.of ha),λl hl=>?_⟩
 exact q l vs _ R (E.grow (Ext.bW E.sub hl _)) (aj.refl _) ar (E.sub.free hl) (E.ext.h.free hl) (E.off hl) pp hz
theorem wO (i:Nat){P:Type}{B:d5 P}{e:Expr}{a b:Addr}{rr:Rep β}{Pq:β->Ga->Prop}{Pd:P->β->Prop}(he:mQ X e Γ rr Pq)(h:∀y Γ1,Pq y Γ1->∃s,Γ1[i]?=some (.ob (B.bx a b s))/\Pd s y):W1 X (.Return (some e) pos) Γ N (se X.K B a b λs'=>bG X.K rr (Pd s')):=λσ H0 R0 H R E D dn dr=>
 sS (c7 aD) (he σ H0 R0 H R E _ λv y Γ1 H1 R1 hP E1 s1 e1=>by
  obtain ⟨s,hΓ1,hd⟩:=h y Γ1 hP
  obtain ⟨ea,hB,hR⟩:=cP (E1.ent i _ hΓ1)
  exact dr v H1 R1 E1.ext ⟨s,hB,hR,y,e1,hd⟩)
theorem A5 {tg iter:Expr}{r:Rep α}{P:List α->Ga->Prop}(h:mQ X iter Γ (ae r) P):Bj X tg iter Γ r P:=by
 refine ⟨_,oI aD,λσ H0 R0 H R E Rq q=>h σ H0 R0 H R E _ λv xs Γ1 H1 R1 hP E1 s1 e1=>?_⟩
 obtain ⟨a,vs,rfl,ha,pp,z⟩:=e1
 refine ⟨a,rfl,⟨vs,aH.of (E1.sub _ _ ha)⟩,q _ H1 R1 xs Γ1 hP E1 s1 z λH' R' sR sH i=>⟨λx hx=>?_,λhi=>?_⟩⟩
 ·have hq:aH X.K H' a vs:=aH.of (sH _ _ (sR _ _ ha))
  obtain ⟨v,hv,hr⟩:=cX pp hx
  refine ⟨⟨vs,v,hq,hv⟩,λv' H2 hy=>?_⟩
  obtain ⟨rfl,hy⟩:=hy
  have:=hy vs hq
  rw [hv] at this
  cases this
  exact ⟨R',Ext.refl sH,r.mono sR hr⟩
 ·exact ⟨vs,aH.of (sH _ _ (sR _ _ ha)),by rw [pp.length];exact hi⟩
theorem qh (i:Nat){P:Type}{B:d5 P}{S:iC P}{x y:Str}{k:Nat}{es:List Expr}{p p1:Pos}{ps:List Pk}{a b:Addr}{s0 s:P}{rr:Rep β}{Pd:P->β->Prop}{G:β->Ga->Prop}(C:aw X.prog X.w X.K X.mg X.base x k (dz B S X.K))(hr:bt k X.A)(ha:HA X es Γ ps Γ1)(hΓ:Γ[i]?=some (.ob (B.bx a b s0)))(hΓ1:Γ1[i]?=some (.ob (B.bx a b s)))(hS:S X.K s ps (λs'=>bG X.K rr (Pd s')))
 (h:∀s' z,Pd s' z->G z (Γ1.set i (.ob (B.bx a b s'))))
 (hg:Gl X x:=by rfl) (hdb:(x==("__debug__":Str))=false:=by decide) (he:starEach (.Name y p1::es) X.env=(false,eval (.Name y p1) X.env)::starEach es X.env:=by rfl) (hpl:(backTo pos (starEach es X.env)).any (·.1)=false:=by rfl)
 (hN:X.N[i]?=some y:=by rfl) (hv:bT X.env.scope y:=by first | exact Or.inl rfl | exact Or.inr (Or.inl rfl) | exact Or.inr (Or.inr rfl)) (hd:(y==("__debug__":Str))=false:=by decide) (hcd:(y==("__classdict__":Str))=false:=by decide):
 mQ X (.Call (.Name x p) (.Name y p1::es) [] pos) Γ rr G:=λσ H0 R0 H R E Q q=>
 ib i C hr ha hΓ hΓ1 hS E (λH1 R1 v H' R' s' _ s1 xx E' t=>by
  obtain ⟨z,e1,hz⟩:=t
  exact q v z _ H' R' (h s' z hz) E' (s1.trans xx.r) e1) hg hdb he hpl hN hv hd hcd
end
end Fc
namespace K1
open PySem L2 Fc
open PySem.Spec hiding Row
open PyProof.Rows hiding St
open PySem.Builtin.Int (intBits)
theorem iX:∀{l m:List Int},l.Nodup->(∀x∈l,x∈m)->l.length<=m.length
 | [],_,_,_=>Nat.zero_le _
 | a::l,m,hn,hs=>by
   have ha:a∈m:=hs a List.mem_cons_self
   have ih:=iX (l:=l) (m:=m.erase a) (List.nodup_cons.mp hn).2 (λx hx=>by
    have hne:x≠a:=λe=>(List.nodup_cons.mp hn).1 (e▸hx)
    exact (List.mem_erase_of_ne hne).mpr (hs x (List.mem_cons_of_mem _ hx)))
   rw [List.length_erase_of_mem ha] at ih
   have:0 < m.length:=List.length_pos_of_mem ha
   simp only [List.length_cons]
   omega
end K1
namespace Fc.LeL
open PySem PySem.SeqAt
open AutoSeq1 (wpAny_loadPart')
open MeetsSeq MeetsSeq2 MeetsSeq3 SeqRoads2
section
variable {xs ys:List Int}
def lexLe:List Int->List Int->Bool
 | [],_=>true
 | _::_,[]=>false
 | x::xs,y::ys=>if x=y then lexLe xs ys else decide (x<=y)
def Nums (items:Array Value)(xs:List Int):Prop:=items.size=xs.length/\∀(j:Nat) (v:Value) (x:Int),items[j]?=some v->xs[j]?=some x->∃t,v= .int x t
theorem Nums.at_ {items:Array Value}(h:Nums items xs){j:Nat}(hj:j < xs.length):∃t,items[j]?=some (.int xs[j] t):=by
 have hs:j < items.size:=by rw [h.1];exact hj
 obtain ⟨t,e⟩:=h.2 j items[j] xs[j] (Array.getElem?_eq_getElem hs) (List.getElem?_eq_getElem hj)
 exact ⟨t,by rw [Array.getElem?_eq_getElem hs,e]⟩
theorem wY (l b:Addr)(items items2:Array Value)(n n2:Nat)(dd dd2:Option Addr)(sl sl2:Array (Option Value))(h1:Nums items xs)(h2:Nums items2 ys)(k:Nat):
 ∀i:Nat,xs.length - i=k->i<=xs.length->i<=ys.length->Meets (Builtin.«list.__eq__.loop» ⟨[.ref l,.ref b,rawInt i,rawInt 1],[]⟩)
  (λA R s=>s.heap.get? l=some {cls:=.type "list",dict:=dd,data:=.seq items n,slots:=sl}/\s.heap.get? b=some {cls:=.type "list",dict:=dd2,data:=.seq items2 n2,slots:=sl2}/\
   R (.ok (.ret (.bool (lexLe (xs.drop i) (ys.drop i))))) s):=by
 induction k with
 | zero=>
   intro i hk hi hi' prog w A R s h
   obtain ⟨hp,g,d,tk,os⟩:=s;obtain ⟨hl,hb,h⟩:=h
   wp_walk using wpAny_loadPart' hl,wpAny_loadPart' hb
   have e1:i=xs.length:=by omega
   have q1:items[((i:Nat):Int).toNat]?=none:=by simp;rw [h1.1];omega
   have hd:lexLe (xs.drop i) (ys.drop i)=true:=by rw [List.drop_of_length_le (by omega),lexLe]
   rw [hd] at h
   rw [q1]
   wp_walk using wpAny_loadPart' hl,wpAny_loadPart' hb
   show R (.ok (.ret (.bool (decide (items.size<=items2.size))))) _
   rw [decide_eq_true (by rw [h1.1,h2.1];omega)]
   exact h
 | succ k ih=>
   intro i hk hi hi' prog w A R s h
   obtain ⟨hp,g,d,tk,os⟩:=s;obtain ⟨hl,hb,h⟩:=h
   wp_walk using wpAny_loadPart' hl,wpAny_loadPart' hb
   have hlt:i < xs.length:=by omega
   obtain ⟨t,q1⟩:=h1.at_ hlt
   have q1':items[((i:Nat):Int).toNat]?=some (.int xs[i] t):=by simpa using q1
   by_cases hy:i < ys.length
   ·obtain ⟨u,q2⟩:=h2.at_ hy
    have q2':items2[((i:Nat):Int).toNat]?=some (.int ys[i] u):=by simpa using q2
    have hd:lexLe (xs.drop i) (ys.drop i)=if xs[i]=ys[i] then lexLe (xs.drop (i + 1)) (ys.drop (i + 1)) else decide (xs[i]<=ys[i]):=by
     rw [List.drop_eq_getElem_cons hlt,List.drop_eq_getElem_cons hy,lexLe]
    have hc:((i:Int) + 1)=((i + 1:Nat):Int):=by push_cast;rfl
    rw [hd] at h
    rw [q1',q2']
    refine wpAny_bind (wpAny_eqBool_int ?_)
    by_cases he:xs[i]=ys[i]
    ·rw [if_pos he] at h
     have hb':(xs[i]==ys[i])=true:=by simpa using he
     rw [hb']
     wp_walk
     rw [hc]
     exact ⟨plainId_quiet plain_eq_loop _,codeAny_builtin entry_eq_loop (by
      rw [Around.under_plainId plain_eq_loop _]
      exact ih (i + 1) (by omega) (by omega) (by omega) prog w A R _ ⟨hl,hb,h⟩)⟩
    ·rw [if_neg he] at h
     have hb':(xs[i]==ys[i])=false:=by simpa using he
     rw [hb']
     wp_walk using wpAny_loadPart' hl,wpAny_loadPart' hb
     rw [q1',q2']
     refine wpAny_bind (m:=richCompare .LtE _ _) (PySem.P.le_int ?_)
     exact wpAny_pure h
   ·have q2':items2[((i:Nat):Int).toNat]?=none:=Array.getElem?_eq_none (by rw [h2.1,Int.toNat_natCast];omega)
    have hd:lexLe (xs.drop i) (ys.drop i)=false:=by
     have e2:ys.drop i=[]:=List.drop_of_length_le (by omega)
     rw [List.drop_eq_getElem_cons hlt,e2,lexLe]
    rw [hd] at h
    rw [q1',q2']
    wp_walk using wpAny_loadPart' hl,wpAny_loadPart' hb
    show R (.ok (.ret (.bool (decide (items.size<=items2.size))))) _
    rw [decide_eq_false (by rw [h1.1,h2.1];omega)]
    exact h
theorem wZ (l b:Addr)(items items2:Array Value)(n n2:Nat)(dd dd2:Option Addr)(sl sl2:Array (Option Value))(h1:Nums items xs)(h2:Nums items2 ys):
 Meets (Builtin.«list.__le__» ⟨[.ref l,.ref b],[]⟩)
  (λA R s=>s.heap.get? l=some {cls:=.type "list",dict:=dd,data:=.seq items n,slots:=sl}/\s.heap.get? b=some {cls:=.type "list",dict:=dd2,data:=.seq items2 n2,slots:=sl2}/\R (.ok (.ret (.bool (lexLe xs ys)))) s):=by
 intro prog w A R s h
 obtain ⟨hp,g,d,tk,os⟩:=s;obtain ⟨hl,hb,h⟩:=h
 have f3:=AutoSeq1.sub_list_list
 wp_walk using wpAny_loadPart' hl,wpAny_loadPart' hb
 exact ⟨plainId_quiet plain_eq_loop _,codeAny_builtin entry_eq_loop (by
  rw [Around.under_plainId plain_eq_loop _]
  exact wY l b items items2 n n2 dd dd2 sl sl2 h1 h2 _ 0 rfl (Nat.zero_le _) (Nat.zero_le _) prog w A R _ ⟨hl,hb,h⟩)⟩
theorem zZ {A:Around}{s:Shared}{prog:Program}{w:World}{E:Value->Shared->Prop}{Q:Value->Shared->Prop}{l b:Addr}{items items2:Array Value}(hl:s.heap.IsList l items)(hb:s.heap.IsList b items2)(h1:Nums items xs)(h2:Nums items2 ys)(hu:A.units < cLine)(h:Q (.bool (lexLe xs ys)) s):
 wpAny (model prog w) A (compareOp .LtE (.ref l) (.ref b)) Q E s:=by
 obtain ⟨⟨cls,dd,data,sl⟩,ho,hc,n,hd⟩:=id hl
 obtain ⟨⟨cls2,dd2,data2,sl2⟩,ho2,hc2,n2,hd2⟩:=id hb
 simp only at hc hd hc2 hd2
 subst hc hd hc2 hd2
 exact richCompare_meets_room (op:=.LtE) ⟨_,ho,rfl⟩ ⟨_,ho2,rfl⟩ F.slot_list_le F.entry_list_le (F.args_list_le_2 _ _) (wZ l b items items2 n n2 dd dd2 sl sl2 h1 h2)
  ⟨ho,ho2,show Value.bool (lexLe xs ys)≠Value.notImplemented/\Q (.bool (lexLe xs ys)) s from ⟨(λx=>nomatch x),h⟩⟩ hu
end
end Fc.LeL
namespace Fc
open PySem PySem.Spec L2
open PyProof.Rows hiding St
section
variable {X:Cx}{Γ Γ1 Γ2 Γ3:Ga}{α β γ δ:Type}{N:Ga->Prop}{T:RT}
theorem vS {spos:Pos}{tg elt iter:Expr}{scope:Scope}{pos:Pos}{cl:List (Str×Addr)}{own fr:List Str}{ix:List Nat}{ra:Rep α}{rb:Rep β}{xs:List α}{P:α->List β->Prop}{Pd:List (List β)->Prop}{bf:α->Ga->Ga}
 (S:cf X scope cl own fr ix) (hit:IV X tg iter Γ ra xs Γ1)
 (hb:∀(C:Addr) (s:Shared) (H:Hp) (ex:List Addr),BG (aq X scope cl C (own++fr) s H ex) tg ra bf) (hw:∀x,Wk (bf x (bc own ix Γ1)) (bc own ix Γ1)) (hfl:∀x,lG (bf x (bc own ix Γ1)))
 (he:∀(C:Addr) (s:Shared) (H:Hp) (ex:List Addr) x,x∈xs->qX (aq X scope cl C (own++fr) s H ex) elt (bf x (bc own ix Γ1)) rb (P x) (bf x (bc own ix Γ1)))
 (h:∀yss,PySem.Paired P xs yss->Pd yss) (hc:X.calm=true:=by rfl) (hs:∀x,foldedSetIterable iter X.env x=pure x:=by intro _;rfl):
 W1 X (.Return (some (.ListComp elt [⟨tg,iter,[],0⟩] scope pos)) spos) Γ N (qB X.K rb Pd):=λσ H0 R0 H R E D dn dr=>by
 obtain ⟨wi,hi,hit⟩:=hit
 refine sS (c7 aD) (eS (iJ (g:=λv σ H Q=>∀C s Hh ex,dX (aq X scope cl C (own++fr) s Hh ex) tg v σ H Q) (tc:=λσ H Q=>∀C s Hh ex,eC (aq X scope cl C (own++fr) s Hh ex) [] σ H Q) (te:=λσ H Q=>∀C s Hh ex,cN (aq X scope cl C (own++fr) s Hh ex) elt σ H Q) hc S hi
  (λC s H ex=>⟨λpins s1 σ H v u Q I r h=>h C s _ ex pins s1 u I r,λpins s1 σ H Q I h=>h C s _ ex pins s1 I,λpins s1 σ H Q I h=>h C s _ ex pins s1 I⟩) hs) ?_)
 refine hit σ H0 R0 H R E _ λJ H1 R1 E1 s1 hz src=>jD E1 src hz hb hw hfl he λa bs yss H' R' xx ha hg hnd hbs pq hsz=>?_
 have E2:=E1.grow xx
 have E3:=E2.grow (Ext.bW E2.sub ha (.lst (bs.map .ref)))
 have inb:∀c∈bs,H' c≠none:=λc hc=>by
  obtain ⟨r,hr⟩:=hg.one hc
  rw [hr];exact Option.some_ne_none _
 have nab:a∉bs:=λz=>inb a z ha
 refine dr (.ref a) _ R' E3.ext ⟨a,bs,yss,rfl,λb hb=>?_,ar,hg.loc (λc hc=>ay λz=>nab (z▸hc)) (aj.refl _),List.nodup_cons.mpr ⟨nab,hnd⟩,h yss pq⟩
 rcases List.mem_cons.mp hb with rfl | hb
 ·exact ⟨E2.ext.h.free ha,E2.sub.free ha⟩
 ·exact ⟨E1.ext.h.free (hbs b hb).1,(hbs b hb).2⟩
theorem vO {S:bN}{x:Str}{k:Nat}{e:Expr}{es:List Expr}{p p2 p3 pos spos:Pos}{j:Nat}{ps:List Pk}{r:Rep α}{PL:List (List α)->Prop}{Pd:List α->Prop}(C:aw X.prog X.w X.K X.mg X.base x k (aC S X.K))(hr:bt k X.A)(ha:HA X (e::es) Γ ps Γ1)(hS:S X.K ps (qB X.K r PL))(h:∀L,PL L->∃y,L[0]?=some y/\y.length<=sizeLine/\Pd y)
 (hg:Gl X x:=by rfl) (hdb:(x==("__debug__":Str))=false:=by decide) (he:starEach (e::es) X.env=(false,eval e X.env)::starEach es X.env:=by rfl) (hpl:(backTo p2 (starEach es X.env)).any (·.1)=false:=by rfl):
 W1 X (.Return (some (.Subscript (.Call (.Name x p) (e::es) [] p2) (.Constant (.int 0) j p3) spos)) pos) Γ N (hU X.K r Pd):=λσ H0 R0 H R E D dn dr=>by
 refine sS (c7 aD) (eS (eZ dM aD dq (λ_ _=>rfl)) (cH C hr ha hS E (λH1 R1 v H' R' E1 s1 xx t=>?_) hg hdb he hpl))
 obtain ⟨a,as,xss,rfl,hn,h1,hin,nd,hP⟩:=t
 obtain ⟨y,hy,hz,hP⟩:=h xss hP
 obtain ⟨b,ws,hb,hw,pp⟩:=hin.at_ hy
 have l0:0 < as.length:=(List.getElem?_eq_some_iff.mp hb).1
 have hb':=hn b (List.mem_cons_of_mem _ (List.mem_of_getElem? hb))
 exact ⟨a,_,0,.ref b,rfl,rfl,aH.of h1,by rw [dy (by decide) (by simpa using l0)];simp [hb],dr (.ref b) H' R' (E1.grow xx).ext ⟨b,ws,y,rfl,E1.ext.h.free hb'.1,hw,hb'.2,pp,hz,hP⟩⟩
theorem oS {us:List Value}{vs:List V}{xs:List Int}{K:PySem.W.Frag}{R:Hp}(hv:Vals vs us)(pp:PySem.Paired (ab.R K R) vs xs):LeL.Nums us.toArray xs:=by
 refine ⟨by rw [List.size_toArray,← hv.length,pp.length],λj v x h1 h2=>?_⟩
 obtain ⟨w,hw,hr⟩:=cX pp h2
 obtain ⟨u,hu,ru⟩:=hv.get hw
 have h1:us[j]?=some v:=by simpa using h1
 rw [h1] at hu
 cases hu
 cases hr
 exact ru
theorem zR {xs ys:List Int}(hu:X.A.units < cLine):eN X .LtE (ae ab) (ae ab) xs ys (LeL.lexLe xs ys):=
 ⟨λv u H Q=>∃R,aj R H/\(ae ab).R X.K R v xs/\(ae ab).R X.K R u ys/\Q (.bl (LeL.lexLe xs ys)) H,λpins s σ H x y v u Q I rx ry ⟨R,sub,h1,h2,q⟩=>by
  obtain ⟨a,vs,rfl,ha,px,_⟩:=h1
  obtain ⟨b,ws,rfl,hb,py,_⟩:=h2
  cases rx
  cases ry
  obtain ⟨us,hv,pl,_⟩:=I.list (aH.of (sub _ _ ha))
  obtain ⟨us',hw,pl',_⟩:=I.list (aH.of (sub _ _ hb))
  exact LeL.zZ pl.isList pl'.isList (oS hv px) (oS hw py) hu ⟨.bl _,H,I,rfl,q⟩,λR H v u Q s h1 h2 q=>⟨R,s,h1,h2,q⟩⟩
end
end Fc
namespace K1
open PySem L2 Fc
open PySem.Spec hiding Row
open PyProof.Rows hiding St
open PySem.Builtin.Int (intBits)
theorem i8 (v:aN)(p:Int)(g:Int->Int):∀(m:Nat) (q l:Int),(cj v p g m q l).length<=m
 | 0,_,_=>by simp [cj]
 | m + 1,q,l=>by
   unfold cj
   by_cases e:q=1
   ·rw [if_pos e];simp
   ·rw [if_neg e,List.length_cons]
    have:=i8 v p g m (ba v (most ((fromF v p q).filter (bS v p g l)))) (l - bb v p g (most ((fromF v p q).filter (bS v p g l))))
    omega
theorem md {v:aN}(hv:bg v){p:Int}(p0:0<=p)(hR:aX v.2 p.toNat){q k:Int}(hk:k∈fromF v p q):cE (fwd v.2 p) (ba v k) < cE (fwd v.2 p) q/\0<=ba v k/\ba v k < v.1.getD p.toNat 0:=by
 obtain ⟨k0,k1,kp,kq,kr⟩:=bK hk
 have R:=hv.dk kr
 have e0:=R.e0;have en:=R.en
 rw [kp] at en
 have:=d8 hv p0 hR kr kp
 rw [kq] at this
 exact ⟨this,e0,en⟩
theorem oV {v:aN}(hv:bg v){p:Int}(p0:0<=p)(hR:aX v.2 p.toNat){g:Int->Int}(hE:cD v p g):∀(m:Nat) (q left:Int),cE (fwd v.2 p) q < m->0<=q->q < v.1.getD p.toNat 0->0<=left->left < g q->((cj v p g m q left).map (bb v p g)).sum=left
 | 0,q,left,h,_,_,_,_=>by omega
 | m + 1,q,left,h,q0,q1,l0,l1=>by
   unfold cj
   by_cases e:q=1
   ·rw [if_pos e]
    rw [e,hE.one] at l1
    show (0:Int)=left;omega
   ·obtain ⟨k,hk,w1,w2,hkf,hmax⟩:=ft hv p0 hR hE q0 q1 e l0 l1
    rw [if_neg e,ee hkf hmax,List.map_cons,List.sum_cons]
    obtain ⟨d1,d2,d3⟩:=md hv p0 hR hk
    rw [oV hv p0 hR hE m (ba v k) (left - bb v p g k) (by omega) d2 d3 (by omega) w2]
    omega
theorem oK {v:aN}(hv:bg v){p:Int}(p0:0<=p)(hR:aX v.2 p.toNat){g:Int->Int}(hE:cD v p g):∀(m:Nat) (q l l':Int),cE (fwd v.2 p) q < m->0<=q->q < v.1.getD p.toNat 0->0<=l->l < l'->l' < g q->LeL.lexLe (cj v p g m q l') (cj v p g m q l)=false
 | 0,q,l,l',h,_,_,_,_,_=>by omega
 | m + 1,q,l,l',h,q0,q1,l0,ll,l1=>by
   by_cases e:q=1
   ·rw [e,hE.one] at l1;omega
   ·obtain ⟨k,hk,w1,w2,hkf,hmax⟩:=ft hv p0 hR hE q0 q1 e l0 (by omega)
    obtain ⟨k',hk',w1',w2',hkf',hmax'⟩:=ft hv p0 hR hE q0 q1 e (by omega:0<=l') l1
    unfold cj
    rw [if_neg e,if_neg e,ee hkf hmax,ee hkf' hmax',LeL.lexLe]
    have hkk:k<=k':=hmax' k (by
     obtain ⟨a1,a2⟩:=List.mem_filter.mp hkf
     refine List.mem_filter.mpr ⟨a1,?_⟩
     unfold bS at a2 ⊢
     have a2:=of_decide_eq_true a2
     exact decide_eq_true (by omega))
    by_cases z:k'=k
    ·rw [if_pos z]
     subst z
     obtain ⟨d1,d2,d3⟩:=md hv p0 hR hk
     exact oK hv p0 hR hE m _ _ _ (by omega) d2 d3 (by omega) (by omega) w2'
    ·rw [if_neg z];exact decide_eq_false (by omega)
section
variable {P:Program}{w:World}{K:PySem.W.Frag}{mg:Str->Option Value}{base:Heap}{f:Addr}{fd:FuncData}
abbrev mh:Stmt:=top pQ
abbrev yf:List Str:=["web","part","numbers","known","count","leaving"]
theorem xE:ax yf ["web","part","numbers"] (ag mh):=⟨rfl,rfl,rfl,by decide +kernel,rfl,by decide +kernel,by decide +kernel⟩
def xy:bN:=λK ps T=>∃(v:aN) (p:Int) (ns:List Int),ps=[⟨bZ,v⟩,⟨ab,p⟩,⟨ae ab,ns⟩]/\bg v/\0<=p/\p < (v.1.length:Int)/\aX v.2 p.toNat/\ns.length<=1000/\oY v p ns=true/\T=qB K ab λL=>∃g,cD v p g/\L=ns.map (cj v p g 17 0)
theorem jX {α β:Type}{f:α->β}:∀{xs:List α} {ys:List β},PySem.Paired (λx y=>y=f x) xs ys->ys=xs.map f
 | _,_,.nil=>rfl
 | _,_,.cons h t=>by rw [List.map_cons,← jX t,h]
theorem yd (M:bP mg)(CI:aw P w K mg base "is_whole" 1 (aC qv K))(CT:aw P w K mg base "worths_in" 3 (aC qJ K))(CN:aw P w K mg base "ways_on" 2 (aC nH K))(CL:aw P w K mg base "rows_leaving" 1 (aC (uP true) K))(CB:aw P w K mg base "way_by" 1 (aC By K))(F:bz K "ways_of" "ways_of" mh f fd)(hm:mg "ways_of"=some (.ref f))(hb:Binds K fd ["web","part","numbers"] []):aw P w K mg base "ways_of" 11 (aC xy K):=by
 have nd:=xE.nd
 have nd1:List.Nodup [("number":Str),"count"]:=by decide
 have nd2:List.Nodup [("number":Str),"known","leaving","web"]:=by decide
 have CI:=CI.mono (show 1<=10 by decide)
 have CT:=CT.mono (show 3<=10 by decide)
 have CN:=CN.mono (show 2<=10 by decide)
 have CL:=CL.mono (show 1<=10 by decide)
 have CB:=CB.mono (show 1<=10 by decide)
 obtain ⟨t2,hB⟩:=M.begin_
 refine bD F xE hm hb (λqs T ⟨_,_,_,e,_⟩=>by rw [e];rfl) (λcdv A outer s H E qs T hr hS=>?_)
 obtain ⟨v,p,ns,rfl,hv,p0,p1,hR,hl,hc,rfl⟩:=hS
 have hu:(A.deeper (envOfC "ways_of" (ag mh) s.heap.objs.size f cdv)).units + 1 < cLine:=Nat.lt_of_le_of_lt (Nat.add_le_add_left (by decide:1<=64) _) hr.units
 have rl:=hv.rl
 have hs:=hv.sz (v.1.getD p.toNat 0) (by rw [List.getD_eq_getElem?_getD,List.getElem?_eq_getElem (by omega)];exact List.getElem_mem _)
 change WS _ _ [.im (az (ae ab) (ae aB)) v,.im ab p,.im (ae ab) ns,.no,.no,.no] _ _
 refine ah (lK 3 CT hr (af (aa 0 rfl) (af (aa 1 rfl) ao)) ⟨v,p,rfl,hv,p0,p1,hR,rfl⟩ ?_)
 rintro ws ⟨g,hE,rfl⟩ hz
 refine WS.freeze 3 rfl hz ?_
 refine ah (aO 4 (y:=onG v p 0) (gJ hu CN hr (af (aa 0 rfl) (af (aa 1 rfl) ao)) ⟨v,p,rfl,hv,p0,p1,hR,rfl⟩ (ck hB) (λF ⟨h1,h2⟩=>cV.get hv p0 p1 hR h1 h2 (by omega) (by omega))) ?_)
 refine ah (bQ (bI (bh (EV.cast (y':=oY v p ns) (dh M.all (aU.im (aT (own:=["number"]) (fr:=["count"]) (ix:=[4]) (ra:=ab) (rb:=aF) (p:=λ_=>true) (f:=λn=>true&&(decide (0<=n)&&decide (n < onG v p 0))) (aM (so:=ag mh) (N0:=yf) rfl rfl (λx h=>aE h) (by decide +kernel)) (aK (aa 2 rfl))
  (λC s H ex=>aA 0) (λx=>⟨.inr rfl,.inl rfl,trivial⟩) (λC s H ex x hx=>bA) (λC s H ex x hx h=>dC (aW CI hr (af (aa 0 rfl) ao) ⟨x,rfl,rfl⟩) (λ_=>dA (fD dU dY au (aa 0 rfl) (aa 1 rfl))))))) rfl))) (λh=>by rw [hc] at h;exact absurd h (by decide)) (λ_=>a9 ?_))
 refine ah (aO 5 (aU.im (fk CL hr (af (aa 0 rfl) (af (aa 1 rfl) ao)) ⟨v,p,rfl,hv,p0,p1,rfl⟩)) ?_)
 have ok:∀x∈ns,0<=x/\x < g 0:=λx hx=>by
  unfold oY at hc
  have:=all_map.mp hc x hx
  have:=Bool.and_eq_true_iff.mp (by simpa using this:(decide (0<=x)&&decide (x < onG v p 0))=true)
  have e:=hE.uniq hv p0 hR (f6 hv p0 p1 hR) 0 (by decide) (by omega)
  rw [e]
  exact ⟨of_decide_eq_true this.1,of_decide_eq_true this.2⟩
 exact ak (vS (own:=["number"]) (fr:=["known","leaving","web"]) (ix:=[3,5,0]) (ra:=ab) (rb:=ab) (P:=λx ys=>ys=cj v p g 17 0 x) (aM (so:=ag mh) (N0:=yf) rfl rfl (λx h=>aE h) (by decide +kernel)) (aK (aa 2 rfl))
  (λC s H ex=>aA 0) (λx=>⟨.inr rfl,.inl rfl,.inl rfl,.inl rfl,trivial⟩) (λx=>⟨trivial,trivial,trivial,trivial,trivial⟩) (λC s H ex x hx=>tP CB hr (af (aa 3 rfl) (af (aa 1 rfl) (af (aa 2 rfl) (af (aa 0 rfl) ao)))) ⟨v,p,g,x,rfl,hv,p0,p1,hR,hE,(ok x hx).1,(ok x hx).2,rfl⟩) (λyss pp=>⟨g,hE,jX pp⟩))
def zl:bN:=λK ps T=>∃(v:aN) (p n:Int),ps=[⟨bZ,v⟩,⟨ab,p⟩,⟨ab,n⟩]/\bg v/\0<=p/\p < (v.1.length:Int)/\aX v.2 p.toNat/\0<=n/\n < onG v p 0/\T=hU K ab (· =cj v p (onG v p) 17 0 n)
theorem yq (CO:aw P w K mg base "need_loose" 9 (aC vh K))(CS:aw P w K mg base "ways_of" 11 (aC xy K))(F:bz K "way_of" "way_of" vi f fd)(hm:mg "way_of"=some (.ref f))(hb:Binds K fd ["web","part","number"] []):aw P w K mg base "way_of" 12 (aC zl K):=by
 have nd:=yb.nd
 have CO:=CO.mono (show 9<=11 by decide)
 refine bD F yb hm hb (λqs T ⟨_,_,_,e,_⟩=>by rw [e];rfl) (λcdv A outer s H E qs T hr hS=>?_)
 obtain ⟨v,p,n,rfl,hv,p0,p1,hR,n0,n1,rfl⟩:=hS
 change WS _ _ [.im bZ v,.im ab p,.im ab n] _ _
 refine ah (gh CO hr (af (aa 0 rfl) (af (aa 1 rfl) ao)) ⟨v,p,rfl,hv,p0,p1,hR,rfl⟩ ?_)
 refine ak (vO CS hr (af (aa 0 rfl) (af (aa 1 rfl) (af (aU.im (aY (r:=ab) (aJ (aa 2 rfl) bu) (by show 1<=sizeLine;decide))) ao))) ⟨v,p,[n],rfl,hv,p0,p1,hR,by simp,by unfold oY;simp [n0,n1],rfl⟩ ?_)
 rintro L ⟨g,hE,rfl⟩
 exact ⟨_,rfl,aV (by have:=i8 v p g 17 0 n;omega),tG hv p0 p1 hR hE (f6 hv p0 p1 hR) 17 0 n⟩
abbrev qr:Stmt:=top jw
abbrev uS:List Str:=["_law_purse_here","_law_many"]
theorem y6:ax uS uS (ag qr):=⟨rfl,rfl,rfl,by decide +kernel,rfl,by decide +kernel,by decide +kernel⟩
def Bm:iC Pu:=λK s ps T=>∃(n m:Int),cu n s/\0<=n/\n<=900000/\ps=[⟨ab,m⟩]/\1<=m/\m < 1000000000000000000/\T=λs'=>bG K (ae ab) λxs=>cu (n + 20) s'/\xs.Nodup/\(∀x∈xs,0<=x/\x < m)/\xs.length<=40/\xs.Pairwise (· < ·)
theorem wJ {xs:List Int}(h1:xs.Nodup)(h2:xs.Pairwise (· <=·)):xs.Pairwise (· < ·):=by
 refine List.Pairwise.imp₂ (λa b hn hl=>?_) h1 h2
 have hn:a≠b:=hn
 omega
theorem An (M:bP mg)(CD:aw P w K mg base "_law_draw" 1 (dz aR lO K))(F:bz K "_law_numbers" "_law_numbers" qr f fd)(hm:mg "_law_numbers"=some (.ref f))(hb:Binds K fd uS []):aw P w K mg base "_law_numbers" 2 (dz aR Bm K):=by
 have nd:=y6.nd
 have nd1:List.Nodup [("_law_k":Str),"_law_many","_law_purse_here"]:=by decide
 refine iy F y6 hm hb (λxs qs T ⟨_,_,_,_,_,e,_⟩=>by rw [e];rfl) (λcdv A outer s H E a b st qs T hr hS=>?_)
 obtain ⟨n,m,hP,n0,n1,rfl,m0,m1,rfl⟩:=hS
 change WS _ _ [.ob (aR.bx a b st),.im ab m] _ _
 refine ah (bQ (bj dU (aa 1 rfl) au) (λh=>?_) (λh=>a9 ?_))
 ·have h:m<=40:=of_decide_eq_true h
  refine ak (fX 0 (B:=aR) (aU.im (gW M.list M.range (aa 1 rfl) ⟨by omega,by omega⟩)) rfl ⟨hP.mono (by omega),eO _,λx hx=>?_,?_,jd _⟩)
  ·have:=bo.mp hx;omega
  ·rw [av];omega
 ·have h:¬m<=40:=of_decide_eq_false h
  refine ak (wO 0 (B:=aR) (lq.q (lR M.sorted M.set (wk (aU.im (aY (r:=ab) (aJ au (aJ (c6 (aa 1 rfl) au) bu)) (by show 2<=sizeLine;decide)))
   (qt 0 2 (own:=["_law_k"]) (fr:=["_law_many","_law_purse_here"]) (ix:=[1,0]) (ra:=ab) (rb:=ab) (B:=aR) (λs=>[.no,.im ab m,.ob (aR.bx a b s)]) (λi s=>cu (n + (i:Int)) s) (P:=λ(_:Int) y=>0<=y/\y < m) (aM (so:=ag qr) (N0:=uS) rfl rfl (λx h=>aE h) (by decide +kernel)) (cW M.range au ⟨by decide,by decide⟩) rfl (λj k hj hk=>by
    have one:∀m:Nat,([1,0]:List Nat)[m]?=some 0->m=1:=λm hm=>by
     match m,hm with
     | 0,hm=>simp at hm
     | 1,_=>rfl
     | m + 2,hm=>simp at hm
    rw [one j hj,one k hk]) rfl (λ_=>rfl) (hP.mono (by omega)) (λC s H ex=>aA 0) (λx s=>⟨.inr rfl,.inl rfl,.inl rfl,trivial⟩) (λC s H ex i x st' hx hI=>?dr))
   (λys Γ2 hp=>by rw [← hp.1.length,av];show 2 + 20<=sizeLine;decide)) (λys Γ1 hp=>?len))) ?_)
  case dr=>
   have il:=(List.getElem?_eq_some_iff.mp hx).1
   rw [av] at il
   have il:i < 20:=il
   obtain ⟨y,st3,y0,y1,hP3,hS3⟩:=cC hI (by omega) (b:=m) (by omega) (by omega)
   exact EV.evq (bJ 2 CD hr (af (aa 1 rfl) ao) rfl rfl (hS3 _)) ⟨st3,rfl,⟨y0,y1⟩,hP3.mono (by omega)⟩
  case len=>
   obtain ⟨zs,rfl,hpd,_⟩:=hp
   rw [List.length_append,← hpd.length,av];show 2 + 20 < 63;decide
  rintro zs Γ1 ⟨ys,⟨us,rfl,hpd,st3,hI3,rfl⟩,hnd,hsd,hmem⟩
  have ul:us.length=20:=by rw [← hpd.length,av];rfl
  have ub:∀u∈us,0<=u/\u < m:=λu hu=>by
   obtain ⟨j,hj⟩:=List.mem_iff_getElem?.mp hu
   obtain ⟨x,hx,hp⟩:=cX hpd hj
   exact hp
  refine ⟨st3,rfl,hI3.mono (by rw [av];show n + 20<=n + 20;omega),hnd,λx hx=>?_,?_,wJ hnd hsd⟩
  ·rcases List.mem_append.mp ((hmem x).mp hx) with z | z
   ·rcases List.mem_cons.mp z with rfl | z
    ·omega
    ·rw [List.mem_singleton.mp z];omega
   ·exact ub x z
  ·have:=iX hnd λx hx=>(hmem x).mp hx
   rw [List.length_append,ul] at this
   have:zs.length<=2 + 20:=this
   omega
end
section
variable {P:Program}{w:World}{K:PySem.W.Frag}{mg:Str->Option Value}{base:Heap}{f:Addr}{fd:FuncData}
abbrev g5:Stmt:=top yF
abbrev ya:List Str:=["_law_script","_law_purse_here","_law_web_here","_law_part_here","_law_handed","_law_worth","_law_many","_law_last","_law_number","_law_way","_law_told"]
theorem ze:ax ya ["_law_script"] (ag g5):=⟨rfl,rfl,rfl,by decide +kernel,rfl,by decide +kernel,by decide +kernel⟩
def m5:bN:=λK ps T=>∃ns:List Int,ps=[⟨fO,ns⟩]/\ns.length<=63/\(∀n∈ns,intBits n<=2 ^ 20)/\T=bG K aF (· =true)
theorem AX (K:PySem.W.Frag)(H H':Hp)(v:V)(y:Int)(h:ab.R K H v y):ab.R K H' v y:=h
theorem zV (M:bP mg)(CU:aw P w K mg base "_law_purse" 1 (aC BA K))(CD:aw P w K mg base "_law_draw" 1 (dz aR lO K))(CW:aw P w K mg base "_law_web" 4 (dz aR Bs K))(CC:aw P w K mg base "_law_copy" 1 (aC Bh K))(CO:aw P w K mg base "_law_worths" 3 (aC A9 K))(CON:aw P w K mg base "_law_on" 2 (aC nH K))(CX:aw P w K mg base "_law_whole" 1 (aC BD K))(CY:aw P w K mg base "ways" 10 (aC yN K))(CM:aw P w K mg base "_law_numbers" 2 (dz aR Bm K))(CV:aw P w K mg base "way_of" 12 (aC zl K))(CG:aw P w K mg base "_law_goes" 2 (aC Br K))(CN:aw P w K mg base "number_of" 11 (aC Bv K))(F:bz K "law" "law" g5 f fd):dG P w K mg base d6 13 f fd ["_law_script"] (aC m5 K):=by
 have nd:=ze.nd
 have nd1:List.Nodup [("_law_k":Str)]:=by decide
 have nd2:List.Nodup [("_law_k":Str),"_law_worth"]:=by decide
 have CU:=CU.mono (show 1<=12 by decide)
 have CD:=CD.mono (show 1<=12 by decide)
 have CW:=CW.mono (show 4<=12 by decide)
 have CC:=CC.mono (show 1<=12 by decide)
 have CO:=CO.mono (show 3<=12 by decide)
 have CON:=CON.mono (show 2<=12 by decide)
 have CX:=CX.mono (show 1<=12 by decide)
 have CY:=CY.mono (show 10<=12 by decide)
 have CM:=CM.mono (show 2<=12 by decide)
 have CG:=CG.mono (show 2<=12 by decide)
 have CN:=CN.mono (show 11<=12 by decide)
 refine zC F ze (λqs T ⟨_,e,_⟩=>by rw [e];rfl) (λcdv A outer s H E qs T hr hS=>?_)
 obtain ⟨ns,rfl,hlen,hbits,rfl⟩:=hS
 have hu:∀n,n<=8->(A.deeper (envOfC "law" (ag g5) s.heap.objs.size f cdv)).units + n < cLine:=λn hn=>Nat.lt_of_le_of_lt (Nat.add_le_add_left (by omega:n<=64) _) hr.units
 have hu0:=hu 0 (by decide)
 have hu1:=hu 1 (by decide)
 have hu2:=hu 2 (by decide)
 have hu3:=hu 3 (by decide)
 change WS _ _ [.im fO ns,.no,.no,.no,.no,.no,.no,.no,.no,.no,.no] _ _
 refine ah (sW 1 CU hr (af (aa 0 rfl) ao) ⟨ns,rfl,hlen,hbits,rfl⟩ ?_)
 intro a b st hP
 refine ah (mv 1 CW hr (af c8 ao) rfl rfl ⟨_,true,hP,by decide,rfl,rfl⟩ (aA 2) ?_)
 rintro st1 v ⟨hP1,hvl⟩
 have hv:=hvl.g
 have v30:=hvl.le
 have pl:=hv.pl
 have rl:=hv.rl
 obtain ⟨p,st2,p0,p1,hP2,hS2⟩:=cC hP1 (by decide) (b:=(v.1.length:Int)) (by omega) (by omega)
 refine ah (aO 3 (bJ 1 CD hr (af (cR M.len (c5 (aa 2 rfl))) ao) rfl rfl (hS2 _)) ?_)
 have hR:aX v.2 p.toNat:=hvl.up rfl p.toNat (by omega)
 have hs:=hv.sz (v.1.getD p.toNat 0) (by rw [List.getD_eq_getElem?_getD,List.getElem?_eq_getElem (by omega)];exact List.getElem_mem _)
 have hE:=f6 hv p0 p1 hR
 obtain ⟨m0,m1⟩:=vC hv v30 p0 p1 hR hE
 refine ah (aO 4 (aW CC hr (af (aa 2 rfl) ao) ⟨v,rfl,rfl⟩) ?_)
 refine ah (gq 5 CO hr (af (aa 2 rfl) (af (aa 3 rfl) ao)) ⟨v,p,rfl,hv,p0,p1,hR,rfl⟩ ?_)
 rintro ws ⟨g,hE',rfl⟩
 rw [gU hv p0 p1 hR hE' hE]
 have wl:(bH v p (onG v p)).length=v.2.length:=by unfold bH;rw [List.length_map,av]
 refine ah (aO 6 (y:=onG v p 0) (gJ hu1 CON hr (af (aa 2 rfl) (af (aa 3 rfl) ao)) ⟨v,p,rfl,hv,p0,p1,hR,rfl⟩ au (λF ⟨h1,h2⟩=>cV.get hv p0 p1 hR h1 h2 (by omega) (by omega))) ?_)
 refine ah (bQ (bj k6 (aW CY hr (af (aa 4 rfl) (af (aa 3 rfl) ao)) ⟨v,p,rfl,hv,p0,p1,hR,rfl⟩) (aa 6 rfl)) (λh=>by simp at h) (λ_=>a9 ?_))
 refine ah (aO 7 (r:=ae ab) (y:=[]) (aU.im (aY bu (by decide))) ?_)
 refine ah (yy (λzs j Γ=>∃st last v8 v9 v10,Γ=[.im fO ns,.ob (aR.bx a b st),.im (az (ae ab) (ae aB)) v,.im ab p,.im (az (ae ab) (ae aB)) v,.im (ae ab) (bH v p (onG v p)),.im ab (onG v p 0),.im (ae ab) last,v8,v9,v10]/\(∀z,zs[j]?=some z->LeL.lexLe (cj v p (onG v p) 17 0 z) last=false)/\zs.Pairwise (· < ·)/\∀z∈zs,0<=z/\z < onG v p 0)
  (A5 (qh 1 CM hr (af (aa 6 rfl) ao) rfl rfl ⟨2001,_,hP2.mono (by decide),by decide,by decide,rfl,m0,m1,rfl⟩ (G:=λzs Γ'=>∃st,Γ'=[.im fO ns,.ob (aR.bx a b st),.im (az (ae ab) (ae aB)) v,.im ab p,.im (az (ae ab) (ae aB)) v,.im (ae ab) (bH v p (onG v p)),.im ab (onG v p 0),.im (ae ab) [],.no,.no,.no]/\zs.Pairwise (· < ·)/\(∀z∈zs,0<=z/\z < onG v p 0)) (λs' z hz=>⟨s',rfl,hz.2.2.2.2,hz.2.2.1⟩)))
  (aA 8) ?_ ?_ ?_)
 ·rintro zs Γ1 ⟨st4,rfl,hrs,hz⟩
  refine ⟨st4,[],_,_,_,rfl,λz _=>?_,hrs,hz⟩
  unfold cj
  rw [if_neg (by decide)]
  rfl
 ·rintro zs _ j z Γ hz ⟨st4,last,v8,v9,v10,rfl,hlx,hrs,hzs⟩
  have hz1:=hlx z hz
  obtain ⟨z0,z1⟩:=hzs z (List.mem_of_getElem? hz)
  have c17:cE (fwd v.2 p) 0 < 17:=by have:=rf (fwd v.2 p) 0;omega
  have hthr:=oJ hv p0 hR hE 17 0 z c17 (Int.le_refl 0) (by omega) z0 z1
  have hsum:=oV hv p0 hR hE 17 0 z c17 (Int.le_refl 0) (by omega) z0 z1
  have hwl:=i8 v p (onG v p) 17 0 z
  have xin:=gm hthr
  have es:(((cj v p (onG v p) 17 0 z).filter λ_=>true).map λk=>(bH v p (onG v p)).getD k.toNat 0).sum=z:=by
   rw [List.filter_eq_self.mpr (by simp)]
   rw [List.map_congr_left λk hk=>dJ (xin k hk).1 (xin k hk).2]
   exact hsum
  have hnx:∀y,zs[j + 1]?=some y->LeL.lexLe (cj v p (onG v p) 17 0 y) (cj v p (onG v p) 17 0 z)=false:=λy hy=>by
   obtain ⟨y0,y1⟩:=hzs y (List.mem_of_getElem? hy)
   have a1:=List.getElem?_eq_some_iff.mp hz
   have a2:=List.getElem?_eq_some_iff.mp hy
   have hlt:z < y:=by
    have:=List.pairwise_iff_getElem.mp hrs j (j + 1) a1.1 a2.1 (by omega)
    rw [a1.2,a2.2] at this;exact this
   exact oK hv p0 hR hE 17 0 z y c17 (Int.le_refl 0) (by omega) z0 hlt y1
  generalize hway:cj v p (onG v p) 17 0 z=way at hz1 hthr hsum hwl xin es hnx
  refine ah (cS 9 (r:=ab) (fk CV hr (af (aa 4 rfl) (af (aa 3 rfl) (af (aa 8 rfl) ao))) ⟨v,p,z,rfl,hv,p0,p1,hR,z0,z1,by rw [hway]⟩) ?_)
  refine ah (bQ (TV.frz (iA (i:=9) rfl (aV (by omega))) (TW.tv (dD (bI (bh (cF M.isinstance M.list PyProof.Rows.boot_list (aa 9 rfl) ty_list (b:=true)))) λ_=>dD (bI (bh (dh M.all (aU.im (aT (own:=["_law_k"]) (fr:=[]) (ix:=[]) (ra:=ab) (rb:=aF) (p:=λ_=>true) (f:=λ_=>true) (aM (so:=ag g5) (N0:=ya) rfl rfl (λx h=>aE h) (by decide +kernel)) (aK (aa 9 rfl))
   (λC s H ex=>aA 0) (λx=>⟨.inr rfl,trivial⟩) (λC s H ex x hx=>bA) (λC s H ex x hx _=>aW CX hr (af (aa 0 rfl) ao) ⟨x,rfl,rfl⟩)))))) λ_=>dQ (bI (bh (aW CG hr (af (aa 2 rfl) (af (aa 3 rfl) (af (aa 9 rfl) ao))) ⟨v,p,way,rfl,by omega,by omega,rfl⟩)))))) (λh=>?_) (λ_=>a9 ?_))
  ·rw [hthr] at h;simp at h
  refine ah (bQ (TV.frz (iA (i:=9) rfl (aV (by omega))) (TW.tv (dD (bj k6 (EV.cast (y':=z) (jO M.sum (aU.im (aT (own:=["_law_k"]) (fr:=["_law_worth"]) (ix:=[5]) (ra:=ab) (rb:=ab) (p:=λ_=>true) (f:=λk=>(bH v p (onG v p)).getD k.toNat 0) (aM (so:=ag g5) (N0:=ya) rfl rfl (λx h=>aE h) (by decide +kernel)) (aK (aa 9 rfl))
   (λC s H ex=>aA 0) (λx=>⟨.inr rfl,.inl rfl,trivial⟩) (λC s H ex x hx=>bA) (λC s H ex x hx h=>bB (aa 1 rfl) (aa 0 rfl) (by have:=xin x hx;exact cz this.1 (by omega)))))) es) (aa 8 rfl)) λ_=>dQ (bj (zR hu0) (aa 9 rfl) (aa 7 rfl))))) (λh=>?_) (λ_=>a9 ?_))
  ·rw [hz1] at h;simp at h
  refine ah (aO 7 (aU.im (rF 9 M.list rfl (aV (by omega)))) ?_)
  refine ah (aO 10 (EV.frz (iA (i:=9) rfl (aV (by omega))) AX (aW CN hr (af (aa 4 rfl) (af (aa 3 rfl) (af (aa 9 rfl) ao))) ⟨v,p,way,rfl,hv,p0,p1,hR,by omega,hthr,rfl⟩)) ?_)
  refine ah (bQ (TV.frz (iA (i:=9) rfl (aV (by omega))) (TW.tv (dD (bI (bh (aW CX hr (af (aa 10 rfl) ao) ⟨_,rfl,rfl⟩))) λ_=>dD (bj k6 (aa 10 rfl) (aa 8 rfl)) λ_=>dD (bj (uW (r:=ab) eq_int hu1) (aa 9 rfl) (aa 7 rfl)) λ_=>dQ (bj (Au (r:=ae ab) (r':=ae aB) (eq_list eq_int) (eq_list sC) hu2 hu3) (aa 4 rfl) (aa 2 rfl))))) (λh=>?_) (λ_=>a9 ?_))
  ·rw [hsum] at h;simp at h
  refine ah (wA 9 rfl ?_)
  refine ak (bQ (bj (uW (r:=ab) eq_int hu1) (aU.im (fk CV hr (af (aa 4 rfl) (af (aa 3 rfl) (af (aa 8 rfl) ao))) ⟨v,p,z,rfl,hv,p0,p1,hR,z0,z1,by rw [hway]⟩)) (aa 7 rfl)) (λh=>?_) (λ_=>a9 ?_))
  ·simp at h
  exact ⟨st4,way,_,_,_,rfl,hnx,hrs,hzs⟩
 ·rintro zs _ Γ ⟨st4,last,v8,v9,v10,rfl,_⟩
  exact ak (bq (dB (p9 (r:=ae ab) (r':=ae aB) (eq_list eq_int) (eq_list sC) hu2 hu3) (aa 4 rfl) (aa 2 rfl)) (by simp))
end
section
variable {K:PySem.W.Frag}{mg:Str->Option Value}
structure Top (K:PySem.W.Frag) (mg:Str->Option Value):Prop where
 M:bP mg
 IW:Def K mg "is_whole" vp ["value"]
 AW:Def K mg "are_whole" oG ["values"]
 RF:Def K mg "has_row_form" u9 ["row"]
 WF:Def K mg "has_web_form" qH ["web"]
 WZ:Def K mg "has_web_sizes" rO ["web"]
 LW:Def K mg "leads_within" uJ ["places","row"]
 IC:Def K mg "is_called" qA ["rows","part"]
 RE:Def K mg "reached" uU ["leads","start"]
 LO:Def K mg "lies_on_ways" n6 ["rows","part","size"]
 WE:Def K mg "is_web" nu ["web"]
 NW:Def K mg "need_web" vk ["web"]
 IP:Def K mg "is_part" vy ["web","part"]
 NP:Def K mg "need_part" uK ["web","part"]
 IL:Def K mg "is_loose" nD ["web","part"]
 NO:Def K mg "need_loose" vf ["web","part"]
 RV:Def K mg "rows_leaving" rJ ["web","part"]
 WN:Def K mg "ways_on" lj ["web","part"]
 WY:Def K mg "ways" mD ["web","part"]
 WI:Def K mg "worths_in" sE ["web","part"]
 WT:Def K mg "worths" u3 ["web","part"]
 RW:Def K mg "is_row" u7 ["web","number"]
 CG:Def K mg "can_go" rq ["web","stack","number"]
 LT:Def K mg "leads_through" vz ["web","part","rows"]
 NU:Def K mg "number_of" qx ["web","part","way"]
 YB:Def K mg "way_by" rM ["web","known","leaving","number"]
 WS:Def K mg "ways_of" mh ["web","part","numbers"]
 WV:Def K mg "way_of" vi ["web","part","number"]
 DR:Def K mg "_law_draw" vx ["_law_purse_here","_law_out_of"]
 PU:Def K mg "_law_purse" l7 ["_law_script"]
 OR:Def K mg "_law_order" uL ["_law_purse_here","_law_many"]
 PT:Def K mg "_law_part" ir ["_law_purse_here","_law_many","_law_loose"]
 CL:Def K mg "_law_called" rY ["_law_purse_here","_law_rows","_law_parts"]
 WB:Def K mg "_law_web" oE ["_law_purse_here","_law_loose"]
 CP:Def K mg "_law_copy" rC ["_law_web_here"]
 FR:Def K mg "_law_from" n8 ["_law_web_here","_law_part_here","_law_place"]
 ON:Def K mg "_law_on" lD ["_law_web_here","_law_part_here"]
 GO:Def K mg "_law_goes" uY ["_law_web_here","_law_part_here","_law_rows"]
 WO:Def K mg "_law_worths" rj ["_law_web_here","_law_part_here"]
 WH:Def K mg "_law_whole" uI ["_law_found"]
 NM:Def K mg "_law_numbers" qr ["_law_purse_here","_law_many"]
theorem xN {P:Program}{w:World}{base:Heap}{f:Addr}{fd:FuncData}(T:Top K mg)(F:bz K "law" "law" g5 f fd):dG P w K mg base d6 13 f fd ["_law_script"] (aC m5 K):=by
 have M:=T.M
 obtain ⟨_,_,F1,m1,b1⟩:=T.IW
 have IW:=Ab (P:=P) (w:=w) (base:=base) M F1 m1 b1
 obtain ⟨_,_,F1,m1,b1⟩:=T.AW
 have AW:=AO (P:=P) (w:=w) (base:=base) M IW F1 m1 b1
 obtain ⟨_,_,F1,m1,b1⟩:=T.RF
 have RF:=zW (P:=P) (w:=w) (base:=base) M AW F1 m1 b1
 obtain ⟨_,_,F1,m1,b1⟩:=T.WF
 have WF:=A2 (P:=P) (w:=w) (base:=base) M AW RF F1 m1 b1
 obtain ⟨_,_,F1,m1,b1⟩:=T.WZ
 have WZ:=AE (P:=P) (w:=w) (base:=base) M F1 m1 b1
 obtain ⟨_,_,F1,m1,b1⟩:=T.LW
 have LW:=AZ (P:=P) (w:=w) (base:=base) M F1 m1 b1
 obtain ⟨_,_,F1,m1,b1⟩:=T.IC
 have IC:=Ag (P:=P) (w:=w) (base:=base) M F1 m1 b1
 obtain ⟨_,_,F1,m1,b1⟩:=T.RE
 have RE:=zF (P:=P) (w:=w) (base:=base) F1 m1 b1
 obtain ⟨_,_,F1,m1,b1⟩:=T.LO
 have LO:=zT (P:=P) (w:=w) (base:=base) M RE F1 m1 b1
 obtain ⟨_,_,F1,m1,b1⟩:=T.WE
 have WE:=zI (P:=P) (w:=w) (base:=base) M WF WZ LW IC LO F1 m1 b1
 obtain ⟨_,_,F1,m1,b1⟩:=T.NW
 have NW:=Aj (P:=P) (w:=w) (base:=base) WE F1 m1 b1
 obtain ⟨_,_,F1,m1,b1⟩:=T.IP
 have IP:=AB (P:=P) (w:=w) (base:=base) M IW F1 m1 b1
 obtain ⟨_,_,F1,m1,b1⟩:=T.NP
 have NP:=AD (P:=P) (w:=w) (base:=base) NW IP F1 m1 b1
 obtain ⟨_,_,F1,m1,b1⟩:=T.IL
 have IL:=Al (P:=P) (w:=w) (base:=base) M NP RE F1 m1 b1
 obtain ⟨_,_,F1,m1,b1⟩:=T.NO
 have NO:=Ah (P:=P) (w:=w) (base:=base) IL F1 m1 b1
 obtain ⟨_,_,F1,m1,b1⟩:=T.RV
 have RV:=zQ (P:=P) (w:=w) (base:=base) true M F1 m1 b1
 obtain ⟨_,_,F1,m1,b1⟩:=T.WN
 have WN:=AL (P:=P) (w:=w) (base:=base) M RV F1 m1 b1
 obtain ⟨_,_,F1,m1,b1⟩:=T.WY
 have WY:=ym (P:=P) (w:=w) (base:=base) M NO WN F1 m1 b1
 obtain ⟨_,_,F1,m1,b1⟩:=T.WI
 have WI:=zS (P:=P) (w:=w) (base:=base) M WN RV F1 m1 b1
 obtain ⟨_,_,F1,m1,b1⟩:=T.WT
 have WT:=Ao (P:=P) (w:=w) (base:=base) NO WI F1 m1 b1
 obtain ⟨_,_,F1,m1,b1⟩:=T.RW
 have RW:=A1 (P:=P) (w:=w) (base:=base) M IW F1 m1 b1
 obtain ⟨_,_,F1,m1,b1⟩:=T.CG
 have CG:=w8 (P:=P) (w:=w) (base:=base) RW F1 m1 b1
 obtain ⟨_,_,F1,m1,b1⟩:=T.LT
 have LT:=Af (P:=P) (w:=w) (base:=base) M CG F1 m1 b1
 obtain ⟨_,_,F1,m1,b1⟩:=T.NU
 have NU:=Ap (P:=P) (w:=w) (base:=base) M WT LT F1 m1 b1
 obtain ⟨_,_,F1,m1,b1⟩:=T.YB
 have YB:=Av (P:=P) (w:=w) (base:=base) M F1 m1 b1
 obtain ⟨_,_,F1,m1,b1⟩:=T.WS
 have WS:=yd (P:=P) (w:=w) (base:=base) M IW WI WN RV YB F1 m1 b1
 obtain ⟨_,_,F1,m1,b1⟩:=T.WV
 have WV:=yq (P:=P) (w:=w) (base:=base) NO WS F1 m1 b1
 obtain ⟨_,_,F1,m1,b1⟩:=T.DR
 have DR:=zU (P:=P) (w:=w) (base:=base) M F1 m1 b1
 obtain ⟨_,_,F1,m1,b1⟩:=T.PU
 have PU:=Ai (P:=P) (w:=w) (base:=base) F1 m1 b1
 obtain ⟨_,_,F1,m1,b1⟩:=T.OR
 have OR:=zL (P:=P) (w:=w) (base:=base) M DR F1 m1 b1
 obtain ⟨_,_,F1,m1,b1⟩:=T.PT
 have PT:=z4 (P:=P) (w:=w) (base:=base) M DR OR F1 m1 b1
 obtain ⟨_,_,F1,m1,b1⟩:=T.CL
 have CL:=zX (P:=P) (w:=w) (base:=base) M DR F1 m1 b1
 obtain ⟨_,_,F1,m1,b1⟩:=T.WB
 have WB:=AJ (P:=P) (w:=w) (base:=base) M DR OR PT CL F1 m1 b1
 obtain ⟨_,_,F1,m1,b1⟩:=T.CP
 have CP:=AR (P:=P) (w:=w) (base:=base) M F1 m1 b1
 obtain ⟨_,_,F1,m1,b1⟩:=T.FR
 have FR:=Ay (P:=P) (w:=w) (base:=base) M F1 m1 b1
 obtain ⟨_,_,F1,m1,b1⟩:=T.ON
 have ON:=Aq (P:=P) (w:=w) (base:=base) M FR F1 m1 b1
 obtain ⟨_,_,F1,m1,b1⟩:=T.GO
 have GO:=AU (P:=P) (w:=w) (base:=base) FR F1 m1 b1
 obtain ⟨_,_,F1,m1,b1⟩:=T.WO
 have WO:=AF (P:=P) (w:=w) (base:=base) M ON FR F1 m1 b1
 obtain ⟨_,_,F1,m1,b1⟩:=T.WH
 have WH:=zN (P:=P) (w:=w) (base:=base) M F1 m1 b1
 obtain ⟨_,_,F1,m1,b1⟩:=T.NM
 have NM:=An (P:=P) (w:=w) (base:=base) M DR F1 m1 b1
 exact zV M PU DR WB CP WO ON WH WY NM WV GO NU F
theorem wR {h:Heap}(KX:K.In h)(G:h.Ns mainGlobals mg){t1 t2 t3 t4 t5 t6 t7 t8:Tok}
 (a1:PySem.W.nsIn K mainGlobals "MOST_PARTS"=some (some (.int 4 t1))) (a2:PySem.W.nsIn K mainGlobals "LEAST_PLACES"=some (some (.int 2 t2))) (a3:PySem.W.nsIn K mainGlobals "MOST_PLACES"=some (some (.int 16 t3))) (a4:PySem.W.nsIn K mainGlobals "MOST_ROWS"=some (some (.int 60 t4))) (a5:PySem.W.nsIn K mainGlobals "FIRST_PART"=some (some (.int 0 t5))) (a6:PySem.W.nsIn K mainGlobals "BEGIN"=some (some (.int 0 t6))) (a7:PySem.W.nsIn K mainGlobals "END"=some (some (.int 1 t7))) (a8:PySem.W.nsIn K mainGlobals "NO_CALL"=some (some (.int (-1) t8)))
 (b1:PySem.W.nsIn K mainGlobals "len"=some none) (b2:PySem.W.nsIn K mainGlobals "all"=some none) (b3:PySem.W.nsIn K mainGlobals "any"=some none) (b4:PySem.W.nsIn K mainGlobals "range"=some none) (b5:PySem.W.nsIn K mainGlobals "enumerate"=some none) (b6:PySem.W.nsIn K mainGlobals "isinstance"=some none) (b7:PySem.W.nsIn K mainGlobals "int"=some none) (b8:PySem.W.nsIn K mainGlobals "bool"=some none) (b9:PySem.W.nsIn K mainGlobals "list"=some none) (b10:PySem.W.nsIn K mainGlobals "tuple"=some none) (b11:PySem.W.nsIn K mainGlobals "min"=some none) (b12:PySem.W.nsIn K mainGlobals "max"=some none) (b13:PySem.W.nsIn K mainGlobals "sorted"=some none) (b14:PySem.W.nsIn K mainGlobals "sum"=some none) (b15:PySem.W.nsIn K mainGlobals "zip"=some none) (b16:PySem.W.nsIn K mainGlobals "reversed"=some none) (b17:PySem.W.nsIn K mainGlobals "set"=some none):bP mg:=
 ⟨⟨_,PySem.W.mg_of KX G a1⟩,⟨_,PySem.W.mg_of KX G a2⟩,⟨_,PySem.W.mg_of KX G a3⟩,⟨_,PySem.W.mg_of KX G a4⟩,⟨_,PySem.W.mg_of KX G a5⟩,⟨_,PySem.W.mg_of KX G a6⟩,⟨_,PySem.W.mg_of KX G a7⟩,⟨_,PySem.W.mg_of KX G a8⟩,PySem.W.mg_none_of KX G b1,PySem.W.mg_none_of KX G b2,PySem.W.mg_none_of KX G b3,PySem.W.mg_none_of KX G b4,PySem.W.mg_none_of KX G b5,PySem.W.mg_none_of KX G b6,PySem.W.mg_none_of KX G b7,PySem.W.mg_none_of KX G b8,PySem.W.mg_none_of KX G b9,PySem.W.mg_none_of KX G b10,PySem.W.mg_none_of KX G b11,PySem.W.mg_none_of KX G b12,PySem.W.mg_none_of KX G b13,PySem.W.mg_none_of KX G b14,PySem.W.mg_none_of KX G b15,PySem.W.mg_none_of KX G b16,PySem.W.mg_none_of KX G b17⟩
theorem yL {l:PySem.W.OpenLaw}{w:World}{h:Heap}{fa f:Addr}{oc kV doc pm cdv ct:Value}{od an:Option Addr}{osl:Array (Option Value)}(KX:K.In h)(G:h.Ns mainGlobals mg)(hfa:mg "law"=some (.ref fa))(T:Top K mg)
 (a:PySem.W.nsIn K mainGlobals "law"=some (some (.ref f))) (lk:K.lookup f=some ⟨oc,od,.func (PySem.W.fnOf "law" "law" (dO g5) (bY g5) (ag g5) .none kV doc pm an cdv ct),osl⟩) (c:PySem.W.codeIn K cdv "law"=true) (k:PySem.W.keepIn K (.ref f)=true):
 ∃fd:FuncData,(∀(s:Shared) (v:Value),BindsTo s fd ⟨[v],[]⟩ [("_law_script",v)])/\∀base:Heap,K.In base->base.Ns mainGlobals mg->dG l.prog w K mg base d6 13 fa fd ["_law_script"] (aC m5 K):=by
 have e:=hfa.symm.trans (PySem.W.mg_of KX G a)
 cases e
 exact ⟨PySem.W.fnOf "law" "law" (dO g5) (bY g5) (ag g5) .none kV doc pm an cdv ct,λs v=>.of_eq rfl,λbase _ _=>xN T (mx lk c k)⟩
theorem walk {l:PySem.W.OpenLaw}{q:Program}{loose:List Str}{XP:(Str->Option Value)->Heap->Prop}{YP:World->Heap->Prop}{d:DefRec}{K:Params->PySem.W.Frag}(hn:l.most=some 63)(hdf:d.params.defaults=[])
 (hY:∀(w:World) (h:Heap),YP w h->(K w.params).In h)
 (F:∀(w:World) (mg:Str->Option Value) (fa:Addr) (h:Heap),(K w.params).In h->h.Ns mainGlobals mg->mg d.name=some (.ref fa)->
  ∃fd:FuncData,(∀(s:Shared) (u:Value),BindsTo s fd ⟨[u],[]⟩ [("_law_script",u)])/\∀base:Heap,(K w.params).In base->base.Ns mainGlobals mg->dG l.prog w (K w.params) mg base d6 13 fa fd ["_law_script"] (aC m5 (K w.params))):
 PySem.W.WalkO q loose XP YP l.row.toRowW d [] (λf vs=>PySem.call f vs):=
 L2.tW (n:=63) (k:=13) (x:="_law_script") (CX:=λ_=>d6) (sp:=λw=>aC m5 (K w.params)) hn (by decide) hdf ⟨rfl,by decide,by decide⟩ hY F
   (λw H a ns hl hbits _ hS=>⟨H,[⟨fO,ns⟩],_,aj.refl _,.cons ⟨a,rfl,hS,hl⟩ .nil,⟨ns,rfl,hl,hbits,rfl⟩,λv H' R' _ t=>by obtain ⟨y,hy,rfl⟩:=t;exact hy⟩) λ_ _ _ _ _ z=>z
end
end K1
open PySem PySem.W PyProof.Rows
theorem PySem.W.Fast.tw10388521899542979391:True:=trivial
theorem PySem.W.Fast.tw5293098469286163260:True:=trivial
theorem PySem.W.Fast.tw11242984226811695258:True:=trivial
theorem PySem.W.Fast.tw13929030394519423442:True:=trivial
theorem PySem.W.Fast.tw2338019491108448464:True:=trivial
theorem PySem.W.Fast.tw4101225451735721607:True:=trivial
theorem PySem.W.Fast.tw8673001084874587528:True:=trivial
theorem PySem.W.Fast.tw5163802581199288720:True:=trivial
theorem PySem.W.Fast.tw15009531200547252059:True:=trivial
theorem PySem.W.Fast.tw3699066053466315914:True:=trivial
theorem PySem.W.Fast.tw17783599536180680780:True:=trivial
theorem PySem.W.Fast.tw6756434710253052622:True:=trivial
theorem PySem.W.Fast.tw9006515530169889673:True:=trivial
theorem PySem.W.Fast.tw14398496592017363105:True:=trivial
theorem PySem.W.Fast.tw17928840582678663692:True:=trivial
theorem PySem.W.Fast.tw15245306428042692522:True:=trivial
theorem PySem.W.Fast.tw5998774283506437046:True:=trivial
theorem PySem.W.Fast.tw9276645380541758820:True:=trivial
theorem PySem.W.Fast.tw16726825792784965505:True:=trivial
theorem PySem.W.Fast.tw13649436596014578867:True:=trivial
theorem PySem.W.Fast.tw12837251139053625188:True:=trivial
theorem PySem.W.Fast.tw17373755973367512575:True:=trivial
theorem PySem.W.Fast.tw17343447612863514199:True:=trivial
theorem PySem.W.Fast.tw14931341864089331185:True:=trivial
theorem PySem.W.Fast.tw737346588565223348:True:=trivial
theorem PySem.W.Fast.tw17912180862445414902:True:=trivial
theorem PySem.W.Fast.tw14426837082375344725:True:=trivial
theorem PySem.W.Fast.tw8436471003055886179:True:=trivial
theorem PySem.W.Fast.tw1403258593852153238:True:=trivial
theorem PySem.W.Fast.tw14123879102579217331:True:=trivial
theorem PySem.W.Fast.tw13399454332547910206:True:=trivial
theorem PySem.W.Fast.tw8522796258966242122:True:=trivial
theorem PySem.W.Fast.tw8993110724977579218:True:=trivial
theorem PySem.W.Fast.tw2344013059894992731:True:=trivial
theorem PySem.W.Fast.tw11280551957309957007:True:=trivial
theorem PySem.W.Fast.tw1028367824633948667:True:=trivial
theorem PySem.W.Fast.tw16420564619189637924:True:=trivial
theorem PySem.W.Fast.tw4451170393723761220:True:=trivial
theorem PySem.W.Fast.tw691562856877665034:True:=trivial
theorem PySem.W.Fast.tw7585431203718362626:True:=trivial
theorem PySem.W.Fast.tw295508297243211352:True:=trivial
theorem PySem.W.Fast.tw7922752284300539845:True:=trivial
theorem PySem.W.Fast.tw8864221966552079064:True:=trivial
theorem PySem.W.Fast.tw6176127982539855657:True:=trivial
theorem PySem.W.Fast.tw18108648284195843295:True:=trivial
theorem PySem.W.Fast.tw5127946068067102362:True:=trivial
theorem PySem.W.Fast.tw16143573343348207335:True:=trivial
theorem PySem.W.Fast.tw15829164701163170001:True:=trivial
theorem PySem.W.Fast.tw1940552939211817642:True:=trivial
theorem PySem.W.Fast.tw2087274369681503657:True:=trivial
theorem PySem.W.Fast.tw13795926572160773035:True:=trivial
theorem PySem.W.Fast.tw15838205460057214761:True:=trivial
theorem PySem.W.Fast.tw15716062974830115624:True:=trivial
theorem PySem.W.Fast.tw3988352975733216085:True:=trivial
theorem PySem.W.Fast.tw2868249168507268136:True:=trivial
theorem PySem.W.Fast.tw15473816520756394922:True:=trivial
theorem PySem.W.Fast.tw7453159461194429594:True:=trivial
theorem PySem.W.Fast.tw15481941695445088758:True:=trivial
theorem PySem.W.Fast.tw3099036392760822939:True:=trivial
theorem PySem.W.Fast.tw6149199342013866024:True:=trivial
theorem PySem.W.Fast.tw3652848508839938295:True:=trivial
theorem PySem.W.Fast.tw8606150803657435226:True:=trivial
theorem PySem.W.Fast.tw1252740641669043919:True:=trivial
theorem PySem.W.Fast.tw8285723764651144932:True:=trivial
theorem PySem.W.Fast.tw11262507443601015614:True:=trivial
theorem PySem.W.Fast.tw15990698912021694891:True:=trivial
theorem PySem.W.Fast.tw518257552080129380:True:=trivial
theorem PySem.W.Fast.tw12969273433157930925:True:=trivial
theorem PySem.W.Fast.tw1998820529081091491:True:=trivial
theorem PySem.W.Fast.tw1870932700521755554:True:=trivial
theorem PySem.W.Fast.tw6358784756931345892:True:=trivial
theorem PySem.W.Fast.tw14277775380782307193:True:=trivial
theorem PySem.W.Fast.tw4076300635582777922:True:=trivial
theorem PySem.W.Fast.tw3928192969122529933:True:=trivial
theorem PySem.W.Fast.tw8227946141090310499:True:=trivial
theorem PySem.W.Fast.tw9732393433645871520:True:=trivial
theorem PySem.W.Fast.tw1890548325061002328:True:=trivial
theorem PySem.W.Fast.tw15637298524677073607:True:=trivial
theorem PySem.W.Fast.tw13254200822268902651:True:=trivial
theorem PySem.W.Fast.tw15570328494982640797:True:=trivial
theorem PySem.W.Fast.tw11169129203356897970:True:=trivial
theorem PySem.W.Fast.tw1242747140596133839:True:=trivial
theorem PySem.W.Fast.tw12687056596002331901:True:=trivial
theorem PySem.W.Fast.tw5636394371641833672:True:=trivial
theorem PySem.W.Fast.tw17974594633309876515:True:=trivial
theorem PySem.W.Fast.tw10797443776647260404:True:=trivial
theorem PySem.W.Fast.tw11685579304966435149:True:=trivial
theorem PySem.W.Fast.tw16325026248435778599:True:=trivial
theorem PySem.W.Fast.tw17827723200192034602:True:=trivial
theorem PySem.W.Fast.tw13843990241537880239:True:=trivial
theorem PySem.W.Fast.tw13382335981270364856:True:=trivial
theorem PySem.W.Fast.tw17929500506860703659:True:=trivial
theorem PySem.W.Fast.tw14495591574608334761:True:=trivial
theorem PySem.W.Fast.tw17262228884506485136:True:=trivial
theorem PySem.W.Fast.tw5317058084769455286:True:=trivial
theorem PySem.W.Fast.tw6283074687552989828:True:=trivial
theorem PySem.W.Fast.tw8614327150961302590:True:=trivial
theorem PySem.W.Fast.tw17217814728710865261:True:=trivial
theorem PySem.W.Fast.tw10540918490347749696:True:=trivial
theorem PySem.W.Fast.tw5852616036271324606:True:=trivial
theorem PySem.W.Fast.tw16730223840875706259:True:=trivial
theorem PySem.W.Fast.tw460353735934482826:True:=trivial
theorem PySem.W.Fast.tw16352218667062785740:True:=trivial
theorem PySem.W.Fast.tw11681842173617325074:True:=trivial
theorem PySem.W.Fast.tw14937697591020892691:True:=trivial
theorem PySem.W.Fast.tw17700911126657570727:True:=trivial
theorem PySem.W.Fast.tw13143113419042087279:True:=trivial
theorem PySem.W.Fast.tw16468679110111802017:True:=trivial
theorem PySem.W.Fast.tw1451174611309776876:True:=trivial
theorem PySem.W.Fast.tw8626153427205866655:True:=trivial
theorem PySem.W.Fast.tw3014792203627351546:True:=trivial
theorem PySem.W.Fast.tw14656280831280605619:True:=trivial
theorem PySem.W.Fast.tw7945952743392194212:True:=trivial
theorem PySem.W.Fast.tw6800980041630187963:True:=trivial
theorem PySem.W.Fast.tw2925750376219253860:True:=trivial
theorem PySem.W.Fast.tw13781603230966613542:True:=trivial
theorem PySem.W.Fast.tw9358502356595812918:True:=trivial
theorem PySem.W.Fast.tw14112442906300752634:True:=trivial
theorem PySem.W.Fast.tw9383699170492308756:True:=trivial
theorem PySem.W.Fast.tw4738442439783265019:True:=trivial
theorem PySem.W.Fast.tw14939319060329927439:True:=trivial
theorem PySem.W.Fast.tw14321253868504159310:True:=trivial
theorem PySem.W.Fast.tw13516134311342462310:True:=trivial
theorem PySem.W.Fast.tw8762549115488446910:True:=trivial
theorem PySem.W.Fast.tw6464271127694522622:True:=trivial
theorem PySem.W.Fast.tw15892147664503808388:True:=trivial
theorem PySem.W.Fast.tw18237933088847799614:True:=trivial
theorem PySem.W.Fast.tw4655361630572111149:True:=trivial
theorem PySem.W.Fast.tw11921035972892449565:True:=trivial
theorem PySem.W.Fast.tw12775828052852955018:True:=trivial
theorem PySem.W.Fast.tw9468697160128230588:True:=trivial
theorem PySem.W.Fast.tw340104649450918408:True:=trivial
theorem PySem.W.Fast.tw10931659861686455289:True:=trivial
theorem PySem.W.Fast.tw5672269328160566125:True:=trivial
theorem PySem.W.Fast.tw693236604713938615:True:=trivial
theorem PySem.W.Fast.tw11006238437345705093:True:=trivial
theorem PySem.W.Fast.tw4501994070578431280:True:=trivial
theorem PySem.W.Fast.tw7659297232276640643:True:=trivial
theorem PySem.W.Fast.tw4833839668511511378:True:=trivial
theorem PySem.W.Fast.tw18339629046920010457:True:=trivial
theorem PySem.W.Fast.tw17175645489505547152:True:=trivial
theorem PySem.W.Fast.tw15437921243336529188:True:=trivial
theorem PySem.W.Fast.tw339442912100240052:True:=trivial
theorem PySem.W.Fast.tw2908646011377884771:True:=trivial
theorem PySem.W.Fast.tw14087825349621323011:True:=trivial
theorem PySem.W.Fast.tw4531431247757940443:True:=trivial
theorem PySem.W.Fast.tw3928306090843547053:True:=trivial
theorem PySem.W.Fast.tw1679320535919997426:True:=trivial
theorem PySem.W.Fast.tw9190631665352523196:True:=trivial
theorem PySem.W.Fast.tw9099763023556732001:True:=trivial
theorem PySem.W.Fast.tw7102363904205438471:True:=trivial
theorem PySem.W.Fast.tw16793328936706205009:True:=trivial
theorem PySem.W.Fast.tw5908501576801064273:True:=trivial
theorem PySem.W.Fast.tw18238706602871736553:True:=trivial
theorem PySem.W.Fast.tw1549284616492173918:True:=trivial
theorem PySem.W.Fast.tw8024129937022534544:True:=trivial
theorem PySem.W.Fast.tw747757387472004883:True:=trivial
theorem PySem.W.Fast.tw2387139606576769353:True:=trivial
theorem PySem.W.Fast.tw12711621458813072034:True:=trivial
theorem PySem.W.Fast.tw17302705715789725758:True:=trivial
theorem PySem.W.Fast.tw13434989108356180572:True:=trivial
theorem PySem.W.Fast.tw1438504239456727688:True:=trivial
theorem PySem.W.Fast.tw17093240797811942072:True:=trivial
theorem PySem.W.Fast.tw1364941872301573047:True:=trivial
theorem PySem.W.Fast.tw15717855843185541983:True:=trivial
theorem PySem.W.Fast.tw5734061841927294403:True:=trivial
theorem PySem.W.Fast.tw6100423151953868816:True:=trivial
theorem PySem.W.Fast.tw9831853189217897480:True:=trivial
theorem PySem.W.Fast.tw882572982040065176:True:=trivial
theorem PySem.W.Fast.tw16558323628370065560:True:=trivial
theorem PySem.W.Fast.tw10119095798904700610:True:=trivial
theorem PySem.W.Fast.tw3245124900929363427:True:=trivial
theorem PySem.W.Fast.tw12315675755373430408:True:=trivial
theorem PySem.W.Fast.tw4339057528841944667:True:=trivial
set_option maxRecDepth 100000 in
set_option maxHeartbeats 0 in
theorem PySem.Challenge.cw_fewcounters_k42_whole_ways_and_their_num_holds : PySem.Challenge.rw_fewcounters_k42_whole_ways_and_their_num.Holds := by
 w_on;o_law;k_head;(case hw=>w_witness2)
 k_fill
 refine K1.walk (l:=PySem.Challenge.rw_fewcounters_k42_whole_ways_and_their_num) rfl rfl (λw h Y=>PySem.W.kIn_of Y) ?F
 case F=>
  intro w mg fa h KX G hmg
  have M:K1.bP mg:=by
   refine' K1.wR KX G ?a1 ?a2 ?a3 ?a4 ?a5 ?a6 ?a7 ?a8 ?b1 ?b2 ?b3 ?b4 ?b5 ?b6 ?b7 ?b8 ?b9 ?b10 ?b11 ?b12 ?b13 ?b14 ?b15 ?b16 ?b17
   (case a1=>k_is);(case a2=>k_is);(case a3=>k_is);(case a4=>k_is);(case a5=>k_is);(case a6=>k_is);(case a7=>k_is);(case a8=>k_is);(case b1=>k_is);(case b2=>k_is);(case b3=>k_is);(case b4=>k_is);(case b5=>k_is);(case b6=>k_is);(case b7=>k_is);(case b8=>k_is);(case b9=>k_is);(case b10=>k_is);(case b11=>k_is);(case b12=>k_is);(case b13=>k_is);(case b14=>k_is);(case b15=>k_is);(case b16=>k_is);(case b17=>k_is)
  have DIW:Fc.Def (L2.aL KX) mg "is_whole" K1.vp ["value"]:=by
   dsimp only [L2.aL]
   refine' Fc.aI KX G ?a ?l ?c ?k ?b
   (case a=>k_is);(case l=>k_is);(case c=>k_is);(case k=>k_is);(case b=>exact λ_ _ _ _ _ _ us hl=>match us,hl with | [_],_=>rfl)
  have DAW:Fc.Def (L2.aL KX) mg "are_whole" K1.oG ["values"]:=by
   dsimp only [L2.aL]
   refine' Fc.aI KX G ?a ?l ?c ?k ?b
   (case a=>k_is);(case l=>k_is);(case c=>k_is);(case k=>k_is);(case b=>exact λ_ _ _ _ _ _ us hl=>match us,hl with | [_],_=>rfl)
  have DRF:Fc.Def (L2.aL KX) mg "has_row_form" K1.u9 ["row"]:=by
   dsimp only [L2.aL]
   refine' Fc.aI KX G ?a ?l ?c ?k ?b
   (case a=>k_is);(case l=>k_is);(case c=>k_is);(case k=>k_is);(case b=>exact λ_ _ _ _ _ _ us hl=>match us,hl with | [_],_=>rfl)
  have DWF:Fc.Def (L2.aL KX) mg "has_web_form" K1.qH ["web"]:=by
   dsimp only [L2.aL]
   refine' Fc.aI KX G ?a ?l ?c ?k ?b
   (case a=>k_is);(case l=>k_is);(case c=>k_is);(case k=>k_is);(case b=>exact λ_ _ _ _ _ _ us hl=>match us,hl with | [_],_=>rfl)
  have DWZ:Fc.Def (L2.aL KX) mg "has_web_sizes" K1.rO ["web"]:=by
   dsimp only [L2.aL]
   refine' Fc.aI KX G ?a ?l ?c ?k ?b
   (case a=>k_is);(case l=>k_is);(case c=>k_is);(case k=>k_is);(case b=>exact λ_ _ _ _ _ _ us hl=>match us,hl with | [_],_=>rfl)
  have DLW:Fc.Def (L2.aL KX) mg "leads_within" K1.uJ ["places","row"]:=by
   dsimp only [L2.aL]
   refine' Fc.aI KX G ?a ?l ?c ?k ?b
   (case a=>k_is);(case l=>k_is);(case c=>k_is);(case k=>k_is);(case b=>exact λ_ _ _ _ _ _ us hl=>match us,hl with | [_,_],_=>rfl)
  have DIC:Fc.Def (L2.aL KX) mg "is_called" K1.qA ["rows","part"]:=by
   dsimp only [L2.aL]
   refine' Fc.aI KX G ?a ?l ?c ?k ?b
   (case a=>k_is);(case l=>k_is);(case c=>k_is);(case k=>k_is);(case b=>exact λ_ _ _ _ _ _ us hl=>match us,hl with | [_,_],_=>rfl)
  have DRE:Fc.Def (L2.aL KX) mg "reached" K1.uU ["leads","start"]:=by
   dsimp only [L2.aL]
   refine' Fc.aI KX G ?a ?l ?c ?k ?b
   (case a=>k_is);(case l=>k_is);(case c=>k_is);(case k=>k_is);(case b=>exact λ_ _ _ _ _ _ us hl=>match us,hl with | [_,_],_=>rfl)
  have DLO:Fc.Def (L2.aL KX) mg "lies_on_ways" K1.n6 ["rows","part","size"]:=by
   dsimp only [L2.aL]
   refine' Fc.aI KX G ?a ?l ?c ?k ?b
   (case a=>k_is);(case l=>k_is);(case c=>k_is);(case k=>k_is);(case b=>exact λ_ _ _ _ _ _ us hl=>match us,hl with | [_,_,_],_=>rfl)
  have DWE:Fc.Def (L2.aL KX) mg "is_web" K1.nu ["web"]:=by
   dsimp only [L2.aL]
   refine' Fc.aI KX G ?a ?l ?c ?k ?b
   (case a=>k_is);(case l=>k_is);(case c=>k_is);(case k=>k_is);(case b=>exact λ_ _ _ _ _ _ us hl=>match us,hl with | [_],_=>rfl)
  have DNW:Fc.Def (L2.aL KX) mg "need_web" K1.vk ["web"]:=by
   dsimp only [L2.aL]
   refine' Fc.aI KX G ?a ?l ?c ?k ?b
   (case a=>k_is);(case l=>k_is);(case c=>k_is);(case k=>k_is);(case b=>exact λ_ _ _ _ _ _ us hl=>match us,hl with | [_],_=>rfl)
  have DIP:Fc.Def (L2.aL KX) mg "is_part" K1.vy ["web","part"]:=by
   dsimp only [L2.aL]
   refine' Fc.aI KX G ?a ?l ?c ?k ?b
   (case a=>k_is);(case l=>k_is);(case c=>k_is);(case k=>k_is);(case b=>exact λ_ _ _ _ _ _ us hl=>match us,hl with | [_,_],_=>rfl)
  have DNP:Fc.Def (L2.aL KX) mg "need_part" K1.uK ["web","part"]:=by
   dsimp only [L2.aL]
   refine' Fc.aI KX G ?a ?l ?c ?k ?b
   (case a=>k_is);(case l=>k_is);(case c=>k_is);(case k=>k_is);(case b=>exact λ_ _ _ _ _ _ us hl=>match us,hl with | [_,_],_=>rfl)
  have DIL:Fc.Def (L2.aL KX) mg "is_loose" K1.nD ["web","part"]:=by
   dsimp only [L2.aL]
   refine' Fc.aI KX G ?a ?l ?c ?k ?b
   (case a=>k_is);(case l=>k_is);(case c=>k_is);(case k=>k_is);(case b=>exact λ_ _ _ _ _ _ us hl=>match us,hl with | [_,_],_=>rfl)
  have DNO:Fc.Def (L2.aL KX) mg "need_loose" K1.vf ["web","part"]:=by
   dsimp only [L2.aL]
   refine' Fc.aI KX G ?a ?l ?c ?k ?b
   (case a=>k_is);(case l=>k_is);(case c=>k_is);(case k=>k_is);(case b=>exact λ_ _ _ _ _ _ us hl=>match us,hl with | [_,_],_=>rfl)
  have DRV:Fc.Def (L2.aL KX) mg "rows_leaving" K1.rJ ["web","part"]:=by
   dsimp only [L2.aL]
   refine' Fc.aI KX G ?a ?l ?c ?k ?b
   (case a=>k_is);(case l=>k_is);(case c=>k_is);(case k=>k_is);(case b=>exact λ_ _ _ _ _ _ us hl=>match us,hl with | [_,_],_=>rfl)
  have DWN:Fc.Def (L2.aL KX) mg "ways_on" K1.lj ["web","part"]:=by
   dsimp only [L2.aL]
   refine' Fc.aI KX G ?a ?l ?c ?k ?b
   (case a=>k_is);(case l=>k_is);(case c=>k_is);(case k=>k_is);(case b=>exact λ_ _ _ _ _ _ us hl=>match us,hl with | [_,_],_=>rfl)
  have DWY:Fc.Def (L2.aL KX) mg "ways" K1.mD ["web","part"]:=by
   dsimp only [L2.aL]
   refine' Fc.aI KX G ?a ?l ?c ?k ?b
   (case a=>k_is);(case l=>k_is);(case c=>k_is);(case k=>k_is);(case b=>exact λ_ _ _ _ _ _ us hl=>match us,hl with | [_,_],_=>rfl)
  have DWI:Fc.Def (L2.aL KX) mg "worths_in" K1.sE ["web","part"]:=by
   dsimp only [L2.aL]
   refine' Fc.aI KX G ?a ?l ?c ?k ?b
   (case a=>k_is);(case l=>k_is);(case c=>k_is);(case k=>k_is);(case b=>exact λ_ _ _ _ _ _ us hl=>match us,hl with | [_,_],_=>rfl)
  have DWT:Fc.Def (L2.aL KX) mg "worths" K1.u3 ["web","part"]:=by
   dsimp only [L2.aL]
   refine' Fc.aI KX G ?a ?l ?c ?k ?b
   (case a=>k_is);(case l=>k_is);(case c=>k_is);(case k=>k_is);(case b=>exact λ_ _ _ _ _ _ us hl=>match us,hl with | [_,_],_=>rfl)
  have DRW:Fc.Def (L2.aL KX) mg "is_row" K1.u7 ["web","number"]:=by
   dsimp only [L2.aL]
   refine' Fc.aI KX G ?a ?l ?c ?k ?b
   (case a=>k_is);(case l=>k_is);(case c=>k_is);(case k=>k_is);(case b=>exact λ_ _ _ _ _ _ us hl=>match us,hl with | [_,_],_=>rfl)
  have DCG:Fc.Def (L2.aL KX) mg "can_go" K1.rq ["web","stack","number"]:=by
   dsimp only [L2.aL]
   refine' Fc.aI KX G ?a ?l ?c ?k ?b
   (case a=>k_is);(case l=>k_is);(case c=>k_is);(case k=>k_is);(case b=>exact λ_ _ _ _ _ _ us hl=>match us,hl with | [_,_,_],_=>rfl)
  have DLT:Fc.Def (L2.aL KX) mg "leads_through" K1.vz ["web","part","rows"]:=by
   dsimp only [L2.aL]
   refine' Fc.aI KX G ?a ?l ?c ?k ?b
   (case a=>k_is);(case l=>k_is);(case c=>k_is);(case k=>k_is);(case b=>exact λ_ _ _ _ _ _ us hl=>match us,hl with | [_,_,_],_=>rfl)
  have DNU:Fc.Def (L2.aL KX) mg "number_of" K1.qx ["web","part","way"]:=by
   dsimp only [L2.aL]
   refine' Fc.aI KX G ?a ?l ?c ?k ?b
   (case a=>k_is);(case l=>k_is);(case c=>k_is);(case k=>k_is);(case b=>exact λ_ _ _ _ _ _ us hl=>match us,hl with | [_,_,_],_=>rfl)
  have DYB:Fc.Def (L2.aL KX) mg "way_by" K1.rM ["web","known","leaving","number"]:=by
   dsimp only [L2.aL]
   refine' Fc.aI KX G ?a ?l ?c ?k ?b
   (case a=>k_is);(case l=>k_is);(case c=>k_is);(case k=>k_is);(case b=>exact λ_ _ _ _ _ _ us hl=>match us,hl with | [_,_,_,_],_=>rfl)
  have DWS:Fc.Def (L2.aL KX) mg "ways_of" K1.mh ["web","part","numbers"]:=by
   dsimp only [L2.aL]
   refine' Fc.aI KX G ?a ?l ?c ?k ?b
   (case a=>k_is);(case l=>k_is);(case c=>k_is);(case k=>k_is);(case b=>exact λ_ _ _ _ _ _ us hl=>match us,hl with | [_,_,_],_=>rfl)
  have DWV:Fc.Def (L2.aL KX) mg "way_of" K1.vi ["web","part","number"]:=by
   dsimp only [L2.aL]
   refine' Fc.aI KX G ?a ?l ?c ?k ?b
   (case a=>k_is);(case l=>k_is);(case c=>k_is);(case k=>k_is);(case b=>exact λ_ _ _ _ _ _ us hl=>match us,hl with | [_,_,_],_=>rfl)
  have DDR:Fc.Def (L2.aL KX) mg "_law_draw" K1.vx ["_law_purse_here","_law_out_of"]:=by
   dsimp only [L2.aL]
   refine' Fc.aI KX G ?a ?l ?c ?k ?b
   (case a=>k_is);(case l=>k_is);(case c=>k_is);(case k=>k_is);(case b=>exact λ_ _ _ _ _ _ us hl=>match us,hl with | [_,_],_=>rfl)
  have DPU:Fc.Def (L2.aL KX) mg "_law_purse" K1.l7 ["_law_script"]:=by
   dsimp only [L2.aL]
   refine' Fc.aI KX G ?a ?l ?c ?k ?b
   (case a=>k_is);(case l=>k_is);(case c=>k_is);(case k=>k_is);(case b=>exact λ_ _ _ _ _ _ us hl=>match us,hl with | [_],_=>rfl)
  have DOR:Fc.Def (L2.aL KX) mg "_law_order" K1.uL ["_law_purse_here","_law_many"]:=by
   dsimp only [L2.aL]
   refine' Fc.aI KX G ?a ?l ?c ?k ?b
   (case a=>k_is);(case l=>k_is);(case c=>k_is);(case k=>k_is);(case b=>exact λ_ _ _ _ _ _ us hl=>match us,hl with | [_,_],_=>rfl)
  have DPT:Fc.Def (L2.aL KX) mg "_law_part" K1.ir ["_law_purse_here","_law_many","_law_loose"]:=by
   dsimp only [L2.aL]
   refine' Fc.aI KX G ?a ?l ?c ?k ?b
   (case a=>k_is);(case l=>k_is);(case c=>k_is);(case k=>k_is);(case b=>exact λ_ _ _ _ _ _ us hl=>match us,hl with | [_,_,_],_=>rfl)
  have DCL:Fc.Def (L2.aL KX) mg "_law_called" K1.rY ["_law_purse_here","_law_rows","_law_parts"]:=by
   dsimp only [L2.aL]
   refine' Fc.aI KX G ?a ?l ?c ?k ?b
   (case a=>k_is);(case l=>k_is);(case c=>k_is);(case k=>k_is);(case b=>exact λ_ _ _ _ _ _ us hl=>match us,hl with | [_,_,_],_=>rfl)
  have DWB:Fc.Def (L2.aL KX) mg "_law_web" K1.oE ["_law_purse_here","_law_loose"]:=by
   dsimp only [L2.aL]
   refine' Fc.aI KX G ?a ?l ?c ?k ?b
   (case a=>k_is);(case l=>k_is);(case c=>k_is);(case k=>k_is);(case b=>exact λ_ _ _ _ _ _ us hl=>match us,hl with | [_,_],_=>rfl)
  have DCP:Fc.Def (L2.aL KX) mg "_law_copy" K1.rC ["_law_web_here"]:=by
   dsimp only [L2.aL]
   refine' Fc.aI KX G ?a ?l ?c ?k ?b
   (case a=>k_is);(case l=>k_is);(case c=>k_is);(case k=>k_is);(case b=>exact λ_ _ _ _ _ _ us hl=>match us,hl with | [_],_=>rfl)
  have DFR:Fc.Def (L2.aL KX) mg "_law_from" K1.n8 ["_law_web_here","_law_part_here","_law_place"]:=by
   dsimp only [L2.aL]
   refine' Fc.aI KX G ?a ?l ?c ?k ?b
   (case a=>k_is);(case l=>k_is);(case c=>k_is);(case k=>k_is);(case b=>exact λ_ _ _ _ _ _ us hl=>match us,hl with | [_,_,_],_=>rfl)
  have DON:Fc.Def (L2.aL KX) mg "_law_on" K1.lD ["_law_web_here","_law_part_here"]:=by
   dsimp only [L2.aL]
   refine' Fc.aI KX G ?a ?l ?c ?k ?b
   (case a=>k_is);(case l=>k_is);(case c=>k_is);(case k=>k_is);(case b=>exact λ_ _ _ _ _ _ us hl=>match us,hl with | [_,_],_=>rfl)
  have DGO:Fc.Def (L2.aL KX) mg "_law_goes" K1.uY ["_law_web_here","_law_part_here","_law_rows"]:=by
   dsimp only [L2.aL]
   refine' Fc.aI KX G ?a ?l ?c ?k ?b
   (case a=>k_is);(case l=>k_is);(case c=>k_is);(case k=>k_is);(case b=>exact λ_ _ _ _ _ _ us hl=>match us,hl with | [_,_,_],_=>rfl)
  have DWO:Fc.Def (L2.aL KX) mg "_law_worths" K1.rj ["_law_web_here","_law_part_here"]:=by
   dsimp only [L2.aL]
   refine' Fc.aI KX G ?a ?l ?c ?k ?b
   (case a=>k_is);(case l=>k_is);(case c=>k_is);(case k=>k_is);(case b=>exact λ_ _ _ _ _ _ us hl=>match us,hl with | [_,_],_=>rfl)
  have DWH:Fc.Def (L2.aL KX) mg "_law_whole" K1.uI ["_law_found"]:=by
   dsimp only [L2.aL]
   refine' Fc.aI KX G ?a ?l ?c ?k ?b
   (case a=>k_is);(case l=>k_is);(case c=>k_is);(case k=>k_is);(case b=>exact λ_ _ _ _ _ _ us hl=>match us,hl with | [_],_=>rfl)
  have DNM:Fc.Def (L2.aL KX) mg "_law_numbers" K1.qr ["_law_purse_here","_law_many"]:=by
   dsimp only [L2.aL]
   refine' Fc.aI KX G ?a ?l ?c ?k ?b
   (case a=>k_is);(case l=>k_is);(case c=>k_is);(case k=>k_is);(case b=>exact λ_ _ _ _ _ _ us hl=>match us,hl with | [_,_],_=>rfl)
  refine' K1.yL KX G hmg ⟨M,DIW,DAW,DRF,DWF,DWZ,DLW,DIC,DRE,DLO,DWE,DNW,DIP,DNP,DIL,DNO,DRV,DWN,DWY,DWI,DWT,DRW,DCG,DLT,DNU,DYB,DWS,DWV,DDR,DPU,DOR,DPT,DCL,DWB,DCP,DFR,DON,DGO,DWO,DWH,DNM⟩ ?a ?l ?c ?k
  (case a=>k_is);(case l=>k_is);(case c=>k_is);(case k=>k_is)
