import PyProof.Rows.All
import Wide.All
import OpenK.AllK
import Wide.FinOn
import Lean
import PyProof.EqAt
import PyProof.EqKinds
import PyProof.TupleCall
import PyProof.NeKinds
import PyProof.WalksEnum
import PyProof.EnumMake
import PySem.Challenge.RW_fewcounters_k57_whole_chains_and_their_n
import PyProof.SumWalkG
import PyProof.SeqI3
import KE.KTryMore
import PyProof.NsDelKeeps
import PyProof.Rows.TupIter
import KE.KRevIter
import PyProof.ListRange
import PyProof.SetScanFacts
import PyProof.SetKind
import PyProof.DictKinds
import PyProof.DictIter
import PyProof.Walks
import PyProof.FactsTree
import PyProof.PlainAttrs
import PyProof.Rows.SetFrom
import KE.KDictSum
import PyProof.Rows.SortWalk
set_option Elab.async false
set_option linter.all false
set_option maxRecDepth 100000
namespace L2
open PySem PySem.Spec PyProof.Rows
abbrev Key := Sum Int Str
def keyIs : Key → Value → Bool
  | .inl k, v => Value.isInt k v
  | .inr x, v => Value.isStrOf x v
def keyH (w : World) : Key → Int
  | .inl k => hashInt k
  | .inr x => hashStr w x
theorem keyIs_shape : ∀ {k : Key} {v : Value}, keyIs k v = true → (∃ i t, k = Sum.inl i ∧ v = Value.int i t) ∨ (∃ x t, k = Sum.inr x ∧ v = Value.str x t)
  | .inl i, v, h => by
    obtain ⟨t, e⟩ := Value.isInt_shape (k := i) (v := v) h
    exact .inl ⟨i, t, rfl, e⟩
  | .inr x, v, h => by
    obtain ⟨t, e⟩ := Value.isStrOf_shape (x := x) (v := v) h
    exact .inr ⟨x, t, rfl, e⟩
theorem keyIs_int (i : Int) (t : Tok) : keyIs (.inl i) (.int i t) = true := by simp [keyIs, Value.isInt]
theorem keyIs_str (x : Str) (t : Tok) : keyIs (.inr x) (.str x t) = true := by simp [keyIs, Value.isStrOf]
theorem key_ll (a b : Int) : decide ((Sum.inl a : Key) = Sum.inl b) = (a == b) := by
  by_cases e : a = b
  · subst e; simp
  · have h : ¬ (Sum.inl a : Key) = Sum.inl b := fun q => e (Sum.inl.inj q)
    rw [decide_eq_false h]
    exact (beq_eq_false_iff_ne.mpr e).symm
theorem key_rr (a b : Str) : decide ((Sum.inr a : Key) = Sum.inr b) = decide (a = b) := by
  by_cases e : a = b
  · subst e; simp
  · have h : ¬ (Sum.inr a : Key) = Sum.inr b := fun q => e (Sum.inr.inj q)
    rw [decide_eq_false h, decide_eq_false e]
theorem key_lr (a : Int) (b : Str) : decide ((Sum.inl a : Key) = Sum.inr b) = false := decide_eq_false (fun q => nomatch q)
theorem key_rl (a : Str) (b : Int) : decide ((Sum.inr a : Key) = Sum.inl b) = false := decide_eq_false (fun q => nomatch q)
def mixKind (prog : Program) (w : World) : PySem.KeyKind prog w Key where
  is := keyIs
  hash := keyH w
  inj := fun v a b ha hb => by
    rcases keyIs_shape ha with ⟨i, t, rfl, rfl⟩ | ⟨x, t, rfl, rfl⟩
    · rcases keyIs_shape hb with ⟨j, u, rfl, e⟩ | ⟨y, u, rfl, e⟩
      · injection e with e1 _; rw [e1]
      · exact nomatch e
    · rcases keyIs_shape hb with ⟨j, u, rfl, e⟩ | ⟨y, u, rfl, e⟩
      · exact nomatch e
      · injection e with e1 _; rw [e1]
  byValue := fun k v h => by
    rcases keyIs_shape h with ⟨i, t, rfl, rfl⟩ | ⟨x, t, rfl, rfl⟩ <;> rfl
  pyHash := fun hv h => by
    rcases keyIs_shape hv with ⟨i, t, rfl, rfl⟩ | ⟨x, t, rfl, rfl⟩
    · exact wpAny_pyHash_int h
    · exact wpAny_pyHash_str h
  eqBool := fun hu hv h => by
    rcases keyIs_shape hu with ⟨i, t, rfl, rfl⟩ | ⟨x, t, rfl, rfl⟩
    · rcases keyIs_shape hv with ⟨j, u, rfl, rfl⟩ | ⟨y, u, rfl, rfl⟩
      · rw [key_ll] at h; exact wpAny_eqBool_int h
      · rw [key_lr] at h; exact SeqAt.EqAt.int_str i t y u _ _ _ _ h
    · rcases keyIs_shape hv with ⟨j, u, rfl, rfl⟩ | ⟨y, u, rfl, rfl⟩
      · rw [key_rl] at h; exact SeqAt.EqAt.str_int x t j u _ _ _ _ h
      · rw [key_rr] at h; exact wpAny_eqBool_str h
  «strs» := fun k x t v h => by
    rcases keyIs_shape h with ⟨i, u, rfl, e⟩ | ⟨y, u, rfl, e⟩
    · exact nomatch e
    · injection e with e1 _
      subst e1
      cases v <;> rfl
theorem mixKind_int (prog : Program) (w : World) (i : Int) (t : Tok) : (mixKind prog w).is (.inl i) (.int i t) = true := keyIs_int i t
theorem mixKind_str (prog : Program) (w : World) (x : Str) (t : Tok) : (mixKind prog w).is (.inr x) (.str x t) = true := keyIs_str x t
end L2
namespace L2
open PySem PySem.Spec PyProof.Rows
inductive V where
  | non | bl (b : Bool) | int (i : Int) | str (x : Str) | byt (b : Array UInt8) | flt (b : UInt64) | ref (a : Addr) | ty (n : String)
  deriving DecidableEq
def RelV : V → Value → Prop
  | .non, u => u = Value.none
  | .bl b, u => u = Value.bool b
  | .int i, u => ∃ t, u = Value.int i t
  | .str x, u => ∃ t, u = Value.str x t
  | .byt b, u => ∃ t, u = Value.bytes b t
  | .flt b, u => ∃ t, u = Value.float b t
  | .ref a, u => u = Value.ref a
  | .ty n, u => u = Value.type n
abbrev Vals : List V → List Value → Prop := Paired RelV
theorem Vals.length {xs : List V} {us : List Value} (r : Vals xs us) : xs.length = us.length := Paired.length r
theorem Vals.get : ∀ {xs : List V} {us : List Value} {i : Nat} {x : V}, Vals xs us → xs[i]? = some x → ∃ u, us[i]? = some u ∧ RelV x u
  | _, _, _, _, .nil, e => by simp at e
  | _, _, 0, _, .cons r _, e => by simp at e; subst e; exact ⟨_, rfl, r⟩
  | _, _, i + 1, x, .cons _ t, e => by
    obtain ⟨u, h1, h2⟩ := Vals.get (i := i) (x := x) t (by simpa using e)
    exact ⟨u, by simpa using h1, h2⟩
theorem Vals.set {x : V} {u : Value} (r : RelV x u) : ∀ {xs : List V} {us : List Value} (i : Nat), Vals xs us → Vals (xs.set i x) (us.set i u)
  | _, _, _, .nil => .nil
  | _, _, 0, .cons _ t => .cons r t
  | _, _, i + 1, .cons q t => .cons q (Vals.set r i t)
theorem Vals.append : ∀ {xs ys : List V} {us ws : List Value}, Vals xs us → Vals ys ws → Vals (xs ++ ys) (us ++ ws)
  | _, _, _, _, .nil, s => s
  | _, _, _, _, .cons r t, s => .cons r (Vals.append t s)
theorem Vals.take : ∀ {xs : List V} {us : List Value} (n : Nat), Vals xs us → Vals (xs.take n) (us.take n)
  | _, _, 0, _ => .nil
  | _, _, _ + 1, .nil => .nil
  | _, _, n + 1, .cons r t => .cons r (Vals.take n t)
theorem Vals.drop : ∀ {xs : List V} {us : List Value} (n : Nat), Vals xs us → Vals (xs.drop n) (us.drop n)
  | _, _, 0, r => r
  | _, _, _ + 1, .nil => .nil
  | _, _, n + 1, .cons _ t => Vals.drop n t
def RelO : Option V → Option Value → Prop
  | some v, some u => RelV v u
  | none, none => True
  | _, _ => False
def KV {κ : Type} : List (κ × V) → List (κ × Value) → Prop := Paired fun (p : κ × V) (q : κ × Value) => p.1 = q.1 ∧ RelV p.2 q.2
def kV : Key → V
  | .inl i => .int i
  | .inr x => .str x
inductive HO where
  /-- a list -/
  | lst (xs : List V)
  /-- a tuple (never changes) -/
  | tup (xs : List V)
  /-- a dict whose keys are ints and texts; one whose keys are tuples of ints and texts (the empty one is both) -/
  | dK (kvs : List (Key × V)) | dT (kvs : List (List Key × V))
  /-- a set of ints: its members, its size -/
  | set (S : Int → Bool) (n : Nat)
  /-- an instance of the class at C, its dict at dx, its attributes -/
  | ins (C dx : Addr) (fs : List (Str × V))
  /-- the dict of the instance at x -/
  | own (x : Addr)
  /-- the dict of an exception -/
  | xd (fs : List (Str × V))
  /-- a bound method, f of x -/
  | met (f x : Addr)
  /-- a range object lo, lo + 1, .. below hi -/
  | rng (lo hi : Int)
  /-- a thing that is known to the object (the script; a dict while a loop walks it): read, never written while it is so -/
  | frz (o : Obj) (u : HO)
  /-- a code object's table -/
  | tbl (ps : Array Value)
  /-- any other thing, by what is true of its one object (a def of one's own: SetO a S n := HO.ext fun h => ..) -/
  | ext (φ : Heap → Prop)
abbrev Hp := Addr → Option HO
def upd (H : Hp) (a : Addr) (o : HO) : Hp := fun b => if b = a then some o else H b
theorem upd_same {H : Hp} {a : Addr} {o : HO} : upd H a o a = some o := by unfold upd; rw [if_pos rfl]
theorem upd_ne {H : Hp} {a b : Addr} {o : HO} (h : b ≠ a) : upd H a o b = H b := by unfold upd; rw [if_neg h]
theorem upd_upd {H : Hp} {a : Addr} {o u : HO} : upd (upd H a o) a u = upd H a u := by
  funext b; unfold upd; split <;> rfl
theorem ne_of {H : Hp} {a b : Addr} {o u : HO} (h : H a = some o) (h' : H b = some u) (d : o ≠ u) : a ≠ b := by
  intro e; subst e; rw [h] at h'; exact d (Option.some.inj h')
theorem ne_of_none {H : Hp} {a b : Addr} {o : HO} (h : H a = some o) (h' : H b = none) : a ≠ b := by
  intro e; subst e; rw [h] at h'; cases h'
section
variable (P : Program) (w : World)
def ObjOk (H : Hp) (h : Heap) (a : Addr) : HO → Prop
  | .lst xs => xs.length ≤ sizeLine ∧ ∃ (its : List Value) (n : Nat), Vals xs its ∧ h.get? a = some { cls := .type "list", data := .seq its.toArray n }
  | .tup xs => xs.length ≤ sizeLine ∧ ∃ its : List Value, Vals xs its ∧ IsTup h a its.toArray
  | .dK kvs => kvs.length ≤ sizeLine ∧ (a == sysModules) = false ∧ ∃ vs, KV kvs vs ∧ h.DictOf (mixKind P w) a vs
  | .dT kvs => kvs.length ≤ sizeLine ∧ (a == sysModules) = false ∧ ∃ xs : List (List Key × Addr × Value),
      Paired (fun (p : List Key × V) (q : List Key × Addr × Value) => p.1 = q.1 ∧ H q.2.1 = some (.tup (p.1.map kV)) ∧ RelV p.2 q.2.2) kvs xs ∧
      ∃ o es ep, h.get? a = some o ∧ o.ExactDict ∧ o.data = .dict es ep ∧ es.toList = xs.map (entryOfKey (tupleKind (mixKind P w))) ∧ (xs.map (·.1)).Nodup
  | .set S n => h.SetOf (intKind P w) a S n
  | .ins C dx fs => H dx = some (.own a) ∧ fs.length ≤ 1000 ∧ dx ≠ a ∧ h.get? a = some (PySem.W.instObj C dx) ∧
      ∃ mA, h.Ns1 dx mA ∧ (∀ f, RelO (fs.lookup f) (mA f)) ∧ PySem.Within mA (fs.map (·.1))
  | .own _ => ∃ o, h.get? a = some o
  | .xd fs => ∃ mA, h.Ns1 a mA ∧ ∀ f, RelO (fs.lookup f) (mA f)
  | .rng lo hi => ∃ t u v, h.get? a = some { cls := .type "range", data := .fields #[.int lo t, .int hi u, .int 1 v] }
  | .frz o u => h.get? a = some o ∧ ObjOk H h a u
  | .tbl ps => h.get? a = some { cls := .none, data := .fields ps }
  | .met f x => h.get? a = some (PySem.W.methodObj (.ref f) (.ref x))
  | .ext φ => φ h ∧ (∃ o, h.get? a = some o) ∧ ∀ h1 h2 : Heap, φ h1 → (∀ o, h1.get? a = some o → h2.get? a = some o) → φ h2
def HOk (H : Hp) (h : Heap) : Prop := ∀ a o, H a = some o → ObjOk P w H h a o
end
section
variable {P : Program} {w : World} {H H' : Hp} {h h' : Heap} {a : Addr} {o : HO}
theorem ObjOk.lt (x : ObjOk P w H h a o) : a < h.objs.size := by
  cases o with
  | lst xs => obtain ⟨_, _, _, _, e⟩ := x; exact Heap.lt_size e
  | tup xs => obtain ⟨_, _, _, p⟩ := x; exact p.lt
  | dK kvs => obtain ⟨_, _, _, _, o, _, _, e, _⟩ := x; exact Heap.lt_size e
  | dT kvs => obtain ⟨_, _, _, _, o, _, _, e, _⟩ := x; exact Heap.lt_size e
  | set S n => obtain ⟨o, _, _, _, e, _⟩ := x; exact Heap.lt_size e
  | ins C dx fs => obtain ⟨_, _, _, e, _⟩ := x; exact Heap.lt_size e
  | own y => obtain ⟨_, e⟩ := x; exact Heap.lt_size e
  | xd fs => obtain ⟨_, ⟨_, _, _, e, _⟩, _⟩ := x; exact Heap.lt_size e
  | rng lo hi => obtain ⟨_, _, _, e⟩ := x; exact Heap.lt_size e
  | frz ob u => obtain ⟨e, _⟩ := x; exact Heap.lt_size e
  | tbl ps => exact Heap.lt_size (show h.get? a = some _ from x)
  | met f y => exact Heap.lt_size (show h.get? a = some _ from x)
  | ext φ => obtain ⟨_, ⟨_, e⟩, _⟩ := x; exact Heap.lt_size e
theorem Paired.mapP {α β : Type} {F G : α → β → Prop} : ∀ {l₁ : List α} {l₂ : List β}, Paired F l₁ l₂ → (∀ a b, F a b → G a b) → Paired G l₁ l₂
  | _, _, .nil, _ => .nil
  | _, _, .cons r t, f => .cons (f _ _ r) (Paired.mapP t f)
theorem ObjOk.stay (x : ObjOk P w H h a o) (k : ∀ b u, (b = a ∨ H b = some (.own a)) → h.get? b = some u → h'.get? b = some u)
    (ho : ∀ b, H b = some (.own a) → H' b = some (.own a)) (ht : ∀ b xs, H b = some (.tup xs) → H' b = some (.tup xs)) : ObjOk P w H' h' a o := by
  induction o with
  | lst xs => obtain ⟨z, its, n, r, e⟩ := x; exact ⟨z, its, n, r, k _ _ (.inl rfl) e⟩
  | tup xs => obtain ⟨z, its, r, ob, e, c⟩ := x; exact ⟨z, its, r, ob, k _ _ (.inl rfl) e, c⟩
  | dK kvs => obtain ⟨z, y, vs, r, ob, es, ep, e, c⟩ := x; exact ⟨z, y, vs, r, ob, es, ep, k _ _ (.inl rfl) e, c⟩
  | dT kvs =>
    obtain ⟨z, y, xs, r, ob, es, ep, e, c⟩ := x
    exact ⟨z, y, xs, Paired.mapP r fun p q z => ⟨z.1, ht _ _ z.2.1, z.2.2⟩, ob, es, ep, k _ _ (.inl rfl) e, c⟩
  | set S n => obtain ⟨ob, es, ep, t, e, c⟩ := x; exact ⟨ob, es, ep, t, k _ _ (.inl rfl) e, c⟩
  | ins C dx fs =>
    obtain ⟨d, z, ne, e, mA, ⟨od, es, ep, e2, c⟩, r⟩ := x
    exact ⟨ho _ d, z, ne, k _ _ (.inl rfl) e, mA, ⟨od, es, ep, k _ _ (.inr d) e2, c⟩, r⟩
  | own y => obtain ⟨ob, e⟩ := x; exact ⟨ob, k _ _ (.inl rfl) e⟩
  | xd fs => obtain ⟨mA, ⟨od, es, ep, e, c⟩, r⟩ := x; exact ⟨mA, ⟨od, es, ep, k _ _ (.inl rfl) e, c⟩, r⟩
  | rng lo hi => obtain ⟨t, u, v, e⟩ := x; exact ⟨t, u, v, k _ _ (.inl rfl) e⟩
  | frz ob u ih => obtain ⟨e, q⟩ := x; exact ⟨k _ _ (.inl rfl) e, ih q⟩
  | tbl ps =>
    have e : h.get? a = some { cls := .none, data := .fields ps } := x
    show h'.get? a = some { cls := .none, data := .fields ps }
    exact k a _ (.inl rfl) e
  | met f y =>
    have e : h.get? a = some (PySem.W.methodObj (.ref f) (.ref y)) := x
    show h'.get? a = some (PySem.W.methodObj (.ref f) (.ref y))
    exact k a _ (.inl rfl) e
  | ext φ => obtain ⟨p, ⟨o, e⟩, st⟩ := x; exact ⟨st _ _ p fun o q => k _ _ (.inl rfl) q, ⟨o, k _ _ (.inl rfl) e⟩, st⟩
theorem HOk.lt (x : HOk P w H h) (e : H a = some o) : a < h.objs.size := (x a o e).lt
theorem HOk.fresh (x : HOk P w H h) (e : h.objs.size ≤ a) : H a = none := by
  cases q : H a with
  | none => rfl
  | some u => exact absurd (Nat.lt_of_lt_of_le (x.lt q) e) (Nat.lt_irrefl _)
theorem HOk.kept (x : HOk P w H h) (k : ∀ b u, h.get? b = some u → h'.get? b = some u) : HOk P w H h' := fun a o e =>
  (x a o e).stay (fun b u _ q => k b u q) (fun _ q => q) fun _ _ q => q
theorem HOk.laid (x : HOk P w H h) (k : ∀ b u, h.get? b = some u → h'.get? b = some u) (hp : h.objs.size ≤ a) (new : ObjOk P w (upd H a o) h' a o) : HOk P w (upd H a o) h' := fun b u e => by
  have hn := x.fresh hp
  by_cases hb : b = a
  · subst hb; rw [upd_same] at e; cases e; exact new
  · rw [upd_ne hb] at e
    exact (x b u e).stay (fun c v _ q => k c v q) (fun c q => by rw [upd_ne (ne_of_none q hn)]; exact q) fun c xs q => by rw [upd_ne (ne_of_none q hn)]; exact q
end
def Rd (H : Hp) (a : Addr) (u : HO) : Prop := H a = some u ∨ ∃ o, H a = some (.frz o u)
theorem Rd.ok {P : Program} {w : World} {H : Hp} {h : Heap} {a : Addr} {u : HO} (r : Rd H a u) (x : HOk P w H h) : ObjOk P w H h a u := by
  rcases r with r | ⟨o, r⟩
  · exact x a u r
  · obtain ⟨_, q⟩ := x a _ r
    exact q
def Mut : Option HO → Prop
  | some (.lst _) => True
  | some (.dK _) => True
  | some (.dT _) => True
  | some (.set _ _) => True
  | some (.ins _ _ _) => True
  | some (.ext _) => True
  | _ => False
section
variable {P : Program} {w : World} {H : Hp} {h h' : Heap} {x e : Addr} {o' : HO}
theorem HOk.write (ok : HOk P w H h) (mu : Mut (H x)) (he : e = x ∨ H e = some (.own x)) (k : ∀ b u, b ≠ e → h.get? b = some u → h'.get? b = some u) (heo : ∃ u, h'.get? e = some u)
    (new : ObjOk P w (upd H x o') h' x o') : HOk P w (upd H x o') h' := fun b u q => by
  have nown : ∀ c y, H c = some (.own y) → c ≠ x := fun c y r z => by subst z; rw [r] at mu; exact mu
  have ntup : ∀ c xs, H c = some (.tup xs) → c ≠ x := fun c xs r z => by subst z; rw [r] at mu; exact mu
  by_cases hb : b = x
  · subst hb; rw [upd_same] at q; cases q; exact new
  · rw [upd_ne hb] at q
    by_cases hbe : b = e
    · have q' : H b = some (.own x) := by
        rcases he with z | z
        · exact absurd (hbe.trans z) hb
        · rw [hbe]; exact z
      rw [q] at q'; cases q'
      obtain ⟨v, hv⟩ := heo
      exact ⟨v, by rw [hbe]; exact hv⟩
    · refine (ok b u q).stay (fun c v hc r => k c v ?_ r) (fun c r => by rw [upd_ne (nown c b r)]; exact r) fun c xs r => by rw [upd_ne (ntup c xs r)]; exact r
      rcases hc with rfl | hc
      · exact hbe
      · rintro rfl
        rcases he with z | z
        · exact nown c b hc z
        · rw [hc] at z; cases z; exact hb rfl
end
structure Un (fs ex : List Addr) (H H' : Hp) (h h' : Heap) : Prop where
  keep : ∀ b o, h.get? b = some o → H b = none → b ∉ fs → b ∉ ex → h'.get? b = some o
  slot : ∀ b o, h.get? b = some o → H b = none → b ∈ fs → b ∉ ex → ∃ sl, h'.get? b = some { o with slots := sl }
  free : ∀ b o, h.get? b = some o → H b = none → b ∉ ex → H' b = none
  there : ∀ b o, h.get? b = some o → b ∉ ex → ∃ o', h'.get? b = some o'
  tups : ∀ b xs, H b = some (.tup xs) → H' b = some (.tup xs)
  frzs : ∀ b o u, H b = some (.frz o u) → H' b = some (.frz o u)
  tbls : ∀ b ps, H b = some (.tbl ps) → ∃ more, H' b = some (.tbl (ps ++ more))
section
variable {fs fs' ex ex' : List Addr} {H H1 H2 : Hp} {h h1 h2 h' : Heap} {a x e : Addr} {o : HO}
theorem Un.any (u : Un fs ex H H1 h h1) {b : Addr} {ob : Obj} (q : h.get? b = some ob) (n : H b = none) (hx : b ∉ ex) : ∃ sl, h1.get? b = some { ob with slots := sl } := by
  by_cases hb : b ∈ fs
  · exact u.slot b ob q n hb hx
  · exact ⟨ob.slots, u.keep b ob q n hb hx⟩
theorem Un.kept (k : ∀ b u, h.get? b = some u → h'.get? b = some u) : Un fs ex H H h h' :=
  ⟨fun b ob q _ _ _ => k b ob q, fun b ob q _ _ _ => ⟨ob.slots, k b ob q⟩, fun _ _ _ n _ => n, fun b ob q _ => ⟨ob, k b ob q⟩, fun _ _ q => q, fun _ _ _ q => q, fun _ ps q => ⟨#[], by rw [q]; simp⟩⟩
theorem Un.refl : Un fs ex H H h h := Un.kept fun _ _ q => q
theorem Un.laid (k : ∀ b u, h.get? b = some u → h'.get? b = some u) (hp : h.objs.size ≤ a) (hn : H a = none) : Un fs ex H (upd H a o) h h' where
  keep := fun b u q _ _ _ => k b u q
  slot := fun b u q _ _ _ => ⟨u.slots, k b u q⟩
  free := fun b u q n _ => by rw [upd_ne (Nat.ne_of_lt (Nat.lt_of_lt_of_le (Heap.lt_size q) hp))]; exact n
  there := fun b u q _ => ⟨u, k b u q⟩
  tups := fun b xs q => by rw [upd_ne (ne_of_none q hn)]; exact q
  frzs := fun b u xs q => by rw [upd_ne (ne_of_none q hn)]; exact q
  tbls := fun b ps q => ⟨#[], by rw [upd_ne (ne_of_none q hn), q]; simp⟩
theorem Un.write (mu : Mut (H x)) (he : e = x ∨ H e = some (.own x)) (k : ∀ b u, b ≠ e → h.get? b = some u → h'.get? b = some u) (heo : ∃ u, h'.get? e = some u) : Un fs ex H (upd H x o) h h' := by
  have hx : ∀ b, H b = none → b ≠ x := fun b n z => by subst z; rw [n] at mu; exact mu
  have hb : ∀ b, H b = none → b ≠ e := fun b n z => by
    subst z
    rcases he with r | r
    · exact hx b n r
    · rw [n] at r; cases r
  have hm : ∀ b u, H b = some u → ¬ Mut (some u) → b ≠ x := fun b u q nm z => by subst z; rw [q] at mu; exact nm mu
  refine ⟨fun b u q n _ _ => k b u (hb b n) q, fun b u q n _ _ => ⟨u.slots, k b u (hb b n) q⟩, fun b u q n _ => by rw [upd_ne (hx b n)]; exact n, fun b u q _ => ?_,
    fun b xs q => by rw [upd_ne (hm b _ q fun z => z)]; exact q, fun b u xs q => by rw [upd_ne (hm b _ q fun z => z)]; exact q, fun b ps q => ⟨#[], by rw [upd_ne (hm b _ q fun z => z), q]; simp⟩⟩
  by_cases hbe : b = e
  · subst hbe; exact heo
  · exact ⟨u, k b u hbe q⟩
end
def trk (h : Heap) (H : Hp) : List Addr := (List.range h.objs.size).filter fun a => (H a).isSome
def hidT (h : Heap) (H : Hp) : Heap := PySem.W.hideAll h (trk h H)
theorem hidT_size (h : Heap) (H : Hp) : (hidT h H).objs.size = h.objs.size := PySem.W.hideAll_size _ _
theorem hidT_get {h : Heap} {H : Hp} {b : Addr} {o : Obj} (e : h.get? b = some o) (n : H b = none) : (hidT h H).get? b = some o :=
  PySem.W.hideAll_get _ e fun hm => by
    have q : (H b).isSome = true := (List.mem_filter.mp hm).2
    rw [n] at q; simp at q
theorem of_hidT {h : Heap} {H : Hp} {b : Addr} {o : Obj} (e : (hidT h H).get? b = some o) : h.get? b = some o ∧ H b = none := by
  have e' : h.get? b = some o := PySem.W.of_hideAll (trk h H) e
  refine ⟨e', ?_⟩
  cases q : H b with
  | none => rfl
  | some x =>
    have hm : b ∈ trk h H := List.mem_filter.mpr ⟨List.mem_range.mpr (Heap.lt_size e'), by simp [q]⟩
    have z : (hidT h H).get? b = none := PySem.W.hideAll_none (trk h H) hm
    rw [z] at e; cases e
end L2
namespace L2
open PySem PySem.Spec PyProof.Rows
structure Mod (K : PySem.W.Frag) (mg : Str → Option Value) (base : Heap) : Prop where
  kin : K.In base
  glob : base.Ns mainGlobals mg
  blt : ∃ mb, base.Ns builtinsNs mb ∧ ∀ x : Str, x ≠ "__name__" → mb x = bootBuiltins x
  nolimit : base.NoLimit
structure Cx where
  prog : Program
  w : World
  K : PySem.W.Frag
  mg : Str → Option Value
  base : Heap
  A : Around
  N : List Str
  s₀ : Shared
  H₀ : Hp
  env : Env
  outer : List Env
  stack : List Env
  ex : List Addr
  fn : Str → Bool
  calm : Bool
  pn : List (Addr × Obj)
  xe : Value → Shared → Prop
def frs (l : List Env) : List Addr := l.filterMap (·.frame)
abbrev Cx.fs (X : Cx) : List Addr := frs X.outer
def Vis (sc : Scope) (x : Str) : Prop := sc.names.lookup x = some .local ∨ sc.names.lookup x = some .cell ∨ sc.names.lookup x = some .free
def Loc (sc : Scope) (x : Str) : Prop := sc.names.lookup x = some .local ∨ sc.names.lookup x = some .cell
def Look (env : Env) (h : Heap) (m : Str → Option Value) (x : Str) (u : Value) : Prop :=
  (env.kindOf x = some .local ∧ m x = some u) ∨ ((env.kindOf x = some .cell ∨ env.kindOf x = some .free) ∧ ∃ c, env.cells.lookup x = some c ∧ h.IsCell c (some u))
structure Cx.Ok (X : Cx) : Prop where
  mod : Mod X.K X.mg X.base
  kind : X.env.scope.kind = .function
  glob : X.env.globals = mainGlobals
  blt : X.env.builtins = builtinsNs
  above : X.s₀.heap.objs.size ≤ X.env.locals
  inj : ∀ x y c, X.env.cells.lookup x = some c → X.env.cells.lookup y = some c → x = y
  has : ∀ x, (X.env.kindOf x = some .cell ∨ X.env.kindOf x = some .free) → ∃ c, X.env.cells.lookup x = some c
  cab : ∀ x c, X.fn x = true → X.env.cells.lookup x = some c → X.s₀.heap.objs.size ≤ c
  hd : X.calm = true → X.A.handled = none
  frames : X.A.frames = some X.stack
  stk : X.stack = X.outer ∨ (X.stack = X.env :: X.outer ∧ X.env.frame = some X.env.locals)
  exf : ∀ b ∈ X.ex, b ≠ X.env.locals ∧ ∀ x c, X.env.cells.lookup x = some c → c ≠ b
  bs : ∀ b o, X.base.get? b = some o → X.s₀.heap.get? b = some o ∧ X.H₀ b = none
  bsz : X.base.objs.size ≤ X.s₀.heap.objs.size
  noex : ∀ b o, X.base.get? b = some o → b ∉ X.ex
  exfs : ∀ b ∈ X.ex, b ∉ X.fs
  funs : X.s₀.heap.FunFrames X.base X.outer
  frf : ∀ b ∈ X.fs, X.H₀ b = none
structure Inv (X : Cx) (pins : List (Addr × Obj)) (σ : List (Option V)) (H : Hp) (s : Shared) : Prop where
  ok : X.Ok
  os : s.os = X.s₀.os
  bare : AllBare s.gens
  base : Un X.fs X.ex X.H₀ H X.s₀.heap s.heap
  loc : ∃ m, s.heap.Ns X.env.locals m ∧ ∀ (i : Nat) (x : Str) (v : V), X.N[i]? = some x → σ[i]? = some (some v) → Vis X.env.scope x → ∃ u, RelV v u ∧ Look X.env s.heap m x u
  cell : ∀ x c, X.env.cells.lookup x = some c → ∃ v, s.heap.IsCell c v
  free : H X.env.locals = none
  freeC : ∀ x c, X.env.cells.lookup x = some c → H c = none
  pin : ∀ p ∈ X.pn ++ pins, s.heap.get? p.1 = some p.2 ∧ H p.1 = none ∧ p.1 ≠ X.env.locals ∧ p.1 ∉ X.fs ∧ ∀ v, p.2.data ≠ .cell v
  hok : HOk X.prog X.w H s.heap
  len : σ.length = X.N.length
section
variable {X : Cx} {pins : List (Addr × Obj)} {σ : List (Option V)} {H H' : Hp} {s : Shared} {h' : Heap}
theorem Cx.Ok.nofr (ok : X.Ok) {b : Addr} {o : Obj} (e : X.base.get? b = some o) : b ∉ X.fs := fun hb => by
  have := (ok.funs.mem hb).1
  rw [e] at this; cases this
theorem Inv.bs (I : Inv X pins σ H s) : ∀ b o, X.base.get? b = some o → s.heap.get? b = some o ∧ H b = none := fun b o e =>
  ⟨I.base.keep b o (I.ok.bs b o e).1 (I.ok.bs b o e).2 (I.ok.nofr e) (I.ok.noex b o e), I.base.free b o (I.ok.bs b o e).1 (I.ok.bs b o e).2 (I.ok.noex b o e)⟩
theorem Inv.bk (I : Inv X pins σ H s) : ∀ b o, X.base.get? b = some o → s.heap.get? b = some o := fun b o e => (I.bs b o e).1
theorem Inv.mod (I : Inv X pins σ H s) : Mod X.K X.mg X.base := I.ok.mod
theorem Inv.kIn (I : Inv X pins σ H s) : X.K.In s.heap := I.ok.mod.kin.keeps I.bk
theorem Inv.lt (I : Inv X pins σ H s) : X.env.locals < s.heap.objs.size := let ⟨_, hn, _⟩ := I.loc; hn.lt
theorem Inv.sz (I : Inv X pins σ H s) : X.s₀.heap.objs.size ≤ s.heap.objs.size := Nat.le_trans I.ok.above (Nat.le_of_lt I.lt)
theorem Inv.nofs (I : Inv X pins σ H s) {a : Addr} (h : s.heap.objs.size ≤ a) : a ∉ X.fs := fun hb => by
  obtain ⟨_, o, ho, _⟩ := I.ok.funs.mem hb
  exact absurd (Nat.lt_of_lt_of_le (Heap.lt_size ho) (Nat.le_trans I.sz h)) (Nat.lt_irrefl _)
theorem Inv.cne (I : Inv X pins σ H s) : ∀ x c, X.env.cells.lookup x = some c → c ≠ X.env.locals := fun x c e z => by
  obtain ⟨v, o, ho, hd⟩ := I.cell x c e
  obtain ⟨m, ⟨o', es, ep, ho', hd', _⟩, _⟩ := I.loc
  rw [z, ho'] at ho; cases ho; rw [hd'] at hd; cases hd
theorem Inv.funs (I : Inv X pins σ H s) : s.heap.FunFrames X.base X.outer := by
  have all : ∀ (l : List Env), (∀ b ∈ frs l, b ∈ X.fs) → X.s₀.heap.FunFrames X.base l → s.heap.FunFrames X.base l := by
    intro l
    induction l with
    | nil => intro _ _; trivial
    | cons env r ih =>
      intro hs hl
      obtain ⟨hk, ⟨L, o, hf, hn, ho, hd⟩, hr⟩ := hl
      have hL : L ∈ X.fs := hs L (by unfold frs; rw [List.filterMap_cons, hf]; exact List.mem_cons_self)
      obtain ⟨sl, e⟩ := I.base.slot L o ho (I.ok.frf L hL) hL fun z => I.ok.exfs L z hL
      exact ⟨hk, ⟨L, _, hf, hn, e, hd⟩, ih (fun b hb => hs b (by unfold frs; rw [List.filterMap_cons, hf]; exact List.mem_cons_of_mem _ hb)) hr⟩
  exact all X.outer (fun _ hb => hb) I.ok.funs
theorem Inv.stack (I : Inv X pins σ H s) : s.heap.FunFrames X.base X.stack := by
  rcases I.ok.stk with e | ⟨e, hf⟩
  · rw [e]; exact I.funs
  · rw [e]
    obtain ⟨m, hn, _⟩ := I.loc
    refine .cons (by rw [I.ok.kind]; decide) hf hn ?_ I.funs
    exact Heap.get?_none_of_le (Nat.le_trans I.ok.bsz I.ok.above)
theorem Inv.stkSub (I : Inv X pins σ H s) : ∀ b ∈ frs X.stack, b ∈ X.env.locals :: X.fs := fun b hb => by
  rcases I.ok.stk with e | ⟨e, hf⟩
  · rw [e] at hb; exact List.mem_cons_of_mem _ hb
  · rw [e] at hb
    unfold frs at hb
    rw [List.filterMap_cons, hf] at hb
    exact hb
theorem Inv.stkFree (I : Inv X pins σ H s) : ∀ b ∈ frs X.stack, H b = none := fun b hb => by
  rcases List.mem_cons.mp (I.stkSub b hb) with e | hb
  · rw [e]; exact I.free
  · obtain ⟨_, o, ho, _⟩ := I.ok.funs.mem hb
    exact I.base.free b o ho (I.ok.frf b hb) fun z => I.ok.exfs b z hb
theorem Inv.step {g' : Array GenState} {t' : Nat} {d' : Drawn} {ch : List Addr} (I : Inv X pins σ H s)
    (hch : ∀ b ∈ ch, (b ∈ X.ex ∨ X.s₀.heap.objs.size ≤ b) ∧ b ≠ X.env.locals ∧ (∀ x c, X.env.cells.lookup x = some c → c ≠ b) ∧ ∀ p ∈ X.pn ++ pins, p.1 ≠ b)
    (keep : ∀ b o, b ≠ X.env.locals → b ∉ X.fs → b ∉ ch → s.heap.get? b = some o → H b = none → h'.get? b = some o)
    (slot : ∀ b o, b ≠ X.env.locals → b ∈ X.fs → b ∉ ch → s.heap.get? b = some o → H b = none → ∃ sl, h'.get? b = some { o with slots := sl }) (free : ∀ b o, b ∉ ch → s.heap.get? b = some o → H b = none → H' b = none)
    (there : ∀ b o, b ∉ ch → s.heap.get? b = some o → ∃ o', h'.get? b = some o')
    (tups : ∀ b xs, H b = some (.tup xs) → H' b = some (.tup xs)) (frzs : ∀ b o u, H b = some (.frz o u) → H' b = some (.frz o u)) (tbls : ∀ b ps, H b = some (.tbl ps) → ∃ more, H' b = some (.tbl (ps ++ more)))
    (ns : ∀ m, s.heap.Ns X.env.locals m → h'.Ns X.env.locals m) (hok : HOk X.prog X.w H' h') (hg : AllBare g') :
    Inv X pins σ H' { s with heap := h', gens := g', drawn := d', toks := t' } := by
  have neL : ∀ b o, X.s₀.heap.get? b = some o → b ≠ X.env.locals := fun b o e => Nat.ne_of_lt (Nat.lt_of_lt_of_le (Heap.lt_size e) I.ok.above)
  have neC : ∀ b o, X.s₀.heap.get? b = some o → b ∉ X.ex → b ∉ ch := fun b o e hx hb => by
    rcases (hch b hb).1 with z | z
    · exact hx z
    · exact absurd (Nat.lt_of_lt_of_le (Heap.lt_size e) z) (Nat.lt_irrefl _)
  have cellK : ∀ x c, X.env.cells.lookup x = some c → ∀ v, s.heap.IsCell c v → h'.IsCell c v := fun x c e v ⟨o, ho, hd⟩ => by
    have nch : c ∉ ch := fun z => (hch c z).2.2.1 x c e rfl
    by_cases hc : c ∈ X.fs
    · obtain ⟨sl, q⟩ := slot c o (I.cne x c e) hc nch ho (I.freeC x c e)
      exact ⟨_, q, hd⟩
    · exact ⟨o, keep c o (I.cne x c e) hc nch ho (I.freeC x c e), hd⟩
  refine ⟨I.ok, I.os, hg, ⟨fun b o e n hb hx => ?_, fun b o e n hb hx => ?_, fun b o e n hx => ?_, fun b o e hx => ?_, fun b xs e => tups b xs (I.base.tups b xs e), fun b o xs e => frzs b o xs (I.base.frzs b o xs e), fun b ps e => ?_⟩, ?_, fun x c e => ?_, ?_, fun x c e => ?_, fun p hp => ?_, hok, I.len⟩
  · exact keep b o (neL b o e) hb (neC b o e hx) (I.base.keep b o e n hb hx) (I.base.free b o e n hx)
  · obtain ⟨sl, e1⟩ := I.base.slot b o e n hb hx
    obtain ⟨sl', e2⟩ := slot b _ (neL b o e) hb (neC b o e hx) e1 (I.base.free b o e n hx)
    exact ⟨sl', e2⟩
  · obtain ⟨o', e1⟩ := I.base.there b o e hx
    exact free b o' (neC b o e hx) e1 (I.base.free b o e n hx)
  · obtain ⟨o', e1⟩ := I.base.there b o e hx
    exact there b o' (neC b o e hx) e1
  · obtain ⟨m1, e1⟩ := I.base.tbls b ps e
    obtain ⟨m2, e2⟩ := tbls b _ e1
    exact ⟨m1 ++ m2, by rw [e2, Array.append_assoc]⟩
  · obtain ⟨m, hn, hl⟩ := I.loc
    refine ⟨m, ns m hn, fun i x v e1 e2 e3 => ?_⟩
    obtain ⟨u, r, l⟩ := hl i x v e1 e2 e3
    refine ⟨u, r, ?_⟩
    rcases l with l | ⟨k, c, e, z⟩
    · exact .inl l
    · exact .inr ⟨k, c, e, cellK x c e _ z⟩
  · obtain ⟨v, z⟩ := I.cell x c e
    exact ⟨v, cellK x c e v z⟩
  · obtain ⟨m, ⟨o, _, _, ho, _⟩, _⟩ := I.loc
    exact free _ o (fun z => (hch _ z).2.1 rfl) ho I.free
  · obtain ⟨v, o, ho, hd⟩ := I.cell x c e
    exact free c o (fun z => (hch c z).2.2.1 x c e rfl) ho (I.freeC x c e)
  · obtain ⟨e, n, ne, nf, d⟩ := I.pin p hp
    have nch : p.1 ∉ ch := fun z => (hch p.1 z).2.2.2 p hp rfl
    exact ⟨keep p.1 p.2 ne nf nch e n, free p.1 p.2 nch e n, ne, nf, d⟩
theorem Inv.un {t' : Nat} (I : Inv X pins σ H s) (u : Un X.fs [] H H' s.heap h') (hok : HOk X.prog X.w H' h') : Inv X pins σ H' { s with heap := h', toks := t' } := by
  obtain ⟨m, ⟨o, es, ep, ho, r⟩, _⟩ := id I.loc
  obtain ⟨sl, hL⟩ := u.any ho I.free (by simp)
  exact I.step (g' := s.gens) (d' := s.drawn) (ch := []) (fun _ z => nomatch z) (fun b o _ hb _ e n => u.keep b o e n hb (by simp)) (fun b o _ hb _ e n => u.slot b o e n hb (by simp)) (fun b o _ e n => u.free b o e n (by simp)) (fun b o _ e => u.there b o e (by simp)) u.tups u.frzs u.tbls (fun m' hm => by
    obtain ⟨o', es', ep', ho', r'⟩ := hm
    rw [ho] at ho'; cases ho'
    exact ⟨_, es', ep', hL, r'⟩) hok I.bare
theorem Inv.call {g' : Array GenState} {t' : Nat} {d' : Drawn} {ch : List Addr} (I : Inv X pins σ H s) (u : Un (frs X.stack) ch H H' s.heap h') (hok : HOk X.prog X.w H' h') (hg : AllBare g')
    (hch : ∀ b ∈ ch, (b ∈ X.ex ∨ X.s₀.heap.objs.size ≤ b) ∧ b ≠ X.env.locals ∧ (∀ x c, X.env.cells.lookup x = some c → c ≠ b) ∧ ∀ p ∈ X.pn ++ pins, p.1 ≠ b) :
    Inv X pins σ H' { s with heap := h', gens := g', drawn := d', toks := t' } := by
  obtain ⟨m, ⟨o, es, ep, ho, r⟩, _⟩ := id I.loc
  obtain ⟨sl, hL⟩ := u.any ho I.free fun z => (hch _ z).2.1 rfl
  exact I.step (ch := ch) hch (fun b o hL hb hc e n => u.keep b o e n (fun z => (List.mem_cons.mp (I.stkSub b z)).elim hL hb) hc) (fun b o _ _ hc e n => u.any e n hc) (fun b o hc e n => u.free b o e n hc) (fun b o hc e => u.there b o e hc) u.tups u.frzs u.tbls (fun m' hm => by
    obtain ⟨o', es', ep', ho', r'⟩ := hm
    rw [ho] at ho'; cases ho'
    exact ⟨_, es', ep', hL, r'⟩) hok hg
theorem Inv.turned {t' : Nat} {it : Addr} (I : Inv X pins σ H s) (k : ∀ b o, b ≠ it → s.heap.get? b = some o → h'.get? b = some o) (hn : H it = none) (hL : it ≠ X.env.locals)
    (h1 : it ∈ X.ex ∨ X.s₀.heap.objs.size ≤ it) (h2 : ∀ x c, X.env.cells.lookup x = some c → c ≠ it) (h3 : ∀ p ∈ X.pn ++ pins, p.1 ≠ it) : Inv X pins σ H { s with heap := h', toks := t' } := by
  have nit : ∀ b u, H b = some u → b ≠ it := fun b u e z => by rw [z, hn] at e; cases e
  refine I.step (g' := s.gens) (d' := s.drawn) (ch := [it]) (fun b hb => ?_) (fun b o _ _ hc e _ => k b o (fun z => hc (by simp [z])) e) (fun b o _ _ hc e _ => ⟨o.slots, k b o (fun z => hc (by simp [z])) e⟩) (fun _ _ _ _ n => n)
    (fun b o hc e => ⟨o, k b o (fun z => hc (by simp [z])) e⟩) (fun _ _ e => e) (fun _ _ _ e => e) (fun b ps e => ⟨#[], by rw [e]; simp⟩) (fun m hm => ?_) (fun b u e => ?_) I.bare
  · have e : b = it := by simpa using hb
    subst e
    exact ⟨h1, hL, h2, h3⟩
  · obtain ⟨o, es, ep, ho, r⟩ := hm
    exact ⟨o, es, ep, k _ o (Ne.symm hL) ho, r⟩
  · refine (I.hok b u e).stay (fun c v hc q => k c v ?_ q) (fun _ q => q) fun _ _ q => q
    rcases hc with z | z
    · rw [z]; exact nit b u e
    · exact nit c _ z
theorem Inv.tok (I : Inv X pins σ H s) (t : Nat) : Inv X pins σ H { s with toks := t } := I.un (h' := s.heap) (t' := t) Un.refl I.hok
theorem Inv.kept {t' : Nat} (I : Inv X pins σ H s) (k : ∀ b u, s.heap.get? b = some u → h'.get? b = some u) : Inv X pins σ H { s with heap := h', toks := t' } := I.un (Un.kept k) (I.hok.kept k)
theorem Inv.laid {a : Addr} {o : HO} {t' : Nat} (I : Inv X pins σ H s) (k : ∀ b u, s.heap.get? b = some u → h'.get? b = some u) (hp : s.heap.objs.size ≤ a) (new : ObjOk X.prog X.w (upd H a o) h' a o) :
    Inv X pins σ (upd H a o) { s with heap := h', toks := t' } := I.un (Un.laid k hp (I.hok.fresh hp)) (I.hok.laid k hp new)
theorem Inv.write {x e : Addr} {o : HO} {t' : Nat} (I : Inv X pins σ H s) (mu : Mut (H x)) (he : e = x ∨ H e = some (.own x)) (k : ∀ b u, b ≠ e → s.heap.get? b = some u → h'.get? b = some u) (heo : ∃ u, h'.get? e = some u)
    (new : ObjOk X.prog X.w (upd H x o) h' x o) : Inv X pins σ (upd H x o) { s with heap := h', toks := t' } := I.un (Un.write mu he k heo) (I.hok.write mu he k heo new)
theorem Inv.pins_of {pins' : List (Addr × Obj)} (I : Inv X pins σ H s) (h : ∀ p ∈ pins', s.heap.get? p.1 = some p.2 ∧ H p.1 = none ∧ p.1 ≠ X.env.locals ∧ p.1 ∉ X.fs ∧ ∀ v, p.2.data ≠ .cell v) : Inv X pins' σ H s :=
  ⟨I.ok, I.os, I.bare, I.base, I.loc, I.cell, I.free, I.freeC, fun p hp => (List.mem_append.mp hp).elim (fun z => I.pin p (List.mem_append_left _ z)) (h p), I.hok, I.len⟩
theorem nodup_ix {N : List Str} (hN : N.Nodup) {i j : Nat} {x : Str} (a : N[i]? = some x) (b : N[j]? = some x) : i = j := by
  obtain ⟨h1, e1⟩ := List.getElem?_eq_some_iff.mp a
  obtain ⟨h2, e2⟩ := List.getElem?_eq_some_iff.mp b
  exact (List.getElem_inj hN).mp (e1.trans e2.symm)
theorem store_ok2 {M : Model} {A : Around} {E : Value → Shared → Prop} {i : Nat} {x : Str} {v : V} {u : Value} {Q : Unit → Shared → Prop} (I : Inv X pins σ H s) (hN : X.N.Nodup) (hi : X.N[i]? = some x) (hx : Loc X.env.scope x) (r : RelV v u)
    (h : ∀ s', Inv X pins (σ.set i (some v)) H s' → (∃ a, Heap.SameBut a s.heap s'.heap ∧ (a = X.env.locals ∨ X.env.cells.lookup x = some a)) → Q () s') (hf : X.fn x = true ∨ X.env.scope.names.lookup x = some .local := by first | exact .inl rfl | exact .inr rfl | assumption) : wpAny M A (storeName X.env x u) Q E s := by
  obtain ⟨m, hn, hl⟩ := id I.loc
  have hcls : (X.env.scope.kind == .class || (X.env.scope.kind == .module && X.env.locals != X.env.globals)) = false := by rw [I.ok.kind]; rfl
  have hiσ : i < σ.length := by rw [I.len]; exact (List.getElem?_eq_some_iff.mp hi).1
  have cne := I.cne
  have tracked : ∀ {a : Addr} {h' : Heap}, (∃ o, s.heap.get? a = some o ∧ H a = none) → Heap.SameBut a s.heap h' → HOk X.prog X.w H h' := fun {a h'} ha hs b ob e => by
    obtain ⟨_, _, hfree⟩ := ha
    refine (I.hok b ob e).stay (fun c w' hc q => (hs.2 c ?_).trans q) (fun _ q => q) fun _ _ q => q
    rintro rfl
    rcases hc with rfl | hc
    · rw [hfree] at e; cases e
    · rw [hfree] at hc; cases hc
  rcases hx with hk | hk
  · refine wpAny_storeName_local hk hn (fun h' hn' hs => ?_) hcls
    obtain ⟨oL, _, _, hoL, _⟩ := id hn
    refine h _ ⟨I.ok, I.os, I.bare, ⟨fun b o e n hb hx => ?_, fun b o e n hb hx => ?_, I.base.free, fun b o e hx => ?_, I.base.tups, I.base.frzs, I.base.tbls⟩, ⟨_, hn', fun j y v' e1 e2 e3 => ?_⟩, fun y c e => ?_, I.free, I.freeC, fun p hp => ?_, tracked ⟨oL, hoL, I.free⟩ hs, by simpa using I.len⟩ ⟨_, hs, .inl rfl⟩
    · exact (hs.2 b (Nat.ne_of_lt (Nat.lt_of_lt_of_le (Heap.lt_size e) I.ok.above))).trans (I.base.keep b o e n hb hx)
    · obtain ⟨sl, e1⟩ := I.base.slot b o e n hb hx
      exact ⟨sl, (hs.2 b (Nat.ne_of_lt (Nat.lt_of_lt_of_le (Heap.lt_size e) I.ok.above))).trans e1⟩
    · obtain ⟨o', e1⟩ := I.base.there b o e hx
      exact ⟨o', (hs.2 b (Nat.ne_of_lt (Nat.lt_of_lt_of_le (Heap.lt_size e) I.ok.above))).trans e1⟩
    · by_cases hj : j = i
      · subst hj
        rw [hi] at e1; cases e1
        rw [List.getElem?_set_self hiσ] at e2
        cases e2
        exact ⟨u, r, .inl ⟨hk, by simp⟩⟩
      · rw [List.getElem?_set_ne (Ne.symm hj)] at e2
        obtain ⟨u', r', q⟩ := hl j y v' e1 e2 e3
        refine ⟨u', r', ?_⟩
        rcases q with ⟨k, e⟩ | ⟨k, c, e, z⟩
        · refine .inl ⟨k, ?_⟩
          have : y ≠ x := fun e => hj (nodup_ix hN e1 (e ▸ hi))
          simp [this, e]
        · exact .inr ⟨k, c, e, z.sameBut hs (cne y c e)⟩
    · obtain ⟨w', z⟩ := I.cell y c e
      exact ⟨w', z.sameBut hs (cne y c e)⟩
    · obtain ⟨e, n, ne, nf, d⟩ := I.pin p hp
      exact ⟨(hs.2 p.1 ne).trans e, n, ne, nf, d⟩
  · have hfn : X.fn x = true := by
      rcases hf with z | z
      · exact z
      · rw [z] at hk; cases hk
    obtain ⟨c, hc⟩ := I.ok.has x (.inl hk)
    obtain ⟨w', z⟩ := I.cell x c hc
    refine wpAny_storeName_cell I.ok.kind hk hc z (fun h' hc' hs => ?_)
    obtain ⟨oc, hoc, hocd⟩ := id z
    refine h { s with heap := h' } ⟨I.ok, I.os, I.bare, ⟨fun b o e n hb hx => ?_, fun b o e n hb hx => ?_, I.base.free, fun b o e hx => ?_, I.base.tups, I.base.frzs, I.base.tbls⟩, ⟨m, hn.sameBut hs (Ne.symm (cne x c hc)), fun j y v' e1 e2 e3 => ?_⟩, fun y c' e => ?_, I.free, I.freeC, fun p hp => ?_, tracked ⟨oc, hoc, I.freeC x c hc⟩ hs, by simpa using I.len⟩ ⟨c, hs, .inr hc⟩
    · exact (hs.2 b (Nat.ne_of_lt (Nat.lt_of_lt_of_le (Heap.lt_size e) (I.ok.cab x c hfn hc)))).trans (I.base.keep b o e n hb hx)
    · obtain ⟨sl, e1⟩ := I.base.slot b o e n hb hx
      exact ⟨sl, (hs.2 b (Nat.ne_of_lt (Nat.lt_of_lt_of_le (Heap.lt_size e) (I.ok.cab x c hfn hc)))).trans e1⟩
    · obtain ⟨o', e1⟩ := I.base.there b o e hx
      exact ⟨o', (hs.2 b (Nat.ne_of_lt (Nat.lt_of_lt_of_le (Heap.lt_size e) (I.ok.cab x c hfn hc)))).trans e1⟩
    · by_cases hj : j = i
      · subst hj
        rw [hi] at e1; cases e1
        rw [List.getElem?_set_self hiσ] at e2
        cases e2
        exact ⟨u, r, .inr ⟨.inl hk, c, hc, hc'⟩⟩
      · rw [List.getElem?_set_ne (Ne.symm hj)] at e2
        obtain ⟨u', r', q⟩ := hl j y v' e1 e2 e3
        refine ⟨u', r', ?_⟩
        rcases q with q | ⟨k, c', e, z'⟩
        · exact .inl q
        · refine .inr ⟨k, c', e, z'.sameBut hs ?_⟩
          rintro rfl
          exact hj (nodup_ix hN e1 (I.ok.inj _ _ _ e hc ▸ hi))
    · by_cases hcc : c' = c
      · subst hcc; exact ⟨_, hc'⟩
      · obtain ⟨w2, z2⟩ := I.cell y c' e
        exact ⟨w2, z2.sameBut hs hcc⟩
    · obtain ⟨e, n, ne, nf, d⟩ := I.pin p hp
      refine ⟨(hs.2 p.1 ?_).trans e, n, ne, nf, d⟩
      intro q
      rw [q, hoc] at e
      have q' : oc = p.2 := Option.some.inj e
      exact d w' (by rw [← q']; exact hocd)
theorem store_ok {M : Model} {A : Around} {E : Value → Shared → Prop} {i : Nat} {x : Str} {v : V} {u : Value} {Q : Unit → Shared → Prop} (I : Inv X pins σ H s) (hN : X.N.Nodup) (hi : X.N[i]? = some x) (hx : Loc X.env.scope x) (r : RelV v u)
    (h : ∀ s', Inv X pins (σ.set i (some v)) H s' → Q () s') (hf : X.fn x = true ∨ X.env.scope.names.lookup x = some .local := by first | exact .inl rfl | exact .inr rfl | assumption) : wpAny M A (storeName X.env x u) Q E s :=
  store_ok2 I hN hi hx r (fun s' I' _ => h s' I') hf
theorem Inv.call' {s' : Shared} {ch : List Addr} (I : Inv X pins σ H s) (ho : s'.os = s.os) (u : Un (frs X.stack) ch H H' s.heap s'.heap) (hok : HOk X.prog X.w H' s'.heap) (hg : AllBare s'.gens)
    (hch : ∀ b ∈ ch, (b ∈ X.ex ∨ X.s₀.heap.objs.size ≤ b) ∧ b ≠ X.env.locals ∧ (∀ x c, X.env.cells.lookup x = some c → c ≠ b) ∧ ∀ p ∈ X.pn ++ pins, p.1 ≠ b) : Inv X pins σ H' s' := by
  obtain ⟨h', g', d', t', o'⟩ := s'
  have e : o' = s.os := ho
  subst e
  exact I.call (g' := g') (t' := t') (d' := d') u hok hg hch
end
abbrev XK := Value → Option Addr → Hp → Prop
abbrev St := List (Option V)
abbrev VK := V → Hp → Prop
abbrev TE := St → Hp → VK → Prop
abbrev TT := St → Hp → (Bool → Hp → Prop) → Prop
abbrev TA := St → Hp → (List V → Hp → Prop) → Prop
structure Ends where
  nx : St → Hp → Prop
  rt : VK
  bk : St → Hp → Prop := fun _ _ => False
  ct : St → Hp → Prop := fun _ _ => False
abbrev TS := Ends → St → Hp → Prop
def EP (X : Cx) (pins : List (Addr × Obj)) (σ : St) (Q : VK) (u : Value) (s' : Shared) : Prop := ∃ v H', Inv X pins σ H' s' ∧ RelV v u ∧ Q v H'
def TP (X : Cx) (pins : List (Addr × Obj)) (σ : St) (Q : Bool → Hp → Prop) (b : Bool) (s' : Shared) : Prop := ∃ H', Inv X pins σ H' s' ∧ Q b H'
def AP (X : Cx) (pins : List (Addr × Obj)) (σ : St) (Q : List V → Hp → Prop) (us : List Value) (s' : Shared) : Prop := ∃ vs H', Inv X pins σ H' s' ∧ Vals vs us ∧ Q vs H'
def SP (X : Cx) (pins : List (Addr × Obj)) (D : Ends) (f : Flow) (s' : Shared) : Prop :=
  match f with
  | .next => ∃ σ' H', Inv X pins σ' H' s' ∧ D.nx σ' H'
  | .brk => ∃ σ' H', Inv X pins σ' H' s' ∧ D.bk σ' H'
  | .cont => ∃ σ' H', Inv X pins σ' H' s' ∧ D.ct σ' H'
  | .ret u => ∃ v σ' H', Inv X pins σ' H' s' ∧ RelV v u ∧ D.rt v H'
def PE (X : Cx) (e : Expr) (t : TE) : Prop :=
  ∀ (pins : List (Addr × Obj)) (s : Shared) (σ : St) (H : Hp) (Q : VK), Inv X pins σ H s → t σ H Q → wpAny (model X.prog X.w) X.A (eval e X.env) (EP X pins σ Q) X.xe s
def PT (X : Cx) (e : Expr) (t : TT) : Prop :=
  ∀ (pins : List (Addr × Obj)) (s : Shared) (σ : St) (H : Hp) (Q : Bool → Hp → Prop), Inv X pins σ H s → t σ H Q → wpAny (model X.prog X.w) X.A (isTrue e X.env (eval e X.env)) (TP X pins σ Q) X.xe s
def PW (X : Cx) (e : Expr) (t : TT) : Prop :=
  ∀ (whole : Sem Value) (pins : List (Addr × Obj)) (s : Shared) (σ : St) (H : Hp) (Q : Bool → Hp → Prop), Inv X pins σ H s → t σ H Q → wpAny (model X.prog X.w) X.A (isTrue e X.env whole) (TP X pins σ Q) X.xe s
theorem PW.pt {X : Cx} {e : Expr} {t : TT} (h : PW X e t) : PT X e t := h _
def PA (X : Cx) (es : List Expr) (t : TA) : Prop :=
  ∀ (pos : Pos) (pins : List (Addr × Obj)) (s : Shared) (σ : St) (H : Hp) (Q : List V → Hp → Prop), Inv X pins σ H s → t σ H Q → wpAny (model X.prog X.w) X.A (spliced (backTo pos (starEach es X.env))) (AP X pins σ Q) X.xe s
def PS (X : Cx) (st : Stmt) (t : TS) : Prop :=
  ∀ (pins : List (Addr × Obj)) (s : Shared) (σ : St) (H : Hp) (D : Ends), Inv X pins σ H s → t D σ H → wpAny (model X.prog X.w) X.A (exec st X.env) (SP X pins D) X.xe s
def PSs (X : Cx) (st : List Stmt) (t : TS) : Prop :=
  ∀ (pins : List (Addr × Obj)) (s : Shared) (σ : St) (H : Hp) (D : Ends), Inv X pins σ H s → t D σ H → wpAny (model X.prog X.w) X.A (execs st X.env) (SP X pins D) X.xe s
theorem thn {α : Type} {t : Sem α} {Q Q' : α → Shared → Prop} {M : Model} {A : Around} {E : Value → Shared → Prop} {s : Shared} (h : wpAny M A t Q E s) (hQ : ∀ a s, Q a s → Q' a s) : wpAny M A t Q' E s := wpAny_mono h hQ fun _ _ x => x
end L2
namespace L2
open PySem PySem.Spec PyProof.Rows
section
variable {X : Cx}
def tVar (i : Nat) : TE := fun σ H Q => ∃ v, σ[i]? = some (some v) ∧ Q v H
def tC (v : V) : TE := fun _ H Q => Q v H
theorem pe_var {i : Nat} {x : Str} {pos : Pos} (hN : X.N[i]? = some x) (hv : Vis X.env.scope x) (hd : (x == ("__debug__" : Str)) = false := by decide) (hcd : (x == ("__classdict__" : Str)) = false := by decide) : PE X (.Name x pos) (tVar i) := by
  intro pins s σ H Q I h
  obtain ⟨v, e, h⟩ := h
  obtain ⟨m, hn, hl⟩ := I.loc
  obtain ⟨u, r, l⟩ := hl i x v hN e hv
  have fin : EP X pins σ Q u s := ⟨v, H, I, r, h⟩
  rcases l with ⟨hk, hm⟩ | ⟨hk, c, hc, hcell⟩
  · exact wpAny_Name (wpAny_loadName_local I.ok.kind hk hn hm fin) hd
  · rcases hk with hk | hk
    · exact wpAny_Name (wpAny_loadName_cell I.ok.kind hk hc hcell fin) hd
    · exact wpAny_Name (wpAny_loadName_free I.ok.kind hk hc hcell fin hcd) hd
theorem pe_int {i j pos} : PE X (.Constant (.int i) j pos) (tC (.int i)) := fun _ _ _ H _ I h => wpAny_Constant_int ⟨.int i, H, I.tok _, ⟨_, rfl⟩, h⟩
theorem pe_bl {b j pos} : PE X (.Constant (.bool b) j pos) (tC (.bl b)) := fun _ _ _ H _ I h => Constant_bool ⟨.bl b, H, I, rfl, h⟩
def Gl (X : Cx) (x : Str) : Prop := X.env.kindOf x = some .globalImplicit
theorem ld_glob {E : Value → Shared → Prop} {pins : List (Addr × Obj)} {s : Shared} {σ : St} {H : Hp} {x : Str} {u : Value} {pos : Pos} {Q : Value → Shared → Prop} (I : Inv X pins σ H s) (hg : Gl X x) (hm : X.mg x = some u) (h : Q u s)
    (hd : (x == ("__debug__" : Str)) = false := by decide) : wpAny (model X.prog X.w) X.A (eval (.Name x pos) X.env) Q E s :=
  Calls.Name_function_global I.ok.kind hg (Calls.loadGlobal_global (by rw [I.ok.glob]; exact I.mod.glob.keeps I.bk) hm h) hd
theorem ld_blt {E : Value → Shared → Prop} {pins : List (Addr × Obj)} {s : Shared} {σ : St} {H : Hp} {x : Str} {u : Value} {pos : Pos} {Q : Value → Shared → Prop} (I : Inv X pins σ H s) (hg : Gl X x) (hm : X.mg x = none) (hv : bootBuiltins x = some u) (h : Q u s)
    (hn : x ≠ "__name__" := by decide) (hd : (x == ("__debug__" : Str)) = false := by decide) : wpAny (model X.prog X.w) X.A (eval (.Name x pos) X.env) Q E s := by
  obtain ⟨mb, h1, h2⟩ := I.mod.blt
  exact Calls.Name_function_global I.ok.kind hg (Calls.loadGlobal_builtin (by rw [I.ok.glob]; exact I.mod.glob.keeps I.bk) hm (by rw [I.ok.blt]; exact h1.keeps I.bk) ((h2 x hn).trans hv) h) hd
theorem pe_glob {x : Str} {v : V} {u : Value} {pos : Pos} (hg : Gl X x) (hm : X.mg x = some u) (r : RelV v u) (hd : (x == ("__debug__" : Str)) = false := by decide) : PE X (.Name x pos) (tC v) :=
  fun _ _ _ H _ I h => ld_glob I hg hm ⟨v, H, I, r, h⟩ hd
theorem pe_bltn {x : Str} {v : V} {u : Value} {pos : Pos} (hg : Gl X x) (hm : X.mg x = none) (hv : bootBuiltins x = some u) (r : RelV v u) (hn : x ≠ "__name__" := by decide) (hd : (x == ("__debug__" : Str)) = false := by decide) : PE X (.Name x pos) (tC v) :=
  fun _ _ _ H _ I h => ld_blt I hg hm hv ⟨v, H, I, r, h⟩ hn hd
variable {a b : Expr} {ta tb : TE} {pos : Pos}
def PC (X : Cx) (op : CmpOp) (a b : Expr) (t : TE) : Prop :=
  ∀ (pins : List (Addr × Obj)) (s : Shared) (σ : St) (H : Hp) (Q : VK), Inv X pins σ H s → t σ H Q →
    wpAny (model X.prog X.w) X.A (eval a X.env) (fun v s₁ => wpAny (model X.prog X.w) X.A (eval b X.env) (fun u s₂ => wpAny (model X.prog X.w) X.A (compareOp op v u) (EP X pins σ Q) X.xe s₂) X.xe s₁) X.xe s
def tB (t : TE) : TT := fun σ H Q => t σ H fun x H1 => ∃ c, x = .bl c ∧ Q c H1
theorem pt_cmp {op : CmpOp} {t : TE} (h : PC X op a b t) (h1 : behindInMarks op b = false := by first | exact nobehind _ (by decide) (by decide) | rfl) : PT X (.Compare a [op] [b] pos) (tB t) := by
  intro pins s σ H Q I hw
  refine wpAny_isTrue_Compare1 (thn (h pins s σ H _ I hw) fun v s1 h1 => thn h1 fun u s2 h2 => thn h2 fun c s3 ⟨x, H1, I1, r1, q1⟩ => ?_) h1
  obtain ⟨d, rfl, q⟩ := q1
  cases r1
  exact wpAny_truthy_bool ⟨H1, I1, q⟩
theorem pt_val {e : Expr} {t : TE} (h : PE X e t) (he : ∀ whole, isTrue e X.env whole = (do let v ← whole; standAt e.pos; holding [v] (truthy v)) := by intro _; rfl) : PT X e (tB t) := by
  intro pins s σ H Q I hw
  refine isTrue_plain (thn (h pins s σ H _ I hw) fun v s1 ⟨x, H1, I1, r1, q1⟩ => ?_) (he _)
  obtain ⟨d, rfl, q⟩ := q1
  cases r1
  exact wpAny_truthy_bool ⟨H1, I1, q⟩
variable {tA tB' : TT} {rest : List Expr}
def tAnd (t u : TT) : TT := fun σ H Q => t σ H fun c H1 => if c = true then u σ H1 Q else Q false H1
def tOr (t u : TT) : TT := fun σ H Q => t σ H fun c H1 => if c = true then Q true H1 else u σ H1 Q
def tNot (t : TT) : TT := fun σ H Q => t σ H fun c H1 => Q (!c) H1
theorem pw_and1 (ha : PT X a tA) : PW X (.BoolOp .And [a] pos) tA := by
  intro wh pins s σ H Q I h
  refine isTrue_and (thn (ha pins s σ H Q I h) fun c s1 e => ?_)
  cases c with
  | true => exact isTrue_and_nil e
  | false => exact e
theorem pw_or1 (ha : PT X a tA) : PW X (.BoolOp .Or [a] pos) tA := by
  intro wh pins s σ H Q I h
  refine isTrue_or (thn (ha pins s σ H Q I h) fun c s1 e => ?_)
  cases c with
  | false => exact isTrue_or_nil e
  | true => exact e
theorem pw_and (ha : PT X a tA) (hb : PW X (.BoolOp .And (b :: rest) pos) tB') : PW X (.BoolOp .And (a :: b :: rest) pos) (tAnd tA tB') := by
  intro wh pins s σ H Q I h
  refine isTrue_and (thn (ha pins s σ H _ I h) fun c s1 ⟨H1, I1, q1⟩ => ?_)
  cases c with
  | true => exact hb wh pins s1 σ H1 Q I1 q1
  | false => exact ⟨H1, I1, q1⟩
theorem pw_or (ha : PT X a tA) (hb : PW X (.BoolOp .Or (b :: rest) pos) tB') : PW X (.BoolOp .Or (a :: b :: rest) pos) (tOr tA tB') := by
  intro wh pins s σ H Q I h
  refine isTrue_or (thn (ha pins s σ H _ I h) fun c s1 ⟨H1, I1, q1⟩ => ?_)
  cases c with
  | true => exact ⟨H1, I1, q1⟩
  | false => exact hb wh pins s1 σ H1 Q I1 q1
theorem pt_not (ha : PT X a tA) : PT X (.UnaryOp .Not a pos) (tNot tA) := by
  intro pins s σ H Q I h
  exact isTrue_not (ha pins s σ H (fun c H1 => Q (!c) H1) I h)
def tAndV (ta tb : TE) : TE := fun σ H Q => ta σ H fun x H1 => ∃ c, x = .bl c ∧ if c = true then tb σ H1 Q else Q (.bl false) H1
def tOrV (ta tb : TE) : TE := fun σ H Q => ta σ H fun x H1 => ∃ c, x = .bl c ∧ if c = true then Q (.bl true) H1 else tb σ H1 Q
def tNotV (ta : TE) : TE := fun σ H Q => ta σ H fun x H1 => ∃ c, x = .bl c ∧ Q (.bl (!c)) H1
theorem pe_one {op} {t : TE} (h : PE X a t) : PE X (.BoolOp op [a] pos) t := fun pins s σ H Q I hw => BoolOp_one (h pins s σ H Q I hw)
theorem pe_and (ha : PE X a ta) (hb : PE X (.BoolOp .And (b :: rest) pos) tb) : PE X (.BoolOp .And (a :: b :: rest) pos) (tAndV ta tb) := by
  intro pins s σ H Q I h
  refine BoolOp_and (thn (ha pins s σ H _ I h) fun v s1 ⟨x, H1, I1, r1, q1⟩ => ?_)
  obtain ⟨c, rfl, q1⟩ := q1
  cases r1
  refine wpAny_truthy_bool ?_
  cases c with
  | true => exact hb pins s1 σ H1 Q I1 q1
  | false => exact ⟨.bl false, H1, I1, rfl, q1⟩
theorem pe_or (ha : PE X a ta) (hb : PE X (.BoolOp .Or (b :: rest) pos) tb) : PE X (.BoolOp .Or (a :: b :: rest) pos) (tOrV ta tb) := by
  intro pins s σ H Q I h
  refine BoolOp_or (thn (ha pins s σ H _ I h) fun v s1 ⟨x, H1, I1, r1, q1⟩ => ?_)
  obtain ⟨c, rfl, q1⟩ := q1
  cases r1
  refine wpAny_truthy_bool ?_
  cases c with
  | false => exact hb pins s1 σ H1 Q I1 q1
  | true => exact ⟨.bl true, H1, I1, rfl, q1⟩
theorem pe_not (ha : PE X a ta) : PE X (.UnaryOp .Not a pos) (tNotV ta) := by
  intro pins s σ H Q I h
  refine UnaryOp_ (thn (ha pins s σ H _ I h) fun v s1 ⟨x, H1, I1, r1, q1⟩ => ?_)
  obtain ⟨c, rfl, q1⟩ := q1
  cases r1
  exact not_of (wpAny_truthy_bool ⟨.bl (!c), H1, I1, rfl, q1⟩)
end
end L2
namespace L2
open PySem PySem.Spec PyProof.Rows
def SqL (K : PySem.W.Frag) (H : Hp) (a : Addr) (xs : List V) : Prop :=
  Rd H a (.lst xs) ∨
    ∃ (o : Obj) (its : Array Value) (n : Nat), K.lookup a = some o ∧ o.cls = .type "list" ∧ o.dict = none ∧ o.data = .seq its n ∧ its.size ≤ sizeLine ∧ Vals xs its.toList
def SqT (K : PySem.W.Frag) (H : Hp) (a : Addr) (xs : List V) : Prop :=
  Rd H a (.tup xs) ∨
    ∃ (o : Obj) (its : Array Value) (n : Nat), K.lookup a = some o ∧ o.cls = .type "tuple" ∧ o.data = .seq its n ∧ its.size ≤ sizeLine ∧ Vals xs its.toList
def absV : Value → Option V
  | .none => some .non
  | .bool b => some (.bl b)
  | .int i _ => some (.int i)
  | .str x _ => some (.str x)
  | .bytes b _ => some (.byt b)
  | .float b _ => some (.flt b)
  | .ref a => some (.ref a)
  | .type n => some (.ty n)
  | _ => none
theorem RelV.abs {x : V} {u : Value} (r : RelV x u) : absV u = some x := by
  cases x with
  | non => cases r; rfl
  | bl _ => cases r; rfl
  | int _ => obtain ⟨t, rfl⟩ := r; rfl
  | str _ => obtain ⟨t, rfl⟩ := r; rfl
  | byt _ => obtain ⟨t, rfl⟩ := r; rfl
  | flt _ => obtain ⟨t, rfl⟩ := r; rfl
  | ref _ => cases r; rfl
  | ty _ => cases r; rfl
theorem RelV.inj {x y : V} {u : Value} (r : RelV x u) (q : RelV y u) : x = y := Option.some.inj (r.abs.symm.trans q.abs)
theorem Vals.inj : ∀ {xs ys : List V} {us : List Value}, Vals xs us → Vals ys us → xs = ys
  | _, _, _, .nil, .nil => rfl
  | _, _, _, .cons r t, .cons r' t' => by rw [r.inj r', Vals.inj t t']
section
variable {X : Cx} {pins : List (Addr × Obj)} {σ : St} {H : Hp} {s : Shared} {a : Addr} {xs ys : List V}
theorem SqL.of {K : PySem.W.Frag} (h : H a = some (.lst xs)) : SqL K H a xs := .inl (.inl h)
theorem SqT.of {K : PySem.W.Frag} (h : H a = some (.tup xs)) : SqT K H a xs := .inl (.inl h)
theorem Inv.list (I : Inv X pins σ H s) (h : SqL X.K H a xs) : ∃ its : List Value, Vals xs its ∧ PlainL s.heap a its.toArray ∧ xs.length ≤ sizeLine := by
  rcases h with h | ⟨o, its, n, hk, hc, hd, hs, hz, r⟩
  · obtain ⟨z, its, n, r, e⟩ := h.ok I.hok
    exact ⟨its, r, ⟨_, n, e, rfl, rfl, rfl⟩, z⟩
  · refine ⟨its.toList, r, ⟨o, n, I.kIn a o hk, hc, hd, by simpa using hs⟩, ?_⟩
    have e := r.length
    simp only [Array.length_toList] at e
    omega
theorem Inv.tuple (I : Inv X pins σ H s) (h : SqT X.K H a xs) : ∃ its : List Value, Vals xs its ∧ IsTup s.heap a its.toArray ∧ xs.length ≤ sizeLine := by
  rcases h with h | ⟨o, its, n, hk, hc, hs, hz, r⟩
  · obtain ⟨z, its, r, p⟩ := h.ok I.hok
    exact ⟨its, r, p, z⟩
  · refine ⟨its.toList, r, ⟨o, I.kIn a o hk, hc, n, by simpa using hs⟩, ?_⟩
    have e := r.length
    simp only [Array.length_toList] at e
    omega
theorem Inv.list_inj (I : Inv X pins σ H s) (h : SqL X.K H a xs) (h' : SqL X.K H a ys) : xs = ys := by
  obtain ⟨its, r, ⟨o, n, e, _, _, d⟩, _⟩ := I.list h
  obtain ⟨its', r', ⟨o', n', e', _, _, d'⟩, _⟩ := I.list h'
  rw [e] at e'; cases e'
  rw [d] at d'
  injection d' with d1 _
  have : its = its' := by simpa using congrArg Array.toList d1
  subst this
  exact r.inj r'
theorem Inv.tuple_inj (I : Inv X pins σ H s) (h : SqT X.K H a xs) (h' : SqT X.K H a ys) : xs = ys := by
  obtain ⟨its, r, ⟨o, e, _, n, d⟩, _⟩ := I.tuple h
  obtain ⟨its', r', ⟨o', e', _, n', d'⟩, _⟩ := I.tuple h'
  rw [e] at e'; cases e'
  rw [d] at d'
  injection d' with d1 _
  have : its = its' := by simpa using congrArg Array.toList d1
  subst this
  exact r.inj r'
end
abbrev Cx.wish (X : Cx) (E : Value → Shared → Prop) : Cx := { X with xe := E }
abbrev Cx.nox (X : Cx) : Cx := X.wish fun _ _ => False
theorem Cx.Ok.wish {X : Cx} (ok : X.Ok) (E : Value → Shared → Prop) : (X.wish E).Ok :=
  ⟨ok.mod, ok.kind, ok.glob, ok.blt, ok.above, ok.inj, ok.has, ok.cab, ok.hd, ok.frames, ok.stk, ok.exf, ok.bs, ok.bsz, ok.noex, ok.exfs, ok.funs, ok.frf⟩
theorem Cx.Ok.unwish {X : Cx} {E : Value → Shared → Prop} (ok : (X.wish E).Ok) : X.Ok :=
  ⟨ok.mod, ok.kind, ok.glob, ok.blt, ok.above, ok.inj, ok.has, ok.cab, ok.hd, ok.frames, ok.stk, ok.exf, ok.bs, ok.bsz, ok.noex, ok.exfs, ok.funs, ok.frf⟩
section
variable {X : Cx} {pins : List (Addr × Obj)} {σ : St} {H : Hp} {s : Shared} {E : Value → Shared → Prop}
theorem Inv.wish (I : Inv X pins σ H s) (E : Value → Shared → Prop) : Inv (X.wish E) pins σ H s := ⟨I.ok.wish E, I.os, I.bare, I.base, I.loc, I.cell, I.free, I.freeC, I.pin, I.hok, I.len⟩
theorem Inv.unwish (I : Inv (X.wish E) pins σ H s) : Inv X pins σ H s := ⟨I.ok.unwish, I.os, I.bare, I.base, I.loc, I.cell, I.free, I.freeC, I.pin, I.hok, I.len⟩
theorem SP.unwish {D : Ends} {f : Flow} {s' : Shared} (h : SP (X.wish E) pins D f s') : SP X pins D f s' := by
  cases f with
  | next => obtain ⟨σ', H', I, q⟩ := h; exact ⟨σ', H', I.unwish, q⟩
  | brk => obtain ⟨σ', H', I, q⟩ := h; exact ⟨σ', H', I.unwish, q⟩
  | cont => obtain ⟨σ', H', I, q⟩ := h; exact ⟨σ', H', I.unwish, q⟩
  | ret u => obtain ⟨v, σ', H', I, r, q⟩ := h; exact ⟨v, σ', H', I.unwish, r, q⟩
theorem PSs.nox {st : List Stmt} {t : TS} (h : PSs X.nox st t) : PSs X st t := fun pins s σ H D I hw =>
  wpAny_mono (h pins s σ H D (I.wish _) hw) (fun _ _ q => q.unwish) fun _ _ z => False.elim z
end
section
variable {X : Cx} {st : Stmt} {rest : List Stmt} {t u : TS} {e : Expr} {te : TE} {pos : Pos}
def tNext : TS := fun D σ H => D.nx σ H
def tSeq (t u : TS) : TS := fun D σ H => t { D with nx := u D } σ H
theorem pss_nil : PSs X [] tNext := fun _ _ σ H _ I h => wpAny_execs_nil ⟨σ, H, I, h⟩
theorem pss_cons (h1 : PS X st t) (h2 : PSs X rest u) : PSs X (st :: rest) (tSeq t u) := by
  intro pins s σ H D I h
  refine wpAny_execs_cons (thn (h1 pins s σ H { D with nx := u D } I h) fun f s1 q => ?_)
  cases f with
  | next =>
    obtain ⟨σ', H', I', q⟩ := q
    exact h2 pins s1 σ' H' D I' q
  | ret v => exact q
  | brk => exact q
  | cont => exact q
theorem pss_one (h1 : PS X st t) : PSs X [st] t := by
  intro pins s σ H D I h
  refine wpAny_execs_cons (thn (h1 pins s σ H D I h) fun f s1 q => ?_)
  cases f with
  | next => exact wpAny_execs_nil q
  | ret v => exact q
  | brk => exact q
  | cont => exact q
theorem Inv.quiet {pins : List (Addr × Obj)} {σ : St} {H : Hp} {s : Shared} (I : Inv X pins σ H s) : interactive X.env = false := by simp [interactive, I.ok.kind]
def tDrop (te : TE) : TS := fun D σ H => te σ H fun _ H1 => D.nx σ H1
theorem ps_expr (he : PE X e te) (hs : swapsWith e none pos.line X.env = pure false := by rfl) : PS X (.Expr e pos) (tDrop te) := by
  intro pins s σ H D I h
  exact wpAny_Expr_any (thn (he pins s σ H _ I h) fun v s1 ⟨x, H1, I1, r1, q1⟩ => ⟨σ, H1, I1, q1⟩) I.quiet hs
def tRet (te : TE) : TS := fun D σ H => te σ H D.rt
theorem ps_ret (he : PE X e te) : PS X (.Return (some e) pos) (tRet te) := by
  intro pins s σ H D I h
  exact wpAny_Return_some (thn (he pins s σ H _ I h) fun v s1 ⟨x, H1, I1, r1, q1⟩ => ⟨x, σ, H1, I1, r1, q1⟩)
def tIfS (c : TT) (t u : TS) : TS := fun D σ H => c σ H fun b H1 => if b = true then t D σ H1 else u D σ H1
theorem ps_if {c : Expr} {a b : List Stmt} {tc : TT} (hc : PT X c tc) (ha : PSs X a t) (hb : PSs X b u) : PS X (.If c a b pos) (tIfS tc t u) := by
  intro pins s σ H D I h
  refine wpAny_If (thn (hc pins s σ H _ I h) fun d s1 ⟨H1, I1, q1⟩ => ?_)
  cases d with
  | true => exact ha pins s1 σ H1 D I1 q1
  | false => exact hb pins s1 σ H1 D I1 q1
end
abbrev TG := V → St → Hp → (St → Hp → Prop) → Prop
abbrev TGs := List V → St → Hp → (St → Hp → Prop) → Prop
def PG (X : Cx) (target : Expr) (t : TG) : Prop :=
  ∀ (pins : List (Addr × Obj)) (s : Shared) (σ : St) (H : Hp) (v : V) (u : Value) (Q : St → Hp → Prop), Inv X pins σ H s → RelV v u → t v σ H Q →
    wpAny (model X.prog X.w) X.A (assign target X.env u) (fun _ s' => ∃ σ' H', Inv X pins σ' H' s' ∧ Q σ' H') X.xe s
def PGs (X : Cx) (ts : List Expr) (t : TGs) : Prop :=
  ∀ (pins : List (Addr × Obj)) (s : Shared) (σ : St) (H : Hp) (vs : List V) (us : List Value) (Q : St → Hp → Prop), Inv X pins σ H s → Vals vs us → t vs σ H Q →
    wpAny (model X.prog X.w) X.A (assignInOrder ((assignEach ts X.env).map (·.2)) us) (fun _ s' => ∃ σ' H', Inv X pins σ' H' s' ∧ Q σ' H') X.xe s
abbrev TSet := V → V → V → Hp → (Hp → Prop) → Prop
def PSet (X : Cx) (t : TSet) : Prop :=
  ∀ (pins : List (Addr × Obj)) (s : Shared) (σ : St) (H : Hp) (o i v : V) (ov iv u : Value) (Q : Hp → Prop), Inv X pins σ H s → RelV o ov → RelV i iv → RelV v u → t o i v H Q →
    wpAny (model X.prog X.w) X.A (setItem ov iv u) (fun _ s' => ∃ H', Inv X pins σ H' s' ∧ Q H') X.xe s
abbrev TIp := V → V → Hp → VK → Prop
def PIp (X : Cx) (op : Operator) (t : TIp) : Prop :=
  ∀ (pins : List (Addr × Obj)) (s : Shared) (σ : St) (H : Hp) (x y : V) (v u : Value) (Q : VK), Inv X pins σ H s → RelV x v → RelV y u → t x y H Q →
    wpAny (model X.prog X.w) X.A (inplaceOp op v u) (EP X pins σ Q) X.xe s
section
variable {X : Cx} {pos : Pos}
def gName (i : Nat) : TG := fun v σ H Q => Q (σ.set i (some v)) H
theorem pg_name {i : Nat} {x : Str} (hN : X.N.Nodup) (hi : X.N[i]? = some x) (hx : Loc X.env.scope x) (hf : X.fn x = true ∨ X.env.scope.names.lookup x = some .local := by first | exact .inl rfl | exact .inr rfl | assumption) : PG X (.Name x pos) (gName i) := by
  intro pins s σ H v u Q I r h
  exact wpAny_assign_Name (store_ok I hN hi hx r (fun s' I' => ⟨_, H, I', h⟩) hf)
def gNil : TGs := fun vs σ H Q => vs = [] ∧ Q σ H
def gCons (t : TG) (u : TGs) : TGs := fun vs σ H Q => ∃ v r, vs = v :: r ∧ t v σ H fun σ' H' => u r σ' H' Q
theorem pgs_nil : PGs X [] gNil := by
  intro pins s σ H vs us Q I r h
  obtain ⟨e, h⟩ := h
  subst e
  cases r
  exact assignInOrder_nil ⟨σ, H, I, h⟩
theorem pgs_cons {e : Expr} {es : List Expr} {t : TG} {u : TGs} (h1 : PG X e t) (h2 : PGs X es u)
    (hs : (assignEach (e :: es) X.env).map (·.2) = assign e X.env :: (assignEach es X.env).map (·.2) := by rfl) : PGs X (e :: es) (gCons t u) := by
  intro pins s σ H vs us Q I r h
  obtain ⟨v, vr, e1, h⟩ := h
  subst e1
  cases r with
  | cons r rr =>
    rw [hs]
    refine assignInOrder_cons (thn (h1 pins s σ H _ _ _ I r h) fun _ s1 ⟨σ1, H1, I1, q1⟩ => ?_)
    exact h2 pins s1 σ1 H1 _ _ Q I1 rr q1
def gTup (K : PySem.W.Frag) (n : Nat) (t : TGs) : TG := fun v σ H Q => ∃ a xs, v = .ref a ∧ SqT K H a xs ∧ xs.length = n ∧ t xs σ H Q
theorem pg_tup {es : List Expr} {k : Nat} {t : TGs} {n : Nat} (hc : X.calm = true) (h : PGs X es t)
    (hn : (assignEach es X.env).length = n := by rfl) (hst : (assignEach es X.env).findIdx? (·.1) = none := by rfl) : PG X (.Tuple es k pos) (gTup X.K n t) := by
  intro pins s σ H v u Q I r hw
  obtain ⟨a, xs, e1, hq, hl, hw⟩ := hw
  subst e1
  cases r
  obtain ⟨its, rv, ht, hz⟩ := I.tuple hq
  refine assign_Tuple_tuple (I.ok.hd hc) ht (by simp [hn, ← hl, rv.length]) hst fun h' hx => ?_
  have I1 : Inv X pins σ H { s with heap := h' } := I.kept (t' := s.toks) fun b o e => hx b o (Nat.ne_of_lt (Heap.lt_size e)) e
  exact h pins _ σ H xs _ Q I1 (by simpa using rv) hw
def gSub (to ti : TE) (t : TSet) : TG := fun v σ H Q => to σ H fun o H1 => ti σ H1 fun i H2 => t o i v H2 fun H3 => Q σ H3
theorem pg_sub {o i : Expr} {to ti : TE} {t : TSet} (ho : PE X o to) (hi : PE X i ti) (hs : PSet X t)
    (ha : ∀ v, assign (.Subscript o i pos) X.env v = (do
      let ov ← holding [v] (eval o X.env)
      let iv ← holding [v, ov] (eval i X.env)
      standAt pos
      holding [v, ov, iv] (setItem ov iv v)
      release [v, ov, iv] []) := by intro _; rfl) : PG X (.Subscript o i pos) (gSub to ti t) := by
  intro pins s σ H v u Q I r h
  rw [ha]
  refine wpAny_bind (wpAny_holding (thn (ho pins s σ H _ I h) fun ov s1 ⟨x, H1, I1, r1, q1⟩ => ?_))
  refine wpAny_bind (wpAny_holding (thn (hi pins s1 σ H1 _ I1 q1) fun iv s2 ⟨y, H2, I2, r2, q2⟩ => ?_))
  refine wpAny_bind (wpAny_standAt (wpAny_bind (wpAny_holding (thn (hs pins s2 σ H2 x y v ov iv u _ I2 r1 r2 r q2) fun _ s3 ⟨H3, I3, q3⟩ => ?_))))
  exact wpAny_release ⟨σ, H3, I3, q3⟩
def tAsg (te : TE) (g : TG) : TS := fun D σ H => te σ H fun x H1 => g x σ H1 D.nx
theorem ps_asg {tg e : Expr} {te : TE} {g : TG} (he : PE X e te) (hg : PG X tg g) (hs : swapsWithSole [tg] e pos.line X.env = pure false := by rfl) (hw : swappedStores [tg] e X.env = pure none := by rfl)
    (h1 : (assignEach [tg] X.env).map (·.2) = [assign tg X.env] := by rfl) : PS X (.Assign [tg] e pos) (tAsg te g) := by
  intro pins s σ H D I h
  refine wpAny_Assign_stores (thn (he pins s σ H _ I h) fun v s1 ⟨x, H1, I1, r1, q1⟩ => ?_) hs hw
  rw [h1]
  exact thn (hg pins s1 σ H1 x v _ I1 r1 q1) fun _ s2 q => q
theorem ps_set {i : Nat} {x : Str} {e : Expr} {te : TE} {pos' : Pos} (hN : X.N.Nodup) (hi : X.N[i]? = some x) (hx : Loc X.env.scope x) (he : PE X e te) (hs : swapsWith e (some (.Name x pos')) pos.line X.env = pure false := by rfl) (hf : X.fn x = true ∨ X.env.scope.names.lookup x = some .local := by first | exact .inl rfl | exact .inr rfl | assumption) :
    PS X (.Assign [.Name x pos'] e pos) (tAsg te (gName i)) := by
  intro pins s σ H D I h
  refine wpAny_Assign_Name (thn (he pins s σ H _ I h) fun v s1 ⟨y, H1, I1, r1, q1⟩ => ?_) hs
  exact store_ok I1 hN hi hx r1 (fun s2 I2 => ⟨_, H1, I2, q1⟩) hf
def tAug (i : Nat) (te : TE) (ti : TIp) : TS := fun D σ H => ∃ x, σ[i]? = some (some x) ∧ te σ H fun y H1 => ti x y H1 fun z H2 => D.nx (σ.set i (some z)) H2
theorem ps_aug {i : Nat} {x : Str} {e : Expr} {te : TE} {op : Operator} {ti : TIp} {pos' : Pos} (hN : X.N.Nodup) (hi : X.N[i]? = some x) (hx : Loc X.env.scope x) (he : PE X e te) (ho : PIp X op ti) (hf : X.fn x = true ∨ X.env.scope.names.lookup x = some .local := by first | exact .inl rfl | exact .inr rfl | assumption) :
    PS X (.AugAssign (.Name x pos') op e pos) (tAug i te ti) := by
  intro pins s σ H D I h
  obtain ⟨v, e1, h⟩ := h
  obtain ⟨m, hn, hl⟩ := I.loc
  have vis : Vis X.env.scope x := by rcases hx with k | k; exact .inl k; exact .inr (.inl k)
  obtain ⟨u, r, l⟩ := hl i x v hi e1 vis
  refine wpAny_AugAssign_Name ?_
  have go : wpAny (model X.prog X.w) X.A (eval e X.env) (fun w s₂ => wpAny (model X.prog X.w) X.A (inplaceOp op u w) (fun r s₃ => wpAny (model X.prog X.w) X.A (storeName X.env x r) (fun _ => SP X pins D .next) X.xe s₃) X.xe s₂) X.xe s := by
    refine thn (he pins s σ H _ I h) fun w s1 ⟨y, H1, I1, r1, q1⟩ => ?_
    refine thn (ho pins s1 σ H1 v y u w _ I1 r r1 q1) fun z s2 ⟨zv, H2, I2, r2, q2⟩ => ?_
    exact store_ok I2 hN hi hx r2 (fun s3 I3 => ⟨_, H2, I3, q2⟩) hf
  rcases l with ⟨hk, hm⟩ | ⟨hk, c, hc, hcell⟩
  · exact wpAny_loadName_local I.ok.kind hk hn hm go
  · rcases hk with hk | hk
    · exact wpAny_loadName_cell I.ok.kind hk hc hcell go
    · rcases hx with k | k
      · have : X.env.scope.names.lookup x = some .free := hk
        rw [k] at this; cases this
      · have : X.env.scope.names.lookup x = some .free := hk
        rw [k] at this; cases this
def tAugS (to ti te : TE) (tget : V → V → Hp → VK → Prop) (tip : TIp) (tset : TSet) : TS := fun D σ H => to σ H fun o H1 => ti σ H1 fun i H2 => tget o i H2 fun x H3 => te σ H3 fun y H4 => tip x y H4 fun z H5 => tset o i z H5 fun H6 => D.nx σ H6
def PGet (X : Cx) (t : V → V → Hp → VK → Prop) : Prop :=
  ∀ (pins : List (Addr × Obj)) (s : Shared) (σ : St) (H : Hp) (o i : V) (ov iv : Value) (Q : VK), Inv X pins σ H s → RelV o ov → RelV i iv → t o i H Q →
    wpAny (model X.prog X.w) X.A (getItem ov iv) (EP X pins σ Q) X.xe s
theorem ps_augS {o i e : Expr} {to ti te : TE} {tget : V → V → Hp → VK → Prop} {tip : TIp} {tset : TSet} {op : Operator} {tpos : Pos} (ho : PE X o to) (hi : PE X i ti) (hg : PGet X tget) (he : PE X e te) (hp : PIp X op tip) (hs : PSet X tset)
    (ha : ∀ ov iv new, augStore i ov iv new = (do holding [new, ov, iv] (setItem ov iv new); release [new, ov, iv] []; pure .next) := by intros; rfl) : PS X (.AugAssign (.Subscript o i tpos) op e pos) (tAugS to ti te tget tip tset) := by
  intro pins s σ H D I h
  refine wpAny_AugAssign_SubscriptAny (thn (ho pins s σ H _ I h) fun ov s1 ⟨x1, H1, I1, r1, q1⟩ => ?_) ha
  refine thn (hi pins s1 σ H1 _ I1 q1) fun iv s2 ⟨x2, H2, I2, r2, q2⟩ => ?_
  refine thn (hg pins s2 σ H2 x1 x2 ov iv _ I2 r1 r2 q2) fun old s3 ⟨x3, H3, I3, r3, q3⟩ => ?_
  refine thn (he pins s3 σ H3 _ I3 q3) fun v s4 ⟨x4, H4, I4, r4, q4⟩ => ?_
  refine thn (hp pins s4 σ H4 x3 x4 old v _ I4 r3 r4 q4) fun new s5 ⟨x5, H5, I5, r5, q5⟩ => ?_
  exact thn (hs pins s5 σ H5 x1 x2 x5 ov iv new _ I5 r1 r2 r5 q5) fun _ s6 ⟨H6, I6, q6⟩ => ⟨σ, H6, I6, q6⟩
def ipI (f : Int → Int → Int) : TIp := fun x y H Q => ∃ i j, x = .int i ∧ y = .int j ∧ Q (.int (f i j)) H
theorem ip_add : PIp X .Add (ipI fun i j => i + j) := by
  intro pins s σ H x y v u Q I r1 r2 h
  obtain ⟨i, j, e1, e2, q⟩ := h
  subst e1; subst e2
  obtain ⟨t, rfl⟩ := r1
  obtain ⟨t', rfl⟩ := r2
  exact iadd_int ⟨.int _, H, I.tok _, ⟨_, rfl⟩, q⟩
theorem ip_sub : PIp X .Sub (ipI fun i j => i - j) := by
  intro pins s σ H x y v u Q I r1 r2 h
  obtain ⟨i, j, e1, e2, q⟩ := h
  subst e1; subst e2
  obtain ⟨t, rfl⟩ := r1
  obtain ⟨t', rfl⟩ := r2
  exact isub_int ⟨.int _, H, I.tok _, ⟨_, rfl⟩, q⟩
end
section
variable {X : Cx} {pos : Pos}
def tWhile (c : TT) (tb : TS) : TS := fun D σ H => ∃ W : Nat → St → Hp → Prop, (∃ m, W m σ H) ∧ ∀ m σ H, W m σ H →
  c σ H fun b H1 => if b = true then ∃ N : St → Hp → Prop, (∀ σ' H', N σ' H' → ∃ m', m' < m ∧ W m' σ' H') ∧ tb { D with nx := N, ct := N, bk := D.nx } σ H1 else D.nx σ H1
theorem ps_while {c : Expr} {body : List Stmt} {tc : TT} {tb : TS} (hp : PassesOwn (model X.prog X.w) X.A X.env X.xe) (hc : PT X c tc) (hb : PSs X body tb) : PS X (.While c body [] pos) (tWhile tc tb) := by
  intro pins s σ H D I h
  obtain ⟨W, ⟨m0, w0⟩, turn⟩ := h
  refine wpAny_While (codeAny_whileLoop (fun n s' => ∃ σ' H', Inv X pins σ' H' s' ∧ W n σ' H') ?_ m0 ⟨σ, H, I, w0⟩)
  rintro n s1 ⟨σ1, H1, I1, w1⟩
  refine wpAny_passesOwn hp (thn (hc pins s1 σ1 H1 _ I1 (turn n σ1 H1 w1)) fun b s2 ⟨H2, I2, q2⟩ => ?_)
  cases b with
  | true =>
    obtain ⟨N, hN, q2⟩ := q2
    rw [if_pos rfl]
    refine wpAny_passesOwn hp (thn (hb pins s2 σ1 H2 _ I2 q2) fun f s3 q3 => ?_)
    cases f with
    | next =>
      obtain ⟨σ3, H3, I3, n3⟩ := q3
      obtain ⟨m', hm, w3⟩ := hN σ3 H3 n3
      exact ⟨m', hm, σ3, H3, I3, w3⟩
    | cont =>
      obtain ⟨σ3, H3, I3, n3⟩ := q3
      obtain ⟨m', hm, w3⟩ := hN σ3 H3 n3
      exact ⟨m', hm, σ3, H3, I3, w3⟩
    | brk => exact q3
    | ret v => exact q3
  | false =>
    rw [if_neg Bool.false_ne_true]
    exact wpAny_execs_nil ⟨σ1, H2, I2, q2⟩
end
structure It where
  go : Nat → Hp → Prop
  yld : Nat → Hp → V → Hp → Prop
  stop : Nat → Hp → Prop
def FpOk (X : Cx) (pins : List (Addr × Obj)) (H : Hp) (b : Addr) : Prop :=
  H b = none ∧ b ≠ X.env.locals ∧ b ∉ X.fs ∧ (b ∈ X.ex ∨ X.s₀.heap.objs.size ≤ b) ∧ (∀ x c, X.env.cells.lookup x = some c → c ≠ b) ∧ ∀ p ∈ X.pn ++ pins, p.1 ≠ b
theorem Inv.fpOk {X : Cx} {pins : List (Addr × Obj)} {σ : St} {H H' : Hp} {s : Shared} {b : Addr} (I : Inv X pins σ H s) (hb : s.heap.objs.size ≤ b) (hn : H' b = none) : FpOk X pins H' b := by
  refine ⟨hn, Nat.ne_of_gt (Nat.lt_of_lt_of_le I.lt hb), I.nofs hb, .inr (Nat.le_trans I.sz hb), fun x c e z => ?_, fun p hp z => ?_⟩
  · obtain ⟨v, q⟩ := I.cell x c e
    exact absurd (Nat.lt_of_lt_of_le q.lt (by rw [z]; exact hb)) (Nat.lt_irrefl _)
  · exact absurd (Nat.lt_of_lt_of_le (Heap.lt_size (I.pin p hp).1) (by rw [z]; exact hb)) (Nat.lt_irrefl _)
structure Turn (P : Program) (w : World) (K : PySem.W.Frag) (tg : Expr) (J : It) (fp : List Addr) (it : Addr) (tn : Nat → Heap → Prop) : Prop where
  mem : it ∈ fp
  obj : ∀ i h, tn i h → ∀ b ∈ fp, ∃ o, h.get? b = some o ∧ ∀ v, o.data ≠ .cell v
  keep : ∀ i h h', tn i h → (∀ b ∈ fp, ∀ o, h.get? b = some o → h'.get? b = some o) → tn i h'
  item : ∀ (X : Cx), X.prog = P → X.w = w → X.K = K → X.calm = true → ∀ (i : Nat) (pins : List (Addr × Obj)) (s : Shared) (σ : St) (H : Hp) (E : Value → Shared → Prop), Inv X pins σ H s → (∀ b ∈ fp, FpOk X pins H b) → tn i s.heap → J.go i H →
    wpAny (model P w) X.A (pyNext (.ref it)) (fun r s1 => ∃ u, r = some u ∧
      wpAny (model P w) X.A (letOwnedTupleGo tg (.ref it) u) (fun _ s2 => ∃ x H', Inv X pins σ H' s2 ∧ RelV x u ∧ J.yld i H x H' ∧ tn (i + 1) s2.heap ∧ ∀ b ∈ fp, H' b = none) E s1) E s
  done : ∀ (X : Cx), X.prog = P → X.w = w → X.K = K → X.calm = true → ∀ (i : Nat) (pins : List (Addr × Obj)) (s : Shared) (σ : St) (H : Hp) (E : Value → Shared → Prop), Inv X pins σ H s → (∀ b ∈ fp, FpOk X pins H b) → tn i s.heap → J.stop i H →
    wpAny (model P w) X.A (pyNext (.ref it)) (fun r s1 => r = none ∧ Inv X pins σ H s1) E s
  self : ∀ (A : Around) (i : Nat) (s : Shared) (Q : Value → Shared → Prop) (E : Value → Shared → Prop), tn i s.heap → Q (.ref it) s → wpAny (model P w) A (pyIter (.ref it)) Q E s
abbrev TI := St → Hp → (It → Hp → Prop) → Prop
def PIE (X : Cx) (pins : List (Addr × Obj)) (σ : St) (tg : Expr) (R : It → Hp → Prop) (itv : Value) (s2 : Shared) : Prop :=
  ∃ (it : Addr) (fp : List Addr) (tn : Nat → Heap → Prop) (J : It) (H' : Hp), itv = .ref it ∧ Inv X pins σ H' s2 ∧ Turn X.prog X.w X.K tg J fp it tn ∧ tn 0 s2.heap ∧ (∀ b ∈ fp, FpOk X pins H' b) ∧ R J H'
def PI (X : Cx) (tg iter : Expr) (wi : TI) : Prop :=
  ∀ (pins : List (Addr × Obj)) (s : Shared) (σ : St) (H : Hp) (R : It → Hp → Prop), Inv X pins σ H s → wi σ H R →
    wpAny (model X.prog X.w) X.A (eval iter X.env) (fun v s1 => wpAny (model X.prog X.w) X.A (pyIter v) (PIE X pins σ tg R) X.xe s1) X.xe s
theorem go_of {M : Model} {A : Around} {E : Value → Shared → Prop} {s : Shared} {tg : Expr} {it : Addr} {u : Value} {o : Obj} {n : String} {vs : Array Value} {Q : Unit → Shared → Prop} (ho : s.heap.get? it = some o) (hc : o.cls = .type n) (hd : o.data = .fields vs)
    (hn : ["enumerate", "zip", "dict_itemiterator", "dict_reverseitemiterator", "odict_iterator", "itertools.zip_longest", "itertools.pairwise"].contains n = false) (hQ : Q () s) : wpAny M A (letOwnedTupleGo tg (.ref it) u) Q E s := by
  unfold letOwnedTupleGo
  cases tg <;> first
    | exact wpAny_pure hQ
    | (cases u <;> first
        | exact wpAny_pure hQ
        | (refine wpAny_bind (wpAny_load ho ?_)
           rw [hc, hd]
           show wpAny M A (if (["enumerate", "zip", "dict_itemiterator", "dict_reverseitemiterator", "odict_iterator", "itertools.zip_longest", "itertools.pairwise"].contains n && vs[0]? == some (rawInt _)) = true then _ else _) Q E s
           rw [if_neg (by intro h; rw [hn, Bool.false_and] at h; cases h)]
           exact wpAny_pure hQ))
def Itl (K : PySem.W.Frag) (a : Addr) : It :=
  ⟨fun i H => ∃ xs x, SqL K H a xs ∧ xs[i]? = some x, fun i H x H' => H' = H ∧ ∀ xs, SqL K H a xs → xs[i]? = some x, fun i H => ∃ xs, SqL K H a xs ∧ xs.length ≤ i⟩
def Itt (K : PySem.W.Frag) (a : Addr) : It :=
  ⟨fun i H => ∃ xs x, SqT K H a xs ∧ xs[i]? = some x, fun i H x H' => H' = H ∧ ∀ xs, SqT K H a xs → xs[i]? = some x, fun i H => ∃ xs, SqT K H a xs ∧ xs.length ≤ i⟩
def Itr (lo : Int) (n : Nat) : It := ⟨fun i _ => i < n, fun i H x H' => H' = H ∧ x = .int (lo + i), fun i _ => n ≤ i⟩
theorem turn_list {P : Program} {w : World} {K : PySem.W.Frag} {tg : Expr} (a it : Addr) : Turn P w K tg (Itl K a) [it] it (fun i h => h.IsListIter it a i) where
  mem := by simp
  obj := fun i h st b hb => by
    have e : b = it := by simpa using hb
    subst e
    obtain ⟨o, e, c, d⟩ := st
    exact ⟨o, e, fun v z => by rw [d] at z; cases z⟩
  keep := fun i h h' st k => st.at fun o e => k it (by simp) o e
  item := by
    intro X hP hw hK hc i pins s σ H E I hf st hg
    subst hP hw hK
    obtain ⟨xs, x, hq, hx⟩ := hg
    obtain ⟨its, rv, p, hz⟩ := I.list hq
    obtain ⟨u, hu, ru⟩ := rv.get hx
    obtain ⟨f0, f1, f2, f3, f4, f5⟩ := hf it (by simp)
    refine wpAny_pyNext_list_item st p.isList (x := u) (by simpa using hu) fun h' st' sb => ?_
    have I1 : Inv X pins σ H { s with heap := h' } := I.turned (t' := s.toks) (fun b o hb e => (sb.2 b hb).trans e) f0 f1 f3 f4 f5
    obtain ⟨o, e, c, d⟩ := id st'
    exact ⟨u, rfl, go_of (s := { s with heap := h' }) e c d (by decide) ⟨x, H, I1, ru, ⟨rfl, fun ys hy => by rw [I.list_inj hy hq]; exact hx⟩, st', fun b hb => (hf b hb).1⟩⟩
  done := by
    intro X hP hw hK hc i pins s σ H E I hf st hg
    subst hP hw hK
    obtain ⟨xs, hq, hx⟩ := hg
    obtain ⟨its, rv, p, hz⟩ := I.list hq
    obtain ⟨f0, f1, f2, f3, f4, f5⟩ := hf it (by simp)
    have hl := rv.length
    exact wpAny_pyNext_list_end (I.ok.hd hc) st p.isList (by simp; omega) fun h' eb => ⟨rfl, I.turned (t' := s.toks) (fun b o hb e => eb b o hb e) f0 f1 f3 f4 f5⟩
  self := fun _ _ _ _ _ st h => wpAny_pyIter_listiter st h
theorem turn_tuple {P : Program} {w : World} {K : PySem.W.Frag} {tg : Expr} (a it : Addr) : Turn P w K tg (Itt K a) [it] it (fun i h => h.IsTupleIter it a i) where
  mem := by simp
  obj := fun i h st b hb => by
    have e : b = it := by simpa using hb
    subst e
    obtain ⟨o, e, c, d⟩ := st
    exact ⟨o, e, fun v z => by rw [d] at z; cases z⟩
  keep := fun i h h' st k => st.at fun o e => k it (by simp) o e
  item := by
    intro X hP hw hK hc i pins s σ H E I hf st hg
    subst hP hw hK
    obtain ⟨xs, x, hq, hx⟩ := hg
    obtain ⟨its, rv, p, hz⟩ := I.tuple hq
    obtain ⟨u, hu, ru⟩ := rv.get hx
    obtain ⟨f0, f1, f2, f3, f4, f5⟩ := hf it (by simp)
    refine wpAny_pyNext_tuple_item st (show s.heap.IsTuple a its.toArray from p) (x := u) (by simpa using hu) fun h' st' sb => ?_
    have I1 : Inv X pins σ H { s with heap := h' } := I.turned (t' := s.toks) (fun b o hb e => (sb.2 b hb).trans e) f0 f1 f3 f4 f5
    obtain ⟨o, e, c, d⟩ := id st'
    exact ⟨u, rfl, go_of (s := { s with heap := h' }) e c d (by decide) ⟨x, H, I1, ru, ⟨rfl, fun ys hy => by rw [I.tuple_inj hy hq]; exact hx⟩, st', fun b hb => (hf b hb).1⟩⟩
  done := by
    intro X hP hw hK hc i pins s σ H E I hf st hg
    subst hP hw hK
    obtain ⟨xs, hq, hx⟩ := hg
    obtain ⟨its, rv, p, hz⟩ := I.tuple hq
    obtain ⟨f0, f1, f2, f3, f4, f5⟩ := hf it (by simp)
    have hl := rv.length
    exact wpAny_pyNext_tuple_end (I.ok.hd hc) st (show s.heap.IsTuple a its.toArray from p) (by simp; omega) fun h' eb => ⟨rfl, I.turned (t' := s.toks) (fun b o hb e => eb b o hb e) f0 f1 f3 f4 f5⟩
  self := fun _ _ _ _ _ st h => wpAny_pyIter_tupleiter st h
theorem turn_range {P : Program} {w : World} {K : PySem.W.Frag} {tg : Expr} (it : Addr) (lo : Int) (n : Nat) : Turn P w K tg (Itr lo n) [it] it (fun i h => IsRangeIter h it (lo + (i : Nat) * 1) ((n : Int) - (i : Nat)) 1) where
  mem := by simp
  obj := fun i h st b hb => by
    have e : b = it := by simpa using hb
    subst e
    exact ⟨_, st, fun v z => by
      have z' : Data.fields _ = Data.cell v := z
      cases z'⟩
  keep := fun i h h' st k => k it (by simp) _ st
  item := by
    intro X hP hw hK hc i pins s σ H E I hf st hg
    subst hP hw hK
    obtain ⟨f0, f1, f2, f3, f4, f5⟩ := hf it (by simp)
    have W := Walks.range (prog := X.prog) (w := X.w) (I.ok.hd hc) it lo 1 n
    refine W.item i s _ _ hg st fun v h' tk hv st' kk => ?_
    obtain ⟨t, rfl⟩ := hv
    have I1 : Inv X pins σ H { s with heap := h', toks := tk } := I.turned (fun b o hb e => kk b o (by simpa using hb) e) f0 f1 f3 f4 f5
    refine ⟨_, rfl, go_of (s := { s with heap := h', toks := tk }) (n := "range_iterator") st' rfl rfl (by decide) ⟨.int (lo + i), H, I1, ⟨t, ?_⟩, ⟨rfl, rfl⟩, st', fun b hb => (hf b hb).1⟩⟩
    rw [Int.mul_one]
  done := by
    intro X hP hw hK hc i pins s σ H E I hf st hg
    subst hP hw hK
    obtain ⟨f0, f1, f2, f3, f4, f5⟩ := hf it (by simp)
    exact wpAny_pyNext_range_end (I.ok.hd hc) st (by have : n ≤ i := hg; omega) fun h' eb => ⟨rfl, I.turned (t' := s.toks) (fun b o hb e => eb b o hb e) f0 f1 f3 f4 f5⟩
  self := fun _ _ _ _ _ st h => wpAny_pyIter_rangeiter st h
end L2
namespace L2
open PySem PySem.Spec PyProof.Rows
section
variable {X : Cx} {tg : Expr}
def iList (K : PySem.W.Frag) (tl : TE) : TI := fun σ H R => tl σ H fun x H1 => ∃ a, x = .ref a ∧ (∃ xs, SqL K H1 a xs) ∧ R (Itl K a) H1
def iTup (K : PySem.W.Frag) (tl : TE) : TI := fun σ H R => tl σ H fun x H1 => ∃ a, x = .ref a ∧ (∃ xs, SqT K H1 a xs) ∧ R (Itt K a) H1
theorem pi_list {l : Expr} {tl : TE} (hl : PE X l tl) : PI X tg l (iList X.K tl) := by
  intro pins s σ H R I h
  refine thn (hl pins s σ H _ I h) fun v s1 ⟨x, H1, I1, r1, q1⟩ => ?_
  obtain ⟨a, e, ⟨xs, hq⟩, q⟩ := q1
  subst e
  cases r1
  obtain ⟨its, rv, p, hz⟩ := I1.list hq
  refine wpAny_pyIter_list p.isList ?_
  refine ⟨s1.heap.objs.size, [s1.heap.objs.size], _, _, H1, rfl, I1.kept (t' := s1.toks) fun b o e => Heap.get?_push_of_some _ e, turn_list a _, ⟨_, Heap.get?_push_size _ rfl, rfl, rfl⟩, fun b hb => ?_, q⟩
  have e : b = s1.heap.objs.size := by simpa using hb
  subst e
  exact I1.fpOk (Nat.le_refl _) (I1.hok.fresh (Nat.le_refl _))
theorem pi_tup {l : Expr} {tl : TE} (hl : PE X l tl) : PI X tg l (iTup X.K tl) := by
  intro pins s σ H R I h
  refine thn (hl pins s σ H _ I h) fun v s1 ⟨x, H1, I1, r1, q1⟩ => ?_
  obtain ⟨a, e, ⟨xs, hq⟩, q⟩ := q1
  subst e
  cases r1
  obtain ⟨its, rv, p, hz⟩ := I1.tuple hq
  refine wpAny_pyIter_tuple (show s1.heap.IsTuple a its.toArray from p) ?_
  refine ⟨s1.heap.objs.size, [s1.heap.objs.size], _, _, H1, rfl, I1.kept (t' := s1.toks) fun b o e => Heap.get?_push_of_some _ e, turn_tuple a _, ⟨_, Heap.get?_push_size _ rfl, rfl, rfl⟩, fun b hb => ?_, q⟩
  have e : b = s1.heap.objs.size := by simpa using hb
  subst e
  exact I1.fpOk (Nat.le_refl _) (I1.hok.fresh (Nat.le_refl _))
theorem range_it {pins : List (Addr × Obj)} {σ : St} {H : Hp} {s : Shared} {R : It → Hp → Prop} {E : Value → Shared → Prop} {lo hi : Int} {t u v : Tok} {tk : Nat} (I : Inv X pins σ H s) (h1 : -(2 ^ 62) ≤ lo) (h2 : lo < 2 ^ 62) (h3 : -(2 ^ 62) ≤ hi) (h4 : hi < 2 ^ 62)
    (q : R (Itr lo (hi - lo).toNat) H) : wpAny (model X.prog X.w) X.A (pyIter (.ref s.heap.objs.size)) (PIE X pins σ tg R) E { s with heap := s.heap.push { cls := .type "range", data := .fields #[.int lo t, .int hi u, .int 1 v] }, toks := tk } := by
  refine wpAny_pyIter_range (IsRange.new ..) (small_one h1 h2 h3 h4) ?_
  have I1 : Inv X pins σ H { s with heap := s.heap.push { cls := .type "range", data := .fields #[.int lo t, .int hi u, .int 1 v] }, toks := tk } := I.kept fun b o e => Heap.get?_push_of_some _ e
  refine ⟨(s.heap.push { cls := .type "range", data := .fields #[.int lo t, .int hi u, .int 1 v] }).objs.size, [(s.heap.push { cls := .type "range", data := .fields #[.int lo t, .int hi u, .int 1 v] }).objs.size], _, _, H, rfl,
    I1.kept (t' := tk) fun b o e => Heap.get?_push_of_some _ e, turn_range _ lo (hi - lo).toNat, ?_, fun b hb => ?_, q⟩
  · have e1 : lo + ((0 : Nat) : Int) * 1 = lo := by simp
    have e2 : (((hi - lo).toNat : Nat) : Int) - ((0 : Nat) : Int) = Builtin.Range.rangeSize lo hi 1 := by rw [rangeSize_one]; split <;> omega
    show IsRangeIter _ _ (lo + ((0 : Nat) : Int) * 1) ((((hi - lo).toNat : Nat) : Int) - ((0 : Nat) : Int)) 1
    rw [e1, e2]
    exact Heap.get?_push_size _ rfl
  · have e : b = (s.heap.push { cls := .type "range", data := .fields #[.int lo t, .int hi u, .int 1 v] }).objs.size := by simpa using hb
    subst e
    exact I1.fpOk (Nat.le_refl _) (I1.hok.fresh (Nat.le_refl _))
def iRng1 (ta : TA) : TI := fun σ H R => ta σ H fun vs H1 => ∃ j : Int, vs = [.int j] ∧ -(2 ^ 62) ≤ j ∧ j < 2 ^ 62 ∧ R (Itr 0 j.toNat) H1
def iRng2 (ta : TA) : TI := fun σ H R => ta σ H fun vs H1 => ∃ i j : Int, vs = [.int i, .int j] ∧ (-(2 ^ 62) ≤ i ∧ i < 2 ^ 62 ∧ -(2 ^ 62) ≤ j ∧ j < 2 ^ 62) ∧ R (Itr i (j - i).toNat) H1
theorem pi_range1 {a : Expr} {ta : TA} {p pos : Pos} (hg : Gl X "range") (hm : X.mg "range" = none) (ha : PA X [a] ta) (hs : starEach [a] X.env = [(false, eval a X.env)] := by rfl) : PI X tg (.Call (.Name "range" p) [a] [] pos) (iRng1 ta) := by
  intro pins s σ H R I h
  refine Call_ (ld_blt I hg hm boot_range (PyProof.Rows.callWith_type1 (thn (ha pos pins s σ H _ I h) fun us s1 ⟨vs, H1, I1, r1, q1⟩ => ?_) hs rfl))
  obtain ⟨j, e, q1, q2, q⟩ := q1
  subst e
  cases r1 with
  | cons r rr =>
    cases rr
    obtain ⟨t, rfl⟩ := r
    exact call_range_1 (range_it I1 (by omega) (by omega) q1 q2 (by simpa using q))
theorem pi_range2 {a b : Expr} {ta : TA} {p pos : Pos} (hg : Gl X "range") (hm : X.mg "range" = none) (ha : PA X [a, b] ta) (hs : starEach [a, b] X.env = [(false, eval a X.env), (false, eval b X.env)] := by rfl) (hs2 : starEach [b] X.env = [(false, eval b X.env)] := by rfl) :
    PI X tg (.Call (.Name "range" p) [a, b] [] pos) (iRng2 ta) := by
  intro pins s σ H R I h
  refine Call_ (ld_blt I hg hm boot_range (PyProof.Rows.callWith_type1 (thn (ha pos pins s σ H _ I h) fun us s1 ⟨vs, H1, I1, r1, q1⟩ => ?_) (by rw [hs, hs2]) (by rw [hs2]; rfl)))
  obtain ⟨i, j, e, ⟨q1, q2, q3, q4⟩, q⟩ := q1
  subst e
  cases r1 with
  | cons r rr =>
    cases rr with
    | cons r' rr =>
      cases rr
      obtain ⟨t, rfl⟩ := r
      obtain ⟨t', rfl⟩ := r'
      exact call_range_2 (range_it I1 q1 q2 q3 q4 q)
def tFor (wi : TI) (g : TG) (tb : TS) : TS := fun D σ H => wi σ H fun J H1 => ∃ W : Nat → Nat → St → Hp → Prop, (∃ m, W 0 m σ H1) ∧ ∀ i m σ H, W i m σ H →
  (J.stop i H ∧ D.nx σ H) ∨ (J.go i H ∧ ∃ N : St → Hp → Prop, (∀ σ' H', N σ' H' → ∃ m', m' < m ∧ W (i + 1) m' σ' H') ∧ ∀ x H', J.yld i H x H' → g x σ H' fun σ2 H2 => tb { D with nx := N, ct := N, bk := D.nx } σ2 H2)
def pinsAt (fp : List Addr) (h : Heap) : List (Addr × Obj) := fp.filterMap fun b => (h.get? b).map fun o => (b, o)
theorem mem_pinsAt {fp : List Addr} {h : Heap} {b : Addr} {o : Obj} (hb : b ∈ fp) (e : h.get? b = some o) : (b, o) ∈ pinsAt fp h := List.mem_filterMap.mpr ⟨b, hb, by rw [e]; rfl⟩
theorem of_pinsAt {fp : List Addr} {h : Heap} {p : Addr × Obj} (hp : p ∈ pinsAt fp h) : p.1 ∈ fp ∧ h.get? p.1 = some p.2 := by
  obtain ⟨b, hb, e⟩ := List.mem_filterMap.mp hp
  cases q : h.get? b with
  | none => rw [q] at e; cases e
  | some o =>
    rw [q] at e
    have e' : (b, o) = p := Option.some.inj e
    subst e'
    exact ⟨hb, q⟩
theorem Inv.pinned {pins : List (Addr × Obj)} {σ : St} {H : Hp} {s : Shared} {fp : List Addr} (I : Inv X pins σ H s) (hf : ∀ b ∈ fp, FpOk X pins H b) (ho : ∀ b ∈ fp, ∃ o, s.heap.get? b = some o ∧ ∀ v, o.data ≠ .cell v) : Inv X (pins ++ pinsAt fp s.heap) σ H s :=
  I.pins_of fun p hp => (List.mem_append.mp hp).elim (fun z => I.pin p (List.mem_append_right _ z)) fun z => by
    obtain ⟨hb, e⟩ := of_pinsAt z
    obtain ⟨f0, f1, f2, _⟩ := hf p.1 hb
    obtain ⟨o, e', d⟩ := ho p.1 hb
    rw [e] at e'; cases e'
    exact ⟨e, f0, f1, f2, d⟩
theorem Inv.unpinned {pins pl : List (Addr × Obj)} {σ : St} {H : Hp} {s : Shared} (I : Inv X (pins ++ pl) σ H s) : Inv X pins σ H s := I.pins_of fun p hp => I.pin p (List.mem_append_right _ (List.mem_append_left _ hp))
theorem ps_for {iter : Expr} {body : List Stmt} {wi : TI} {g : TG} {tb : TS} {pos : Pos} (hp : PassesOwn (model X.prog X.w) X.A X.env X.xe) (hc : X.calm = true) (hi : PI X tg iter wi) (hg : PG X tg g) (hb : PSs X body tb)
    (hs : ∀ x, foldedSetIterable iter X.env x = pure x := by intro _; rfl) : PS X (.For tg iter body [] pos) (tFor wi g tb) := by
  intro pins s σ H D I h
  refine wpAny_For (thn (hi pins s σ H _ I h) fun v s1 h1 => thn h1 fun itv s2 h2 => ?_) hs
  obtain ⟨it, fp, tn, J, H2, e, I2, T, st2, f2, W, ⟨m0, w0⟩, turn⟩ := h2
  subst e
  -- what stays true of the iterator's objects through the loop
  have stat : ∀ {H' : Hp}, (∀ b ∈ fp, H' b = none) → ∀ b ∈ fp, FpOk X pins H' b := fun hn b hb => ⟨hn b hb, (f2 b hb).2⟩
  refine codeAny_forLoop_any (fun n s' => ∃ i σ' H', Inv X pins σ' H' s' ∧ tn i s'.heap ∧ (∀ b ∈ fp, H' b = none) ∧ W i n σ' H') ?_ m0 ⟨0, σ, H2, I2, st2, fun b hb => (f2 b hb).1, w0⟩
  rintro n s3 ⟨i, σ3, H3, I3, st3, fr3, w3⟩
  rcases turn i n σ3 H3 w3 with ⟨stop, qn⟩ | ⟨go, N, hN, step⟩
  · refine wpAny_passesOwn hp (thn (T.done X rfl rfl rfl hc i pins s3 σ3 H3 X.xe I3 (stat fr3) st3 stop) fun r s4 ⟨hr, I4⟩ => ?_)
    subst hr
    exact wpAny_execs_nil ⟨σ3, H3, I4, qn⟩
  · refine wpAny_passesOwn hp (thn (T.item X rfl rfl rfl hc i pins s3 σ3 H3 X.xe I3 (stat fr3) st3 go) fun r s4 ⟨u, hr, h4⟩ => ?_)
    subst hr
    refine wpAny_passesOwn hp (thn h4 fun _ s5 ⟨x, H5, I5, r5, y5, st5, fr5⟩ => ?_)
    have I5' := I5.pinned (stat fr5) (T.obj _ _ st5)
    refine wpAny_passesOwn hp (thn (hg _ s5 σ3 H5 x u _ I5' r5 (step x H5 y5)) fun _ s6 ⟨σ6, H6, I6, q6⟩ => ?_)
    refine wpAny_passesOwn hp (thn (hb _ s6 σ6 H6 _ I6 q6) fun f s7 q7 => ?_)
    have again : ∀ {σ7 : St} {H7 : Hp}, Inv X (pins ++ pinsAt fp s5.heap) σ7 H7 s7 → N σ7 H7 → ∃ m, m < n ∧ ∃ i σ' H', Inv X pins σ' H' s7 ∧ tn i s7.heap ∧ (∀ b ∈ fp, H' b = none) ∧ W i m σ' H' := fun {σ7 H7} I7 n7 => by
      obtain ⟨m', hm, w7⟩ := hN σ7 H7 n7
      refine ⟨m', hm, i + 1, σ7, H7, I7.unpinned, T.keep _ _ _ st5 fun b hb o e => (I7.pin (b, o) (List.mem_append_right _ (List.mem_append_right _ (mem_pinsAt hb e)))).1, fun b hb => ?_, w7⟩
      obtain ⟨o, e, d⟩ := T.obj _ _ st5 b hb
      exact (I7.pin (b, o) (List.mem_append_right _ (List.mem_append_right _ (mem_pinsAt hb e)))).2.1
    cases f with
    | next => obtain ⟨σ7, H7, I7, n7⟩ := q7; exact again I7 n7
    | cont => obtain ⟨σ7, H7, I7, n7⟩ := q7; exact again I7 n7
    | brk => obtain ⟨σ7, H7, I7, q7⟩ := q7; exact ⟨σ7, H7, I7.unpinned, q7⟩
    | ret v => obtain ⟨x7, σ7, H7, I7, r7, q7⟩ := q7; exact ⟨x7, σ7, H7, I7.unpinned, r7, q7⟩
end
end L2
namespace L2
open PySem PySem.Spec PyProof.Rows
abbrev R2 := V → V → Hp → VK → Prop
def OpR (X : Cx) (f : Value → Value → Sem Value) (r : R2) : Prop :=
  ∀ (pins : List (Addr × Obj)) (s : Shared) (σ : St) (H : Hp) (x y : V) (v u : Value) (Q : VK), Inv X pins σ H s → RelV x v → RelV y u → r x y H Q →
    wpAny (model X.prog X.w) X.A (f v u) (EP X pins σ Q) X.xe s
def UnR (X : Cx) (f : Value → Sem Value) (r : V → Hp → VK → Prop) : Prop :=
  ∀ (pins : List (Addr × Obj)) (s : Shared) (σ : St) (H : Hp) (x : V) (v : Value) (Q : VK), Inv X pins σ H s → RelV x v → r x H Q →
    wpAny (model X.prog X.w) X.A (f v) (EP X pins σ Q) X.xe s
def CallR (X : Cx) (f : Value) (r : List V → Hp → VK → Prop) : Prop :=
  ∀ (pins : List (Addr × Obj)) (s : Shared) (σ : St) (H : Hp) (xs : List V) (us : List Value) (Q : VK), Inv X pins σ H s → Vals xs us → r xs H Q →
    wpAny (model X.prog X.w) X.A (call f us) (EP X pins σ Q) X.xe s
def TruR (X : Cx) (r : V → Hp → (Bool → Hp → Prop) → Prop) : Prop :=
  ∀ (pins : List (Addr × Obj)) (s : Shared) (σ : St) (H : Hp) (x : V) (v : Value) (Q : Bool → Hp → Prop), Inv X pins σ H s → RelV x v → r x H Q →
    wpAny (model X.prog X.w) X.A (truthy v) (TP X pins σ Q) X.xe s
def tOp (r : R2) (ta tb : TE) : TE := fun σ H Q => ta σ H fun x H1 => tb σ H1 fun y H2 => r x y H2 Q
def tUn (r : V → Hp → VK → Prop) (ta : TE) : TE := fun σ H Q => ta σ H fun x H1 => r x H1 Q
def rI (C : Int → Int → Prop) (g : Int → Int → V) : R2 := fun x y H Q => ∃ i j, x = .int i ∧ y = .int j ∧ C i j ∧ Q (g i j) H
def rI0 (g : Int → Int → V) : R2 := fun x y H Q => ∃ i j, x = .int i ∧ y = .int j ∧ Q (g i j) H
def rU (g : Int → V) : V → Hp → VK → Prop := fun x H Q => ∃ i, x = .int i ∧ Q (g i) H
section
variable {X : Cx} {a b c : Expr} {ta tb tc : TE} {pos : Pos}
theorem binT (ha : PE X a ta) (hb : PE X b tb) {pins : List (Addr × Obj)} {s : Shared} {σ : St} {H : Hp} {R : V → V → Hp → Prop} (I : Inv X pins σ H s)
    (h : ta σ H fun x H1 => tb σ H1 fun y H2 => R x y H2) {Q : Value → Shared → Prop} {f : Value → Value → Sem Value}
    (hf : ∀ v u s2 x y H2, Inv X pins σ H2 s2 → RelV x v → RelV y u → R x y H2 → wpAny (model X.prog X.w) X.A (f v u) Q X.xe s2) :
    wpAny (model X.prog X.w) X.A (eval a X.env) (fun v s₁ => wpAny (model X.prog X.w) X.A (eval b X.env) (fun u s₂ => wpAny (model X.prog X.w) X.A (f v u) Q X.xe s₂) X.xe s₁) X.xe s := by
  refine thn (ha pins s σ H _ I h) fun v s1 ⟨x, H1, I1, r1, q1⟩ => ?_
  refine thn (hb pins s1 σ H1 _ I1 q1) fun u s2 ⟨y, H2, I2, r2, q2⟩ => ?_
  exact hf v u s2 x y H2 I2 r1 r2 q2
theorem pe_op {op : Operator} {r : R2} (ho : OpR X (binaryOp op) r) (ha : PE X a ta) (hb : PE X b tb) : PE X (.BinOp a op b pos) (tOp r ta tb) := by
  intro pins s σ H Q I h
  exact wpAny_BinOp (binT ha hb I h fun v u s2 x y H2 I2 rx ry q => ho pins s2 σ H2 x y v u Q I2 rx ry q)
theorem pe_un {op : UnaryOp} {r : V → Hp → VK → Prop} (ho : UnR X (unaryOp op) r) (ha : PE X a ta) : PE X (.UnaryOp op a pos) (tUn r ta) := by
  intro pins s σ H Q I h
  exact UnaryOp_ (thn (ha pins s σ H _ I h) fun v s1 ⟨x, H1, I1, r1, q1⟩ => ho pins s1 σ H1 x v Q I1 r1 q1)
theorem opI {f : Value → Value → Sem Value} {C : Int → Int → Prop} {g : Int → Int → Int}
    (rule : ∀ (i j : Int) (t u : Tok) (s : Shared) (Q : Value → Shared → Prop) (E : Value → Shared → Prop), C i j → Q (.int (g i j) s.toks) { s with toks := s.toks + 1 } → wpAny (model X.prog X.w) X.A (f (.int i t) (.int j u)) Q E s) :
    OpR X f (rI C fun i j => .int (g i j)) := by
  intro pins s σ H x y v u Q I rx ry h
  obtain ⟨i, j, rfl, rfl, hc, q⟩ := h
  obtain ⟨t, rfl⟩ := rx
  obtain ⟨t', rfl⟩ := ry
  exact rule i j t t' s _ _ hc ⟨.int (g i j), H, I.tok _, ⟨_, rfl⟩, q⟩
theorem opI0 {f : Value → Value → Sem Value} {g : Int → Int → Int}
    (rule : ∀ (i j : Int) (t u : Tok) (s : Shared) (Q : Value → Shared → Prop) (E : Value → Shared → Prop), Q (.int (g i j) s.toks) { s with toks := s.toks + 1 } → wpAny (model X.prog X.w) X.A (f (.int i t) (.int j u)) Q E s) :
    OpR X f (rI0 fun i j => .int (g i j)) := by
  intro pins s σ H x y v u Q I rx ry h
  obtain ⟨i, j, rfl, rfl, q⟩ := h
  obtain ⟨t, rfl⟩ := rx
  obtain ⟨t', rfl⟩ := ry
  exact rule i j t t' s _ _ ⟨.int (g i j), H, I.tok _, ⟨_, rfl⟩, q⟩
theorem opB0 {f : Value → Value → Sem Value} {g : Int → Int → Bool}
    (rule : ∀ (i j : Int) (t u : Tok) (s : Shared) (Q : Value → Shared → Prop) (E : Value → Shared → Prop), Q (.bool (g i j)) s → wpAny (model X.prog X.w) X.A (f (.int i t) (.int j u)) Q E s) :
    OpR X f (rI0 fun i j => .bl (g i j)) := by
  intro pins s σ H x y v u Q I rx ry h
  obtain ⟨i, j, rfl, rfl, q⟩ := h
  obtain ⟨t, rfl⟩ := rx
  obtain ⟨t', rfl⟩ := ry
  exact rule i j t t' s _ _ ⟨.bl (g i j), H, I, rfl, q⟩
def CPow (i j : Int) : Prop := 0 ≤ j ∧ j ≤ 1000000 ∧ i.natAbs < 2 ^ 64
def CMul (i j : Int) : Prop := (-(2 ^ 64) < i ∧ i < 2 ^ 64) ∨ (-(2 ^ 64) < j ∧ j < 2 ^ 64)
theorem CMul.ok {i j : Int} (h : CMul i j) : IntMulOk i j := by
  rcases h with ⟨h1, h2⟩ | ⟨h1, h2⟩
  · exact .of_left (intBits_le_64 h1 h2)
  · exact .of_right (intBits_le_64 h1 h2)
theorem op_add : OpR X (binaryOp .Add) (rI0 fun i j => .int (i + j)) := opI0 fun _ _ _ _ _ _ _ q => add_int q
theorem op_sub : OpR X (binaryOp .Sub) (rI0 fun i j => .int (i - j)) := opI0 fun _ _ _ _ _ _ _ q => sub_int q
theorem op_mul : OpR X (binaryOp .Mult) (rI CMul fun i j => .int (i * j)) := opI fun _ _ _ _ _ _ _ hc q => mul_int q hc.ok
theorem op_mod : OpR X (binaryOp .Mod) (rI (fun _ j => 0 < j) fun i j => .int (i % j)) := opI fun i j _ _ _ _ _ hc q => by
  have h1 : (0 : Int) < j := hc
  exact mod_int' (by omega) (by rw [Int.fmod_eq_emod_of_nonneg i (by omega)]; exact q)
theorem op_pow : OpR X (binaryOp .Pow) (rI CPow fun i j => .int (i ^ j.toNat)) := opI fun _ _ _ _ _ _ _ hc q => pow_int_small hc.1 hc.2.1 hc.2.2 q
theorem unI {f : Value → Sem Value} {g : Int → Int}
    (rule : ∀ (i : Int) (t : Tok) (s : Shared) (Q : Value → Shared → Prop) (E : Value → Shared → Prop), Q (.int (g i) s.toks) { s with toks := s.toks + 1 } → wpAny (model X.prog X.w) X.A (f (.int i t)) Q E s) :
    UnR X f (rU fun i => .int (g i)) := by
  intro pins s σ H x v Q I rx h
  obtain ⟨i, rfl, q⟩ := h
  obtain ⟨t, rfl⟩ := rx
  exact rule i t s _ _ ⟨.int (g i), H, I.tok _, ⟨_, rfl⟩, q⟩
theorem un_neg : UnR X (unaryOp .USub) (rU fun i => .int (-i)) := unI fun _ _ _ _ _ q => neg_int q
end
def scal : V → V → Bool
  | .non, .non => true | .non, .int _ => true | .int _, .non => true | .non, .bl _ => true | .bl _, .non => true | .non, .str _ => true | .str _, .non => true
  | .int _, .int _ => true | .bl _, .bl _ => true | .str _, .str _ => true | .byt _, .byt _ => true
  | .int _, .str _ => true | .str _, .int _ => true | .bl _, .str _ => true | .str _, .bl _ => true
  | _, _ => false
def rEq : R2 := fun x y H Q => scal x y = true ∧ Q (.bl (decide (x = y))) H
def rNe : R2 := fun x y H Q => scal x y = true ∧ Q (.bl (!decide (x = y))) H
theorem dec_int {i j : Int} : decide (V.int i = V.int j) = (i == j) := by
  rw [Bool.eq_iff_iff]
  simp
theorem dec_bl {i j : Bool} : decide (V.bl i = V.bl j) = (i == j) := by
  rw [Bool.eq_iff_iff]
  simp
theorem dec_str {i j : Str} : decide (V.str i = V.str j) = (i == j) := by
  rw [Bool.eq_iff_iff]
  simp
theorem dec_byt {i j : Array UInt8} : decide (V.byt i = V.byt j) = (i.toList == j.toList) := by
  rw [Bool.eq_iff_iff]
  cases i
  cases j
  simp
section
variable {X : Cx} {a b c : Expr} {ta tb tc : TE} {pos : Pos}
theorem fin_bl {pins : List (Addr × Obj)} {σ : St} {H : Hp} {s : Shared} {Q : VK} {k k' : Bool} (I : Inv X pins σ H s) (q : Q (.bl k) H) (e : k = k') : EP X pins σ Q (.bool k') s := by
  subst e
  exact ⟨.bl k, H, I, rfl, q⟩
theorem op_eq : OpR X (compareOp .Eq) rEq := by
  intro pins s σ H x y v u Q I rx ry h
  obtain ⟨hs, q⟩ := h
  cases x with
  | non =>
    cases rx
    cases y with
    | non => cases ry; exact PySem.EqNone.eq_none_none (fin_bl I q (by simp))
    | bl j => cases ry; exact PySem.EqNone.eq_none_bool (fin_bl I q (by simp))
    | int j => obtain ⟨t', rfl⟩ := ry; exact PySem.EqNone.eq_none_int (fin_bl I q (by simp))
    | str j => obtain ⟨t', rfl⟩ := ry; exact PySem.EqNone.eq_none_str (fin_bl I q (by simp))
    | _ => exact absurd (show false = true from hs) Bool.false_ne_true
  | bl i =>
    cases rx
    cases y with
    | non => cases ry; exact PySem.EqNone.eq_bool_none (fin_bl I q (by simp))
    | bl j => cases ry; exact eq_bool (fin_bl I q dec_bl)
    | str j => obtain ⟨t', rfl⟩ := ry; exact PySem.EqMixed.eq_bool_str (fin_bl I q (by simp))
    | _ => exact absurd (show false = true from hs) Bool.false_ne_true
  | int i =>
    obtain ⟨t, rfl⟩ := rx
    cases y with
    | non => cases ry; exact PySem.EqNone.eq_int_none (fin_bl I q (by simp))
    | int j => obtain ⟨t', rfl⟩ := ry; exact eq_int (fin_bl I q dec_int)
    | str j => obtain ⟨t', rfl⟩ := ry; exact PySem.EqMixed.eq_int_str (fin_bl I q (by simp))
    | _ => exact absurd (show false = true from hs) Bool.false_ne_true
  | str i =>
    obtain ⟨t, rfl⟩ := rx
    cases y with
    | non => cases ry; exact PySem.EqNone.eq_str_none (fin_bl I q (by simp))
    | bl j => cases ry; exact PySem.EqMixed.eq_str_bool (fin_bl I q (by simp))
    | int j => obtain ⟨t', rfl⟩ := ry; exact PySem.EqMixed.eq_str_int (fin_bl I q (by simp))
    | str j => obtain ⟨t', rfl⟩ := ry; exact eq_str (fin_bl I q dec_str)
    | _ => exact absurd (show false = true from hs) Bool.false_ne_true
  | byt i =>
    obtain ⟨t, rfl⟩ := rx
    cases y with
    | byt j => obtain ⟨t', rfl⟩ := ry; exact PySem.W.eq_bytes (fin_bl I q dec_byt)
    | _ => exact absurd (show false = true from hs) Bool.false_ne_true
  | _ => cases y <;> exact absurd (show false = true from hs) Bool.false_ne_true
theorem op_ne : OpR X (compareOp .NotEq) rNe := by
  intro pins s σ H x y v u Q I rx ry h
  obtain ⟨hs, q⟩ := h
  cases x with
  | non =>
    cases rx
    cases y with
    | non => cases ry; exact PySem.EqNone.ne_none_none (fin_bl I q (by simp))
    | bl j => cases ry; exact PySem.EqNone.ne_none_bool (fin_bl I q (by simp))
    | int j => obtain ⟨t', rfl⟩ := ry; exact PySem.EqNone.ne_none_int (fin_bl I q (by simp))
    | str j => obtain ⟨t', rfl⟩ := ry; exact PySem.EqNone.ne_none_str (fin_bl I q (by simp))
    | _ => exact absurd (show false = true from hs) Bool.false_ne_true
  | bl i =>
    cases rx
    cases y with
    | non => cases ry; exact PySem.EqNone.ne_bool_none (fin_bl I q (by simp))
    | bl j => cases ry; exact ne_bool (fin_bl I q (congrArg not dec_bl))
    | str j => obtain ⟨t', rfl⟩ := ry; exact PySem.EqMixed.ne_bool_str (fin_bl I q (by simp))
    | _ => exact absurd (show false = true from hs) Bool.false_ne_true
  | int i =>
    obtain ⟨t, rfl⟩ := rx
    cases y with
    | non => cases ry; exact PySem.EqNone.ne_int_none (fin_bl I q (by simp))
    | int j => obtain ⟨t', rfl⟩ := ry; exact ne_int (fin_bl I q (congrArg not dec_int))
    | str j => obtain ⟨t', rfl⟩ := ry; exact PySem.EqMixed.ne_int_str (fin_bl I q (by simp))
    | _ => exact absurd (show false = true from hs) Bool.false_ne_true
  | str i =>
    obtain ⟨t, rfl⟩ := rx
    cases y with
    | non => cases ry; exact PySem.EqNone.ne_str_none (fin_bl I q (by simp))
    | bl j => cases ry; exact PySem.EqMixed.ne_str_bool (fin_bl I q (by simp))
    | int j => obtain ⟨t', rfl⟩ := ry; exact PySem.EqMixed.ne_str_int (fin_bl I q (by simp))
    | str j => obtain ⟨t', rfl⟩ := ry; exact ne_str (fin_bl I q (congrArg not dec_str))
    | _ => exact absurd (show false = true from hs) Bool.false_ne_true
  | byt i =>
    obtain ⟨t, rfl⟩ := rx
    cases y with
    | byt j => obtain ⟨t', rfl⟩ := ry; exact PySem.W.ne_bytes (fin_bl I q (congrArg not dec_byt))
    | _ => exact absurd (show false = true from hs) Bool.false_ne_true
  | _ => cases y <;> exact absurd (show false = true from hs) Bool.false_ne_true
theorem op_lt : OpR X (compareOp .Lt) (rI0 fun i j => .bl (decide (i < j))) := opB0 fun _ _ _ _ _ _ _ q => lt_int q
theorem op_le : OpR X (compareOp .LtE) (rI0 fun i j => .bl (decide (i ≤ j))) := opB0 fun _ _ _ _ _ _ _ q => le_int q
theorem op_ge : OpR X (compareOp .GtE) (rI0 fun i j => .bl (decide (j ≤ i))) := opB0 fun _ _ _ _ _ _ _ q => ge_int q
theorem nomark (b : Expr) {op : CmpOp} (h : op ≠ .In := by decide) (h2 : op ≠ .NotIn := by decide) : behindInMarks op b = false := by
  have e1 : (op == CmpOp.In) = false := by cases op <;> first | rfl | exact absurd rfl h
  have e2 : (op == CmpOp.NotIn) = false := by cases op <;> first | rfl | exact absurd rfl h2
  cases b <;> simp [behindInMarks, e1, e2]
theorem pe_cmpR {op : CmpOp} {r : R2} (ho : OpR X (compareOp op) r) (ha : PE X a ta) (hb : PE X b tb) (hm : behindInMarks op b = false) : PE X (.Compare a [op] [b] pos) (tOp r ta tb) := by
  intro pins s σ H Q I h
  exact wpAny_Compare1 (binT ha hb I h fun v u s2 x y H2 I2 rx ry q => ho pins s2 σ H2 x y v u Q I2 rx ry q) hm
def tTest (t : TE) : TT := fun σ H Q => t σ H fun x H' => ∃ k, x = .bl k ∧ Q k H'
theorem pt_cmpR {op : CmpOp} {r : R2} (ho : OpR X (compareOp op) r) (ha : PE X a ta) (hb : PE X b tb) (hm : behindInMarks op b = false) : PT X (.Compare a [op] [b] pos) (tTest (tOp r ta tb)) := by
  intro pins s σ H Q I h
  refine wpAny_isTrue_Compare1 (thn (ha pins s σ H _ I h) fun v s1 ⟨x, H1, I1, r1, q1⟩ => thn (hb pins s1 σ H1 _ I1 q1) fun u s2 ⟨y, H2, I2, r2, q2⟩ =>
    thn (ho pins s2 σ H2 x y v u _ I2 r1 r2 q2) fun c s3 ⟨z, H3, I3, r3, k, e, q3⟩ => ?_) hm
  subst e
  cases r3
  exact wpAny_truthy_bool ⟨H3, I3, q3⟩
def tChain (r r' : R2) (ta tb tc : TE) : TE := fun σ H Q => ta σ H fun x H1 => tb σ H1 fun y H2 => r x y H2 fun z H3 => ∃ k, z = .bl k ∧
  (if k = true then tc σ H3 fun w' H4 => r' y w' H4 Q else Q (.bl false) H3)
theorem pe_chain {op op' : CmpOp} {r r' : R2} (ho : OpR X (compareOp op) r) (ho' : OpR X (compareOp op') r') (ha : PE X a ta) (hb : PE X b tb) (hc : PE X c tc)
    (hm : lastMarks [op, op'] [b, c] = false := by with_unfolding_all rfl) : PE X (.Compare a [op, op'] [b, c] pos) (tChain r r' ta tb tc) := by
  intro pins s σ H Q I h
  refine Compare_chain (thn (ha pins s σ H _ I h) fun v s1 ⟨x, H1, I1, r1, q1⟩ => chain_link (thn (hb pins s1 σ H1 _ I1 q1) fun u s2 ⟨y, H2, I2, r2, q2⟩ =>
    thn (ho pins s2 σ H2 x y v u _ I2 r1 r2 q2) fun d s3 ⟨z, H3, I3, r3, k, e, q3⟩ => ?_)) hm
  subst e
  cases r3
  refine wpAny_truthy_bool ?_
  cases k with
  | false => exact ite_ff ⟨.bl false, H3, I3, rfl, q3⟩
  | true => exact ite_tt (chain_last (thn (hc pins s3 σ H3 _ I3 q3) fun w' s4 ⟨z', H4, I4, r4, q4⟩ => ho' pins s4 σ H4 y z' u w' Q I4 r2 r4 q4))
theorem pt_chain {op op' : CmpOp} {r r' : R2} (ho : OpR X (compareOp op) r) (ho' : OpR X (compareOp op') r') (ha : PE X a ta) (hb : PE X b tb) (hc : PE X c tc)
    (hm : lastMarks [op, op'] [b, c] = false := by with_unfolding_all rfl) : PT X (.Compare a [op, op'] [b, c] pos) (tTest (tChain r r' ta tb tc)) := by
  intro pins s σ H Q I h
  refine isTrue_chain (thn (ha pins s σ H _ I h) fun v s1 ⟨x, H1, I1, r1, q1⟩ => test_link (thn (hb pins s1 σ H1 _ I1 q1) fun u s2 ⟨y, H2, I2, r2, q2⟩ =>
    thn (ho pins s2 σ H2 x y v u _ I2 r1 r2 q2) fun d s3 ⟨z, H3, I3, r3, k, e, q3⟩ => ?_)) hm
  subst e
  cases r3
  refine wpAny_truthy_bool ?_
  cases k with
  | false =>
    obtain ⟨k', e', q'⟩ := q3
    cases e'
    exact ite_ff ⟨H3, I3, q'⟩
  | true =>
    refine ite_tt (test_last (thn (hc pins s3 σ H3 _ I3 q3) fun w' s4 ⟨z', H4, I4, r4, q4⟩ => thn (ho' pins s4 σ H4 y z' u w' _ I4 r2 r4 q4) fun d' s5 ⟨z2, H5, I5, r5, k2, e2, q5⟩ => ?_))
    subst e2
    cases r5
    exact wpAny_truthy_bool ⟨H5, I5, q5⟩
def TruV (K : PySem.W.Frag) (x : V) (H : Hp) (k : Bool) : Prop :=
  match x with
  | .non => k = false
  | .bl b => k = b
  | .int i => k = (i != 0)
  | .str y => y.length ≤ sizeLine ∧ k = ((y.length : Int) != 0)
  | .byt y => y.size ≤ sizeLine ∧ k = ((y.size : Int) != 0)
  | .ref p => (∃ xs, SqL K H p xs ∧ k = !xs.isEmpty) ∨ (∃ xs, SqT K H p xs ∧ k = !xs.isEmpty) ∨ ∃ kvs, H p = some (.dK kvs) ∧ k = !kvs.isEmpty
  | _ => False
theorem isEmpty_kv {κ : Type} {kvs : List (κ × V)} {vs : List (κ × Value)} (r : KV kvs vs) : (!vs.isEmpty) = !kvs.isEmpty := by
  cases r <;> rfl
theorem isEmpty_of {xs : List V} {its : List Value} (r : Vals xs its) : (!its.toArray.isEmpty) = !xs.isEmpty := by
  cases r <;> simp
theorem line63 : (sizeLine : Nat) < 2 ^ 63 := by rw [sizeLine_eq]; decide
theorem tru_ok : TruR X (fun x H Q => ∃ k, TruV X.K x H k ∧ Q k H) := by
  intro pins s σ H x v Q I rx h
  obtain ⟨k, e, q⟩ := h
  have hl := line63
  have hs : sizeLine = 16777216 := sizeLine_eq
  cases x with
  | non =>
    cases rx
    have e' : k = false := e
    subst e'
    exact truthy_none ⟨H, I, q⟩
  | bl b =>
    cases rx
    have e' : k = b := e
    subst e'
    exact wpAny_truthy_bool ⟨H, I, q⟩
  | int i =>
    obtain ⟨t, rfl⟩ := rx
    have e' : k = (i != 0) := e
    subst e'
    exact PySem.P.truthy_int ⟨H, I, q⟩
  | str y =>
    obtain ⟨t, rfl⟩ := rx
    obtain ⟨hy, e'⟩ : y.length ≤ sizeLine ∧ k = ((y.length : Int) != 0) := e
    subst e'
    exact PySem.P.truthy_str (by omega) ⟨H, I.tok _, q⟩
  | byt y =>
    obtain ⟨t, rfl⟩ := rx
    obtain ⟨hy, e'⟩ : y.size ≤ sizeLine ∧ k = ((y.size : Int) != 0) := e
    subst e'
    exact PySem.W.truthy_bytes (by omega) ⟨H, I.tok _, q⟩
  | ref p =>
    cases rx
    have e' : (∃ xs, SqL X.K H p xs ∧ k = !xs.isEmpty) ∨ (∃ xs, SqT X.K H p xs ∧ k = !xs.isEmpty) ∨ ∃ kvs, H p = some (.dK kvs) ∧ k = !kvs.isEmpty := e
    rcases e' with ⟨xs, hx, e'⟩ | ⟨xs, hx, e'⟩ | ⟨kvs, hx, e'⟩
    · subst e'
      obtain ⟨its, r, pl, hz⟩ := I.list hx
      have hlen := r.length
      exact wpAny_truthy_list pl.isList (by simp only [List.size_toArray]; omega) ⟨H, I.tok _, by rw [isEmpty_of r]; exact q⟩
    · subst e'
      obtain ⟨its, r, pl, hz⟩ := I.tuple hx
      have hlen := r.length
      exact truthy_tuple pl (by simp only [List.size_toArray]; omega) ⟨H, I.tok _, by rw [isEmpty_of r]; exact q⟩
    · subst e'
      obtain ⟨hz, hS, vs, r, m⟩ : kvs.length ≤ sizeLine ∧ (p == sysModules) = false ∧ ∃ vs, KV kvs vs ∧ s.heap.DictOf (mixKind X.prog X.w) p vs := I.hok p _ hx
      have hlen : kvs.length = vs.length := Paired.length r
      exact wpAny_truthy_dict hS m (by omega) ⟨H, I.tok _, by rw [isEmpty_kv r]; exact q⟩
  | _ => exact (show False from e).elim
theorem pt_truth (ha : PE X a ta) (he : ∀ whole, isTrue a X.env whole = (do let v ← whole; standAt a.pos; holding [v] (truthy v))) :
    PT X a (fun σ H Q => ta σ H fun x H' => ∃ k, TruV X.K x H' k ∧ Q k H') := by
  intro pins s σ H Q I h
  exact isTrue_plain (thn (ha pins s σ H _ I h) fun v s1 ⟨x, H1, I1, r1, q1⟩ => tru_ok pins s1 σ H1 x v Q I1 r1 q1) (he _)
theorem vals1 {x : V} {us : List Value} (r : Vals [x] us) : ∃ u, us = [u] ∧ RelV x u := by
  cases r with
  | cons r1 r2 => cases r2; exact ⟨_, rfl, r1⟩
theorem vals2 {x y : V} {us : List Value} (r : Vals [x, y] us) : ∃ u w', us = [u, w'] ∧ RelV x u ∧ RelV y w' := by
  cases r with
  | cons r1 r2 =>
    cases r2 with
    | cons r3 r4 => cases r4; exact ⟨_, _, rfl, r1, r3⟩
theorem call_min2 (hc : X.calm = true) : CallR X (.builtin "min") (fun xs H Q => ∃ i j, xs = [.int i, .int j] ∧ Q (.int (if j < i then j else i)) H) := by
  intro pins s σ H xs us Q I r h
  obtain ⟨i, j, rfl, q⟩ := h
  obtain ⟨u, w', rfl, ⟨t, rfl⟩, ⟨t', rfl⟩⟩ := vals2 r
  refine min_two_ints (I.ok.hd hc) fun h' tk k => ⟨_, H, I.kept k, ?_, q⟩
  by_cases hj : j < i
  · rw [if_pos hj, if_pos hj]; exact ⟨_, rfl⟩
  · rw [if_neg hj, if_neg hj]; exact ⟨_, rfl⟩
theorem call_int1 : CallR X (.type "int") (fun xs H Q => (∃ i, xs = [.int i] ∧ Q (.int i) H) ∨ ∃ k, xs = [.bl k] ∧ Q (.int (if k then 1 else 0)) H) := by
  intro pins s σ H xs us Q I r h
  rcases h with ⟨i, rfl, q⟩ | ⟨k, rfl, q⟩
  · obtain ⟨u, rfl, t, rfl⟩ := vals1 r
    exact call_int_int ⟨.int i, H, I, ⟨_, rfl⟩, q⟩
  · obtain ⟨u, rfl, r1⟩ := vals1 r
    cases r1
    exact call_int_bool ⟨.int (if k then 1 else 0), H, I.tok _, ⟨_, rfl⟩, q⟩
end
end L2
namespace L2
open PySem PySem.Spec PyProof.Rows
structure ObjM (h : Heap) (x dx C : Addr) (mA : Str → Option Value) : Prop where
  obj : h.get? x = some (PySem.W.instObj C dx)
  ns : h.Ns1 dx mA
  ne : dx ≠ x
theorem lookIn_ns {h : Heap} {dx : Addr} {mA : Str → Option Value} (n : h.Ns1 dx mA) : ∃ od, h.get? dx = some od ∧ ∀ name, PySem.W.lookIn name od = some (mA name) := by
  obtain ⟨o, es, ep, ho, hd, hk, _, hm⟩ := n
  refine ⟨o, ho, fun name => ?_⟩
  have e := hm name
  unfold nsFind findBy at e
  rw [← Array.find?_toList] at e
  unfold PySem.W.lookIn
  rw [hd]
  dsimp only
  split
  · rename_i y q
    rw [q] at e
    exact congrArg some e
  · rename_i q
    rw [q] at e
    have a : es.toList.any (·.refKey) = false := by
      rw [List.any_eq_false]
      intro y hy
      obtain ⟨z, t, hkey⟩ := hk y (Array.mem_toList_iff.mp hy)
      simp [DictEntry.refKey, hkey]
    have a' : ¬ es.toList.any (·.refKey) = true := by rw [a]; exact Bool.false_ne_true
    rw [if_neg a']
    exact congrArg some e
theorem ObjM.look {h : Heap} {x dx C : Addr} {mA : Str → Option Value} (I : ObjM h x dx C mA) : ∃ od, PySem.W.InstAt h x (PySem.W.instObj C dx) C (some od) ∧ ∀ name, PySem.W.lookIn name od = some (mA name) :=
  let ⟨od, ho, hl⟩ := lookIn_ns I.ns
  ⟨od, ⟨I.obj, rfl, rfl, ho⟩, hl⟩
section
variable {prog : Program} {w : World} {A : Around} {E : Value → Shared → Prop} {s : Shared} {K : PySem.W.Frag} {x dx C f : Addr} {mA : Str → Option Value} {name : Str} {v : Value}
end
section
variable {P : Program} {w : World} {H H' : Hp} {h h' : Heap} {a C dx : Addr} {fs fs' : List (Str × V)}
theorem ins_get (hok : HOk P w H h) (e : H a = some (.ins C dx fs)) : ∃ mA, ObjM h a dx C mA ∧ (∀ f, RelO (fs.lookup f) (mA f)) ∧ PySem.Within mA (fs.map (·.1)) ∧ fs.length ≤ 1000 ∧ H dx = some (.own a) := by
  obtain ⟨d, z, ne, ob, mA, n, r, q⟩ := (show ObjOk P w H h a (.ins C dx fs) from hok a _ e)
  exact ⟨mA, ⟨ob, n, ne⟩, r, q, z, d⟩
end
structure Cls (K : PySem.W.Frag) (C : Addr) : Prop where
  pg : PySem.W.plainGet K C Str.empty = true
  hd : PySem.W.hasDictIn K C = true
  po : PySem.W.plainOver K C = true
  sa : PySem.W.findIn K (.ref C) "__setattr__" = some (some (.builtin "object.__setattr__"))
theorem Cls.get {K : PySem.W.Frag} {C : Addr} (c : Cls K C) (f : Str) : PySem.W.plainGet K C f = true := c.pg
section
variable {X : Cx} {pins : List (Addr × Obj)} {σ : St} {H : Hp} {s : Shared} {a C dx : Addr} {fs : List (Str × V)} {f : Str} {v : V} {A : Around} {E : Value → Shared → Prop}
end
section
variable {X : Cx} {o e value : Expr} {f : Str} {pos pos' tpos : Pos} {ta tv : TE}
end
section
variable {X : Cx} {pins : List (Addr × Obj)} {σ : St} {H : Hp} {s : Shared} {A : Around} {E : Value → Shared → Prop} {Q : Value → Shared → Prop} {c : Value} {b : Bool}
inductive TyOf (K : PySem.W.Frag) (H : Hp) : V → Value → Prop where
  | non : TyOf K H .non (.type "NoneType")
  | bl (x : Bool) : TyOf K H (.bl x) (.type "bool")
  | int (i : Int) : TyOf K H (.int i) (.type "int")
  | str (x : Str) : TyOf K H (.str x) (.type "str")
  | flt (x : UInt64) : TyOf K H (.flt x) (.type "float")
  | lst {a : Addr} {xs : List V} (e : H a = some (.lst xs)) : TyOf K H (.ref a) (.type "list")
  | frz {a : Addr} {o : Obj} {xs : List V} (e : H a = some (.frz o (.lst xs))) : TyOf K H (.ref a) (.type "list")
  | tup {a : Addr} {xs : List V} (e : H a = some (.tup xs)) : TyOf K H (.ref a) (.type "tuple")
  | dK {a : Addr} {kvs : List (Key × V)} (e : H a = some (.dK kvs)) : TyOf K H (.ref a) (.type "dict")
  | dT {a : Addr} {kvs : List (List Key × V)} (e : H a = some (.dT kvs)) : TyOf K H (.ref a) (.type "dict")
  | ins {a C dx : Addr} {fs : List (Str × V)} (e : H a = some (.ins C dx fs)) (cl : Cls K C) (ha : PySem.W.findIn K (.ref C) "__class__" = some (some (.builtin "object.__class__")))
      (hn : PySem.W.specialIn K (.builtin "object.__class__") "__get__" = some (some (.builtin "getset_descriptor.__get__"))) (htk : PySem.W.takesIn K (.builtin "object.__class__") = some true)
      (hm : PySem.W.mroIn K C (.type "object") = some true) : TyOf K H (.ref a) (.ref C)
theorem isinst_ok {x : V} {u t : Value} (I : Inv X pins σ H s) (rx : RelV x u) (ty : TyOf X.K H x t) (e : PySem.W.kitOne X.K t c = some b) (h : ∀ tk, Q (.bool b) { s with toks := tk }) :
    wpAny (model X.prog X.w) A (call (.builtin "isinstance") [u, c]) Q E s := by
  cases ty with
  | non => cases (show u = Value.none from rx); exact PySem.W.kia_one PySem.W.kitx_none I.kIn True.intro e (fun z => nomatch z) h
  | bl y => cases (show u = Value.bool y from rx); exact PySem.W.kia_one PySem.W.kitx_bool I.kIn True.intro e (fun z => nomatch z) h
  | int i => obtain ⟨t, q⟩ := (show ∃ t, u = Value.int i t from rx); cases q; exact PySem.W.kia_one PySem.W.kitx_int I.kIn True.intro e (fun z => nomatch z) h
  | str y => obtain ⟨t, q⟩ := (show ∃ t, u = Value.str y t from rx); cases q; exact PySem.W.kia_one PySem.W.kitx_str I.kIn True.intro e (fun z => nomatch z) h
  | flt y => obtain ⟨t, q⟩ := (show ∃ t, u = Value.float y t from rx); cases q; exact PySem.W.kia_one PySem.W.kitx_float I.kIn True.intro e (fun z => nomatch z) h
  | @lst a xs ea =>
    cases (show u = Value.ref a from rx)
    obtain ⟨_, _, n, _, h1⟩ := (show ObjOk X.prog X.w H s.heap a (.lst xs) from I.hok a _ ea)
    exact PySem.W.kia_one PySem.W.kitx_list I.kIn ⟨_, h1, rfl⟩ e (fun z => nomatch z) h
  | @frz a ob xs ea =>
    cases (show u = Value.ref a from rx)
    obtain ⟨_, _, _, n, _, h1⟩ := (show ObjOk X.prog X.w H s.heap a (.frz ob (.lst xs)) from I.hok a _ ea)
    exact PySem.W.kia_one PySem.W.kitx_list I.kIn ⟨_, h1, rfl⟩ e (fun z => nomatch z) h
  | @tup a xs ea =>
    cases (show u = Value.ref a from rx)
    obtain ⟨_, _, _, p⟩ := (show ObjOk X.prog X.w H s.heap a (.tup xs) from I.hok a _ ea)
    obtain ⟨o, h1, h2, _⟩ := p
    exact PySem.W.kia_one PySem.W.kitx_tuple I.kIn ⟨o, h1, h2⟩ e (fun z => nomatch z) h
  | @dK a kvs ea =>
    cases (show u = Value.ref a from rx)
    obtain ⟨_, _, vs, _, p⟩ := (show ObjOk X.prog X.w H s.heap a (.dK kvs) from I.hok a _ ea)
    obtain ⟨o, es, ep, h1, h2, _⟩ := p
    exact PySem.W.kia_one PySem.W.kitx_dict I.kIn ⟨o, h1, h2.1⟩ e (fun z => nomatch z) h
  | @dT a kvs ea =>
    cases (show u = Value.ref a from rx)
    obtain ⟨_, _, xs, _, o, es, ep, h1, h2, _⟩ := (show ObjOk X.prog X.w H s.heap a (.dT kvs) from I.hok a _ ea)
    exact PySem.W.kia_one PySem.W.kitx_dict I.kIn ⟨o, h1, h2.1⟩ e (fun z => nomatch z) h
  | @ins a C dx fs ea cl ha hn htk hm =>
    cases (show u = Value.ref a from rx)
    obtain ⟨mA, O, _⟩ := ins_get I.hok ea
    obtain ⟨od, J, _⟩ := O.look
    exact PySem.W.kia_one (PySem.W.kitx_own (cl.get _) cl.hd ha hn htk hm) I.kIn J e (fun z => nomatch z) h
end
end L2
namespace L2
open PySem PySem.Spec PyProof.Rows
structure Room (k : Nat) (A : Around) : Prop where
  hd : A.handled = none
  dp : A.depth + 3 * k + 5 < recursionLimit
  un : A.units + 16 * k + 200 < cLine
theorem Room.mono {j k : Nat} {A : Around} (r : Room k A) (h : j ≤ k) : Room j A := ⟨r.hd, by have := r.dp; omega, by have := r.un; omega⟩
theorem Room.deeper {k : Nat} {A : Around} (r : Room (k + 1) A) (env : Env) : Room k (A.deeper env) :=
  ⟨r.hd, by have := r.dp; show A.depth + 1 + 3 * k + 5 < _; omega, by have := r.un; show A.units + 3 + 16 * k + 200 < _; omega⟩
theorem Room.depth {k : Nat} {A : Around} (r : Room k A) : A.depth < recursionLimit := by have := r.dp; omega
theorem Room.units {k : Nat} {A : Around} (r : Room k A) : A.units + 64 < cLine := by have := r.un; omega
def tNil : TA := fun _ H Q => Q [] H
def tCons (ta : TE) (tr : TA) : TA := fun σ H Q => ta σ H fun x H1 => tr σ H1 fun xs H2 => Q (x :: xs) H2
section
variable {X : Cx} {e : Expr} {es : List Expr} {te : TE} {t : TA} {pos : Pos}
theorem pa_nil : PA X [] tNil := fun _ _ _ _ H Q I h => Calls.spliced_nil ⟨[], H, I, .nil, h⟩
theorem pa_cons (ha : PE X e te) (hr : PA X es t) (hs : starEach (e :: es) X.env = (false, eval e X.env) :: starEach es X.env := by rfl) : PA X (e :: es) (tCons te t) := by
  intro pos pins s σ H Q I h
  rw [hs]
  show wpAny _ _ (spliced ((false, eval e X.env) :: backTo pos (starEach es X.env))) _ _ s
  refine Calls.spliced_cons (thn (ha pins s σ H _ I h) fun u s1 ⟨x, H1, I1, r1, q1⟩ => ?_)
  exact thn (hr pos pins s1 σ H1 _ I1 q1) fun us s2 ⟨xs, H2, I2, r2, q2⟩ => ⟨x :: xs, H2, I2, .cons r1 r2, q2⟩
def tTup (t : TA) : TE := fun σ H Q => t σ H fun xs H1 => xs.length ≤ sizeLine ∧ ∀ p, H1 p = none → Q (.ref p) (upd H1 p (.tup xs))
def tLst (t : TA) : TE := fun σ H Q => t σ H fun xs H1 => xs.length ≤ sizeLine ∧ ∀ p, H1 p = none → Q (.ref p) (upd H1 p (.lst xs))
theorem pe_tup {x1} (h : PA X es t) : PE X (.Tuple es x1 pos) (tTup t) := by
  intro pins s σ H Q I hq
  refine wpAny_Tuple_spliced (thn (h pos pins s σ H _ I hq) fun us s1 ⟨xs, H1, I1, r, z, q⟩ => ⟨by rw [← r.length]; exact z, ?_⟩)
  have hf : H1 s1.heap.objs.size = none := I1.hok.fresh (Nat.le_refl _)
  refine ⟨.ref s1.heap.objs.size, upd H1 s1.heap.objs.size (.tup xs), I1.laid (t' := s1.toks) (fun b u e => Heap.get?_push_of_some _ e) (Nat.le_refl _) ?_, rfl, q _ hf⟩
  exact ⟨z, us, r, ⟨_, Heap.get?_push_size _ rfl, rfl, _, rfl⟩⟩
theorem pe_lst (h : PA X es t) : PE X (.List es pos) (tLst t) := by
  intro pins s σ H Q I hq
  refine wpAny_List_spliced (thn (h pos pins s σ H _ I hq) fun us s1 ⟨xs, H1, I1, r, z, q⟩ => ⟨by rw [← r.length]; exact z, ?_⟩)
  have hf : H1 s1.heap.objs.size = none := I1.hok.fresh (Nat.le_refl _)
  refine ⟨.ref s1.heap.objs.size, upd H1 s1.heap.objs.size (.lst xs), I1.laid (t' := s1.toks) (fun b u e => Heap.get?_push_of_some _ e) (Nat.le_refl _) ?_, rfl, q _ hf⟩
  exact ⟨z, us, 0, r, Heap.get?_push_size _ rfl⟩
end
abbrev Sp := List V → Hp → VK → XK → Prop
abbrev CXT := List Env → Hp → Shared → XK → Value → Shared → Prop
structure Env0 (P : Program) (w : World) (K : PySem.W.Frag) (mg : Str → Option Value) (base : Heap) (A : Around) (outer : List Env) (s : Shared) (H : Hp) : Prop where
  frames : A.frames = some outer
  mod : Mod K mg base
  bs : ∀ b o, base.get? b = some o → s.heap.get? b = some o ∧ H b = none
  bsz : base.objs.size ≤ s.heap.objs.size
  funs : s.heap.FunFrames base outer
  frf : ∀ b ∈ frs outer, H b = none
  hok : HOk P w H s.heap
  bare : AllBare s.gens
def CE (outer : List Env) (P : Program) (w : World) (H : Hp) (s : Shared) (Q : VK) (u : Value) (s' : Shared) : Prop :=
  ∃ v H', s'.os = s.os ∧ AllBare s'.gens ∧ Un (frs outer) [] H H' s.heap s'.heap ∧ HOk P w H' s'.heap ∧ RelV v u ∧ Q v H'
def CR (CX : CXT) (outer : List Env) (P : Program) (w : World) (H : Hp) (s : Shared) (Q : VK) (E : XK) (r : Result) (s' : Shared) : Prop :=
  match r with
  | .ok (.ret u) => CE outer P w H s Q u s'
  | .ok _ => False
  | .error e => CX outer H s E e s'
structure FnOk (P : Program) (w : World) (K : PySem.W.Frag) (mg : Str → Option Value) (base : Heap) (CX : CXT) (k : Nat) (f : Addr) (fd : FuncData) (ps : List Str) (sp : Sp) : Prop where
  len : ∀ vs H Q E, sp vs H Q E → vs.length = ps.length
  run : ∀ (A : Around) (outer : List Env) (s : Shared) (H : Hp) (args : Args) (us : List Value) (vs : List V) (Q : VK) (E : XK), Room k A → Env0 P w K mg base A outer s H → BindsTo s fd args (ps.zip us) → Vals vs us → sp vs H Q E →
    codeAny (model P w) A (.call (.ref f) args) (CR CX outer P w H s Q E) s
theorem FnOk.mono {P : Program} {w : World} {K : PySem.W.Frag} {mg : Str → Option Value} {base : Heap} {CX : CXT} {j k : Nat} {f : Addr} {fd : FuncData} {ps : List Str} {sp : Sp} (F : FnOk P w K mg base CX j f fd ps sp) (h : j ≤ k) :
    FnOk P w K mg base CX k f fd ps sp := ⟨F.len, fun A outer s H args us vs Q E hr => F.run A outer s H args us vs Q E (hr.mono h)⟩
section
variable {X : Cx} {pins : List (Addr × Obj)} {σ : St} {H : Hp} {s s' : Shared}
theorem Inv.env0 (I : Inv X pins σ H s) : Env0 X.prog X.w X.K X.mg X.base X.A X.stack s H :=
  ⟨I.ok.frames, I.ok.mod, I.bs, Nat.le_trans I.ok.bsz I.sz, I.stack, I.stkFree, I.hok, I.bare⟩
theorem Inv.after {Q : VK} {u : Value} (I : Inv X pins σ H s) (h : CE X.stack X.prog X.w H s Q u s') : EP X pins σ Q u s' := by
  obtain ⟨v, H', os, bare, un, hok, r, q⟩ := h
  obtain ⟨hh, g, d, t, os'⟩ := s'
  obtain rfl : os' = s.os := os
  exact ⟨v, H', I.call (h' := hh) (g' := g) (d' := d) (t' := t) (ch := []) un hok bare (fun b z => absurd z (by simp)), r, q⟩
end
def tCall (sp : Sp) (dvs : List V) (E : XK) (t : TA) : TE := fun σ H Q => t σ H fun vs H1 => sp (vs ++ dvs) H1 Q E
def Binds (K : PySem.W.Frag) (fd : FuncData) (ps : List Str) (ds : List Value) : Prop :=
  ∀ (s : Shared) (us : List Value), K.In s.heap → (us ++ ds).length = ps.length → BindsTo s fd ⟨us, []⟩ (ps.zip (us ++ ds))
theorem Binds.all {K : PySem.W.Frag} {fd : FuncData} {ps : List Str} (h : ∀ us : List Value, us.length = ps.length → bindArgs fd ⟨us, []⟩ = pure (ps.zip us)) : Binds K fd ps [] := fun s us _ hl => by
  rw [List.append_nil] at hl ⊢
  exact .of_eq (h us hl)
def Passes (CX : CXT) (X : Cx) (E : XK) : Prop := ∀ (pins : List (Addr × Obj)) (σ : St) (H : Hp) (s : Shared) (e : Value) (s' : Shared), Inv X pins σ H s → CX X.stack H s E e s' → X.xe e s'
section
variable {X : Cx} {CX : CXT} {k : Nat} {f C : Addr} {fd : FuncData} {ps : List Str} {sp : Sp} {dvs : List V} {ds : List Value} {E : XK} {x m : Str} {p pos apos : Pos} {e o : Expr} {es : List Expr} {ta : TE} {t : TA}
theorem run_fn {pins : List (Addr × Obj)} {σ : St} {H : Hp} {s : Shared} {Q : VK} {us : List Value} {vs : List V} (F : FnOk X.prog X.w X.K X.mg X.base CX k f fd ps sp) (hr : Room k X.A) (hb : Binds X.K fd ps ds) (hd : Vals dvs ds) (hx : Passes CX X E)
    (I : Inv X pins σ H s) (r : Vals vs us) (h : sp (vs ++ dvs) H Q E) : wpAny (model X.prog X.w) X.A (call (.ref f) us) (EP X pins σ Q) X.xe s := by
  have r2 : Vals (vs ++ dvs) (us ++ ds) := r.append hd
  have hl : (us ++ ds).length = ps.length := by rw [← r2.length]; exact F.len _ _ _ _ h
  refine wpAny_call (codeAny_mono (F.run X.A X.stack s H ⟨us, []⟩ (us ++ ds) (vs ++ dvs) Q E hr I.env0 (hb s us I.kIn hl) r2 h) fun r s' hq => ?_)
  cases r with
  | error e => exact hx pins σ H s e s' I hq
  | ok fl =>
    cases fl with
    | ret u => exact I.after hq
    | next => exact False.elim hq
    | brk => exact False.elim hq
    | cont => exact False.elim hq
theorem pe_call (F : FnOk X.prog X.w X.K X.mg X.base CX k f fd ps sp) (hr : Room k X.A) (hg : Gl X x) (hm : X.mg x = some (.ref f)) (hk : PySem.W.keepIn X.K (.ref f) = true) (hb : Binds X.K fd ps ds) (hd : Vals dvs ds) (hx : Passes CX X E)
    (ha : PA X (e :: es) t) (hdb : (x == ("__debug__" : Str)) = false := by decide) (he : starEach (e :: es) X.env = (false, eval e X.env) :: starEach es X.env := by rfl) (hpl : (backTo pos (starEach es X.env)).any (·.1) = false := by rfl) :
    PE X (.Call (.Name x p) (e :: es) [] pos) (tCall sp dvs E t) := by
  intro pins s σ H Q I h
  refine wpAny_Call_Name_kw (ld_glob I hg hm ?_ hdb)
  refine PySem.W.callWith_K (h₀ := X.base) I.ok.mod.kin hk (thn (ha pos pins s σ H _ I h) fun us s1 ⟨vs, H1, I1, r, q⟩ => ⟨I1.kIn, ?_⟩) he hpl
  exact run_fn F hr hb hd hx I1 r q
end
section
variable {X : Cx} {CX : CXT} {k : Nat} {f C : Addr} {fd : FuncData} {ps ks : List Str} {sp : Sp} {E : XK} {x m : Str} {p pos apos kpos : Pos} {e o : Expr} {es : List Expr} {kws : List Keyword} {te ta : TE} {t tk : TA} {nm : Option Str}
variable {g : List Value → List Value → List Value} {gV : List V → List V → List V}
end
structure FnScope (N P : List Str) (sc : Scope) : Prop where
  kind : sc.kind = .function
  co : sc.isCoroutine = false
  gen : sc.isGenerator = false
  nd : N.Nodup
  pre : N.take P.length = P
  par : ∀ x ∈ P, sc.names.lookup x = some .local ∨ sc.names.lookup x = some .cell
  nofree : ∀ y ∈ sc.names, y.2 ≠ .free
theorem bindL_out {kindOf : Str → Option NameKind} {x : Str} : ∀ {binds : List (Str × Value)} {m : Str → Option Value}, (∀ v, (x, v) ∉ binds) → bindL kindOf binds m x = m x
  | [], _, _ => rfl
  | (n, v) :: r, m, h => by
    unfold bindL
    rw [bindL_out fun w hw => h w (List.mem_cons_of_mem _ hw)]
    split
    · have : x ≠ n := by rintro rfl; exact h v List.mem_cons_self
      simp [this]
    · rfl
theorem bindC_out {kindOf : Str → Option NameKind} {x : Str} : ∀ {binds : List (Str × Value)} {m : Str → Option Value}, (∀ v, (x, v) ∉ binds) → bindC kindOf binds m x = m x
  | [], _, _ => rfl
  | (n, v) :: r, m, h => by
    unfold bindC
    rw [bindC_out fun w hw => h w (List.mem_cons_of_mem _ hw)]
    split
    · rfl
    · have : x ≠ n := by rintro rfl; exact h v List.mem_cons_self
      simp [this]
theorem bindL_get {kindOf : Str → Option NameKind} {x : Str} {v : Value} : ∀ {P : List Str} {vs : List Value} {i : Nat} {m : Str → Option Value}, P.Nodup → P[i]? = some x → vs[i]? = some v → kindOf x = some .local →
    bindL kindOf (P.zip vs) m x = some v
  | [], _, _, _, _, h, _, _ => by simp at h
  | _ :: _, [], _, _, _, _, h, _ => by simp at h
  | p :: P, w :: vs, 0, m, nd, h1, h2, hk => by
    simp at h1 h2; subst h1; subst h2
    show bindL kindOf ((p, w) :: P.zip vs) m p = _
    unfold bindL
    rw [bindL_out fun v hv => (List.nodup_cons.mp nd).1 (List.of_mem_zip hv).1, if_pos hk]
    simp
  | p :: P, w :: vs, i + 1, m, nd, h1, h2, hk => by
    show bindL kindOf ((p, w) :: P.zip vs) m x = _
    unfold bindL
    exact bindL_get (i := i) (List.nodup_cons.mp nd).2 (by simpa using h1) (by simpa using h2) hk
theorem bindC_get {kindOf : Str → Option NameKind} {x : Str} {v : Value} : ∀ {P : List Str} {vs : List Value} {i : Nat} {m : Str → Option Value}, P.Nodup → P[i]? = some x → vs[i]? = some v → kindOf x ≠ some .local →
    bindC kindOf (P.zip vs) m x = some v
  | [], _, _, _, _, h, _, _ => by simp at h
  | _ :: _, [], _, _, _, _, h, _ => by simp at h
  | p :: P, w :: vs, 0, m, nd, h1, h2, hk => by
    simp at h1 h2; subst h1; subst h2
    show bindC kindOf ((p, w) :: P.zip vs) m p = _
    unfold bindC
    rw [bindC_out fun v hv => (List.nodup_cons.mp nd).1 (List.of_mem_zip hv).1, if_neg hk]
    simp
  | p :: P, w :: vs, i + 1, m, nd, h1, h2, hk => by
    show bindC kindOf ((p, w) :: P.zip vs) m x = _
    unfold bindC
    exact bindC_get (i := i) (List.nodup_cons.mp nd).2 (by simpa using h1) (by simpa using h2) hk
def start (N : List Str) (vs : List V) : St := vs.map some ++ List.replicate (N.length - vs.length) none
def cxOf (CX : CXT) (P : Program) (w : World) (K : PySem.W.Frag) (mg : Str → Option Value) (base : Heap) (N : List Str) (qual : Str) (scope : Scope) (f : Addr) (cd : Value) (A : Around) (outer : List Env) (s : Shared) (H : Hp) (E : XK) : Cx where
  prog := P
  w := w
  K := K
  mg := mg
  base := base
  A := A.deeper (envOfC qual scope s.heap.objs.size f cd)
  N := N
  s₀ := s
  H₀ := H
  env := envOfC qual scope s.heap.objs.size f cd
  outer := outer
  stack := envOfC qual scope s.heap.objs.size f cd :: outer
  ex := []
  calm := true
  fn := fun _ => true
  pn := []
  xe := fun e s' => wpAny (model P w) (A.deeper (envOfC qual scope s.heap.objs.size f cd)) (leaving (envOfC qual scope s.heap.objs.size f cd) e) (fun _ s'' => CX outer H s E e s'') (fun e' s'' => CX outer H s E e' s'') s'
theorem cell_has {sc : Scope} {n : Nat} {x : Str} (h : sc.names.lookup x = some .cell) : ∃ c, (cellsFrom n sc.names []).lookup x = some c := by
  have q := PySem.W.cellsFrom_some sc.names n [] (.inl h)
  exact Option.isSome_iff_exists.mp q
theorem inv_start {CX : CXT} {P : Program} {w : World} {K : PySem.W.Frag} {mg : Str → Option Value} {base : Heap} {N ps : List Str} {qual : Str} {scope : Scope} {f : Addr} {cd : Value} {A : Around} {outer : List Env} {s s1 : Shared} {H : Hp} {E : XK} {us : List Value} {vs : List V}
    (S : FnScope N ps scope) (hd : A.handled = none) (e0 : Env0 P w K mg base A outer s H) (hl : vs.length = ps.length) (r : Vals vs us)
    (x : InCallC s s.heap.objs.size (bindL (envOfC qual scope s.heap.objs.size f cd).kindOf (ps.zip us) fun _ => none) (cellsFrom (s.heap.objs.size + 1) scope.names []) (bindC (envOfC qual scope s.heap.objs.size f cd).kindOf (ps.zip us) fun _ => none) s1) :
    Inv (cxOf CX P w K mg base N qual scope f cd A outer s H E) [] (start N vs) H s1 := by
  have hpl : ps.length ≤ N.length := by have := congrArg List.length S.pre; rw [List.length_take] at this; omega
  obtain ⟨h1, tk, rfl, hk⟩ := x.done
  have noA : ∀ b : Addr, b ∉ (cxOf CX P w K mg base N qual scope f cd A outer s H E).ex := fun b z => absurd (show b ∈ ([] : List Addr) from z) (by simp)
  refine ⟨⟨e0.mod, S.kind, rfl, rfl, Nat.le_refl _, fun y z c h1 h2 => ?_, fun y hy => ?_, fun y c _ h => ?_, fun _ => hd, Around.frames_deeper e0.frames, .inr ⟨rfl, rfl⟩, fun b z => absurd z (noA b), e0.bs, e0.bsz, fun b _ _ => noA b, fun b z => absurd z (noA b), e0.funs, e0.frf⟩,
    rfl, e0.bare, Un.kept hk, ⟨_, x.toInCall.ns, fun i y v h1 h2 h3 => ?_⟩, fun y c h => ⟨_, x.cell y c h⟩, e0.hok.fresh (Nat.le_refl _), fun y c h => ?_, fun p hp => absurd (show p ∈ ([] : List (Addr × Obj)) from hp) (by simp), e0.hok.kept hk, ?_⟩
  · exact name_of_addr x.apart (PySem.mem_of_lookup h1) (PySem.mem_of_lookup h2)
  · have hy : scope.names.lookup y = some .cell ∨ scope.names.lookup y = some .free := hy
    rcases hy with hy | hy
    · exact cell_has hy
    · exact absurd rfl (S.nofree _ (PySem.mem_of_lookup hy))
  · exact Nat.le_of_lt (x.above y c (PySem.mem_of_lookup h))
  · have hi : i < vs.length := by
      unfold start at h2
      by_cases hi : i < vs.length
      · exact hi
      · rw [List.getElem?_append_right (by simpa using hi)] at h2
        rw [List.getElem?_replicate] at h2
        split at h2 <;> cases h2
    have ha : vs[i]? = some v := by
      unfold start at h2
      rw [List.getElem?_append_left (by simpa using hi), List.getElem?_map] at h2
      cases e : vs[i]? with
      | none => rw [e] at h2; cases h2
      | some a => rw [e] at h2; cases h2; rfl
    obtain ⟨u, hu, rv⟩ := r.get ha
    have hp : ps[i]? = some y := by
      rw [← S.pre, List.getElem?_take_of_lt (by omega)]; exact h1
    have ndP : ps.Nodup := by rw [← S.pre]; exact S.nd.sublist (List.take_sublist _ _)
    refine ⟨u, rv, ?_⟩
    rcases S.par y (List.mem_of_getElem? hp) with k | k
    · exact .inl ⟨k, bindL_get ndP hp hu k⟩
    · obtain ⟨c, e⟩ := cell_has (n := s.heap.objs.size + 1) k
      refine .inr ⟨.inl k, c, e, ?_⟩
      have q := x.cell y c e
      rw [bindC_get ndP hp hu (by show scope.names.lookup y ≠ _; rw [k]; decide)] at q
      exact q
  · exact e0.hok.fresh (Nat.le_of_lt (x.above y c (PySem.mem_of_lookup h)))
  · unfold start
    show _ = N.length
    rw [List.length_append, List.length_map, List.length_replicate]
    omega
theorem fn_of {CX : CXT} {P : Program} {w : World} {K : PySem.W.Frag} {mg : Str → Option Value} {base : Heap} {k : Nat} {f : Addr} {name qual : Str} {params : Arguments} {body : List Stmt} {scope : Scope} {dV kV doc pm cdv ct oc : Value} {an od : Option Addr}
    {osl : Array (Option Value)} {N ps : List Str} {sp : Sp} (lk : K.lookup f = some ⟨oc, od, .func (PySem.W.fnOf name qual params body scope dV kV doc pm an cdv ct), osl⟩) (hcd : PySem.W.codeIn K cdv qual = true) (S : FnScope N ps scope)
    (len : ∀ vs H Q E, sp vs H Q E → vs.length = ps.length)
    (hbody : ∀ (A : Around) (outer : List Env) (s : Shared) (H : Hp) (vs : List V) (Q : VK) (E : XK), Room k (A.deeper (envOfC qual scope s.heap.objs.size f cdv)) → sp vs H Q E →
      ∃ t, PSs (cxOf CX P w K mg base N qual scope f cdv A outer s H E) body t ∧ t { nx := fun _ H' => Q .non H', rt := Q } (start N vs) H) :
    FnOk P w K mg base CX (k + 1) f (PySem.W.fnOf name qual params body scope dV kV doc pm an cdv ct) ps sp := by
  refine ⟨len, fun A outer s H args us vs Q E hr e0 hb r hsp => ?_⟩
  have hl := len _ _ _ _ hsp
  have KX : K.In s.heap := e0.mod.kin.keeps fun b o e => (e0.bs b o e).1
  have lim : s.heap.NoLimit := e0.mod.nolimit.keeps fun b o e => (e0.bs b o e).1
  have hkind : ∀ y ∈ ps.zip us, scope.names.lookup y.1 = some .local ∨ (scope.names.lookup y.1 = some .cell ∧ ((cellsFrom (s.heap.objs.size + 1) scope.names []).lookup y.1).isSome = true) := fun ⟨n, v⟩ hy => by
    rcases S.par n (List.of_mem_zip hy).1 with q | q
    · exact .inl q
    · exact .inr ⟨q, PySem.W.cellsFrom_some _ _ _ (.inl q)⟩
  refine codeAny_call_function hr.depth (KX _ _ lk) rfl S.co S.gen rfl (PySem.W.codeRec_of KX hcd) (hb _ _ _ _ ?_)
  refine wpAny_newFunctionEnv_cells S.kind hkind fun env he s1 x => ?_
  subst he
  refine ⟨lim.keeps x.toInCall.keep, codeAny_func ?_⟩
  obtain ⟨t, ht, hq⟩ := hbody A outer s H vs Q E (hr.deeper _) hsp
  have I : Inv (cxOf CX P w K mg base N qual scope f cdv A outer s H E) [] (start N vs) H s1 := inv_start S hr.hd e0 hl r x
  refine wpAny_mono (ht [] s1 (start N vs) H _ I hq) (fun fl s' hs => ?_) fun e s' hs => hs
  have fin : ∀ {σ' : St} {H' : Hp} {v : V} {u : Value}, Inv (cxOf CX P w K mg base N qual scope f cdv A outer s H E) [] σ' H' s' → RelV v u → Q v H' → CE outer P w H s Q u s' :=
    fun {σ' H' v u} J rv q => ⟨v, H', J.os, J.bare, J.base, J.hok, rv, q⟩
  cases fl with
  | ret u =>
    obtain ⟨v, σ', H', J, rv, q⟩ := hs
    exact fin J rv q
  | next =>
    obtain ⟨σ', H', J, q⟩ := hs
    exact fin (v := V.non) (u := Value.none) J rfl q
  | brk =>
    obtain ⟨_, _, _, q⟩ := hs
    exact False.elim q
  | cont =>
    obtain ⟨_, _, _, q⟩ := hs
    exact False.elim q
end L2
namespace L2
open PySem PySem.Spec PyProof.Rows
section
variable {X : Cx} {x : Str} {p pos : Pos} {e : Expr} {es : List Expr} {t : TA} {id T : String} {r : List V → Hp → VK → Prop}
def tCB (r : List V → Hp → VK → Prop) (t : TA) : TE := fun σ H Q => t σ H fun vs H1 => r vs H1 Q
theorem pe_callB (hc : CallR X (.builtin id) r) (hg : Gl X x) (hm : X.mg x = none) (hv : bootBuiltins x = some (.builtin id)) (ha : PA X (e :: es) t) (hn : x ≠ "__name__" := by decide) (hdb : (x == ("__debug__" : Str)) = false := by decide)
    (he : starEach (e :: es) X.env = (false, eval e X.env) :: starEach es X.env := by rfl) (hpl : (backTo pos (starEach es X.env)).any (·.1) = false := by rfl) : PE X (.Call (.Name x p) (e :: es) [] pos) (tCB r t) := by
  intro pins s σ H Q I h
  refine wpAny_Call_Name_kw (ld_blt I hg hm hv ?_ hn hdb)
  exact PyProof.Rows.callWith_builtin1 (thn (ha pos pins s σ H _ I h) fun us s1 ⟨vs, H1, I1, r1, q1⟩ => hc pins s1 σ H1 vs us Q I1 r1 q1) he hpl
theorem pe_callTy (hc : CallR X (.type T) r) (hg : Gl X x) (hm : X.mg x = none) (hv : bootBuiltins x = some (.type T)) (ha : PA X (e :: es) t) (hn : x ≠ "__name__" := by decide) (hdb : (x == ("__debug__" : Str)) = false := by decide)
    (he : starEach (e :: es) X.env = (false, eval e X.env) :: starEach es X.env := by rfl) (hpl : (backTo pos (starEach es X.env)).any (·.1) = false := by rfl) : PE X (.Call (.Name x p) (e :: es) [] pos) (tCB r t) := by
  intro pins s σ H Q I h
  refine wpAny_Call_Name_kw (ld_blt I hg hm hv ?_ hn hdb)
  exact PyProof.Rows.callWith_type1 (thn (ha pos pins s σ H _ I h) fun us s1 ⟨vs, H1, I1, r1, q1⟩ => hc pins s1 σ H1 vs us Q I1 r1 q1) he hpl
end
end L2
namespace HT
open PySem PyProof.Rows
section
open PySem.SeqAt
open PySem.AutoSeq1 (wpAny_loadPart')
open PySem.MeetsSeq PySem.MeetsSeq2 PySem.MeetsSeq3
end
section
variable {prog : Program} {w : World} {A : Around} {E : Value → Shared → Prop} {s : Shared}
def sIx (n d : Nat) : Option Int → Nat
  | none => d
  | some v => if v < 0 then (v + (n : Int)).toNat else min v.toNat n
end
end HT
namespace L2
open PySem PySem.Spec PyProof.Rows
abbrev TO := St → Hp → (Option Int → Hp → Prop) → Prop
def PO (X : Cx) (e : Option Expr) (t : TO) : Prop :=
  ∀ (pins : List (Addr × Obj)) (s : Shared) (σ : St) (H : Hp) (Q : Option Int → Hp → Prop), Inv X pins σ H s → t σ H Q →
    wpAny (model X.prog X.w) X.A (evalPart e X.env) (fun u s' => ∃ o H', Inv X pins σ H' s' ∧ IsPart u o ∧ Q o H') X.xe s
def tNoPart : TO := fun _ H Q => Q none H
def tPart (t : TE) : TO := fun σ H Q => t σ H fun x H1 => ∃ i, x = .int i ∧ Q (some i) H1
theorem intsAre_of {ns : List Int} : ∀ {us : List Value}, Vals (ns.map V.int) us → IntsAre us ns := by
  induction ns with
  | nil => intro us r; rw [List.map_nil] at r; cases r; exact .nil
  | cons n ns ih =>
    intro us r
    rw [List.map_cons] at r
    cases r with
    | cons r1 r2 =>
      obtain ⟨t, e⟩ := r1
      subst e
      exact .cons n t (ih r2)
section
variable {X : Cx} {e : Expr} {te : TE} {lo hi : Option Expr} {tl th : TO} {pos p2 : Pos}
theorem po_none : PO X none tNoPart := by
  intro pins s σ H Q I h
  rw [evalPart_none]
  exact wpAny_pure ⟨none, H, I, .none, h⟩
theorem po_some (h : PE X e te) : PO X (some e) (tPart te) := by
  intro pins s σ H Q I hw
  rw [evalPart_some]
  refine thn (h pins s σ H _ I hw) fun u s1 ⟨x, H1, I1, r1, q1⟩ => ?_
  obtain ⟨i, rfl, q⟩ := q1
  obtain ⟨t, rfl⟩ := r1
  exact ⟨some i, H1, I1, .int i t, q⟩
def SlR (X : Cx) (r : V → Option Int → Option Int → Hp → VK → Prop) : Prop :=
  ∀ (pins : List (Addr × Obj)) (s : Shared) (σ : St) (H : Hp) (x : V) (v vl vu : Value) (lo hi : Option Int) (sl : Addr) (Q : VK), Inv X pins σ H s → RelV x v → s.heap.IsSliceOf sl vl vu .none → IsPart vl lo → IsPart vu hi → r x lo hi H Q →
    ∃ T id, typeLookup (.type T) "__getitem__" = pure (some (.builtin id)) ∧ s.TypeIs v T ∧ wpAny (model X.prog X.w) X.A (getItem v (.ref sl)) (EP X pins σ Q) X.xe s
def tSl (r : V → Option Int → Option Int → Hp → VK → Prop) (te : TE) (tl th : TO) : TE := fun σ H Q => te σ H fun x H1 => tl σ H1 fun l H2 => th σ H2 fun u H3 => r x l u H3 Q
theorem pe_slice {r : V → Option Int → Option Int → Hp → VK → Prop} (hr : SlR X r) (he : PE X e te) (hl : PO X lo tl) (hu : PO X hi th) : PE X (.Subscript e (.Slice lo hi none p2) pos) (tSl r te tl th) := by
  intro pins s σ H Q I h
  refine Subscript_ (thn (he pins s σ H _ I h) fun v s1 ⟨x, H1, I1, r1, q1⟩ => ?_)
  refine wpAny_Slice (thn (hl pins s1 σ H1 _ I1 q1) fun vl s2 ⟨l, H2, I2, pl, q2⟩ => thn (hu pins s2 σ H2 _ I2 q2) fun vu s3 ⟨u, H3, I3, pu, q3⟩ => ?_)
  rw [evalPart_none]
  refine wpAny_pure ?_
  have I4 : Inv X pins σ H3 { s3 with heap := s3.heap.push { cls := .type "slice", data := .fields #[vl, vu, .none] } } := I3.kept (t' := s3.toks) fun b ob q => Heap.get?_push_of_some _ q
  obtain ⟨T, id, hT, ht, hg⟩ := hr pins { s3 with heap := s3.heap.push { cls := .type "slice", data := .fields #[vl, vu, .none] } } σ H3 x v vl vu l u s3.heap.objs.size Q I4 r1 (Heap.IsSliceOf.new ..) pl pu q3
  show wpAny (model X.prog X.w) X.A (subscriptTail e (.Slice lo hi none p2) v (.ref s3.heap.objs.size)) (EP X pins σ Q) X.xe { s3 with heap := s3.heap.push { cls := .type "slice", data := .fields #[vl, vu, .none] } }
  exact tail_any (ops := [.ref s3.heap.objs.size, v]) ht hT hg (by with_unfolding_all rfl)
def cutV (xs : List V) (lo hi : Option Int) : List V := (xs.drop (HT.sIx xs.length 0 lo)).take (HT.sIx xs.length xs.length hi - HT.sIx xs.length 0 lo)
theorem cutV_length (xs : List V) (lo hi : Option Int) : (cutV xs lo hi).length ≤ xs.length := by
  unfold cutV
  rw [List.length_take, List.length_drop]
  omega
end
end L2
namespace L2
open PySem PySem.Spec PyProof.Rows
def ixN (n : Nat) (i : Int) : Option Nat := if 0 ≤ i then (if i < n then some i.toNat else none) else if -(n : Int) ≤ i then some (i + n).toNat else none
def atI {α : Type} (xs : List α) (i : Int) : Option α := (ixN xs.length i).bind fun j => xs[j]?
theorem ixN_seq {n : Nat} {i : Int} {j : Nat} (h : ixN n i = some j) : seqIndex? i n = some j ∧ j < n ∧ -(n : Int) ≤ i ∧ i < n := by
  unfold ixN at h
  by_cases h0 : 0 ≤ i
  · rw [if_pos h0] at h
    by_cases h1 : i < n
    · rw [if_pos h1] at h
      have e : i.toNat = j := Option.some.inj h
      exact ⟨by rw [seqIndex_of h0 h1, e], by omega, by omega, h1⟩
    · rw [if_neg h1] at h; cases h
  · rw [if_neg h0] at h
    by_cases h1 : -(n : Int) ≤ i
    · rw [if_pos h1] at h
      have e : (i + n).toNat = j := Option.some.inj h
      exact ⟨by rw [seqIndex_neg (by omega) h1, e], by omega, h1, by omega⟩
    · rw [if_neg h1] at h; cases h
theorem atI_get {α : Type} {xs : List α} {i : Int} {v : α} (h : atI xs i = some v) : ∃ j, seqIndex? i xs.length = some j ∧ xs[j]? = some v ∧ j < xs.length ∧ -(xs.length : Int) ≤ i ∧ i < xs.length := by
  unfold atI at h
  cases e : ixN xs.length i with
  | none => rw [e] at h; cases h
  | some j =>
    rw [e] at h
    obtain ⟨h1, h2, h3, h4⟩ := ixN_seq e
    exact ⟨j, h1, h, h2, h3, h4⟩
theorem atI_nat {α : Type} {xs : List α} {j : Nat} {v : α} (h : xs[j]? = some v) : atI xs (j : Int) = some v := by
  have hj : j < xs.length := (List.getElem?_eq_some_iff.mp h).1
  have e : ixN xs.length (j : Int) = some j := by
    unfold ixN
    rw [if_pos (by omega), if_pos (by omega)]; simp
  unfold atI; rw [e]; exact h
def PlainIx (b : Expr) : Prop := ∀ o i, subscripted b false o i = operate [o, i] (getItem o i)
def IxR (X : Cx) (r : R2) : Prop :=
  ∀ (value slice : Expr) (pins : List (Addr × Obj)) (s : Shared) (σ : St) (H : Hp) (x y : V) (v u : Value) (Q : VK), Inv X pins σ H s → RelV x v → RelV y u → r x y H Q →
    subscripted slice false v u = operate [v, u] (getItem v u) → wpAny (model X.prog X.w) X.A (subscriptTail value slice v u) (EP X pins σ Q) X.xe s
def MtR (X : Cx) (id : String) (r : V → List V → Hp → VK → Prop) : Prop :=
  ∀ (pins : List (Addr × Obj)) (s : Shared) (σ : St) (H : Hp) (x : V) (xs : List V) (v : Value) (us : List Value) (Q : VK), Inv X pins σ H s → RelV x v → Vals xs us → r x xs H Q →
    wpAny (model X.prog X.w) X.A (call (.builtin id) (v :: us)) (EP X pins σ Q) X.xe s
section
variable {X : Cx} {a b : Expr} {ta tb : TE} {pos : Pos}
theorem pe_ix {r : R2} (hr : IxR X r) (ha : PE X a ta) (hb : PE X b tb) (hs : PlainIx b) : PE X (.Subscript a b pos) (tOp r ta tb) := by
  intro pins s σ H Q I h
  exact Subscript_ (binT ha hb I h fun v u s2 x y H2 I2 rx ry q => hr a b pins s2 σ H2 x y v u Q I2 rx ry q (hs _ _))
def rIxL (K : PySem.W.Frag) : R2 := fun x y H Q => ∃ p xs i v, x = .ref p ∧ y = .int i ∧ SqL K H p xs ∧ atI xs i = some v ∧ Q v H
def rIxT (K : PySem.W.Frag) : R2 := fun x y H Q => ∃ p xs i v, x = .ref p ∧ y = .int i ∧ SqT K H p xs ∧ atI xs i = some v ∧ Q v H
theorem ix_list : IxR X (rIxL X.K) := by
  intro value slice pins s σ H x y v u Q I rx ry h hs
  obtain ⟨p, xs, i, z, rfl, rfl, hq, he, q⟩ := h
  cases rx
  obtain ⟨t, rfl⟩ := ry
  obtain ⟨its, r, pl, hz⟩ := I.list hq
  obtain ⟨j, h1, h2, h3, h4, h5⟩ := atI_get he
  obtain ⟨w, ew, rw'⟩ := r.get h2
  have hl := r.length
  have hn := line63
  have fin : EP X pins σ Q w s := ⟨z, H, I, rw', q⟩
  by_cases h0 : 0 ≤ i
  · have hj : i.toNat = j := by
      rw [seqIndex_of h0 h5] at h1
      exact Option.some.inj h1
    exact item_listR pl.isList h0 (by omega) (by rw [hj]; simpa using ew) fin hs
  · have hj : (i + (its.toArray.size : Int)).toNat = j := by
      rw [seqIndex_neg (by omega) h4] at h1
      rw [List.size_toArray, ← hl]
      exact Option.some.inj h1
    exact subscriptTail_builtinR (x := w) pl.isList.typeIs slot_list_getitem.lookup
      (wpAny_getItem_list_neg (Q := fun r s' => r = w ∧ EP X pins σ Q r s') pl.isList (by omega) (by rw [List.size_toArray] <;> omega) (by omega) (by rw [hj]; simpa using ew) ⟨rfl, fin⟩) hs
theorem ix_tup : IxR X (rIxT X.K) := by
  intro value slice pins s σ H x y v u Q I rx ry h hs
  obtain ⟨p, xs, i, z, rfl, rfl, hq, he, q⟩ := h
  cases rx
  obtain ⟨t, rfl⟩ := ry
  obtain ⟨its, r, pl, hz⟩ := I.tuple hq
  obtain ⟨j, h1, h2, h3, h4, h5⟩ := atI_get he
  obtain ⟨w, ew, rw'⟩ := r.get h2
  have hl := r.length
  have hn := line63
  have fin : EP X pins σ Q w s := ⟨z, H, I, rw', q⟩
  exact subscriptTail_builtinR (x := w) pl.typeIs slot_tuple_getitem.lookup
    (getItem_tuple (j := j) (Q := fun r s' => r = w ∧ EP X pins σ Q r s') pl (by omega) (by omega) (by rw [List.size_toArray, ← hl]; exact h1) (by simpa using ew) ⟨rfl, fin⟩) hs
theorem mapSeq_set (its : List Value) (n j : Nat) (u : Value) : Obj.mapSeq (·.setIfInBounds j u) { cls := .type "list", data := .seq its.toArray n } = { cls := .type "list", data := .seq (its.set j u).toArray n } := by
  simp [Obj.mapSeq]
theorem Inv.lst {pins : List (Addr × Obj)} {σ : St} {H : Hp} {s : Shared} {p : Addr} {xs : List V} (I : Inv X pins σ H s) (h : H p = some (.lst xs)) :
    ∃ (its : List Value) (n : Nat), Vals xs its ∧ s.heap.get? p = some { cls := .type "list", data := .seq its.toArray n } ∧ xs.length ≤ sizeLine := by
  obtain ⟨z, its, n, r, e⟩ := I.hok p _ h
  exact ⟨its, n, r, e, z⟩
theorem Inv.lstUpd {pins : List (Addr × Obj)} {σ : St} {H : Hp} {s : Shared} {p : Addr} {xs ys : List V} {its its' : List Value} {n n' : Nat} {f : Obj → Obj} (I : Inv X pins σ H s) (h : H p = some (.lst xs))
    (ho : s.heap.get? p = some { cls := .type "list", data := .seq its.toArray n }) (hf : f { cls := .type "list", data := .seq its.toArray n } = { cls := .type "list", data := .seq its'.toArray n' }) (r : Vals ys its') (hz : ys.length ≤ sizeLine) (t : Nat) :
    Inv X pins σ (upd H p (.lst ys)) { s with heap := s.heap.update p f, toks := t } := by
  have e : (s.heap.update p f).get? p = some { cls := .type "list", data := .seq its'.toArray n' } := by
    rw [Heap.get?_update_self f ho (by rw [hf] <;> rfl), hf]
  refine I.write (x := p) (e := p) (by rw [h]; trivial) (.inl rfl) (fun b u hb q => (Heap.get?_update_other _ _ (Ne.symm hb)).trans q) ⟨_, e⟩ ?_
  exact ⟨hz, its', n', r, e⟩
def rSetL : V → V → V → Hp → (Hp → Prop) → Prop := fun o i v H Q => ∃ p xs k j, o = .ref p ∧ i = .int k ∧ H p = some (.lst xs) ∧ ixN xs.length k = some j ∧ Q (upd H p (.lst (xs.set j v)))
theorem set_list : PSet X rSetL := by
  intro pins s σ H o i v ov iv u Q I ro ri rv h
  obtain ⟨p, xs, k, j, rfl, rfl, hp, hj, q⟩ := h
  cases ro
  obtain ⟨t, rfl⟩ := ri
  obtain ⟨its, n, r, ho, hz⟩ := I.lst hp
  obtain ⟨h1, h2, h3, h4⟩ := ixN_seq hj
  have hl := r.length
  have hn := line63
  have I' : Inv X pins σ (upd H p (.lst (xs.set j v))) { s with heap := s.heap.update p (Obj.mapSeq (·.setIfInBounds j u)) } :=
    I.lstUpd hp ho (mapSeq_set its n j u) (r.set rv j) (by rw [List.length_set]; exact hz) s.toks
  by_cases h0 : 0 ≤ k
  · have hk : k.toNat = j := by
      rw [seqIndex_of h0 h4] at h1
      exact Option.some.inj h1
    exact PySem.W.ki_setAt ho h0 (by omega) (by rw [List.size_toArray, ← hl]; exact h4) (by rw [hk]; exact ⟨_, I', q⟩)
  · have hk : (k + (its.toArray.size : Int)).toNat = j := by
      rw [seqIndex_neg (by omega) h3] at h1
      rw [List.size_toArray, ← hl]
      exact Option.some.inj h1
    exact PySem.W.ki_setBack ho (by omega) (by rw [List.size_toArray, ← hl]; exact h3) (by omega) (by rw [hk]; exact ⟨_, I', q⟩)
theorem slice_bounds (lo hi : Option Int) (n : Nat) : (sliceBounds lo hi none n).1 = ((HT.sIx n 0 lo : Nat) : Int) ∧ (sliceBounds lo hi none n).2.1 = ((HT.sIx n n hi : Nat) : Int) ∧ (sliceBounds lo hi none n).2.2 = 1 := by
  refine ⟨?_, ?_, rfl⟩
  · cases lo with
    | none => simp [sliceBounds, HT.sIx]
    | some i =>
      simp only [sliceBounds, HT.sIx, Option.getD_none, show (1 : Int) > 0 by decide, if_true]
      by_cases h : i < 0
      · simp only [h, if_true] <;> omega
      · simp only [h, if_false] <;> omega
  · cases hi with
    | none => simp [sliceBounds, HT.sIx]
    | some i =>
      simp only [sliceBounds, HT.sIx, Option.getD_none, show (1 : Int) > 0 by decide, if_true]
      by_cases h : i < 0
      · simp only [h, if_true] <;> omega
      · simp only [h, if_false] <;> omega
theorem slicePick_cut (its : List Value) (lo hi : Option Int) : slicePick its.toArray lo hi none = ((its.drop (HT.sIx its.length 0 lo)).take (HT.sIx its.length its.length hi - HT.sIx its.length 0 lo)).toArray := by
  obtain ⟨h1, h2, h3⟩ := slice_bounds lo hi its.toArray.size
  unfold slicePick
  rw [h1, h2, h3]
  simp only [sliceRange_one, pick_run, List.size_toArray] <;> rfl
def rSlL (K : PySem.W.Frag) : V → Option Int → Option Int → Hp → VK → Prop := fun x lo hi H Q => ∃ a xs, x = .ref a ∧ SqL K H a xs ∧ ∀ p, H p = none → Q (.ref p) (upd H p (.lst (cutV xs lo hi)))
theorem sl_list : SlR X (rSlL X.K) := by
  intro pins s σ H x v vl vu lo hi sl Q I rx hs pl pu h
  obtain ⟨a, xs, rfl, hx, q⟩ := h
  cases rx
  obtain ⟨its, r, ht, hz⟩ := I.list hx
  have hlen := r.length
  refine ⟨"list", _, slot_list_getitem.lookup, ht.isList.typeIs, ?_⟩
  refine wpAny_getItem_list_slice ht.isList hs pl pu .none (by simp) ?_ (by rw [List.size_toArray] <;> omega)
  rw [slicePick_cut, ← hlen]
  refine ⟨.ref s.heap.objs.size, _, I.laid (t' := s.toks) (o := .lst (cutV xs lo hi)) (fun b ob q => Heap.get?_push_of_some _ q) (Nat.le_refl _) ?_, rfl, q _ (I.hok.fresh (Nat.le_refl _))⟩
  exact ⟨Nat.le_trans (cutV_length xs lo hi) hz, _, 0, (r.drop (HT.sIx xs.length 0 lo)).take (HT.sIx xs.length xs.length hi - HT.sIx xs.length 0 lo), Heap.get?_push_size _ rfl⟩
theorem call_len_seq : CallR X (.builtin "len") (fun xs H Q => ∃ p ys, xs = [.ref p] ∧ (SqL X.K H p ys ∨ SqT X.K H p ys) ∧ Q (.int ys.length) H) := by
  intro pins s σ H xs us Q I r h
  obtain ⟨p, ys, rfl, hq, q⟩ := h
  obtain ⟨u, rfl, rx⟩ := vals1 r
  cases rx
  have hn := line63
  rcases hq with hq | hq
  · obtain ⟨its, r', pl, hz⟩ := I.list hq
    have hlen := r'.length
    exact Calls.call_len_list pl.isList (by simp only [List.size_toArray] <;> omega) ⟨.int ys.length, H, I.tok _, ⟨s.toks + 1, by rw [List.size_toArray, hlen]⟩, q⟩
  · obtain ⟨its, r', pl, hz⟩ := I.tuple hq
    have hlen := r'.length
    exact len_tuple pl (by simp only [List.size_toArray] <;> omega) ⟨.int ys.length, H, I.tok _, ⟨s.toks + 1, by rw [List.size_toArray, hlen]⟩, q⟩
theorem call_list_of : CallR X (.type "list") (fun xs H Q => ∃ p ys, xs = [.ref p] ∧ (SqL X.K H p ys ∨ SqT X.K H p ys) ∧ ∀ l, H l = none → Q (.ref l) (upd H l (.lst ys))) := by
  intro pins s σ H xs us Q I r h
  obtain ⟨p, ys, rfl, hq, q⟩ := h
  obtain ⟨u, rfl, rx⟩ := vals1 r
  cases rx
  have fin : ∀ (its : List Value), Vals ys its → ys.length ≤ sizeLine → ∀ (h' : Heap) (c' : Nat), (∀ b o', s.heap.get? b = some o' → h'.get? b = some o') →
      h'.get? s.heap.objs.size = some { cls := .type "list", dict := none, data := .seq its.toArray c', slots := #[] } → EP X pins σ Q (.ref s.heap.objs.size) { s with heap := h' } := fun its r' hz h' c' kp e =>
    ⟨.ref s.heap.objs.size, _, I.laid (t' := s.toks) kp (Nat.le_refl _) (show ObjOk X.prog X.w _ h' _ (.lst ys) from ⟨hz, its, c', r', e⟩), rfl, q _ (I.hok.fresh (Nat.le_refl _))⟩
  rcases hq with hq | hq
  · obtain ⟨its, r', pl, hz⟩ := I.list hq
    have hlen := r'.length
    obtain ⟨o, ho, hc, n, hd⟩ := pl.isList
    exact call_list_seq p (.inl rfl) ho hc hd (fun h' c' kp e => fin its r' hz h' c' kp e) (by simp only [List.size_toArray] <;> omega)
  · obtain ⟨its, r', pl, hz⟩ := I.tuple hq
    have hlen := r'.length
    obtain ⟨o, ho, hc, n, hd⟩ := pl
    exact call_list_seq p (.inr rfl) ho hc hd (fun h' c' kp e => fin its r' hz h' c' kp e) (by simp only [List.size_toArray] <;> omega)
theorem call_tuple_of : CallR X (.type "tuple") (fun xs H Q => ∃ p ys, xs = [.ref p] ∧ ((SqL X.K H p ys ∧ ∀ l, H l = none → Q (.ref l) (upd H l (.tup ys))) ∨ (SqT X.K H p ys ∧ Q (.ref p) H))) := by
  intro pins s σ H xs us Q I r h
  obtain ⟨p, ys, rfl, h⟩ := h
  obtain ⟨u, rfl, rx⟩ := vals1 r
  cases rx
  rcases h with ⟨hq, q⟩ | ⟨hq, q⟩
  · obtain ⟨its, r', pl, hz⟩ := I.list hq
    have hlen := r'.length
    refine call_tuple_list pl.isList (fun h' kp => ?_) (by simp only [List.size_toArray] <;> omega)
    have I1 : Inv X pins σ H { s with heap := h' } := I.kept (t' := s.toks) kp
    have I2 : Inv X pins σ (upd H h'.objs.size (.tup ys)) { s with heap := h'.push { cls := .type "tuple", data := .seq its.toArray } } :=
      I1.laid (t' := s.toks) (fun b o e => Heap.get?_push_of_some _ e) (Nat.le_refl _) (show ObjOk X.prog X.w _ _ _ (.tup ys) from ⟨hz, its, r', IsTup.new _ _⟩)
    exact ⟨.ref h'.objs.size, _, I2, rfl, q _ (I1.hok.fresh (Nat.le_refl _))⟩
  · obtain ⟨its, r', pl, hz⟩ := I.tuple hq
    exact call_tuple_same pl ⟨.ref p, H, I, rfl, q⟩
def tyV (K : PySem.W.Frag) (T : String) (x : V) (H : Hp) : Prop := match x with
  | .str _ => T = "str"
  | .int _ => T = "int"
  | .ref p => (T = "list" ∧ ∃ xs, SqL K H p xs) ∨ (T = "tuple" ∧ ∃ o, K.lookup p = some o ∧ o.cls = .type "tuple" ∧ o.dict = none) ∨
      (T = "dict" ∧ ((∃ kvs, H p = some (.dK kvs)) ∨ ∃ kvs, H p = some (.dT kvs))) ∨ (T = "set" ∧ ∃ S n, H p = some (.set S n))
  | _ => False
theorem tyV_is {pins : List (Addr × Obj)} {σ : St} {H : Hp} {s : Shared} {T : String} {x : V} {v : Value} (I : Inv X pins σ H s) (r : RelV x v) (ty : tyV X.K T x H) :
    s.TypeIs v T ∧ ∀ a, v = .ref a → ∃ ob, s.heap.get? a = some ob ∧ ob.dict = none := by
  cases x with
  | str z =>
    obtain ⟨t, rfl⟩ := r
    cases (show T = "str" from ty)
    exact ⟨typeIs_str s z t, fun _ e => nomatch e⟩
  | int i =>
    obtain ⟨t, rfl⟩ := r
    cases (show T = "int" from ty)
    exact ⟨typeIs_int s i t, fun _ e => nomatch e⟩
  | ref p =>
    cases r
    rcases ty with ⟨rfl, xs, hq⟩ | ⟨rfl, o, hk, hc, hd⟩ | ⟨rfl, hk⟩ | ⟨rfl, S, n, hk⟩
    · obtain ⟨its, _, pl, _⟩ := I.list hq
      refine ⟨pl.isList.typeIs, fun a e => ?_⟩
      cases e
      obtain ⟨o, n, e, c, hd, _⟩ := pl
      exact ⟨o, e, hd⟩
    · refine ⟨⟨o, I.kIn p o hk, hc⟩, fun a e => ?_⟩
      cases e
      exact ⟨o, I.kIn _ o hk, hd⟩
    · have z : ∃ o, s.heap.get? p = some o ∧ o.ExactDict := by
        rcases hk with ⟨kvs, hk⟩ | ⟨kvs, hk⟩
        · obtain ⟨_, _, _, _, o, _, _, e, ex, _⟩ := I.hok p _ hk
          exact ⟨o, e, ex⟩
        · obtain ⟨_, _, _, _, o, _, _, e, ex, _⟩ := I.hok p _ hk
          exact ⟨o, e, ex⟩
      obtain ⟨o, e, ex⟩ := z
      refine ⟨⟨o, e, ex.1⟩, fun a e2 => ?_⟩
      cases e2
      exact ⟨o, e, ex.2.1⟩
    · obtain ⟨o, _, _, _, e, ex, _⟩ := I.hok p _ hk
      refine ⟨⟨o, e, ex.1⟩, fun a e2 => ?_⟩
      cases e2
      exact ⟨o, e, ex.2.1⟩
  | _ => exact False.elim ty
def tBM0 (K : PySem.W.Frag) (T : String) (r : V → List V → Hp → VK → Prop) (to : TE) : TE := fun σ H Q => to σ H fun x H1 => tyV K T x H1 ∧ r x [] H1 Q
def tBM (K : PySem.W.Frag) (T : String) (r : V → List V → Hp → VK → Prop) (to : TE) (t : TA) : TE := fun σ H Q => to σ H fun x H1 => tyV K T x H1 ∧ t σ H1 fun xs H2 => r x xs H2 Q
variable {o e : Expr} {es : List Expr} {to : TE} {t : TA} {name : Str} {apos cpos : Pos} {T id : String} {r : V → List V → Hp → VK → Prop}
theorem pe_bm0 (pa : PlainAttrs T) (slot : Slot T name id) (hty : typeOf (.builtin id) = pure (.type "method_descriptor")) (hm : MtR X id r) (ho : PE X o to)
    (hbase : attributeBase o name X.env (eval o X.env) = eval o X.env := by rfl) (hline : (apos.endLine == cpos.line) = true := by rfl) : PE X (.Call (.Attribute o name apos) [] [] cpos) (tBM0 X.K T r to) := by
  intro pins s σ H Q I h
  refine wpAny_Call_method0_late hbase hline (thn (ho pins s σ H _ I h) fun v s1 ⟨x, H1, I1, r1, ty, q1⟩ => ?_)
  obtain ⟨h1, h2⟩ := tyV_is I1 r1 ty
  exact ⟨T, id, pa, slot, hty, h1, h2, Calls.callWith_builtin rfl (PySem.evalArgs_none (hm pins s1 σ H1 x [] v [] Q I1 r1 .nil q1))⟩
theorem pe_bm (pa : PlainAttrs T) (slot : Slot T name id) (hty : typeOf (.builtin id) = pure (.type "method_descriptor")) (hm : MtR X id r) (ho : PE X o to) (ha : PA X (e :: es) t)
    (hbase : attributeBase o name X.env (eval o X.env) = eval o X.env := by rfl)
    (hfew : ((backTo cpos (starEach (e :: es) X.env)).all (fun x => !x.1) && (backToKw cpos (keywordEach [] X.env)).all (fun x => x.1.isSome)
      && decide ((e :: es).length + ([] : List Keyword).length + (if ([] : List Keyword).isEmpty then 0 else 1) < 30)) = true := by rfl)
    (hline : (apos.endLine == cpos.line) = true := by rfl) (hs : starEach (e :: es) X.env = (false, eval e X.env) :: starEach es X.env := by rfl) (hplain : (backTo cpos (starEach es X.env)).any (·.1) = false := by rfl) :
    PE X (.Call (.Attribute o name apos) (e :: es) [] cpos) (tBM X.K T r to t) := by
  intro pins s σ H Q I h
  refine wpAny_Call_method_late hbase hfew hline rfl (thn (ho pins s σ H _ I h) fun v s1 ⟨x, H1, I1, r1, ty, q1⟩ => ?_)
  obtain ⟨h1, h2⟩ := tyV_is I1 r1 ty
  refine ⟨T, id, pa, slot, hty, h1, h2, ?_⟩
  have hA := ha cpos pins s1 σ H1 _ I1 q1
  rw [hs] at hA ⊢
  refine Calls.callWith_builtin (by show (false || (backTo cpos (starEach es X.env)).any (·.1)) = false; rw [hplain] <;> rfl) (Calls.evalArgs_plain ?_)
  exact thn hA fun us s2 ⟨vs, H2, I2, r2, q2⟩ => hm pins s2 σ H2 x vs v us Q I2 r1 r2 q2
end
end L2
namespace L2
open PySem PySem.Spec PyProof.Rows
def MtM (X : Cx) (id : String) (r : V → List V → Hp → VK → Prop) : Prop :=
  ∀ (pins : List (Addr × Obj)) (s : Shared) (σ : St) (H : Hp) (x : V) (xs : List V) (v : Value) (us : List Value) (Q : VK), Inv X pins σ H s → RelV x v → Vals xs us → r x xs H Q →
    wpAny (model X.prog X.w) X.A (call (.builtin id) (v :: us)) (EP X pins σ Q) X.xe s
theorem Vals.one : ∀ {x : V} {us : List Value}, Vals [x] us → ∃ u, us = [u] ∧ RelV x u
  | _, _, .cons r .nil => ⟨_, rfl, r⟩
theorem Vals.zero : ∀ {us : List Value}, Vals [] us → us = []
  | _, .nil => rfl
theorem Vals.dropLast {xs : List V} {us : List Value} (h : Vals xs us) : Vals xs.dropLast us.dropLast := by
  induction h with
  | nil => exact .nil
  | cons r t ih =>
    cases t with
    | nil => exact .nil
    | cons q t' => exact .cons r ih
theorem Vals.rep {xs : List V} {us : List Value} (h : Vals xs us) : ∀ k : Nat, Vals (List.replicate k xs).flatten (List.replicate k us).flatten
  | 0 => .nil
  | k + 1 => by
    rw [List.replicate_succ, List.replicate_succ, List.flatten_cons, List.flatten_cons]
    exact Vals.append h (Vals.rep h k)
theorem erase_last {α : Type} (l : List α) : l.eraseIdx (l.length - 1) = l.dropLast := by
  induction l with
  | nil => rfl
  | cons a r ih =>
    cases r with
    | nil => rfl
    | cons b r =>
      have e : (a :: b :: r).length - 1 = ((b :: r).length - 1) + 1 := by
        have h1 : (a :: b :: r).length = r.length + 2 := rfl
        have h2 : (b :: r).length = r.length + 1 := rfl
        omega
      rw [e, List.eraseIdx_cons_succ, ih]
      all_goals rfl
theorem foldl_rep (its : List Value) : ∀ (k : Nat) (acc : List Value),
    List.foldl (fun x1 x2 => x1 ++ x2) acc.toArray (List.replicate k its.toArray) = (acc ++ (List.replicate k its).flatten).toArray
  | 0, acc => by simp
  | k + 1, acc => by
    have e : acc.toArray ++ its.toArray = (acc ++ its).toArray := by simp
    have e2 : (acc ++ its) ++ (List.replicate k its).flatten = acc ++ (List.replicate (k + 1) its).flatten := by
      rw [List.replicate_succ, List.flatten_cons, List.append_assoc]
    rw [← e2, ← foldl_rep its k (acc ++ its), ← e, List.replicate_succ, List.foldl_cons]
section
variable {X : Cx} {pins : List (Addr × Obj)} {σ : St} {H : Hp} {s : Shared} {l b : Addr} {xs ys zs : List V}
theorem Inv.lset {its its' : List Value} {n : Nat} {f : Array Value → Array Value} {t' : Nat} (I : Inv X pins σ H s) (hH : H l = some (.lst xs))
    (e : s.heap.get? l = some { cls := .type "list", data := .seq its.toArray n }) (hf : f its.toArray = its'.toArray) (hv : Vals ys its') (hz : ys.length ≤ sizeLine) :
    Inv X pins σ (upd H l (.lst ys)) { s with heap := s.heap.update l (Obj.mapSeq f), toks := t' } := by
  have q := PySem.IsL.update e f
  rw [hf] at q
  refine I.write (x := l) (e := l) (by rw [hH]; exact trivial) (.inl rfl) (fun b' u hb hu => (Heap.get?_update_other s.heap (Obj.mapSeq f) (Ne.symm hb)).trans hu) ⟨_, q⟩ ?_
  exact ⟨hz, its', _, hv, q⟩
theorem Inv.lnew {its : List Value} {t' : Nat} (I : Inv X pins σ H s) (hv : Vals ys its) (hz : ys.length ≤ sizeLine) :
    Inv X pins σ (upd H s.heap.objs.size (.lst ys)) { s with heap := s.heap.push { cls := .type "list", data := .seq its.toArray }, toks := t' } :=
  I.laid (fun _ _ q => Heap.get?_push_of_some _ q) (Nat.le_refl _) ⟨hz, its, 0, hv, Heap.get?_push_size _ rfl⟩
theorem Inv.fresh (I : Inv X pins σ H s) : H s.heap.objs.size = none := I.hok.fresh (Nat.le_refl _)
theorem Inv.lstM (I : Inv X pins σ H s) (hH : H l = some (.lst xs)) : xs.length ≤ sizeLine ∧ ∃ (its : List Value) (n : Nat), Vals xs its ∧ xs.length = its.length ∧ s.heap.get? l = some { cls := .type "list", data := .seq its.toArray n } := by
  obtain ⟨z, its, n, r, e⟩ := I.hok l _ hH
  exact ⟨z, its, n, r, r.length, e⟩
theorem notLongL {n : Nat} (h : n ≤ sizeLine) : Builtin.List.listTooLong n = false := by
  unfold Builtin.List.listTooLong
  exact decide_eq_false (by omega)
end
section
variable {X : Cx}
def rAppend : V → List V → Hp → VK → Prop := fun x vs H Q => ∃ l xs y, x = .ref l ∧ vs = [y] ∧ H l = some (.lst xs) ∧ xs.length < sizeLine ∧ Q .non (upd H l (.lst (xs ++ [y])))
theorem mt_append : MtM X "list.append" rAppend := by
  intro pins s σ H x vs v us Q I rx rv h
  obtain ⟨l, xs, y, rfl, rfl, hH, hz, q⟩ := h
  cases rx
  obtain ⟨u, rfl, ru⟩ := rv.one
  obtain ⟨z, its, n, r, hl, e⟩ := I.lstM hH
  refine call_meets F.slot_list_append ⟨_, e, rfl⟩ F.entry_list_append (F.args_list_append_2 _ _) (PySem.list_append l its.toArray n u (by rw [List.size_toArray]; omega)) ⟨e, ?_⟩
  refine ⟨.non, _, I.lset (its' := its ++ [u]) hH e (by simp) (r.append (.cons ru .nil)) ?_, rfl, q⟩
  rw [List.length_append, List.length_singleton]
  omega
def rPop : V → List V → Hp → VK → Prop := fun x vs H Q => ∃ l xs y, x = .ref l ∧ vs = [] ∧ H l = some (.lst xs) ∧ xs[xs.length - 1]? = some y ∧ Q y (upd H l (.lst xs.dropLast))
theorem mt_pop : MtM X "list.pop" rPop := by
  intro pins s σ H x vs v us Q I rx rv h
  obtain ⟨l, xs, y, rfl, rfl, hH, hy, q⟩ := h
  cases rx
  have hus := rv.zero
  subst hus
  obtain ⟨z, its, n, r, hl, e⟩ := I.lstM hH
  obtain ⟨u, hu, ru⟩ := r.get hy
  have hy' : its.toArray[its.toArray.size - 1]? = some u := by
    show its.toArray[its.length - 1]? = some u
    rw [← Array.getElem?_toList, ← hl]
    exact hu
  refine call_meets F.slot_list_pop ⟨_, e, rfl⟩ F.entry_list_pop (F.args_list_pop_1 _) (MeetsSeq.list_pop_last l its.toArray n u hy' (by rw [List.size_toArray]; omega)) ⟨e, ?_⟩
  refine ⟨y, _, I.lset (its' := its.dropLast) hH e ?_ r.dropLast ?_, ru, q⟩
  · show its.toArray.eraseIdxIfInBounds (its.toArray.size - 1) = its.dropLast.toArray
    rw [List.size_toArray, List.eraseIdxIfInBounds_toArray, erase_last]
  · rw [List.length_dropLast]
    omega
def rCat : R2 := fun x y H Q => ∃ l b xs zs, x = .ref l ∧ y = .ref b ∧ H l = some (.lst xs) ∧ H b = some (.lst zs) ∧ xs.length + zs.length ≤ sizeLine ∧ ∀ p, H p = none → Q (.ref p) (upd H p (.lst (xs ++ zs)))
theorem op_cat : OpR X (binaryOp .Add) rCat := by
  intro pins s σ H x y v u Q I rx ry h
  obtain ⟨l, b, xs, zs, rfl, rfl, hH, hB, hz, q⟩ := h
  cases rx
  cases ry
  obtain ⟨z, its, n, r, hl, e⟩ := I.lstM hH
  obtain ⟨z2, its2, n2, r2, hl2, e2⟩ := I.lstM hB
  refine PySem.P.add_list e e2 ?_ (by rw [List.size_toArray, List.size_toArray]; omega)
  have ea : its.toArray ++ its2.toArray = (its ++ its2).toArray := by simp
  rw [ea]
  exact ⟨.ref _, _, I.lnew (t' := s.toks) (r.append r2) (by rw [List.length_append]; omega), rfl, q _ I.fresh⟩
def rRep : R2 := fun x y H Q => ∃ l k xs, x = .ref l ∧ y = .int k ∧ H l = some (.lst xs) ∧ -(2 ^ 63) ≤ k ∧ k < 2 ^ 63 ∧ xs.length * k.toNat ≤ sizeLine ∧
  ∀ p, H p = none → Q (.ref p) (upd H p (.lst (List.replicate k.toNat xs).flatten))
theorem len_rep {α : Type} (xs : List α) (k : Nat) : (List.replicate k xs).flatten.length = k * xs.length := by
  induction k with
  | zero => simp
  | succ k ih => rw [List.replicate_succ, List.flatten_cons, List.length_append, ih, Nat.succ_mul, Nat.add_comm]
theorem op_rep : OpR X (binaryOp .Mult) rRep := by
  intro pins s σ H x y v u Q I rx ry h
  obtain ⟨l, k, xs, rfl, rfl, hH, h1, h2, hz, q⟩ := h
  cases rx
  obtain ⟨t, rfl⟩ := ry
  obtain ⟨z, its, n, r, hl, e⟩ := I.lstM hH
  have hlen : its.toArray.size * k.toNat ≤ sizeLine := by rw [List.size_toArray, ← hl]; exact hz
  have hcap : ¬ its.toArray.size * k.toNat > (2 ^ 63 - 1) / 8 := by
    have : (sizeLine : Nat) ≤ (2 ^ 63 - 1) / 8 := by decide
    omega
  have hfit : ¬ (!Builtin.List.listFitsIndex k) = true := by
    rw [fitsIndex_both h1 h2]
    exact Bool.false_ne_true
  have hlong : ¬ Builtin.List.listTooLong (its.toArray.size * k.toNat) = true := by
    rw [notLongL hlen]
    exact Bool.false_ne_true
  have hnew : List.foldl (fun x1 x2 => x1 ++ x2) #[] (List.replicate (if its.toArray.isEmpty = true then 0 else k.toNat) its.toArray) = (List.replicate k.toNat its).flatten.toArray := by
    have f0 : ∀ m : Nat, List.foldl (fun x1 x2 => x1 ++ x2) #[] (List.replicate m its.toArray) = (List.replicate m its).flatten.toArray := fun m => by
      have := foldl_rep its m []
      rw [List.nil_append] at this
      exact this
    rw [f0]
    cases its with
    | nil => simp
    | cons a r' => rw [if_neg (by simp)]
  refine wpAny_binaryOp_repeat_ref (T := "list") (U := "int") (by decide) ⟨_, e, rfl⟩ (fun s' => typeIs_int s' k t) noFill_list_mul F.fills_int_mul F.slot_int_rmul repeat_list F.slot_int_index.lookup
    (call_meets F.slot_int_rmul (typeIs_int s k t) F.entry_int_rmul (F.args_int_rmul_2 _ _) (int___rmul___int_list k t l its.toArray n)
      ⟨e, rfl, ⟨_, e, rfl⟩, call_meets F.slot_list_mul ⟨_, e, rfl⟩ F.entry_list_mul (F.args_list_mul_2 _ _) (AutoListH.list___mul___list_int_3 l its.toArray n k t hfit hcap hlong) ⟨e, ?_⟩⟩)
  rw [hnew]
  exact ⟨.ref _, _, I.lnew (t' := s.toks) (r.rep k.toNat) (by rw [len_rep, Nat.mul_comm]; exact hz), rfl, q _ I.fresh⟩
end
section
variable {prog : Program} {w : World} {A : Around} {E : Value → Shared → Prop} {s : Shared}
end
section
variable {X : Cx}
end
end L2
namespace L2
open PySem PySem.Spec PyProof.Rows
section
variable {κ : Type} [DecidableEq κ]
def valV (kvs : List (κ × V)) (k : κ) : Option V := (kvs.find? fun kv => decide (kv.1 = k)).map (·.2)
def putK (kvs : List (κ × V)) (k : κ) (v : V) : List (κ × V) :=
  if (kvs.any fun kv => decide (kv.1 = k)) = true then kvs.map (fun kv => if kv.1 = k then (kv.1, v) else kv) else kvs ++ [(k, v)]
theorem valV_pos {p : κ × V} {r : List (κ × V)} {k : κ} (e : p.1 = k) : valV (p :: r) k = some p.2 := by simp [valV, List.find?_cons, e]
theorem valV_neg {p : κ × V} {r : List (κ × V)} {k : κ} (e : ¬ p.1 = k) : valV (p :: r) k = valV r k := by simp [valV, List.find?_cons, e]
theorem valV_any (k : κ) : ∀ kvs : List (κ × V), (kvs.any fun kv => decide (kv.1 = k)) = (valV kvs k).isSome
  | [] => rfl
  | p :: r => by
    rw [List.any_cons]
    by_cases e : p.1 = k
    · simp only [valV_pos e, decide_eq_true e, Bool.true_or, Option.isSome_some]
    · rw [valV_neg e, decide_eq_false e, Bool.false_or]; exact valV_any k r
theorem length_putK (kvs : List (κ × V)) (k : κ) (v : V) : (putK kvs k v).length ≤ kvs.length + 1 := by
  unfold putK
  split
  · rw [List.length_map]; omega
  · rw [List.length_append, List.length_cons, List.length_nil]; omega
theorem putK_new {kvs : List (κ × V)} {k : κ} (v : V) (h : valV kvs k = none) : putK kvs k v = kvs ++ [(k, v)] := by
  unfold putK
  rw [valV_any, h]
  exact if_neg (by decide)
theorem RelO.isSome_eq {o : Option V} {u : Option Value} (r : RelO o u) : o.isSome = u.isSome := by
  cases o with
  | none => cases u with
    | none => rfl
    | some _ => exact (show False from r).elim
  | some _ => cases u with
    | none => exact (show False from r).elim
    | some _ => rfl
theorem KV.val {kvs : List (κ × V)} {vs : List (κ × Value)} (r : KV kvs vs) (k : κ) : RelO (valV kvs k) (valueAt vs k) := by
  unfold KV at r
  induction r with
  | nil => exact True.intro
  | @cons p q ps qs h t ih =>
    obtain ⟨h1, h2⟩ := h
    by_cases e : p.1 = k
    · have e' : q.1 = k := h1.symm.trans e
      have b : valueAt (q :: qs) k = some q.2 := by simp [valueAt, List.find?_cons, e']
      rw [valV_pos e, b]; exact h2
    · have e' : ¬ q.1 = k := fun z => e (h1.trans z)
      have b : valueAt (q :: qs) k = valueAt qs k := by simp [valueAt, List.find?_cons, e']
      rw [valV_neg e, b]; exact ih
theorem KV.any {kvs : List (κ × V)} {vs : List (κ × Value)} (r : KV kvs vs) (k : κ) : (kvs.any fun kv => decide (kv.1 = k)) = vs.any fun kv => decide (kv.1 = k) := by
  unfold KV at r
  induction r with
  | nil => rfl
  | cons h t ih => rw [List.any_cons, List.any_cons, ih, h.1]
theorem KV.repl {kvs : List (κ × V)} {vs : List (κ × Value)} (r : KV kvs vs) (k : κ) {y : V} {u : Value} (ry : RelV y u) :
    KV (kvs.map fun kv => if kv.1 = k then (kv.1, y) else kv) (vs.map fun kv => if kv.1 = k then (kv.1, u) else kv) := by
  unfold KV at r ⊢
  induction r with
  | nil => exact .nil
  | @cons p q ps qs h t ih =>
    rw [List.map_cons, List.map_cons]
    refine .cons ?_ ih
    obtain ⟨h1, h2⟩ := h
    by_cases e : p.1 = k
    · rw [if_pos e, if_pos (h1.symm.trans e)]; exact ⟨h1, ry⟩
    · rw [if_neg e, if_neg (fun z => e (h1.trans z))]; exact ⟨h1, h2⟩
theorem KV.put {kvs : List (κ × V)} {vs : List (κ × Value)} (r : KV kvs vs) (k : κ) {y : V} {u : Value} (ry : RelV y u) : KV (putK kvs k y) (stored vs k u) := by
  unfold putK stored
  rw [r.any k]
  by_cases e : (vs.any fun kv => decide (kv.1 = k)) = true
  · rw [if_pos e, if_pos e]; exact r.repl k ry
  · rw [if_neg e, if_neg e]; exact Paired.snoc r ⟨rfl, ry⟩
theorem KV.length {kvs : List (κ × V)} {vs : List (κ × Value)} (r : KV kvs vs) : kvs.length = vs.length := Paired.length r
end
theorem kV_is {P : Program} {w : World} {k : Key} {u : Value} (r : RelV (kV k) u) : (mixKind P w).is k u = true := by
  cases k with
  | inl i => obtain ⟨t, e⟩ := (show ∃ t, u = Value.int i t from r); subst e; exact mixKind_int P w i t
  | inr x => obtain ⟨t, e⟩ := (show ∃ t, u = Value.str x t from r); subst e; exact mixKind_str P w x t
theorem items_are {P : Program} {w : World} : ∀ {ks : List Key} {us : List Value}, Vals (ks.map kV) us → ItemsAre (mixKind P w) ks us
  | [], _, r => by rw [List.map_nil] at r; cases r; exact .nil
  | k :: ks, _, r => by
    rw [List.map_cons] at r
    cases r with
    | cons h t => exact .cons (kV_is h) (items_are t)
abbrev KT (H : Hp) : List (List Key × V) → List (List Key × Addr × Value) → Prop := Paired fun p q => p.1 = q.1 ∧ H q.2.1 = some (.tup (p.1.map kV)) ∧ RelV p.2 q.2.2
theorem KT.val {H : Hp} {kvs : List (List Key × V)} {xs : List (List Key × Addr × Value)} (r : KT H kvs xs) (k : List Key) : RelO (valV kvs k) ((atKey xs k).map (·.2)) := by
  induction r with
  | nil => exact True.intro
  | @cons p q ps qs h t ih =>
    obtain ⟨h1, _, h2⟩ := h
    by_cases e : p.1 = k
    · have e' : q.1 = k := h1.symm.trans e
      have b : atKey (q :: qs) k = some q.2 := by simp [atKey, List.find?_cons, e']
      rw [valV_pos e, b]; exact h2
    · have e' : ¬ q.1 = k := fun z => e (h1.trans z)
      have b : atKey (q :: qs) k = atKey qs k := by simp [atKey, List.find?_cons, e']
      rw [valV_neg e, b]; exact ih
theorem KT.repl {H : Hp} {kvs : List (List Key × V)} {xs : List (List Key × Addr × Value)} (r : KT H kvs xs) (k : List Key) {y : V} {u : Value} (ry : RelV y u) :
    KT H (kvs.map fun kv => if kv.1 = k then (kv.1, y) else kv) (xs.map (putAt k u)) := by
  induction r with
  | nil => exact .nil
  | @cons p q ps qs h t ih =>
    rw [List.map_cons, List.map_cons]
    refine .cons ?_ ih
    obtain ⟨h1, h2, h3⟩ := h
    unfold putAt
    by_cases e : p.1 = k
    · rw [if_pos e, if_pos (h1.symm.trans e)]; exact ⟨h1, h2, ry⟩
    · rw [if_neg e, if_neg (fun z => e (h1.trans z))]; exact ⟨h1, h2, h3⟩
theorem KT.put {H : Hp} {kvs : List (List Key × V)} {xs : List (List Key × Addr × Value)} (r : KT H kvs xs) (k : List Key) {b : Addr} {y : V} {u : Value} (hb : H b = some (.tup (k.map kV))) (ry : RelV y u) :
    KT H (putK kvs k y) (storedH xs k b u) := by
  have e : (kvs.any fun kv => decide (kv.1 = k)) = (atKey xs k).isSome := by
    rw [valV_any, (r.val k).isSome_eq, Option.isSome_map]
  unfold putK storedH
  rw [e]
  by_cases q : (atKey xs k).isSome = true
  · rw [if_pos q, if_pos q]; exact r.repl k ry
  · rw [if_neg q, if_neg q]; exact Paired.snoc r ⟨rfl, hb, ry⟩
theorem KT.keeps {H H' : Hp} {kvs : List (List Key × V)} {xs : List (List Key × Addr × Value)} (r : KT H kvs xs) (ht : ∀ b ys, H b = some (.tup ys) → H' b = some (.tup ys)) : KT H' kvs xs :=
  Paired.mapP r fun _ _ z => ⟨z.1, ht _ _ z.2.1, z.2.2⟩
section
variable {P : Program} {w : World} {H : Hp} {h : Heap} {a : Addr}
theorem rd_of {u : HO} (ok : HOk P w H h) (e : Rd H a u) : ObjOk P w H h a u := e.ok ok
theorem dk_rd {kvs : List (Key × V)} (ok : HOk P w H h) (e : Rd H a (.dK kvs)) : kvs.length ≤ sizeLine ∧ (a == sysModules) = false ∧ ∃ vs, KV kvs vs ∧ h.DictOf (mixKind P w) a vs :=
  show ObjOk P w H h a (.dK kvs) from rd_of ok e
theorem dk_of {kvs : List (Key × V)} (ok : HOk P w H h) (e : H a = some (.dK kvs)) : kvs.length ≤ sizeLine ∧ (a == sysModules) = false ∧ ∃ vs, KV kvs vs ∧ h.DictOf (mixKind P w) a vs := dk_rd ok (.inl e)
theorem key_of {ks : List Key} (ok : HOk P w H h) (e : H a = some (.tup (ks.map kV))) : (tupleKind (mixKind P w)).is h ks a := by
  obtain ⟨_, its, r, o, h1, h2, n, h3⟩ := (show ObjOk P w H h a (.tup (ks.map kV)) from ok a _ e)
  exact ⟨o, its.toArray, n, h1, h2, h3, by simpa using items_are r⟩
theorem dt_rd {kvs : List (List Key × V)} (ok : HOk P w H h) (e : Rd H a (.dT kvs)) : kvs.length ≤ sizeLine ∧ (a == sysModules) = false ∧
    ∃ xs, KT H kvs xs ∧ h.DictOfH (tupleKind (mixKind P w)) a xs := by
  obtain ⟨z, y, xs, r, o, es, ep, h1, h2, h3, h4, h5⟩ := (show ObjOk P w H h a (.dT kvs) from rd_of ok e)
  refine ⟨z, y, xs, r, o, es, ep, h1, h2, h3, h4, fun x hx => ?_, h5⟩
  have all : ∀ {l : List (List Key × V)} {m : List (List Key × Addr × Value)}, KT H l m → ∀ x ∈ m, (tupleKind (mixKind P w)).is h x.1 x.2.1 := by
    intro l m q
    induction q with
    | nil => intro x hx; exact nomatch hx
    | @cons p q ps qs hq t ih =>
      intro x hx
      rcases List.mem_cons.mp hx with e | hx
      · subst e
        exact key_of ok (by rw [← hq.1]; exact hq.2.1)
      · exact ih x hx
  exact all r x hx
theorem dt_of {kvs : List (List Key × V)} (ok : HOk P w H h) (e : H a = some (.dT kvs)) : kvs.length ≤ sizeLine ∧ (a == sysModules) = false ∧
    ∃ xs, KT H kvs xs ∧ h.DictOfH (tupleKind (mixKind P w)) a xs := dt_rd ok (.inl e)
end
def DGet (H : Hp) (a : Addr) (y : V) (r : Option V) : Prop :=
  (∃ kvs k, Rd H a (.dK kvs) ∧ y = kV k ∧ r = valV kvs k) ∨ ∃ kvs k b, Rd H a (.dT kvs) ∧ y = .ref b ∧ H b = some (.tup (k.map kV)) ∧ r = valV kvs k
def DPut (H : Hp) (a : Addr) (y v : V) (H' : Hp) : Prop :=
  (∃ kvs k, H a = some (.dK kvs) ∧ y = kV k ∧ kvs.length < sizeLine ∧ H' = upd H a (.dK (putK kvs k v))) ∨
  ∃ kvs k b, H a = some (.dT kvs) ∧ y = .ref b ∧ H b = some (.tup (k.map kV)) ∧ kvs.length < sizeLine ∧ H' = upd H a (.dT (putK kvs k v))
theorem DGet.k {H : Hp} {a : Addr} {kvs : List (Key × V)} {k : Key} (e : H a = some (.dK kvs)) : DGet H a (kV k) (valV kvs k) := .inl ⟨kvs, k, .inl e, rfl, rfl⟩
theorem DPut.k {H : Hp} {a : Addr} {kvs : List (Key × V)} {k : Key} {v : V} (e : H a = some (.dK kvs)) (hl : kvs.length < sizeLine) : DPut H a (kV k) v (upd H a (.dK (putK kvs k v))) := .inl ⟨kvs, k, e, rfl, hl, rfl⟩
section
variable {X : Cx} {pins : List (Addr × Obj)} {σ : St} {H : Hp} {s : Shared} {a : Addr} {y v : V} {u r : Value} {o : Option V} {A : Around} {E : Value → Shared → Prop}
theorem Inv.big (I : Inv X pins σ H s) : sysModules < s.heap.objs.size := by
  have h : mainGlobals < s.heap.objs.size := (I.mod.glob.keeps I.bk).lt
  exact Nat.lt_trans (by decide) h
theorem d_in {Q : Value → Shared → Prop} (hu : A.units + 1 < cLine) (I : Inv X pins σ H s) (g : DGet H a y o) (ry : RelV y u) (h : ∀ s', Inv X pins σ H s' → Q (.bool o.isSome) s') :
    wpAny (model X.prog X.w) A (compareOp .In u (.ref a)) Q E s := by
  rcases g with ⟨kvs, k, e, ey, l⟩ | ⟨kvs, k, b, e, ey, eb, l⟩
  · subst ey
    obtain ⟨z, hd, vs, rel, dd⟩ := dk_rd I.hok e
    refine wpAny_in_of (kV_is ry) hd dd.mapOf ?_
    rw [← (rel.val k).isSome_eq, ← l]
    exact h _ (I.tok _)
  · subst ey
    cases (show u = Value.ref b from ry)
    obtain ⟨z, hd, xs, rel, dd⟩ := dt_rd I.hok e
    refine wpAny_in_heap (tupleKind_room_in1 hu) (key_of I.hok eb) hd dd ?_
    have q := (rel.val k).isSome_eq
    rw [Option.isSome_map] at q
    rw [← q, ← l]
    exact h _ (I.tok _)
theorem d_notIn {Q : Value → Shared → Prop} (hu : A.units + 1 < cLine) (I : Inv X pins σ H s) (g : DGet H a y o) (ry : RelV y u) (h : ∀ s', Inv X pins σ H s' → Q (.bool (!o.isSome)) s') :
    wpAny (model X.prog X.w) A (compareOp .NotIn u (.ref a)) Q E s := by
  rcases g with ⟨kvs, k, e, ey, l⟩ | ⟨kvs, k, b, e, ey, eb, l⟩
  · subst ey
    obtain ⟨z, hd, vs, rel, dd⟩ := dk_rd I.hok e
    refine wpAny_notIn_of (kV_is ry) hd dd.mapOf ?_
    rw [← (rel.val k).isSome_eq, ← l]
    exact h _ (I.tok _)
  · subst ey
    cases (show u = Value.ref b from ry)
    obtain ⟨z, hd, xs, rel, dd⟩ := dt_rd I.hok e
    refine wpAny_notIn_heap (tupleKind_room_in1 hu) (key_of I.hok eb) hd dd ?_
    have q := (rel.val k).isSome_eq
    rw [Option.isSome_map] at q
    rw [← q, ← l]
    exact h _ (I.tok _)
theorem d_write {h' : Heap} {t' : Nat} {ob : HO} (I : Inv X pins σ H s) (mu : Mut (H a)) (hs : Heap.SameBut a s.heap h') (he : ∃ q, h'.get? a = some q) (new : ObjOk X.prog X.w (upd H a ob) h' a ob) :
    Inv X pins σ (upd H a ob) { s with heap := h', toks := t' } :=
  I.write (x := a) (e := a) mu (.inl rfl) (fun b q hb z => (hs.2 b hb).trans z) he new
theorem dk_new {P : Program} {w : World} {H' : Hp} {h' : Heap} {kvs : List (Key × V)} {vs : List (Key × Value)} (z : kvs.length ≤ sizeLine) (hd : (a == sysModules) = false) (rel : KV kvs vs) (dd : h'.DictOf (mixKind P w) a vs) :
    ObjOk P w H' h' a (.dK kvs) := ⟨z, hd, vs, rel, dd⟩
theorem d_setItem {H' : Hp} {Q : Unit → Shared → Prop} (hu : A.units + 1 < cLine) (I : Inv X pins σ H s) (g : DPut H a y v H') (ry : RelV y u) (rv : RelV v r) (h : ∀ s', Inv X pins σ H' s' → Q () s') :
    wpAny (model X.prog X.w) A (setItem (.ref a) u r) Q E s := by
  rcases g with ⟨kvs, k, e, ey, l, eH⟩ | ⟨kvs, k, b, e, ey, eb, l, eH⟩
  · subst ey eH
    obtain ⟨z, hd, vs, rel, dd⟩ := dk_of I.hok e
    have hz : vs.length ≤ sizeLine := by rw [← rel.length]; exact z
    have hl : (putK kvs k v).length ≤ sizeLine := by have := length_putK kvs k v; omega
    refine wpAny_setItem_pairs (hsz := hz) (kV_is ry) dd fun h' dd' hs => h _ ?_
    have he : ∃ q, h'.get? a = some q := let ⟨q, _, _, hq, _⟩ := dd'; ⟨q, hq⟩
    exact d_write I (by rw [e]; exact True.intro) hs he (dk_new hl hd (rel.put k rv) dd')
  · subst ey eH
    cases (show u = Value.ref b from ry)
    obtain ⟨z, hd, xs, rel, dd⟩ := dt_of I.hok e
    have hz : xs.length ≤ sizeLine := by rw [← Paired.length rel]; exact z
    have hl : (putK kvs k v).length ≤ sizeLine := by have := length_putK kvs k v; omega
    refine wpAny_setItem_heap (hsz := hz) (tupleKind_room_in1 hu) (key_of I.hok eb) dd fun h' dd' hs => h _ ?_
    obtain ⟨q, es, ep, hq, h2, h3, h4, _, h5⟩ := dd'
    refine d_write I (by rw [e]; exact True.intro) hs ⟨q, hq⟩ ⟨hl, hd, _, (rel.put k eb rv).keeps fun c ys ec => ?_, q, es, ep, hq, h2, h3, h4, h5⟩
    rw [upd_ne (ne_of ec e (fun z => nomatch z))]
    exact ec
end
section
variable {X : Cx} {pins : List (Addr × Obj)} {σ : St} {H : Hp} {s : Shared} {a : Addr} {kvs : List (Key × V)} {k : Key} {u : Value} {A : Around} {E : Value → Shared → Prop}
theorem d_len {Q : Value → Shared → Prop} (I : Inv X pins σ H s) (e : Rd H a (.dK kvs)) (h : ∀ t s', Inv X pins σ H s' → Q (.int kvs.length t) s') : wpAny (model X.prog X.w) A (call (.builtin "len") [.ref a]) Q E s := by
  obtain ⟨z, hd, vs, rel, dd⟩ := dk_rd I.hok e
  refine call_len_dict hd dd (by rw [← rel.length]; rw [sizeLine_eq] at z; omega) ?_
  rw [← rel.length]
  exact h _ _ (I.tok _)
end
def tDIn (ty td : TE) : TE := fun σ H Q => ty σ H fun y H1 => td σ H1 fun x H2 => ∃ a o, x = .ref a ∧ DGet H2 a y o ∧ Q (.bl o.isSome) H2
def tDNotIn (ty td : TE) : TE := fun σ H Q => ty σ H fun y H1 => td σ H1 fun x H2 => ∃ a o, x = .ref a ∧ DGet H2 a y o ∧ Q (.bl (!o.isSome)) H2
def sDPut (td ty tv : TE) : TS := fun D σ H => tv σ H fun v H1 => td σ H1 fun x H2 => ty σ H2 fun y H3 => ∃ a H4, x = .ref a ∧ DPut H3 a y v H4 ∧ D.nx σ H4
section
variable {X : Cx} {o i e value : Expr} {pos pos' tpos : Pos} {td ty tv : TE}
theorem pc_din (hu : X.A.units + 1 < cLine) (hi : PE X i ty) (ho : PE X o td) : PC X .In i o (tDIn ty td) := by
  intro pins s σ H Q I h
  refine thn (hi pins s σ H _ I h) fun iv s1 ⟨y, H1, I1, ry, q1⟩ => thn (ho pins s1 σ H1 _ I1 q1) fun u s2 ⟨x, H2, I2, rx, a, ov, ex, g, q2⟩ => ?_
  subst ex
  obtain rfl : u = Value.ref a := rx
  exact d_in hu I2 g ry fun s3 I3 => ⟨.bl ov.isSome, H2, I3, rfl, q2⟩
theorem pc_dnotin (hu : X.A.units + 1 < cLine) (hi : PE X i ty) (ho : PE X o td) : PC X .NotIn i o (tDNotIn ty td) := by
  intro pins s σ H Q I h
  refine thn (hi pins s σ H _ I h) fun iv s1 ⟨y, H1, I1, ry, q1⟩ => thn (ho pins s1 σ H1 _ I1 q1) fun u s2 ⟨x, H2, I2, rx, a, ov, ex, g, q2⟩ => ?_
  subst ex
  obtain rfl : u = Value.ref a := rx
  exact d_notIn hu I2 g ry fun s3 I3 => ⟨.bl (!ov.isSome), H2, I3, rfl, q2⟩
theorem ps_dput (hu : X.A.units + 1 < cLine) (ho : PE X o td) (hi : PE X i ty) (hv : PE X value tv) (hs : swapsWith value (some (.Subscript o i pos')) pos.line X.env = pure false) :
    PS X (.Assign [.Subscript o i pos'] value pos) (sDPut td ty tv) := by
  intro pins s σ H D I h
  refine wpAny_Assign_Subscript (thn (hv pins s σ H _ I h) fun r s1 ⟨v, H1, I1, rv, q1⟩ => thn (ho pins s1 σ H1 _ I1 q1) fun u s2 ⟨x, H2, I2, rx, q2⟩ => thn (hi pins s2 σ H2 _ I2 q2) fun iv s3 ⟨y, H3, I3, ry, a, H4, ex, g, q3⟩ => ?_) hs
  subst ex
  obtain rfl : u = Value.ref a := rx
  exact d_setItem hu I3 g ry rv fun s4 I4 => ⟨σ, H4, I4, q3⟩
end
theorem dk_empty {P : Program} {w : World} {H : Hp} (h : Heap) (hb : sysModules < h.objs.size) : ObjOk P w H (h.push { cls := .type "dict", data := .dict #[] }) h.objs.size (.dK []) :=
  ⟨Nat.zero_le _, beq_eq_false_iff_ne.mpr (Ne.symm (Nat.ne_of_lt hb)), [], .nil, Heap.DictOf.new h⟩
section
variable {X : Cx} {pos : Pos}
end
def tPairs : List (TE × TE) → St → Hp → (List (V × V) → Hp → Prop) → Prop
  | [], _, H, Q => Q [] H
  | (tk, tv) :: r, σ, H, Q => tk σ H fun x H1 => tv σ H1 fun y H2 => tPairs r σ H2 fun ps H3 => Q ((x, y) :: ps) H3
abbrev VV : List (V × V) → List (Value × Value) → Prop := Paired fun p q => RelV p.1 q.1 ∧ RelV p.2 q.2
def PPs (X : Cx) (pos : Pos) (keys : List (Option Expr)) (values : List Expr) (trs : List (TE × TE)) : Prop :=
  ∀ (pins : List (Addr × Obj)) (s : Shared) (σ : St) (H : Hp) (Q : List (V × V) → Hp → Prop), Inv X pins σ H s → tPairs trs σ H Q →
    wpAny (model X.prog X.w) X.A (evalPairs (pairTrees keys values X.env pos)) (fun vs s' => ∃ ps H', Inv X pins σ H' s' ∧ VV ps vs ∧ Q ps H') X.xe s
theorem pps_nil {X : Cx} {pos : Pos} : PPs X pos [] [] [] := fun pins s σ H Q I h => pairTrees_nil_walk ⟨[], H, I, .nil, h⟩
theorem pps_cons {X : Cx} {pos : Pos} {k v : Expr} {ks : List (Option Expr)} {vs : List Expr} {tk tv : TE} {trs : List (TE × TE)} (hk : PE X k tk) (hv : PE X v tv) (hr : PPs X pos ks vs trs) :
    PPs X pos (some k :: ks) (v :: vs) ((tk, tv) :: trs) := fun pins s σ H Q I h =>
  pairTrees_cons_walk (thn (hk pins s σ H _ I h) fun u s1 ⟨x, H1, I1, rx, q1⟩ => thn (hv pins s1 σ H1 _ I1 q1) fun w2 s2 ⟨y, H2, I2, ry, q2⟩ =>
    thn (hr pins s2 σ H2 _ I2 q2) fun ws s3 ⟨ps, H3, I3, rel, q3⟩ => ⟨(x, y) :: ps, H3, I3, .cons ⟨rx, ry⟩ rel, q3⟩)
def mergeK (kvs more : List (Key × V)) : List (Key × V) := more.foldl (fun acc kv => putK acc kv.1 kv.2) kvs
theorem KV.merge : ∀ {more : List (Key × V)} {rs : List (Key × Value)} {kvs : List (Key × V)} {vs : List (Key × Value)}, KV more rs → KV kvs vs → KV (mergeK kvs more) (merged vs rs) := by
  intro more rs kvs vs r
  unfold KV at r
  induction r generalizing kvs vs with
  | nil => intro q; exact q
  | @cons p q ps qs h t ih =>
    intro r0
    have e : KV (putK kvs p.1 p.2) (stored vs q.1 q.2) := by
      have := r0.put p.1 h.2
      rw [← h.1]; exact this
    exact ih e
theorem length_mergeK : ∀ (more kvs : List (Key × V)), (mergeK kvs more).length ≤ kvs.length + more.length
  | [], kvs => by show kvs.length ≤ kvs.length + 0; omega
  | p :: r, kvs => by
    have h1 := length_mergeK r (putK kvs p.1 p.2)
    have h2 := length_putK kvs p.1 p.2
    show (mergeK (putK kvs p.1 p.2) r).length ≤ _
    rw [List.length_cons]; omega
theorem carries_of {P : Program} {w : World} : ∀ {kvs : List (Key × V)} {ws : List (Value × Value)}, VV (kvs.map fun kv => (kV kv.1, kv.2)) ws → ∃ rs, Carries (mixKind P w) ws rs ∧ KV kvs rs
  | [], _, r => by rw [List.map_nil] at r; cases r; exact ⟨[], True.intro, .nil⟩
  | p :: kvs, _, r => by
    rw [List.map_cons] at r
    cases r with
    | @cons a b as bs h t =>
      obtain ⟨rs, c, q⟩ := carries_of (P := P) (w := w) t
      obtain ⟨b1, b2⟩ := b
      exact ⟨(p.1, b2) :: rs, ⟨kV_is h.1, rfl, c⟩, .cons ⟨rfl, h.2⟩ q⟩
def tDisp (trs : List (TE × TE)) : TE := fun σ H Q => ∀ p, H p = none → tPairs trs σ (upd H p (.dK [])) fun ps H2 => H2 p = some (.dK []) ∧ ∃ kvs : List (Key × V), ps = kvs.map (fun kv => (kV kv.1, kv.2)) ∧ kvs.length ≤ 15 ∧ Q (.ref p) (upd H2 p (.dK (mergeK [] kvs)))
theorem pe_disp {X : Cx} {pos : Pos} {keys : List (Option Expr)} {values : List Expr} {trs : List (TE × TE)} (h : PPs X pos keys values trs) (hall : keys.all (·.isSome) = true) (hl : keys.length = values.length) (h0 : keys ≠ [])
    (h15 : keys.length ≤ 15) : PE X (.Dict keys values pos) (tDisp trs) := by
  intro pins s σ H Q I q
  have hn := I.hok.fresh (Nat.le_refl s.heap.objs.size)
  have I1 := I.laid (a := s.heap.objs.size) (o := .dK []) (h' := s.heap.push { cls := .type "dict", data := .dict #[] }) (t' := s.toks) (fun _ _ q => Heap.get?_push_of_some _ q) (Nat.le_refl _) (dk_empty s.heap I.big)
  refine wpAny_Dict_walk (knd := mixKind X.prog X.w) hall hl h0 h15 (thn (h pins _ σ _ _ I1 (q _ hn)) fun ws s2 ⟨ps, H2, I2, rel, e, kvs, ep, lk, q2⟩ => ?_)
  subst ep
  obtain ⟨rs, c, rk⟩ := carries_of (P := X.prog) (w := X.w) rel
  obtain ⟨z, hd, vs0, r0, dd⟩ := dk_of I2.hok e
  cases r0
  refine ⟨rs, c, dd, fun h' dd' hs => ⟨.ref s.heap.objs.size, _, ?_, rfl, q2⟩⟩
  have hz : (mergeK [] kvs).length ≤ sizeLine := by
    have h1 := length_mergeK kvs []
    rw [List.length_nil] at h1
    rw [sizeLine_eq]; omega
  have he : ∃ q, h'.get? s.heap.objs.size = some q := let ⟨q, _, _, hq, _⟩ := dd'; ⟨q, hq⟩
  exact d_write I2 (by rw [e]; exact True.intro) hs he (dk_new hz hd (rk.merge .nil) dd')
section
variable {X : Cx} {pins : List (Addr × Obj)} {σ : St} {H : Hp} {s : Shared} {a : Addr} {y d : V} {u r : Value} {o : Option V} {A : Around} {E : Value → Shared → Prop}
end
section
variable {X : Cx} {o e f : Expr} {apos cpos : Pos} {td ty tx : TE}
end
section
variable {X : Cx} {pins : List (Addr × Obj)} {σ : St} {H : Hp} {s : Shared} {a : Addr} {kvs : List (Key × V)} {A : Around} {E : Value → Shared → Prop}
end
section
variable {X : Cx} {pins : List (Addr × Obj)} {σ : St} {H : Hp} {s : Shared} {a : Addr} {y : V} {u : Value} {A : Around} {E : Value → Shared → Prop}
end
end L2
namespace Att
open PySem PySem.W PySem.Calls PyProof.Rows
theorem ints_of_wellAll {P : Params} {h : Heap} : ∀ (ns : List Int) (vs : List Value), WellAll P h vs (ns.map WData.int) → IntsAre vs ns := by
  intro ns
  induction ns with
  | nil =>
    intro vs w
    rw [List.map_nil] at w
    cases w
    exact .nil
  | cons n ns ih =>
    intro vs w
    rw [List.map_cons] at w
    cases w with
    | cons a b =>
      cases a
      exact .cons _ _ (ih _ b)
theorem script_of {l : OpenLaw} {n : Nat} (hn : l.most = some n) {P : Params} {h : Heap} {args : List WData} {vals : List Value}
    (hpre : l.row.toRowW.claim.pre args = true) (hwl : WellAll P h vals args) :
    ∃ a vs ns, vals = [Value.ref a] ∧ args = [WData.list (ns.map WData.int)] ∧ h.get? a = some { cls := .type "list", data := .seq vs.toArray } ∧ IntsAre vs ns ∧ ns.length ≤ n := by
  have hsh : WShape.hasAll [] args [.list .int] = true := (pre_splitW hpre).1
  have hc : l.pre.holds [] { args := args } = true := (pre_splitW hpre).2
  obtain ⟨d, r, rfl, h1, h2⟩ := hasAllW_cons hsh
  obtain rfl := hasAllW_nil h2
  obtain ⟨xs, rfl, h3⟩ := hasW_list h1
  obtain ⟨ns, rfl⟩ := items_int h3
  have hlen : ns.length ≤ n := by
    unfold OpenLaw.pre at hc
    have h4 : (WTm.not (.lt (.lit (.int (n : Int))) (.len (.arg 0)))).holds [] { args := [.list (ns.map .int)] } = true := by
      have h4 := (holds_andW hc).1
      rw [hn] at h4
      exact h4
    have h5 := condW_of h4 (w_not (w_lt w_lit (w_len_list (w_arg rfl))))
    rw [List.length_map] at h5
    refine Nat.le_of_not_lt fun q => ?_
    have q' : (n : Int) < ((ns.length : Nat) : Int) := by omega
    first
      | (rw [decide_eq_true q'] at h5; exact absurd h5 (by decide))
      | (simp at h5; omega)
  cases hwl with
  | cons w1 w2 =>
    cases w2
    cases w1 with
    | list ho hall => exact ⟨_, _, ns, rfl, rfl, ho, ints_of_wellAll ns _ hall, hlen⟩
theorem post_true (l : OpenLaw) (args : List WData) : l.row.toRowW.claim.post args (.bool true) args = true :=
  postW_of (r := l.row.toRowW) (X := (true == true))
    (show WShape.has [] (.bool true) .bool = true by first | rfl | decide | simp [WShape.has, WShape.arms, WShape.armsAll])
    (show (WTm.eq .res (.lit (.bool true))).value [] { args := args, res := some (.bool true), after := args } = some (.bool (true == true)) from w_eq_bool (w_res rfl) w_lit) rfl
section
variable {prog : Program} {w : World} {A : Around} {E : Value → Shared → Prop} {s : Shared} {K : Frag}
end
end Att
namespace L2
open PySem PySem.Spec PyProof.Rows
theorem vals_ints : ∀ {vs : List Value} {ns : List Int}, IntsAre vs ns → Vals (ns.map V.int) vs
  | _, _, .nil => .nil
  | _, _, .cons n t h => .cons ⟨t, rfl⟩ (vals_ints h)
def Only (H : Hp) : Prop := ∀ b, H b = none ∨ ∃ o xs, H b = some (.frz o (.lst xs))
theorem law_call {P : Program} {w : World} {K : PySem.W.Frag} {mg mb : Str → Option Value} {CX : CXT} {k : Nat} {fa a : Addr} {fd : FuncData} {x : Str} {sp : Sp} {s₁ : Shared} {vs : List Value} {ns : List Int}
    (KX : K.In s₁.heap) (hns : s₁.heap.Ns mainGlobals mg) (hb : s₁.heap.Ns builtinsNs mb) (hbb : ∀ x : Str, x ≠ "__name__" → mb x = bootBuiltins x) (hlim : s₁.heap.NoLimit) (hg : s₁.gens = #[])
    (ha : s₁.heap.get? a = some { cls := .type "list", data := .seq vs.toArray }) (hi : IntsAre vs ns) (hl : ns.length ≤ sizeLine) (hr : Room k callerA)
    (F : ∀ base : Heap, K.In base → base.Ns mainGlobals mg → FnOk P w K mg base CX k fa fd [x] sp) (hbind : ∀ (s : Shared) (u : Value), BindsTo s fd ⟨[u], []⟩ [(x, u)])
    (hsp : ∀ H : Hp, Only H → SqL K H a (ns.map V.int) → sp [.ref a] H (fun v _ => v = .bl true) fun _ _ _ => False)
    (hCX : ∀ H e s', CX [] H s₁ (fun _ _ _ => False) e s' → False) :
    codeAny (model P w) callerA (.call (.ref fa) ⟨[.ref a], []⟩) (fun r s' => r = .ok (.ret (.bool true)) ∧ OldK s₁.heap s'.heap ∧ s'.os = s₁.os ∧ AllBare s'.gens) s₁ := by
  have rv := vals_ints hi
  have lenV := hi.length
  -- from an abstract heap in which nothing but the script may be tracked
  have core : ∀ H : Hp, Only H → SqL K H a (ns.map V.int) → HOk P w H s₁.heap → (∀ b, H b ≠ none → b = a) → (H a ≠ none → K.lookup a = none) →
      codeAny (model P w) callerA (.call (.ref fa) ⟨[.ref a], []⟩) (fun r s' => r = .ok (.ret (.bool true)) ∧ OldK s₁.heap s'.heap ∧ s'.os = s₁.os ∧ AllBare s'.gens) s₁ := by
    intro H hO hS hok hA hK
    have base_of : ∀ {b : Addr} {o : Obj}, s₁.heap.get? b = some o → H b = none → (hidT s₁.heap H).get? b = some o := fun e n => hidT_get e n
    have noA : ∀ {b : Addr} {o : Obj} {es : Array DictEntry} {ep : Nat}, s₁.heap.get? b = some o → o.data = .dict es ep → H b = none := fun {b o es ep} e d => by
      cases q : H b with
      | none => rfl
      | some u =>
        have e' : b = a := hA b (by rw [q]; simp)
        subst e'
        rw [ha] at e; cases e
        have d' : Data.seq vs.toArray _ = Data.dict es ep := d
        cases d'
    have nsK : ∀ {b : Addr} {m : Str → Option Value}, s₁.heap.Ns b m → (hidT s₁.heap H).Ns b m := fun {b m} ⟨o, es, ep, e, d, r⟩ => ⟨o, es, ep, base_of e (noA e d), d, r⟩
    have hKb : K.In (hidT s₁.heap H) := fun b o e => base_of (KX b o e) (by
      cases q : H b with
      | none => rfl
      | some u =>
        have e' : b = a := hA b (by rw [q]; simp)
        subst e'
        rw [hK (by rw [q]; simp)] at e; cases e)
    have hM : Mod K mg (hidT s₁.heap H) := ⟨hKb, nsK hns, ⟨mb, nsK hb, hbb⟩, let ⟨mc, h1, h2⟩ := hlim; ⟨mc, nsK h1, h2⟩⟩
    have e0 : Env0 P w K mg (hidT s₁.heap H) callerA [] s₁ H := ⟨rfl, hM, fun b o e => of_hidT e, Nat.le_of_eq (hidT_size _ _), trivial, fun b hb => absurd (show b ∈ ([] : List Addr) from hb) (by simp), hok, .of_eq hg⟩
    refine codeAny_mono ((F _ hKb (nsK hns)).run callerA [] s₁ H ⟨[.ref a], []⟩ [.ref a] [.ref a] _ _ hr e0 (hbind s₁ (.ref a)) (.cons rfl .nil) (hsp H hO hS)) fun r s' h => ?_
    cases r with
    | error e => exact (hCX H e s' h).elim
    | ok fl =>
      cases fl with
      | next => exact False.elim h
      | brk => exact False.elim h
      | cont => exact False.elim h
      | ret u =>
        obtain ⟨v, H', os, bare, un, hok', r', q⟩ := h
        have q' : v = .bl true := q
        subst q'
        obtain rfl : u = Value.bool true := r'
        refine ⟨rfl, OldK.of_keep fun b o e => ?_, os, bare⟩
        cases q : H b with
        | none => exact un.keep b o e q (by intro z; exact absurd (show b ∈ ([] : List Addr) from z) (by simp)) (by simp)
        | some u =>
          rcases hO b with z | ⟨ob, xs, z⟩
          · rw [q] at z; cases z
          · have z2 := un.frzs b ob _ z
            obtain ⟨e1, _⟩ := hok b _ z
            obtain ⟨e2, _⟩ := hok' b _ z2
            rw [e] at e1; cases e1
            exact e2
  cases hk : K.lookup a with
  | some o =>
    -- the script is one of the module's own objects
    have e := KX a o hk
    rw [ha] at e
    cases e
    refine core (fun _ => none) (fun _ => .inl rfl) (.inr ⟨_, vs.toArray, _, hk, rfl, rfl, rfl, by rw [List.size_toArray, lenV]; exact hl, by simpa using rv⟩) (fun b u z => by have z' : (none : Option HO) = some u := z; cases z') (fun b z => absurd rfl z) fun z => absurd rfl z
  | none =>
    refine core (fun b => if b = a then some (.frz { cls := .type "list", data := .seq vs.toArray } (.lst (ns.map V.int))) else none) (fun b => ?_) (.inl (.inr ⟨{ cls := .type "list", data := .seq vs.toArray }, if_pos rfl⟩)) (fun b u z => ?_) (fun b z => ?_) fun _ => hk
    · by_cases hb : b = a
      · exact .inr ⟨_, _, if_pos hb⟩
      · exact .inl (if_neg hb)
    · by_cases hb : b = a
      · have z' := (if_pos hb).symm.trans z
        cases z'
        subst hb
        exact ⟨ha, by rw [List.length_map]; exact hl, vs, _, rv, ha⟩
      · have z' := (if_neg hb).symm.trans z
        cases z'
    · by_cases hb : b = a
      · exact hb
      · exact absurd (if_neg hb) z
end L2
namespace L2
open PySem PySem.Spec PyProof.Rows
abbrev KOf {K : PySem.W.Frag} {h : Heap} (_ : K.In h) : PySem.W.Frag := K
end L2
namespace L2
open PySem PySem.Spec PyProof.Rows
def defArgs (s : Stmt) : Arguments := match s with
  | .FunctionDef _ a _ _ _ _ _ _ _ _ => a
  | _ => { posonlyargs := [], args := [], vararg := none, kwonlyargs := [], kw_defaults := [], kwarg := none, defaults := [] }
def defBody (s : Stmt) : List Stmt := match s with
  | .FunctionDef _ _ b _ _ _ _ _ _ _ => b
  | _ => []
def defScope (s : Stmt) : Scope := match s with
  | .FunctionDef _ _ _ _ _ _ sc _ _ _ => sc
  | _ => { kind := .function, names := [], isGenerator := false, isCoroutine := false }
abbrev CX0 : CXT := fun _ _ _ _ _ _ => False
abbrev E0 : XK := fun _ _ _ => False
theorem pass0 {X : Cx} : Passes CX0 X E0 := fun _ _ _ _ _ _ _ h => h.elim
structure Fun (K : PySem.W.Frag) (x qual : Str) (st : Stmt) (f : Addr) (fd : FuncData) : Prop where
  ex : ∃ (oc : Value) (od : Option Addr) (kV doc pm : Value) (an : Option Addr) (cdv ct : Value) (osl : Array (Option Value)),
    fd = PySem.W.fnOf x qual (defArgs st) (defBody st) (defScope st) .none kV doc pm an cdv ct ∧ K.lookup f = some ⟨oc, od, .func fd, osl⟩ ∧ PySem.W.codeIn K cdv qual = true
  kp : PySem.W.keepIn K (.ref f) = true
section
variable {P : Program} {w : World} {K : PySem.W.Frag} {mg : Str → Option Value} {base : Heap}
theorem Fun.ok {x qual : Str} {st : Stmt} {f : Addr} {fd : FuncData} {N ps : List Str} {k : Nat} {sp : Sp} (F : Fun K x qual st f fd) (S : FnScope N ps (defScope st)) (len : ∀ vs H Q E, sp vs H Q E → vs.length = ps.length)
    (hbody : ∀ (cdv : Value) (A : Around) (outer : List Env) (s : Shared) (H : Hp) (vs : List V) (Q : VK) (E : XK), Room k (A.deeper (envOfC qual (defScope st) s.heap.objs.size f cdv)) → sp vs H Q E →
      ∃ t, PSs (cxOf CX0 P w K mg base N qual (defScope st) f cdv A outer s H E).nox (defBody st) t ∧ t { nx := fun _ H' => Q .non H', rt := Q } (start N vs) H) : FnOk P w K mg base CX0 (k + 1) f fd ps sp := by
  obtain ⟨oc, od, kV, doc, pm, an, cdv, ct, osl, rfl, lk, hcd⟩ := F.ex
  refine fn_of lk hcd S len fun A outer s H vs Q E hr hsp => ?_
  obtain ⟨t, h, q⟩ := hbody cdv A outer s H vs Q E hr hsp
  exact ⟨t, h.nox, q⟩
theorem Fun.binds {x qual : Str} {st : Stmt} {f : Addr} {fd : FuncData} {ps : List Str} (F : Fun K x qual st f fd)
    (h : ∀ (kV doc pm : Value) (an : Option Addr) (cdv ct : Value) (us : List Value), us.length = ps.length → bindArgs (PySem.W.fnOf x qual (defArgs st) (defBody st) (defScope st) .none kV doc pm an cdv ct) ⟨us, []⟩ = pure (ps.zip us)) : Binds K fd ps [] := by
  obtain ⟨oc, od, kV, doc, pm, an, cdv, ct, osl, rfl, lk, hcd⟩ := F.ex
  exact .all (h kV doc pm an cdv ct)
theorem fun_mk {x qual : Str} {st : Stmt} {f : Addr} {oc : Value} {od an : Option Addr} {osl : Array (Option Value)} {kV doc pm cdv ct : Value} (l : K.lookup f = some ⟨oc, od, .func (PySem.W.fnOf x qual (defArgs st) (defBody st) (defScope st) .none kV doc pm an cdv ct), osl⟩)
    (c : PySem.W.codeIn K cdv qual = true) (k : PySem.W.keepIn K (.ref f) = true) : Fun K x qual st f (PySem.W.fnOf x qual (defArgs st) (defBody st) (defScope st) .none kV doc pm an cdv ct) := ⟨⟨oc, od, kV, doc, pm, an, cdv, ct, osl, rfl, l, c⟩, k⟩
end
theorem hu_of {A : Around} {k : Nat} (hr : Room k A) : A.units + 1 < cLine := Nat.lt_of_le_of_lt (Nat.add_le_add_left (by decide : 1 ≤ 64) _) hr.units
section
variable {X : Cx}
end
theorem iteF {A B : Prop} (h : B) : if false = true then A else B := by
  rw [if_neg Bool.false_ne_true]
  exact h
theorem iteT {A B : Prop} (h : A) : if true = true then A else B := by
  rw [if_pos rfl]
  exact h
def Same (H H' : Hp) : Prop := ∀ b o, H b = some o → H' b = some o
theorem Same.refl (H : Hp) : Same H H := fun _ _ h => h
theorem Same.trans {H H1 H2 : Hp} (a : Same H H1) (b : Same H1 H2) : Same H H2 := fun c o h => b c o (a c o h)
theorem Same.free {H H' : Hp} (e : Same H H') {l : Addr} (h : H' l = Option.none) : H l = Option.none := by
  cases q : H l with
  | none => rfl
  | some o =>
    rw [e l o q] at h
    cases h
theorem Same.seq {K : PySem.W.Frag} {H H' : Hp} {a : Addr} {xs : List V} (e : Same H H') (h : SqL K H a xs) : SqL K H' a xs := by
  rcases h with (h | ⟨o, h⟩) | h
  · exact .inl (.inl (e _ _ h))
  · exact .inl (.inr ⟨o, e _ _ h⟩)
  · exact .inr h
end L2
namespace L2
open PySem PySem.Spec PyProof.Rows
section
variable {X : Cx}
theorem call_lenD : CallR X (.builtin "len") (fun xs H Q => ∃ a kvs, xs = [V.ref a] ∧ H a = some (.dK kvs) ∧ Q (.int kvs.length) H) := by
  intro pins s σ H xs us Q I r h
  obtain ⟨a, kvs, rfl, ha, q⟩ := h
  obtain ⟨u, rfl, ru⟩ := vals1 r
  cases ru
  exact d_len I (.inl ha) fun t s' I' => ⟨.int kvs.length, H, I', ⟨t, rfl⟩, q⟩
end
section
variable {κ : Type} [DecidableEq κ]
theorem nd_snoc : ∀ {l : List κ} {k : κ}, l.Nodup → ¬ k ∈ l → (l ++ [k]).Nodup
  | [], k, _, _ => by simp
  | a :: r, k, h, hk => by
    obtain ⟨h1, h2⟩ := List.nodup_cons.mp h
    show (a :: (r ++ [k])).Nodup
    refine List.nodup_cons.mpr ⟨fun m => ?_, nd_snoc h2 fun m => hk (List.mem_cons.mpr (Or.inr m))⟩
    rcases List.mem_append.mp m with q | q
    · exact h1 q
    · exact hk (List.mem_cons.mpr (Or.inl (List.mem_singleton.mp q).symm))
end
end L2

set_option Elab.async false
set_option linter.all false
set_option maxRecDepth 100000
set_option maxHeartbeats 4000000
namespace L2
open PySem PySem.Spec PyProof.Rows
section
variable {X : Cx}
def cxComp (X : Cx) (scope : Scope) (cl : List (Str × Addr)) (C : Addr) (N' : List Str) (s : Shared) (H : Hp) (ex : List Addr) : Cx :=
  { X with N := N', s₀ := s, H₀ := H, env := compEnvC scope cl C X.env, outer := X.stack, stack := X.stack, ex := ex, fn := fun _ => false, pn := [], xe := fun _ _ => False }
def PF (X : Cx) (ifs : List Expr) (t : TT) : Prop :=
  ∀ (pins : List (Addr × Obj)) (s : Shared) (σ : St) (H : Hp) (Q : Bool → Hp → Prop), Inv X pins σ H s → t σ H Q →
    wpAny (model X.prog X.w) X.A (forIn ifs true fun c r => if r = true then do let ok ← isTrue c X.env (eval c X.env); pure (ForInStep.yield ok) else pure (ForInStep.yield r)) (TP X pins σ Q) X.xe s
def tYes : TT := fun _ H Q => Q true H
theorem pf_nil : PF X [] tYes := by
  intro pins s σ H Q I h
  exact wpAny_pure ⟨H, I, h⟩
theorem pf_one {c : Expr} {t : TT} (hc : PT X c t) : PF X [c] t := by
  intro pins s σ H Q I h
  show wpAny _ _ (forIn [c] true fun c r => _) _ _ s
  rw [List.forIn_cons]
  simp only [if_true, List.forIn_nil]
  refine wpAny_bind (wpAny_bind (wpAny_mono (hc pins s σ H Q I h) (fun b s1 h1 => ?_) fun _ _ e => e))
  exact wpAny_pure (wpAny_pure h1)
theorem compLoop_any {prog : Program} {w : World} {A : Around} {R : Result → Shared → Prop} {s : Shared} {elt target iter : Expr} {ifs : List Expr} {scope : Scope} {pos : Pos} {it acc : Value} {env : Env} (I : Nat → Shared → Prop)
    (turn : ∀ n s, I n s → wpAny (model prog w) A (pyNext it) (fun r s₁ => match r with
      | none => R (.ok .next) s₁
      | some v => wpAny (model prog w) A (letOwnedTupleGo target it v) (fun _ s₁' => wpAny (model prog w) A (assign target env v) (fun _ s₂ =>
          wpAny (model prog w) A (forIn ifs true fun c r => if r = true then do let ok ← isTrue c env (eval c env); pure (ForInStep.yield ok) else pure (ForInStep.yield r)) (fun ok s₃ =>
            if ok = true then wpAny (model prog w) A (eval elt env) (fun x s₄ =>
              wpAny (model prog w) A (call (.builtin "list.append") [acc, x]) (fun _ s₅ => ∃ m, m < n ∧ I m s₅) (fun _ _ => False) s₄) (fun _ _ => False) s₃
            else ∃ m, m < n ∧ I m s₃) (fun _ _ => False) s₂) (fun _ _ => False) s₁') (fun _ _ => False) s₁) (fun _ _ => False) s)
    (n : Nat) (h : I n s) :
    codeAny (model prog w) A (.compLoop (.ListComp elt [⟨target, iter, ifs, 0⟩] scope pos) 0 it acc env) R s := by
  have no : ∀ {α : Type} {t : Sem α} {Q : α → Shared → Prop} {E : Value → Shared → Prop} {s : Shared}, wpAny (model prog w) A t Q (fun _ _ => False) s → wpAny (model prog w) A t Q E s := fun h => wpAny_mono h (fun _ _ q => q) fun _ _ f => f.elim
  refine codeAny_loop rfl I (fun n s hI => ?_) n h
  show wpAny _ A ((compTurn (.ListComp elt [⟨target, iter, ifs, 0⟩] scope pos) 0 it acc env).onRaise (fun x => do noteFrame x env; theTreesLotGoes x)) _ _ s
  refine wpAny_noted ?_
  rw [compTurn_list]
  refine wpAny_bind (wpAny_standAt (wpAny_bind (wpAny_mono (no (turn n s hI)) (fun r s₁ h₁ => ?_) fun _ _ h' => h')))
  cases r with
  | none => exact wpAny_pure h₁
  | some v =>
    refine wpAny_bind (wpAny_mono (no h₁) (fun _ s₁' h₁' => ?_) fun _ _ h' => h')
    refine wpAny_bind (wpAny_mono (no h₁') (fun _ s₂ h₂ => wpAny_bind (wpAny_mono (no h₂) (fun ok s₃ h₃ => ?_) fun _ _ h' => h')) fun _ _ h' => h')
    cases ok with
    | false => exact wpAny_pure ⟨rfl, h₃⟩
    | true =>
      exact wpAny_bind (wpAny_bind (wpAny_mono (no h₃) (fun x s₄ h₄ => wpAny_bind (wpAny_mono (no h₄) (fun _ s₅ h₅ => wpAny_pure (wpAny_pure ⟨rfl, h₅⟩)) fun _ _ h' => h')) fun _ _ h' => h'))
def tComp (wi : TI) (g : TG) (tc : TT) (te : TE) (z : St → St) : TE := fun σ H Q => wi σ H fun J H1 =>
  ∃ W : Nat → Nat → List V → St → Hp → Prop, (∃ m, W 0 m [] (z σ) H1) ∧ ∀ i m ys σ' H', W i m ys σ' H' →
    ys.length ≤ sizeLine ∧ ((J.stop i H' ∧ ∀ p, H' p = none → Q (.ref p) (upd H' p (.lst ys))) ∨
    (J.go i H' ∧ ∀ x H2, J.yld i H' x H2 → g x σ' H2 fun σ2 H3 => tc σ2 H3 fun b H4 =>
      if b = true then te σ2 H4 fun v H5 => ∃ m', m' < m ∧ W (i + 1) m' (ys ++ [v]) σ2 H5 else ∃ m', m' < m ∧ W (i + 1) m' ys σ2 H4))
structure CompScope (X : Cx) (scope : Scope) (cl : List (Str × Addr)) (own fr : List Str) (ix : List Nat) : Prop where
  clos : closureFor scope X.env = pure cl
  cells : ∀ x c, cl.lookup x = some c → X.env.cells.lookup x = some c
  kind : scope.kind = .function
  ncell : ∀ y ∈ scope.names, y.2 ≠ .cell
  names : ∀ y ∈ scope.names, y.2 = .local → scope.names.lookup y.1 = some .local
  has : ∀ x, scope.names.lookup x = some .free → ∃ c, cl.lookup x = some c
  frees : ∀ x ∈ fr, scope.names.lookup x = some .free
  len : fr.length = ix.length
  at_ : ∀ (k : Nat) (i : Nat) (x : Str), ix[k]? = some i → fr[k]? = some x → X.N[i]? = some x ∧ X.env.kindOf x = some .cell
theorem relabel_lookup {env : Env} : ∀ {names : List (Str × NameKind)} {x : Str} {k : NameKind},
    (names.map fun (n, k) => if (k == NameKind.free && env.scope.kind == .function && env.kindOf n == some .cell) then (n, NameKind.cell) else (n, k)).lookup x = some k →
    ∃ k', names.lookup x = some k' ∧ (k = k' ∨ (k' = .free ∧ k = .cell))
  | [], _, _, h => by simp at h
  | (n, k) :: r, x, kk, h => by
    have ih := @relabel_lookup env r x kk
    replace h : List.lookup x ((if (k == NameKind.free && env.scope.kind == .function && env.kindOf n == some .cell) = true then (n, NameKind.cell) else (n, k)) :: _) = some kk := h
    by_cases hc : (k == NameKind.free && env.scope.kind == .function && env.kindOf n == some .cell) = true
    · rw [if_pos hc] at h
      cases hx : x == n with
      | true =>
        simp only [List.lookup_cons, hx, Option.some.injEq] at h ⊢
        have hk : k = .free := by
          simp only [Bool.and_eq_true] at hc
          exact eq_of_beq hc.1.1
        exact ⟨k, rfl, .inr ⟨hk, h.symm⟩⟩
      | false =>
        simp only [List.lookup_cons, hx] at h ⊢
        exact ih h
    · rw [if_neg hc] at h
      cases hx : x == n with
      | true =>
        simp only [List.lookup_cons, hx, Option.some.injEq] at h ⊢
        exact ⟨k, rfl, .inl h.symm⟩
      | false =>
        simp only [List.lookup_cons, hx] at h ⊢
        exact ih h
theorem relabel_free {env : Env} (hf : env.scope.kind = .function) : ∀ {names : List (Str × NameKind)} {x : Str}, names.lookup x = some .free → env.kindOf x = some .cell →
    (names.map fun (n, k) => if (k == NameKind.free && env.scope.kind == .function && env.kindOf n == some .cell) then (n, NameKind.cell) else (n, k)).lookup x = some .cell
  | [], _, h, _ => by simp at h
  | (n, k) :: r, x, h, hk => by
    have ih := @relabel_free env hf r x
    show List.lookup x ((if (k == NameKind.free && env.scope.kind == .function && env.kindOf n == some .cell) = true then (n, NameKind.cell) else (n, k)) :: _) = _
    cases hx : x == n with
    | true =>
      simp only [List.lookup_cons, hx, Option.some.injEq] at h
      have e : x = n := eq_of_beq hx
      subst e
      subst h
      rw [if_pos (by rw [hf, hk]; rfl)]
      simp [List.lookup_cons]
    | false =>
      simp only [List.lookup_cons, hx] at h
      split
      · simp only [List.lookup_cons, hx]; exact ih h hk
      · simp only [List.lookup_cons, hx]; exact ih h hk
def zComp (own : List Str) (ix : List Nat) (σ : St) : St := List.replicate own.length none ++ ix.map fun i => (σ[i]?).join
structure Off (X : Cx) (pins : List (Addr × Obj)) (H : Hp) (s : Shared) (C : Addr) : Prop where
  ns : ∃ m, s.heap.Ns C m
  free : H C = none
  ne : C ≠ X.env.locals
  young : X.s₀.heap.objs.size ≤ C
  cell : ∀ x c, X.env.cells.lookup x = some c → c ≠ C
  pin : ∀ p ∈ X.pn ++ pins, p.1 ≠ C
theorem comp_core {elt target iter : Expr} {ifs : List Expr} {scope : Scope} {pos : Pos} {cl : List (Str × Addr)} {own fr : List Str} {ix : List Nat} {wi : TI} {g : TG} {tc : TT} {te : TE}
    {use : Option (Value → Sem Unit)} {Qf : Value → Shared → Prop} {pins : List (Addr × Obj)} {s : Shared} {σ : St} {H : Hp} {Q : VK}
    (hc : X.calm = true) (S : CompScope X scope cl own fr ix) (hi : PI X target iter wi)
    (hb : ∀ (C : Addr) (s : Shared) (H : Hp) (ex : List Addr), PG (cxComp X scope cl C (own ++ fr) s H ex) target g ∧ PF (cxComp X scope cl C (own ++ fr) s H ex) ifs tc ∧ PE (cxComp X scope cl C (own ++ fr) s H ex) elt te)
    (hs : ∀ x, foldedSetIterable iter X.env x = pure x) (I : Inv X pins σ H s) (h : tComp wi g tc te (zComp own ix) σ H Q)
    (hfin : ∀ (D C : Addr) (H6 : Hp) (s6 : Shared), Inv X pins σ H6 s6 → Off X pins H6 s6 C → Q (.ref D) H6 → compPost (model X.prog X.w) X.A X.xe use Qf (.ref D) C (.ok .next) s6) :
    wpAny (model X.prog X.w) X.A (comprehension (.ListComp elt [⟨target, iter, ifs, 0⟩] scope pos) scope X.env (firstIterPos [⟨target, iter, ifs, 0⟩] pos) (newList []) false (eval iter X.env) use) Qf X.xe s := by
  refine wpAny_comprehension_free (use := use) rfl hs S.clos S.kind S.names ?_
  refine thn (hi pins s σ H _ I h) fun v s1 h1 => thn h1 fun itv s2 h2 => ?_
  obtain ⟨it, fp, tn, J, H2, rfl, I2, T, st2, f2, W, ⟨m0, w0⟩, turn⟩ := h2
  refine wpAny_newObj_type (wpAny_newFunctionEnv S.ncell (by intro y hy; simp at hy) (fun h₁ hns₁ hsb₁ => ?_) S.kind)
  dsimp only at hns₁ hsb₁ ⊢
  generalize hH3 : s2.heap.push { cls := .type "list", dict := none, data := .seq ([] : List Value).toArray } = h3 at hns₁ hsb₁ ⊢
  have hC : h3.objs.size = s2.heap.objs.size + 1 := by rw [← hH3, Heap.size_push]
  have to3 : ∀ b o, s2.heap.get? b = some o → h3.get? b = some o := fun b o e => by rw [← hH3]; exact Heap.get?_push_of_some _ e
  have getD3 : h3.get? s2.heap.objs.size = some { cls := .type "list", data := .seq ([] : List Value).toArray } := by rw [← hH3]; exact Heap.get?_push_size _ rfl
  have to1 : ∀ b o, h3.get? b = some o → h₁.get? b = some o := fun b o e => hsb₁.extBut b o (Nat.ne_of_lt (Heap.lt_size e)) (Heap.get?_push_of_some _ e)
  have frD : ∀ {b : Addr}, b ∈ fp → b ≠ s2.heap.objs.size := fun {b} hb z => by
    obtain ⟨o, e, _⟩ := T.obj 0 _ st2 b hb
    exact absurd (Heap.lt_size e) (by rw [z]; exact Nat.lt_irrefl _)
  have frC : ∀ {b : Addr}, b ∈ fp → b ≠ h3.objs.size := fun {b} hb z => by
    obtain ⟨o, e, _⟩ := T.obj 0 _ st2 b hb
    exact absurd (Heap.lt_size e) (by rw [z, hC]; exact Nat.not_lt.mpr (Nat.le_succ _))
  have HD2 : H2 s2.heap.objs.size = none := I2.hok.fresh (Nat.le_refl _)
  -- the block's context
  let X' : Cx := cxComp X scope cl h3.objs.size (own ++ fr) { s2 with heap := h3 } H2 (s2.heap.objs.size :: fp)
  have ok' : X'.Ok := by
    refine ⟨I2.ok.mod, S.kind, I2.ok.glob, I2.ok.blt, Nat.le_refl _, fun x y c e1 e2 => I2.ok.inj x y c (S.cells x c e1) (S.cells y c e2), fun x hx => ?_, fun x c z => ?_, I2.ok.hd, I2.ok.frames, .inl rfl, fun b hb => ?_, fun b o e => ?_, ?_, fun b o e hb => ?_, fun b hb z => ?_, ?_, I2.stkFree⟩
    · have key : scope.names.lookup x = some .free := by
        have hx : (relabel scope X.env).names.lookup x = some .cell ∨ (relabel scope X.env).names.lookup x = some .free := hx
        rcases hx with hx | hx
        · obtain ⟨k', e, z⟩ := relabel_lookup hx
          rcases z with z | z
          · subst z; exact absurd rfl (S.ncell _ (PySem.mem_of_lookup e))
          · rw [e, z.1]
        · obtain ⟨k', e, z⟩ := relabel_lookup hx
          rcases z with z | z
          · subst z; exact e
          · cases z.2
      exact S.has x key
    · cases z
    · rcases List.mem_cons.mp hb with rfl | hb
      · refine ⟨by rw [show X'.env.locals = h3.objs.size from rfl, hC]; exact Nat.ne_of_lt (Nat.lt_succ_self _), fun x c e z => ?_⟩
        obtain ⟨v', q⟩ := I2.cell x c (S.cells x c e)
        exact absurd q.lt (by rw [z]; exact Nat.lt_irrefl _)
      · exact ⟨frC hb, fun x c e => (f2 b hb).2.2.2.2.1 x c (S.cells x c e)⟩
    · obtain ⟨e1, e2⟩ := I2.bs b o e
      exact ⟨to3 b o e1, e2⟩
    · show X.base.objs.size ≤ h3.objs.size
      have := I2.ok.bsz; have := I2.sz
      omega
    · rcases List.mem_cons.mp hb with rfl | hb
      · exact absurd (Heap.lt_size (I2.bs _ o e).1) (Nat.lt_irrefl _)
      · rcases (f2 b hb).2.2.2.1 with z | z
        · exact I2.ok.noex b o e z
        · exact absurd (Nat.lt_of_lt_of_le (Nat.lt_of_lt_of_le (Heap.lt_size e) I2.ok.bsz) z) (Nat.lt_irrefl _)
    · replace z : b ∈ frs X.stack := z
      rcases List.mem_cons.mp hb with rfl | hb
      · obtain ⟨_, o, ho, _⟩ := I2.stack.mem z
        exact absurd (Heap.lt_size ho) (Nat.lt_irrefl _)
      · rcases List.mem_cons.mp (I2.stkSub b z) with q | q
        · exact (f2 b hb).2.1 q
        · exact (f2 b hb).2.2.1 q
    · exact I2.stack.of_keeps fun b o e _ => ⟨o, to3 b o e, rfl⟩
  have I4 : Inv X' [] (zComp own ix σ) H2 { s2 with heap := h₁, toks := s2.toks + ([] : List (Str × Value)).length } := by
    refine ⟨ok', rfl, I2.bare, Un.kept to1, ⟨_, hns₁, fun i x v e1 e2 e3 => ?_⟩, fun x c e => ?_, I2.hok.fresh (by show s2.heap.objs.size ≤ h3.objs.size; rw [hC]; exact Nat.le_succ _), fun x c e => I2.freeC x c (S.cells x c e), fun p hp => absurd (show p ∈ ([] : List (Addr × Obj)) from hp) (by simp), I2.hok.kept fun b o e => to1 b o (to3 b o e), ?_⟩
    · replace e1 : (own ++ fr)[i]? = some x := e1
      unfold zComp at e2
      by_cases hlt : i < own.length
      · rw [List.getElem?_append_left (by simpa using hlt), List.getElem?_replicate] at e2
        split at e2 <;> cases e2
      · rw [List.getElem?_append_right (by simpa using hlt)] at e1 e2
        rw [List.length_replicate, List.getElem?_map] at e2
        cases ek : ix[i - own.length]? with
        | none => rw [ek] at e2; cases e2
        | some j =>
          rw [ek] at e2
          obtain ⟨n1, n2⟩ := S.at_ _ j x ek e1
          have e2' : σ[j]? = some (some v) := by
            have q : (σ[j]?).join = some v := Option.some.inj e2
            cases es : σ[j]? with
            | none => rw [es] at q; cases q
            | some o => rw [es] at q; exact congrArg some q
          obtain ⟨m, hn, hl⟩ := I2.loc
          obtain ⟨u, r, l⟩ := hl j x v n1 e2' (.inr (.inl n2))
          refine ⟨u, r, ?_⟩
          have hfr : scope.names.lookup x = some .free := S.frees x (List.mem_of_getElem? e1)
          rcases l with ⟨k, _⟩ | ⟨_, c, hcl, z⟩
          · rw [n2] at k; cases k
          · obtain ⟨c', hc'⟩ := S.has x hfr
            have q := S.cells x c' hc'
            rw [hcl] at q
            cases q
            obtain ⟨oc, ho, hd⟩ := z
            exact .inr ⟨.inl (relabel_free I2.ok.kind hfr n2), c, hc', oc, to1 _ _ (to3 _ _ ho), hd⟩
    · obtain ⟨v', oc, ho, hd⟩ := I2.cell x c (S.cells x c e)
      exact ⟨v', oc, to1 _ _ (to3 _ _ ho), hd⟩
    · show (zComp own ix σ).length = (own ++ fr).length
      unfold zComp
      rw [List.length_append, List.length_append, List.length_replicate, List.length_map, S.len]
  obtain ⟨hg, hf, he⟩ := hb h3.objs.size { s2 with heap := h3 } H2 (s2.heap.objs.size :: fp)
  have hg : PG X' target g := hg
  have hf : PF X' ifs tc := hf
  have he : PE X' elt te := he
  have locX : X'.env.locals = h3.objs.size := rfl
  -- D's place
  have Dne : s2.heap.objs.size ≠ X'.env.locals := by rw [locX, hC]; exact Nat.ne_of_lt (Nat.lt_succ_self _)
  have Dfs : s2.heap.objs.size ∉ X'.fs := ok'.exfs _ (List.mem_cons_self ..)
  have Dcl : ∀ x c, X'.env.cells.lookup x = some c → c ≠ s2.heap.objs.size := fun x c e => (ok'.exf _ (List.mem_cons_self ..)).2 x c e
  have fpX : ∀ {pl : List (Addr × Obj)} {H' : Hp}, (∀ p ∈ pl, p.1 = s2.heap.objs.size) → (∀ b ∈ fp, H' b = none) → ∀ b ∈ fp, FpOk X' pl H' b := fun hp hn b hb =>
    ⟨hn b hb, frC hb, ok'.exfs b (List.mem_cons_of_mem _ hb), .inl (List.mem_cons_of_mem _ hb), (ok'.exf b (List.mem_cons_of_mem _ hb)).2, fun p q => by
      rw [hp p (by simpa [show X'.pn = [] from rfl] using q)]; exact Ne.symm (frD hb)⟩
  have pinD : ∀ {σ' : St} {H' : Hp} {s' : Shared} {o : Obj}, Inv X' [] σ' H' s' → s'.heap.get? s2.heap.objs.size = some o → H' s2.heap.objs.size = none → (∀ v, o.data ≠ .cell v) → Inv X' [(s2.heap.objs.size, o)] σ' H' s' := fun I e n d =>
    I.pins_of fun p hp => by
      obtain rfl := List.mem_singleton.mp hp
      exact ⟨e, n, Dne, Dfs, d⟩
  have loop : codeAny (model X.prog X.w) X.A (.compLoop (.ListComp elt [⟨target, iter, ifs, 0⟩] scope pos) 0 (.ref it) (.ref s2.heap.objs.size) X'.env)
      (compPost (model X.prog X.w) X.A X.xe use Qf (.ref s2.heap.objs.size) h3.objs.size) { s2 with heap := h₁, toks := s2.toks + ([] : List (Str × Value)).length } := by
    refine compLoop_any (fun n s' => ∃ i ys its k σ' H', Inv X' [] σ' H' s' ∧ tn i s'.heap ∧ (∀ b ∈ fp, H' b = none) ∧ H' s2.heap.objs.size = none ∧ Vals ys its ∧ s'.heap.get? s2.heap.objs.size = some { cls := .type "list", data := .seq its.toArray k } ∧ W i n ys σ' H')
      ?_ m0 ⟨0, [], [], 0, _, H2, I4, T.keep 0 _ _ st2 fun b _ o e => to1 b o (to3 b o e), fun b hb' => (f2 b hb').1, HD2, .nil, to1 _ _ getD3, w0⟩
    rintro n s5 ⟨i, ys, its, k, σ5, H5, I5, st5, fr5, hD5, vs5, get5, w5⟩
    obtain ⟨hlen, alt⟩ := turn i n ys σ5 H5 w5
    have P5 := pinD I5 get5 hD5 (fun v z => by cases z)
    have okp : ∀ p ∈ [(s2.heap.objs.size, ({ cls := .type "list", data := .seq its.toArray k } : Obj))], p.1 = s2.heap.objs.size := fun p hp => by
      rw [List.mem_singleton.mp hp]
    rcases alt with ⟨stop, q⟩ | ⟨go, step⟩
    · refine thn (T.done X' rfl rfl rfl hc i _ s5 σ5 H5 _ P5 (fpX okp fr5) st5 stop) fun r s6 ⟨hr, I6⟩ => ?_
      subst hr
      obtain ⟨m6, hn6, _⟩ := I6.loc
      obtain ⟨get6, _, _, _, _⟩ := I6.pin (s2.heap.objs.size, ({ cls := .type "list", data := .seq its.toArray k } : Obj)) (List.mem_append_right _ (List.mem_singleton.mpr rfl))
      have toh : ∀ b o, b ≠ h3.objs.size → s6.heap.get? b = some o → s6.heap.get? b = some o := fun b o hb e => e
      have exn : ∀ {b : Addr} {o : Obj}, s2.heap.get? b = some o → b ∉ fp → b ∉ X'.ex := fun {b o} e hb z => by
        rcases List.mem_cons.mp z with z | z
        · exact absurd (Heap.lt_size e) (by rw [z]; exact Nat.lt_irrefl _)
        · exact hb z
      have neC : ∀ {b : Addr} {o : Obj}, s2.heap.get? b = some o → b ≠ h3.objs.size := fun {b o} e z => by
        have q1 := Heap.lt_size e
        rw [z, hC] at q1
        exact absurd q1 (Nat.not_lt.mpr (Nat.le_succ _))
      have neD : ∀ {b : Addr} {o : Obj}, s2.heap.get? b = some o → b ≠ s2.heap.objs.size := fun {b o} e => Nat.ne_of_lt (Heap.lt_size e)
      have neD' : ∀ {b : Addr} {o : HO}, H2 b = some o → b ≠ s2.heap.objs.size := fun {b o} e => ne_of_none e HD2
      have U : Un (frs X.stack) fp H2 (upd H5 s2.heap.objs.size (.lst ys)) s2.heap s6.heap := by
        refine ⟨fun b o e n hb hx => ?_, fun b o e n hb hx => ?_, fun b o e n hx => ?_, fun b o e hx => ?_, fun b xs e => ?_, fun b o u e => ?_, fun b ps e => ?_⟩
        · exact toh b o (neC e) (I6.base.keep b o (to3 b o e) n hb (exn e hx))
        · obtain ⟨sl, q1⟩ := I6.base.slot b o (to3 b o e) n hb (exn e hx)
          exact ⟨sl, toh b _ (neC e) q1⟩
        · rw [upd_ne (neD e)]
          exact I6.base.free b o (to3 b o e) n (exn e hx)
        · obtain ⟨o', q1⟩ := I6.base.there b o (to3 b o e) (exn e hx)
          exact ⟨o', toh b _ (neC e) q1⟩
        · rw [upd_ne (neD' e)]; exact I6.base.tups b xs e
        · rw [upd_ne (neD' e)]; exact I6.base.frzs b o u e
        · rw [upd_ne (neD' e)]; exact I6.base.tbls b ps e
      have HC : H5 h3.objs.size = none := I6.free
      have hok : HOk X.prog X.w (upd H5 s2.heap.objs.size (.lst ys)) s6.heap := fun b u e => by
        by_cases hbD : b = s2.heap.objs.size
        · subst hbD
          rw [upd_same] at e
          cases e
          exact ⟨hlen, its, k, vs5, toh _ _ (by rw [hC]; exact Nat.ne_of_lt (Nat.lt_succ_self _)) get6⟩
        · rw [upd_ne hbD] at e
          refine (I6.hok b u e).stay (fun c o hco q1 => toh c o (fun z => ?_) q1) (fun c q1 => by rw [upd_ne (ne_of_none q1 hD5)]; exact q1) fun c xs q1 => by rw [upd_ne (ne_of_none q1 hD5)]; exact q1
          rcases hco with hco | hco
          · rw [← hco, z, HC] at e; cases e
          · rw [z, HC] at hco; cases hco
      have fin := I2.call' (s' := s6) (ch := fp) I6.os U hok I6.bare fun b hb' => ⟨(f2 b hb').2.2.2.1, (f2 b hb').2.1, (f2 b hb').2.2.2.2.1, (f2 b hb').2.2.2.2.2⟩
      refine hfin _ h3.objs.size _ s6 fin ⟨⟨m6, hn6⟩, ?_, ?_, ?_, fun x c e z => ?_, fun p hp z => ?_⟩ (q _ hD5)
      · rw [upd_ne (by rw [hC]; exact Nat.ne_of_gt (Nat.lt_succ_self _))]; exact HC
      · intro z
        have := I2.lt
        rw [← z, hC] at this
        exact absurd this (Nat.not_lt.mpr (Nat.le_succ _))
      · rw [hC]; exact Nat.le_trans I2.sz (Nat.le_succ _)
      · obtain ⟨v', q1⟩ := I2.cell x c e
        have := q1.lt
        rw [z, hC] at this
        exact absurd this (Nat.not_lt.mpr (Nat.le_succ _))
      · have := Heap.lt_size (I2.pin p hp).1
        rw [z, hC] at this
        exact absurd this (Nat.not_lt.mpr (Nat.le_succ _))
    · refine thn (T.item X' rfl rfl rfl hc i _ s5 σ5 H5 _ P5 (fpX okp fr5) st5 go) fun r s6 ⟨u, hr, h6⟩ => ?_
      subst hr
      refine thn h6 fun _ s7 ⟨x, H7, I7, r7, y7, st7, fr7⟩ => ?_
      have I7' := I7.pinned (fpX okp fr7) (T.obj _ _ st7)
      refine thn (hg _ s7 σ5 H7 x u _ I7' r7 (step x H7 y7)) fun _ s8 ⟨σ8, H8, I8, q8⟩ => ?_
      refine thn (hf _ s8 σ8 H8 _ I8 q8) fun b s9 ⟨H9, I9, q9⟩ => ?_
      have out : ∀ {σ' : St} {H' : Hp} {s' : Shared}, Inv X' ([(s2.heap.objs.size, ({ cls := .type "list", data := .seq its.toArray k } : Obj))] ++ pinsAt fp s7.heap) σ' H' s' →
          tn (i + 1) s'.heap ∧ (∀ b ∈ fp, H' b = none) ∧ H' s2.heap.objs.size = none ∧ s'.heap.get? s2.heap.objs.size = some { cls := .type "list", data := .seq its.toArray k } := fun I' => by
        refine ⟨T.keep _ _ _ st7 fun b hb' o e => (I'.pin (b, o) (List.mem_append_right _ (List.mem_append_right _ (mem_pinsAt hb' e)))).1, fun b hb' => ?_, (I'.pin (s2.heap.objs.size, ({ cls := .type "list", data := .seq its.toArray k } : Obj)) (List.mem_append_right _ (List.mem_append_left _ (List.mem_singleton.mpr rfl)))).2.1, (I'.pin (s2.heap.objs.size, ({ cls := .type "list", data := .seq its.toArray k } : Obj)) (List.mem_append_right _ (List.mem_append_left _ (List.mem_singleton.mpr rfl)))).1⟩
        obtain ⟨o, e, d⟩ := T.obj _ _ st7 b hb'
        exact (I'.pin (b, o) (List.mem_append_right _ (List.mem_append_right _ (mem_pinsAt hb' e)))).2.1
      cases b with
      | false =>
        rw [if_neg Bool.false_ne_true] at q9 ⊢
        obtain ⟨m', hm, w'⟩ := q9
        obtain ⟨o1, o2, o3, o4⟩ := out I9
        exact ⟨m', hm, i + 1, ys, its, k, σ8, H9, I9.pins_of (fun _ z => nomatch z), o1, o2, o3, vs5, o4, w'⟩
      | true =>
        rw [if_pos rfl] at q9 ⊢
        refine thn (he _ s9 σ8 H9 _ I9 q9) fun uv s10 ⟨v10, H10, I10, r10, q10⟩ => ?_
        obtain ⟨m', hm, w'⟩ := q10
        obtain ⟨o1, o2, o3, o4⟩ := out I10
        refine wpAny_list_append_plain ⟨k, o4⟩ (fun h' hpl hsb => ?_) (by
          have := vs5.length
          rw [List.size_toArray, ← this]; exact hlen)
        obtain ⟨k', hk'⟩ := hpl
        have I11 : Inv X' (pinsAt fp s7.heap) σ8 H10 s10 := I10.pins_of fun p hp => I10.pin p (List.mem_append_right _ (List.mem_append_right _ hp))
        have I12 : Inv X' [] σ8 H10 { s10 with heap := h' } := (I10.pins_of (fun _ z => nomatch z) : Inv X' [] σ8 H10 s10).turned (t' := s10.toks) (fun b o hb' e => hsb.extBut b o hb' e) o3 Dne (.inl (List.mem_cons_self ..)) Dcl (fun p hp => absurd (show p ∈ ([] : List (Addr × Obj)) from hp) (by simp))
        refine ⟨m', hm, i + 1, ys ++ [v10], its ++ [uv], k', σ8, H10, I12, T.keep _ _ _ o1 fun b hb' o e => hsb.extBut b o (frD hb') e, o2, o3, vs5.append (.cons r10 .nil), ?_, w'⟩
        show h'.get? _ = _
        rw [hk']
        simp
  exact codeAny_compStart_list loop (T.self X.A 0 _ _ _ (T.keep 0 _ _ st2 fun b _ o e => to1 b o (to3 b o e)) loop)
theorem Off.gone {pins : List (Addr × Obj)} {σ : St} {H : Hp} {s : Shared} {C : Addr} {h' : Heap} (o : Off X pins H s C) (I : Inv X pins σ H s) (hsb : Heap.SameBut C s.heap h') : Inv X pins σ H { s with heap := h' } :=
  I.turned (t' := s.toks) (fun b u hb e => hsb.extBut b u hb e) o.free o.ne (.inr o.young) o.cell o.pin
theorem pe_comp {elt target iter : Expr} {ifs : List Expr} {scope : Scope} {pos : Pos} {cl : List (Str × Addr)} {own fr : List Str} {ix : List Nat} {wi : TI} {g : TG} {tc : TT} {te : TE}
    (hc : X.calm = true) (S : CompScope X scope cl own fr ix) (hi : PI X target iter wi)
    (hb : ∀ (C : Addr) (s : Shared) (H : Hp) (ex : List Addr), PG (cxComp X scope cl C (own ++ fr) s H ex) target g ∧ PF (cxComp X scope cl C (own ++ fr) s H ex) ifs tc ∧ PE (cxComp X scope cl C (own ++ fr) s H ex) elt te)
    (hs : ∀ x, foldedSetIterable iter X.env x = pure x := by intro _; rfl) :
    PE X (.ListComp elt [⟨target, iter, ifs, 0⟩] scope pos) (tComp wi g tc te (zComp own ix)) := by
  intro pins s σ H Q I h
  rw [eval_ListComp]
  refine comp_core (use := none) hc S hi hb hs I h fun D C H6 s6 I6 o6 q => ?_
  obtain ⟨m, hn⟩ := o6.ns
  exact ⟨m, hn, fun h' hsb => ⟨.ref D, H6, o6.gone I6 hsb, rfl, q⟩⟩
theorem ps_setcomp {i : Nat} {y : Str} {py spos : Pos} {elt target iter : Expr} {ifs : List Expr} {scope : Scope} {pos : Pos} {cl : List (Str × Addr)} {own fr : List Str} {ix : List Nat} {wi : TI} {g : TG} {tc : TT} {te : TE}
    (hsw : swapsWith (.ListComp elt [⟨target, iter, ifs, 0⟩] scope pos) (some (.Name y py)) spos.line X.env = pure true)
    (hN : X.N.Nodup) (hi' : X.N[i]? = some y) (hx : Loc X.env.scope y)
    (hc : X.calm = true) (S : CompScope X scope cl own fr ix) (hi : PI X target iter wi)
    (hb : ∀ (C : Addr) (s : Shared) (H : Hp) (ex : List Addr), PG (cxComp X scope cl C (own ++ fr) s H ex) target g ∧ PF (cxComp X scope cl C (own ++ fr) s H ex) ifs tc ∧ PE (cxComp X scope cl C (own ++ fr) s H ex) elt te)
    (hs : ∀ x, foldedSetIterable iter X.env x = pure x := by intro _; rfl)
    (hf : X.fn y = true ∨ X.env.scope.names.lookup y = some .local := by first | exact .inl rfl | exact .inr rfl | assumption) :
    PS X (.Assign [.Name y py] (.ListComp elt [⟨target, iter, ifs, 0⟩] scope pos) spos) (tAsg (tComp wi g tc te (zComp own ix)) (gName i)) := by
  intro pins s σ H D I h
  rw [exec_Assign_Name_used _ _ _ _ hsw]
  refine wpAny_bind (wpAny_standAt (wpAny_bind ?_))
  show wpAny _ _ (do let _ ← comprehension (.ListComp elt [⟨target, iter, ifs, 0⟩] scope pos) scope X.env _ (newList []) false (eval iter X.env) (some (assign (.Name y py) X.env))) _ _ s
  refine wpAny_bind (wpAny_mono (comp_core (use := some (assign (.Name y py) X.env)) (Qf := fun _ s' => SP X pins D .next s') hc S hi hb hs I h fun A C H6 s6 I6 o6 q => ?_) (fun _ s' hq => wpAny_pure (wpAny_pure hq)) fun _ _ e => e)
  show wpAny _ _ (assign (.Name y py) X.env (.ref A)) _ _ _
  refine wpAny_assign_Name (store_ok2 I6 hN hi' hx (v := .ref A) rfl (fun s7 I7 hw => ?_) hf)
  obtain ⟨c, hsb7, hcc⟩ := hw
  have neC : C ≠ c := by
    rcases hcc with rfl | hcc
    · exact o6.ne
    · exact Ne.symm (o6.cell y c hcc)
  obtain ⟨m, hn⟩ := o6.ns
  have o7 : Off X pins H6 s7 C := ⟨⟨m, hn.sameBut hsb7 neC⟩, o6.free, o6.ne, o6.young, o6.cell, o6.pin⟩
  exact ⟨m, hn.sameBut hsb7 neC, fun h' hsb => ⟨_, H6, o7.gone I7 hsb, q⟩⟩
end
end L2

set_option Elab.async false
set_option linter.all false
set_option maxRecDepth 100000
set_option maxHeartbeats 4000000
namespace Fc
open PySem PySem.Spec L2
open PyProof.Rows hiding St
section
variable {X : Cx}
def semE (X : Cx) (e : Expr) : TE := fun σ H Q => ∀ (pins : List (Addr × Obj)) (s : Shared), Inv X pins σ H s → wpAny (model X.prog X.w) X.A (eval e X.env) (EP X pins σ Q) X.xe s
def semT (X : Cx) (e : Expr) : TT := fun σ H Q => ∀ (pins : List (Addr × Obj)) (s : Shared), Inv X pins σ H s → wpAny (model X.prog X.w) X.A (isTrue e X.env (eval e X.env)) (TP X pins σ Q) X.xe s
def semW (X : Cx) (e : Expr) : TT := fun σ H Q => ∀ (whole : Sem Value) (pins : List (Addr × Obj)) (s : Shared), Inv X pins σ H s → wpAny (model X.prog X.w) X.A (isTrue e X.env whole) (TP X pins σ Q) X.xe s
def semG (X : Cx) (e : Expr) : TG := fun v σ H Q => ∀ (pins : List (Addr × Obj)) (s : Shared) (u : Value), Inv X pins σ H s → RelV v u → wpAny (model X.prog X.w) X.A (assign e X.env u) (fun _ s' => ∃ σ' H', Inv X pins σ' H' s' ∧ Q σ' H') X.xe s
def semS (X : Cx) (st : Stmt) : TS := fun D σ H => ∀ (pins : List (Addr × Obj)) (s : Shared), Inv X pins σ H s → wpAny (model X.prog X.w) X.A (exec st X.env) (SP X pins D) X.xe s
def semSs (X : Cx) (st : List Stmt) : TS := fun D σ H => ∀ (pins : List (Addr × Obj)) (s : Shared), Inv X pins σ H s → wpAny (model X.prog X.w) X.A (execs st X.env) (SP X pins D) X.xe s
def semA (X : Cx) (es : List Expr) : TA := fun σ H Q => ∀ (pos : Pos) (pins : List (Addr × Obj)) (s : Shared), Inv X pins σ H s → wpAny (model X.prog X.w) X.A (spliced (backTo pos (starEach es X.env))) (AP X pins σ Q) X.xe s
def semF (X : Cx) (ifs : List Expr) : TT := fun σ H Q => ∀ (pins : List (Addr × Obj)) (s : Shared), Inv X pins σ H s →
  wpAny (model X.prog X.w) X.A (forIn ifs true fun c r => if r = true then do let ok ← isTrue c X.env (eval c X.env); pure (ForInStep.yield ok) else pure (ForInStep.yield r)) (TP X pins σ Q) X.xe s
theorem peS {e : Expr} : PE X e (semE X e) := fun pins s _ _ _ I h => h pins s I
theorem ptS {e : Expr} : PT X e (semT X e) := fun pins s _ _ _ I h => h pins s I
theorem pwS {e : Expr} : PW X e (semW X e) := fun wh pins s _ _ _ I h => h wh pins s I
theorem pgS {e : Expr} : PG X e (semG X e) := fun pins s _ _ _ u _ I r h => h pins s u I r
theorem psS {e : Stmt} : PS X e (semS X e) := fun pins s _ _ _ I h => h pins s I
theorem pssS {e : List Stmt} : PSs X e (semSs X e) := fun pins s _ _ _ I h => h pins s I
theorem paS {e : List Expr} : PA X e (semA X e) := fun pos pins s _ _ _ I h => h pos pins s I
theorem eS {e : Expr} {t : TE} (h : PE X e t) {σ : St} {H : Hp} {Q : VK} (q : t σ H Q) : semE X e σ H Q := fun pins s I => h pins s σ H Q I q
theorem tS {e : Expr} {t : TT} (h : PT X e t) {σ : St} {H : Hp} {Q : Bool → Hp → Prop} (q : t σ H Q) : semT X e σ H Q := fun pins s I => h pins s σ H Q I q
theorem wS {e : Expr} {t : TT} (h : PW X e t) {σ : St} {H : Hp} {Q : Bool → Hp → Prop} (q : t σ H Q) : semW X e σ H Q := fun wh pins s I => h wh pins s σ H Q I q
theorem gS {e : Expr} {t : TG} (h : PG X e t) {v : V} {σ : St} {H : Hp} {Q : St → Hp → Prop} (q : t v σ H Q) : semG X e v σ H Q := fun pins s u I r => h pins s σ H v u Q I r q
theorem sS {e : Stmt} {t : TS} (h : PS X e t) {σ : St} {H : Hp} {D : Ends} (q : t D σ H) : semS X e D σ H := fun pins s I => h pins s σ H D I q
theorem ssS {e : List Stmt} {t : TS} (h : PSs X e t) {σ : St} {H : Hp} {D : Ends} (q : t D σ H) : semSs X e D σ H := fun pins s I => h pins s σ H D I q
theorem aS {e : List Expr} {t : TA} (h : PA X e t) {σ : St} {H : Hp} {Q : List V → Hp → Prop} (q : t σ H Q) : semA X e σ H Q := fun pos pins s I => h pos pins s σ H Q I q
theorem fS {e : List Expr} {t : TT} (h : PF X e t) {σ : St} {H : Hp} {Q : Bool → Hp → Prop} (q : t σ H Q) : semF X e σ H Q := fun pins s I => h pins s σ H Q I q
end
theorem Same.fresh {H : Hp} {p : Addr} (h : H p = none) (o : HO) : Same H (upd H p o) := fun b u q => by rw [upd_ne (ne_of_none q h)]; exact q
structure Rep (α : Type) where
  R : PySem.W.Frag → Hp → V → α → Prop
  mono : ∀ {K : PySem.W.Frag} {H H' : Hp} {v : V} {x : α}, Same H H' → R K H v x → R K H' v x
def rInt : Rep Int := ⟨fun _ _ v x => v = .int x, fun _ h => h⟩
def rBool : Rep Bool := ⟨fun _ _ v x => v = .bl x, fun _ h => h⟩
theorem Paired.map {α β : Type} {F G : α → β → Prop} (f : ∀ a b, F a b → G a b) : ∀ {l : List α} {m : List β}, PySem.Paired F l m → PySem.Paired G l m
  | _, _, .nil => .nil
  | _, _, .cons h t => .cons (f _ _ h) (Paired.map f t)
def rList {α : Type} (r : Rep α) : Rep (List α) := ⟨fun K H v xs => ∃ a vs, v = .ref a ∧ H a = some (.lst vs) ∧ PySem.Paired (r.R K H) vs xs ∧ xs.length ≤ sizeLine,
  fun s ⟨a, vs, e, q, p, z⟩ => ⟨a, vs, e, s _ _ q, Paired.map (fun _ _ => r.mono s) p, z⟩⟩
def rScr : Rep (List Int) := ⟨fun K H v xs => ∃ a, v = .ref a ∧ SqL K H a (xs.map V.int) ∧ xs.length ≤ 63, fun s ⟨a, e, q, z⟩ => ⟨a, e, s.seq q, z⟩⟩
def rPair {α β : Type} (r : Rep α) (r' : Rep β) : Rep (α × β) := ⟨fun K H v x => ∃ a v1 v2, v = .ref a ∧ H a = some (.tup [v1, v2]) ∧ r.R K H v1 x.1 ∧ r'.R K H v2 x.2,
  fun s ⟨a, v1, v2, e, q, h1, h2⟩ => ⟨a, v1, v2, e, s _ _ q, r.mono s h1, r'.mono s h2⟩⟩
abbrev Row := Int × Int × Int × Int
def rRow : Rep Row := ⟨fun K H v x => ∃ a, v = .ref a ∧ H a = some (.tup [.int x.1, .int x.2.1, .int x.2.2.1, .int x.2.2.2]), fun s ⟨a, e, q⟩ => ⟨a, e, s _ _ q⟩⟩
abbrev Web := List Int × List Row
def rWeb : Rep Web := rPair (rList rInt) (rList rRow)
structure Ext (H R H' R' : Hp) : Prop where
  h : Same H H'
  r : Same R R'
  s : Same R' H'
  old : ∀ b, H b ≠ none → R' b = R b
theorem Ext.refl {H R : Hp} (s : Same R H) : Ext H R H R := ⟨Same.refl _, Same.refl _, s, fun _ _ => rfl⟩
theorem Same.some {H H' : Hp} (s : Same H H') {b : Addr} (h : H b ≠ none) : H' b ≠ none := by
  cases q : H b with
  | none => exact absurd q h
  | some o => rw [s b o q]; exact Option.some_ne_none o
theorem Ext.trans {H R H1 R1 H2 R2 : Hp} (a : Ext H R H1 R1) (b : Ext H1 R1 H2 R2) : Ext H R H2 R2 :=
  ⟨a.h.trans b.h, a.r.trans b.r, b.s, fun c hc => (b.old c (Same.some a.h hc)).trans (a.old c hc)⟩
theorem Ext.fresh {H R : Hp} (s : Same R H) {p : Addr} (h : H p = none) (o : HO) : Ext H R (upd H p o) (upd R p o) :=
  ⟨Same.fresh h o, Same.fresh (s.free h) o, fun b u q => by
    by_cases e : b = p
    · subst e; rw [upd_same] at q ⊢; exact q
    · rw [upd_ne e] at q ⊢; exact s b u q, fun b hb => upd_ne fun e => hb (e ▸ h)⟩
theorem Ext.freshM {H R : Hp} (s : Same R H) {p : Addr} (h : H p = none) (o : HO) : Ext H R (upd H p o) R :=
  ⟨Same.fresh h o, Same.refl _, s.trans (Same.fresh h o), fun _ _ => rfl⟩
structure Box : Type 1 where
  fp : List Addr
  R : PySem.W.Frag → Hp → Hp → V → Prop
  loc : ∀ {K : PySem.W.Frag} {H R0 H' R' : Hp} {v : V}, (∀ a ∈ fp, H' a = H a) → Same R0 R' → R K H R0 v → R K H' R' v
  has : ∀ {K : PySem.W.Frag} {H R0 : Hp} {v : V}, R K H R0 v → ∀ a ∈ fp, H a ≠ none
inductive Ent : Type 1
  | no
  | im {α : Type} (r : Rep α) (x : α)
  | mu {α : Type} (r : Rep α) (xs : List α)
  | di (kvs : List (Int × V))
  | ob (B : Box)
def dkOf (kvs : List (Int × V)) : List (Key × V) := kvs.map fun p => (Sum.inl p.1, p.2)
def Ent.ok (K : PySem.W.Frag) (H R : Hp) : Ent → Option V → Prop
  | .no, _ => True
  | .im r x, o => ∃ v, o = some v ∧ r.R K R v x
  | .mu r xs, o => ∃ a vs, o = some (.ref a) ∧ H a = some (.lst vs) ∧ R a = none ∧ PySem.Paired (r.R K R) vs xs
  | .di kvs, o => ∃ a, o = some (.ref a) ∧ H a = some (.dK (dkOf kvs)) ∧ R a = none
  | .ob B, o => (∃ v, o = some v ∧ B.R K H R v) ∧ ∀ a ∈ B.fp, R a = none
def Ent.own : Ent → Bool
  | .mu .. => true
  | .di .. => true
  | _ => false
def refOf : Option V → List Addr
  | some (.ref a) => [a]
  | _ => []
def Ent.fp : Ent → Option V → List Addr
  | .mu .., o => refOf o
  | .di .., o => refOf o
  | .ob B, _ => B.fp
  | _, _ => []
abbrev Ga := List Ent
structure EnvOk (K : PySem.W.Frag) (σ : St) (H0 R0 H R : Hp) (Γ : Ga) : Prop where
  ext : Ext H0 R0 H R
  ent : ∀ (i : Nat) (e : Ent), Γ[i]? = some e → e.ok K H R (σ[i]?).join
  nw : ∀ (i : Nat) (e : Ent) (a : Addr), Γ[i]? = some e → a ∈ e.fp (σ[i]?).join → H0 a = none
  ds : ∀ (i j : Nat) (e e' : Ent) (a : Addr), Γ[i]? = some e → Γ[j]? = some e' → a ∈ e.fp (σ[i]?).join → a ∈ e'.fp (σ[j]?).join → i = j
  len : Γ.length = σ.length
section
variable {K : PySem.W.Frag} {σ : St} {H0 R0 H R H' R' : Hp} {Γ : Ga} {α : Type} {r : Rep α}
theorem mem_refOf {o : Option V} {a : Addr} : a ∈ refOf o ↔ o = some (.ref a) := by
  unfold refOf
  split
  · rw [List.mem_singleton]; constructor
    · rintro rfl; rfl
    · intro e; cases e; rfl
  · rename_i h
    constructor
    · intro z; cases z
    · intro e; exact absurd e (h a)
theorem Ent.own_fp {e : Ent} (w : e.own = true) {o : Option V} {a : Addr} : a ∈ e.fp o ↔ o = some (.ref a) := by
  cases e with
  | no => cases w
  | im r x => cases w
  | mu r xs => exact mem_refOf
  | di kvs => exact mem_refOf
  | ob B => cases w
theorem EnvOk.new (E : EnvOk K σ H0 R0 H R Γ) (i : Nat) (e : Ent) (a : Addr) (h : Γ[i]? = some e) (w : e.own = true) (ha : (σ[i]?).join = some (.ref a)) : H0 a = none := E.nw i e a h ((Ent.own_fp w).mpr ha)
theorem Ent.fp_at {e : Ent} {o : Option V} (h : e.ok K H R o) {a : Addr} (ha : a ∈ e.fp o) : H a ≠ none ∧ R a = none := by
  cases e with
  | no => cases ha
  | im r x => cases ha
  | mu r xs =>
    obtain ⟨b, vs, e, q, n, _⟩ := h
    rw [Ent.fp, mem_refOf, e] at ha
    cases ha
    exact ⟨by rw [q]; exact Option.some_ne_none _, n⟩
  | di kvs =>
    obtain ⟨b, e, q, n⟩ := h
    rw [Ent.fp, mem_refOf, e] at ha
    cases ha
    exact ⟨by rw [q]; exact Option.some_ne_none _, n⟩
  | ob B => obtain ⟨⟨v, e, q⟩, n⟩ := h; exact ⟨B.has q a ha, n a ha⟩
theorem Ent.ok.loc {e : Ent} {o : Option V} (h : e.ok K H R o) (hH : ∀ a ∈ e.fp o, H' a = H a) (hR : Same R R') (hn : ∀ a ∈ e.fp o, R' a = none) : e.ok K H' R' o := by
  cases e with
  | no => trivial
  | im r y => obtain ⟨v, e, q⟩ := h; exact ⟨v, e, r.mono hR q⟩
  | mu r xs =>
    obtain ⟨a, vs, e, q, n, p⟩ := h
    have ha : a ∈ Ent.fp (.mu r xs) o := mem_refOf.mpr e
    exact ⟨a, vs, e, (hH a ha).trans q, hn a ha, Paired.map (fun _ _ => r.mono hR) p⟩
  | di kvs =>
    obtain ⟨a, e, q, n⟩ := h
    have ha : a ∈ Ent.fp (.di kvs) o := mem_refOf.mpr e
    exact ⟨a, e, (hH a ha).trans q, hn a ha⟩
  | ob B => obtain ⟨⟨v, e, q⟩, n⟩ := h; exact ⟨⟨v, e, B.loc hH hR q⟩, hn⟩
theorem Ent.ok.grow {e : Ent} {o : Option V} (h : e.ok K H R o) (x : Ext H R H' R') : e.ok K H' R' o := by
  refine h.loc (fun a ha => ?_) x.r (fun a ha => ?_)
  · cases q : H a with
    | none => exact absurd q (Ent.fp_at h ha).1
    | some u => exact x.h _ _ q
  · obtain ⟨h1, h2⟩ := Ent.fp_at h ha
    exact (x.old a h1).trans h2
theorem EnvOk.grow (E : EnvOk K σ H0 R0 H R Γ) (x : Ext H R H' R') : EnvOk K σ H0 R0 H' R' Γ :=
  ⟨E.ext.trans x, fun i e h => (E.ent i e h).grow x, E.nw, E.ds, E.len⟩
theorem EnvOk.sub (E : EnvOk K σ H0 R0 H R Γ) : Same R H := E.ext.s
def Off (a : Addr) (σ : St) (Γ : Ga) : Prop := ∀ (i : Nat) (e : Ent), Γ[i]? = some e → a ∉ e.fp (σ[i]?).join
theorem EnvOk.off (E : EnvOk K σ H0 R0 H R Γ) {a : Addr} (h : H a = none) : Off a σ Γ := fun i e q w => (Ent.fp_at (E.ent i e q) w).1 h
theorem set_at.{v} {β : Type v} {l : List β} {i : Nat} {y : β} {j : Nat} {e : β} (q : (l.set i y)[j]? = some e) : (j = i ∧ e = y ∧ i < l.length) ∨ (j ≠ i ∧ l[j]? = some e) := by
  by_cases hj : j = i
  · subst hj
    have hl : j < l.length := by
      have := List.getElem?_eq_some_iff.mp q
      simpa using this.1
    rw [List.getElem?_set_self hl] at q
    exact .inl ⟨rfl, (Option.some.inj q).symm, hl⟩
  · rw [List.getElem?_set_ne (Ne.symm hj)] at q
    exact .inr ⟨hj, q⟩
theorem EnvOk.setG (E : EnvOk K σ H0 R0 H R Γ) (i : Nat) {v : V} {en : Ent} (ho : en.ok K H R (some v)) (h0 : ∀ a ∈ en.fp (some v), H0 a = none) (hf : ∀ a ∈ en.fp (some v), ∀ (j : Nat) (e : Ent), j ≠ i → Γ[j]? = some e → a ∉ e.fp (σ[j]?).join) :
    EnvOk K (σ.set i (some v)) H0 R0 H R (Γ.set i en) := by
  have key : ∀ (j : Nat) (e : Ent), (Γ.set i en)[j]? = some e → (j = i ∧ e = en ∧ ((σ.set i (some v))[j]?).join = some v) ∨ (j ≠ i ∧ Γ[j]? = some e ∧ (σ.set i (some v))[j]? = σ[j]?) := fun j e q => by
    rcases set_at q with ⟨rfl, rfl, hl⟩ | ⟨hj, q⟩
    · exact .inl ⟨rfl, rfl, by rw [List.getElem?_set_self (by rw [← E.len]; exact hl)]; rfl⟩
    · exact .inr ⟨hj, q, List.getElem?_set_ne (Ne.symm hj)⟩
  refine ⟨E.ext, fun j e q => ?_, fun j e a q w => ?_, fun j k e e' a q q' w w' => ?_, by rw [List.length_set, List.length_set]; exact E.len⟩
  · rcases key j e q with ⟨_, rfl, q2⟩ | ⟨_, q1, q2⟩
    · rw [q2]; exact ho
    · rw [q2]; exact E.ent j e q1
  · rcases key j e q with ⟨_, rfl, q2⟩ | ⟨_, q1, q2⟩
    · rw [q2] at w; exact h0 a w
    · rw [q2] at w; exact E.nw j e a q1 w
  · rcases key j e q with ⟨hj, rfl, q2⟩ | ⟨hj, q1, q2⟩
    · rcases key k e' q' with ⟨hk, rfl, q2'⟩ | ⟨hk, q1', q2'⟩
      · rw [hj, hk]
      · rw [q2] at w; rw [q2'] at w'; exact absurd w' (hf a w k e' hk q1')
    · rcases key k e' q' with ⟨hk, rfl, q2'⟩ | ⟨hk, q1', q2'⟩
      · rw [q2] at w; rw [q2'] at w'; exact absurd w (hf a w' j e hj q1)
      · rw [q2] at w; rw [q2'] at w'; exact E.ds j k e e' a q1 q1' w w'
theorem EnvOk.set (E : EnvOk K σ H0 R0 H R Γ) (i : Nat) {v : V} {x : α} (h : r.R K R v x) : EnvOk K (σ.set i (some v)) H0 R0 H R (Γ.set i (.im r x)) :=
  E.setG i ⟨v, rfl, h⟩ (fun a w => by cases w) fun a w => by cases w
theorem EnvOk.setO (E : EnvOk K σ H0 R0 H R Γ) (i : Nat) {a : Addr} {u : HO} {en : Ent} (ho : en.ok K H R (some (.ref a))) (h0 : H0 a = none) (hf : ∀ (j : Nat) (e : Ent), j ≠ i → Γ[j]? = some e → a ∉ e.fp (σ[j]?).join) (hfp : en.fp (some (.ref a)) = [a] := by rfl) :
    EnvOk K (σ.set i (some (.ref a))) H0 R0 H R (Γ.set i en) :=
  E.setG i ho (fun b w => by rw [hfp, List.mem_singleton] at w; rw [w]; exact h0) fun b w => by rw [hfp, List.mem_singleton] at w; rw [w]; exact hf
theorem EnvOk.updG (E : EnvOk K σ H0 R0 H R Γ) {i : Nat} {a : Addr} {u : HO} {e0 en : Ent} (hi : Γ[i]? = some e0) (ha : a ∈ e0.fp (σ[i]?).join) (ho : en.ok K (L2.upd H a u) R (σ[i]?).join)
    (hsub : ∀ b ∈ en.fp (σ[i]?).join, b ∈ e0.fp (σ[i]?).join ∨ (H0 b = none ∧ Off b σ Γ)) : EnvOk K σ H0 R0 (L2.upd H a u) R (Γ.set i en) := by
  have h0 : H0 a = none := E.nw i e0 a hi ha
  have hR : R a = none := (Ent.fp_at (E.ent i e0 hi) ha).2
  refine ⟨⟨fun b o q => ?_, E.ext.r, fun b o q => ?_, E.ext.old⟩, fun j e q => ?_, fun j e b q w => ?_, fun j k e e' b q q' w w' => ?_, by rw [List.length_set]; exact E.len⟩
  · rw [upd_ne (ne_of_none q h0)]; exact E.ext.h b o q
  · rw [upd_ne (ne_of_none q hR)]; exact E.ext.s b o q
  · rcases set_at q with ⟨rfl, rfl, _⟩ | ⟨hj, q1⟩
    · exact ho
    · refine (E.ent j e q1).loc (fun b hb => upd_ne fun z => hj ?_) (Same.refl _) fun b hb => (Ent.fp_at (E.ent j e q1) hb).2
      rw [z] at hb
      exact E.ds j i e e0 a q1 hi hb ha
  · rcases set_at q with ⟨rfl, rfl, _⟩ | ⟨hj, q1⟩
    · rcases hsub b w with z | z
      · exact E.nw _ _ b hi z
      · exact z.1
    · exact E.nw j e b q1 w
  · rcases set_at q with ⟨rfl, rfl, _⟩ | ⟨hj, q1⟩
    · rcases set_at q' with ⟨rfl, rfl, _⟩ | ⟨hk, q1'⟩
      · rfl
      · rcases hsub b w with z | z
        · exact E.ds _ _ _ _ b hi q1' z w'
        · exact absurd w' (z.2 k e' q1')
    · rcases set_at q' with ⟨rfl, rfl, _⟩ | ⟨hk, q1'⟩
      · rcases hsub b w' with z | z
        · exact E.ds _ _ _ _ b q1 hi w z
        · exact absurd w (z.2 j e q1)
      · exact E.ds _ _ _ _ b q1 q1' w w'
theorem EnvOk.upd (E : EnvOk K σ H0 R0 H R Γ) {i : Nat} {a : Addr} {u : HO} {e0 en : Ent} (hi : Γ[i]? = some e0) (w0 : e0.own = true) (ha : (σ[i]?).join = some (.ref a)) (hR : R a = none) (ho : en.ok K (L2.upd H a u) R (some (.ref a))) (hfp : en.fp (some (.ref a)) = [a] := by rfl) :
    EnvOk K σ H0 R0 (L2.upd H a u) R (Γ.set i en) :=
  E.updG hi ((Ent.own_fp w0).mpr ha) (by rw [ha]; exact ho) fun b w => .inl (by rw [ha, hfp, List.mem_singleton] at w; rw [w]; exact (Ent.own_fp w0).mpr ha)
theorem EnvOk.still (E : EnvOk K σ H0 R0 H R Γ) {a : Addr} {u : HO} (ha : H a = some u) (hR : R a = none) (h0 : H0 a = none) (off : Off a σ Γ) : EnvOk K σ H0 R0 H (L2.upd R a u) Γ := by
  have s2 : Same R (L2.upd R a u) := Same.fresh hR _
  refine ⟨⟨E.ext.h, E.ext.r.trans s2, fun b o qb => ?_, fun b hb => ?_⟩, fun i e qe => ?_, E.nw, E.ds, E.len⟩
  · by_cases hb : b = a
    · subst hb; rw [upd_same] at qb; cases qb; exact ha
    · rw [upd_ne hb] at qb; exact E.ext.s b o qb
  · rw [upd_ne (show b ≠ a from fun e => hb (by rw [e]; exact h0))]; exact E.ext.old b hb
  · refine (E.ent i e qe).loc (fun _ _ => rfl) s2 fun b hb => ?_
    rw [upd_ne (show b ≠ a from fun z => off i e qe (z ▸ hb))]
    exact (Ent.fp_at (E.ent i e qe) hb).2
theorem EnvOk.tell (E : EnvOk K σ H0 R0 H R Γ) {i : Nat} {e0 en : Ent} (hi : Γ[i]? = some e0) (ho : en.ok K H R (σ[i]?).join) (hsub : ∀ b ∈ en.fp (σ[i]?).join, b ∈ e0.fp (σ[i]?).join) : EnvOk K σ H0 R0 H R (Γ.set i en) := by
  refine ⟨E.ext, fun j e q => ?_, fun j e b q w => ?_, fun j k e e' b q q' w w' => ?_, by rw [List.length_set]; exact E.len⟩
  · rcases set_at q with ⟨rfl, rfl, _⟩ | ⟨hj, q1⟩
    · exact ho
    · exact E.ent j e q1
  · rcases set_at q with ⟨rfl, rfl, _⟩ | ⟨hj, q1⟩
    · exact E.nw _ _ b hi (hsub b w)
    · exact E.nw j e b q1 w
  · rcases set_at q with ⟨rfl, rfl, _⟩ | ⟨hj, q1⟩
    · rcases set_at q' with ⟨rfl, rfl, _⟩ | ⟨hk, q1'⟩
      · rfl
      · exact E.ds _ _ _ _ b hi q1' (hsub b w) w'
    · rcases set_at q' with ⟨rfl, rfl, _⟩ | ⟨hk, q1'⟩
      · exact E.ds _ _ _ _ b q1 hi w (hsub b w')
      · exact E.ds _ _ _ _ b q1 q1' w w'
def Wk : Ga → Ga → Prop
  | [], [] => True
  | e :: r, e' :: r' => (e' = e ∨ e' = .no) ∧ Wk r r'
  | _, _ => False
theorem Wk.len : ∀ {Γ Γ' : Ga}, Wk Γ Γ' → Γ'.length = Γ.length
  | [], [], _ => rfl
  | _ :: _, _ :: _, h => by rw [List.length_cons, List.length_cons, Wk.len h.2]
theorem Wk.at : ∀ {Γ Γ' : Ga}, Wk Γ Γ' → ∀ (i : Nat) (e : Ent), Γ'[i]? = some e → e = .no ∨ Γ[i]? = some e
  | [], [], _, i, e, q => by simp at q
  | a :: _, b :: _, h, 0, e, q => by
    simp at q
    rcases h.1 with z | z
    · right; simp [← q, z]
    · left; rw [← q, z]
  | a :: r, b :: r', h, i + 1, e, q => by
    simp at q
    have := Wk.at h.2 i e q
    simpa using this
theorem Wk.refl : ∀ Γ : Ga, Wk Γ Γ
  | [] => trivial
  | _ :: r => ⟨.inl rfl, Wk.refl r⟩
theorem EnvOk.weak (E : EnvOk K σ H0 R0 H R Γ) {Γ' : Ga} (w : Wk Γ Γ') : EnvOk K σ H0 R0 H R Γ' := by
  refine ⟨E.ext, fun i e q => ?_, fun i e a q z => ?_, fun i j e e' a q q' z z' => ?_, w.len.trans E.len⟩
  · rcases w.at i e q with rfl | q
    · trivial
    · exact E.ent i e q
  · rcases w.at i e q with rfl | q
    · cases z
    · exact E.nw i e a q z
  · rcases w.at i e q with rfl | q
    · cases z
    · rcases w.at j e' q' with rfl | q'
      · cases z'
      · exact E.ds i j e e' a q q' z z'
end
end Fc

set_option Elab.async false
set_option linter.all false
set_option maxRecDepth 100000
set_option maxHeartbeats 4000000
namespace Fc
open PySem PySem.Spec L2
open PyProof.Rows hiding St
section
variable {X : Cx} {Γ Γ1 Γ2 Γ3 : Ga} {α β γ : Type}
def EV (X : Cx) (e : Expr) (Γ : Ga) {α : Type} (r : Rep α) (y : α) (Γ' : Ga) : Prop :=
  ∀ (σ : St) (H0 R0 H R : Hp), EnvOk X.K σ H0 R0 H R Γ → ∀ Q : VK, (∀ v H' R', EnvOk X.K σ H0 R0 H' R' Γ' → Same R R' → r.R X.K R' v y → Q v H') → semE X e σ H Q
def EVL (X : Cx) (e : Expr) (Γ : Ga) {α : Type} (r : Rep α) (ys : List α) (Γ' : Ga) : Prop :=
  ∀ (σ : St) (H0 R0 H R : Hp), EnvOk X.K σ H0 R0 H R Γ → ∀ Q : VK, (∀ a vs H' R', EnvOk X.K σ H0 R0 H' R' Γ' → Same R R' → H' a = some (.lst vs) → R' a = none → H0 a = none → Off a σ Γ' → PySem.Paired (r.R X.K R') vs ys → ys.length ≤ sizeLine → Q (.ref a) H') → semE X e σ H Q
def TV (X : Cx) (e : Expr) (Γ : Ga) (b : Bool) (Γ' : Ga) : Prop :=
  ∀ (σ : St) (H0 R0 H R : Hp), EnvOk X.K σ H0 R0 H R Γ → ∀ Q : Bool → Hp → Prop, (∀ H' R', EnvOk X.K σ H0 R0 H' R' Γ' → Same R R' → Q b H') → semT X e σ H Q
def TW (X : Cx) (e : Expr) (Γ : Ga) (b : Bool) (Γ' : Ga) : Prop :=
  ∀ (σ : St) (H0 R0 H R : Hp), EnvOk X.K σ H0 R0 H R Γ → ∀ Q : Bool → Hp → Prop, (∀ H' R', EnvOk X.K σ H0 R0 H' R' Γ' → Same R R' → Q b H') → semW X e σ H Q
def TF (X : Cx) (es : List Expr) (Γ : Ga) (b : Bool) (Γ' : Ga) : Prop :=
  ∀ (σ : St) (H0 R0 H R : Hp), EnvOk X.K σ H0 R0 H R Γ → ∀ Q : Bool → Hp → Prop, (∀ H' R', EnvOk X.K σ H0 R0 H' R' Γ' → Same R R' → Q b H') → semF X es σ H Q
def BG (X : Cx) (tg : Expr) {α : Type} (r : Rep α) (bf : α → Ga → Ga) : Prop :=
  ∀ (σ : St) (H0 R0 H R : Hp) (Γ : Ga) (v : V) (x : α), EnvOk X.K σ H0 R0 H R Γ → r.R X.K R v x → ∀ Q : St → Hp → Prop, (∀ σ', EnvOk X.K σ' H0 R0 H R (bf x Γ) → Q σ' H) → semG X tg v σ H Q
abbrev RT := Hp → V → Hp → Hp → Prop
def WS (X : Cx) (sts : List Stmt) (Γ : Ga) (N : Ga → Prop) (T : RT) : Prop :=
  ∀ (σ : St) (H0 R0 H R : Hp), EnvOk X.K σ H0 R0 H R Γ → ∀ D : Ends, (∀ σ' H' R' Γ', EnvOk X.K σ' H0 R0 H' R' Γ' → Same R R' → N Γ' → D.nx σ' H') → (∀ v H' R', Ext H0 R0 H' R' → T H0 v H' R' → D.rt v H') → semSs X sts D σ H
def W1 (X : Cx) (st : Stmt) (Γ : Ga) (N : Ga → Prop) (T : RT) : Prop :=
  ∀ (σ : St) (H0 R0 H R : Hp), EnvOk X.K σ H0 R0 H R Γ → ∀ D : Ends, (∀ σ' H' R' Γ', EnvOk X.K σ' H0 R0 H' R' Γ' → Same R R' → N Γ' → D.nx σ' H') → (∀ v H' R', Ext H0 R0 H' R' → T H0 v H' R' → D.rt v H') → semS X st D σ H
def rtP (K : PySem.W.Frag) {β : Type} (r : Rep β) (P : β → Prop) : RT := fun _ v _ R' => ∃ y, r.R K R' v y ∧ P y
def rtL (K : PySem.W.Frag) {β : Type} (r : Rep β) (P : List β → Prop) : RT := fun H0 v H' R' => ∃ a vs ys, v = .ref a ∧ H0 a = none ∧ H' a = some (.lst vs) ∧ R' a = none ∧ PySem.Paired (r.R K R') vs ys ∧ ys.length ≤ sizeLine ∧ P ys
theorem EVL.im {e : Expr} {r : Rep α} {ys : List α} (h : EVL X e Γ r ys Γ1) : EV X e Γ (rList r) ys Γ1 := by
  intro σ H0 R0 H R E Q q
  refine h σ H0 R0 H R E Q fun a vs H' R' E' s1 ha hR h0 off p z => ?_
  have s2 : Same R' (upd R' a (.lst vs)) := Same.fresh hR _
  exact q (.ref a) H' (upd R' a (.lst vs)) (E'.still ha hR h0 off) (s1.trans s2) ⟨a, vs, rfl, upd_same, Paired.map (fun _ _ => r.mono s2) p, z⟩
theorem EV.cast {e : Expr} {r : Rep α} {y y' : α} (h : EV X e Γ r y Γ1) (e1 : y = y') : EV X e Γ r y' Γ1 := e1 ▸ h
theorem TV.cast {e : Expr} {b b' : Bool} (h : TV X e Γ b Γ1) (e1 : b = b') : TV X e Γ b' Γ1 := e1 ▸ h
theorem ev_name (i : Nat) {x : Str} {pos : Pos} {r : Rep α} {y : α} (hΓ : Γ[i]? = some (.im r y)) (hN : X.N[i]? = some x := by rfl) (hv : Vis X.env.scope x := by first | exact Or.inl rfl | exact Or.inr (Or.inl rfl) | exact Or.inr (Or.inr rfl))
    (hd : (x == ("__debug__" : Str)) = false := by decide) (hcd : (x == ("__classdict__" : Str)) = false := by decide) : EV X (.Name x pos) Γ r y Γ := by
  intro σ H0 R0 H R E Q q
  obtain ⟨v, e, h⟩ := E.ent i _ hΓ
  refine eS (pe_var hN hv hd hcd) ⟨v, ?_, q v H R E (Same.refl _) h⟩
  cases es : σ[i]? with
  | none => rw [es] at e; cases e
  | some o => rw [es] at e; exact congrArg some e
theorem ev_int {i : Int} {j : Nat} {pos : Pos} : EV X (.Constant (.int i) j pos) Γ rInt i Γ := fun _ _ _ _ _ E _ q => eS pe_int (q _ _ _ E (Same.refl _) rfl)
theorem ev_bool {b : Bool} {j : Nat} {pos : Pos} : EV X (.Constant (.bool b) j pos) Γ rBool b Γ := fun _ _ _ _ _ E _ q => eS pe_bl (q _ _ _ E (Same.refl _) rfl)
theorem ev_glob {x : Str} {pos : Pos} {n : Int} {t : Tok} (hm : X.mg x = some (.int n t)) (hg : Gl X x := by rfl) (hd : (x == ("__debug__" : Str)) = false := by decide) : EV X (.Name x pos) Γ rInt n Γ :=
  fun _ _ _ _ _ E _ q => eS (pe_glob (v := .int n) hg hm ⟨t, rfl⟩ hd) (q (.int n) _ _ E (Same.refl _) rfl)
theorem ev_op {op : Operator} {r2 : R2} {a b : Expr} {pos : Pos} {ra : Rep α} {rb : Rep β} {rc : Rep γ} {x : α} {y : β} {z : γ} (ho : OpR X (binaryOp op) r2) (ha : EV X a Γ ra x Γ1) (hb : EV X b Γ1 rb y Γ2)
    (hz : ∀ (R : Hp) v u H Q, ra.R X.K R v x → rb.R X.K R u y → (∀ w, rc.R X.K R w z → Q w H) → r2 v u H Q) : EV X (.BinOp a op b pos) Γ rc z Γ2 := by
  intro σ H0 R0 H R E Q q
  refine eS (pe_op ho peS peS) (ha σ H0 R0 H R E _ fun v H1 R1 E1 s1 e1 => hb σ H0 R0 H1 R1 E1 _ fun u H2 R2 E2 s2 e2 => ?_)
  exact hz R2 v u H2 _ (ra.mono s2 e1) e2 fun w hw => q w H2 R2 E2 (s1.trans s2) hw
section
variable {a b c : Expr} {pos : Pos} {x y z : Int}
theorem ev_add (ha : EV X a Γ rInt x Γ1) (hb : EV X b Γ1 rInt y Γ2) : EV X (.BinOp a .Add b pos) Γ rInt (x + y) Γ2 := ev_op op_add ha hb fun R v u H Q e1 e2 q => ⟨x, y, e1, e2, q _ rfl⟩
theorem ev_sub (ha : EV X a Γ rInt x Γ1) (hb : EV X b Γ1 rInt y Γ2) : EV X (.BinOp a .Sub b pos) Γ rInt (x - y) Γ2 := ev_op op_sub ha hb fun R v u H Q e1 e2 q => ⟨x, y, e1, e2, q _ rfl⟩
theorem ev_mul (ha : EV X a Γ rInt x Γ1) (hb : EV X b Γ1 rInt y Γ2) (h : CMul x y) : EV X (.BinOp a .Mult b pos) Γ rInt (x * y) Γ2 := ev_op op_mul ha hb fun R v u H Q e1 e2 q => ⟨x, y, e1, e2, h, q _ rfl⟩
theorem ev_mod (ha : EV X a Γ rInt x Γ1) (hb : EV X b Γ1 rInt y Γ2) (h : 0 < y) : EV X (.BinOp a .Mod b pos) Γ rInt (x % y) Γ2 := ev_op op_mod ha hb fun R v u H Q e1 e2 q => ⟨x, y, e1, e2, h, q _ rfl⟩
theorem ev_pow (ha : EV X a Γ rInt x Γ1) (hb : EV X b Γ1 rInt y Γ2) (h : CPow x y) : EV X (.BinOp a .Pow b pos) Γ rInt (x ^ y.toNat) Γ2 := ev_op op_pow ha hb fun R v u H Q e1 e2 q => ⟨x, y, e1, e2, h, q _ rfl⟩
theorem ev_neg (ha : EV X a Γ rInt x Γ1) : EV X (.UnaryOp .USub a pos) Γ rInt (-x) Γ1 := by
  intro σ H0 R0 H R E Q q
  exact eS (pe_un un_neg peS) (ha σ H0 R0 H R E _ fun v H1 R1 E1 s1 e1 => ⟨x, e1, q _ H1 R1 E1 s1 rfl⟩)
end
structure Cmp (X : Cx) (op : CmpOp) {α β : Type} (ra : Rep α) (rb : Rep β) (x : α) (y : β) (k : Bool) : Prop where
  r2 : ∃ r, OpR X (compareOp op) r ∧ ∀ (R H : Hp) v u Q, Same R H → ra.R X.K R v x → rb.R X.K R u y → Q (.bl k) H → r v u H Q
theorem ev_cmp {op : CmpOp} {a b : Expr} {pos : Pos} {ra : Rep α} {rb : Rep β} {x : α} {y : β} {k : Bool} (c : Cmp X op ra rb x y k) (ha : EV X a Γ ra x Γ1) (hb : EV X b Γ1 rb y Γ2) (hm : behindInMarks op b = false := by first | exact nomark _ | with_unfolding_all rfl) :
    EV X (.Compare a [op] [b] pos) Γ rBool k Γ2 := by
  obtain ⟨r, ho, hr⟩ := c.r2
  intro σ H0 R0 H R E Q q
  refine eS (pe_cmpR ho peS peS hm) (ha σ H0 R0 H R E _ fun v H1 R1 E1 s1 e1 => hb σ H0 R0 H1 R1 E1 _ fun u H2 R2 E2 s2 e2 => ?_)
  exact hr R2 H2 v u _ E2.sub (ra.mono s2 e1) e2 (q _ H2 R2 E2 (s1.trans s2) rfl)
theorem tv_cmp {op : CmpOp} {a b : Expr} {pos : Pos} {ra : Rep α} {rb : Rep β} {x : α} {y : β} {k : Bool} (c : Cmp X op ra rb x y k) (ha : EV X a Γ ra x Γ1) (hb : EV X b Γ1 rb y Γ2) (hm : behindInMarks op b = false := by first | exact nomark _ | with_unfolding_all rfl) :
    TV X (.Compare a [op] [b] pos) Γ k Γ2 := by
  obtain ⟨r, ho, hr⟩ := c.r2
  intro σ H0 R0 H R E Q q
  refine tS (pt_cmpR ho peS peS hm) (ha σ H0 R0 H R E _ fun v H1 R1 E1 s1 e1 => hb σ H0 R0 H1 R1 E1 _ fun u H2 R2 E2 s2 e2 => ?_)
  exact hr R2 H2 v u _ E2.sub (ra.mono s2 e1) e2 ⟨k, rfl, q H2 R2 E2 (s1.trans s2)⟩
section
variable {x y : Int}
theorem c_lt : Cmp X .Lt rInt rInt x y (decide (x < y)) := ⟨_, op_lt, fun R H v u Q _ e1 e2 q => ⟨x, y, e1, e2, q⟩⟩
theorem c_le : Cmp X .LtE rInt rInt x y (decide (x ≤ y)) := ⟨_, op_le, fun R H v u Q _ e1 e2 q => ⟨x, y, e1, e2, q⟩⟩
theorem c_ge : Cmp X .GtE rInt rInt x y (decide (y ≤ x)) := ⟨_, op_ge, fun R H v u Q _ e1 e2 q => ⟨x, y, e1, e2, q⟩⟩
theorem c_eq : Cmp X .Eq rInt rInt x y (decide (x = y)) := ⟨_, op_eq, fun R H v u Q _ e1 e2 q => by
  cases e1; cases e2
  exact ⟨rfl, by rw [show decide (V.int x = V.int y) = decide (x = y) by rw [dec_int]; exact Bool.beq_eq_decide_eq x y]; exact q⟩⟩
theorem c_ne : Cmp X .NotEq rInt rInt x y (!decide (x = y)) := ⟨_, op_ne, fun R H v u Q _ e1 e2 q => by
  cases e1; cases e2
  exact ⟨rfl, by rw [show decide (V.int x = V.int y) = decide (x = y) by rw [dec_int]; exact Bool.beq_eq_decide_eq x y]; exact q⟩⟩
end
theorem ints_of {K : PySem.W.Frag} {R : Hp} : ∀ {vs : List V} {xs : List Int}, PySem.Paired (rInt.R K R) vs xs → vs = xs.map V.int
  | _, _, .nil => rfl
  | _, _, .cons h t => by rw [List.map_cons, ← ints_of t]; exact congrArg (· :: _) h
theorem ev_chain {op op' : CmpOp} {a b c : Expr} {pos : Pos} {ra : Rep α} {rb : Rep β} {rc : Rep γ} {x : α} {y : β} {z : γ} {k k' : Bool} (c1 : Cmp X op ra rb x y k) (c2 : Cmp X op' rb rc y z k') (ha : EV X a Γ ra x Γ) (hb : EV X b Γ rb y Γ) (hc : EV X c Γ rc z Γ)
    (hm : lastMarks [op, op'] [b, c] = false := by with_unfolding_all rfl) : EV X (.Compare a [op, op'] [b, c] pos) Γ rBool (k && k') Γ := by
  obtain ⟨r, ho, hr⟩ := c1.r2
  obtain ⟨r', ho', hr'⟩ := c2.r2
  intro σ H0 R0 H R E Q q
  refine eS (pe_chain ho ho' peS peS peS hm) (ha σ H0 R0 H R E _ fun v H1 R1 E1 s1 e1 => hb σ H0 R0 H1 R1 E1 _ fun u H2 R2 E2 s2 e2 => ?_)
  refine hr R2 H2 v u _ E2.sub (ra.mono s2 e1) e2 ⟨k, rfl, ?_⟩
  cases k with
  | false => exact iteF (q _ H2 R2 E2 (s1.trans s2) rfl)
  | true => exact iteT (hc σ H0 R0 H2 R2 E2 _ fun w H3 R3 E3 s3 e3 => hr' R3 H3 u w _ E3.sub (rb.mono s3 e2) e3 (q _ H3 R3 E3 (s1.trans (s2.trans s3)) rfl))
theorem tv_chain {op op' : CmpOp} {a b c : Expr} {pos : Pos} {ra : Rep α} {rb : Rep β} {rc : Rep γ} {x : α} {y : β} {z : γ} {k k' : Bool} (c1 : Cmp X op ra rb x y k) (c2 : Cmp X op' rb rc y z k') (ha : EV X a Γ ra x Γ) (hb : EV X b Γ rb y Γ) (hc : EV X c Γ rc z Γ)
    (hm : lastMarks [op, op'] [b, c] = false := by with_unfolding_all rfl) : TV X (.Compare a [op, op'] [b, c] pos) Γ (k && k') Γ := by
  obtain ⟨r, ho, hr⟩ := c1.r2
  obtain ⟨r', ho', hr'⟩ := c2.r2
  intro σ H0 R0 H R E Q q
  refine tS (pt_chain ho ho' peS peS peS hm) (ha σ H0 R0 H R E _ fun v H1 R1 E1 s1 e1 => hb σ H0 R0 H1 R1 E1 _ fun u H2 R2 E2 s2 e2 => ?_)
  refine hr R2 H2 v u _ E2.sub (ra.mono s2 e1) e2 ⟨k, rfl, ?_⟩
  cases k with
  | false => exact iteF ⟨false, rfl, q H2 R2 E2 (s1.trans s2)⟩
  | true => exact iteT (hc σ H0 R0 H2 R2 E2 _ fun w H3 R3 E3 s3 e3 => hr' R3 H3 u w _ E3.sub (rb.mono s3 e2) e3 ⟨k', rfl, q H3 R3 E3 (s1.trans (s2.trans s3))⟩)
theorem ev_one {op : BoolOp} {a : Expr} {pos : Pos} {r : Rep α} {x : α} (h : EV X a Γ r x Γ1) : EV X (.BoolOp op [a] pos) Γ r x Γ1 := fun σ H0 R0 H R E Q q => eS (pe_one peS) (h σ H0 R0 H R E Q q)
theorem ev_and {a b : Expr} {rest : List Expr} {pos : Pos} {x y : Bool} (ha : EV X a Γ rBool x Γ) (hb : x = true → EV X (.BoolOp .And (b :: rest) pos) Γ rBool y Γ) : EV X (.BoolOp .And (a :: b :: rest) pos) Γ rBool (x && y) Γ := by
  intro σ H0 R0 H R E Q q
  refine eS (pe_and peS peS) (ha σ H0 R0 H R E _ fun v H1 R1 E1 s1 e1 => ⟨x, e1, ?_⟩)
  cases x with
  | false => exact iteF (q _ H1 R1 E1 s1 rfl)
  | true => exact iteT (hb rfl σ H0 R0 H1 R1 E1 _ fun w H3 R3 E3 s3 e3 => q w H3 R3 E3 (s1.trans s3) e3)
theorem ev_or {a b : Expr} {rest : List Expr} {pos : Pos} {x y : Bool} (ha : EV X a Γ rBool x Γ) (hb : x = false → EV X (.BoolOp .Or (b :: rest) pos) Γ rBool y Γ) : EV X (.BoolOp .Or (a :: b :: rest) pos) Γ rBool (x || y) Γ := by
  intro σ H0 R0 H R E Q q
  refine eS (pe_or peS peS) (ha σ H0 R0 H R E _ fun v H1 R1 E1 s1 e1 => ⟨x, e1, ?_⟩)
  cases x with
  | true => exact iteT (q _ H1 R1 E1 s1 rfl)
  | false => exact iteF (hb rfl σ H0 R0 H1 R1 E1 _ fun w H3 R3 E3 s3 e3 => q w H3 R3 E3 (s1.trans s3) e3)
theorem ev_not {a : Expr} {pos : Pos} {x : Bool} (ha : EV X a Γ rBool x Γ1) : EV X (.UnaryOp .Not a pos) Γ rBool (!x) Γ1 := by
  intro σ H0 R0 H R E Q q
  exact eS (pe_not peS) (ha σ H0 R0 H R E _ fun v H1 R1 E1 s1 e1 => ⟨x, e1, q _ H1 R1 E1 s1 rfl⟩)
theorem tv_not {a : Expr} {pos : Pos} {x : Bool} (ha : TV X a Γ x Γ1) : TV X (.UnaryOp .Not a pos) Γ (!x) Γ1 := by
  intro σ H0 R0 H R E Q q
  exact tS (pt_not ptS) (ha σ H0 R0 H R E _ fun H1 R1 E1 s1 => q H1 R1 E1 s1)
theorem TW.tv {e : Expr} {b : Bool} (h : TW X e Γ b Γ1) : TV X e Γ b Γ1 := fun σ H0 R0 H R E Q q => tS (pwS.pt) (h σ H0 R0 H R E Q q)
theorem tw_and1 {a : Expr} {pos : Pos} {x : Bool} (ha : TV X a Γ x Γ1) : TW X (.BoolOp .And [a] pos) Γ x Γ1 := fun σ H0 R0 H R E Q q => wS (pw_and1 ptS) (ha σ H0 R0 H R E Q q)
theorem tw_or1 {a : Expr} {pos : Pos} {x : Bool} (ha : TV X a Γ x Γ1) : TW X (.BoolOp .Or [a] pos) Γ x Γ1 := fun σ H0 R0 H R E Q q => wS (pw_or1 ptS) (ha σ H0 R0 H R E Q q)
theorem tw_and {a b : Expr} {rest : List Expr} {pos : Pos} {x y : Bool} (ha : TV X a Γ x Γ) (hb : x = true → TW X (.BoolOp .And (b :: rest) pos) Γ y Γ) : TW X (.BoolOp .And (a :: b :: rest) pos) Γ (x && y) Γ := by
  intro σ H0 R0 H R E Q q
  refine wS (pw_and ptS pwS) (ha σ H0 R0 H R E _ fun H1 R1 E1 s1 => ?_)
  cases x with
  | false => exact iteF (q H1 R1 E1 s1)
  | true => exact iteT (hb rfl σ H0 R0 H1 R1 E1 _ fun H3 R3 E3 s3 => q H3 R3 E3 (s1.trans s3))
theorem tw_or {a b : Expr} {rest : List Expr} {pos : Pos} {x y : Bool} (ha : TV X a Γ x Γ) (hb : x = false → TW X (.BoolOp .Or (b :: rest) pos) Γ y Γ) : TW X (.BoolOp .Or (a :: b :: rest) pos) Γ (x || y) Γ := by
  intro σ H0 R0 H R E Q q
  refine wS (pw_or ptS pwS) (ha σ H0 R0 H R E _ fun H1 R1 E1 s1 => ?_)
  cases x with
  | true => exact iteT (q H1 R1 E1 s1)
  | false => exact iteF (hb rfl σ H0 R0 H1 R1 E1 _ fun H3 R3 E3 s3 => q H3 R3 E3 (s1.trans s3))
theorem tv_bool {a : Expr} {k : Bool} (ha : EV X a Γ rBool k Γ1) (he : ∀ whole, isTrue a X.env whole = (do let v ← whole; standAt a.pos; holding [v] (truthy v)) := by intro _; rfl) : TV X a Γ k Γ1 := by
  intro σ H0 R0 H R E Q q
  exact tS (pt_val peS he) (ha σ H0 R0 H R E _ fun v H1 R1 E1 s1 e1 => ⟨k, e1, q H1 R1 E1 s1⟩)
theorem tf_nil : TF X [] Γ true Γ := fun σ H0 R0 H R E Q q => fS pf_nil (q H R E (Same.refl _))
theorem tf_one {c : Expr} {b : Bool} (h : TV X c Γ b Γ1) : TF X [c] Γ b Γ1 := fun σ H0 R0 H R E Q q => fS (pf_one ptS) (h σ H0 R0 H R E Q q)
end
end Fc

set_option Elab.async false
set_option linter.all false
set_option maxRecDepth 100000
set_option maxHeartbeats 4000000
namespace Fc
open PySem PySem.Spec L2
open PyProof.Rows hiding St
section
variable {X : Cx} {Γ Γ1 Γ2 Γ3 : Ga} {α β γ δ : Type}
structure Pk : Type 1 where
  {α : Type}
  r : Rep α
  x : α
inductive Pks (K : PySem.W.Frag) (R : Hp) : List V → List Pk → Prop
  | nil : Pks K R [] []
  | cons {v : V} {vs : List V} {p : Pk} {ps : List Pk} : p.r.R K R v p.x → Pks K R vs ps → Pks K R (v :: vs) (p :: ps)
def HA (X : Cx) (es : List Expr) (Γ : Ga) (ps : List Pk) (Γ' : Ga) : Prop :=
  ∀ (σ : St) (H0 R0 H R : Hp), EnvOk X.K σ H0 R0 H R Γ → ∀ Q : List V → Hp → Prop, (∀ vs H' R', EnvOk X.K σ H0 R0 H' R' Γ' → Same R R' → Pks X.K R' vs ps → Q vs H') → semA X es σ H Q
theorem ha_nil : HA X [] Γ [] Γ := fun σ H0 R0 H R E Q q => aS pa_nil (q [] H R E (Same.refl _) .nil)
theorem ha_cons {e : Expr} {es : List Expr} {r : Rep α} {x : α} {ps : List Pk} (he : EV X e Γ r x Γ1) (hr : HA X es Γ1 ps Γ2) (hs : starEach (e :: es) X.env = (false, eval e X.env) :: starEach es X.env := by rfl) : HA X (e :: es) Γ (⟨r, x⟩ :: ps) Γ2 := by
  intro σ H0 R0 H R E Q q
  refine aS (pa_cons peS paS hs) (he σ H0 R0 H R E _ fun v H1 R1 E1 s1 e1 => hr σ H0 R0 H1 R1 E1 _ fun vs H2 R2 E2 s2 e2 => ?_)
  exact q (v :: vs) H2 R2 E2 (s1.trans s2) (.cons (r.mono s2 e1) e2)
def EA (X : Cx) (es : List Expr) (Γ : Ga) {α : Type} (r : Rep α) (ys : List α) (Γ' : Ga) : Prop :=
  ∀ (σ : St) (H0 R0 H R : Hp), EnvOk X.K σ H0 R0 H R Γ → ∀ Q : List V → Hp → Prop, (∀ vs H' R', EnvOk X.K σ H0 R0 H' R' Γ' → Same R R' → PySem.Paired (r.R X.K R') vs ys → Q vs H') → semA X es σ H Q
theorem ea_nil {r : Rep α} : EA X [] Γ r [] Γ := fun σ H0 R0 H R E Q q => aS pa_nil (q [] H R E (Same.refl _) .nil)
theorem ea_cons {e : Expr} {es : List Expr} {r : Rep α} {x : α} {ys : List α} (he : EV X e Γ r x Γ1) (hr : EA X es Γ1 r ys Γ2) (hs : starEach (e :: es) X.env = (false, eval e X.env) :: starEach es X.env := by rfl) : EA X (e :: es) Γ r (x :: ys) Γ2 := by
  intro σ H0 R0 H R E Q q
  refine aS (pa_cons peS paS hs) (he σ H0 R0 H R E _ fun v H1 R1 E1 s1 e1 => hr σ H0 R0 H1 R1 E1 _ fun vs H2 R2 E2 s2 e2 => ?_)
  exact q (v :: vs) H2 R2 E2 (s1.trans s2) (.cons (r.mono s2 e1) e2)
theorem evl_lst {es : List Expr} {pos : Pos} {r : Rep α} {ys : List α} (h : EA X es Γ r ys Γ1) (hz : ys.length ≤ sizeLine) : EVL X (.List es pos) Γ r ys Γ1 := by
  intro σ H0 R0 H R E Q q
  refine eS (pe_lst paS) (h σ H0 R0 H R E _ fun vs H1 R1 E1 s1 p1 => ⟨by rw [p1.length]; exact hz, fun p hp => ?_⟩)
  exact q p vs _ R1 (E1.grow (Ext.freshM E1.sub hp _)) s1 upd_same (E1.sub.free hp) (E1.ext.h.free hp) (E1.off hp) p1 hz
theorem ev_pair {a b : Expr} {k : Nat} {pos : Pos} {r : Rep α} {r' : Rep β} {x : α} {y : β} (h : HA X [a, b] Γ [⟨r, x⟩, ⟨r', y⟩] Γ1) : EV X (.Tuple [a, b] k pos) Γ (rPair r r') (x, y) Γ1 := by
  intro σ H0 R0 H R E Q q
  refine eS (pe_tup paS) (h σ H0 R0 H R E _ fun vs H1 R1 E1 s1 p1 => ?_)
  obtain ⟨h1, h2⟩ : ∃ v1 v2, vs = [v1, v2] ∧ r.R X.K R1 v1 x ∧ r'.R X.K R1 v2 y := by
    cases p1 with
    | cons a1 t => cases t with
      | cons a2 t2 => cases t2; exact ⟨_, _, rfl, a1, a2⟩
  obtain ⟨v2, rfl, e1, e2⟩ := h2
  refine ⟨by show 2 ≤ sizeLine; decide, fun p hp => ?_⟩
  have s2 : Same R1 (upd R1 p (.tup [h1, v2])) := Same.fresh (E1.sub.free hp) _
  exact q _ _ (upd R1 p (.tup [h1, v2])) (E1.grow (Ext.fresh E1.sub hp _)) (s1.trans s2) ⟨p, _, _, rfl, upd_same, r.mono s2 e1, r'.mono s2 e2⟩
theorem paired_at {F : α → β → Prop} : ∀ {vs : List α} {xs : List β}, PySem.Paired F vs xs → ∀ {i : Nat} {y : β}, xs[i]? = some y → ∃ v, vs[i]? = some v ∧ F v y
  | _, _, .nil, i, y, h => by simp at h
  | _, _, .cons h t, 0, y, e => by simp at e; subst e; exact ⟨_, rfl, h⟩
  | _, _, .cons h t, i + 1, y, e => by
    obtain ⟨v, e1, e2⟩ := paired_at t (i := i) (y := y) (by simpa using e)
    exact ⟨v, by simpa using e1, e2⟩
theorem paired_atI {F : α → β → Prop} {vs : List α} {xs : List β} (p : PySem.Paired F vs xs) {i : Int} {y : β} (h : atI xs i = some y) : ∃ v, atI vs i = some v ∧ F v y := by
  unfold atI at h ⊢
  rw [p.length]
  cases e : ixN xs.length i with
  | none => rw [e] at h; cases h
  | some j => rw [e] at h; exact paired_at p h
theorem atI_of {xs : List α} {i : Int} (h0 : 0 ≤ i) (h1 : i < xs.length) : atI xs i = xs[i.toNat]? := by
  have e : i = ((i.toNat : Nat) : Int) := by omega
  have hl : i.toNat < xs.length := by omega
  have q : atI xs ((i.toNat : Nat) : Int) = some xs[i.toNat] := atI_nat (List.getElem?_eq_getElem hl)
  rw [← e] at q
  rw [q, List.getElem?_eq_getElem hl]
theorem ev_ixL {a b : Expr} {pos : Pos} {r : Rep α} {xs : List α} {i : Int} {y : α} (ha : EV X a Γ (rList r) xs Γ1) (hb : EV X b Γ1 rInt i Γ2) (h : atI xs i = some y) (hs : PlainIx b := by exact fun _ _ => rfl) : EV X (.Subscript a b pos) Γ r y Γ2 := by
  intro σ H0 R0 H R E Q q
  refine eS (pe_ix ix_list peS peS hs) (ha σ H0 R0 H R E _ fun v H1 R1 E1 s1 e1 => hb σ H0 R0 H1 R1 E1 _ fun u H2 R2 E2 s2 e2 => ?_)
  obtain ⟨p, vs, rfl, ha, pp, z⟩ := (rList r).mono s2 e1
  obtain ⟨w, e3, e4⟩ := paired_atI pp h
  exact ⟨p, vs, i, w, rfl, e2, SqL.of (E2.sub _ _ ha), e3, q w H2 R2 E2 (s1.trans s2) e4⟩
theorem ev_ixM (j : Nat) {x : Str} {p1 : Pos} {b : Expr} {pos : Pos} {r : Rep α} {xs : List α} {i : Int} {y : α} (hb : EV X b Γ rInt i Γ1) (hΓ : Γ[j]? = some (.mu r xs)) (hΓ1 : Γ1[j]? = some (.mu r xs)) (h : atI xs i = some y) (hN : X.N[j]? = some x := by rfl) (hv : Vis X.env.scope x := by first | exact Or.inl rfl | exact Or.inr (Or.inl rfl) | exact Or.inr (Or.inr rfl))
    (hs : PlainIx b := by exact fun _ _ => rfl) (hd : (x == ("__debug__" : Str)) = false := by decide) (hcd : (x == ("__classdict__" : Str)) = false := by decide) : EV X (.Subscript (.Name x p1) b pos) Γ r y Γ1 := by
  intro σ H0 R0 H R E Q q
  obtain ⟨a, vs, e, _, _, _⟩ := E.ent j _ hΓ
  refine eS (pe_ix ix_list (pe_var hN hv hd hcd) peS hs) ⟨.ref a, ?_, hb σ H0 R0 H R E _ fun u H2 R2 E2 s2 e2 => ?_⟩
  · cases es : σ[j]? with
    | none => rw [es] at e; cases e
    | some o => rw [es] at e; exact congrArg some e
  · obtain ⟨a', vs', e', ha, hR, pp⟩ := E2.ent j _ hΓ1
    rw [e] at e'; cases e'
    obtain ⟨w, e3, e4⟩ := paired_atI pp h
    exact ⟨a, vs', i, w, rfl, e2, SqL.of ha, e3, q w H2 R2 E2 s2 e4⟩
section
variable {a : Expr} {n : Int} {j : Nat} {p1 pos : Pos} {w : Row}
theorem ev_ixT {r : Rep α} {x : α} {y : β} {r' : Rep β} (ha : EV X a Γ r x Γ1) (k : ∀ (R : Hp) v, r.R X.K R v x → ∃ p vs w, v = .ref p ∧ R p = some (.tup vs) ∧ atI vs n = some w ∧ r'.R X.K R w y) : EV X (.Subscript a (.Constant (.int n) j p1) pos) Γ r' y Γ1 := by
  intro σ H0 R0 H R E Q q
  refine eS (pe_ix ix_tup peS pe_int (fun _ _ => rfl)) (ha σ H0 R0 H R E _ fun v H1 R1 E1 s1 e1 => ?_)
  obtain ⟨p, vs, w, rfl, hp, e3, e4⟩ := k R1 v e1
  exact ⟨p, vs, n, w, rfl, rfl, SqT.of (E1.sub _ _ hp), e3, q w H1 R1 E1 s1 e4⟩
theorem ev_row0 (ha : EV X a Γ rRow w Γ1) : EV X (.Subscript a (.Constant (.int 0) j p1) pos) Γ rInt w.1 Γ1 := ev_ixT ha fun R v ⟨p, e, h⟩ => ⟨p, _, _, e, h, rfl, rfl⟩
theorem ev_row1 (ha : EV X a Γ rRow w Γ1) : EV X (.Subscript a (.Constant (.int 1) j p1) pos) Γ rInt w.2.1 Γ1 := ev_ixT ha fun R v ⟨p, e, h⟩ => ⟨p, _, _, e, h, rfl, rfl⟩
theorem ev_row2 (ha : EV X a Γ rRow w Γ1) : EV X (.Subscript a (.Constant (.int 2) j p1) pos) Γ rInt w.2.2.1 Γ1 := ev_ixT ha fun R v ⟨p, e, h⟩ => ⟨p, _, _, e, h, rfl, rfl⟩
theorem ev_row3 (ha : EV X a Γ rRow w Γ1) : EV X (.Subscript a (.Constant (.int 3) j p1) pos) Γ rInt w.2.2.2 Γ1 := ev_ixT ha fun R v ⟨p, e, h⟩ => ⟨p, _, _, e, h, rfl, rfl⟩
theorem ev_fst {r : Rep α} {r' : Rep β} {x : α × β} (ha : EV X a Γ (rPair r r') x Γ1) : EV X (.Subscript a (.Constant (.int 0) j p1) pos) Γ r x.1 Γ1 := ev_ixT ha fun R v ⟨p, v1, v2, e, h, h1, h2⟩ => ⟨p, _, v1, e, h, rfl, h1⟩
theorem ev_snd {r : Rep α} {r' : Rep β} {x : α × β} (ha : EV X a Γ (rPair r r') x Γ1) : EV X (.Subscript a (.Constant (.int 1) j p1) pos) Γ r' x.2 Γ1 := ev_ixT ha fun R v ⟨p, v1, v2, e, h, h1, h2⟩ => ⟨p, _, v2, e, h, rfl, h2⟩
end
def OV (X : Cx) (e : Option Expr) (Γ : Ga) (o : Option Int) : Prop := ∃ t, PO X e t ∧ ∀ (σ : St) (H0 R0 H R : Hp), EnvOk X.K σ H0 R0 H R Γ → ∀ Q : Option Int → Hp → Prop, (∀ H' R', EnvOk X.K σ H0 R0 H' R' Γ → Same R R' → Q o H') → t σ H Q
theorem ov_none : OV X none Γ none := ⟨_, po_none, fun σ H0 R0 H R E Q q => q H R E (Same.refl _)⟩
theorem ov_some {e : Expr} {i : Int} (h : EV X e Γ rInt i Γ) : OV X (some e) Γ (some i) := ⟨_, po_some peS, fun σ H0 R0 H R E Q q => h σ H0 R0 H R E _ fun v H1 R1 E1 s1 e1 => ⟨i, e1, q H1 R1 E1 s1⟩⟩
def cut (xs : List α) (lo hi : Option Int) : List α := (xs.drop (HT.sIx xs.length 0 lo)).take (HT.sIx xs.length xs.length hi - HT.sIx xs.length 0 lo)
theorem paired_drop {F : α → β → Prop} : ∀ (n : Nat) {vs : List α} {xs : List β}, PySem.Paired F vs xs → PySem.Paired F (vs.drop n) (xs.drop n)
  | 0, _, _, h => h
  | _ + 1, _, _, .nil => .nil
  | n + 1, _, _, .cons _ t => paired_drop n t
theorem paired_take {F : α → β → Prop} : ∀ (n : Nat) {vs : List α} {xs : List β}, PySem.Paired F vs xs → PySem.Paired F (vs.take n) (xs.take n)
  | 0, _, _, _ => .nil
  | _ + 1, _, _, .nil => .nil
  | n + 1, _, _, .cons h t => .cons h (paired_take n t)
theorem paired_append {F : α → β → Prop} : ∀ {vs : List α} {xs : List β} {vs' : List α} {xs' : List β}, PySem.Paired F vs xs → PySem.Paired F vs' xs' → PySem.Paired F (vs ++ vs') (xs ++ xs')
  | _, _, _, _, .nil, h => h
  | _, _, _, _, .cons h t, h' => .cons h (paired_append t h')
theorem cut_length (xs : List α) (lo hi : Option Int) : (cut xs lo hi).length ≤ xs.length := by
  unfold cut
  rw [List.length_take, List.length_drop]
  omega
theorem evl_slice {a : Expr} {lo hi : Option Expr} {p2 pos : Pos} {r : Rep α} {xs : List α} {l h : Option Int} (ha : EV X a Γ (rList r) xs Γ) (hl : OV X lo Γ l) (hh : OV X hi Γ h) : EVL X (.Subscript a (.Slice lo hi none p2) pos) Γ r (cut xs l h) Γ := by
  intro σ H0 R0 H R E Q q
  obtain ⟨tl, pl, kl⟩ := hl
  obtain ⟨th, ph, kh⟩ := hh
  refine eS (pe_slice sl_list peS pl ph) (ha σ H0 R0 H R E _ fun v H1 R1 E1 s1 e1 => kl σ H0 R0 H1 R1 E1 _ fun H2 R2 E2 s2 => kh σ H0 R0 H2 R2 E2 _ fun H3 R3 E3 s3 => ?_)
  obtain ⟨p, vs, rfl, hp, pp, z⟩ := (rList r).mono (s2.trans s3) e1
  refine ⟨p, vs, rfl, SqL.of (E3.sub _ _ hp), fun d hd => ?_⟩
  refine q d _ _ R3 (E3.grow (Ext.freshM E3.sub hd _)) (s1.trans (s2.trans s3)) upd_same (E3.sub.free hd) (E3.ext.h.free hd) (E3.off hd) ?_ (Nat.le_trans (cut_length _ _ _) z)
  unfold cut cutV
  rw [pp.length]
  exact paired_take _ (paired_drop _ pp)
theorem evl_sliceS {a : Expr} {lo hi : Option Expr} {p2 pos : Pos} {xs : List Int} {l h : Option Int} (ha : EV X a Γ rScr xs Γ) (hl : OV X lo Γ l) (hh : OV X hi Γ h) : EVL X (.Subscript a (.Slice lo hi none p2) pos) Γ rInt (cut xs l h) Γ := by
  intro σ H0 R0 H R E Q q
  obtain ⟨tl, pl, kl⟩ := hl
  obtain ⟨th, ph, kh⟩ := hh
  refine eS (pe_slice sl_list peS pl ph) (ha σ H0 R0 H R E _ fun v H1 R1 E1 s1 e1 => kl σ H0 R0 H1 R1 E1 _ fun H2 R2 E2 s2 => kh σ H0 R0 H2 R2 E2 _ fun H3 R3 E3 s3 => ?_)
  obtain ⟨p, rfl, hp, z⟩ := rScr.mono (s2.trans s3) e1
  refine ⟨p, _, rfl, E3.sub.seq hp, fun d hd => ?_⟩
  have aints : ∀ ys : List Int, PySem.Paired (rInt.R X.K R3) (ys.map V.int) ys := fun ys => by
    induction ys with
    | nil => exact .nil
    | cons y r ih => exact .cons rfl ih
  refine q d _ _ R3 (E3.grow (Ext.freshM E3.sub hd _)) (s1.trans (s2.trans s3)) upd_same (E3.sub.free hd) (E3.ext.h.free hd) (E3.off hd) ?_ (Nat.le_trans (cut_length _ _ _) (Nat.le_trans z (by decide)))
  unfold cut cutV
  rw [List.length_map]
  exact paired_take _ (paired_drop _ (aints xs))
theorem evl_cat {a b : Expr} {pos : Pos} {r : Rep α} {xs ys : List α} (ha : EV X a Γ (rList r) xs Γ1) (hb : EV X b Γ1 (rList r) ys Γ2) (hz : xs.length + ys.length ≤ sizeLine) : EVL X (.BinOp a .Add b pos) Γ r (xs ++ ys) Γ2 := by
  intro σ H0 R0 H R E Q q
  refine eS (pe_op op_cat peS peS) (ha σ H0 R0 H R E _ fun v H1 R1 E1 s1 e1 => hb σ H0 R0 H1 R1 E1 _ fun u H2 R2 E2 s2 e2 => ?_)
  obtain ⟨p, vs, rfl, hp, pp, z⟩ := (rList r).mono s2 e1
  obtain ⟨p', ws, rfl, hp', pp', z'⟩ := e2
  refine ⟨p, p', vs, ws, rfl, rfl, E2.sub _ _ hp, E2.sub _ _ hp', by rw [pp.length, pp'.length]; exact hz, fun d hd => ?_⟩
  exact q d _ _ R2 (E2.grow (Ext.freshM E2.sub hd _)) (s1.trans s2) upd_same (E2.sub.free hd) (E2.ext.h.free hd) (E2.off hd) (paired_append pp pp') (by rw [List.length_append]; exact hz)
theorem paired_rep {F : α → β → Prop} {vs : List α} {xs : List β} (h : PySem.Paired F vs xs) : ∀ k : Nat, PySem.Paired F (List.replicate k vs).flatten (List.replicate k xs).flatten
  | 0 => .nil
  | k + 1 => by rw [List.replicate_succ, List.replicate_succ]; exact paired_append h (paired_rep h k)
theorem evl_rep {a b : Expr} {pos : Pos} {r : Rep α} {xs : List α} {k : Int} (ha : EV X a Γ (rList r) xs Γ1) (hb : EV X b Γ1 rInt k Γ2) (h1 : -(2 ^ 63) ≤ k) (h2 : k < 2 ^ 63) (hz : xs.length * k.toNat ≤ sizeLine) : EVL X (.BinOp a .Mult b pos) Γ r (List.replicate k.toNat xs).flatten Γ2 := by
  intro σ H0 R0 H R E Q q
  refine eS (pe_op op_rep peS peS) (ha σ H0 R0 H R E _ fun v H1 R1 E1 s1 e1 => hb σ H0 R0 H1 R1 E1 _ fun u H2 R2 E2 s2 e2 => ?_)
  obtain ⟨p, vs, rfl, hp, pp, z⟩ := (rList r).mono s2 e1
  refine ⟨p, k, vs, rfl, e2, E2.sub _ _ hp, h1, h2, by rw [pp.length]; exact hz, fun d hd => ?_⟩
  exact q d _ _ R2 (E2.grow (Ext.freshM E2.sub hd _)) (s1.trans s2) upd_same (E2.sub.free hd) (E2.ext.h.free hd) (E2.off hd) (paired_rep pp _) (by rw [len_rep, Nat.mul_comm]; exact hz)
theorem ev_len {a : Expr} {p pos : Pos} {r : Rep α} {xs : List α} (hm : X.mg "len" = none) (ha : EV X a Γ (rList r) xs Γ1) (hs : starEach [a] X.env = [(false, eval a X.env)] := by rfl) (hg : Gl X "len" := by rfl) : EV X (.Call (.Name "len" p) [a] [] pos) Γ rInt (xs.length : Int) Γ1 := by
  intro σ H0 R0 H R E Q q
  refine eS (pe_callB call_len_seq hg hm PySem.boot_len (pa_cons peS pa_nil hs) (by decide) (by decide) hs) (ha σ H0 R0 H R E _ fun v H1 R1 E1 s1 e1 => ?_)
  obtain ⟨p, vs, rfl, hp, pp, z⟩ := e1
  refine ⟨p, vs, rfl, .inl (SqL.of (E1.sub _ _ hp)), ?_⟩
  rw [pp.length]
  exact q _ H1 R1 E1 s1 rfl
end
end Fc

set_option Elab.async false
set_option linter.all false
set_option maxRecDepth 100000
set_option maxHeartbeats 4000000
namespace Fc
open PySem PySem.Spec L2
open PyProof.Rows hiding St
section
variable {X : Cx} {Γ Γ1 Γ2 Γ3 : Ga} {α β γ δ : Type} {N : Ga → Prop} {T : RT}
theorem ws_nil {Γ' : Ga} (w : Wk Γ Γ') (h : N Γ') : WS X [] Γ N T := fun σ H0 R0 H R E D dn dr => ssS pss_nil (dn σ H R Γ' (E.weak w) (Same.refl _) h)
theorem ws_end (h : N Γ) : WS X [] Γ N T := ws_nil (Wk.refl Γ) h
theorem ws_seq {st : Stmt} {rest : List Stmt} (h : W1 X st Γ (fun Γ' => WS X rest Γ' N T) T) : WS X (st :: rest) Γ N T := fun σ H0 R0 H R E D dn dr =>
  ssS (pss_cons psS pssS) (h σ H0 R0 H R E { D with nx := semSs X rest D } (fun σ' H' R' Γ' E' s' h' => h' σ' H0 R0 H' R' E' D (fun σ2 H2 R2 Γ2 E2 s2 => dn σ2 H2 R2 Γ2 E2 (s'.trans s2)) dr) dr)
theorem ws_one {st : Stmt} (h : W1 X st Γ N T) : WS X [st] Γ N T := fun σ H0 R0 H R E D dn dr => ssS (pss_one psS) (h σ H0 R0 H R E D dn dr)
theorem w_set (i : Nat) {x : Str} {p1 pos : Pos} {e : Expr} {r : Rep α} {y : α} (he : EV X e Γ r y Γ1) (h : N (Γ1.set i (.im r y))) (hN : X.N.Nodup := by first | assumption | decide) (hi : X.N[i]? = some x := by rfl) (hx : Loc X.env.scope x := by first | exact Or.inl rfl | exact Or.inr rfl)
    (hs : swapsWith e (some (.Name x p1)) pos.line X.env = pure false := by rfl) (hf : X.fn x = true ∨ X.env.scope.names.lookup x = some .local := by first | exact .inl rfl | exact .inr rfl) : W1 X (.Assign [.Name x p1] e pos) Γ N T := fun σ H0 R0 H R E D dn dr =>
  sS (ps_set hN hi hx peS hs hf) (he σ H0 R0 H R E _ fun v H1 R1 E1 s1 e1 => dn _ H1 R1 _ (E1.set i e1) s1 h)
theorem w_setL (i : Nat) {x : Str} {p1 pos : Pos} {e : Expr} {r : Rep α} {ys : List α} (he : EVL X e Γ r ys Γ1) (h : N (Γ1.set i (.mu r ys))) (hN : X.N.Nodup := by first | assumption | decide) (hi : X.N[i]? = some x := by rfl) (hx : Loc X.env.scope x := by first | exact Or.inl rfl | exact Or.inr rfl)
    (hs : swapsWith e (some (.Name x p1)) pos.line X.env = pure false := by rfl) (hf : X.fn x = true ∨ X.env.scope.names.lookup x = some .local := by first | exact .inl rfl | exact .inr rfl) : W1 X (.Assign [.Name x p1] e pos) Γ N T := fun σ H0 R0 H R E D dn dr =>
  sS (ps_set hN hi hx peS hs hf) (he σ H0 R0 H R E _ fun a vs H1 R1 E1 s1 ha hR h0 off p z => dn _ H1 R1 _ (E1.setO (u := .lst vs) (en := .mu r ys) i ⟨a, vs, rfl, ha, hR, p⟩ h0 fun j e _ q w => off j e q w) s1 h)
theorem w_asg {tg : Expr} {pos : Pos} {e : Expr} {r : Rep α} {y : α} {bf : α → Ga → Ga} (he : EV X e Γ r y Γ1) (hb : BG X tg r bf) (h : N (bf y Γ1))
    (hs : swapsWithSole [tg] e pos.line X.env = pure false := by rfl) (hw : swappedStores [tg] e X.env = pure none := by rfl) (h1 : (assignEach [tg] X.env).map (·.2) = [assign tg X.env] := by rfl) : W1 X (.Assign [tg] e pos) Γ N T := fun σ H0 R0 H R E D dn dr =>
  sS (ps_asg peS pgS hs hw h1) (he σ H0 R0 H R E _ fun v H1 R1 E1 s1 e1 => hb σ H0 R0 H1 R1 Γ1 v y E1 e1 _ fun σ' E' => dn σ' H1 R1 _ E' s1 h)
theorem w_ret {e : Expr} {pos : Pos} {r : Rep α} {P : α → Prop} {y : α} (he : EV X e Γ r y Γ1) (h : P y) : W1 X (.Return (some e) pos) Γ N (rtP X.K r P) := fun σ H0 R0 H R E D dn dr =>
  sS (ps_ret peS) (he σ H0 R0 H R E _ fun v H1 R1 E1 s1 e1 => dr v H1 R1 E1.ext ⟨y, e1, h⟩)
theorem w_retL {e : Expr} {pos : Pos} {r : Rep α} {P : List α → Prop} {ys : List α} (he : EVL X e Γ r ys Γ1) (h : P ys) : W1 X (.Return (some e) pos) Γ N (rtL X.K r P) := fun σ H0 R0 H R E D dn dr =>
  sS (ps_ret peS) (he σ H0 R0 H R E _ fun a vs H1 R1 E1 s1 ha hR h0 off p z => dr _ H1 R1 E1.ext ⟨a, vs, ys, rfl, h0, ha, hR, p, z, h⟩)
theorem w_if {c : Expr} {a b : List Stmt} {pos : Pos} {k : Bool} (hc : TV X c Γ k Γ1) (h1 : k = true → WS X a Γ1 N T) (h2 : k = false → WS X b Γ1 N T) : W1 X (.If c a b pos) Γ N T := fun σ H0 R0 H R E D dn dr => by
  refine sS (ps_if ptS pssS pssS) (hc σ H0 R0 H R E _ fun H1 R1 E1 s1 => ?_)
  cases k with
  | true => exact iteT (h1 rfl σ H0 R0 H1 R1 E1 D (fun σ2 H2 R2 Γ2 E2 s2 => dn σ2 H2 R2 Γ2 E2 (s1.trans s2)) dr)
  | false => exact iteF (h2 rfl σ H0 R0 H1 R1 E1 D (fun σ2 H2 R2 Γ2 E2 s2 => dn σ2 H2 R2 Γ2 E2 (s1.trans s2)) dr)
theorem bg_name (i : Nat) {x : Str} {pos : Pos} {r : Rep α} (hN : X.N.Nodup := by first | assumption | decide) (hi : X.N[i]? = some x := by rfl) (hx : Loc X.env.scope x := by first | exact Or.inl rfl | exact Or.inr rfl) (hf : X.fn x = true ∨ X.env.scope.names.lookup x = some .local := by first | exact .inl rfl | exact .inr rfl) :
    BG X (.Name x pos) r (fun y Γ => Γ.set i (.im r y)) := fun σ H0 R0 H R Γ v x E h Q q => gS (pg_name hN hi hx hf) (q _ (E.set i h))
theorem bg_pair (i j : Nat) {x y : Str} {k : Nat} {p1 p2 pos : Pos} {r : Rep α} {r' : Rep β} (hc : X.calm = true := by rfl) (hN : X.N.Nodup := by first | assumption | decide) (hi : X.N[i]? = some x := by rfl) (hx : Loc X.env.scope x := by first | exact Or.inl rfl | exact Or.inr rfl) (hf : X.fn x = true ∨ X.env.scope.names.lookup x = some .local := by first | exact .inl rfl | exact .inr rfl)
    (hj : X.N[j]? = some y := by rfl) (hy : Loc X.env.scope y := by first | exact Or.inl rfl | exact Or.inr rfl) (hf' : X.fn y = true ∨ X.env.scope.names.lookup y = some .local := by first | exact .inl rfl | exact .inr rfl) :
    BG X (.Tuple [.Name x p1, .Name y p2] k pos) (rPair r r') (fun w Γ => (Γ.set i (.im r w.1)).set j (.im r' w.2)) := fun σ H0 R0 H R Γ v w E h Q q => by
  obtain ⟨a, v1, v2, rfl, ha, e1, e2⟩ := h
  exact gS (pg_tup hc (pgs_cons (pg_name hN hi hx hf) (pgs_cons (pg_name hN hj hy hf') pgs_nil))) ⟨a, _, rfl, SqT.of (E.sub _ _ ha), rfl, v1, [v2], rfl, v2, [], rfl, rfl, q _ ((E.set i e1).set j e2)⟩
theorem paired_at' {F : α → β → Prop} : ∀ {vs : List α} {xs : List β}, PySem.Paired F vs xs → ∀ {i : Nat} {v : α}, vs[i]? = some v → ∃ y, xs[i]? = some y ∧ F v y
  | _, _, .nil, i, y, h => by simp at h
  | _, _, .cons h t, 0, y, e => by simp at e; subst e; exact ⟨_, rfl, h⟩
  | _, _, .cons h t, i + 1, y, e => by
    obtain ⟨v, e1, e2⟩ := paired_at' t (i := i) (v := y) (by simpa using e)
    exact ⟨v, by simpa using e1, e2⟩
end
end Fc

set_option Elab.async false
set_option linter.all false
set_option maxRecDepth 100000
set_option maxHeartbeats 4000000
namespace Fc
open PySem PySem.Spec L2
open PyProof.Rows hiding St
section
variable {X : Cx} {Γ Γ1 Γ2 Γ3 : Ga} {α β γ δ : Type} {N : Ga → Prop} {T : RT}
theorem at_of {σ : St} {i : Nat} {v : V} (e : (σ[i]?).join = some v) : σ[i]? = some (some v) := by
  cases es : σ[i]? with
  | none => rw [es] at e; cases e
  | some o => rw [es] at e; exact congrArg some e
theorem w_while {c : Expr} {body : List Stmt} {pos : Pos} (I : Nat → Ga → Prop) {m0 : Nat} (h0 : I m0 Γ)
    (hstep : ∀ (m : Nat) (Γ : Ga), I m Γ → ∃ (k : Bool) (Γ' : Ga), TV X c Γ k Γ' ∧ (k = true → WS X body Γ' (fun Γ'' => ∃ m', m' < m ∧ I m' Γ'') T) ∧ (k = false → N Γ'))
    (hp : PassesOwn (model X.prog X.w) X.A X.env X.xe := by exact PassesOwn.never) : W1 X (.While c body [] pos) Γ N T := fun σ H0 R0 H R E D dn dr => by
  refine sS (ps_while hp ptS pssS) ?_
  refine ⟨fun m σ' H' => ∃ R' Γ', EnvOk X.K σ' H0 R0 H' R' Γ' ∧ Same R R' ∧ I m Γ', ⟨m0, R, Γ, E, Same.refl _, h0⟩, ?_⟩
  rintro m σ' H' ⟨R', Γ', E', s', hI⟩
  obtain ⟨k, Γ2, ht, h1, h2⟩ := hstep m Γ' hI
  refine ht σ' H0 R0 H' R' E' _ fun H1 R1 E1 s1 => ?_
  cases k with
  | true =>
    refine iteT ⟨_, fun σ2 H2 h => h, h1 rfl σ' H0 R0 H1 R1 E1 _ (fun σ3 H3 R3 Γ3 E3 s3 h3 => ?_) dr⟩
    obtain ⟨m', hm, hI'⟩ := h3
    exact ⟨m', hm, R3, Γ3, E3, s'.trans (s1.trans s3), hI'⟩
  | false => exact iteF (dn σ' H1 R1 Γ2 E1 (s'.trans s1) (h2 rfl))
theorem w_append (i : Nat) {x : Str} {e : Expr} {p1 ap cp pos : Pos} {r : Rep α} {xs : List α} {y : α} (he : EV X e Γ r y Γ1) (hΓ : Γ[i]? = some (.mu r xs)) (hΓ1 : Γ1[i]? = some (.mu r xs)) (hz : xs.length < sizeLine) (h : N (Γ1.set i (.mu r (xs ++ [y]))))
    (hN : X.N[i]? = some x := by rfl) (hv : Vis X.env.scope x := by first | exact Or.inl rfl | exact Or.inr (Or.inl rfl) | exact Or.inr (Or.inr rfl))
    (hd : (x == ("__debug__" : Str)) = false := by decide) (hcd : (x == ("__classdict__" : Str)) = false := by decide)
    (hsw : swapsWith (.Call (.Attribute (.Name x p1) "append" ap) [e] [] cp) none pos.line X.env = pure false := by rfl)
    (hbase : attributeBase (.Name x p1) "append" X.env (eval (.Name x p1) X.env) = eval (.Name x p1) X.env := by rfl)
    (hfew : ((backTo cp (starEach [e] X.env)).all (fun x => !x.1) && (backToKw cp (keywordEach [] X.env)).all (fun x => x.1.isSome)
      && decide ([e].length + ([] : List Keyword).length + (if ([] : List Keyword).isEmpty then 0 else 1) < 30)) = true := by rfl)
    (hline : (ap.endLine == cp.line) = true := by rfl) (hs : starEach [e] X.env = (false, eval e X.env) :: starEach [] X.env := by rfl) : W1 X (.Expr (.Call (.Attribute (.Name x p1) "append" ap) [e] [] cp) pos) Γ N T := fun σ H0 R0 H R E D dn dr => by
  obtain ⟨a, vs, ea, ha, hR, pp⟩ := E.ent i _ hΓ
  refine sS (ps_expr (pe_bm PySem.F.plainAttrs_list PySem.F.slot_list_append PySem.F.type_list_append mt_append (pe_var hN hv hd hcd) (pa_cons peS pa_nil hs) hbase hfew hline hs rfl) hsw) ?_
  refine ⟨.ref a, at_of ea, .inl ⟨rfl, vs, SqL.of ha⟩, he σ H0 R0 H R E _ fun v H1 R1 E1 s1 e1 => ?_⟩
  obtain ⟨a', vs', ea', ha', hR', pp'⟩ := E1.ent i _ hΓ1
  rw [ea] at ea'; cases ea'
  refine ⟨a, vs', v, rfl, rfl, ha', by rw [pp'.length]; exact hz, ?_⟩
  exact dn σ _ R1 _ (E1.upd (en := .mu r (xs ++ [y])) hΓ1 rfl ea hR' ⟨a, _, rfl, upd_same, hR', paired_append pp' (.cons e1 .nil)⟩) s1 h
theorem paired_set {F : α → β → Prop} {v : α} {y : β} (h : F v y) : ∀ {vs : List α} {xs : List β} (i : Nat), PySem.Paired F vs xs → PySem.Paired F (vs.set i v) (xs.set i y)
  | _, _, _, .nil => .nil
  | _, _, 0, .cons _ t => .cons h t
  | _, _, i + 1, .cons q t => .cons q (paired_set h i t)
theorem w_setix (i : Nat) {x : Str} {b e : Expr} {p1 p2 pos : Pos} {r : Rep α} {xs : List α} {y : α} {k : Int} {j : Nat} (he : EV X e Γ r y Γ1) (hb : EV X b Γ1 rInt k Γ2) (hΓ1 : Γ1[i]? = some (.mu r xs)) (hΓ2 : Γ2[i]? = some (.mu r xs)) (hj : ixN xs.length k = some j) (h : N (Γ2.set i (.mu r (xs.set j y))))
    (hN : X.N[i]? = some x := by rfl) (hv : Vis X.env.scope x := by first | exact Or.inl rfl | exact Or.inr (Or.inl rfl) | exact Or.inr (Or.inr rfl))
    (hd : (x == ("__debug__" : Str)) = false := by decide) (hcd : (x == ("__classdict__" : Str)) = false := by decide)
    (ha : ∀ v, assign (.Subscript (.Name x p1) b p2) X.env v = (do
      let ov ← holding [v] (eval (.Name x p1) X.env)
      let iv ← holding [v, ov] (eval b X.env)
      standAt p2
      holding [v, ov, iv] (setItem ov iv v)
      release [v, ov, iv] []) := by intro _; rfl)
    (hs : swapsWithSole [.Subscript (.Name x p1) b p2] e pos.line X.env = pure false := by rfl) (hw : swappedStores [.Subscript (.Name x p1) b p2] e X.env = pure none := by rfl) (h1 : (assignEach [.Subscript (.Name x p1) b p2] X.env).map (·.2) = [assign (.Subscript (.Name x p1) b p2) X.env] := by rfl) :
    W1 X (.Assign [.Subscript (.Name x p1) b p2] e pos) Γ N T := fun σ H0 R0 H R E D dn dr => by
  refine sS (ps_asg peS (pg_sub (pe_var hN hv hd hcd) peS set_list ha) hs hw h1) (he σ H0 R0 H R E _ fun v H1 R1 E1 s1 e1 => ?_)
  obtain ⟨a, vs, ea, hp, hR, pp⟩ := E1.ent i _ hΓ1
  refine ⟨.ref a, at_of ea, hb σ H0 R0 H1 R1 E1 _ fun u H2 R2 E2 s2 e2 => ?_⟩
  obtain ⟨a', vs', ea', ha', hR', pp'⟩ := E2.ent i _ hΓ2
  rw [ea] at ea'; cases ea'
  refine ⟨a, vs', k, j, rfl, e2, ha', by rw [pp'.length]; exact hj, ?_⟩
  exact dn σ _ R2 _ (E2.upd (en := .mu r (xs.set j y)) hΓ2 rfl ea hR' ⟨a, _, rfl, upd_same, hR', paired_set (r.mono s2 e1) j pp'⟩) (s1.trans s2) h
theorem paired_dropLast {F : α → β → Prop} {vs : List α} {xs : List β} (p : PySem.Paired F vs xs) : PySem.Paired F vs.dropLast xs.dropLast := by
  rw [List.dropLast_eq_take, List.dropLast_eq_take, p.length]
  exact paired_take _ p
theorem ev_pop (i : Nat) {x : Str} {p1 ap cp : Pos} {r : Rep α} {xs : List α} {y : α} (hΓ : Γ[i]? = some (.mu r xs)) (hy : xs[xs.length - 1]? = some y)
    (hN : X.N[i]? = some x := by rfl) (hv : Vis X.env.scope x := by first | exact Or.inl rfl | exact Or.inr (Or.inl rfl) | exact Or.inr (Or.inr rfl))
    (hd : (x == ("__debug__" : Str)) = false := by decide) (hcd : (x == ("__classdict__" : Str)) = false := by decide)
    (hbase : attributeBase (.Name x p1) "pop" X.env (eval (.Name x p1) X.env) = eval (.Name x p1) X.env := by rfl) (hline : (ap.endLine == cp.line) = true := by rfl) :
    EV X (.Call (.Attribute (.Name x p1) "pop" ap) [] [] cp) Γ r y (Γ.set i (.mu r xs.dropLast)) := by
  intro σ H0 R0 H R E Q q
  obtain ⟨a, vs, ea, ha, hR, pp⟩ := E.ent i _ hΓ
  obtain ⟨v, hv', hr⟩ := paired_at pp hy
  refine eS (pe_bm0 PySem.F.plainAttrs_list PySem.F.slot_list_pop PySem.F.type_list_pop mt_pop (pe_var hN hv hd hcd) hbase hline) ⟨.ref a, at_of ea, .inl ⟨rfl, vs, SqL.of ha⟩, ?_⟩
  refine ⟨a, vs, v, rfl, rfl, ha, by rw [pp.length]; exact hv', ?_⟩
  exact q v _ R (E.upd hΓ rfl ea hR ⟨a, _, rfl, upd_same, hR, paired_dropLast pp⟩) (Same.refl _) hr
theorem tv_own (i : Nat) {x : Str} {pos : Pos} {r : Rep α} {xs : List α} (hΓ : Γ[i]? = some (.mu r xs)) (hN : X.N[i]? = some x := by rfl) (hv : Vis X.env.scope x := by first | exact Or.inl rfl | exact Or.inr (Or.inl rfl) | exact Or.inr (Or.inr rfl))
    (hd : (x == ("__debug__" : Str)) = false := by decide) (hcd : (x == ("__classdict__" : Str)) = false := by decide)
    (he : ∀ whole, isTrue (.Name x pos) X.env whole = (do let v ← whole; standAt (Expr.Name x pos).pos; holding [v] (truthy v)) := by intro _; rfl) : TV X (.Name x pos) Γ (!xs.isEmpty) Γ := by
  intro σ H0 R0 H R E Q q
  obtain ⟨a, vs, ea, ha, hR, pp⟩ := E.ent i _ hΓ
  refine tS (pt_truth (pe_var hN hv hd hcd) he) ⟨.ref a, at_of ea, !xs.isEmpty, .inl ⟨vs, SqL.of ha, ?_⟩, q H R E (Same.refl _)⟩
  cases pp <;> rfl
theorem ev_lenM (i : Nat) {x : Str} {p1 p pos : Pos} {r : Rep α} {xs : List α} (hm : X.mg "len" = none) (hΓ : Γ[i]? = some (.mu r xs)) (hN : X.N[i]? = some x := by rfl) (hv : Vis X.env.scope x := by first | exact Or.inl rfl | exact Or.inr (Or.inl rfl) | exact Or.inr (Or.inr rfl))
    (hd : (x == ("__debug__" : Str)) = false := by decide) (hcd : (x == ("__classdict__" : Str)) = false := by decide) (hg : Gl X "len" := by rfl) : EV X (.Call (.Name "len" p) [.Name x p1] [] pos) Γ rInt (xs.length : Int) Γ := by
  intro σ H0 R0 H R E Q q
  obtain ⟨a, vs, ea, ha, hR, pp⟩ := E.ent i _ hΓ
  refine eS (pe_callB call_len_seq hg hm PySem.boot_len (pa_cons (pe_var hN hv hd hcd) pa_nil rfl) (by decide) (by decide) rfl) ⟨.ref a, at_of ea, a, vs, rfl, .inl (SqL.of ha), ?_⟩
  rw [pp.length]
  exact q _ H R E (Same.refl _) rfl
theorem freeze {K : PySem.W.Frag} {σ : St} {H0 R0 H R : Hp} (E : EnvOk K σ H0 R0 H R Γ) {i : Nat} {r : Rep α} {xs : List α} (hΓ : Γ[i]? = some (.mu r xs)) (hz : xs.length ≤ sizeLine) : ∃ R' v, EnvOk K σ H0 R0 H R' (Γ.set i (.im (rList r) xs)) ∧ Same R R' ∧ (σ[i]?).join = some v ∧ (rList r).R K R' v xs := by
  obtain ⟨a, vs, ea, ha, hR, pp⟩ := E.ent i _ hΓ
  have h0 : H0 a = none := E.new i _ a hΓ rfl ea
  have s2 : Same R (upd R a (.lst vs)) := Same.fresh hR _
  have rr : (rList r).R K (upd R a (.lst vs)) (.ref a) xs := ⟨a, vs, rfl, upd_same, Paired.map (fun _ _ => r.mono s2) pp, hz⟩
  have E1 : EnvOk K σ H0 R0 H R (Γ.set i .no) := E.tell hΓ trivial fun b w => by cases w
  have E2 := E1.still ha hR h0 fun j e q w => by
    rcases set_at q with ⟨rfl, rfl, _⟩ | ⟨hj, q1⟩
    · cases w
    · exact hj (E.ds j i e _ a q1 hΓ w ((Ent.own_fp (e := .mu r xs) rfl).mpr ea))
  have hl : i < Γ.length := (List.getElem?_eq_some_iff.mp hΓ).1
  have E3 := E2.tell (i := i) (e0 := .no) (en := .im (rList r) xs) (List.getElem?_set_self hl) ⟨_, ea, rr⟩ fun b w => by cases w
  rw [List.set_set] at E3
  exact ⟨_, .ref a, E3, s2, ea, rr⟩
def rDict : Rep (List (Int × V)) := ⟨fun K H v kvs => ∃ a, v = .ref a ∧ H a = some (.dK (dkOf kvs)), fun s ⟨a, e, q⟩ => ⟨a, e, s _ _ q⟩⟩
def dHas (kvs : List (Int × V)) (k : Int) : Bool := kvs.any fun p => decide (p.1 = k)
theorem val_dk (kvs : List (Int × V)) (k : Int) : (valV (dkOf kvs) (Sum.inl k : Key)).isSome = dHas kvs k := by
  rw [← valV_any]
  unfold dkOf dHas
  rw [List.any_map]
  congr 1
  funext p
  show decide ((Sum.inl p.1 : Key) = Sum.inl k) = decide (p.1 = k)
  by_cases h : p.1 = k
  · rw [h]; simp
  · rw [decide_eq_false h, decide_eq_false fun z => h (Sum.inl.inj z)]
def Quick (X : Cx) (e : Expr) (Γ : Ga) (k : Int) : Prop := ∀ (σ : St) (H0 R0 H R : Hp), EnvOk X.K σ H0 R0 H R Γ → ∀ (H' : Hp) (Q : VK), Q (.int k) H' → semE X e σ H' Q
theorem quick_name (i : Nat) {x : Str} {pos : Pos} {y : Int} (hΓ : Γ[i]? = some (.im rInt y)) (hN : X.N[i]? = some x := by rfl) (hv : Vis X.env.scope x := by first | exact Or.inl rfl | exact Or.inr (Or.inl rfl) | exact Or.inr (Or.inr rfl))
    (hd : (x == ("__debug__" : Str)) = false := by decide) (hcd : (x == ("__classdict__" : Str)) = false := by decide) : Quick X (.Name x pos) Γ y := fun σ H0 R0 H R E H' Q q => by
  obtain ⟨v, e, h⟩ := E.ent i _ hΓ
  cases h
  exact eS (pe_var hN hv hd hcd) ⟨_, at_of e, q⟩
theorem w_dict1 (i : Nat) {x : Str} {ke ve : Expr} {p1 p2 pos : Pos} {k : Int} {v : V} (hk : Quick X ke Γ k) (hv : PE X ve (tC v)) (h : N (Γ.set i (.di [(k, v)])))
    (hN : X.N.Nodup := by first | assumption | decide) (hi : X.N[i]? = some x := by rfl) (hx : Loc X.env.scope x := by first | exact Or.inl rfl | exact Or.inr rfl)
    (hs : swapsWith (.Dict [some ke] [ve] p2) (some (.Name x p1)) pos.line X.env = pure false := by rfl) (hf : X.fn x = true ∨ X.env.scope.names.lookup x = some .local := by first | exact .inl rfl | exact .inr rfl) :
    W1 X (.Assign [.Name x p1] (.Dict [some ke] [ve] p2) pos) Γ N T := fun σ H0 R0 H R E D dn dr => by
  refine sS (ps_set hN hi hx (pe_disp (pps_cons peS hv pps_nil) rfl rfl (by simp) (by simp)) hs hf) fun p hp => ?_
  refine hk σ H0 R0 H R E _ _ ?_
  refine ⟨upd_same, [(Sum.inl k, v)], rfl, (by show 1 ≤ 15; decide), ?_⟩
  have E1 := E.grow (Ext.freshM E.sub hp (.dK (dkOf [(k, v)])))
  have e : upd (upd H p (.dK [])) p (.dK (mergeK [] [(Sum.inl k, v)])) = upd H p (.dK (dkOf [(k, v)])) := by
    rw [upd_upd]; rfl
  rw [e]
  exact dn _ _ R _ (E1.setO (u := .dK (dkOf [(k, v)])) (en := .di [(k, v)]) i ⟨p, rfl, upd_same, E.sub.free hp⟩ (E.ext.h.free hp) fun j e _ q w => E.off hp j e q w) (Same.refl _) h
theorem tv_dinM (i : Nat) (neg : Bool) {x : Str} {e : Expr} {p1 pos : Pos} {kvs : List (Int × V)} {k : Int} (hu : X.A.units + 1 < cLine) (he : EV X e Γ rInt k Γ) (hΓ : Γ[i]? = some (.di kvs)) (hN : X.N[i]? = some x := by rfl) (hv : Vis X.env.scope x := by first | exact Or.inl rfl | exact Or.inr (Or.inl rfl) | exact Or.inr (Or.inr rfl))
    (hd : (x == ("__debug__" : Str)) = false := by decide) (hcd : (x == ("__classdict__" : Str)) = false := by decide) :
    TV X (.Compare e [if neg then .NotIn else .In] [.Name x p1] pos) Γ (if neg then !dHas kvs k else dHas kvs k) Γ := by
  intro σ H0 R0 H R E Q q
  cases neg with
  | false =>
    refine tS (pt_cmp (pc_din hu peS (pe_var hN hv hd hcd)) (by with_unfolding_all rfl)) (he σ H0 R0 H R E _ fun v H1 R1 E1 s1 e1 => ?_)
    obtain ⟨a, ea, ha, hR⟩ := E1.ent i _ hΓ
    cases e1
    refine ⟨.ref a, at_of ea, a, _, rfl, DGet.k (k := Sum.inl k) ha, _, rfl, ?_⟩
    rw [val_dk]
    exact q H1 R1 E1 s1
  | true =>
    refine tS (pt_cmp (pc_dnotin hu peS (pe_var hN hv hd hcd)) (by with_unfolding_all rfl)) (he σ H0 R0 H R E _ fun v H1 R1 E1 s1 e1 => ?_)
    obtain ⟨a, ea, ha, hR⟩ := E1.ent i _ hΓ
    cases e1
    refine ⟨.ref a, at_of ea, a, _, rfl, DGet.k (k := Sum.inl k) ha, _, rfl, ?_⟩
    rw [val_dk]
    exact q H1 R1 E1 s1
theorem w_dputNew (i : Nat) {x : Str} {ke ve : Expr} {p1 p2 pos : Pos} {k : Int} {v : V} {kvs : List (Int × V)} (hu : X.A.units + 1 < cLine) (hk : EV X ke Γ rInt k Γ) (hv : PE X ve (tC v)) (hΓ : Γ[i]? = some (.di kvs)) (hn : dHas kvs k = false) (hz : kvs.length < sizeLine) (h : N (Γ.set i (.di (kvs ++ [(k, v)]))))
    (hN : X.N[i]? = some x := by rfl) (hvi : Vis X.env.scope x := by first | exact Or.inl rfl | exact Or.inr (Or.inl rfl) | exact Or.inr (Or.inr rfl))
    (hd : (x == ("__debug__" : Str)) = false := by decide) (hcd : (x == ("__classdict__" : Str)) = false := by decide)
    (hs : swapsWith ve (some (.Subscript (.Name x p1) ke p2)) pos.line X.env = pure false := by rfl) : W1 X (.Assign [.Subscript (.Name x p1) ke p2] ve pos) Γ N T := fun σ H0 R0 H R E D dn dr => by
  refine sS (ps_dput hu (pe_var hN hvi hd hcd) peS hv hs) ?_
  obtain ⟨a, ea, ha, hR⟩ := E.ent i _ hΓ
  refine ⟨.ref a, at_of ea, hk σ H0 R0 H R E _ fun u H1 R1 E1 s1 e1 => ?_⟩
  obtain ⟨a', ea', ha', hR'⟩ := E1.ent i _ hΓ
  rw [ea] at ea'; cases ea'
  cases e1
  refine ⟨a, _, rfl, DPut.k (k := Sum.inl k) ha' (by unfold dkOf; rw [List.length_map]; exact hz), ?_⟩
  have vn : valV (dkOf kvs) (Sum.inl k : Key) = none := by
    have := val_dk kvs k
    rw [hn] at this
    cases q : valV (dkOf kvs) (Sum.inl k : Key) with
    | none => rfl
    | some z => rw [q] at this; cases this
  rw [putK_new v vn]
  have e : dkOf kvs ++ [((Sum.inl k : Key), v)] = dkOf (kvs ++ [(k, v)]) := by unfold dkOf; rw [List.map_append]; rfl
  rw [e]
  exact dn σ _ R1 _ (E1.upd (en := .di (kvs ++ [(k, v)])) hΓ rfl ea hR' ⟨a, rfl, upd_same, hR'⟩) s1 h
theorem w_retD (i : Nat) {x : Str} {p1 pos : Pos} {P : List (Int × V) → Prop} {kvs : List (Int × V)} (hΓ : Γ[i]? = some (.di kvs)) (h : P kvs) (hN : X.N[i]? = some x := by rfl) (hv : Vis X.env.scope x := by first | exact Or.inl rfl | exact Or.inr (Or.inl rfl) | exact Or.inr (Or.inr rfl))
    (hd : (x == ("__debug__" : Str)) = false := by decide) (hcd : (x == ("__classdict__" : Str)) = false := by decide) : W1 X (.Return (some (.Name x p1)) pos) Γ N (rtP X.K rDict P) := fun σ H0 R0 H R E D dn dr => by
  obtain ⟨a, ea, ha, hR⟩ := E.ent i _ hΓ
  have h0 : H0 a = none := E.new i _ a hΓ rfl ea
  refine sS (ps_ret (pe_var hN hv hd hcd)) ⟨.ref a, at_of ea, dr _ H (upd R a (.dK (dkOf kvs))) ⟨E.ext.h, E.ext.r.trans (Same.fresh hR _), fun b o qb => ?_, fun b hb => ?_⟩ ⟨kvs, ⟨a, rfl, upd_same⟩, h⟩⟩
  · by_cases hb : b = a
    · subst hb; rw [upd_same] at qb; cases qb; exact ha
    · rw [upd_ne hb] at qb; exact E.ext.s b o qb
  · rw [upd_ne (show b ≠ a from fun e => hb (by rw [e]; exact h0))]; exact E.ext.old b hb
theorem ev_lenD {a : Expr} {p pos : Pos} {kvs : List (Int × V)} (hm : X.mg "len" = none) (ha : EV X a Γ rDict kvs Γ1) (hs : starEach [a] X.env = [(false, eval a X.env)] := by rfl) (hg : Gl X "len" := by rfl) : EV X (.Call (.Name "len" p) [a] [] pos) Γ rInt (kvs.length : Int) Γ1 := by
  intro σ H0 R0 H R E Q q
  refine eS (pe_callB call_lenD hg hm PySem.boot_len (pa_cons peS pa_nil hs) (by decide) (by decide) hs) (ha σ H0 R0 H R E _ fun v H1 R1 E1 s1 e1 => ?_)
  obtain ⟨p, rfl, hp⟩ := e1
  refine ⟨p, _, rfl, E1.sub _ _ hp, ?_⟩
  unfold dkOf
  rw [List.length_map]
  exact q _ H1 R1 E1 s1 rfl
theorem ev_own (i : Nat) {x : Str} {p1 : Pos} {r : Rep α} {xs : List α} (hΓ : Γ[i]? = some (.mu r xs)) (hz : xs.length ≤ sizeLine) (hN : X.N[i]? = some x := by rfl) (hv : Vis X.env.scope x := by first | exact Or.inl rfl | exact Or.inr (Or.inl rfl) | exact Or.inr (Or.inr rfl))
    (hd : (x == ("__debug__" : Str)) = false := by decide) (hcd : (x == ("__classdict__" : Str)) = false := by decide) : EV X (.Name x p1) Γ (rList r) xs (Γ.set i (.im (rList r) xs)) := by
  intro σ H0 R0 H R E Q q
  obtain ⟨R', v, E', s', ev, hr⟩ := Fc.freeze E hΓ hz
  exact eS (pe_var hN hv hd hcd) ⟨v, at_of ev, q v H R' E' s' hr⟩
end
end Fc

set_option Elab.async false
set_option linter.all false
set_option maxRecDepth 100000
set_option maxHeartbeats 4000000
namespace Fc
open PySem PySem.Spec L2
open PyProof.Rows hiding St
abbrev SpD := PySem.W.Frag → List Pk → RT → Prop
def spG (S : SpD) (K : PySem.W.Frag) : Sp := fun vs H Q _ => ∃ R ps T, Same R H ∧ Pks K R vs ps ∧ S K ps T ∧ ∀ v H' R', Ext H R H' R' → T H v H' R' → Q v H'
theorem Pks.length {K : PySem.W.Frag} {R : Hp} : ∀ {vs : List V} {ps : List Pk}, Pks K R vs ps → vs.length = ps.length
  | _, _, .nil => rfl
  | _, _, .cons _ t => by rw [List.length_cons, List.length_cons, Pks.length t]
structure Cal (P : Program) (w : World) (K : PySem.W.Frag) (mg : Str → Option Value) (base : Heap) (x : Str) (k : Nat) (sp : Sp) : Prop where
  ex : ∃ f fd ps, FnOk P w K mg base CX0 k f fd ps sp ∧ mg x = some (.ref f) ∧ PySem.W.keepIn K (.ref f) = true ∧ Binds K fd ps []
theorem Cal.mono {P : Program} {w : World} {K : PySem.W.Frag} {mg : Str → Option Value} {base : Heap} {x : Str} {j k : Nat} {sp : Sp} (c : Cal P w K mg base x j sp) (h : j ≤ k) : Cal P w K mg base x k sp := by
  obtain ⟨f, fd, ps, F, a, b, c⟩ := c.ex
  exact ⟨f, fd, ps, F.mono h, a, b, c⟩
section
variable {X : Cx} {Γ Γ1 Γ2 Γ3 : Ga} {α β γ δ : Type} {N : Ga → Prop} {T : RT}
theorem ev_callT {S : SpD} {x : Str} {k : Nat} {e : Expr} {es : List Expr} {p pos : Pos} {ps : List Pk} {Q : VK} {σ : St} {H0 R0 H R : Hp} (C : Cal X.prog X.w X.K X.mg X.base x k (spG S X.K)) (hr : Room k X.A) (ha : HA X (e :: es) Γ ps Γ1) (hS : S X.K ps T) (E : EnvOk X.K σ H0 R0 H R Γ)
    (q : ∀ H1 R1 v H' R', EnvOk X.K σ H0 R0 H1 R1 Γ1 → Same R R1 → Ext H1 R1 H' R' → T H1 v H' R' → Q v H')
    (hg : Gl X x) (hdb : (x == ("__debug__" : Str)) = false) (he : starEach (e :: es) X.env = (false, eval e X.env) :: starEach es X.env) (hpl : (backTo pos (starEach es X.env)).any (·.1) = false) : semE X (.Call (.Name x p) (e :: es) [] pos) σ H Q := by
  obtain ⟨f, fd, pn, F, hm, hk, hb⟩ := C.ex
  refine eS (pe_call F hr hg hm hk hb .nil pass0 paS hdb he hpl) (ha σ H0 R0 H R E _ fun vs H1 R1 E1 s1 p1 => ?_)
  refine ⟨R1, ps, T, E1.sub, by rw [List.append_nil]; exact p1, hS, fun v H' R' x t => q H1 R1 v H' R' E1 s1 x t⟩
theorem ev_call {S : SpD} {x : Str} {k : Nat} {e : Expr} {es : List Expr} {p pos : Pos} {ps : List Pk} {r : Rep α} {y : α} (C : Cal X.prog X.w X.K X.mg X.base x k (spG S X.K)) (hr : Room k X.A) (ha : HA X (e :: es) Γ ps Γ1) (hS : S X.K ps (rtP X.K r (· = y)))
    (hg : Gl X x := by rfl) (hdb : (x == ("__debug__" : Str)) = false := by decide) (he : starEach (e :: es) X.env = (false, eval e X.env) :: starEach es X.env := by rfl) (hpl : (backTo pos (starEach es X.env)).any (·.1) = false := by rfl) : EV X (.Call (.Name x p) (e :: es) [] pos) Γ r y Γ1 := fun σ H0 R0 H R E Q q =>
  ev_callT C hr ha hS E (fun H1 R1 v H' R' E1 s1 xx t => by
    obtain ⟨z, e1, rfl⟩ := t
    exact q v H' R' (E1.grow xx) (s1.trans xx.r) e1) hg hdb he hpl
theorem evl_call {S : SpD} {x : Str} {k : Nat} {e : Expr} {es : List Expr} {p pos : Pos} {ps : List Pk} {r : Rep α} {ys : List α} (C : Cal X.prog X.w X.K X.mg X.base x k (spG S X.K)) (hr : Room k X.A) (ha : HA X (e :: es) Γ ps Γ1) (hS : S X.K ps (rtL X.K r (· = ys)))
    (hg : Gl X x := by rfl) (hdb : (x == ("__debug__" : Str)) = false := by decide) (he : starEach (e :: es) X.env = (false, eval e X.env) :: starEach es X.env := by rfl) (hpl : (backTo pos (starEach es X.env)).any (·.1) = false := by rfl) : EVL X (.Call (.Name x p) (e :: es) [] pos) Γ r ys Γ1 := fun σ H0 R0 H R E Q q =>
  ev_callT C hr ha hS E (fun H1 R1 v H' R' E1 s1 xx t => by
    obtain ⟨a, vs, zs, rfl, h0, h1, h2, p, z, rfl⟩ := t
    exact q a vs H' R' (E1.grow xx) (s1.trans xx.r) h1 h2 (E1.ext.h.free h0) (E1.off h0) p z) hg hdb he hpl
end
def gaOf (ps : List Pk) (n : Nat) : Ga := ps.map (fun p => Ent.im p.r p.x) ++ List.replicate (n - ps.length) .no
theorem env_start {K : PySem.W.Frag} {R H : Hp} {vs : List V} {ps : List Pk} {N : List Str} (s : Same R H) (p : Pks K R vs ps) (hl : ps.length ≤ N.length) : EnvOk K (L2.start N vs) H R H R (gaOf ps N.length) := by
  have noown : ∀ (i : Nat) (e : Ent) (o : Option V), (gaOf ps N.length)[i]? = some e → e.fp o = [] := fun i e o q => by
    unfold gaOf at q
    rcases List.mem_append.mp (List.mem_of_getElem? q) with z | z
    · obtain ⟨p, _, rfl⟩ := List.mem_map.mp z; rfl
    · obtain ⟨_, rfl⟩ := List.mem_replicate.mp z; rfl
  refine ⟨Ext.refl s, fun i e q => ?_, fun i e a q w => absurd w (by rw [noown i e _ q]; exact List.not_mem_nil), fun i j e e' a q _ w => absurd w (by rw [noown i e _ q]; exact List.not_mem_nil), ?_⟩
  · have hp := p.length
    unfold gaOf at q
    unfold L2.start
    by_cases hi : i < ps.length
    · rw [List.getElem?_append_left (by simpa using hi), List.getElem?_map] at q
      rw [List.getElem?_append_left (by simpa [hp] using hi), List.getElem?_map]
      have key : ∀ {vs : List V} {ps : List Pk}, Pks K R vs ps → ∀ (i : Nat) (p : Pk), ps[i]? = some p → ∃ v, vs[i]? = some v ∧ p.r.R K R v p.x := by
        intro vs ps h
        induction h with
        | nil => intro i p e; simp at e
        | cons a b ih =>
          intro i p e
          cases i with
          | zero => simp at e; subst e; exact ⟨_, rfl, a⟩
          | succ i => simpa using ih i p (by simpa using e)
      cases e1 : ps[i]? with
      | none => rw [e1] at q; cases q
      | some p1 =>
        rw [e1] at q
        cases q
        obtain ⟨v, h1, h2⟩ := key p i p1 e1
        rw [h1]
        exact ⟨v, rfl, h2⟩
    · rw [List.getElem?_append_right (by simpa using hi), List.getElem?_replicate] at q
      split at q
      · cases q; trivial
      · cases q
  · unfold gaOf L2.start
    rw [List.length_append, List.length_append, List.length_map, List.length_map, List.length_replicate, List.length_replicate, p.length]
section
variable {P : Program} {w : World} {K : PySem.W.Frag} {mg : Str → Option Value} {base : Heap}
theorem fn_ok {S : SpD} {x qual : Str} {st : Stmt} {f : Addr} {fd : FuncData} {N ps : List Str} {k : Nat} (F : Fun K x qual st f fd) (Sc : FnScope N ps (defScope st)) (hm : mg x = some (.ref f)) (hb : Binds K fd ps []) (len : ∀ qs T, S K qs T → qs.length = ps.length)
    (hbody : ∀ (cdv : Value) (A : Around) (outer : List Env) (s : Shared) (H : Hp) (E : XK) (qs : List Pk) (T : RT), Room k (A.deeper (envOfC qual (defScope st) s.heap.objs.size f cdv)) → S K qs T →
      WS (cxOf CX0 P w K mg base N qual (defScope st) f cdv A outer s H E).nox (defBody st) (gaOf qs N.length) (fun _ => False) T) : Cal P w K mg base x (k + 1) (spG S K) := by
  refine ⟨f, fd, ps, ?_, hm, F.kp, hb⟩
  refine F.ok Sc (fun vs H Q E h => ?_) (fun cdv A outer s H vs Q E hr h => ?_)
  · obtain ⟨R, qs, T, _, p, hS, _⟩ := h
    rw [p.length]; exact len qs T hS
  · obtain ⟨R, qs, T, sR, p, hS, q⟩ := h
    have hl : qs.length ≤ N.length := by
      rw [len qs T hS]
      have := congrArg List.length Sc.pre
      rw [List.length_take] at this
      omega
    exact ⟨_, pssS, hbody cdv A outer s H E qs T hr hS (L2.start N vs) H R H R (env_start sR p hl) { nx := fun _ H' => Q .non H', rt := Q } (fun _ _ _ _ _ _ f => f.elim) fun v H' R' xx t => q v H' R' xx t⟩
end
end Fc

set_option Elab.async false
set_option linter.all false
set_option maxRecDepth 100000
set_option maxHeartbeats 4000000
namespace Fc
open PySem PySem.Spec L2
open PyProof.Rows hiding St
section
variable {X : Cx} {Γ Γ1 Γ2 Γ3 : Ga} {α β γ δ : Type} {N : Ga → Prop} {T : RT}
theorem bools_at {bs : List Bool} {us : List Value} (r : Vals (bs.map V.bl) us) {j : Nat} {v : Value} (h : us.toArray[j]? = some v) : v = .bool (bs.getD j true) := by
  induction bs generalizing us j with
  | nil => cases r; simp at h
  | cons b r' ih =>
    cases r with
    | cons h1 t =>
      cases j with
      | zero => simp at h; rw [← h]; exact h1
      | succ j => exact ih t (by simpa using h)
theorem all_range (bs : List Bool) : ((List.range bs.length).all fun j => bs.getD j true) = bs.all id := by
  rw [Bool.eq_iff_iff, List.all_eq_true, List.all_eq_true]
  constructor
  · intro h b hb
    obtain ⟨j, hj, rfl⟩ := List.mem_iff_getElem.mp hb
    have := h j (List.mem_range.mpr hj)
    simpa [List.getD_eq_getElem?_getD, List.getElem?_eq_getElem hj] using this
  · intro h j hj
    have hj := List.mem_range.mp hj
    simpa [List.getD_eq_getElem?_getD, List.getElem?_eq_getElem hj] using h _ (List.getElem_mem hj)
theorem any_range (bs : List Bool) : ((List.range bs.length).any fun j => bs.getD j true) = bs.any id := by
  rw [Bool.eq_iff_iff, List.any_eq_true, List.any_eq_true]
  constructor
  · rintro ⟨j, hj, h⟩
    have hj := List.mem_range.mp hj
    exact ⟨_, List.getElem_mem hj, by simpa [List.getD_eq_getElem?_getD, List.getElem?_eq_getElem hj] using h⟩
  · rintro ⟨b, hb, h⟩
    obtain ⟨j, hj, rfl⟩ := List.mem_iff_getElem.mp hb
    exact ⟨j, List.mem_range.mpr hj, by simpa [List.getD_eq_getElem?_getD, List.getElem?_eq_getElem hj] using h⟩
theorem call_all (hc : X.calm = true) : CallR X (.builtin "all") (fun xs H Q => ∃ (p : Addr) (bs : List Bool), xs = [.ref p] ∧ SqL X.K H p (bs.map V.bl) ∧ Q (.bl (bs.all id)) H) := by
  intro pins s σ H xs us Q I r h
  obtain ⟨p, bs, rfl, hq, q⟩ := h
  obtain ⟨u, rfl, rx⟩ := vals1 r
  cases rx
  obtain ⟨its, r', pl, hz⟩ := I.list hq
  have hne : p ≠ s.heap.objs.size := fun e => by obtain ⟨o, ho, _⟩ := pl.isList; exact absurd (Heap.lt_size ho) (by rw [e]; exact Nat.lt_irrefl _)
  refine call_all_walk (wpAny_pyIter_list pl.isList ?_)
  refine ⟨s.heap.objs.size, _, [s.heap.objs.size], its.toArray.size, _, _, fun j => bs.getD j true, rfl, Walks.list (A := X.A.in1) (show X.A.in1.handled = none from I.ok.hd hc) s.heap.objs.size p hne its.toArray, ?_, fun j v s Q E hv hQ => ?_, fun h' tk hk => ?_⟩
  · refine ⟨⟨_, Heap.get?_push_size _ rfl, rfl, rfl⟩, ?_⟩
    obtain ⟨o, ho, c, n, d⟩ := pl.isList
    exact ⟨o, Heap.get?_push_of_some _ ho, c, n, d⟩
  · rw [bools_at r' hv]; exact wpAny_truthy_bool hQ
  · have e : its.toArray.size = bs.length := by rw [List.size_toArray, ← r'.length, List.length_map]
    rw [e, all_range]
    exact ⟨.bl _, H, I.kept fun b o e => hk b o (fun z => absurd (Heap.lt_size e) (by rw [List.mem_singleton.mp z]; exact Nat.lt_irrefl _)) (Heap.get?_push_of_some _ e), rfl, q⟩
theorem call_any (hc : X.calm = true) : CallR X (.builtin "any") (fun xs H Q => ∃ (p : Addr) (bs : List Bool), xs = [.ref p] ∧ SqL X.K H p (bs.map V.bl) ∧ Q (.bl (bs.any id)) H) := by
  intro pins s σ H xs us Q I r h
  obtain ⟨p, bs, rfl, hq, q⟩ := h
  obtain ⟨u, rfl, rx⟩ := vals1 r
  cases rx
  obtain ⟨its, r', pl, hz⟩ := I.list hq
  have hne : p ≠ s.heap.objs.size := fun e => by obtain ⟨o, ho, _⟩ := pl.isList; exact absurd (Heap.lt_size ho) (by rw [e]; exact Nat.lt_irrefl _)
  refine call_any_walk (wpAny_pyIter_list pl.isList ?_)
  refine ⟨s.heap.objs.size, _, [s.heap.objs.size], its.toArray.size, _, _, fun j => bs.getD j true, rfl, Walks.list (A := X.A.in1) (show X.A.in1.handled = none from I.ok.hd hc) s.heap.objs.size p hne its.toArray, ?_, fun j v s Q E hv hQ => ?_, fun h' tk hk => ?_⟩
  · refine ⟨⟨_, Heap.get?_push_size _ rfl, rfl, rfl⟩, ?_⟩
    obtain ⟨o, ho, c, n, d⟩ := pl.isList
    exact ⟨o, Heap.get?_push_of_some _ ho, c, n, d⟩
  · rw [bools_at r' hv]; exact wpAny_truthy_bool hQ
  · have e : its.toArray.size = bs.length := by rw [List.size_toArray, ← r'.length, List.length_map]
    rw [e, any_range]
    exact ⟨.bl _, H, I.kept fun b o e => hk b o (fun z => absurd (Heap.lt_size e) (by rw [List.mem_singleton.mp z]; exact Nat.lt_irrefl _)) (Heap.get?_push_of_some _ e), rfl, q⟩
theorem bools_of {K : PySem.W.Frag} {R : Hp} : ∀ {vs : List V} {xs : List Bool}, PySem.Paired (rBool.R K R) vs xs → vs = xs.map V.bl
  | _, _, .nil => rfl
  | _, _, .cons h t => by rw [List.map_cons, ← bools_of t]; exact congrArg (· :: _) h
theorem ev_b1 {x : Str} {id : String} {r : List V → Hp → VK → Prop} {a : Expr} {p pos : Pos} {ra : Rep α} {rb : Rep β} {y : α} {z : β} (hc : CallR X (.builtin id) r) (hm : X.mg x = none) (hv : bootBuiltins x = some (.builtin id)) (ha : EV X a Γ ra y Γ1)
    (h : ∀ (R H : Hp) v Q, Same R H → ra.R X.K R v y → (∀ w, rb.R X.K R w z → Q w H) → r [v] H Q) (hs : starEach [a] X.env = [(false, eval a X.env)] := by rfl) (hg : Gl X x := by rfl) (hn : x ≠ "__name__" := by decide) (hdb : (x == ("__debug__" : Str)) = false := by decide) :
    EV X (.Call (.Name x p) [a] [] pos) Γ rb z Γ1 := by
  intro σ H0 R0 H R E Q q
  exact eS (pe_callB hc hg hm hv (pa_cons peS pa_nil hs) hn hdb hs) (ha σ H0 R0 H R E _ fun v H1 R1 E1 s1 e1 => h R1 H1 v _ E1.sub e1 fun w hw => q w H1 R1 E1 s1 hw)
theorem ev_all {a : Expr} {p pos : Pos} {bs : List Bool} (hm : X.mg "all" = none) (ha : EV X a Γ (rList rBool) bs Γ1) (hs : starEach [a] X.env = [(false, eval a X.env)] := by rfl) (hc : X.calm = true := by rfl) (hg : Gl X "all" := by rfl) : EV X (.Call (.Name "all" p) [a] [] pos) Γ rBool (bs.all id) Γ1 :=
  ev_b1 (call_all hc) hm boot_all ha (fun R H v Q s ⟨p, vs, e, hp, pp, _⟩ q => ⟨p, bs, by rw [e], by rw [← bools_of pp]; exact SqL.of (s _ _ hp), q _ rfl⟩) hs hg
theorem ev_any {a : Expr} {p pos : Pos} {bs : List Bool} (hm : X.mg "any" = none) (ha : EV X a Γ (rList rBool) bs Γ1) (hs : starEach [a] X.env = [(false, eval a X.env)] := by rfl) (hc : X.calm = true := by rfl) (hg : Gl X "any" := by rfl) : EV X (.Call (.Name "any" p) [a] [] pos) Γ rBool (bs.any id) Γ1 :=
  ev_b1 (call_any hc) hm boot_any ha (fun R H v Q s ⟨p, vs, e, hp, pp, _⟩ q => ⟨p, bs, by rw [e], by rw [← bools_of pp]; exact SqL.of (s _ _ hp), q _ rfl⟩) hs hg
theorem ev_intB {a : Expr} {p pos : Pos} {b : Bool} (hm : X.mg "int" = none) (ha : EV X a Γ rBool b Γ1) (hs : starEach [a] X.env = [(false, eval a X.env)] := by rfl) (hg : Gl X "int" := by rfl) : EV X (.Call (.Name "int" p) [a] [] pos) Γ rInt (if b then 1 else 0) Γ1 := by
  intro σ H0 R0 H R E Q q
  exact eS (pe_callTy call_int1 hg hm PyProof.Rows.boot_int (pa_cons peS pa_nil hs) (by decide) (by decide) hs) (ha σ H0 R0 H R E _ fun v H1 R1 E1 s1 e1 => .inr ⟨b, by rw [show v = V.bl b from e1], q _ H1 R1 E1 s1 rfl⟩)
theorem evl_list {a : Expr} {p pos : Pos} {r : Rep α} {xs : List α} (hm : X.mg "list" = none) (ha : EV X a Γ (rList r) xs Γ1) (hs : starEach [a] X.env = [(false, eval a X.env)] := by rfl) (hg : Gl X "list" := by rfl) : EVL X (.Call (.Name "list" p) [a] [] pos) Γ r xs Γ1 := by
  intro σ H0 R0 H R E Q q
  refine eS (pe_callTy call_list_of hg hm PyProof.Rows.boot_list (pa_cons peS pa_nil hs) (by decide) (by decide) hs) (ha σ H0 R0 H R E _ fun v H1 R1 E1 s1 e1 => ?_)
  obtain ⟨p, vs, rfl, hp, pp, z⟩ := e1
  exact ⟨p, vs, rfl, .inl (SqL.of (E1.sub _ _ hp)), fun l hl => q l vs _ R1 (E1.grow (Ext.freshM E1.sub hl _)) s1 upd_same (E1.sub.free hl) (E1.ext.h.free hl) (E1.off hl) pp z⟩
theorem ev_min2 {a b : Expr} {p pos : Pos} {x y : Int} (hm : X.mg "min" = none) (ha : HA X [a, b] Γ [⟨rInt, x⟩, ⟨rInt, y⟩] Γ1) (hs : starEach [a, b] X.env = (false, eval a X.env) :: starEach [b] X.env := by rfl) (hc : X.calm = true := by rfl) (hg : Gl X "min" := by rfl) (hpl : (backTo pos (starEach [b] X.env)).any (·.1) = false := by rfl) : EV X (.Call (.Name "min" p) [a, b] [] pos) Γ rInt (if y < x then y else x) Γ1 := by
  intro σ H0 R0 H R E Q q
  refine eS (pe_callB (call_min2 hc) hg hm PyProof.Rows.boot_min paS (by decide) (by decide) hs hpl) (ha σ H0 R0 H R E _ fun vs H1 R1 E1 s1 p1 => ?_)
  cases p1 with
  | cons a1 t => cases t with
    | cons a2 t2 => cases t2; cases a1; cases a2; exact ⟨x, y, rfl, q _ H1 R1 E1 s1 rfl⟩
end
end Fc

set_option Elab.async false
set_option linter.all false
set_option maxRecDepth 100000
set_option maxHeartbeats 4000000
namespace Fc
open PySem PySem.Spec L2
open PyProof.Rows hiding St
def Src (K : PySem.W.Frag) (J : It) (R1 : Hp) {α : Type} (r : Rep α) (xs : List α) : Prop :=
  ∀ (H' R' : Hp), Same R1 R' → Same R' H' → ∀ i : Nat, (∀ x, xs[i]? = some x → J.go i H' ∧ ∀ v H2, J.yld i H' v H2 → ∃ R2, Ext H' R' H2 R2 ∧ r.R K R2 v x) ∧ (xs.length ≤ i → J.stop i H')
section
variable {X : Cx} {Γ Γ1 Γ2 Γ3 : Ga} {α β γ δ : Type} {N : Ga → Prop} {T : RT}
def IV (X : Cx) (tg iter : Expr) (Γ : Ga) {α : Type} (r : Rep α) (xs : List α) (Γ1 : Ga) : Prop :=
  ∃ wi, PI X tg iter wi ∧ ∀ (σ : St) (H0 R0 H R : Hp), EnvOk X.K σ H0 R0 H R Γ → ∀ Rq : It → Hp → Prop, (∀ J H1 R1, EnvOk X.K σ H0 R0 H1 R1 Γ1 → Same R R1 → xs.length ≤ sizeLine → Src X.K J R1 r xs → Rq J H1) → wi σ H Rq
theorem iv_list {tg iter : Expr} {r : Rep α} {xs : List α} (h : EV X iter Γ (rList r) xs Γ1) : IV X tg iter Γ r xs Γ1 := by
  refine ⟨_, pi_list peS, fun σ H0 R0 H R E Rq q => h σ H0 R0 H R E _ fun v H1 R1 E1 s1 e1 => ?_⟩
  obtain ⟨a, vs, rfl, ha, pp, z⟩ := e1
  refine ⟨a, rfl, ⟨vs, SqL.of (E1.sub _ _ ha)⟩, q _ H1 R1 E1 s1 z fun H' R' sR sH i => ⟨fun x hx => ?_, fun hi => ?_⟩⟩
  · have hq : SqL X.K H' a vs := SqL.of (sH _ _ (sR _ _ ha))
    obtain ⟨v, hv, hr⟩ := paired_at pp hx
    refine ⟨⟨vs, v, hq, hv⟩, fun v' H2 hy => ?_⟩
    obtain ⟨rfl, hy⟩ := hy
    have := hy vs hq
    rw [hv] at this
    cases this
    exact ⟨R', Ext.refl sH, r.mono sR hr⟩
  · exact ⟨vs, SqL.of (sH _ _ (sR _ _ ha)), by rw [pp.length]; exact hi⟩
def ups (lo : Int) (n : Nat) : List Int := (List.range n).map fun (k : Nat) => lo + (k : Int)
theorem ups_length (lo : Int) (n : Nat) : (ups lo n).length = n := by unfold ups; rw [List.length_map, List.length_range]
theorem ups_at {lo : Int} {n i : Nat} {x : Int} (h : (ups lo n)[i]? = some x) : i < n ∧ x = lo + (i : Int) := by
  have hi : i < n := by have := (List.getElem?_eq_some_iff.mp h).1; rwa [ups_length] at this
  refine ⟨hi, ?_⟩
  unfold ups at h
  rw [List.getElem?_map, List.getElem?_range hi] at h
  exact (Option.some.inj h).symm
theorem src_rng {K : PySem.W.Frag} {R1 : Hp} (lo : Int) (n : Nat) : Src K (Itr lo n) R1 rInt (ups lo n) := fun H' R' sR sH i => ⟨fun x hx => by
  obtain ⟨h1, rfl⟩ := ups_at hx
  refine ⟨h1, fun v H2 hy => ?_⟩
  obtain ⟨rfl, rfl⟩ := hy
  exact ⟨R', Ext.refl sH, rfl⟩, fun hi => by rw [ups_length] at hi; exact hi⟩
theorem iv_range1 {tg a : Expr} {p1 p2 : Pos} {n : Int} (hm : X.mg "range" = none) (ha : EV X a Γ rInt n Γ1) (hn : -(2 ^ 62) ≤ n ∧ n ≤ 1000000) (hs1 : starEach [a] X.env = [(false, eval a X.env)] := by rfl) (hg : Gl X "range" := by rfl) : IV X tg (.Call (.Name "range" p1) [a] [] p2) Γ rInt (ups 0 n.toNat) Γ1 := by
  refine ⟨_, pi_range1 hg hm (pa_cons peS pa_nil hs1) hs1, fun σ H0 R0 H R E Rq q => ha σ H0 R0 H R E _ fun v H1 R1 E1 s1 e1 => ?_⟩
  exact ⟨n, by rw [show v = V.int n from e1], hn.1, by omega, q _ H1 R1 E1 s1 (by rw [ups_length]; exact Nat.le_trans (show n.toNat ≤ 1000000 by omega) (by decide)) (src_rng 0 n.toNat)⟩
theorem iv_range2 {tg a b : Expr} {p1 p2 : Pos} {m n : Int} (hm : X.mg "range" = none) (ha : EV X a Γ rInt m Γ1) (hb : EV X b Γ1 rInt n Γ2) (hn : -1000000 ≤ m ∧ m ≤ 1000000 ∧ -1000000 ≤ n ∧ n ≤ 1000000)
    (hs1 : starEach [a, b] X.env = [(false, eval a X.env), (false, eval b X.env)] := by rfl) (hs2 : starEach [b] X.env = [(false, eval b X.env)] := by rfl) (hg : Gl X "range" := by rfl) : IV X tg (.Call (.Name "range" p1) [a, b] [] p2) Γ rInt (ups m (n - m).toNat) Γ2 := by
  refine ⟨_, pi_range2 hg hm (pa_cons peS (pa_cons peS pa_nil hs2) (by rw [hs1, hs2])) hs1 hs2, fun σ H0 R0 H R E Rq q => ha σ H0 R0 H R E _ fun v H1 R1 E1 s1 e1 => hb σ H0 R0 H1 R1 E1 _ fun u H2 R2 E2 s2 e2 => ?_⟩
  exact ⟨m, n, by rw [show v = V.int m from e1, show u = V.int n from e2], ⟨by omega, by omega, by omega, by omega⟩, q _ H2 R2 E2 (s1.trans s2) (by rw [ups_length]; exact Nat.le_trans (show (n - m).toNat ≤ 2000000 by omega) (by decide)) (src_rng m (n - m).toNat)⟩
theorem w_forI {tg iter : Expr} {body : List Stmt} {pos : Pos} {r : Rep α} {xs : List α} {bf : α → Ga → Ga} (I : Nat → Ga → Prop) (hit : IV X tg iter Γ r xs Γ1) (hb : BG X tg r bf) (h0 : I 0 Γ1)
    (hstep : ∀ (i : Nat) (x : α) (Γ : Ga), xs[i]? = some x → I i Γ → WS X body (bf x Γ) (I (i + 1)) T) (hend : ∀ Γ : Ga, I xs.length Γ → N Γ)
    (hc : X.calm = true := by rfl) (hp : PassesOwn (model X.prog X.w) X.A X.env X.xe := by exact PassesOwn.never) (hs : ∀ x, foldedSetIterable iter X.env x = pure x := by intro _; rfl) : W1 X (.For tg iter body [] pos) Γ N T := fun σ H0 R0 H R E D dn dr => by
  obtain ⟨wi, hi, hit⟩ := hit
  refine sS (ps_for hp hc hi pgS pssS hs) (hit σ H0 R0 H R E _ fun J H1 R1 E1 s1 hz src => ?_)
  refine ⟨fun i m σ' H' => m = xs.length - i ∧ i ≤ xs.length ∧ ∃ R' Γ', EnvOk X.K σ' H0 R0 H' R' Γ' ∧ Same R1 R' ∧ I i Γ', ⟨_, rfl, Nat.zero_le _, R1, Γ1, E1, Same.refl _, h0⟩, ?_⟩
  rintro i m σ' H' ⟨rfl, hle, R', Γ', E', s', hI⟩
  obtain ⟨sgo, sstop⟩ := src H' R' s' E'.sub i
  by_cases hlt : i < xs.length
  · obtain ⟨go, yl⟩ := sgo _ (List.getElem?_eq_getElem hlt)
    refine .inr ⟨go, fun σ' H' => i + 1 ≤ xs.length ∧ ∃ R' Γ', EnvOk X.K σ' H0 R0 H' R' Γ' ∧ Same R1 R' ∧ I (i + 1) Γ', fun σ2 H2 h => ⟨xs.length - (i + 1), by omega, rfl, h.1, h.2⟩, fun v H2 hy => ?_⟩
    obtain ⟨R2, x2, hr⟩ := yl v H2 hy
    refine hb σ' H0 R0 H2 R2 Γ' v _ (E'.grow x2) hr _ fun σ2 E2 => ?_
    exact hstep i _ Γ' (List.getElem?_eq_getElem hlt) hI σ2 H0 R0 H2 R2 E2 _ (fun σ3 H3 R3 Γ3 E3 s3 h3 => ⟨hlt, R3, Γ3, E3, s'.trans (x2.r.trans s3), h3⟩) dr
  · have e : i = xs.length := by omega
    subst e
    exact .inl ⟨sstop (Nat.le_refl _), dn σ' H' R' Γ' E' (s1.trans s') (hend Γ' hI)⟩
def lent : Option Ent → Ent
  | some (.im r x) => .im r x
  | _ => .no
def cGa (own : List Str) (ix : List Nat) (Γ : Ga) : Ga := List.replicate own.length .no ++ ix.map fun i => lent Γ[i]?
theorem env_comp {K : PySem.W.Frag} {σ : St} {H0 R0 H R : Hp} (E : EnvOk K σ H0 R0 H R Γ) (own : List Str) (ix : List Nat) : EnvOk K (zComp own ix σ) H R H R (cGa own ix Γ) := by
  have noown : ∀ (i : Nat) (e : Ent) (o : Option V), (cGa own ix Γ)[i]? = some e → e.fp o = [] := fun i e o q => by
    unfold cGa at q
    rcases List.mem_append.mp (List.mem_of_getElem? q) with z | z
    · obtain ⟨_, rfl⟩ := List.mem_replicate.mp z; rfl
    · obtain ⟨k, _, rfl⟩ := List.mem_map.mp z
      unfold lent
      split <;> rfl
  refine ⟨Ext.refl E.sub, fun i e q => ?_, fun i e a q w => absurd w (by rw [noown i e _ q]; exact List.not_mem_nil), fun i j e e' a q _ w => absurd w (by rw [noown i e _ q]; exact List.not_mem_nil), by unfold cGa zComp; simp⟩
  unfold cGa at q
  unfold zComp
  by_cases hi : i < own.length
  · rw [List.getElem?_append_left (by simpa using hi), List.getElem?_replicate] at q
    rw [if_pos hi] at q
    cases q; trivial
  · rw [List.getElem?_append_right (by simpa using hi), List.length_replicate, List.getElem?_map] at q
    rw [List.getElem?_append_right (by simpa using hi), List.length_replicate, List.getElem?_map]
    cases ek : ix[i - own.length]? with
    | none => rw [ek] at q; cases q
    | some k =>
      rw [ek] at q
      have q' : lent Γ[k]? = e := Option.some.inj q
      subst q'
      show (lent Γ[k]?).ok K H R (σ[k]?).join
      cases eg : Γ[k]? with
      | none => trivial
      | some e =>
        cases e with
        | im r x => exact E.ent k _ eg
        | no => trivial
        | mu r x => trivial
        | di x => trivial
        | ob x => trivial
theorem comp_read {tg elt : Expr} {ifs : List Expr} {scope : Scope} {cl : List (Str × Addr)} {own fr : List Str} {ix : List Nat} {ra : Rep α} {rb : Rep β} {xs : List α} {p : α → Bool} {f : α → β} {bf : α → Ga → Ga} {J : It} {σ : St} {H0 R0 H1 R1 : Hp} {Q : VK} (E1 : EnvOk X.K σ H0 R0 H1 R1 Γ1) (src : Src X.K J R1 ra xs) (hz : xs.length ≤ sizeLine)
    (hb : ∀ (C : Addr) (s : Shared) (H : Hp) (ex : List Addr), BG (cxComp X scope cl C (own ++ fr) s H ex) tg ra bf) (hw : ∀ x, Wk (bf x (cGa own ix Γ1)) (cGa own ix Γ1))
    (ht : ∀ (C : Addr) (s : Shared) (H : Hp) (ex : List Addr) x, x ∈ xs → TF (cxComp X scope cl C (own ++ fr) s H ex) ifs (bf x (cGa own ix Γ1)) (p x) (bf x (cGa own ix Γ1)))
    (he : ∀ (C : Addr) (s : Shared) (H : Hp) (ex : List Addr) x, x ∈ xs → p x = true → EV (cxComp X scope cl C (own ++ fr) s H ex) elt (bf x (cGa own ix Γ1)) rb (f x) (bf x (cGa own ix Γ1)))
    (q : ∀ a vs H' R', Ext H1 R1 H' R' → H' a = none → PySem.Paired (rb.R X.K R') vs ((xs.filter p).map f) → Q (.ref a) (upd H' a (.lst vs))) :
    ∃ W : Nat → Nat → List V → St → Hp → Prop, (∃ m, W 0 m [] (zComp own ix σ) H1) ∧ ∀ i m ys σ' H', W i m ys σ' H' →
      ys.length ≤ sizeLine ∧ ((J.stop i H' ∧ ∀ p, H' p = none → Q (.ref p) (upd H' p (.lst ys))) ∨
      (J.go i H' ∧ ∀ x H2, J.yld i H' x H2 → (fun v σ H Q => ∀ C s Hh ex, semG (cxComp X scope cl C (own ++ fr) s Hh ex) tg v σ H Q : TG) x σ' H2 fun σ2 H3 => (fun σ H Q => ∀ C s Hh ex, semF (cxComp X scope cl C (own ++ fr) s Hh ex) ifs σ H Q : TT) σ2 H3 fun b H4 =>
        if b = true then (fun σ H Q => ∀ C s Hh ex, semE (cxComp X scope cl C (own ++ fr) s Hh ex) elt σ H Q : TE) σ2 H4 fun v H5 => ∃ m', m' < m ∧ W (i + 1) m' (ys ++ [v]) σ2 H5 else ∃ m', m' < m ∧ W (i + 1) m' ys σ2 H4)) := by
  refine ⟨fun i m ys σ' H' => m = xs.length - i ∧ i ≤ xs.length ∧ ∃ R', EnvOk X.K σ' H1 R1 H' R' (cGa own ix Γ1) ∧ PySem.Paired (rb.R X.K R') ys (((xs.take i).filter p).map f), ⟨_, rfl, Nat.zero_le _, R1, env_comp E1 own ix, .nil⟩, ?_⟩
  rintro i m ys σ' H' ⟨rfl, hle, R', E', pp⟩
  have hys : ys.length ≤ sizeLine := by
    rw [pp.length, List.length_map]
    refine Nat.le_trans (List.length_filter_le _ _) (Nat.le_trans ?_ hz)
    rw [List.length_take]; omega
  obtain ⟨sgo, sstop⟩ := src H' R' E'.ext.r E'.sub i
  refine ⟨hys, ?_⟩
  by_cases hlt : i < xs.length
  · obtain ⟨go, yl⟩ := sgo _ (List.getElem?_eq_getElem hlt)
    have hmem : xs[i] ∈ xs := List.getElem_mem hlt
    have tk : (xs.take (i + 1)) = xs.take i ++ [xs[i]] := by rw [List.take_succ, List.getElem?_eq_getElem hlt]; rfl
    refine .inr ⟨go, fun v H2 hy C s Hh ex => ?_⟩
    obtain ⟨R2, x2, hr⟩ := yl v H2 hy
    refine hb C s Hh ex σ' H1 R1 H2 R2 _ v _ (E'.grow x2) hr _ fun σ2 E2 => ?_
    intro C s Hh ex
    refine ht C s Hh ex _ hmem σ2 H1 R1 H2 R2 E2 _ fun H4 R4 E4 s4 => ?_
    cases hpx : p xs[i] with
    | false =>
      rw [if_neg Bool.false_ne_true]
      refine ⟨xs.length - (i + 1), by omega, rfl, hlt, R4, E4.weak (hw _), ?_⟩
      rw [tk, List.filter_append, List.filter_cons, hpx, if_neg Bool.false_ne_true, List.filter_nil, List.append_nil]
      exact Paired.map (fun _ _ => rb.mono (x2.r.trans s4)) pp
    | true =>
      rw [if_pos rfl]
      intro C s Hh ex
      refine he C s Hh ex _ hmem hpx σ2 H1 R1 H4 R4 E4 _ fun w H5 R5 E5 s5 e5 => ?_
      refine ⟨xs.length - (i + 1), by omega, rfl, hlt, R5, E5.weak (hw _), ?_⟩
      rw [tk, List.filter_append, List.filter_cons, hpx, if_pos rfl, List.filter_nil, List.map_append]
      exact paired_append (Paired.map (fun _ _ => rb.mono (x2.r.trans (s4.trans s5))) pp) (.cons e5 .nil)
  · have e : i = xs.length := by omega
    subst e
    rw [List.take_length] at pp
    exact .inl ⟨sstop (Nat.le_refl _), fun a ha => q a ys H' R' E'.ext ha pp⟩
theorem evl_comp {tg elt iter : Expr} {ifs : List Expr} {scope : Scope} {pos : Pos} {cl : List (Str × Addr)} {own fr : List Str} {ix : List Nat} {ra : Rep α} {rb : Rep β} {xs : List α} {p : α → Bool} {f : α → β} {bf : α → Ga → Ga}
    (S : CompScope X scope cl own fr ix) (hit : IV X tg iter Γ ra xs Γ1)
    (hb : ∀ (C : Addr) (s : Shared) (H : Hp) (ex : List Addr), BG (cxComp X scope cl C (own ++ fr) s H ex) tg ra bf) (hw : ∀ x, Wk (bf x (cGa own ix Γ1)) (cGa own ix Γ1))
    (ht : ∀ (C : Addr) (s : Shared) (H : Hp) (ex : List Addr) x, x ∈ xs → TF (cxComp X scope cl C (own ++ fr) s H ex) ifs (bf x (cGa own ix Γ1)) (p x) (bf x (cGa own ix Γ1)))
    (he : ∀ (C : Addr) (s : Shared) (H : Hp) (ex : List Addr) x, x ∈ xs → p x = true → EV (cxComp X scope cl C (own ++ fr) s H ex) elt (bf x (cGa own ix Γ1)) rb (f x) (bf x (cGa own ix Γ1)))
    (hc : X.calm = true := by rfl) (hs : ∀ x, foldedSetIterable iter X.env x = pure x := by intro _; rfl) : EVL X (.ListComp elt [⟨tg, iter, ifs, 0⟩] scope pos) Γ rb ((xs.filter p).map f) Γ1 := by
  intro σ H0 R0 H R E Q q
  obtain ⟨wi, hi, hit⟩ := hit
  refine eS (pe_comp (g := fun v σ H Q => ∀ C s Hh ex, semG (cxComp X scope cl C (own ++ fr) s Hh ex) tg v σ H Q) (tc := fun σ H Q => ∀ C s Hh ex, semF (cxComp X scope cl C (own ++ fr) s Hh ex) ifs σ H Q) (te := fun σ H Q => ∀ C s Hh ex, semE (cxComp X scope cl C (own ++ fr) s Hh ex) elt σ H Q) hc S hi
    (fun C s H ex => ⟨fun pins s1 σ H v u Q I r h => h C s _ ex pins s1 u I r, fun pins s1 σ H Q I h => h C s _ ex pins s1 I, fun pins s1 σ H Q I h => h C s _ ex pins s1 I⟩) hs) ?_
  refine hit σ H0 R0 H R E _ fun J H1 R1 E1 s1 hz src => comp_read E1 src hz hb hw ht he fun a vs H' R' xx ha pp => ?_
  have E2 := E1.grow xx
  exact q a vs _ R' (E2.grow (Ext.freshM E2.sub ha _)) (s1.trans xx.r) upd_same (E2.sub.free ha) (E2.ext.h.free ha) (E2.off ha) pp (by
    rw [List.length_map]; exact Nat.le_trans (List.length_filter_le _ _) hz)
end
end Fc

set_option Elab.async false
set_option linter.all false
set_option maxRecDepth 100000
set_option maxHeartbeats 4000000
namespace Fc
open PySem PySem.Spec L2
open PyProof.Rows hiding St
section
variable {X : Cx} {Γ Γ1 Γ2 Γ3 : Ga} {α β γ δ : Type} {N : Ga → Prop} {T : RT}
theorem turnedL {pins : List (Addr × Obj)} {σ : St} {H : Hp} {s : Shared} {h' : Heap} {t' : Nat} {fp : List Addr} (I : Inv X pins σ H s) (k : ∀ b o, b ∉ fp → s.heap.get? b = some o → h'.get? b = some o) (hf : ∀ b ∈ fp, FpOk X pins H b) : Inv X pins σ H { s with heap := h', toks := t' } := by
  have nit : ∀ b u, H b = some u → b ∉ fp := fun b u e z => by rw [(hf b z).1] at e; cases e
  refine I.step (g' := s.gens) (d' := s.drawn) (ch := fp) (fun b hb => ⟨(hf b hb).2.2.2.1, (hf b hb).2.1, (hf b hb).2.2.2.2.1, (hf b hb).2.2.2.2.2⟩) (fun b o _ _ hc e _ => k b o hc e) (fun b o _ _ hc e _ => ⟨o.slots, k b o hc e⟩) (fun _ _ _ _ n => n)
    (fun b o hc e => ⟨o, k b o hc e⟩) (fun _ _ e => e) (fun _ _ _ e => e) (fun b ps e => ⟨#[], by rw [e]; simp⟩) (fun m hm => ?_) (fun b u e => ?_) I.bare
  · obtain ⟨o, es, ep, ho, r⟩ := hm
    exact ⟨o, es, ep, k _ o (fun z => (hf _ z).2.1 rfl) ho, r⟩
  · refine (I.hok b u e).stay (fun c v hc q => k c v ?_ q) (fun _ q => q) fun _ _ q => q
    rcases hc with z | z
    · rw [z]; exact nit b u e
    · exact nit c _ z
theorem adopt {pins : List (Addr × Obj)} {σ : St} {H : Hp} {s : Shared} {a : Addr} {o : HO} (I : Inv X pins σ H s) (hf : FpOk X pins H a) (hy : X.s₀.heap.objs.size ≤ a) (new : ObjOk X.prog X.w (upd H a o) s.heap a o) : Inv X pins σ (upd H a o) s := by
  have ne : ∀ {b : Addr} {u : HO}, H b = some u → b ≠ a := fun e => ne_of_none e hf.1
  have ne0 : ∀ {b : Addr} {u : Obj}, X.s₀.heap.get? b = some u → b ≠ a := fun e z => absurd (Nat.lt_of_lt_of_le (Heap.lt_size e) hy) (by rw [z]; exact Nat.lt_irrefl _)
  refine ⟨I.ok, I.os, I.bare, ⟨I.base.keep, I.base.slot, fun b u e n hx => by rw [upd_ne (ne0 e)]; exact I.base.free b u e n hx, I.base.there, fun b xs e => ?_, fun b u v e => ?_, fun b ps e => ?_⟩, I.loc, I.cell, ?_, fun x c e => ?_, fun p hp => ?_, fun b u e => ?_, I.len⟩
  · have q := I.base.tups b xs e; rw [upd_ne (ne q)]; exact q
  · have q := I.base.frzs b u v e; rw [upd_ne (ne q)]; exact q
  · obtain ⟨m, q⟩ := I.base.tbls b ps e; exact ⟨m, by rw [upd_ne (ne q)]; exact q⟩
  · rw [upd_ne (Ne.symm hf.2.1)]; exact I.free
  · rw [upd_ne (hf.2.2.2.2.1 x c e)]; exact I.freeC x c e
  · obtain ⟨e, n, r⟩ := I.pin p hp
    exact ⟨e, by rw [upd_ne (hf.2.2.2.2.2 p hp)]; exact n, r⟩
  · by_cases hb : b = a
    · subst hb; rw [upd_same] at e; cases e; exact new
    · rw [upd_ne hb] at e
      exact (I.hok b u e).stay (fun c v _ q => q) (fun c q => by rw [upd_ne (ne q)]; exact q) fun c xs q => by rw [upd_ne (ne q)]; exact q
def Ite (K : PySem.W.Frag) (a : Addr) : It :=
  ⟨fun i H => ∃ xs x, SqL K H a xs ∧ xs[i]? = some x, fun i H v H' => ∃ p x, H p = none ∧ v = .ref p ∧ H' = upd H p (.tup [.int i, x]) ∧ ∀ xs, SqL K H a xs → xs[i]? = some x, fun i H => ∃ xs, SqL K H a xs ∧ xs.length ≤ i⟩
theorem turn_enum {P : Program} {w : World} {K : PySem.W.Frag} {es : List Expr} {k : Nat} {tp : Pos} (a e it : Addr) (hei : e ≠ it) : Turn P w K (.Tuple es k tp) (Ite K a) [e, it] e (fun i h => (∃ old, IsEnum h e it i old) ∧ h.IsListIter it a i) where
  mem := by simp
  obj := fun i h st b hb => by
    obtain ⟨⟨old, he⟩, o, ho, hc, hd⟩ := st
    rcases List.mem_cons.mp hb with rfl | hb
    · exact ⟨_, he, fun v z => by cases z⟩
    · have e2 : b = it := by simpa using hb
      subst e2
      exact ⟨o, ho, fun v z => by rw [hd] at z; cases z⟩
  keep := fun i h h' st kk => ⟨st.1.elim fun old he => ⟨old, kk e (by simp) _ he⟩, st.2.at fun o x => kk it (by simp) o x⟩
  item := by
    intro X hP hw hK hc i pins s σ H E I hf st hg
    subst hP hw hK
    obtain ⟨⟨old, he⟩, hit⟩ := st
    obtain ⟨xs, x, hq, hx⟩ := hg
    obtain ⟨its, r, pl, hz⟩ := I.list hq
    obtain ⟨u, hu, rx⟩ := r.get hx
    have hn : H s.heap.objs.size = none := I.hok.fresh (Nat.le_refl _)
    refine wpAny_pyNext_enum_item he hit pl.isList (x := u) (by simpa using hu) hei fun h' ho hit' hT hsz hk => ?_
    refine ⟨_, rfl, ?_⟩
    refine wpAny_letOwnedTupleGo_enum (s := { s with heap := h', toks := s.toks + 1 }) ho fun h2 he2 hs2 => ?_
    have hk2 : ∀ b o, b ∉ [e, it] → s.heap.get? b = some o → h2.get? b = some o := fun b o hb q => by
      have hbe : b ≠ e := fun z => hb (by simp [z])
      exact hs2.extBut b o hbe (hk b o hbe (fun z => hb (by simp [z])) q)
    have I1 : Inv X pins σ H { s with heap := h2, toks := s.toks + 1 } := turnedL I hk2 hf
    have hel : e ≠ s.heap.objs.size := Nat.ne_of_lt (Heap.lt_size he)
    have hT2 : h2.get? s.heap.objs.size = some { cls := .type "tuple", data := .seq #[.int i s.toks, u] } := (hs2.2 _ (Ne.symm hel)).trans hT
    have I2 : Inv X pins σ (upd H s.heap.objs.size (.tup [.int i, x])) { s with heap := h2, toks := s.toks + 1 } :=
      adopt I1 (I.fpOk (Nat.le_refl _) hn) (I.sz) ⟨by show 2 ≤ sizeLine; decide, [.int i s.toks, u], .cons ⟨_, rfl⟩ (.cons rx .nil), ⟨_, hT2, rfl, _, rfl⟩⟩
    refine ⟨.ref s.heap.objs.size, _, I2, rfl, ⟨s.heap.objs.size, x, hn, rfl, rfl, fun ys hy => ?_⟩, ⟨⟨u, by simpa using he2⟩, hit'.at fun o y => (hs2.2 it (Ne.symm hei)).trans y⟩, fun b hb => ?_⟩
    · rw [I.list_inj hy hq]; exact hx
    · have hlt : b < s.heap.objs.size := by
        rcases List.mem_cons.mp hb with rfl | hb
        · exact Heap.lt_size he
        · have e2 : b = it := by simpa using hb
          subst e2
          obtain ⟨o, ho, _⟩ := hit
          exact Heap.lt_size ho
      rw [upd_ne (Nat.ne_of_lt hlt)]
      exact (hf b hb).1
  done := by
    intro X hP hw hK hc i pins s σ H E I hf st hg
    subst hP hw hK
    obtain ⟨⟨old, he⟩, hit⟩ := st
    obtain ⟨xs, hq, hx⟩ := hg
    obtain ⟨its, r, pl, hz⟩ := I.list hq
    refine wpAny_pyNext_enum_end (I.ok.hd hc) he hit pl.isList (by have := r.length; simp; omega) fun h' hk => ⟨rfl, ?_⟩
    exact turnedL (t' := s.toks) I (fun b o hb q => hk b o (fun z => hb (by simp [z])) q) hf
  self := fun _ _ _ _ _ st h => st.1.elim fun old he => wpAny_pyIter_enum he h
def iEnum (K : PySem.W.Frag) (ta : TA) : TI := fun σ H R => ta σ H fun vs H1 => ∃ a xs, vs = [.ref a] ∧ SqL K H1 a xs ∧ R (Ite K a) H1
theorem pi_enum {a : Expr} {ta : TA} {p pos : Pos} {es : List Expr} {k : Nat} {tp : Pos} (hg : Gl X "enumerate") (hm : X.mg "enumerate" = none) (ha : PA X [a] ta) (hs : starEach [a] X.env = [(false, eval a X.env)] := by rfl) : PI X (.Tuple es k tp) (.Call (.Name "enumerate" p) [a] [] pos) (iEnum X.K ta) := by
  intro pins s σ H R I h
  refine Call_ (ld_blt I hg hm boot_enumerate (PyProof.Rows.callWith_type1 (thn (ha pos pins s σ H _ I h) fun us s1 ⟨vs, H1, I1, r1, q1⟩ => ?_) hs rfl))
  obtain ⟨l, xs, e, hq, q⟩ := q1
  subst e
  cases r1 with
  | cons r rr =>
    cases rr
    cases r
    obtain ⟨its, r', pl, hz⟩ := I1.list hq
    refine call_enumerate_list pl.isList fun h' he hit hsz hk => ?_
    refine wpAny_pyIter_enum he ?_
    have I2 : Inv X pins σ H1 { s1 with heap := h' } := I1.kept (t' := s1.toks) hk
    have f0 : H1 s1.heap.objs.size = none := I1.hok.fresh (Nat.le_refl _)
    have f1 : H1 (s1.heap.objs.size + 1) = none := I1.hok.fresh (Nat.le_succ _)
    refine ⟨s1.heap.objs.size + 1, [s1.heap.objs.size + 1, s1.heap.objs.size], _, _, H1, rfl, I2, turn_enum l (s1.heap.objs.size + 1) s1.heap.objs.size (Nat.ne_of_gt (Nat.lt_succ_self _)), ⟨⟨.none, he⟩, hit⟩, fun b hb => ?_, q⟩
    rcases List.mem_cons.mp hb with rfl | hb
    · exact I1.fpOk (Nat.le_succ _) f1
    · have e2 : b = s1.heap.objs.size := by simpa using hb
      subst e2
      exact I1.fpOk (Nat.le_refl _) f0
def nums (xs : List α) : List (Int × α) := (xs.zipIdx).map fun p => ((p.2 : Int), p.1)
theorem nums_length (xs : List α) : (nums xs).length = xs.length := by unfold nums; rw [List.length_map, List.length_zipIdx]
theorem nums_at {xs : List α} {i : Nat} {y : Int × α} (h : (nums xs)[i]? = some y) : y.1 = (i : Int) ∧ xs[i]? = some y.2 := by
  unfold nums at h
  rw [List.getElem?_map, List.getElem?_zipIdx] at h
  cases e : xs[i]? with
  | none => rw [e] at h; cases h
  | some x => rw [e] at h; cases h; exact ⟨by simp, rfl⟩
theorem iv_enum {a : Expr} {p pos : Pos} {es : List Expr} {k : Nat} {tp : Pos} {r : Rep α} {xs : List α} (hm : X.mg "enumerate" = none) (ha : EV X a Γ (rList r) xs Γ1) (hs : starEach [a] X.env = [(false, eval a X.env)] := by rfl) (hg : Gl X "enumerate" := by rfl) :
    IV X (.Tuple es k tp) (.Call (.Name "enumerate" p) [a] [] pos) Γ (rPair rInt r) (nums xs) Γ1 := by
  refine ⟨_, pi_enum hg hm (pa_cons peS pa_nil hs) hs, fun σ H0 R0 H R E Rq q => ha σ H0 R0 H R E _ fun v H1 R1 E1 s1 e1 => ?_⟩
  obtain ⟨a, vs, rfl, hp, pp, z⟩ := e1
  refine ⟨a, vs, rfl, SqL.of (E1.sub _ _ hp), q _ H1 R1 E1 s1 (by rw [nums_length]; exact z) fun H' R' sR sH i => ⟨fun y hy => ?_, fun hi => ?_⟩⟩
  · have hq : SqL X.K H' a vs := SqL.of (sH _ _ (sR _ _ hp))
    obtain ⟨e1, e2⟩ := nums_at hy
    obtain ⟨v, hv, hr⟩ := paired_at pp e2
    refine ⟨⟨vs, v, hq, hv⟩, fun v' H2 hyl => ?_⟩
    obtain ⟨p, x, hpn, rfl, rfl, hy⟩ := hyl
    have := hy vs hq
    rw [hv] at this
    cases this
    have s2 : Same R' (upd R' p (.tup [.int i, v])) := Same.fresh (sH.free hpn) _
    exact ⟨upd R' p (.tup [.int i, v]), Ext.fresh sH hpn _, p, _, _, rfl, upd_same, by rw [e1]; rfl, r.mono s2 (r.mono sR hr)⟩
  · exact ⟨vs, SqL.of (sH _ _ (sR _ _ hp)), by rw [pp.length, ← nums_length xs]; exact hi⟩
theorem call_isinst : CallR X (.builtin "isinstance") (fun xs H Q => ∃ x c t b, xs = [x, .ty c] ∧ TyOf X.K H x t ∧ PySem.W.kitOne X.K t (.type c) = some b ∧ Q (.bl b) H) := by
  intro pins s σ H xs us Q I r h
  obtain ⟨x, c, t, b, rfl, ty, e, q⟩ := h
  obtain ⟨u, u2, rfl, r1, r2⟩ := vals2 r
  cases (show u2 = Value.type c from r2)
  exact isinst_ok I r1 ty e fun tk => ⟨.bl b, H, I.tok tk, rfl, q⟩
theorem ev_isinst {e : Expr} {y : Str} {p p2 pos : Pos} {r : Rep α} {x : α} {c : String} {t : Value} {b : Bool} (hm : X.mg "isinstance" = none) (hmy : X.mg y = none) (hvy : bootBuiltins y = some (.type c)) (he : EV X e Γ r x Γ1)
    (ty : ∀ (R H : Hp) v, Same R H → r.R X.K R v x → TyOf X.K H v t) (ht : ∀ K : PySem.W.Frag, PySem.W.kitOne K t (.type c) = some b := by intro; rfl)
    (hs : starEach [e, .Name y p2] X.env = (false, eval e X.env) :: starEach [.Name y p2] X.env := by rfl) (hg : Gl X "isinstance" := by rfl) (hgy : Gl X y := by rfl) (hny : y ≠ "__name__" := by decide) (hdy : (y == ("__debug__" : Str)) = false := by decide) : EV X (.Call (.Name "isinstance" p) [e, .Name y p2] [] pos) Γ rBool b Γ1 := by
  intro σ H0 R0 H R E Q q
  refine eS (pe_callB call_isinst hg hm PyProof.Rows.boot_isinstance (pa_cons peS (pa_cons (pe_bltn (v := .ty c) hgy hmy hvy rfl hny hdy) pa_nil rfl) hs) (by decide) (by decide) hs rfl) (he σ H0 R0 H R E _ fun v H1 R1 E1 s1 e1 => ?_)
  exact ⟨v, c, t, b, rfl, ty R1 H1 v E1.sub e1, ht _, q _ H1 R1 E1 s1 rfl⟩
theorem ty_int {K : PySem.W.Frag} {x : Int} (R H : Hp) (v : V) (_ : Same R H) (h : rInt.R K R v x) : TyOf K H v (.type "int") := by cases h; exact .int _
theorem ty_list {K : PySem.W.Frag} {r : Rep α} {xs : List α} (R H : Hp) (v : V) (s : Same R H) (h : (rList r).R K R v xs) : TyOf K H v (.type "list") := by obtain ⟨a, vs, rfl, e, _⟩ := h; exact .lst (s _ _ e)
theorem ty_pair {K : PySem.W.Frag} {r : Rep α} {r' : Rep β} {x : α × β} (R H : Hp) (v : V) (s : Same R H) (h : (rPair r r').R K R v x) : TyOf K H v (.type "tuple") := by obtain ⟨a, _, _, rfl, e, _⟩ := h; exact .tup (s _ _ e)
theorem ty_row {K : PySem.W.Frag} {x : Row} (R H : Hp) (v : V) (s : Same R H) (h : rRow.R K R v x) : TyOf K H v (.type "tuple") := by obtain ⟨a, rfl, e⟩ := h; exact .tup (s _ _ e)
structure EqRep (r : Rep α) [DecidableEq α] (n : Nat) : Prop where
  inj : ∀ {K : PySem.W.Frag} {R : Hp} {v : V} {x y : α}, r.R K R v x → r.R K R v y → x = y
  eq : ∀ {X : Cx} {pins : List (Addr × Obj)} {σ : St} {H : Hp} {s : Shared} {R : Hp} {A : Around} (I : Inv X pins σ H s) (sub : Same R H) {v u : V} {vv uu : Value} {x y : α}, RelV v vv → RelV u uu → r.R X.K R v x → r.R X.K R u y → A.units + n < cLine → SeqAt.EqAt A s vv uu (decide (x = y))
theorem eq_int : EqRep rInt 0 := by
  refine ⟨by rintro K R v x y h1 h2; cases h1; cases h2; rfl, ?_⟩
  intro X pins σ H s R A I sub v u vv uu x y rv ru h1 h2 hu
  cases h1
  cases h2
  obtain ⟨t, rfl⟩ := rv
  obtain ⟨t', rfl⟩ := ru
  intro prog w E Q hq
  refine wpAny_eqBool_int ?_
  rw [Bool.beq_eq_decide_eq]; exact hq
theorem in1_units (A : Around) : A.in1.units = A.units + 1 := rfl
theorem all_pairs {A : Around} {s : Shared} {r : Rep α} [DecidableEq α] {n : Nat} (e : EqRep r n) {X : Cx} {pins : List (Addr × Obj)} {σ : St} {H R : Hp} (I : Inv X pins σ H s) (sub : Same R H) (hu : A.units + n < cLine) :
    ∀ {vs ws : List V} {us us' : List Value} {xs ys : List α}, Vals vs us → Vals ws us' → PySem.Paired (r.R X.K R) vs xs → PySem.Paired (r.R X.K R) ws ys → ∀ (j : Nat) (h1 : j < us.toArray.size) (h2 : j < us'.toArray.size), SeqAt.EqAt A s us.toArray[j] us'.toArray[j] (decide (xs[j]? = ys[j]?)) := by
  intro vs ws us us' xs ys hv hw px py j h1 h2
  have h1' : j < us.length := by simpa using h1
  have h2' : j < us'.length := by simpa using h2
  have l1 : j < vs.length := by rw [hv.length]; exact h1'
  have l2 : j < ws.length := by rw [hw.length]; exact h2'
  obtain ⟨u, e1, r1⟩ := hv.get (List.getElem?_eq_getElem l1)
  obtain ⟨u', e2, r2⟩ := hw.get (List.getElem?_eq_getElem l2)
  obtain ⟨x, e3, q1⟩ := paired_at' px (List.getElem?_eq_getElem l1)
  obtain ⟨y, e4, q2⟩ := paired_at' py (List.getElem?_eq_getElem l2)
  rw [List.getElem?_eq_getElem h1'] at e1
  rw [List.getElem?_eq_getElem h2'] at e2
  have e1 := Option.some.inj e1
  have e2 := Option.some.inj e2
  have key := e.eq (A := A) I sub r1 r2 q1 q2 hu
  have d : decide (xs[j]? = ys[j]?) = decide (x = y) := by rw [e3, e4]; simp
  rw [d]
  simp only [List.getElem_toArray]
  rw [e1, e2]
  exact key
theorem all_eq [DecidableEq α] {xs ys : List α} (h : xs.length = ys.length) : ((List.range xs.length).all fun j => decide (xs[j]? = ys[j]?)) = decide (xs = ys) := by
  rw [Bool.eq_iff_iff, List.all_eq_true]
  simp only [List.mem_range, decide_eq_true_eq]
  constructor
  · intro hh
    refine List.ext_getElem? fun i => ?_
    by_cases hi : i < xs.length
    · exact hh i hi
    · have a1 : xs[i]? = none := List.getElem?_eq_none (by omega)
      have a2 : ys[i]? = none := List.getElem?_eq_none (by omega)
      rw [a1, a2]
  · rintro rfl j _; rfl
theorem paired_inj {F : α → β → Prop} (inj : ∀ v x y, F v x → F v y → x = y) : ∀ {vs : List α} {xs ys : List β}, PySem.Paired F vs xs → PySem.Paired F vs ys → xs = ys
  | _, _, _, .nil, .nil => rfl
  | _, _, _, .cons h t, .cons h' t' => by rw [inj _ _ _ h h', paired_inj inj t t']
theorem rc_list {r : Rep α} [DecidableEq α] {n : Nat} (e : EqRep r n) {X : Cx} {pins : List (Addr × Obj)} {σ : St} {H : Hp} {s : Shared} {R : Hp} {A : Around} (I : Inv X pins σ H s) (sub : Same R H) {a b : Addr} {vs ws : List V} {xs ys : List α} (ha : R a = some (.lst vs)) (hb : R b = some (.lst ws)) (px : PySem.Paired (r.R X.K R) vs xs) (py : PySem.Paired (r.R X.K R) ws ys) (hu : A.units + (n + 1) < cLine) :
    SeqAt.RcAt A s (.ref a) (.ref b) (decide (xs = ys)) ∧ SeqAt.RcNeAt A s (.ref a) (.ref b) (!decide (xs = ys)) := by
  obtain ⟨us, hv, pl, _⟩ := I.list (SqL.of (sub _ _ ha))
  obtain ⟨us', hw, pl', _⟩ := I.list (SqL.of (sub _ _ hb))
  have lx : us.toArray.size = xs.length := by rw [List.size_toArray, ← hv.length, px.length]
  have ly : us'.toArray.size = ys.length := by rw [List.size_toArray, ← hw.length, py.length]
  by_cases hl : xs.length = ys.length
  · have he := all_pairs (A := A.in1) e I sub (by rw [in1_units]; omega) hv hw px py
    have r1 := SeqAt.RcAt.lists pl.isList pl'.isList (lx.trans (hl.trans ly.symm)) (by omega) he
    have r2 := SeqAt.RcNeAt.lists pl.isList pl'.isList (lx.trans (hl.trans ly.symm)) (by omega) he
    rw [lx, all_eq hl] at r1 r2
    exact ⟨r1, r2⟩
  · have hne : (us.toArray.size != us'.toArray.size) = true := by rw [lx, ly]; simpa using hl
    have d : decide (xs = ys) = false := decide_eq_false fun z => hl (by rw [z])
    rw [d]
    exact ⟨SeqAt.RcAt.lists_lengths pl.isList pl'.isList hne (by omega), SeqAt.RcNeAt.lists_lengths pl.isList pl'.isList hne (by omega)⟩
theorem eq_list {r : Rep α} [DecidableEq α] {n : Nat} (e : EqRep r n) : EqRep (rList r) (n + 1) := by
  have inj : ∀ {K : PySem.W.Frag} {R : Hp} {v : V} {x y : List α}, (rList r).R K R v x → (rList r).R K R v y → x = y := by
    rintro K R v x y ⟨a, vs, rfl, h, p, _⟩ ⟨a', vs', e1, h', p', _⟩
    cases e1
    rw [h] at h'
    cases h'
    exact paired_inj (F := r.R K R) (fun _ _ _ h1 h2 => e.inj h1 h2) p p'
  refine ⟨inj, ?_⟩
  intro X pins σ H s R A I sub v u vv uu x y rv ru h1 h2 hu
  have h1' := h1
  have h2' := h2
  obtain ⟨a, vs, rfl, ha, px, _⟩ := h1
  obtain ⟨b, ws, rfl, hb, py, _⟩ := h2
  cases rv
  cases ru
  by_cases hab : a = b
  · subst hab
    rw [decide_eq_true (inj h1' h2')]
    exact SeqAt.EqAt.same _
  · exact SeqAt.EqAt.of_refs hab (rc_list e I sub ha hb px py hu).1
theorem rc_tup {X : Cx} {pins : List (Addr × Obj)} {σ : St} {H : Hp} {s : Shared} {R : Hp} {A : Around} (I : Inv X pins σ H s) (sub : Same R H) {a b : Addr} {vs ws : List V} {k : Nat → Bool} (ha : R a = some (.tup vs)) (hb : R b = some (.tup ws)) (hl : vs.length = ws.length) (hu : A.units < cLine)
    (he : ∀ (us us' : List Value), Vals vs us → Vals ws us' → ∀ (j : Nat) (h1 : j < us.toArray.size) (h2 : j < us'.toArray.size), SeqAt.EqAt A.in1 s us.toArray[j] us'.toArray[j] (k j)) :
    SeqAt.RcAt A s (.ref a) (.ref b) ((List.range vs.length).all k) ∧ SeqAt.RcNeAt A s (.ref a) (.ref b) (!(List.range vs.length).all k) := by
  obtain ⟨us, hv, pl, _⟩ := I.tuple (SqT.of (sub _ _ ha))
  obtain ⟨us', hw, pl', _⟩ := I.tuple (SqT.of (sub _ _ hb))
  have lx : us.toArray.size = vs.length := by rw [List.size_toArray, ← hv.length]
  have ly : us'.toArray.size = vs.length := by rw [List.size_toArray, ← hw.length, hl]
  have r1 := SeqAt.RcAt.tuples (A := A) pl pl' hu (he us us' hv hw)
  have r2 := SeqAt.RcNeAt.tuples (A := A) pl pl' hu (he us us' hv hw)
  rw [lx, ly, Nat.min_self] at r1 r2
  simp only [beq_self_eq_true, Bool.and_true] at r1 r2
  exact ⟨r1, r2⟩
theorem rc_row {X : Cx} {pins : List (Addr × Obj)} {σ : St} {H : Hp} {s : Shared} {R : Hp} {A : Around} (I : Inv X pins σ H s) (sub : Same R H) {a b : Addr} {x y : Row} (ha : R a = some (.tup [.int x.1, .int x.2.1, .int x.2.2.1, .int x.2.2.2])) (hb : R b = some (.tup [.int y.1, .int y.2.1, .int y.2.2.1, .int y.2.2.2])) (hu : A.units + 1 < cLine) :
    SeqAt.RcAt A s (.ref a) (.ref b) (decide (x = y)) := by
  have aints : ∀ ys : List Int, PySem.Paired (rInt.R X.K R) (ys.map V.int) ys := fun ys => by
    induction ys with
    | nil => exact .nil
    | cons y r ih => exact .cons rfl ih
  have r1 := (rc_tup (A := A) I sub ha hb rfl (by omega) fun us us' hv hw => all_pairs (A := A.in1) eq_int I sub (by rw [in1_units]; omega) hv hw (aints [x.1, x.2.1, x.2.2.1, x.2.2.2]) (aints [y.1, y.2.1, y.2.2.1, y.2.2.2])).1
  have e1 := all_eq (xs := [x.1, x.2.1, x.2.2.1, x.2.2.2]) (ys := [y.1, y.2.1, y.2.2.1, y.2.2.2]) rfl
  have e2 : decide ([x.1, x.2.1, x.2.2.1, x.2.2.2] = [y.1, y.2.1, y.2.2.1, y.2.2.2]) = decide (x = y) := by
    obtain ⟨a1, a2, a3, a4⟩ := x
    obtain ⟨b1, b2, b3, b4⟩ := y
    simp
  rw [e2] at e1
  rw [← e1]
  exact r1
theorem eq_row : EqRep rRow 1 := by
  have inj : ∀ {K : PySem.W.Frag} {R : Hp} {v : V} {x y : Row}, rRow.R K R v x → rRow.R K R v y → x = y := by
    rintro K R v x y ⟨a, rfl, h⟩ ⟨a', e1, h'⟩
    cases e1
    rw [h] at h'
    obtain ⟨a1, a2, a3, a4⟩ := x
    obtain ⟨b1, b2, b3, b4⟩ := y
    simp at h'
    simp [h']
  refine ⟨inj, ?_⟩
  intro X pins σ H s R A I sub v u vv uu x y rv ru h1 h2 hu
  have h1' := h1
  have h2' := h2
  obtain ⟨a, rfl, ha⟩ := h1
  obtain ⟨b, rfl, hb⟩ := h2
  cases rv
  cases ru
  by_cases hab : a = b
  · subst hab
    rw [decide_eq_true (inj h1' h2')]
    exact SeqAt.EqAt.same _
  · exact SeqAt.EqAt.of_refs hab (rc_row I sub ha hb hu)
theorem c_eqL {r : Rep α} [DecidableEq α] {n : Nat} (e : EqRep r n) (hu : X.A.units + (n + 1) < cLine) {xs ys : List α} : Cmp X .Eq (rList r) (rList r) xs ys (decide (xs = ys)) :=
  ⟨fun v u H Q => ∃ R, Same R H ∧ ∃ xs ys, (rList r).R X.K R v xs ∧ (rList r).R X.K R u ys ∧ Q (.bl (decide (xs = ys))) H, fun pins s σ H x y v u Q I rx ry ⟨R, sub, xs, ys, h1, h2, q⟩ => by
    obtain ⟨a, vs, rfl, ha, px, _⟩ := h1
    obtain ⟨b, ws, rfl, hb, py, _⟩ := h2
    cases rx
    cases ry
    exact (rc_list (A := X.A) e I sub ha hb px py hu).1 _ _ _ _ ⟨.bl _, H, I, rfl, q⟩, fun R H v u Q s h1 h2 q => ⟨R, s, xs, ys, h1, h2, q⟩⟩
theorem c_neL {r : Rep α} [DecidableEq α] {n : Nat} (e : EqRep r n) (hu : X.A.units + (n + 1) < cLine) {xs ys : List α} : Cmp X .NotEq (rList r) (rList r) xs ys (!decide (xs = ys)) :=
  ⟨fun v u H Q => ∃ R, Same R H ∧ ∃ xs ys, (rList r).R X.K R v xs ∧ (rList r).R X.K R u ys ∧ Q (.bl (!decide (xs = ys))) H, fun pins s σ H x y v u Q I rx ry ⟨R, sub, xs, ys, h1, h2, q⟩ => by
    obtain ⟨a, vs, rfl, ha, px, _⟩ := h1
    obtain ⟨b, ws, rfl, hb, py, _⟩ := h2
    cases rx
    cases ry
    exact (rc_list (A := X.A) e I sub ha hb px py hu).2 _ _ _ _ ⟨.bl _, H, I, rfl, q⟩, fun R H v u Q s h1 h2 q => ⟨R, s, xs, ys, h1, h2, q⟩⟩
theorem c_neP {r : Rep α} {r' : Rep β} [DecidableEq α] [DecidableEq β] {n m : Nat} (e : EqRep r n) (e' : EqRep r' m) (hu : X.A.units + (n + 1) < cLine) (hu' : X.A.units + (m + 1) < cLine) {x y : α × β} : Cmp X .NotEq (rPair r r') (rPair r r') x y (!decide (x = y)) :=
  ⟨fun v u H Q => ∃ R, Same R H ∧ (rPair r r').R X.K R v x ∧ (rPair r r').R X.K R u y ∧ Q (.bl (!decide (x = y))) H, fun pins s σ H v1 u1 v u Q I rx ry ⟨R, sub, h1, h2, q⟩ => by
    obtain ⟨a, v1, v2, rfl, ha, p1, p2⟩ := h1
    obtain ⟨b, w1, w2, rfl, hb, q1, q2⟩ := h2
    cases rx
    cases ry
    have key := (rc_tup (A := X.A) (k := fun j => if j = 0 then decide (x.1 = y.1) else decide (x.2 = y.2)) I sub ha hb rfl (by omega) fun us us' hv hw j h1 h2 => by
      cases hv with
      | cons a1 t => cases t with
        | cons a2 t => cases t; cases hw with
          | cons b1 t => cases t with
            | cons b2 t =>
              cases t
              match j, h1 with
              | 0, _ => exact e.eq (A := X.A.in1) I sub a1 b1 p1 q1 (by rw [in1_units]; omega)
              | 1, _ => exact e'.eq (A := X.A.in1) I sub a2 b2 p2 q2 (by rw [in1_units]; omega)
              | j + 2, h => exact absurd h (by simp)).2
    have d : (List.range [v1, v2].length).all (fun j => if j = 0 then decide (x.1 = y.1) else decide (x.2 = y.2)) = decide (x = y) := by
      obtain ⟨x1, x2⟩ := x
      obtain ⟨y1, y2⟩ := y
      simp [List.range_succ, Bool.eq_iff_iff]
    rw [d] at key
    exact key _ _ _ _ ⟨.bl _, H, I, rfl, q⟩, fun R H v u Q s h1 h2 q => ⟨R, s, h1, h2, q⟩⟩
theorem call_rangeObj1 : CallR X (.type "range") (fun xs H Q => ∃ n : Int, xs = [.int n] ∧ ∀ p, H p = none → Q (.ref p) (upd H p (.rng 0 n))) := by
  intro pins s σ H xs us Q I r h
  obtain ⟨n, rfl, q⟩ := h
  obtain ⟨u, rfl, t, rfl⟩ := vals1 r
  refine call_range_1 ?_
  exact ⟨.ref s.heap.objs.size, _, I.laid (o := .rng 0 n) (fun b o e => Heap.get?_push_of_some _ e) (Nat.le_refl _) ⟨_, _, _, Heap.get?_push_size _ rfl⟩, rfl, q _ (I.hok.fresh (Nat.le_refl _))⟩
theorem call_listRng (hc : X.calm = true) : CallR X (.type "list") (fun xs H Q => ∃ (p : Addr) (m n : Int), xs = [.ref p] ∧ H p = some (.rng m n) ∧ -1000000 ≤ m ∧ m ≤ 1000000 ∧ -1000000 ≤ n ∧ n ≤ 1000000 ∧ ∀ d, H d = none → Q (.ref d) (upd H d (.lst ((ups m (n - m).toNat).map V.int)))) := by
  intro pins s σ H xs us Q I r h
  obtain ⟨p, m, n, rfl, hp, m1, m2, n1, n2, q⟩ := h
  obtain ⟨u, rfl, rx⟩ := vals1 r
  cases rx
  obtain ⟨t, t2, t3, ho⟩ := I.hok p _ hp
  have hsz : Builtin.Range.rangeSize m n 1 = (((n - m).toNat : Nat) : Int) := by rw [rangeSize_one]; split <;> omega
  refine call_list_range (I.ok.hd hc) ho (small_one (by omega) (by omega) (by omega) (by omega)) hsz (by omega) fun h' tk acc c' hk hS hacc => ?_
  have vals : Vals ((ups m (n - m).toNat).map V.int) acc.toList := by
    have key : ∀ (k : Nat) (its : List Value) (lo : Int), its.length = k → (∀ (j : Nat) v, its[j]? = some v → ∃ t, v = .int (lo + (j : Int) * 1) t) → Vals ((ups lo k).map V.int) its := by
      intro k
      induction k with
      | zero => intro its lo hl _; cases its with
        | nil => exact .nil
        | cons _ _ => cases hl
      | succ k ih =>
        intro its lo hl hv
        cases its with
        | nil => cases hl
        | cons v r =>
          have e : ups lo (k + 1) = lo :: ups (lo + 1) k := by
            unfold ups
            rw [List.range_succ_eq_map, List.map_cons, List.map_map]
            congr 1
            · simp
            · apply List.map_congr_left; intro a _; simp; omega
          rw [e, List.map_cons]
          obtain ⟨t, e0⟩ := hv 0 v rfl
          refine .cons ⟨t, by rw [e0]; simp⟩ (ih r (lo + 1) (by simpa using hl) fun j v hj => ?_)
          obtain ⟨t, ej⟩ := hv (j + 1) v (by simpa using hj)
          exact ⟨t, by rw [ej]; congr 1; push_cast; omega⟩
    refine key _ _ m (by rw [Array.length_toList]; exact hacc.1) fun j v hj => hacc.2 j v (by simpa using hj)
  exact ⟨.ref _, _, I.laid (a := s.heap.objs.size) (o := .lst ((ups m (n - m).toNat).map V.int)) hk (Nat.le_refl _) ⟨by rw [List.length_map, ups_length]; exact Nat.le_trans (show (n - m).toNat ≤ 2000000 by omega) (by decide), acc.toList, c', vals, by rw [hS]⟩, rfl, q _ (I.hok.fresh (Nat.le_refl _))⟩
end
end Fc

set_option Elab.async false
set_option linter.all false
set_option maxRecDepth 100000
set_option maxHeartbeats 4000000
namespace Fc
open PySem PySem.Spec L2
open PyProof.Rows hiding St
def clOf (scope : Scope) (env : Env) : List (Str × Addr) := (scope.names.filterMap fun p => if p.2 == .free then (env.cells.lookup p.1).map (fun c => (p.1, c)) else none).reverse
theorem closure_is {env : Env} : ∀ (names : List (Str × NameKind)) (acc : List (Str × Addr)), (∀ y ∈ names, y.2 = .free → ∃ c, env.cells.lookup y.1 = some c) →
    (forIn names acc fun (x : Str × NameKind) (r : List (Str × Addr)) => if (x.2 == NameKind.free) = true then do let a ← cellOf env x.1; pure (ForInStep.yield ((x.1, a) :: r)) else pure (ForInStep.yield r) : Sem (List (Str × Addr)))
      = pure ((names.filterMap fun p => if p.2 == .free then (env.cells.lookup p.1).map (fun c => (p.1, c)) else none).reverse ++ acc)
  | [], acc, _ => rfl
  | (n, k) :: r, acc, h => by
    have ih := closure_is (env := env) r
    rw [List.forIn_cons, List.filterMap_cons]
    cases hk : (k == NameKind.free) with
    | false =>
      simp only [hk, Bool.false_eq_true, if_false]
      rw [pure_bind]
      exact ih acc fun y hy => h y (List.mem_cons_of_mem _ hy)
    | true =>
      obtain ⟨c, hc⟩ := h (n, k) List.mem_cons_self (eq_of_beq hk)
      have hcell : cellOf env n = pure c := by unfold cellOf; rw [hc]
      simp only [hk, if_true, hc, Option.map_some, hcell]
      rw [pure_bind, pure_bind]
      show forIn r ((n, c) :: acc) _ = _
      rw [ih ((n, c) :: acc) fun y hy => h y (List.mem_cons_of_mem _ hy)]
      simp
theorem comp_scope {X : Cx} {scope : Scope} {own fr : List Str} {ix : List Nat} (hk : scope.kind = .function) (hn : ∀ y ∈ scope.names, y.2 ≠ .cell) (hl : ∀ y ∈ scope.names, y.2 = .local → scope.names.lookup y.1 = some .local)
    (hc : ∀ x, X.env.scope.names.lookup x = some .cell → ∃ c, X.env.cells.lookup x = some c) (hf : ∀ y ∈ scope.names, y.2 = .free → X.env.scope.names.lookup y.1 = some .cell)
    (hfr : ∀ x ∈ fr, scope.names.lookup x = some .free) (hlen : fr.length = ix.length) (hat : ∀ (k i : Nat) (x : Str), ix[k]? = some i → fr[k]? = some x → X.N[i]? = some x) : CompScope X scope (clOf scope X.env) own fr ix := by
  have free : ∀ y ∈ scope.names, y.2 = .free → ∃ c, X.env.cells.lookup y.1 = some c := fun y hy e => hc _ (hf y hy e)
  refine ⟨?_, fun x c e => ?_, hk, hn, hl, fun x e => ?_, hfr, hlen, fun k i x e1 e2 => ⟨hat k i x e1 e2, hf (x, .free) (PySem.mem_of_lookup (hfr x (List.mem_of_getElem? e2))) rfl⟩⟩
  · have := closure_is (env := X.env) scope.names [] free
    rw [List.append_nil] at this
    have e : closureFor scope X.env = ((forIn scope.names [] fun (x : Str × NameKind) (r : List (Str × Addr)) => if (x.2 == NameKind.free) = true then do let a ← cellOf X.env x.1; pure (ForInStep.yield ((x.1, a) :: r)) else pure (ForInStep.yield r) : Sem (List (Str × Addr))) >>= fun cs => pure cs) := rfl
    rw [e, this, pure_bind]
    rfl
  · have m := PySem.mem_of_lookup e
    unfold clOf at m
    obtain ⟨p, _, hp⟩ := List.mem_filterMap.mp (List.mem_reverse.mp m)
    split at hp
    · cases q : X.env.cells.lookup p.1 with
      | none => rw [q] at hp; cases hp
      | some c' => rw [q] at hp; cases hp; exact q
    · cases hp
  · have m := PySem.mem_of_lookup e
    obtain ⟨c, hcc⟩ := free _ m rfl
    have m2 : (x, c) ∈ clOf scope X.env := by
      unfold clOf
      refine List.mem_reverse.mpr (List.mem_filterMap.mpr ⟨(x, .free), m, ?_⟩)
      simp [hcc]
    cases q : (clOf scope X.env).lookup x with
    | some c' => exact ⟨c', rfl⟩
    | none =>
      rw [List.lookup_eq_none_iff] at q
      exact absurd (q _ m2) (by simp)
def compOk (scope so : Scope) (N0 fr : List Str) (ix : List Nat) : Bool :=
  decide (scope.kind = .function) && scope.names.all (fun y => decide (y.2 ≠ .cell) && (decide (y.2 ≠ .local) || decide (scope.names.lookup y.1 = some .local)) && (decide (y.2 ≠ .free) || decide (so.names.lookup y.1 = some .cell)))
    && fr.all (fun x => decide (scope.names.lookup x = some .free)) && decide (fr.length = ix.length) && (List.range ix.length).all fun k => match ix[k]?, fr[k]? with | some i, some x => decide (N0[i]? = some x) | _, _ => true
theorem comp_mk {X : Cx} {scope so : Scope} {N0 own fr : List Str} {ix : List Nat} (hso : X.env.scope = so) (hN0 : X.N = N0) (hc : ∀ x, X.env.scope.names.lookup x = some .cell → ∃ c, X.env.cells.lookup x = some c) (h : compOk scope so N0 fr ix = true) : CompScope X scope (clOf scope X.env) own fr ix := by
  unfold compOk at h
  simp only [Bool.and_eq_true, Bool.or_eq_true, decide_eq_true_eq, List.all_eq_true] at h
  obtain ⟨⟨⟨⟨h1, h2⟩, h3⟩, h4⟩, h5⟩ := h
  refine comp_scope h1 (fun y hy => (h2 y hy).1.1) (fun y hy e => (h2 y hy).1.2.resolve_left fun z => z e) hc (fun y hy e => by rw [hso]; exact (h2 y hy).2.resolve_left fun z => z e) h3 h4 fun k i x e1 e2 => ?_
  have hk : k < ix.length := (List.getElem?_eq_some_iff.mp e1).1
  have := h5 k (List.mem_range.mpr hk)
  rw [e1, e2] at this
  rw [hN0]
  simpa using this
section
variable {X : Cx} {Γ Γ1 Γ2 Γ3 : Ga} {α β γ δ : Type} {N : Ga → Prop} {T : RT}
theorem w_callP (i : Nat) {S : SpD} {x y : Str} {k : Nat} {e : Expr} {es : List Expr} {p p1 p2 pos : Pos} {ps : List Pk} {r : Rep α} {Pd : α → Prop} (C : Cal X.prog X.w X.K X.mg X.base x k (spG S X.K)) (hr : Room k X.A) (ha : HA X (e :: es) Γ ps Γ1) (hS : S X.K ps (rtP X.K r Pd)) (h : ∀ z, Pd z → N (Γ1.set i (.im r z)))
    (hg : Gl X x := by rfl) (hdb : (x == ("__debug__" : Str)) = false := by decide) (he : starEach (e :: es) X.env = (false, eval e X.env) :: starEach es X.env := by rfl) (hpl : (backTo p2 (starEach es X.env)).any (·.1) = false := by rfl)
    (hN : X.N.Nodup := by first | assumption | decide) (hi : X.N[i]? = some y := by rfl) (hx : Loc X.env.scope y := by first | exact Or.inl rfl | exact Or.inr rfl)
    (hs : swapsWith (.Call (.Name x p) (e :: es) [] p2) (some (.Name y p1)) pos.line X.env = pure false := by rfl) (hf : X.fn y = true ∨ X.env.scope.names.lookup y = some .local := by first | exact .inl rfl | exact .inr rfl) :
    W1 X (.Assign [.Name y p1] (.Call (.Name x p) (e :: es) [] p2) pos) Γ N T := fun σ H0 R0 H R E D dn dr =>
  sS (ps_set hN hi hx peS hs hf) (ev_callT C hr ha hS E (fun H1 R1 v H' R' E1 s1 xx t => by
    obtain ⟨z, e1, hz⟩ := t
    exact dn _ H' R' _ ((E1.grow xx).set i e1) (s1.trans xx.r) (h z hz)) hg hdb he hpl)
theorem iv_row {tg iter : Expr} {w : Row} (h : EV X iter Γ rRow w Γ1) : IV X tg iter Γ rInt [w.1, w.2.1, w.2.2.1, w.2.2.2] Γ1 := by
  refine ⟨_, pi_tup peS, fun σ H0 R0 H R E Rq q => h σ H0 R0 H R E _ fun v H1 R1 E1 s1 e1 => ?_⟩
  obtain ⟨a, rfl, ha⟩ := e1
  have hq0 : ∀ H' R' : Hp, Same R1 R' → Same R' H' → SqT X.K H' a [.int w.1, .int w.2.1, .int w.2.2.1, .int w.2.2.2] := fun H' R' sR sH => SqT.of (sH _ _ (sR _ _ ha))
  refine ⟨a, rfl, ⟨_, hq0 H1 R1 (Same.refl _) E1.sub⟩, q _ H1 R1 E1 s1 (by show 4 ≤ sizeLine; decide) fun H' R' sR sH i => ⟨fun x hx => ?_, fun hi => ⟨_, hq0 H' R' sR sH, hi⟩⟩⟩
  have e2 : ([.int w.1, .int w.2.1, .int w.2.2.1, .int w.2.2.2] : List V)[i]? = some (.int x) := by
    have := congrArg (Option.map V.int) hx
    rw [← List.getElem?_map] at this
    exact this
  refine ⟨⟨_, _, hq0 H' R' sR sH, e2⟩, fun v H2 hy => ?_⟩
  obtain ⟨rfl, hy⟩ := hy
  have := hy _ (hq0 _ R' sR sH)
  rw [e2] at this
  cases this
  exact ⟨R', Ext.refl sH, rfl⟩
theorem ev_lenT {a : Expr} {p pos : Pos} {r : Rep α} {x : α} {n : Nat} (hm : X.mg "len" = none) (ha : EV X a Γ r x Γ1) (ht : ∀ (R : Hp) v, r.R X.K R v x → ∃ q vs, v = .ref q ∧ R q = some (.tup vs) ∧ vs.length = n) (hs : starEach [a] X.env = [(false, eval a X.env)] := by rfl) (hg : Gl X "len" := by rfl) : EV X (.Call (.Name "len" p) [a] [] pos) Γ rInt (n : Int) Γ1 := by
  intro σ H0 R0 H R E Q q
  refine eS (pe_callB call_len_seq hg hm PySem.boot_len (pa_cons peS pa_nil hs) (by decide) (by decide) hs) (ha σ H0 R0 H R E _ fun v H1 R1 E1 s1 e1 => ?_)
  obtain ⟨p, vs, rfl, hp, hl⟩ := ht R1 v e1
  refine ⟨p, vs, rfl, .inr (SqT.of (E1.sub _ _ hp)), ?_⟩
  rw [hl]
  exact q _ H1 R1 E1 s1 rfl
theorem lenPair {K : PySem.W.Frag} {r : Rep α} {r' : Rep β} {x : α × β} (R : Hp) (v : V) (h : (rPair r r').R K R v x) : ∃ q vs, v = .ref q ∧ R q = some (.tup vs) ∧ vs.length = 2 := by
  obtain ⟨a, v1, v2, rfl, ha, _⟩ := h
  exact ⟨a, _, rfl, ha, rfl⟩
theorem lenRow {K : PySem.W.Frag} {x : Row} (R : Hp) (v : V) (h : rRow.R K R v x) : ∃ q vs, v = .ref q ∧ R q = some (.tup vs) ∧ vs.length = 4 := by
  obtain ⟨a, rfl, ha⟩ := h
  exact ⟨a, _, rfl, ha, rfl⟩
end
inductive Reach (es : List (Int × Int)) (s : Int) : Int → Prop
  | base : Reach es s s
  | step {a b : Int} : Reach es s a → (a, b) ∈ es → Reach es s b
theorem Reach.sub {es : List (Int × Int)} {s : Int} {P : Int → Prop} (h0 : P s) (hc : ∀ a b, P a → (a, b) ∈ es → P b) : ∀ {k : Int}, Reach es s k → P k
  | _, .base => h0
  | _, .step r m => hc _ _ (Reach.sub h0 hc r) m
end Fc

set_option Elab.async false
set_option linter.all false
set_option maxRecDepth 100000
set_option maxHeartbeats 4000000
namespace Fc
open PySem PySem.Spec L2
open PyProof.Rows hiding St
section
variable {X : Cx} {Γ Γ1 Γ2 Γ3 : Ga} {α β γ δ : Type} {N : Ga → Prop} {T : RT}
theorem op_mulG : OpR X (binaryOp .Mult) (rI IntMulOk fun i j => .int (i * j)) := opI fun _ _ _ _ _ _ _ hc q => mul_int q hc
theorem ev_mulG {a b : Expr} {pos : Pos} {x y : Int} (ha : EV X a Γ rInt x Γ1) (hb : EV X b Γ1 rInt y Γ2) (h : IntMulOk x y) : EV X (.BinOp a .Mult b pos) Γ rInt (x * y) Γ2 := ev_op op_mulG ha hb fun R v u H Q e1 e2 q => ⟨x, y, e1, e2, h, q _ rfl⟩
def bLst (a : Addr) (r : Rep α) (xs : List α) : Box where
  fp := [a]
  R := fun K H R v => v = .ref a ∧ ∃ vs, H a = some (.lst vs) ∧ PySem.Paired (r.R K R) vs xs
  loc := fun hH hR ⟨e, vs, h, p⟩ => ⟨e, vs, (hH a (List.mem_singleton.mpr rfl)).trans h, Paired.map (fun _ _ => r.mono hR) p⟩
  has := fun ⟨e, vs, h, p⟩ b hb => by rw [List.mem_singleton.mp hb, h]; exact Option.some_ne_none _
theorem bLst_ok {K : PySem.W.Frag} {H R : Hp} {a : Addr} {r : Rep α} {xs : List α} {vs : List V} (h : H a = some (.lst vs)) (hR : R a = none) (p : PySem.Paired (r.R K R) vs xs) : (Ent.ob (bLst a r xs)).ok K H R (some (.ref a)) :=
  ⟨⟨_, rfl, rfl, vs, h, p⟩, fun b hb => by rw [List.mem_singleton.mp hb]; exact hR⟩
theorem bLst_at {K : PySem.W.Frag} {H R : Hp} {a : Addr} {r : Rep α} {xs : List α} {o : Option V} (h : (Ent.ob (bLst a r xs)).ok K H R o) : o = some (.ref a) ∧ (∃ vs, H a = some (.lst vs) ∧ PySem.Paired (r.R K R) vs xs) ∧ R a = none := by
  obtain ⟨⟨v, rfl, rfl, q⟩, n⟩ := h
  exact ⟨rfl, q, n a (List.mem_singleton.mpr rfl)⟩
theorem WS.box (i : Nat) {sts : List Stmt} {r : Rep α} {xs : List α} (hΓ : Γ[i]? = some (.mu r xs)) (h : ∀ a, WS X sts (Γ.set i (.ob (bLst a r xs))) N T) : WS X sts Γ N T := fun σ H0 R0 H R E D dn dr => by
  obtain ⟨a, vs, ea, ha, hR, pp⟩ := E.ent i _ hΓ
  exact h a σ H0 R0 H R (E.tell hΓ (by rw [ea]; exact bLst_ok ha hR pp) fun b w => by
    rw [show b = a from List.mem_singleton.mp w]; exact mem_refOf.mpr ea) D dn dr
theorem EnvOk.tellG {K : PySem.W.Frag} {σ : St} {H0 R0 H R : Hp} (E : EnvOk K σ H0 R0 H R Γ) {i : Nat} {e0 en : Ent} (hi : Γ[i]? = some e0) (ho : en.ok K H R (σ[i]?).join) (hsub : ∀ b ∈ en.fp (σ[i]?).join, H0 b = none ∧ ∀ (j : Nat) (e : Ent), j ≠ i → Γ[j]? = some e → b ∉ e.fp (σ[j]?).join) : EnvOk K σ H0 R0 H R (Γ.set i en) := by
  refine ⟨E.ext, fun j e q => ?_, fun j e b q w => ?_, fun j k e e' b q q' w w' => ?_, by rw [List.length_set]; exact E.len⟩
  · rcases set_at q with ⟨rfl, rfl, _⟩ | ⟨hj, q1⟩
    · exact ho
    · exact E.ent j e q1
  · rcases set_at q with ⟨rfl, rfl, _⟩ | ⟨hj, q1⟩
    · exact (hsub b w).1
    · exact E.nw j e b q1 w
  · rcases set_at q with ⟨rfl, rfl, _⟩ | ⟨hj, q1⟩
    · rcases set_at q' with ⟨rfl, rfl, _⟩ | ⟨hk, q1'⟩
      · rfl
      · exact absurd w' ((hsub b w).2 k e' hk q1')
    · rcases set_at q' with ⟨rfl, rfl, _⟩ | ⟨hk, q1'⟩
      · exact absurd w ((hsub b w').2 j e hj q1)
      · exact E.ds _ _ _ _ b q1 q1' w w'
variable {P : Program} {w : World} {K : PySem.W.Frag} {mg : Str → Option Value} {base : Heap}
end
end Fc

set_option Elab.async false
set_option linter.all false
set_option maxRecDepth 100000
set_option maxHeartbeats 4000000
namespace Fc
open PySem PySem.Spec L2
open PyProof.Rows hiding St
def insAt {α : Type} (k : Nat) (y : α) (xs : List α) : List α := xs.take k ++ y :: xs.drop k
theorem insAt_length {α : Type} {k : Nat} {y : α} {xs : List α} : (insAt k y xs).length = xs.length + 1 := by
  unfold insAt; rw [List.length_append, List.length_cons, List.length_take, List.length_drop]; omega
section
variable {X : Cx} {Γ Γ1 Γ2 Γ3 : Ga} {α β γ δ : Type} {N : Ga → Prop} {T : RT}
def rInsert : V → List V → Hp → VK → Prop := fun x vs H Q => ∃ l xs i y, x = .ref l ∧ vs = [.int i, y] ∧ H l = some (.lst xs) ∧ 0 ≤ i ∧ i ≤ (xs.length : Int) ∧ xs.length < sizeLine ∧ Q .non (upd H l (.lst (insAt i.toNat y xs)))
theorem mt_insert : MtM X "list.insert" rInsert := by
  intro pins s σ H x vs v us Q I rx rv h
  obtain ⟨l, xs, i, y, rfl, rfl, hH, h0, h1, hz, q⟩ := h
  cases rx
  obtain ⟨u1, u2, rfl, ⟨t, rfl⟩, r2⟩ := vals2 rv
  obtain ⟨z, its, n, r, hl, e⟩ := I.lstM hH
  have hfit : Builtin.List.listFitsIndex i = true := fitsIndex_both (by omega) (by
    have : sizeLine < 2 ^ 63 := by decide
    omega)
  refine call_meets PySem.F.slot_list_insert ⟨_, e, rfl⟩ PySem.F.entry_list_insert (PySem.F.args_list_insert_3 _ _ _) (PySem.AutoSeq1.list_insert_list_int_val_1 l _ n i t u2 (by simp [hfit]) (by rw [List.size_toArray]; omega)) ⟨e, ?_⟩
  refine ⟨.non, _, I.lset (its' := insAt i.toNat u2 its) hH e ?_ ?_ ?_, rfl, q⟩
  · have hk : (if i < 0 then (i + ((its.toArray.size : Nat) : Int)).toNat else min i.toNat its.toArray.size) = i.toNat := by
      rw [if_neg (by omega), List.size_toArray]; omega
    dsimp only
    rw [hk]
    unfold insAt
    apply Array.ext'
    simp
    exact List.take_of_length_le (by rw [List.length_drop]; exact Nat.le_refl _)
  · unfold insAt; exact (r.take _).append (.cons r2 (r.drop _))
  · rw [insAt_length]; omega
def rowL (r : Row) : List V := [.int r.1, .int r.2.1, .int r.2.2.1, .int r.2.2.2]
def rRef : Rep Addr := ⟨fun _ _ v a => v = .ref a, fun _ h => h⟩
def rLrow : Rep Row := ⟨fun _ H v r => ∃ b, v = .ref b ∧ H b = some (.lst (rowL r)), fun s ⟨b, e, h⟩ => ⟨b, e, s _ _ h⟩⟩
def RowsAt (H : Hp) (as : List Addr) (rs : List Row) : Prop := as.length = rs.length ∧ ∀ (i : Nat) (b : Addr) (r : Row), as[i]? = some b → rs[i]? = some r → H b = some (.lst (rowL r))
theorem RowsAt.row {H : Hp} {as : List Addr} {rs : List Row} (h : RowsAt H as rs) {b : Addr} (hb : b ∈ as) : ∃ r, H b = some (.lst (rowL r)) := by
  obtain ⟨i, hi, rfl⟩ := List.mem_iff_getElem.mp hb
  exact ⟨_, h.2 i _ _ (List.getElem?_eq_getElem hi) (List.getElem?_eq_getElem (by rw [← h.1]; exact hi))⟩
theorem RowsAt.loc {H H' : Hp} {as : List Addr} {rs : List Row} (h : RowsAt H as rs) (e : ∀ a ∈ as, H' a = H a) : RowsAt H' as rs :=
  ⟨h.1, fun i b r h1 h2 => (e b (List.mem_of_getElem? h1)).trans (h.2 i b r h1 h2)⟩
theorem RowsAt.put {H : Hp} {as : List Addr} {rs : List Row} (h : RowsAt H as rs) (nd : as.Nodup) {j : Nat} {b : Addr} {r : Row} (hb : as[j]? = some b) : RowsAt (upd H b (.lst (rowL r))) as (rs.set j r) := by
  refine ⟨by rw [List.length_set]; exact h.1, fun i c q h1 h2 => ?_⟩
  by_cases hij : i = j
  · subst hij
    rw [hb] at h1; cases h1
    have hl : i < rs.length := by rw [← h.1]; exact (List.getElem?_eq_some_iff.mp hb).1
    rw [List.getElem?_set_self hl] at h2; cases h2
    exact upd_same
  · rw [List.getElem?_set_ne (Ne.symm hij)] at h2
    have : c ≠ b := fun z => by
      subst z
      have l1 := (List.getElem?_eq_some_iff.mp h1)
      have l2 := (List.getElem?_eq_some_iff.mp hb)
      exact hij ((List.getElem_inj (h₀ := l1.1) (h₁ := l2.1) nd).mp (l1.2.trans l2.2.symm))
    rw [upd_ne this]; exact h.2 i c q h1 h2
def bRows (a : Addr) (as : List Addr) (rs : List Row) : Box where
  fp := a :: as
  R := fun K H R v => v = .ref a ∧ H a = some (.lst (as.map .ref)) ∧ RowsAt H as rs ∧ (a :: as).Nodup
  loc := fun hH hR ⟨e, h1, h2, h3⟩ => ⟨e, (hH a List.mem_cons_self).trans h1, h2.loc fun b hb => hH b (List.mem_cons_of_mem _ hb), h3⟩
  has := fun ⟨e, h1, h2, h3⟩ b hb => by
    rcases List.mem_cons.mp hb with rfl | hb
    · rw [h1]; exact Option.some_ne_none _
    · obtain ⟨r, hr⟩ := h2.row hb
      rw [hr]; exact Option.some_ne_none _
def bRows2 (a : Addr) (as : List Addr) (rs : List Row) : Box where
  fp := as
  R := fun K H R v => v = .ref a ∧ R a = some (.lst (as.map .ref)) ∧ RowsAt H as rs ∧ as.Nodup
  loc := fun hH hR ⟨e, h1, h2, h3⟩ => ⟨e, hR _ _ h1, h2.loc fun b hb => hH b hb, h3⟩
  has := fun ⟨e, h1, h2, h3⟩ b hb => by
    obtain ⟨r, hr⟩ := h2.row hb
    rw [hr]; exact Option.some_ne_none _
structure HasRow (B B' : Box) (b : Addr) (r r' : Row) : Prop where
  mem : b ∈ B.fp
  fp : B'.fp = B.fp
  get : ∀ {K : PySem.W.Frag} {H R : Hp} {v : V}, B.R K H R v → H b = some (.lst (rowL r))
  set : ∀ {K : PySem.W.Frag} {H R : Hp} {v : V}, B.R K H R v → B'.R K (upd H b (.lst (rowL r'))) R v
theorem hasRow1 {a : Addr} {as : List Addr} {rs : List Row} {j : Nat} {b : Addr} {r r' : Row} (hb : as[j]? = some b) (hr : rs[j]? = some r) : HasRow (bRows a as rs) (bRows a as (rs.set j r')) b r r' where
  mem := List.mem_cons_of_mem _ (List.mem_of_getElem? hb)
  fp := rfl
  get := fun h => h.2.2.1.2 j b r hb hr
  set := fun ⟨e, h1, h2, h3⟩ => by
    obtain ⟨n1, n2⟩ := List.nodup_cons.mp h3
    exact ⟨e, by rw [upd_ne (show a ≠ b from fun z => n1 (z ▸ List.mem_of_getElem? hb))]; exact h1, h2.put n2 hb, h3⟩
theorem ev_col (i : Nat) {o : Expr} {c : Int} {j : Nat} {p1 pos : Pos} {B B' : Box} {b : Addr} {r r' : Row} {y : Int} (ho : EV X o Γ rRef b Γ1) (hΓ1 : Γ1[i]? = some (.ob B)) (hB : HasRow B B' b r r') (hy : atI (rowL r) c = some (.int y)) : EV X (.Subscript o (.Constant (.int c) j p1) pos) Γ rInt y Γ1 := by
  intro σ H0 R0 H R E Q q
  refine eS (pe_ix ix_list peS pe_int (fun _ _ => rfl)) (ho σ H0 R0 H R E _ fun v H1 R1 E1 s1 e1 => ?_)
  cases e1
  obtain ⟨⟨v, ev, hv⟩, _⟩ := E1.ent i _ hΓ1
  exact ⟨b, _, c, _, rfl, rfl, SqL.of (hB.get hv), hy, q _ H1 R1 E1 s1 rfl⟩
theorem w_setRow (i : Nat) {o e : Expr} {k : Nat} {p1 p2 pos : Pos} {B B' : Box} {b : Addr} {r : Row} {y : Int} (he : EV X e Γ rInt y Γ1) (ho : EV X o Γ1 rRef b Γ2) (hΓ2 : Γ2[i]? = some (.ob B)) (hB : HasRow B B' b r (r.1, r.2.1, r.2.2.1, y)) (h : N (Γ2.set i (.ob B')))
    (ha : ∀ v, assign (.Subscript o (.Constant (.int 3) k p1) p2) X.env v = (do
      let ov ← holding [v] (eval o X.env)
      let iv ← holding [v, ov] (eval (.Constant (.int 3) k p1) X.env)
      standAt p2
      holding [v, ov, iv] (setItem ov iv v)
      release [v, ov, iv] []) := by intro _; rfl)
    (hs : swapsWithSole [.Subscript o (.Constant (.int 3) k p1) p2] e pos.line X.env = pure false := by rfl) (hw : swappedStores [.Subscript o (.Constant (.int 3) k p1) p2] e X.env = pure none := by rfl) (h1 : (assignEach [.Subscript o (.Constant (.int 3) k p1) p2] X.env).map (·.2) = [assign (.Subscript o (.Constant (.int 3) k p1) p2) X.env] := by rfl) :
    W1 X (.Assign [.Subscript o (.Constant (.int 3) k p1) p2] e pos) Γ N T := fun σ H0 R0 H R E D dn dr => by
  refine sS (ps_asg peS (pg_sub peS pe_int set_list ha) hs hw h1) (he σ H0 R0 H R E _ fun v H1 R1 E1 s1 e1 => ho σ H0 R0 H1 R1 E1 _ fun u H2 R2 E2 s2 e2 => ?_)
  cases e2
  cases e1
  obtain ⟨⟨v, ev, hv⟩, hn⟩ := E2.ent i _ hΓ2
  refine ⟨b, _, 3, 3, rfl, rfl, hB.get hv, rfl, ?_⟩
  exact dn σ _ R2 _ (E2.updG (u := .lst (rowL (r.1, r.2.1, r.2.2.1, y))) (en := .ob B') hΓ2 hB.mem ⟨⟨v, ev, hB.set hv⟩, by rw [hB.fp]; exact hn⟩ fun b' w => .inl (by rw [Ent.fp, hB.fp] at w; exact w)) (s1.trans s2) h
theorem WS.boxRows (i : Nat) {sts : List Stmt} {r : Rep α} (hΓ : Γ[i]? = some (.mu r [])) (h : ∀ a, WS X sts (Γ.set i (.ob (bRows a [] []))) N T) : WS X sts Γ N T := fun σ H0 R0 H R E D dn dr => by
  obtain ⟨a, vs, ea, ha, hR, pp⟩ := E.ent i _ hΓ
  cases pp
  refine h a σ H0 R0 H R (E.tell hΓ ⟨⟨.ref a, ea, rfl, ha, ⟨rfl, fun i b r h1 => by simp at h1⟩, by simp⟩, fun b hb => ?_⟩ fun b w => ?_) D dn dr
  · rw [show b = a by simpa [bRows] using hb]; exact hR
  · rw [show b = a by simpa [Ent.fp, bRows] using w]; exact mem_refOf.mpr ea
theorem ev_lenRows (i : Nat) {x : Str} {p1 p pos : Pos} {a : Addr} {as : List Addr} {rs : List Row} (hm : X.mg "len" = none) (hΓ : Γ[i]? = some (.ob (bRows a as rs))) (hN : X.N[i]? = some x := by rfl) (hv : Vis X.env.scope x := by first | exact Or.inl rfl | exact Or.inr (Or.inl rfl) | exact Or.inr (Or.inr rfl))
    (hd : (x == ("__debug__" : Str)) = false := by decide) (hcd : (x == ("__classdict__" : Str)) = false := by decide) (hg : Gl X "len" := by rfl) : EV X (.Call (.Name "len" p) [.Name x p1] [] pos) Γ rInt (rs.length : Int) Γ := by
  intro σ H0 R0 H R E Q q
  obtain ⟨⟨v, ea, rfl, ha, hr, _⟩, hR⟩ := E.ent i _ hΓ
  refine eS (pe_callB call_len_seq hg hm PySem.boot_len (pa_cons (pe_var hN hv hd hcd) pa_nil rfl) (by decide) (by decide) rfl) ⟨.ref a, at_of ea, a, _, rfl, .inl (SqL.of ha), ?_⟩
  rw [List.length_map, hr.1]
  exact q _ H R E (Same.refl _) rfl
theorem EnvOk.stillL {K : PySem.W.Frag} {σ : St} {H0 R0 H : Hp} : ∀ (as : List Addr) {R : Hp}, EnvOk K σ H0 R0 H R Γ → (∀ b ∈ as, H b ≠ none ∧ H0 b = none ∧ Off b σ Γ) → ∃ R', EnvOk K σ H0 R0 H R' Γ ∧ Same R R' ∧ ∀ b ∈ as, R' b = H b
  | [], R, E, _ => ⟨R, E, Same.refl _, fun b hb => by cases hb⟩
  | b :: as, R, E, h => by
    obtain ⟨h1, h2, h3⟩ := h b List.mem_cons_self
    obtain ⟨u, hu⟩ : ∃ u, H b = some u := by cases q : H b with
      | none => exact absurd q h1
      | some u => exact ⟨u, rfl⟩
    have key : ∃ R1, EnvOk K σ H0 R0 H R1 Γ ∧ Same R R1 ∧ R1 b = some u := by
      cases q : R b with
      | none => exact ⟨_, E.still hu q h2 h3, Same.fresh q _, upd_same⟩
      | some u' =>
        have := E.sub b u' q
        rw [hu] at this
        cases this
        exact ⟨R, E, Same.refl _, q⟩
    obtain ⟨R1, E1, s1, r1⟩ := key
    obtain ⟨R2, E2, s2, r2⟩ := EnvOk.stillL as E1 fun c hc => h c (List.mem_cons_of_mem _ hc)
    refine ⟨R2, E2, s1.trans s2, fun c hc => ?_⟩
    rcases List.mem_cons.mp hc with rfl | hc
    · rw [s2 _ _ r1, hu]
    · exact r2 c hc
theorem WS.outer (i : Nat) {sts : List Stmt} {a : Addr} {as : List Addr} {rs : List Row} (hΓ : Γ[i]? = some (.ob (bRows a as rs))) (h : WS X sts (Γ.set i (.ob (bRows2 a as rs))) N T) : WS X sts Γ N T := fun σ H0 R0 H R E D dn dr => by
  obtain ⟨⟨v, ea, rfl, ha, hr, nd⟩, hR⟩ := E.ent i _ hΓ
  obtain ⟨n1, n2⟩ := List.nodup_cons.mp nd
  have hl : i < Γ.length := (List.getElem?_eq_some_iff.mp hΓ).1
  have apart : ∀ (j : Nat) (e : Ent), j ≠ i → Γ[j]? = some e → ∀ b ∈ a :: as, b ∉ e.fp (σ[j]?).join := fun j e hj qj b hb w => hj (E.ds j i e _ b qj hΓ w hb)
  have E1 : EnvOk X.K σ H0 R0 H R (Γ.set i .no) := E.tell hΓ trivial fun b w => by cases w
  have E2 := E1.still ha (hR a List.mem_cons_self) (E.nw i _ a hΓ List.mem_cons_self) fun j e qj w => by
    rcases set_at qj with ⟨rfl, rfl, _⟩ | ⟨hj, q1⟩
    · cases w
    · exact apart j e hj q1 a List.mem_cons_self w
  have s2 : Same R (upd R a (.lst (as.map .ref))) := Same.fresh (hR a List.mem_cons_self) _
  have E3 := E2.tellG (i := i) (e0 := .no) (en := .ob (bRows2 a as rs)) (List.getElem?_set_self hl) ⟨⟨.ref a, ea, rfl, upd_same, hr, n2⟩, fun b hb => by
    rw [upd_ne (show b ≠ a from fun z => n1 (z ▸ hb))]; exact hR b (List.mem_cons_of_mem _ hb)⟩ fun b w => ⟨E.nw i _ b hΓ (List.mem_cons_of_mem _ w), fun j e hj qj => apart j e hj (by rwa [List.getElem?_set_ne (Ne.symm hj)] at qj) b (List.mem_cons_of_mem _ w)⟩
  rw [List.set_set] at E3
  exact h σ H0 R0 H _ E3 D (fun σ2 H2 R2 Γ2 E2 s2' => dn σ2 H2 R2 Γ2 E2 (s2.trans s2')) dr
theorem paired_rows {K : PySem.W.Frag} {H : Hp} : ∀ {as : List Addr} {rs : List Row}, RowsAt H as rs → PySem.Paired (rLrow.R K H) (as.map .ref) rs
  | [], [], _ => .nil
  | [], _ :: _, h => absurd h.1 (by simp)
  | _ :: _, [], h => absurd h.1 (by simp)
  | a :: as, r :: rs, h => .cons ⟨a, rfl, h.2 0 a r rfl rfl⟩ (paired_rows ⟨by simpa using h.1, fun i b q h1 h2 => h.2 (i + 1) b q (by simpa using h1) (by simpa using h2)⟩)
theorem WS.frzRows (i : Nat) {sts : List Stmt} {a : Addr} {as : List Addr} {rs : List Row} (hΓ : Γ[i]? = some (.ob (bRows2 a as rs))) (hz : rs.length ≤ sizeLine) (h : WS X sts (Γ.set i (.im (rList rLrow) rs)) N T) : WS X sts Γ N T := fun σ H0 R0 H R E D dn dr => by
  obtain ⟨⟨v, ea, rfl, ha, hr, nd⟩, hR⟩ := E.ent i _ hΓ
  have hl : i < Γ.length := (List.getElem?_eq_some_iff.mp hΓ).1
  have E1 : EnvOk X.K σ H0 R0 H R (Γ.set i .no) := E.tell hΓ trivial fun b w => by cases w
  obtain ⟨R', E2, s', rr⟩ := E1.stillL as fun b hb => ⟨(Ent.fp_at (E.ent i _ hΓ) hb).1, E.nw i _ b hΓ hb, fun j e qj w => by
    rcases set_at qj with ⟨rfl, rfl, _⟩ | ⟨hj, q1⟩
    · cases w
    · exact hj (E.ds j i e _ b q1 hΓ w hb)⟩
  have hr' : RowsAt R' as rs := hr.loc rr
  have E3 := E2.tellG (i := i) (e0 := .no) (en := .im (rList rLrow) rs) (List.getElem?_set_self hl) ⟨.ref a, ea, a, _, rfl, s' _ _ ha, paired_rows hr', hz⟩ fun b w => by cases w
  rw [List.set_set] at E3
  exact h σ H0 R0 H _ E3 D (fun σ2 H2 R2 Γ2 E2 s2' => dn σ2 H2 R2 Γ2 E2 (s'.trans s2')) dr
def lentE : Ent → Ent
  | .im r x => .im r x
  | _ => .no
theorem EnvOk.frz {K : PySem.W.Frag} {σ : St} {H0 R0 H R : Hp} (E : EnvOk K σ H0 R0 H R Γ) : EnvOk K σ H H H H (Γ.map lentE) := by
  have noown : ∀ (i : Nat) (e : Ent) (o : Option V), (Γ.map lentE)[i]? = some e → e.fp o = [] := fun i e o q => by
    rw [List.getElem?_map] at q
    cases h : Γ[i]? with
    | none => rw [h] at q; cases q
    | some e' => rw [h] at q; cases q; cases e' <;> rfl
  refine ⟨Ext.refl (Same.refl _), fun i e q => ?_, fun i e a q w => absurd w (by rw [noown i e _ q]; exact List.not_mem_nil), fun i j e e' a q _ w => absurd w (by rw [noown i e _ q]; exact List.not_mem_nil), by rw [List.length_map]; exact E.len⟩
  rw [List.getElem?_map] at q
  cases h : Γ[i]? with
  | none => rw [h] at q; cases q
  | some e' =>
    rw [h] at q; cases q
    have := E.ent i e' h
    cases e' with
    | im r x => obtain ⟨v, e, hr⟩ := this; exact ⟨v, e, r.mono E.sub hr⟩
    | no => trivial
    | mu r x => trivial
    | di x => trivial
    | ob x => trivial
theorem w_compF (i : Nat) {Γf : Ga} (hF : ∀ (σ : St) (H0 R0 H R : Hp), EnvOk X.K σ H0 R0 H R Γ → EnvOk X.K σ H H H H Γf) {y : Str} {py spos : Pos} {tg elt iter : Expr} {ifs : List Expr} {scope : Scope} {pos : Pos} {cl : List (Str × Addr)} {own fr : List Str} {ix : List Nat} {ra : Rep α} {rb : Rep β} {xs : List α} {p : α → Bool} {f : α → β} {bf : α → Ga → Ga}
    (flat : ∀ (K : PySem.W.Frag) (H H' : Hp) v y, rb.R K H v y → rb.R K H' v y)
    (S : CompScope X scope cl own fr ix) (hit : IV X tg iter Γf ra xs Γf)
    (hb : ∀ (C : Addr) (s : Shared) (H : Hp) (ex : List Addr), BG (cxComp X scope cl C (own ++ fr) s H ex) tg ra bf) (hw : ∀ x, Wk (bf x (cGa own ix Γf)) (cGa own ix Γf))
    (ht : ∀ (C : Addr) (s : Shared) (H : Hp) (ex : List Addr) x, x ∈ xs → TF (cxComp X scope cl C (own ++ fr) s H ex) ifs (bf x (cGa own ix Γf)) (p x) (bf x (cGa own ix Γf)))
    (he : ∀ (C : Addr) (s : Shared) (H : Hp) (ex : List Addr) x, x ∈ xs → p x = true → EV (cxComp X scope cl C (own ++ fr) s H ex) elt (bf x (cGa own ix Γf)) rb (f x) (bf x (cGa own ix Γf)))
    (h : N (Γ.set i (.mu rb ((xs.filter p).map f))))
    (hsw : swapsWith (.ListComp elt [⟨tg, iter, ifs, 0⟩] scope pos) (some (.Name y py)) spos.line X.env = pure true := by rfl)
    (hN : X.N.Nodup := by first | assumption | decide) (hi' : X.N[i]? = some y := by rfl) (hx : Loc X.env.scope y := by first | exact Or.inl rfl | exact Or.inr rfl)
    (hc : X.calm = true := by rfl) (hs : ∀ x, foldedSetIterable iter X.env x = pure x := by intro _; rfl) (hf : X.fn y = true ∨ X.env.scope.names.lookup y = some .local := by first | exact .inl rfl | exact .inr rfl) :
    W1 X (.Assign [.Name y py] (.ListComp elt [⟨tg, iter, ifs, 0⟩] scope pos) spos) Γ N T := fun σ H0 R0 H R E D dn dr => by
  obtain ⟨wi, hi, hit⟩ := hit
  refine sS (ps_setcomp (i := i) (g := fun v σ H Q => ∀ C s Hh ex, semG (cxComp X scope cl C (own ++ fr) s Hh ex) tg v σ H Q) (tc := fun σ H Q => ∀ C s Hh ex, semF (cxComp X scope cl C (own ++ fr) s Hh ex) ifs σ H Q) (te := fun σ H Q => ∀ C s Hh ex, semE (cxComp X scope cl C (own ++ fr) s Hh ex) elt σ H Q) hsw hN hi' hx hc S hi
    (fun C s H ex => ⟨fun pins s1 σ H v u Q I r h => h C s _ ex pins s1 u I r, fun pins s1 σ H Q I h => h C s _ ex pins s1 I, fun pins s1 σ H Q I h => h C s _ ex pins s1 I⟩) hs hf) ?_
  refine hit σ H H H H (hF σ H0 R0 H R E) _ fun J H1 R1 E1 s1 hz src => comp_read (Q := fun v H' => D.nx (σ.set i (some v)) H') E1 src hz hb hw ht he fun a vs H' R' xx ha pp => ?_
  have sH : Same H H' := E1.ext.h.trans xx.h
  have E2 := E.grow (H' := H') (R' := R) ⟨sH, Same.refl _, E.sub.trans sH, fun _ _ => rfl⟩
  exact dn _ _ R _ ((E2.grow (Ext.freshM E2.sub ha _)).setO (u := .lst vs) (en := .mu rb ((xs.filter p).map f)) i ⟨a, vs, rfl, upd_same, E2.sub.free ha, Paired.map (fun _ _ => flat X.K R' R _ _) pp⟩ (E2.ext.h.free ha) fun j e _ q w => E2.off ha j e q w) (Same.refl _) h
theorem ev_tupRow {a : Expr} {p pos : Pos} {r : Row} (hm : X.mg "tuple" = none) (ha : EV X a Γ rLrow r Γ1) (hs : starEach [a] X.env = [(false, eval a X.env)] := by rfl) (hg : Gl X "tuple" := by rfl) : EV X (.Call (.Name "tuple" p) [a] [] pos) Γ rRow r Γ1 := by
  intro σ H0 R0 H R E Q q
  refine eS (pe_callTy call_tuple_of hg hm PyProof.Rows.boot_tuple (pa_cons peS pa_nil hs) (by decide) (by decide) hs) (ha σ H0 R0 H R E _ fun v H1 R1 E1 s1 e1 => ?_)
  obtain ⟨b, rfl, hb⟩ := e1
  refine ⟨b, _, rfl, .inl ⟨SqL.of (E1.sub _ _ hb), fun l hl => ?_⟩⟩
  exact q _ _ (upd R1 l _) (E1.grow (Ext.fresh E1.sub hl _)) (s1.trans (Same.fresh (E1.sub.free hl) _)) ⟨l, rfl, upd_same⟩
end
end Fc

set_option Elab.async false
set_option linter.all false
set_option maxRecDepth 100000
namespace K1
open PySem
abbrev top (i : Nat) : Stmt := PySem.Challenge.pw_fewcounters_k57_whole_chains_and_their_n.main.body.getD i (.Pass ⟨0, 0, 0, 0⟩)
abbrev at_is_whole : Nat := 13
abbrev at_are_whole : Nat := 14
abbrev at_is_web : Nat := 15
abbrev at_has_web_form : Nat := 16
abbrev at_has_row_form : Nat := 17
abbrev at_has_web_sizes : Nat := 18
abbrev at_leads_within : Nat := 19
abbrev at_is_called : Nat := 20
abbrev at_lies_on_ways : Nat := 21
abbrev at_reached : Nat := 22
abbrev at_need_web : Nat := 23
abbrev at_is_part : Nat := 24
abbrev at_is_row : Nat := 25
abbrev at_chains : Nat := 27
abbrev at_offsets : Nat := 28
abbrev at_chain_number : Nat := 29
abbrev at_is_chain : Nat := 30
abbrev at_chain_of : Nat := 31
abbrev at__law_whole : Nat := 33
abbrev at__law_purse : Nat := 34
abbrev at__law_draw : Nat := 35
abbrev at__law_order : Nat := 36
abbrev at__law_part : Nat := 37
abbrev at__law_called : Nat := 38
abbrev at__law_web : Nat := 39
abbrev at__law_copy : Nat := 40
abbrev at__law_many : Nat := 41
abbrev at__law_offsets : Nat := 42
abbrev at__law_is_chain : Nat := 43
abbrev at__law_numbers : Nat := 44
abbrev at_law : Nat := 45
end K1

set_option Elab.async false
set_option linter.all false
set_option maxRecDepth 100000
set_option maxHeartbeats 4000000
namespace K1
open PySem L2 Fc
open PySem.Spec hiding Row
open PyProof.Rows hiding St
structure Mods (mg : Str → Option Value) : Prop where
  mostParts : ∃ t, mg "MOST_PARTS" = some (.int 4 t)
  leastPlaces : ∃ t, mg "LEAST_PLACES" = some (.int 2 t)
  mostPlaces : ∃ t, mg "MOST_PLACES" = some (.int 16 t)
  mostRows : ∃ t, mg "MOST_ROWS" = some (.int 60 t)
  firstPart : ∃ t, mg "FIRST_PART" = some (.int 0 t)
  begin_ : ∃ t, mg "BEGIN" = some (.int 0 t)
  end_ : ∃ t, mg "END" = some (.int 1 t)
  noCall : ∃ t, mg "NO_CALL" = some (.int (-1) t)
  len : mg "len" = none
  all : mg "all" = none
  any : mg "any" = none
  range : mg "range" = none
  enumerate : mg "enumerate" = none
  isinstance : mg "isinstance" = none
  int : mg "int" = none
  bool : mg "bool" = none
  list : mg "list" = none
  tuple : mg "tuple" = none
  min : mg "min" = none
  max : mg "max" = none
  sorted : mg "sorted" = none
  sum : mg "sum" = none
  zip : mg "zip" = none
  reversed : mg "reversed" = none
  set : mg "set" = none
theorem boot_bool : bootBuiltins "bool" = some (.type "bool") := by decide +kernel
section
variable {P : Program} {w : World} {K : PySem.W.Frag} {mg : Str → Option Value} {base : Heap} {f : Addr} {fd : FuncData}
theorem atI_getD {xs : List Int} {i : Int} (h0 : 0 ≤ i) (h1 : i < xs.length) : atI xs i = some (xs.getD i.toNat 0) := by
  rw [atI_of h0 h1, List.getElem?_eq_getElem (by omega), List.getD_eq_getElem?_getD, List.getElem?_eq_getElem (by omega)]; rfl
abbrev sIW : Stmt := top at_is_whole
theorem scIW : FnScope ["value"] ["value"] (defScope sIW) := ⟨rfl, rfl, rfl, by decide +kernel, rfl, by decide +kernel, by decide +kernel⟩
def SIW : SpD := fun K ps T => ∃ x : Int, ps = [⟨rInt, x⟩] ∧ T = rtP K rBool (· = true)
theorem ok_IW (M : Mods mg) (F : Fun K "is_whole" "is_whole" sIW f fd) (hm : mg "is_whole" = some (.ref f)) (hb : Binds K fd ["value"] []) : Cal P w K mg base "is_whole" 1 (spG SIW K) := by
  have nd := scIW.nd
  refine fn_ok F scIW hm hb (fun qs T ⟨x, e, _⟩ => by rw [e]; rfl) (fun cdv A outer s H E qs T hr hS => ?_)
  obtain ⟨x, rfl, rfl⟩ := hS
  exact ws_one (w_ret (ev_and (ev_isinst M.isinstance M.int PyProof.Rows.boot_int (ev_name 0 rfl) ty_int) (fun _ => ev_one (ev_not (ev_isinst M.isinstance M.bool boot_bool (ev_name 0 rfl) ty_int)))) rfl)
abbrev sAW : Stmt := top at_are_whole
theorem scAW : FnScope ["values"] ["values"] (defScope sAW) := ⟨rfl, rfl, rfl, by decide +kernel, rfl, by decide +kernel, by decide +kernel⟩
def SAW : SpD := fun K ps T => ((∃ ns : List Int, ps = [⟨rList rInt, ns⟩]) ∨ (∃ r : Row, ps = [⟨rRow, r⟩])) ∧ T = rtP K rBool (· = true)
theorem all_true {α : Type} (xs : List α) : ((xs.filter fun _ => true).map fun _ => true).all id = true := by
  rw [List.all_eq_true]; intro b hb
  obtain ⟨_, _, rfl⟩ := List.mem_map.mp hb; rfl
theorem ok_AW (M : Mods mg) (CI : Cal P w K mg base "is_whole" 1 (spG SIW K)) (F : Fun K "are_whole" "are_whole" sAW f fd) (hm : mg "are_whole" = some (.ref f)) (hb : Binds K fd ["values"] []) : Cal P w K mg base "are_whole" 2 (spG SAW K) := by
  have nd := scAW.nd
  have ndc : List.Nodup [("value" : Str)] := by decide
  refine fn_ok F scAW hm hb (fun qs T ⟨e, _⟩ => by rcases e with ⟨_, e⟩ | ⟨_, e⟩ <;> (rw [e]; rfl)) (fun cdv A outer s H E qs T hr hS => ?_)
  obtain ⟨⟨ns, rfl⟩ | ⟨r, rfl⟩, rfl⟩ := hS
  · exact ws_one (w_ret (ev_all M.all (EVL.im (evl_comp (own := ["value"]) (fr := []) (ix := []) (p := fun _ => true) (f := fun _ => true) (comp_mk (so := defScope sAW) (N0 := ["values"]) rfl rfl (fun x h => cell_has h) (by decide +kernel)) (iv_list (ev_name 0 rfl))
      (fun C s H ex => bg_name 0) (fun x => ⟨.inr rfl, trivial⟩) (fun C s H ex x hx => tf_nil) (fun C s H ex x hx _ => ev_call CI hr (ha_cons (ev_name 0 rfl) ha_nil) ⟨_, rfl, rfl⟩)))) (all_true ns))
  · exact ws_one (w_ret (ev_all M.all (EVL.im (evl_comp (own := ["value"]) (fr := []) (ix := []) (p := fun _ => true) (f := fun _ => true) (comp_mk (so := defScope sAW) (N0 := ["values"]) rfl rfl (fun x h => cell_has h) (by decide +kernel)) (iv_row (ev_name 0 rfl))
      (fun C s H ex => bg_name 0) (fun x => ⟨.inr rfl, trivial⟩) (fun C s H ex x hx => tf_nil) (fun C s H ex x hx _ => ev_call CI hr (ha_cons (ev_name 0 rfl) ha_nil) ⟨_, rfl, rfl⟩)))) (all_true _))
end
end K1

set_option Elab.async false
set_option linter.all false
set_option maxRecDepth 100000
set_option maxHeartbeats 4000000
namespace K1
open PySem L2 Fc
open PySem.Spec hiding Row
open PyProof.Rows hiding St
section
variable {P : Program} {w : World} {K : PySem.W.Frag} {mg : Str → Option Value} {base : Heap} {f : Addr} {fd : FuncData}
abbrev sRF : Stmt := top at_has_row_form
theorem scRF : FnScope ["row"] ["row"] (defScope sRF) := ⟨rfl, rfl, rfl, by decide +kernel, rfl, by decide +kernel, by decide +kernel⟩
def SRF : SpD := fun K ps T => ∃ r : Row, ps = [⟨rRow, r⟩] ∧ T = rtP K rBool (· = true)
theorem ok_RF (M : Mods mg) (CA : Cal P w K mg base "are_whole" 2 (spG SAW K)) (F : Fun K "has_row_form" "has_row_form" sRF f fd) (hm : mg "has_row_form" = some (.ref f)) (hb : Binds K fd ["row"] []) : Cal P w K mg base "has_row_form" 3 (spG SRF K) := by
  have nd := scRF.nd
  refine fn_ok F scRF hm hb (fun qs T ⟨x, e, _⟩ => by rw [e]; rfl) (fun cdv A outer s H E qs T hr hS => ?_)
  obtain ⟨r, rfl, rfl⟩ := hS
  exact ws_one (w_ret (ev_and (ev_isinst M.isinstance M.tuple PyProof.Rows.boot_tuple (ev_name 0 rfl) ty_row) (fun _ => ev_and (ev_cmp c_eq (ev_lenT M.len (ev_name 0 rfl) lenRow) ev_int) (fun _ => ev_one (ev_call CA hr (ha_cons (ev_name 0 rfl) ha_nil) ⟨.inr ⟨_, rfl⟩, rfl⟩)))) rfl)
abbrev sWF : Stmt := top at_has_web_form
theorem scWF : FnScope ["web", "places", "rows"] ["web"] (defScope sWF) := ⟨rfl, rfl, rfl, by decide +kernel, rfl, by decide +kernel, by decide +kernel⟩
def SWF : SpD := fun K ps T => ∃ v : Web, ps = [⟨rWeb, v⟩] ∧ T = rtP K rBool (· = true)
theorem ok_WF (M : Mods mg) (CA : Cal P w K mg base "are_whole" 2 (spG SAW K)) (CR : Cal P w K mg base "has_row_form" 3 (spG SRF K)) (F : Fun K "has_web_form" "has_web_form" sWF f fd) (hm : mg "has_web_form" = some (.ref f)) (hb : Binds K fd ["web"] []) : Cal P w K mg base "has_web_form" 4 (spG SWF K) := by
  have nd := scWF.nd
  have ndc : List.Nodup [("row" : Str)] := by decide
  refine fn_ok F scWF hm hb (fun qs T ⟨x, e, _⟩ => by rw [e]; rfl) (fun cdv A outer s H E qs T hr hS => ?_)
  obtain ⟨v, rfl, rfl⟩ := hS
  refine ws_seq (w_if (TW.tv (tw_or (tv_not (tv_bool (ev_isinst M.isinstance M.tuple PyProof.Rows.boot_tuple (ev_name 0 rfl) (ty_pair (r := rList rInt) (r' := rList rRow))))) (fun _ => tw_or1 (tv_cmp c_ne (ev_lenT M.len (ev_name 0 rfl) (lenPair (r := rList rInt) (r' := rList rRow))) ev_int)))) (fun h => absurd h (by decide)) (fun _ => ws_end ?_))
  refine ws_seq (w_set 1 (ev_fst (r := rList rInt) (r' := rList rRow) (ev_name 0 rfl)) (ws_seq (w_set 2 (ev_snd (r := rList rInt) (r' := rList rRow) (ev_name 0 rfl)) ?_)))
  refine ws_seq (w_if (TW.tv (tw_or (tv_not (tv_bool (ev_isinst M.isinstance M.list PyProof.Rows.boot_list (ev_name 1 rfl) ty_list))) (fun _ => tw_or1 (tv_not (tv_bool (ev_isinst M.isinstance M.list PyProof.Rows.boot_list (ev_name 2 rfl) ty_list)))))) (fun h => absurd h (by decide)) (fun _ => ws_end ?_))
  exact ws_one (w_ret (ev_and (ev_call (CA.mono (by decide : 2 ≤ 3)) hr (ha_cons (ev_name 1 rfl) ha_nil) ⟨.inl ⟨_, rfl⟩, rfl⟩) (fun _ => ev_one (ev_all M.all (EVL.im (evl_comp (own := ["row"]) (fr := []) (ix := []) (p := fun _ => true) (f := fun _ => true) (comp_mk (so := defScope sWF) (N0 := ["web", "places", "rows"]) rfl rfl (fun x h => cell_has h) (by decide +kernel)) (iv_list (ev_name 2 rfl))
      (fun C s H ex => bg_name 0) (fun x => ⟨.inr rfl, trivial⟩) (fun C s H ex x hx => tf_nil) (fun C s H ex x hx _ => ev_call CR hr (ha_cons (ev_name 0 rfl) ha_nil) ⟨_, rfl, rfl⟩)))))) (by rw [all_true]; rfl))
abbrev sWZ : Stmt := top at_has_web_sizes
theorem scWZ : FnScope ["web", "places", "rows"] ["web"] (defScope sWZ) := ⟨rfl, rfl, rfl, by decide +kernel, rfl, by decide +kernel, by decide +kernel⟩
def sizes (v : Web) : Bool :=
  if !(decide ((1 : Int) ≤ (v.1.length : Int)) && decide ((v.1.length : Int) ≤ 4)) || !(decide ((1 : Int) ≤ (v.2.length : Int)) && decide ((v.2.length : Int) ≤ 60)) then false
  else ((v.1.filter fun _ => true).map fun n => decide ((2 : Int) ≤ n) && decide (n ≤ 16)).all id
def SWZ : SpD := fun K ps T => ∃ v : Web, ps = [⟨rWeb, v⟩] ∧ T = rtP K rBool (· = sizes v)
theorem ok_WZ (M : Mods mg) (F : Fun K "has_web_sizes" "has_web_sizes" sWZ f fd) (hm : mg "has_web_sizes" = some (.ref f)) (hb : Binds K fd ["web"] []) : Cal P w K mg base "has_web_sizes" 1 (spG SWZ K) := by
  have nd := scWZ.nd
  have ndc : List.Nodup [("size" : Str)] := by decide
  obtain ⟨t1, h1⟩ := M.mostParts
  obtain ⟨t2, h2⟩ := M.mostRows
  obtain ⟨t3, h3⟩ := M.leastPlaces
  obtain ⟨t4, h4⟩ := M.mostPlaces
  refine fn_ok F scWZ hm hb (fun qs T ⟨x, e, _⟩ => by rw [e]; rfl) (fun cdv A outer s H E qs T hr hS => ?_)
  obtain ⟨v, rfl, rfl⟩ := hS
  refine ws_seq (w_set 1 (ev_fst (r := rList rInt) (r' := rList rRow) (ev_name 0 rfl)) (ws_seq (w_set 2 (ev_snd (r := rList rInt) (r' := rList rRow) (ev_name 0 rfl)) ?_)))
  refine ws_seq (w_if (TW.tv (tw_or (tv_not (tv_chain c_le c_le ev_int (ev_len M.len (ev_name 1 rfl)) (ev_glob h1))) (fun _ => tw_or1 (tv_not (tv_chain c_le c_le ev_int (ev_len M.len (ev_name 2 rfl)) (ev_glob h2)))))) (fun h => ?_) (fun h => ws_end ?_))
  · exact ws_one (w_ret ev_bool (by rw [sizes, if_pos h]))
  · exact ws_one (w_ret (ev_all M.all (EVL.im (evl_comp (own := ["size"]) (fr := []) (ix := []) (p := fun _ => true) (f := fun n => decide ((2 : Int) ≤ n) && decide (n ≤ 16)) (comp_mk (so := defScope sWZ) (N0 := ["web", "places", "rows"]) rfl rfl (fun x h => cell_has h) (by decide +kernel)) (iv_list (ev_name 1 rfl))
      (fun C s H ex => bg_name 0) (fun x => ⟨.inr rfl, trivial⟩) (fun C s H ex x hx => tf_nil) (fun C s H ex x hx _ => ev_chain c_le c_le (ev_glob h3) (ev_name 0 rfl) (ev_glob h4))))) (by rw [sizes, if_neg (by rw [h]; decide)]))
abbrev sLW : Stmt := top at_leads_within
theorem scLW : FnScope ["places", "row", "part"] ["places", "row"] (defScope sLW) := ⟨rfl, rfl, rfl, by decide +kernel, rfl, by decide +kernel, by decide +kernel⟩
def leads (ns : List Int) (r : Row) : Bool :=
  if !(decide (0 ≤ r.1) && decide (r.1 < (ns.length : Int))) then false
  else if !(decide (0 ≤ r.2.1) && decide (r.2.1 < ns.getD r.1.toNat 0)) || !(decide (0 ≤ r.2.2.1) && decide (r.2.2.1 < ns.getD r.1.toNat 0)) then false
  else (!decide (r.2.1 = 1)) && (decide (r.2.2.2 = -1) || (decide (r.1 < r.2.2.2) && decide (r.2.2.2 < (ns.length : Int))))
def SLW : SpD := fun K ps T => ∃ ns r, ps = [⟨rList rInt, ns⟩, ⟨rRow, r⟩] ∧ T = rtP K rBool (· = leads ns r)
theorem ok_LW (M : Mods mg) (F : Fun K "leads_within" "leads_within" sLW f fd) (hm : mg "leads_within" = some (.ref f)) (hb : Binds K fd ["places", "row"] []) : Cal P w K mg base "leads_within" 1 (spG SLW K) := by
  have nd := scLW.nd
  obtain ⟨t1, hEND⟩ := M.end_
  obtain ⟨t2, hNC⟩ := M.noCall
  refine fn_ok F scLW hm hb (fun qs T ⟨ns, r, e, _⟩ => by rw [e]; rfl) (fun cdv A outer s H E qs T hr hS => ?_)
  obtain ⟨ns, r, rfl, rfl⟩ := hS
  refine ws_seq (w_set 2 (ev_row0 (ev_name 1 rfl)) ?_)
  refine ws_seq (w_if (tv_not (tv_chain c_le c_lt ev_int (ev_name 2 rfl) (ev_len M.len (ev_name 0 rfl)))) (fun h => ?_) (fun h => ?_))
  · exact ws_one (w_ret ev_bool (by rw [leads, if_pos h]))
  refine ws_end ?_
  have h' : 0 ≤ r.1 ∧ r.1 < (ns.length : Int) := by simpa using h
  have hix : atI ns r.1 = some (ns.getD r.1.toNat 0) := atI_getD h'.1 h'.2
  refine ws_seq (w_if (TW.tv (tw_or (tv_not (tv_chain c_le c_lt ev_int (ev_row1 (ev_name 1 rfl)) (ev_ixL (ev_name 0 rfl) (ev_name 2 rfl) hix))) (fun _ => tw_or1 (tv_not (tv_chain c_le c_lt ev_int (ev_row2 (ev_name 1 rfl)) (ev_ixL (ev_name 0 rfl) (ev_name 2 rfl) hix)))))) (fun h2 => ?_) (fun h2 => ?_))
  · exact ws_one (w_ret ev_bool (by rw [leads, if_neg (by rw [h]; decide), if_pos h2]))
  refine ws_end (ws_one (w_ret (ev_and (ev_cmp c_ne (ev_row1 (ev_name 1 rfl)) (ev_glob hEND)) (fun _ => ev_one (ev_or (ev_cmp c_eq (ev_row3 (ev_name 1 rfl)) (ev_glob hNC)) (fun _ => ev_one (ev_chain c_lt c_lt (ev_name 2 rfl) (ev_row3 (ev_name 1 rfl)) (ev_len M.len (ev_name 0 rfl))))))) ?_))
  rw [leads, if_neg (by rw [h]; decide), if_neg (by rw [h2]; decide)]
abbrev sIC : Stmt := top at_is_called
theorem scIC : FnScope ["rows", "part"] ["rows", "part"] (defScope sIC) := ⟨rfl, rfl, rfl, by decide +kernel, rfl, by decide +kernel, by decide +kernel⟩
def called (rs : List Row) (p : Int) : Bool := ((rs.filter fun _ => true).map fun r => decide (r.2.2.2 = p)).any id
def SIC : SpD := fun K ps T => ∃ (rs : List Row) (p : Int), ps = [⟨rList rRow, rs⟩, ⟨rInt, p⟩] ∧ T = rtP K rBool (· = called rs p)
theorem ok_IC (M : Mods mg) (F : Fun K "is_called" "is_called" sIC f fd) (hm : mg "is_called" = some (.ref f)) (hb : Binds K fd ["rows", "part"] []) : Cal P w K mg base "is_called" 1 (spG SIC K) := by
  have nd := scIC.nd
  have ndc : List.Nodup [("row" : Str), "part"] := by decide
  refine fn_ok F scIC hm hb (fun qs T ⟨_, _, e, _⟩ => by rw [e]; rfl) (fun cdv A outer s H E qs T hr hS => ?_)
  obtain ⟨rs, p, rfl, rfl⟩ := hS
  exact ws_one (w_ret (ev_any M.any (EVL.im (evl_comp (own := ["row"]) (fr := ["part"]) (ix := [1]) (p := fun _ => true) (f := fun r => decide (r.2.2.2 = p)) (comp_mk (so := defScope sIC) (N0 := ["rows", "part"]) rfl rfl (fun x h => cell_has h) (by decide +kernel)) (iv_list (ev_name 0 rfl))
      (fun C s H ex => bg_name 0) (fun x => ⟨.inr rfl, .inl rfl, trivial⟩) (fun C s H ex x hx => tf_nil) (fun C s H ex x hx _ => ev_cmp c_eq (ev_row3 (ev_name 0 rfl)) (ev_name 1 rfl))))) rfl)
end
end K1

set_option Elab.async false
set_option linter.all false
set_option maxRecDepth 100000
set_option maxHeartbeats 4000000
namespace Fc
open PySem PySem.Spec L2
open PyProof.Rows hiding St
section
variable {X : Cx} {Γ Γ1 Γ2 Γ3 : Ga} {α β γ δ : Type} {N : Ga → Prop} {T : RT}
theorem EV.rep {e : Expr} {r : Rep α} {x : α} {r' : Rep β} {y : β} (h : EV X e Γ r x Γ1) (c : ∀ (R : Hp) v, r.R X.K R v x → r'.R X.K R v y) : EV X e Γ r' y Γ1 := fun σ H0 R0 H R E Q q => h σ H0 R0 H R E Q fun v H' R' E' s' e' => q v H' R' E' s' (c R' v e')
end
end Fc
namespace Fc
open PySem PySem.Spec L2
open PyProof.Rows hiding St
section
variable {X : Cx} {Γ Γ1 Γ2 Γ3 : Ga} {α β γ δ : Type} {N : Ga → Prop} {T : RT}
theorem paired_ints {K : PySem.W.Frag} {R : Hp} : ∀ ys : List Int, PySem.Paired (rInt.R K R) (ys.map V.int) ys
  | [] => .nil
  | _ :: r => .cons rfl (paired_ints r)
theorem evl_listRange {a : Expr} {p1 p2 pos pos2 : Pos} {n : Int} (hml : X.mg "list" = none) (hmr : X.mg "range" = none) (ha : EV X a Γ rInt n Γ1) (hn : -1000000 ≤ n ∧ n ≤ 1000000) (hs : starEach [a] X.env = [(false, eval a X.env)] := by rfl)
    (hs2 : starEach [.Call (.Name "range" p2) [a] [] pos2] X.env = [(false, eval (.Call (.Name "range" p2) [a] [] pos2) X.env)] := by rfl) (hc : X.calm = true := by rfl) (hg : Gl X "list" := by rfl) (hgr : Gl X "range" := by rfl) : EVL X (.Call (.Name "list" p1) [.Call (.Name "range" p2) [a] [] pos2] [] pos) Γ rInt (ups 0 n.toNat) Γ1 := by
  intro σ H0 R0 H R E Q q
  refine eS (pe_callTy (call_listRng hc) hg hml PyProof.Rows.boot_list (pa_cons (pe_callTy call_rangeObj1 hgr hmr boot_range (pa_cons peS pa_nil hs) (by decide) (by decide) hs) pa_nil hs2) (by decide) (by decide) hs2) (ha σ H0 R0 H R E _ fun v H1 R1 E1 s1 e1 => ⟨n, by rw [show v = V.int n from e1], fun p hp => ?_⟩)
  refine ⟨p, 0, n, rfl, upd_same, by decide, by decide, hn.1, hn.2, fun d hd => ?_⟩
  have E2 := E1.grow (Ext.freshM E1.sub hp (.rng 0 n))
  rw [Int.sub_zero]
  exact q d _ _ R1 (E2.grow (Ext.freshM E2.sub hd _)) s1 upd_same (E2.sub.free hd) (E2.ext.h.free hd) (E2.off hd) (paired_ints _) (by rw [ups_length]; exact Nat.le_trans (show n.toNat ≤ 1000000 by omega) (by decide))
end
end Fc
namespace K1
open PySem L2 Fc
open PySem.Spec hiding Row
open PyProof.Rows hiding St
open PySem.Builtin.Int (intBits)
theorem bits_ediv {a b : Int} {m : Nat} (hb : 0 < b) (ha : intBits a ≤ m) : intBits (a / b) ≤ m := by
  rw [← Int.fdiv_eq_ediv_of_nonneg a (Int.le_of_lt hb)]; exact bits_fdiv ha
theorem small_mul {x y : Int} (h0 : 0 ≤ x) (h1 : x < 4294967296) : IntMulOk x y := .of_left (intBits_le_64 (by omega) (by omega))
theorem ixN_of {n : Nat} {i : Int} (h0 : 0 ≤ i) (h1 : i < n) : ixN n i = some i.toNat := by unfold ixN; rw [if_pos h0, if_pos h1]
abbrev rTie : Rep (Int × Int) := rPair rInt rInt
theorem ups_mem {n : Nat} {k : Int} : k ∈ ups 0 n ↔ 0 ≤ k ∧ k < n := by
  unfold ups
  rw [List.mem_map]
  constructor
  · rintro ⟨j, hj, rfl⟩
    have := List.mem_range.mp hj
    omega
  · rintro ⟨h0, h1⟩
    exact ⟨k.toNat, List.mem_range.mpr (by omega), by omega⟩
theorem ups_pair (n : Nat) : (ups 0 n).Pairwise (· < ·) := by
  unfold ups
  rw [List.pairwise_map]
  exact List.pairwise_lt_range.imp fun h => by omega
theorem ups_nodup (n : Nat) : (ups 0 n).Nodup := (ups_pair n).imp fun h => by omega
theorem small_le {n : Nat} (h : n ≤ 1000000) : n ≤ sizeLine := Nat.le_trans h (by decide)
theorem atI_getDG {α : Type} {xs : List α} {i : Int} (d : α) (h0 : 0 ≤ i) (h1 : i < xs.length) : atI xs i = some (xs.getD i.toNat d) := by
  rw [atI_of h0 h1, List.getElem?_eq_getElem (by omega), List.getD_eq_getElem?_getD, List.getElem?_eq_getElem (by omega)]; rfl
theorem atI_neg1 {α : Type} {xs : List α} {y : α} (h : xs[xs.length - 1]? = some y) : atI xs (-1) = some y := by
  have hl : 0 < xs.length := by
    have := (List.getElem?_eq_some_iff.mp h).1
    omega
  unfold atI ixN
  rw [if_neg (by omega), if_pos (by omega)]
  show xs[((-1 : Int) + (xs.length : Int)).toNat]? = _
  rw [show ((-1 : Int) + (xs.length : Int)).toNat = xs.length - 1 by omega]; exact h
theorem ups_take {lo : Int} {n i : Nat} {x : Int} (h : (ups lo n)[i]? = some x) : (ups lo n).take (i + 1) = (ups lo n).take i ++ [x] := by rw [List.take_succ, h]; rfl
end K1

set_option Elab.async false
set_option linter.all false
set_option maxRecDepth 100000
set_option maxHeartbeats 4000000
namespace Fc
open PySem PySem.Spec L2
open PyProof.Rows hiding St
section
variable {X : Cx} {Γ Γ1 Γ2 Γ3 : Ga} {α β γ δ : Type} {N : Ga → Prop} {T : RT}
theorem preSum_take (xs : Array (Int × Tok)) : ∀ n : Nat, preSum (numAt xs) n = ((xs.toList.map (·.1)).take n).sum
  | 0 => rfl
  | n + 1 => by
    have e : preSum (numAt xs) (n + 1) = preSum (numAt xs) n + numAt xs n := rfl
    rw [e, preSum_take xs n, PySem.sum_take_succ, numAt_eq]
theorem call_sumI (hc : X.calm = true) : CallR X (.builtin "sum") (fun xs H Q => ∃ (p : Addr) (ns : List Int), xs = [.ref p] ∧ SqL X.K H p (ns.map V.int) ∧ Q (.int ns.sum) H) := by
  intro pins s σ H xs us Q I r h
  obtain ⟨p, ns, rfl, hq, q⟩ := h
  obtain ⟨u, rfl, rx⟩ := vals1 r
  cases rx
  obtain ⟨its, r', pl, hz⟩ := I.list hq
  have hi := intsAre_of r'
  have hl := pl.isList
  obtain ⟨xs, e⟩ := hi.allInts.items
  have hns : ns = xs.toList.map (·.1) := by rw [← hi.numsOf, ← nums_intItems, ← e]
  rw [e] at hl
  refine call_sum_walkG (iter_intList hl fun s₂ e st hfp hlI => ?_)
  subst e
  refine ⟨_, _, _, _, _, _, numAt xs, rfl, Walks.list (A := X.A.in1) (I.ok.hd hc) _ p hlI (intItems xs), st, hfp, (fun _ _ => intItems_at), fun h' tk t' hk => ?_⟩
  have es : preSum (numAt xs) (intItems xs).size = ns.sum := by
    rw [preSum_take, hns, List.take_of_length_le]
    simp [intItems]
  rw [es]
  exact ⟨.int _, H, I.kept (old_kept hk), ⟨t', rfl⟩, q⟩
theorem ev_sum {a : Expr} {p pos : Pos} {ns : List Int} (hm : X.mg "sum" = none) (ha : EV X a Γ (rList rInt) ns Γ1) (hs : starEach [a] X.env = [(false, eval a X.env)] := by rfl) (hc : X.calm = true := by rfl) (hg : Gl X "sum" := by rfl) : EV X (.Call (.Name "sum" p) [a] [] pos) Γ rInt ns.sum Γ1 :=
  ev_b1 (call_sumI hc) hm PyProof.Rows.boot_sum ha (fun R H v Q s ⟨p, vs, e, hp, pp, _⟩ q => ⟨p, ns, by rw [e], by rw [← ints_of pp]; exact SqL.of (s _ _ hp), q _ rfl⟩) hs hg
theorem rc_pair {r : Rep α} {r' : Rep β} [DecidableEq α] [DecidableEq β] {n m : Nat} (e : EqRep r n) (e' : EqRep r' m) {X : Cx} {pins : List (Addr × Obj)} {σ : St} {H : Hp} {s : Shared} {R : Hp} {A : Around} (I : Inv X pins σ H s) (sub : Same R H) {a b : Addr} {v1 v2 w1 w2 : V} {x y : α × β} (ha : R a = some (.tup [v1, v2])) (hb : R b = some (.tup [w1, w2]))
    (p1 : r.R X.K R v1 x.1) (p2 : r'.R X.K R v2 x.2) (q1 : r.R X.K R w1 y.1) (q2 : r'.R X.K R w2 y.2) (hu : A.units + (n + 1) < cLine) (hu' : A.units + (m + 1) < cLine) :
    SeqAt.RcAt A s (.ref a) (.ref b) (decide (x = y)) ∧ SeqAt.RcNeAt A s (.ref a) (.ref b) (!decide (x = y)) := by
  have key := rc_tup (A := A) (k := fun j => if j = 0 then decide (x.1 = y.1) else decide (x.2 = y.2)) I sub ha hb rfl (by omega) fun us us' hv hw j h1 h2 => by
    cases hv with
    | cons a1 t => cases t with
      | cons a2 t => cases t; cases hw with
        | cons b1 t => cases t with
          | cons b2 t =>
            cases t
            match j, h1 with
            | 0, _ => exact e.eq (A := A.in1) I sub a1 b1 p1 q1 (by rw [in1_units]; omega)
            | 1, _ => exact e'.eq (A := A.in1) I sub a2 b2 p2 q2 (by rw [in1_units]; omega)
            | j + 2, h => exact absurd h (by simp)
  have d : (List.range [v1, v2].length).all (fun j => if j = 0 then decide (x.1 = y.1) else decide (x.2 = y.2)) = decide (x = y) := by
    obtain ⟨x1, x2⟩ := x
    obtain ⟨y1, y2⟩ := y
    simp [List.range_succ, Bool.eq_iff_iff]
  rw [d] at key
  exact key
theorem c_eqP {r : Rep α} {r' : Rep β} [DecidableEq α] [DecidableEq β] {n m : Nat} (e : EqRep r n) (e' : EqRep r' m) (hu : X.A.units + (n + 1) < cLine) (hu' : X.A.units + (m + 1) < cLine) {x y : α × β} : Cmp X .Eq (rPair r r') (rPair r r') x y (decide (x = y)) :=
  ⟨fun v u H Q => ∃ R, Same R H ∧ (rPair r r').R X.K R v x ∧ (rPair r r').R X.K R u y ∧ Q (.bl (decide (x = y))) H, fun pins s σ H v1 u1 v u Q I rx ry ⟨R, sub, h1, h2, q⟩ => by
    obtain ⟨a, v1, v2, rfl, ha, p1, p2⟩ := h1
    obtain ⟨b, w1, w2, rfl, hb, q1, q2⟩ := h2
    cases rx
    cases ry
    exact (rc_pair (A := X.A) e e' I sub ha hb p1 p2 q1 q2 hu hu').1 _ _ _ _ ⟨.bl _, H, I, rfl, q⟩, fun R H v u Q s h1 h2 q => ⟨R, s, h1, h2, q⟩⟩
theorem EnvOk.thaw {K : PySem.W.Frag} {σ : St} {H0 R0 H R H' R' : Hp} {Γf : Ga} (E : EnvOk K σ H0 R0 H R Γ) (E' : EnvOk K σ H H H' R' Γf) : EnvOk K σ H0 R0 H' R Γ :=
  E.grow ⟨E'.ext.h, Same.refl _, E.sub.trans E'.ext.h, fun _ _ => rfl⟩
theorem TV.frz {Γf : Ga} (hF : ∀ (σ : St) (H0 R0 H R : Hp), EnvOk X.K σ H0 R0 H R Γ → EnvOk X.K σ H H H H Γf) {e : Expr} {b : Bool} (h : TV X e Γf b Γf) : TV X e Γ b Γ := fun σ H0 R0 H R E Q q =>
  h σ H H H H (hF σ H0 R0 H R E) Q fun H' R' E' s' => q H' R (E.thaw E') (Same.refl _)
theorem EV.frz {Γf : Ga} (hF : ∀ (σ : St) (H0 R0 H R : Hp), EnvOk X.K σ H0 R0 H R Γ → EnvOk X.K σ H H H H Γf) {e : Expr} {r : Rep α} {y : α} (flat : ∀ (K : PySem.W.Frag) (H H' : Hp) v y, r.R K H v y → r.R K H' v y) (h : EV X e Γf r y Γf) : EV X e Γ r y Γ := fun σ H0 R0 H R E Q q =>
  h σ H H H H (hF σ H0 R0 H R E) Q fun v H' R' E' s' e' => q v H' R (E.thaw E') (Same.refl _) (flat X.K R' R v y e')
def rNon : Rep Unit := ⟨fun _ _ v _ => v = .non, fun _ h => h⟩
theorem w_callX {S : SpD} {x : Str} {k : Nat} {e : Expr} {es : List Expr} {p p2 pos : Pos} {ps : List Pk} {Pd : Unit → Prop} (C : Cal X.prog X.w X.K X.mg X.base x k (spG S X.K)) (hr : Room k X.A) (ha : HA X (e :: es) Γ ps Γ1) (hS : S X.K ps (rtP X.K rNon Pd)) (h : N Γ1)
    (hg : Gl X x := by rfl) (hdb : (x == ("__debug__" : Str)) = false := by decide) (he : starEach (e :: es) X.env = (false, eval e X.env) :: starEach es X.env := by rfl) (hpl : (backTo p2 (starEach es X.env)).any (·.1) = false := by rfl)
    (hsw : swapsWith (.Call (.Name x p) (e :: es) [] p2) none pos.line X.env = pure false := by rfl) : W1 X (.Expr (.Call (.Name x p) (e :: es) [] p2) pos) Γ N T := fun σ H0 R0 H R E D dn dr =>
  sS (ps_expr peS hsw) (ev_callT C hr ha hS E (fun H1 R1 v H' R' E1 s1 xx t => dn σ H' R' _ (E1.grow xx) (s1.trans xx.r) h) hg hdb he hpl)
end
section
variable {P : Program} {w : World} {K : PySem.W.Frag} {mg : Str → Option Value} {base : Heap} {α : Type}
theorem fnN_ok {S : SpD} {x qual : Str} {st : Stmt} {f : Addr} {fd : FuncData} {N ps : List Str} {k : Nat} (F : Fun K x qual st f fd) (Sc : FnScope N ps (defScope st)) (hm : mg x = some (.ref f)) (hb : Binds K fd ps []) (len : ∀ qs T, S K qs T → qs.length = ps.length)
    (hbody : ∀ (cdv : Value) (A : Around) (outer : List Env) (s : Shared) (H : Hp) (E : XK) (qs : List Pk) (T : RT), Room k (A.deeper (envOfC qual (defScope st) s.heap.objs.size f cdv)) → S K qs T → (∀ H0 H' R', T H0 .non H' R') ∧
      WS (cxOf CX0 P w K mg base N qual (defScope st) f cdv A outer s H E).nox (defBody st) (gaOf qs N.length) (fun _ => True) T) : Cal P w K mg base x (k + 1) (spG S K) := by
  refine ⟨f, fd, ps, ?_, hm, F.kp, hb⟩
  refine F.ok Sc (fun vs H Q E h => ?_) (fun cdv A outer s H vs Q E hr h => ?_)
  · obtain ⟨R, qs, T, _, p, hS, _⟩ := h
    rw [p.length]; exact len qs T hS
  · obtain ⟨R, qs, T, sR, p, hS, q⟩ := h
    have hl : qs.length ≤ N.length := by
      rw [len qs T hS]
      have := congrArg List.length Sc.pre
      rw [List.length_take] at this
      omega
    obtain ⟨h1, h2⟩ := hbody cdv A outer s H E qs T hr hS
    exact ⟨_, pssS, h2 (L2.start N vs) H R H R (env_start sR p hl) { nx := fun _ H' => Q .non H', rt := Q } (fun σ' H' R' Γ' E' _ _ => q .non H' R' E'.ext (h1 _ _ _)) fun v H' R' xx t => q v H' R' xx t⟩
end
end Fc

set_option Elab.async false
set_option linter.all false
set_option maxRecDepth 100000
set_option maxHeartbeats 4000000
namespace Fc
open PySem PySem.Spec L2
open PyProof.Rows hiding St
variable {P : Program} {w : World} {K : PySem.W.Frag} {mg : Str → Option Value} {base : Heap}
theorem fn_okF {S : SpD} {x qual : Str} {st : Stmt} {f : Addr} {fd : FuncData} {N ps : List Str} {k : Nat} (F : Fun K x qual st f fd) (Sc : FnScope N ps (defScope st)) (len : ∀ qs T, S K qs T → qs.length = ps.length)
    (hbody : ∀ (cdv : Value) (A : Around) (outer : List Env) (s : Shared) (H : Hp) (E : XK) (qs : List Pk) (T : RT), Room k (A.deeper (envOfC qual (defScope st) s.heap.objs.size f cdv)) → S K qs T →
      WS (cxOf CX0 P w K mg base N qual (defScope st) f cdv A outer s H E).nox (defBody st) (gaOf qs N.length) (fun _ => False) T) : FnOk P w K mg base CX0 (k + 1) f fd ps (spG S K) := by
  refine F.ok Sc (fun vs H Q E h => ?_) (fun cdv A outer s H vs Q E hr h => ?_)
  · obtain ⟨R, qs, T, _, p, hS, _⟩ := h
    rw [p.length]; exact len qs T hS
  · obtain ⟨R, qs, T, sR, p, hS, q⟩ := h
    have hl : qs.length ≤ N.length := by
      rw [len qs T hS]
      have := congrArg List.length Sc.pre
      rw [List.length_take] at this
      omega
    exact ⟨_, pssS, hbody cdv A outer s H E qs T hr hS (L2.start N vs) H R H R (env_start sR p hl) { nx := fun _ H' => Q .non H', rt := Q } (fun _ _ _ _ _ _ f => f.elim) fun v H' R' xx t => q v H' R' xx t⟩
def Def (K : PySem.W.Frag) (mg : Str → Option Value) (x : Str) (st : Stmt) (ps : List Str) : Prop := ∃ f fd, Fun K x x st f fd ∧ mg x = some (.ref f) ∧ Binds K fd ps []
theorem def_mk {h : Heap} {x : Str} {st : Stmt} {ps : List Str} {f : Addr} {oc : Value} {od an : Option Addr} {osl : Array (Option Value)} {kV doc pm cdv ct : Value} (KX : K.In h) (G : h.Ns mainGlobals mg)
    (a : PySem.W.nsIn K mainGlobals x = some (some (.ref f))) (l : K.lookup f = some ⟨oc, od, .func (PySem.W.fnOf x x (defArgs st) (defBody st) (defScope st) .none kV doc pm an cdv ct), osl⟩) (c : PySem.W.codeIn K cdv x = true) (k : PySem.W.keepIn K (.ref f) = true)
    (b : ∀ (kV doc pm : Value) (an : Option Addr) (cdv ct : Value) (us : List Value), us.length = ps.length → bindArgs (PySem.W.fnOf x x (defArgs st) (defBody st) (defScope st) .none kV doc pm an cdv ct) ⟨us, []⟩ = pure (ps.zip us)) : Def K mg x st ps :=
  ⟨f, _, fun_mk l c k, PySem.W.mg_of KX G a, (fun_mk l c k).binds b⟩
open PySem.Builtin.Int (intBits)
theorem script_bits {ns : List Int} (h : PySem.W.WData.layableAll [.list (ns.map .int)] = true) : ∀ n ∈ ns, intBits n ≤ 2 ^ 20 := fun n hn => by
  have h1 := PySem.W.layableW_arg h _ (List.mem_singleton.mpr rfl)
  have h2 := PySem.W.layableW_item h1 (.int n) (List.mem_map.mpr ⟨n, hn, rfl⟩)
  exact PySem.PyData.bits_of_layable h2
end Fc
namespace Att
open PySem PySem.W PySem.Calls PyProof.Rows
open PySem.Builtin.Int (intBits)
theorem attach_callB {l : OpenLaw} {n : Nat} {q : Program} {loose : List Str} {XP : (Str → Option Value) → Heap → Prop} {YP : World → Heap → Prop} {d : DefRec}
    (hn : l.most = some n) (hdf : d.params.defaults = [])
    (call : ∀ (w : World) (s₀ s₁ : Shared) (mg mb : Str → Option Value) (fa : Addr) (o : Obj) (pm cd doc : Value) (a : Addr) (vs : List Value) (ns : List Int),
      Ground q loose [] XP w s₀ mg mb s₁.heap → YP w s₁.heap →
      s₁.heap.get? fa = some o → o.data = .func (docDef d.name d.params d.body d.scope pm cd doc) → s₁.heap.CodeRec cd d.name → mg d.name = some (.ref fa) →
      s₁.heap.get? a = some { cls := .type "list", data := .seq vs.toArray } → IntsAre vs ns → ns.length ≤ n → (∀ m ∈ ns, intBits m ≤ 2 ^ 20) → s₁.gens = #[] →
      codeAny (model l.prog w) callerA (.call (.ref fa) ⟨[.ref a], []⟩) (fun r s' => r = .ok (.ret (.bool true)) ∧ OldK s₁.heap s'.heap ∧ s'.os = s₁.os ∧ AllBare s'.gens) s₁) :
    WalkO q loose XP YP l.row.toRowW d [] (fun f vs => PySem.call f vs) := by
  intro w s₀ s₁ mg mb G Y fa o pm cd doc dV kV ho hd hcd hD hmg hg args vals as hpre hlay hrd hwl hlo
  obtain rfl : dV = .none := Dflts.none hD hdf
  obtain rfl : kV = .none := Dflts.noKw hD
  obtain ⟨a, vs, ns, rfl, rfl, hobj, hints, hlen⟩ := script_of hn hpre hwl
  refine enter_call (codeAny_mono (call w s₀ s₁ mg mb fa o pm cd doc a vs ns G Y ho (fd_plain hd) hcd hmg hobj hints hlen (Fc.script_bits hlay) hg) fun r s' hq => ?_)
  obtain ⟨rfl, h2, h3, h4⟩ := hq
  exact ⟨.inl ⟨.bool true, .bool true, [], rfl, fun _ => rfl, .bool true, post_true l _, fun _ => ⟨List.Pairwise.nil, fun _ hm => (nomatch hm)⟩⟩, h2, h3, h4⟩
end Att
namespace L2
open PySem PySem.Spec PyProof.Rows
open PySem.Builtin.Int (intBits)
theorem walk_ofB {l : PySem.W.OpenLaw} {n k : Nat} {q : Program} {loose : List Str} {XP : (Str → Option Value) → Heap → Prop} {YP : World → Heap → Prop} {d : DefRec} {K : Params → PySem.W.Frag} {CX : World → CXT} {sp : World → Sp} {x : Str}
    (hn : l.most = some n) (hn2 : n ≤ sizeLine) (hdf : d.params.defaults = []) (hr : Room k callerA)
    (hY : ∀ (w : World) (h : Heap), YP w h → (K w.params).In h)
    (F : ∀ (w : World) (mg : Str → Option Value) (fa : Addr) (h : Heap), (K w.params).In h → h.Ns mainGlobals mg → mg d.name = some (.ref fa) →
      ∃ fd : FuncData, (∀ (s : Shared) (u : Value), BindsTo s fd ⟨[u], []⟩ [(x, u)]) ∧
        ∀ base : Heap, (K w.params).In base → base.Ns mainGlobals mg → FnOk l.prog w (K w.params) mg base (CX w) k fa fd [x] (sp w))
    (hsp : ∀ (w : World) (H : Hp) (a : Addr) (ns : List Int), ns.length ≤ n → (∀ m ∈ ns, intBits m ≤ 2 ^ 20) → Only H → SqL (K w.params) H a (ns.map V.int) → sp w [.ref a] H (fun v _ => v = .bl true) fun _ _ _ => False)
    (hCX : ∀ (w : World) (H : Hp) (s : Shared) (e : Value) (s' : Shared), CX w [] H s (fun _ _ _ => False) e s' → False) :
    PySem.W.WalkO q loose XP YP l.row.toRowW d [] (fun f vs => PySem.call f vs) := by
  refine Att.attach_callB hn hdf fun w s₀ s₁ mg mb fa o pm cd doc a vs ns G Y ho hd hcd hmg hobj hints hlen hbits hg => ?_
  have KX := hY w _ Y
  obtain ⟨fd, hb, hF⟩ := F w mg fa _ KX G.T.g hmg
  exact law_call KX G.T.g G.T.b G.T.builtins G.T.nolimit hg hobj hints (Nat.le_trans hlen hn2) hr hF hb (fun H hO hS => hsp w H a ns hlen hbits hO hS) fun H e s' => hCX w H s₁ e s'
end L2

set_option Elab.async false
set_option linter.all false
set_option maxRecDepth 100000
set_option maxHeartbeats 4000000
namespace Fc
open PySem PySem.Spec L2
open PyProof.Rows hiding St
section
variable {X : Cx} {Γ Γ1 : Ga}
end
section
variable {P : Program} {w : World} {K : PySem.W.Frag} {mg : Str → Option Value} {base : Heap}
end
end Fc

set_option Elab.async false
set_option linter.all false
set_option maxRecDepth 100000
set_option maxHeartbeats 4000000
namespace Fc
open PySem PySem.Spec L2
open PyProof.Rows hiding St
section
variable {X : Cx} {pins : List (Addr × Obj)} {σ : St} {H : Hp} {s : Shared} {e : Addr} {o : Obj}
end
end Fc

set_option Elab.async false
set_option linter.all false
set_option maxRecDepth 100000
set_option maxHeartbeats 4000000
namespace Fc
open PySem PySem.Spec PySem.W PySem.Calls PySem.Builtin.ObjectAttr PySem.Builtin.Getset_descriptor L2
open PyProof.Rows hiding St
section
variable {K : Frag} {D x : Addr} {prog : Program} {w : World} {A : Around} {E : Value → Shared → Prop} {s : Shared}
end
section
variable {X : Cx} {Γ Γ1 : Ga} {ea D : Addr} {oe : Obj}
end
end Fc

set_option Elab.async false
set_option linter.all false
set_option maxRecDepth 100000
set_option maxHeartbeats 4000000
namespace Fc
open PySem PySem.Spec L2
open PyProof.Rows hiding St
section
variable {X : Cx} {Γ Γ1 Γ2 Γ3 : Ga} {α β γ δ : Type} {N : Ga → Prop} {T : RT}
theorem frzLst {i : Nat} {r : Rep α} {xs : List α} (hΓ : Γ[i]? = some (.mu r xs)) (hz : xs.length ≤ sizeLine) (σ : St) (H0 R0 H R : Hp) (E : EnvOk X.K σ H0 R0 H R Γ) : EnvOk X.K σ H H H H ((Γ.map lentE).set i (.im (rList r) xs)) := by
  obtain ⟨a, vs, ea, ha, hR, pp⟩ := E.ent i _ hΓ
  exact E.frz.tellG (i := i) (e0 := .no) (by rw [List.getElem?_map, hΓ]; rfl) ⟨.ref a, ea, a, vs, rfl, ha, Paired.map (fun _ _ => r.mono E.sub) pp, hz⟩ fun b w => by cases w
theorem w_retMu (i : Nat) {x : Str} {p1 pos : Pos} {r : Rep α} {xs : List α} {P : List α → Prop} (hΓ : Γ[i]? = some (.mu r xs)) (hz : xs.length ≤ sizeLine) (h : P xs) (hN : X.N[i]? = some x := by rfl) (hv : Vis X.env.scope x := by first | exact Or.inl rfl | exact Or.inr (Or.inl rfl) | exact Or.inr (Or.inr rfl))
    (hd : (x == ("__debug__" : Str)) = false := by decide) (hcd : (x == ("__classdict__" : Str)) = false := by decide) : W1 X (.Return (some (.Name x p1)) pos) Γ N (rtL X.K r P) := fun σ H0 R0 H R E D dn dr => by
  obtain ⟨a, vs, ea, ha, hR, pp⟩ := E.ent i _ hΓ
  exact sS (ps_ret (pe_var hN hv hd hcd)) ⟨.ref a, at_of ea, dr _ H R E.ext ⟨a, vs, xs, rfl, E.new i _ a hΓ rfl ea, ha, hR, pp, hz, h⟩⟩
end
end Fc

set_option Elab.async false
set_option linter.all false
set_option maxRecDepth 100000
set_option maxHeartbeats 4000000
namespace Fc
open PySem PySem.Spec L2
open PyProof.Rows hiding St
section
variable {X : Cx} {Γ Γ1 Γ2 Γ3 : Ga} {α β γ δ : Type} {N : Ga → Prop} {T : RT}
end
end Fc

set_option Elab.async false
set_option linter.all false
set_option maxRecDepth 100000
set_option maxHeartbeats 4000000
namespace Fc
open PySem PySem.Spec L2
open PyProof.Rows hiding St
section
variable {X : Cx} {Γ Γ1 Γ2 Γ3 : Ga} {α β γ δ : Type} {N : Ga → Prop} {T : RT}
end
end Fc

set_option Elab.async false
set_option linter.all false
set_option maxRecDepth 100000
set_option maxHeartbeats 4000000
namespace Fc
open PySem PySem.Spec L2
open PyProof.Rows hiding St
section
variable {X : Cx} {Γ Γ1 Γ2 Γ3 : Ga} {α β γ δ : Type} {N : Ga → Prop} {T : RT}
def delL (H : Hp) (l : List Addr) : Hp := fun b => if b ∈ l then none else H b
theorem delL_in {H : Hp} {l : List Addr} {b : Addr} (h : b ∈ l) : delL H l b = none := if_pos h
theorem delL_out {H : Hp} {l : List Addr} {b : Addr} (h : b ∉ l) : delL H l b = H b := if_neg h
theorem delL_sub {H : Hp} {l : List Addr} : Same (delL H l) H := fun b o q => by
  by_cases h : b ∈ l
  · rw [delL_in h] at q; cases q
  · rwa [delL_out h] at q
theorem EnvOk.growB {K : PySem.W.Frag} {σ : St} {H0 R0 H R H' R' : Hp} {i : Nat} {B B' : Box} (E : EnvOk K σ H0 R0 H R Γ) (hΓ : Γ[i]? = some (.ob B)) (x : Ext (delL H B.fp) R H' R') (ho : (Ent.ob B').ok K H' R' (σ[i]?).join) (hfp : ∀ b ∈ B'.fp, b ∈ B.fp) : EnvOk K σ H0 R0 H' R' (Γ.set i (.ob B')) := by
  have h0 : ∀ b ∈ B.fp, H0 b = none := fun b hb => E.nw i _ b hΓ hb
  have out : ∀ {b : Addr}, H0 b ≠ none → b ∉ B.fp := fun h e => h (h0 _ e)
  have apart : ∀ (j : Nat) (e : Ent), j ≠ i → Γ[j]? = some e → ∀ b ∈ e.fp (σ[j]?).join, b ∉ B.fp := fun j e hj qj b hb w => hj (E.ds j i e _ b qj hΓ hb w)
  refine ⟨⟨fun b o q => ?_, E.ext.r.trans x.r, x.s, fun b hb => ?_⟩, fun j e q => ?_, fun j e b q w => ?_, fun j k e e' b q q' w w' => ?_, by rw [List.length_set]; exact E.len⟩
  · exact x.h b o (by rw [delL_out (out (by rw [q]; exact Option.some_ne_none _))]; exact E.ext.h b o q)
  · refine (x.old b ?_).trans (E.ext.old b hb)
    rw [delL_out (out hb)]; exact Same.some E.ext.h hb
  · rcases set_at q with ⟨rfl, rfl, _⟩ | ⟨hj, q1⟩
    · exact ho
    · have h1 := E.ent j e q1
      refine h1.loc (fun b hb => ?_) x.r fun b hb => ?_
      · cases e2 : H b with
        | none => exact absurd e2 (Ent.fp_at h1 hb).1
        | some u => exact x.h b u (by rw [delL_out (apart j e hj q1 b hb)]; exact e2)
      · exact (x.old b (by rw [delL_out (apart j e hj q1 b hb)]; exact (Ent.fp_at h1 hb).1)).trans (Ent.fp_at h1 hb).2
  · rcases set_at q with ⟨rfl, rfl, _⟩ | ⟨hj, q1⟩
    · exact h0 b (hfp b w)
    · exact E.nw j e b q1 w
  · rcases set_at q with ⟨rfl, rfl, _⟩ | ⟨hj, q1⟩
    · rcases set_at q' with ⟨rfl, rfl, _⟩ | ⟨hk, q1'⟩
      · rfl
      · exact absurd (hfp b w) (apart k e' hk q1' b w')
    · rcases set_at q' with ⟨rfl, rfl, _⟩ | ⟨hk, q1'⟩
      · exact absurd (hfp b w') (apart j e hj q1 b w)
      · exact E.ds _ _ _ _ b q1 q1' w w'
structure BoxK (P : Type) : Type 1 where
  bx : Addr → Addr → P → Box
  fp : ∀ a b s, (bx a b s).fp = [a, b]
  at_ : ∀ {K H R v a b s}, (bx a b s).R K H R v → v = .ref a
abbrev SpU (P : Type) := PySem.W.Frag → P → List Pk → (P → RT) → Prop
def spU {P : Type} (B : BoxK P) (S : SpU P) (K : PySem.W.Frag) : Sp := fun vs H Q _ => ∃ R a b s vs' ps T, vs = .ref a :: vs' ∧ Same R H ∧ (R a = none ∧ R b = none) ∧ (B.bx a b s).R K H R (.ref a) ∧ Pks K R vs' ps ∧ S K s ps T ∧
  ∀ v H' R' s', Ext (delL H [a, b]) R H' R' → (B.bx a b s').R K H' R' (.ref a) → (R' a = none ∧ R' b = none) → T s' (delL H [a, b]) v H' R' → Q v H'
theorem ok_at {P : Type} {B : BoxK P} {K : PySem.W.Frag} {H R : Hp} {a b : Addr} {s : P} {o : Option V} (h : (Ent.ob (B.bx a b s)).ok K H R o) : o = some (.ref a) ∧ (B.bx a b s).R K H R (.ref a) ∧ R a = none ∧ R b = none := by
  obtain ⟨⟨v, e, hv⟩, hR⟩ := h
  have := B.at_ hv
  subst this
  exact ⟨e, hv, hR a (by rw [B.fp]; simp), hR b (by rw [B.fp]; simp)⟩
theorem at_ok {P : Type} {B : BoxK P} {K : PySem.W.Frag} {H R : Hp} {a b : Addr} {s : P} (h : (B.bx a b s).R K H R (.ref a)) (h1 : R a = none) (h2 : R b = none) : (Ent.ob (B.bx a b s)).ok K H R (some (.ref a)) :=
  ⟨⟨_, rfl, h⟩, fun c hc => by
    rw [B.fp] at hc
    rcases List.mem_cons.mp hc with rfl | hc
    · exact h1
    · rw [List.mem_singleton.mp hc]; exact h2⟩
theorem ev_callUT {P : Type} {B : BoxK P} {S : SpU P} {x y : Str} {k : Nat} {es : List Expr} {p p1 pos : Pos} {ps : List Pk} {a b : Addr} {s0 s : P} {TM : P → RT} {Q : VK} {σ : St} {H0 R0 H R : Hp} (i : Nat) (C : Cal X.prog X.w X.K X.mg X.base x k (spU B S X.K)) (hr : Room k X.A) (ha : HA X es Γ ps Γ1) (hΓ : Γ[i]? = some (.ob (B.bx a b s0))) (hΓ1 : Γ1[i]? = some (.ob (B.bx a b s))) (hS : S X.K s ps TM) (E : EnvOk X.K σ H0 R0 H R Γ)
    (q : ∀ H1 R1 v H' R' s', EnvOk X.K σ H0 R0 H1 R1 Γ1 → Same R R1 → Ext (delL H1 [a, b]) R1 H' R' → EnvOk X.K σ H0 R0 H' R' (Γ1.set i (.ob (B.bx a b s'))) → TM s' (delL H1 [a, b]) v H' R' → Q v H')
    (hg : Gl X x) (hdb : (x == ("__debug__" : Str)) = false) (he : starEach (.Name y p1 :: es) X.env = (false, eval (.Name y p1) X.env) :: starEach es X.env) (hpl : (backTo pos (starEach es X.env)).any (·.1) = false)
    (hN : X.N[i]? = some y) (hv : Vis X.env.scope y) (hd : (y == ("__debug__" : Str)) = false) (hcd : (y == ("__classdict__" : Str)) = false) : semE X (.Call (.Name x p) (.Name y p1 :: es) [] pos) σ H Q := by
  obtain ⟨f, fd, pn, F, hm, hk, hb⟩ := C.ex
  obtain ⟨ea, _, _⟩ := ok_at (E.ent i _ hΓ)
  refine eS (pe_call F hr hg hm hk hb .nil pass0 (pa_cons (pe_var hN hv hd hcd) paS he) hdb he hpl) ⟨.ref a, at_of ea, ha σ H0 R0 H R E _ fun us H1 R1 E1 s1 p1 => ?_⟩
  obtain ⟨ea1, hB, hRa, hRb⟩ := ok_at (E1.ent i _ hΓ1)
  refine ⟨R1, a, b, s, us, ps, TM, by rw [List.append_nil], E1.sub, ⟨hRa, hRb⟩, hB, p1, hS, fun v H' R' s' xx hB' hR' t => q H1 R1 v H' R' s' E1 s1 xx ?_ t⟩
  refine E1.growB hΓ1 (by rw [B.fp]; exact xx) (by rw [ea1]; exact at_ok hB' hR'.1 hR'.2) fun c hc => ?_
  rw [B.fp] at hc ⊢; exact hc
theorem ev_callU (i : Nat) {P : Type} {B : BoxK P} {S : SpU P} {x y : Str} {k : Nat} {es : List Expr} {p p1 pos : Pos} {ps : List Pk} {a b : Addr} {s0 s st : P} {rr : Rep β} {z : β} (C : Cal X.prog X.w X.K X.mg X.base x k (spU B S X.K)) (hr : Room k X.A) (ha : HA X es Γ ps Γ1) (hΓ : Γ[i]? = some (.ob (B.bx a b s0))) (hΓ1 : Γ1[i]? = some (.ob (B.bx a b s))) (hS : S X.K s ps (fun s' => rtP X.K rr fun w => s' = st ∧ w = z))
    (hg : Gl X x := by rfl) (hdb : (x == ("__debug__" : Str)) = false := by decide) (he : starEach (.Name y p1 :: es) X.env = (false, eval (.Name y p1) X.env) :: starEach es X.env := by rfl) (hpl : (backTo pos (starEach es X.env)).any (·.1) = false := by rfl)
    (hN : X.N[i]? = some y := by rfl) (hv : Vis X.env.scope y := by first | exact Or.inl rfl | exact Or.inr (Or.inl rfl) | exact Or.inr (Or.inr rfl)) (hd : (y == ("__debug__" : Str)) = false := by decide) (hcd : (y == ("__classdict__" : Str)) = false := by decide) :
    EV X (.Call (.Name x p) (.Name y p1 :: es) [] pos) Γ rr z (Γ1.set i (.ob (B.bx a b st))) := fun σ H0 R0 H R E Q q =>
  ev_callUT i C hr ha hΓ hΓ1 hS E (fun H1 R1 v H' R' s' _ s1 xx E' t => by
    obtain ⟨w, e1, rfl, rfl⟩ := t
    exact q v H' R' E' (s1.trans xx.r) e1) hg hdb he hpl hN hv hd hcd
theorem w_callUB {tg : Expr} (i : Nat) {P : Type} {B : BoxK P} {S : SpU P} {x y : Str} {k : Nat} {es : List Expr} {p p1 p2 pos : Pos} {ps : List Pk} {a b : Addr} {s0 s : P} {rr : Rep β} {Pd : P → β → Prop} {bf : β → Ga → Ga} (C : Cal X.prog X.w X.K X.mg X.base x k (spU B S X.K)) (hr : Room k X.A) (ha : HA X es Γ ps Γ1) (hΓ : Γ[i]? = some (.ob (B.bx a b s0))) (hΓ1 : Γ1[i]? = some (.ob (B.bx a b s))) (hS : S X.K s ps (fun s' => rtP X.K rr (Pd s'))) (hb : BG X tg rr bf) (h : ∀ s' z, Pd s' z → N (bf z (Γ1.set i (.ob (B.bx a b s')))))
    (hg : Gl X x := by rfl) (hdb : (x == ("__debug__" : Str)) = false := by decide) (he : starEach (.Name y p1 :: es) X.env = (false, eval (.Name y p1) X.env) :: starEach es X.env := by rfl) (hpl : (backTo p2 (starEach es X.env)).any (·.1) = false := by rfl)
    (hN : X.N[i]? = some y := by rfl) (hv : Vis X.env.scope y := by first | exact Or.inl rfl | exact Or.inr (Or.inl rfl) | exact Or.inr (Or.inr rfl)) (hd : (y == ("__debug__" : Str)) = false := by decide) (hcd : (y == ("__classdict__" : Str)) = false := by decide)
    (hs : swapsWithSole [tg] (.Call (.Name x p) (.Name y p1 :: es) [] p2) pos.line X.env = pure false := by rfl) (hw : swappedStores [tg] (.Call (.Name x p) (.Name y p1 :: es) [] p2) X.env = pure none := by rfl) (h1 : (assignEach [tg] X.env).map (·.2) = [assign tg X.env] := by rfl) :
    W1 X (.Assign [tg] (.Call (.Name x p) (.Name y p1 :: es) [] p2) pos) Γ N T := fun σ H0 R0 H R E D dn dr =>
  sS (ps_asg peS pgS hs hw h1) (ev_callUT i C hr ha hΓ hΓ1 hS E (fun H1 R1 v H' R' s' _ s1 xx E' t => by
    obtain ⟨w, e1, hz⟩ := t
    exact hb σ H0 R0 H' R' _ v w E' e1 _ fun σ2 E2 => dn σ2 H' R' _ E2 (s1.trans xx.r) (h s' w hz)) hg hdb he hpl hN hv hd hcd)
def rtU (K : PySem.W.Frag) {P : Type} (B : BoxK P) (a b : Addr) (T : P → RT) : RT := fun H0 v H' R' => ∃ s', (B.bx a b s').R K H' R' (.ref a) ∧ (R' a = none ∧ R' b = none) ∧ T s' H0 v H' R'
theorem w_retU (i : Nat) {P : Type} {B : BoxK P} {e : Expr} {pos : Pos} {a b : Addr} {s : P} {rr : Rep β} {y : β} {Pd : P → β → Prop} (he : EV X e Γ rr y Γ1) (hΓ1 : Γ1[i]? = some (.ob (B.bx a b s))) (h : Pd s y) : W1 X (.Return (some e) pos) Γ N (rtU X.K B a b fun s' => rtP X.K rr (Pd s')) := fun σ H0 R0 H R E D dn dr =>
  sS (ps_ret peS) (he σ H0 R0 H R E _ fun v H1 R1 E1 s1 e1 => by
    obtain ⟨ea, hB, hR⟩ := ok_at (E1.ent i _ hΓ1)
    exact dr v H1 R1 E1.ext ⟨s, hB, hR, y, e1, h⟩)
theorem env_startU {P : Type} {B : BoxK P} {K : PySem.W.Frag} {R H : Hp} {a b : Addr} {st : P} {vs : List V} {ps : List Pk} {N : List Str} (s : Same R H) (hR : R a = none ∧ R b = none) (hB : (B.bx a b st).R K H R (.ref a)) (p : Pks K R vs ps) (hl : ps.length + 1 ≤ N.length) :
    EnvOk K (L2.start N (.ref a :: vs)) (delL H [a, b]) R H R (.ob (B.bx a b st) :: gaOf ps (N.length - 1)) := by
  obtain ⟨n0, N', rfl⟩ : ∃ n0 N', N = n0 :: N' := by cases N with
    | nil => exact absurd hl (by simp)
    | cons n N' => exact ⟨n, N', rfl⟩
  have hl' : ps.length ≤ N'.length := by simpa using hl
  have E0 := env_start (N := N') s p hl'
  have es : L2.start (n0 :: N') (.ref a :: vs) = some (.ref a) :: L2.start N' vs := by unfold L2.start; simp
  rw [es]
  have noown : ∀ (i : Nat) (e : Ent) (o : Option V), (gaOf ps N'.length)[i]? = some e → e.fp o = [] := fun i e o q => by
    unfold gaOf at q
    rcases List.mem_append.mp (List.mem_of_getElem? q) with z | z
    · obtain ⟨p, _, rfl⟩ := List.mem_map.mp z; rfl
    · obtain ⟨_, rfl⟩ := List.mem_replicate.mp z; rfl
  refine ⟨⟨delL_sub, Same.refl _, s, fun _ _ => rfl⟩, fun i e q => ?_, fun i e c q w => ?_, fun i j e e' c q q' w w' => ?_, ?_⟩
  · cases i with
    | zero => simp at q; subst q; exact at_ok hB hR.1 hR.2
    | succ i => simp at q; simpa using E0.ent i e q
  · cases i with
    | zero =>
      simp at q; subst q
      have w : c ∈ (B.bx a b st).fp := w
      rw [B.fp] at w
      exact delL_in w
    | succ i => simp at q; rw [noown i e _ q] at w; cases w
  · cases i with
    | succ i => simp at q; rw [noown i e _ q] at w; cases w
    | zero =>
      cases j with
      | zero => rfl
      | succ j => simp at q'; rw [noown j e' _ q'] at w'; cases w'
  · have := E0.len
    simp [this]
variable {P : Program} {w : World} {K : PySem.W.Frag} {mg : Str → Option Value} {base : Heap}
theorem fnU_ok {Q0 : Type} {B : BoxK Q0} {S : SpU Q0} {x qual : Str} {st : Stmt} {f : Addr} {fd : FuncData} {N ps : List Str} {k : Nat} (F : Fun K x qual st f fd) (Sc : FnScope N ps (defScope st)) (hm : mg x = some (.ref f)) (hb : Binds K fd ps []) (len : ∀ s qs T, S K s qs T → qs.length + 1 = ps.length)
    (hbody : ∀ (cdv : Value) (A : Around) (outer : List Env) (s : Shared) (H : Hp) (E : XK) (a b : Addr) (u : Q0) (qs : List Pk) (T : Q0 → RT), Room k (A.deeper (envOfC qual (defScope st) s.heap.objs.size f cdv)) → S K u qs T →
      WS (cxOf CX0 P w K mg base N qual (defScope st) f cdv A outer s H E).nox (defBody st) (.ob (B.bx a b u) :: gaOf qs (N.length - 1)) (fun Γ => ∃ u', Γ[0]? = some (.ob (B.bx a b u')) ∧ ∀ H0 H' R', T u' H0 .non H' R') (rtU K B a b T)) : Cal P w K mg base x (k + 1) (spU B S K) := by
  refine ⟨f, fd, ps, ?_, hm, F.kp, hb⟩
  refine F.ok Sc (fun vs H Q E h => ?_) (fun cdv A outer s H vs Q E hr h => ?_)
  · obtain ⟨R, a, b, u, vs', qs, T, rfl, _, _, _, p, hS, _⟩ := h
    rw [List.length_cons, p.length]; exact len u qs T hS
  · obtain ⟨R, a, b, u, vs', qs, T, rfl, sR, hR, hB, p, hS, q⟩ := h
    have hl : qs.length + 1 ≤ N.length := by
      rw [len u qs T hS]
      have := congrArg List.length Sc.pre
      rw [List.length_take] at this
      omega
    refine ⟨_, pssS, hbody cdv A outer s H E a b u qs T hr hS (L2.start N (.ref a :: vs')) (delL H [a, b]) R H R (env_startU sR hR hB p hl) { nx := fun _ H' => Q .non H', rt := Q } (fun σ' H' R' Γ' E' _ ⟨u', hΓ, t⟩ => ?_) fun v H' R' xx t => ?_⟩
    · obtain ⟨ea, hB', hR'⟩ := ok_at (E'.ent 0 _ hΓ)
      exact q .non H' R' u' E'.ext hB' hR' (t _ _ _)
    · obtain ⟨s', h1, h2, h3⟩ := t
      exact q v H' R' s' xx h1 h2 h3
end
end Fc

set_option Elab.async false
set_option linter.all false
set_option maxRecDepth 100000
set_option maxHeartbeats 4000000
namespace Fc
open PySem PySem.Spec L2
open PyProof.Rows hiding St
section
variable {prog : Program} {w : World} {A : Around} {E : Value → Shared → Prop} {s : Shared}
theorem draw_list {it t : Addr} {items : Array Value} (hne : t ≠ it) : ∀ (n i : Nat) (s : Shared) (Q : List Value → Shared → Prop), s.heap.IsListIter it t i → s.heap.IsList t items → i + n ≤ items.size →
    (∀ h', h'.IsListIter it t (i + n) → Heap.SameBut it s.heap h' → Q ((items.toList.drop i).take n) { s with heap := h' }) → wpAny (model prog w) A (draw (.ref it) n) Q E s
  | 0, i, s, Q, hit, _, _, hQ => by
    show wpAny _ _ (pure []) Q E s
    exact wpAny_pure (by simpa using hQ s.heap hit (Heap.SameBut.refl ..))
  | n + 1, i, s, Q, hit, ht, hle, hQ => by
    have hlt : i < items.size := by omega
    show wpAny _ _ (pyNext (.ref it) >>= _) Q E s
    refine wpAny_bind (wpAny_pyNext_list_item hit ht (x := items[i]) (by simp [hlt]) fun h₁ hit₁ hs₁ => ?_)
    refine wpAny_bind (wpAny_holding (draw_list hne n (i + 1) _ _ hit₁ (ht.extBut hs₁.extBut hne) (by omega) fun h₂ hit₂ hs₂ => wpAny_pure ?_))
    have hd : items.toList.drop i = items[i] :: items.toList.drop (i + 1) := by simp [List.drop_eq_getElem_cons, hlt]
    have := hQ h₂ (by rw [show i + (n + 1) = i + 1 + n by omega]; exact hit₂) (hs₁.trans hs₂)
    rw [hd, List.take_succ_cons] at this
    exact this
theorem unpackItems_list {t : Addr} {items : Array Value} {Q : List Value → Shared → Prop} (hh : A.handled = none) (ht : s.heap.IsList t items)
    (hQ : ∀ h', Heap.ExtBut s.heap.objs.size s.heap h' → Q items.toList { s with heap := h' }) : wpAny (model prog w) A (unpackItems (.ref t) items.size none) Q E s := by
  have hlt : t ≠ s.heap.objs.size := by obtain ⟨o, ho, _⟩ := ht; exact Nat.ne_of_lt (Heap.lt_size ho)
  unfold unpackItems
  refine wpAny_bind ?_
  · unfold notIterableAtAll
    refine wpAny_bind (wpAny_specialOf ht.typeIs slot_list_iter.lookup ?_)
    refine wpAny_pure ?_
    simp only [Bool.false_eq_true, if_false]
    refine wpAny_bind (wpAny_holding (wpAny_pyIter_list ht ?_))
    refine wpAny_bind (wpAny_holding (draw_list hlt items.size 0 _ _ ⟨_, Heap.get?_push_size _ rfl, rfl, rfl⟩ (ht.push _) (by omega) fun h₁ hit₁ hs₁ => ?_))
    have hall : List.take items.size (List.drop 0 items.toList) = items.toList := by
      rw [List.drop_zero]; exact List.take_of_length_le (by simp)
    rw [hall]
    rw [if_neg (by simp)]
    have ht₁ : h₁.IsList t items := (ht.push _).extBut hs₁.extBut hlt
    refine wpAny_bind (wpAny_holding (wpAny_pyNext_list_end hh hit₁ ht₁ (by simp) fun h₂ he₂ => ?_))
    simp only [Option.isSome_none, Bool.false_eq_true, if_false]
    refine wpAny_pure (hQ h₂ fun b o hb e => he₂ b o hb (hs₁.extBut b o hb (Heap.get?_push_of_some _ e)))
theorem assign_Tuple_list {env : Env} {elts : List Expr} {x1} {pos : Pos} {t : Addr} {items : Array Value} {Q : Unit → Shared → Prop} (hh : A.handled = none) (ht : s.heap.IsList t items)
    (hn : (assignEach elts env).length = items.size) (hstar : (assignEach elts env).findIdx? (·.1) = none)
    (h : ∀ h', Heap.ExtBut s.heap.objs.size s.heap h' → wpAny (model prog w) A (assignInOrder ((assignEach elts env).map (·.2)) items.toList) Q E { s with heap := h' }) :
    wpAny (model prog w) A (assign (.Tuple elts x1 pos) env (.ref t)) Q E s := by
  rw [assign_Tuple]
  refine wpAny_bind (wpAny_standAt ?_)
  unfold unpack
  rw [hn, hstar]
  exact wpAny_bind (wpAny_holding (unpackItems_list hh ht h))
end
section
variable {X : Cx} {Γ Γ1 Γ2 Γ3 : Ga} {α β γ δ : Type} {N : Ga → Prop} {T : RT}
def gLst (K : PySem.W.Frag) (n : Nat) (t : TGs) : TG := fun v σ H Q => ∃ a xs, v = .ref a ∧ SqL K H a xs ∧ xs.length = n ∧ t xs σ H Q
theorem pg_lst {es : List Expr} {k : Nat} {pos : Pos} {t : TGs} {n : Nat} (hc : X.calm = true) (h : PGs X es t)
    (hn : (assignEach es X.env).length = n := by rfl) (hst : (assignEach es X.env).findIdx? (·.1) = none := by rfl) : PG X (.Tuple es k pos) (gLst X.K n t) := by
  intro pins s σ H v u Q I r hw
  obtain ⟨a, xs, e1, hq, hl, hw⟩ := hw
  subst e1
  cases r
  obtain ⟨its, rv, pl, hz⟩ := I.list hq
  refine assign_Tuple_list (I.ok.hd hc) pl.isList (by simp [hn, ← hl, rv.length]) hst fun h' hx => ?_
  have I1 : Inv X pins σ H { s with heap := h' } := I.kept (t' := s.toks) fun b o e => hx b o (Nat.ne_of_lt (Heap.lt_size e)) e
  exact h pins _ σ H xs _ Q I1 (by simpa using rv) hw
def rTwo (r : Rep α) : Rep (α × α) := ⟨fun K H v x => (rList r).R K H v [x.1, x.2], fun s h => (rList r).mono s h⟩
theorem bg_lst2 (i j : Nat) {x y : Str} {k : Nat} {p1 p2 pos : Pos} {r : Rep α} (hc : X.calm = true := by rfl) (hN : X.N.Nodup := by first | assumption | decide) (hi : X.N[i]? = some x := by rfl) (hx : Loc X.env.scope x := by first | exact Or.inl rfl | exact Or.inr rfl) (hf : X.fn x = true ∨ X.env.scope.names.lookup x = some .local := by first | exact .inl rfl | exact .inr rfl)
    (hj : X.N[j]? = some y := by rfl) (hy : Loc X.env.scope y := by first | exact Or.inl rfl | exact Or.inr rfl) (hf' : X.fn y = true ∨ X.env.scope.names.lookup y = some .local := by first | exact .inl rfl | exact .inr rfl) :
    BG X (.Tuple [.Name x p1, .Name y p2] k pos) (rTwo r) (fun w Γ => (Γ.set i (.im r w.1)).set j (.im r w.2)) := fun σ H0 R0 H R Γ v w E h Q q => by
  obtain ⟨a, vs, rfl, ha, pp, _⟩ := h
  obtain ⟨v1, v2, rfl, e1, e2⟩ : ∃ v1 v2, vs = [v1, v2] ∧ r.R X.K R v1 w.1 ∧ r.R X.K R v2 w.2 := by
    cases pp with
    | cons h1 t => cases t with
      | cons h2 t => cases t; exact ⟨_, _, rfl, h1, h2⟩
  exact gS (pg_lst hc (pgs_cons (pg_name hN hi hx hf) (pgs_cons (pg_name hN hj hy hf') pgs_nil))) ⟨a, _, rfl, SqL.of (E.sub _ _ ha), rfl, v1, [v2], rfl, v2, [], rfl, rfl, q _ ((E.set i e1).set j e2)⟩
end
end Fc

set_option Elab.async false
set_option linter.all false
set_option maxRecDepth 100000
set_option maxHeartbeats 4000000
namespace Fc
open PySem PySem.Spec L2
open PyProof.Rows hiding St
abbrev Pu := List Int × Int
def bPu (a b : Addr) (s : Pu) : Box where
  fp := [a, b]
  R := fun K H R v => v = .ref a ∧ H a = some (.lst [.ref b, .int s.2]) ∧ H b = some (.lst (s.1.map V.int)) ∧ a ≠ b
  loc := fun hH hR ⟨e, h1, h2, h3⟩ => ⟨e, (hH a List.mem_cons_self).trans h1, (hH b (by simp)).trans h2, h3⟩
  has := fun ⟨e, h1, h2, h3⟩ c hc => by
    rcases List.mem_cons.mp hc with rfl | hc
    · rw [h1]; exact Option.some_ne_none _
    · rw [List.mem_singleton.mp hc, h2]; exact Option.some_ne_none _
def kPu : BoxK Pu := ⟨bPu, fun _ _ _ => rfl, fun h => h.1⟩
def rV : Rep V := ⟨fun _ _ v x => v = x, fun _ h => h⟩
theorem paired_rV {K : PySem.W.Frag} {R : Hp} : ∀ {vs ys : List V}, PySem.Paired (rV.R K R) vs ys → vs = ys
  | _, _, .nil => rfl
  | _, _, .cons h t => by rw [show _ = _ from h, paired_rV t]
section
variable {X : Cx} {Γ Γ1 Γ2 Γ3 : Ga} {α β γ δ : Type} {N : Ga → Prop} {T : RT}
theorem EV.bareI {e : Expr} {n : Int} (h : EV X e Γ rInt n Γ1) : EV X e Γ rV (.int n) Γ1 := EV.rep h fun _ _ q => q
theorem ev_bareB (i : Nat) {x : Str} {p : Pos} {b : Addr} {r : Rep α} {xs : List α} (hΓ : Γ[i]? = some (.ob (bLst b r xs))) (hN : X.N[i]? = some x := by rfl) (hv : Vis X.env.scope x := by first | exact Or.inl rfl | exact Or.inr (Or.inl rfl) | exact Or.inr (Or.inr rfl))
    (hd : (x == ("__debug__" : Str)) = false := by decide) (hcd : (x == ("__classdict__" : Str)) = false := by decide) : EV X (.Name x p) Γ rV (.ref b) Γ := fun σ H0 R0 H R E Q q => by
  obtain ⟨ea, _⟩ := bLst_at (E.ent i _ hΓ)
  exact eS (pe_var hN hv hd hcd) ⟨.ref b, at_of ea, q _ H R E (Same.refl _) rfl⟩
def rtPu (P : Pu → Prop) : RT := fun H0 v H' R' => ∃ a b s, v = .ref a ∧ (H0 a = none ∧ H0 b = none) ∧ (R' a = none ∧ R' b = none) ∧ H' a = some (.lst [.ref b, .int s.2]) ∧ H' b = some (.lst (s.1.map V.int)) ∧ a ≠ b ∧ P s
theorem w_retPu (i : Nat) {e : Expr} {pos : Pos} {b : Addr} {xs : List Int} {t : Int} {P : Pu → Prop} (he : EVL X e Γ rV [.ref b, .int t] Γ1) (hΓ1 : Γ1[i]? = some (.ob (bLst b rInt xs))) (h : P (xs, t)) : W1 X (.Return (some e) pos) Γ N (rtPu P) := fun σ H0 R0 H R E D dn dr =>
  sS (ps_ret peS) (he σ H0 R0 H R E _ fun a vs H1 R1 E1 s1 ha hR h0 off pp _ => by
    obtain ⟨ea, ⟨ws, hb, pb⟩, hRb⟩ := bLst_at (E1.ent i _ hΓ1)
    have := paired_rV pp
    subst this
    have hne : a ≠ b := fun z => off i _ hΓ1 (by rw [z]; exact List.mem_singleton.mpr rfl)
    exact dr _ H1 R1 E1.ext ⟨a, b, (xs, t), rfl, ⟨h0, E1.nw i _ b hΓ1 (List.mem_singleton.mpr rfl)⟩, ⟨hR, hRb⟩, ha, by rw [← ints_of pb]; exact hb, hne, h⟩)
theorem w_callPu (i : Nat) {S : SpD} {x y : Str} {k : Nat} {e : Expr} {es : List Expr} {p p1 p2 pos : Pos} {ps : List Pk} {Pd : Pu → Prop} (C : Cal X.prog X.w X.K X.mg X.base x k (spG S X.K)) (hr : Room k X.A) (ha : HA X (e :: es) Γ ps Γ1) (hS : S X.K ps (rtPu Pd)) (h : ∀ a b s, Pd s → N (Γ1.set i (.ob (kPu.bx a b s))))
    (hg : Gl X x := by rfl) (hdb : (x == ("__debug__" : Str)) = false := by decide) (he : starEach (e :: es) X.env = (false, eval e X.env) :: starEach es X.env := by rfl) (hpl : (backTo p2 (starEach es X.env)).any (·.1) = false := by rfl)
    (hN : X.N.Nodup := by first | assumption | decide) (hi : X.N[i]? = some y := by rfl) (hx : Loc X.env.scope y := by first | exact Or.inl rfl | exact Or.inr rfl)
    (hs : swapsWith (.Call (.Name x p) (e :: es) [] p2) (some (.Name y p1)) pos.line X.env = pure false := by rfl) (hf : X.fn y = true ∨ X.env.scope.names.lookup y = some .local := by first | exact .inl rfl | exact .inr rfl) :
    W1 X (.Assign [.Name y p1] (.Call (.Name x p) (e :: es) [] p2) pos) Γ N T := fun σ H0 R0 H R E D dn dr =>
  sS (ps_set hN hi hx peS hs hf) (ev_callT C hr ha hS E (fun H1 R1 v H' R' E1 s1 xx t => by
    obtain ⟨a, b, s, rfl, hn, hR, h1, h2, h3, h4⟩ := t
    have hm : ∀ c ∈ (kPu.bx a b s).fp, c = a ∨ c = b := fun c hc => by
      rcases List.mem_cons.mp hc with rfl | hc
      · exact .inl rfl
      · exact .inr (List.mem_singleton.mp hc)
    refine dn _ H' R' _ ((E1.grow xx).setG (en := .ob (kPu.bx a b s)) i (at_ok (B := kPu) ⟨rfl, h1, h2, h3⟩ hR.1 hR.2) (fun c hc => ?_) fun c hc j e _ qj w => ?_) (s1.trans xx.r) (h a b s h4)
    · rcases hm c hc with rfl | rfl
      · exact E1.ext.h.free hn.1
      · exact E1.ext.h.free hn.2
    · rcases hm c hc with rfl | rfl
      · exact (Ent.fp_at (E1.ent j e qj) w).1 hn.1
      · exact (Ent.fp_at (E1.ent j e qj) w).1 hn.2) hg hdb he hpl)
theorem w_unpPu (i j m : Nat) {x y z : Str} {k : Nat} {p p1 p2 p3 pos : Pos} {a b : Addr} {s : Pu} (hΓ : Γ[i]? = some (.ob (kPu.bx a b s))) (h : N ((Γ.set j (.im rV (.ref b))).set m (.im rInt s.2)))
    (hNi : X.N[i]? = some x := by rfl) (hv : Vis X.env.scope x := by first | exact Or.inl rfl | exact Or.inr (Or.inl rfl) | exact Or.inr (Or.inr rfl)) (hd : (x == ("__debug__" : Str)) = false := by decide) (hcd : (x == ("__classdict__" : Str)) = false := by decide)
    (hc : X.calm = true := by rfl) (hN : X.N.Nodup := by first | assumption | decide) (hj : X.N[j]? = some y := by rfl) (hy : Loc X.env.scope y := by first | exact Or.inl rfl | exact Or.inr rfl) (hf : X.fn y = true ∨ X.env.scope.names.lookup y = some .local := by first | exact .inl rfl | exact .inr rfl)
    (hm : X.N[m]? = some z := by rfl) (hz : Loc X.env.scope z := by first | exact Or.inl rfl | exact Or.inr rfl) (hf' : X.fn z = true ∨ X.env.scope.names.lookup z = some .local := by first | exact .inl rfl | exact .inr rfl)
    (hs : swapsWithSole [.Tuple [.Name y p1, .Name z p2] k p3] (.Name x p) pos.line X.env = pure false := by rfl) (hw : swappedStores [.Tuple [.Name y p1, .Name z p2] k p3] (.Name x p) X.env = pure none := by rfl) (h1 : (assignEach [.Tuple [.Name y p1, .Name z p2] k p3] X.env).map (·.2) = [assign (.Tuple [.Name y p1, .Name z p2] k p3) X.env] := by rfl) :
    W1 X (.Assign [.Tuple [.Name y p1, .Name z p2] k p3] (.Name x p) pos) Γ N T := fun σ H0 R0 H R E D dn dr => by
  obtain ⟨ea, ⟨_, ha, hb, _⟩, _⟩ := ok_at (E.ent i _ hΓ)
  refine sS (ps_asg (pe_var hNi hv hd hcd) (pg_lst hc (pgs_cons (pg_name hN hj hy hf) (pgs_cons (pg_name hN hm hz hf') pgs_nil))) hs hw h1) ⟨.ref a, at_of ea, a, _, rfl, SqL.of ha, rfl, .ref b, [.int s.2], rfl, .int s.2, [], rfl, rfl, ?_⟩
  exact dn _ H R _ ((E.set j (r := rV) (x := .ref b) rfl).set m (r := rInt) (x := s.2) rfl) (Same.refl _) h
theorem ev_lenPu (i j : Nat) {y : Str} {p p1 pos : Pos} {a b : Addr} {s : Pu} (hm : X.mg "len" = none) (hΓ : Γ[i]? = some (.ob (kPu.bx a b s))) (hj : Γ[j]? = some (.im rV (.ref b)))
    (hN : X.N[j]? = some y := by rfl) (hv : Vis X.env.scope y := by first | exact Or.inl rfl | exact Or.inr (Or.inl rfl) | exact Or.inr (Or.inr rfl)) (hd : (y == ("__debug__" : Str)) = false := by decide) (hcd : (y == ("__classdict__" : Str)) = false := by decide)
    (hs : starEach [.Name y p1] X.env = [(false, eval (.Name y p1) X.env)] := by rfl) (hg : Gl X "len" := by rfl) : EV X (.Call (.Name "len" p) [.Name y p1] [] pos) Γ rInt (s.1.length : Int) Γ := fun σ H0 R0 H R E Q q => by
  obtain ⟨ea, ⟨_, ha, hb, _⟩, _⟩ := ok_at (E.ent i _ hΓ)
  obtain ⟨v0, e0, hv0⟩ := E.ent j _ hj
  cases hv0
  refine eS (pe_callB call_len_seq hg hm PySem.boot_len (pa_cons (pe_var hN hv hd hcd) pa_nil hs) (by decide) (by decide) hs) ⟨.ref b, at_of e0, b, _, rfl, .inl (SqL.of hb), ?_⟩
  rw [List.length_map]
  exact q _ H R E (Same.refl _) rfl
theorem ev_ixPu (i j : Nat) {y : Str} {e : Expr} {p1 pos : Pos} {a b : Addr} {s : Pu} {k c : Int} (he : EV X e Γ rInt k Γ) (hΓ : Γ[i]? = some (.ob (kPu.bx a b s))) (hj : Γ[j]? = some (.im rV (.ref b))) (hk : atI s.1 k = some c)
    (hN : X.N[j]? = some y := by rfl) (hv : Vis X.env.scope y := by first | exact Or.inl rfl | exact Or.inr (Or.inl rfl) | exact Or.inr (Or.inr rfl)) (hd : (y == ("__debug__" : Str)) = false := by decide) (hcd : (y == ("__classdict__" : Str)) = false := by decide) (hsx : PlainIx e := by exact fun _ _ => rfl) : EV X (.Subscript (.Name y p1) e pos) Γ rInt c Γ := fun σ H0 R0 H R E Q q => by
  obtain ⟨v0, e0, hv0⟩ := E.ent j _ hj
  cases hv0
  refine eS (pe_ix ix_list (pe_var hN hv hd hcd) peS hsx) ⟨.ref b, at_of e0, he σ H0 R0 H R E _ fun u H2 R2 E2 s2 e2 => ?_⟩
  obtain ⟨ea, ⟨_, ha, hb, _⟩, _⟩ := ok_at (E2.ent i _ hΓ)
  obtain ⟨w, e3, e4⟩ := paired_atI (paired_ints (K := X.K) (R := R2) s.1) hk
  exact ⟨b, _, k, w, rfl, e2, SqL.of hb, e3, q w H2 R2 E2 s2 e4⟩
theorem map_set_int (xs : List Int) (j : Nat) (y : Int) : (xs.map V.int).set j (.int y) = (xs.set j y).map V.int := by rw [List.map_set]
theorem w_setixPu (i j : Nat) {y : Str} {b0 e : Expr} {p1 p2 pos : Pos} {a b : Addr} {s : Pu} {k c : Int} {n : Nat} (he : EV X e Γ rInt c Γ) (hb0 : EV X b0 Γ rInt k Γ) (hΓ : Γ[i]? = some (.ob (kPu.bx a b s))) (hj : Γ[j]? = some (.im rV (.ref b))) (hk : ixN s.1.length k = some n) (h : N (Γ.set i (.ob (kPu.bx a b (s.1.set n c, s.2)))))
    (hN : X.N[j]? = some y := by rfl) (hv : Vis X.env.scope y := by first | exact Or.inl rfl | exact Or.inr (Or.inl rfl) | exact Or.inr (Or.inr rfl)) (hd : (y == ("__debug__" : Str)) = false := by decide) (hcd : (y == ("__classdict__" : Str)) = false := by decide)
    (ha : ∀ v, assign (.Subscript (.Name y p1) b0 p2) X.env v = (do
      let ov ← holding [v] (eval (.Name y p1) X.env)
      let iv ← holding [v, ov] (eval b0 X.env)
      standAt p2
      holding [v, ov, iv] (setItem ov iv v)
      release [v, ov, iv] []) := by intro _; rfl)
    (hs : swapsWithSole [.Subscript (.Name y p1) b0 p2] e pos.line X.env = pure false := by rfl) (hw : swappedStores [.Subscript (.Name y p1) b0 p2] e X.env = pure none := by rfl) (h1 : (assignEach [.Subscript (.Name y p1) b0 p2] X.env).map (·.2) = [assign (.Subscript (.Name y p1) b0 p2) X.env] := by rfl) :
    W1 X (.Assign [.Subscript (.Name y p1) b0 p2] e pos) Γ N T := fun σ H0 R0 H R E D dn dr => by
  refine sS (ps_asg peS (pg_sub (pe_var hN hv hd hcd) peS set_list ha) hs hw h1) (he σ H0 R0 H R E _ fun v H1 R1 E1 s1 e1 => ?_)
  obtain ⟨v0, e0, hv0⟩ := E1.ent j _ hj
  cases hv0
  refine ⟨.ref b, at_of e0, hb0 σ H0 R0 H1 R1 E1 _ fun u H2 R2 E2 s2 e2 => ?_⟩
  obtain ⟨ea, ⟨_, h2, h3, hne⟩, hRa, hRb⟩ := ok_at (E2.ent i _ hΓ)
  cases e1
  refine ⟨b, _, k, n, rfl, e2, h3, by rw [List.length_map]; exact hk, ?_⟩
  rw [map_set_int]
  exact dn σ _ R2 _ (E2.updG (en := .ob (kPu.bx a b (s.1.set n c, s.2))) hΓ (show b ∈ [a, b] by simp) (by rw [ea]; exact at_ok (B := kPu) ⟨rfl, by rw [upd_ne hne]; exact h2, upd_same, hne⟩ hRa hRb) fun c w => .inl w) (s1.trans s2) h
theorem w_turnPu (i : Nat) {y : Str} {e : Expr} {p1 p2 p3 pos : Pos} {kk : Nat} {a b : Addr} {s : Pu} {c : Int} (he : EV X e Γ rInt c Γ) (hΓ : Γ[i]? = some (.ob (kPu.bx a b s))) (h : N (Γ.set i (.ob (kPu.bx a b (s.1, c)))))
    (hN : X.N[i]? = some y := by rfl) (hv : Vis X.env.scope y := by first | exact Or.inl rfl | exact Or.inr (Or.inl rfl) | exact Or.inr (Or.inr rfl)) (hd : (y == ("__debug__" : Str)) = false := by decide) (hcd : (y == ("__classdict__" : Str)) = false := by decide)
    (ha : ∀ v, assign (.Subscript (.Name y p1) (.Constant (.int 1) kk p3) p2) X.env v = (do
      let ov ← holding [v] (eval (.Name y p1) X.env)
      let iv ← holding [v, ov] (eval (.Constant (.int 1) kk p3) X.env)
      standAt p2
      holding [v, ov, iv] (setItem ov iv v)
      release [v, ov, iv] []) := by intro _; rfl)
    (hs : swapsWithSole [.Subscript (.Name y p1) (.Constant (.int 1) kk p3) p2] e pos.line X.env = pure false := by rfl) (hw : swappedStores [.Subscript (.Name y p1) (.Constant (.int 1) kk p3) p2] e X.env = pure none := by rfl) (h1 : (assignEach [.Subscript (.Name y p1) (.Constant (.int 1) kk p3) p2] X.env).map (·.2) = [assign (.Subscript (.Name y p1) (.Constant (.int 1) kk p3) p2) X.env] := by rfl) :
    W1 X (.Assign [.Subscript (.Name y p1) (.Constant (.int 1) kk p3) p2] e pos) Γ N T := fun σ H0 R0 H R E D dn dr => by
  refine sS (ps_asg peS (pg_sub (pe_var hN hv hd hcd) pe_int set_list ha) hs hw h1) (he σ H0 R0 H R E _ fun v H1 R1 E1 s1 e1 => ?_)
  obtain ⟨ea, ⟨_, h2, h3, hne⟩, hRa, hRb⟩ := ok_at (E1.ent i _ hΓ)
  cases e1
  refine ⟨.ref a, at_of ea, a, _, 1, 1, rfl, rfl, h2, rfl, ?_⟩
  exact dn σ _ R1 _ (E1.updG (en := .ob (kPu.bx a b (s.1, c))) hΓ (show a ∈ [a, b] by simp) (by rw [ea]; exact at_ok (B := kPu) ⟨rfl, upd_same, by rw [upd_ne (Ne.symm hne)]; exact h3, hne⟩ hRa hRb) fun c w => .inl w) s1 h
end
end Fc

set_option Elab.async false
set_option linter.all false
set_option maxRecDepth 100000
set_option maxHeartbeats 4000000
namespace K1
open PySem L2 Fc
open PySem.Spec hiding Row
open PyProof.Rows hiding St
open PySem.Builtin.Int (intBits)
theorem nodup_le {α : Type} [DecidableEq α] : ∀ {xs ys : List α}, xs.Nodup → (∀ x ∈ xs, x ∈ ys) → xs.length ≤ ys.length
  | [], _, _, _ => Nat.zero_le _
  | x :: xs, ys, h, hs => by
    obtain ⟨h1, h2⟩ := List.nodup_cons.mp h
    have hx : x ∈ ys := hs x List.mem_cons_self
    have := nodup_le (xs := xs) (ys := ys.erase x) h2 fun y hy => (List.mem_erase_of_ne (show y ≠ x from fun e => h1 (e ▸ hy))).mpr (hs y (List.mem_cons_of_mem _ hy))
    rw [List.length_erase_of_mem hx] at this
    have := List.length_pos_of_mem hx
    rw [List.length_cons]
    omega
theorem nodup_len {α : Type} [DecidableEq α] {xs ys : List α} (h : xs.Nodup) (h' : ys.Nodup) (e : ∀ x, x ∈ xs ↔ x ∈ ys) : xs.length = ys.length :=
  Nat.le_antisymm (nodup_le h fun x hx => (e x).mp hx) (nodup_le h' fun x hx => (e x).mpr hx)
def dOf (ks : List Int) : List (Int × V) := ks.map fun k => (k, .bl true)
theorem dOf_has (ks : List Int) (k : Int) : dHas (dOf ks) k = decide (k ∈ ks) := by
  unfold dHas dOf
  rw [List.any_map, Bool.eq_iff_iff, List.any_eq_true]
  simp
structure Srch (es : List (Int × Int)) (s : Int) (ks ws : List Int) : Prop where
  nd : ks.Nodup
  re : ∀ k ∈ ks, Reach es s k
  st : s ∈ ks
  wt : ∀ k ∈ ws, k ∈ ks
  bd : ∀ k ∈ ks, k ∈ s :: es.map (·.2)
theorem Srch.le {es : List (Int × Int)} {s : Int} {ks ws : List Int} (h : Srch es s ks ws) : ks.length ≤ es.length + 1 := by
  have := nodup_le h.nd h.bd
  simpa using this
section
variable {P : Program} {w : World} {K : PySem.W.Frag} {mg : Str → Option Value} {base : Heap} {f : Addr} {fd : FuncData}
abbrev sRE : Stmt := top at_reached
abbrev nRE : List Str := ["leads", "start", "found", "waiting", "place", "lead"]
theorem scRE : FnScope nRE ["leads", "start"] (defScope sRE) := ⟨rfl, rfl, rfl, by decide +kernel, rfl, by decide +kernel, by decide +kernel⟩
def SRE : SpD := fun K ps T => ∃ (es : List (Int × Int)) (s : Int), ps = [⟨rList rTie, es⟩, ⟨rInt, s⟩] ∧ es.length ≤ 100000 ∧ T = rtP K rDict fun kvs => (kvs.map (·.1)).Nodup ∧ ∀ k, k ∈ kvs.map (·.1) ↔ Reach es s k
theorem ok_RE (F : Fun K "reached" "reached" sRE f fd) (hm : mg "reached" = some (.ref f)) (hb : Binds K fd ["leads", "start"] []) : Cal P w K mg base "reached" 1 (spG SRE K) := by
  have nd := scRE.nd
  refine fn_ok F scRE hm hb (fun qs T ⟨_, _, e, _⟩ => by rw [e]; rfl) (fun cdv A outer s H E qs T hr hS => ?_)
  obtain ⟨es, s0, rfl, hlen, rfl⟩ := hS
  have hu := hu_of hr
  change WS _ _ [.im (rList rTie) es, .im rInt s0, .no, .no, .no, .no] _ _
  refine ws_seq (w_dict1 2 (quick_name 1 rfl) pe_bl (ws_seq (w_setL 3 (evl_lst (ea_cons (ev_name 1 rfl) ea_nil) (by show 1 ≤ sizeLine; decide)) ?_)))
  refine ws_seq (w_while (fun m Γ => ∃ ks ws v4 v5, Γ = [.im (rList rTie) es, .im rInt s0, .di (dOf ks), .mu rInt ws, v4, v5] ∧ Srch es s0 ks ws ∧ m = 2 * (es.length + 1 - ks.length) + ws.length ∧ m ≤ 2 * es.length + 1 ∧ ∀ k ∈ ks, k ∉ ws → ∀ b, (k, b) ∈ es → b ∈ ks) (m0 := 2 * (es.length + 1 - 1) + 1)
    ⟨[s0], [s0], .no, .no, rfl, ⟨by simp, fun k hk => by rw [List.mem_singleton.mp hk]; exact .base, List.mem_singleton.mpr rfl, fun k hk => hk, fun k hk => by rw [List.mem_singleton.mp hk]; exact List.mem_cons_self⟩, rfl, Nat.le_refl _, fun k hk hn => absurd hk hn⟩ ?_)
  rintro m Γ ⟨ks, ws, v4, v5, rfl, hI, rfl, hmb, hcl⟩
  refine ⟨!ws.isEmpty, _, tv_own 3 rfl, fun hne => ?_, fun he => ?_⟩
  · have hws : ws ≠ [] := by intro e; rw [e] at hne; exact absurd hne (by decide)
    have hpos : 0 < ws.length := List.length_pos_iff.mpr hws
    obtain ⟨p, hp⟩ : ∃ p, ws[ws.length - 1]? = some p := ⟨_, List.getElem?_eq_getElem (by omega)⟩
    have hpm : p ∈ ws := List.mem_of_getElem? hp
    have hsplit : ws = ws.dropLast ++ [p] := by
      have e := List.dropLast_concat_getLast hws
      rw [List.getLast_eq_getElem, ] at e
      rw [List.getElem?_eq_getElem (by omega)] at hp
      rw [Option.some.inj hp] at e
      exact e.symm
    have hdl : ws.dropLast.length = ws.length - 1 := List.length_dropLast
    refine ws_seq (w_set 4 (ev_pop 3 rfl hp) ?_)
    refine ws_one (w_forI (r := rTie) (fun i Γ => ∃ ks1 ws1 v5, Γ = [.im (rList rTie) es, .im rInt s0, .di (dOf ks1), .mu rInt ws1, .im rInt p, v5] ∧ Srch es s0 ks1 ws1 ∧ p ∈ ks1 ∧ 2 * (es.length + 1 - ks1.length) + ws1.length < 2 * (es.length + 1 - ks.length) + ws.length ∧ (∀ k ∈ ks1, k ∉ ws1 → k ≠ p → ∀ b, (k, b) ∈ es → b ∈ ks1) ∧ ∀ (j : Nat) b, j < i → es[j]? = some (p, b) → b ∈ ks1)
      (iv_list (ev_name 0 rfl)) (bg_name 5) ⟨ks, ws.dropLast, v5, rfl, ⟨hI.nd, hI.re, hI.st, fun k hk => hI.wt k (List.dropLast_subset _ hk), hI.bd⟩, hI.wt p hpm, by omega, fun k hk hn hkp => hcl k hk fun hw => ?_, fun j b hj => absurd hj (Nat.not_lt_zero _)⟩ ?_ ?_)
    · rw [hsplit] at hw
      rcases List.mem_append.mp hw with q | q
      · exact hn q
      · exact hkp (List.mem_singleton.mp q)
    · rintro i t Γ ht ⟨ks1, ws1, u5, rfl, hJ, hp1, hme, hc1, hc2⟩
      have htm : t ∈ es := List.mem_of_getElem? ht
      refine ws_one (w_if (TW.tv (tw_and (tv_cmp c_eq (ev_fst (ev_name 5 rfl)) (ev_name 4 rfl)) (fun _ => tw_and1 (tv_dinM 2 true hu (ev_snd (ev_name 5 rfl)) rfl)))) (fun h => ?_) (fun h => ws_end ?_))
      · rw [Bool.and_eq_true] at h
        have h1 : t.1 = p := of_decide_eq_true h.1
        have h2 : t.2 ∉ ks1 := by
          have := h.2
          rw [if_pos rfl, dOf_has] at this
          simpa using this
        have hJ' : Srch es s0 (ks1 ++ [t.2]) (ws1 ++ [t.2]) := by
          refine ⟨nd_snoc hJ.nd h2, fun k hk => ?_, List.mem_append_left _ hJ.st, fun k hk => ?_, fun k hk => ?_⟩
          · rcases List.mem_append.mp hk with q | q
            · exact hJ.re k q
            · rw [List.mem_singleton.mp q]
              exact .step (hJ.re p hp1) (by rw [← h1]; exact htm)
          · rcases List.mem_append.mp hk with q | q
            · exact List.mem_append_left _ (hJ.wt k q)
            · exact List.mem_append_right _ q
          · rcases List.mem_append.mp hk with q | q
            · exact hJ.bd k q
            · rw [List.mem_singleton.mp q]
              exact List.mem_cons_of_mem _ (List.mem_map.mpr ⟨t, htm, rfl⟩)
        have hle := hJ'.le
        have hle1 := hJ.le
        rw [List.length_append, List.length_singleton] at hle
        refine ws_seq (w_dputNew 2 hu (ev_snd (ev_name 5 rfl)) pe_bl rfl (by rw [dOf_has]; exact decide_eq_false h2) (by unfold dOf; rw [List.length_map]; exact Nat.lt_of_le_of_lt (show ks1.length ≤ 100001 by omega) (by decide)) ?_)
        have ed : dOf ks1 ++ [(t.2, V.bl true)] = dOf (ks1 ++ [t.2]) := by unfold dOf; rw [List.map_append]; rfl
        rw [ed]
        have hwl : ws1.length ≤ 400000 := by
          omega
        refine ws_one (w_append 3 (ev_snd (ev_name 5 rfl)) rfl rfl (Nat.lt_of_le_of_lt hwl (by decide)) ?_)
        refine ⟨ks1 ++ [t.2], ws1 ++ [t.2], _, rfl, hJ', List.mem_append_left _ hp1, ?_, fun k hk hn hkp b hb => ?_, fun j b hj hjb => ?_⟩
        · rw [List.length_append, List.length_append, List.length_singleton]; omega
        · rcases List.mem_append.mp hk with q | q
          · exact List.mem_append_left _ (hc1 k q (fun z => hn (List.mem_append_left _ z)) hkp b hb)
          · exact absurd (List.mem_append_right _ q) hn
        · rcases Nat.lt_or_ge j i with q | q
          · exact List.mem_append_left _ (hc2 j b q hjb)
          · have : j = i := by omega
            subst this
            rw [ht] at hjb
            cases hjb
            exact List.mem_append_right _ (List.mem_singleton.mpr rfl)
      · refine ⟨ks1, ws1, _, rfl, hJ, hp1, hme, hc1, fun j b hj hjb => ?_⟩
        rcases Nat.lt_or_ge j i with q | q
        · exact hc2 j b q hjb
        · have : j = i := by omega
          subst this
          rw [ht] at hjb
          cases hjb
          have h' := h
          rw [Bool.and_eq_false_iff] at h'
          rcases h' with z | z
          · exact absurd rfl (of_decide_eq_false z)
          · rw [if_pos rfl, dOf_has] at z
            simpa using z
    · rintro Γ ⟨ks1, ws1, u5, rfl, hJ, hp1, hme, hc1, hc2⟩
      refine ⟨_, hme, ks1, ws1, _, _, rfl, hJ, rfl, by omega, fun k hk hn b hb => ?_⟩
      by_cases hkp : k = p
      · subst hkp
        obtain ⟨j, hj⟩ := List.mem_iff_getElem?.mp hb
        exact hc2 j b (List.getElem?_eq_some_iff.mp hj).1 hj
      · exact hc1 k hk hn hkp b hb
  · have hws : ws = [] := by
      cases ws with
      | nil => rfl
      | cons _ _ => simp at he
    subst hws
    refine ws_one (w_retD 2 rfl ?_)
    have em : (dOf ks).map (·.1) = ks := by unfold dOf; rw [List.map_map]; exact List.map_id ks
    rw [em]
    exact ⟨hI.nd, fun k => ⟨hI.re k, fun hk => Reach.sub (P := fun k => k ∈ ks) hI.st (fun a b ha hab => hcl a ha (by simp) b hab) hk⟩⟩
open Classical in
noncomputable def reachN (es : List (Int × Int)) (s n : Int) : Bool := decide (∃ ks : List Int, ks.Nodup ∧ (∀ k, k ∈ ks ↔ Reach es s k) ∧ (ks.length : Int) = n)
open Classical in
theorem reachN_is {es : List (Int × Int)} {s n : Int} {ks : List Int} (h : ks.Nodup) (e : ∀ k, k ∈ ks ↔ Reach es s k) : decide ((ks.length : Int) = n) = reachN es s n := by
  unfold reachN
  by_cases hn : (ks.length : Int) = n
  · rw [decide_eq_true hn, decide_eq_true]; exact ⟨ks, h, e, hn⟩
  · rw [decide_eq_false hn, decide_eq_false]
    rintro ⟨ks', h', e', hn'⟩
    exact hn (by rw [← hn', nodup_len h h' fun k => (e k).trans (e' k).symm])
def fwd (rs : List Row) (p : Int) : List (Int × Int) := (rs.filter fun r => decide (r.1 = p)).map fun r => (r.2.1, r.2.2.1)
def bwd (rs : List Row) (p : Int) : List (Int × Int) := (rs.filter fun r => decide (r.1 = p)).map fun r => (r.2.2.1, r.2.1)
noncomputable def lieF (rs : List Row) (p n : Int) : Bool := reachN (fwd rs p) 0 n && reachN (bwd rs p) 1 n
abbrev sLO : Stmt := top at_lies_on_ways
abbrev nLO : List Str := ["rows", "part", "size", "ahead", "behind"]
theorem scLO : FnScope nLO ["rows", "part", "size"] (defScope sLO) := ⟨rfl, rfl, rfl, by decide +kernel, rfl, by decide +kernel, by decide +kernel⟩
def SLO : SpD := fun K ps T => ∃ (rs : List Row) (p n : Int), ps = [⟨rList rRow, rs⟩, ⟨rInt, p⟩, ⟨rInt, n⟩] ∧ rs.length ≤ 1000 ∧ T = rtP K rBool (· = lieF rs p n)
theorem ok_LO (M : Mods mg) (CR : Cal P w K mg base "reached" 1 (spG SRE K)) (F : Fun K "lies_on_ways" "lies_on_ways" sLO f fd) (hm : mg "lies_on_ways" = some (.ref f)) (hb : Binds K fd ["rows", "part", "size"] []) : Cal P w K mg base "lies_on_ways" 2 (spG SLO K) := by
  have nd := scLO.nd
  have ndc : List.Nodup [("row" : Str), "part"] := by decide
  obtain ⟨t1, hB⟩ := M.begin_
  obtain ⟨t2, hE⟩ := M.end_
  refine fn_ok F scLO hm hb (fun qs T ⟨_, _, _, e, _⟩ => by rw [e]; rfl) (fun cdv A outer s H E qs T hr hS => ?_)
  obtain ⟨rs, p, n, rfl, hl, rfl⟩ := hS
  change WS _ _ [.im (rList rRow) rs, .im rInt p, .im rInt n, .no, .no] _ _
  have lf : ∀ g : Row → Int × Int, ((rs.filter fun r => decide (r.1 = p)).map g).length ≤ 100000 := fun g => by
    rw [List.length_map]
    have := List.length_filter_le (fun r : Row => decide (r.1 = p)) rs
    omega
  refine ws_seq (w_callP 3 CR hr (ha_cons (EVL.im (evl_comp (own := ["row"]) (fr := ["part"]) (ix := [1]) (p := fun r => decide (r.1 = p)) (f := fun r => (r.2.1, r.2.2.1)) (comp_mk (so := defScope sLO) (N0 := nLO) rfl rfl (fun x h => cell_has h) (by decide +kernel)) (iv_list (ev_name 0 rfl))
      (fun C s H ex => bg_name 0) (fun x => ⟨.inr rfl, .inl rfl, trivial⟩) (fun C s H ex x hx => tf_one (tv_cmp c_eq (ev_row0 (ev_name 0 rfl)) (ev_name 1 rfl))) (fun C s H ex x hx _ => ev_pair (ha_cons (ev_row1 (ev_name 0 rfl)) (ha_cons (ev_row2 (ev_name 0 rfl)) ha_nil))))) (ha_cons (ev_glob hB) ha_nil)) ⟨_, _, rfl, lf _, rfl⟩ ?_)
  rintro kv1 ⟨n1, e1⟩
  refine ws_seq (w_callP 4 CR hr (ha_cons (EVL.im (evl_comp (own := ["row"]) (fr := ["part"]) (ix := [1]) (p := fun r => decide (r.1 = p)) (f := fun r => (r.2.2.1, r.2.1)) (comp_mk (so := defScope sLO) (N0 := nLO) rfl rfl (fun x h => cell_has h) (by decide +kernel)) (iv_list (ev_name 0 rfl))
      (fun C s H ex => bg_name 0) (fun x => ⟨.inr rfl, .inl rfl, trivial⟩) (fun C s H ex x hx => tf_one (tv_cmp c_eq (ev_row0 (ev_name 0 rfl)) (ev_name 1 rfl))) (fun C s H ex x hx _ => ev_pair (ha_cons (ev_row2 (ev_name 0 rfl)) (ha_cons (ev_row1 (ev_name 0 rfl)) ha_nil))))) (ha_cons (ev_glob hE) ha_nil)) ⟨_, _, rfl, lf _, rfl⟩ ?_)
  rintro kv2 ⟨n2, e2⟩
  refine ws_one (w_ret (ev_and (ev_cmp c_eq (ev_lenD M.len (ev_name 3 rfl)) (ev_name 2 rfl)) (fun _ => ev_one (ev_cmp c_eq (ev_lenD M.len (ev_name 4 rfl)) (ev_name 2 rfl)))) ?_)
  have q1 := reachN_is (n := n) n1 e1
  have q2 := reachN_is (n := n) n2 e2
  rw [List.length_map] at q1 q2
  show (decide ((kv1.length : Int) = n) && decide ((kv2.length : Int) = n)) = lieF rs p n
  rw [q1, q2]; rfl
abbrev sWE : Stmt := top at_is_web
abbrev nWE : List Str := ["web", "places", "rows"]
theorem scWE : FnScope nWE ["web"] (defScope sWE) := ⟨rfl, rfl, rfl, by decide +kernel, rfl, by decide +kernel, by decide +kernel⟩
noncomputable def webF (v : Web) : Bool :=
  if !sizes v then false
  else if !((v.2.filter fun _ => true).map (leads v.1)).all id then false
  else if !(((ups (0 + 1) ((v.1.length : Int) - (0 + 1)).toNat).filter fun _ => true).map (called v.2)).all id then false
  else (((nums v.1).filter fun _ => true).map fun x => lieF v.2 x.1 x.2).all id
def SWE : SpD := fun K ps T => ∃ v : Web, ps = [⟨rWeb, v⟩] ∧ v.1.length ≤ 1000 ∧ v.2.length ≤ 1000 ∧ T = rtP K rBool (· = webF v)
theorem ok_WE (M : Mods mg) (C1 : Cal P w K mg base "has_web_form" 4 (spG SWF K)) (C2 : Cal P w K mg base "has_web_sizes" 1 (spG SWZ K)) (C3 : Cal P w K mg base "leads_within" 1 (spG SLW K)) (C4 : Cal P w K mg base "is_called" 1 (spG SIC K)) (C5 : Cal P w K mg base "lies_on_ways" 2 (spG SLO K)) (F : Fun K "is_web" "is_web" sWE f fd) (hm : mg "is_web" = some (.ref f)) (hb : Binds K fd ["web"] []) : Cal P w K mg base "is_web" 5 (spG SWE K) := by
  have nd := scWE.nd
  have C2 := C2.mono (show 1 ≤ 4 by decide)
  have C3 := C3.mono (show 1 ≤ 4 by decide)
  have C4 := C4.mono (show 1 ≤ 4 by decide)
  have C5 := C5.mono (show 2 ≤ 4 by decide)
  have nd1 : List.Nodup [("row" : Str), "places"] := by decide
  have nd2 : List.Nodup [("part" : Str), "rows"] := by decide
  have nd3 : List.Nodup [("part" : Str), "size", "rows"] := by decide
  obtain ⟨t1, hFP⟩ := M.firstPart
  refine fn_ok F scWE hm hb (fun qs T ⟨_, e, _⟩ => by rw [e]; rfl) (fun cdv A outer s H E qs T hr hS => ?_)
  obtain ⟨v, rfl, l1, l2, rfl⟩ := hS
  change WS _ _ [.im rWeb v, .no, .no] _ _
  refine ws_seq (w_if (TW.tv (tw_or (tv_not (tv_bool (ev_call C1 hr (ha_cons (ev_name 0 rfl) ha_nil) ⟨v, rfl, rfl⟩))) (fun _ => tw_or1 (tv_not (tv_bool (ev_call C2 hr (ha_cons (ev_name 0 rfl) ha_nil) ⟨v, rfl, rfl⟩)))))) (fun h => ?_) (fun h => ws_end ?_))
  · have h : (!sizes v) = true := by simpa using h
    exact ws_one (w_ret ev_bool (by rw [webF, if_pos h]))
  have h1 : (!sizes v) = false := by simpa using h
  refine ws_seq (w_set 1 (ev_fst (r := rList rInt) (r' := rList rRow) (ev_name 0 rfl)) (ws_seq (w_set 2 (ev_snd (r := rList rInt) (r' := rList rRow) (ev_name 0 rfl)) ?_)))
  refine ws_seq (w_if (tv_not (tv_bool (ev_all M.all (EVL.im (evl_comp (own := ["row"]) (fr := ["places"]) (ix := [1]) (p := fun _ => true) (f := leads v.1) (comp_mk (so := defScope sWE) (N0 := nWE) rfl rfl (fun x h => cell_has h) (by decide +kernel)) (iv_list (ev_name 2 rfl))
      (fun C s H ex => bg_name 0) (fun x => ⟨.inr rfl, .inl rfl, trivial⟩) (fun C s H ex x hx => tf_nil) (fun C s H ex x hx _ => ev_call C3 hr (ha_cons (ev_name 1 rfl) (ha_cons (ev_name 0 rfl) ha_nil)) ⟨_, _, rfl, rfl⟩)))))) (fun h => ?_) (fun h => ws_end ?_))
  · exact ws_one (w_ret ev_bool (by rw [webF, if_neg (by rw [h1]; decide), if_pos h]))
  have h2 := h
  refine ws_seq (w_if (tv_not (tv_bool (ev_all M.all (EVL.im (evl_comp (own := ["part"]) (fr := ["rows"]) (ix := [2]) (p := fun _ => true) (f := called v.2) (comp_mk (so := defScope sWE) (N0 := nWE) rfl rfl (fun x h => cell_has h) (by decide +kernel)) (iv_range2 M.range (ev_add (ev_glob hFP) ev_int) (ev_len M.len (ev_name 1 rfl)) ⟨by decide, by decide, by omega, by omega⟩)
      (fun C s H ex => bg_name 0) (fun x => ⟨.inr rfl, .inl rfl, trivial⟩) (fun C s H ex x hx => tf_nil) (fun C s H ex x hx _ => ev_call C4 hr (ha_cons (ev_name 1 rfl) (ha_cons (ev_name 0 rfl) ha_nil)) ⟨_, _, rfl, rfl⟩)))))) (fun h => ?_) (fun h => ws_end ?_))
  · exact ws_one (w_ret ev_bool (by rw [webF, if_neg (by rw [h1]; decide), if_neg (by rw [h2]; decide), if_pos h]))
  have h3 := h
  refine ws_one (w_ret (ev_all M.all (EVL.im (evl_comp (own := ["part", "size"]) (fr := ["rows"]) (ix := [2]) (p := fun _ => true) (f := fun x => lieF v.2 x.1 x.2) (comp_mk (so := defScope sWE) (N0 := nWE) rfl rfl (fun x h => cell_has h) (by decide +kernel)) (iv_enum M.enumerate (ev_name 1 rfl))
      (fun C s H ex => bg_pair 0 1) (fun x => ⟨.inr rfl, .inr rfl, .inl rfl, trivial⟩) (fun C s H ex x hx => tf_nil) (fun C s H ex x hx _ => ev_call C5 hr (ha_cons (ev_name 2 rfl) (ha_cons (ev_name 0 rfl) (ha_cons (ev_name 1 rfl) ha_nil))) ⟨_, _, _, rfl, l2, rfl⟩)))) ?_)
  rw [webF, if_neg (by rw [h1]; decide), if_neg (by rw [h2]; decide), if_neg (by rw [h3]; decide)]
end
end K1

set_option Elab.async false
set_option linter.all false
set_option maxRecDepth 100000
set_option maxHeartbeats 4000000
namespace Fc
open PySem PySem.Spec L2
open PyProof.Rows hiding St
def CDivG (i j : Int) : Prop := 0 < j ∧ j < 1000000000000000000
theorem op_fdivG {X : Cx} : OpR X (binaryOp .FloorDiv) (rI CDivG fun i j => .int (i / j)) := opI fun i j _ _ _ _ _ hc q => by
  have h1 : (0 : Int) < j := hc.1
  have h2 : j < 1000000000000000000 := hc.2
  exact floordiv_int (by omega) (by rw [Int.fdiv_eq_ediv_of_nonneg i (by omega)]; exact q) (.inl (PyProof.noPylong_of_log2 (Nat.lt_of_lt_of_le ((Nat.log2_lt (by omega)).mpr (show j.natAbs < 2 ^ 60 by omega)) (by decide))))
theorem ev_fdivG {X : Cx} {Γ Γ1 Γ2 : Ga} {a b : Expr} {pos : Pos} {x y : Int} (ha : EV X a Γ rInt x Γ1) (hb : EV X b Γ1 rInt y Γ2) (h : CDivG x y) : EV X (.BinOp a .FloorDiv b pos) Γ rInt (x / y) Γ2 := ev_op op_fdivG ha hb fun R v u H Q e1 e2 q => ⟨x, y, e1, e2, h, q _ rfl⟩
end Fc
namespace K1
open PySem L2 Fc
open PySem.Spec hiding Row
open PyProof.Rows hiding St
open PySem.Builtin.Int (intBits)
structure PSt (n : Int) (s : Pu) : Prop where
  ne : 1 ≤ s.1.length
  le : s.1.length ≤ 63
  bits : ∀ c ∈ s.1, intBits c ≤ 2 ^ 20
  t0 : 0 ≤ s.2
  t1 : s.2 ≤ n
theorem PSt.mono {n n' : Int} {s : Pu} (h : PSt n s) (hn : n ≤ n') : PSt n' s := ⟨h.ne, h.le, h.bits, h.t0, Int.le_trans h.t1 hn⟩
def atP (s : Pu) : Nat := (s.2 % (s.1.length : Int)).toNat
def cellP (s : Pu) : Int := s.1.getD (atP s) 0
def numP (s : Pu) : Int := (cellP s * 48271 + s.2 * s.2 * 69621 + 7) % 2147483647
def num2P (s : Pu) : Int := numP s * numP s % 2147483629
def drawP (s : Pu) (b : Int) : Int := if 10 ^ 18 ≤ cellP s then cellP s % b else num2P s * num2P s % 2147483587 % b
def nextP (s : Pu) (b : Int) : Pu := if 10 ^ 18 ≤ cellP s then (s.1.set (atP s) (cellP s / b), s.2 + 1) else (s.1, s.2 + 1)
theorem atP_lt {n : Int} {s : Pu} (h : PSt n s) : atP s < s.1.length := by
  have h1 := Int.emod_lt_of_pos s.2 (show (0 : Int) < (s.1.length : Int) by have := h.ne; omega)
  have h2 := Int.emod_nonneg s.2 (show (s.1.length : Int) ≠ 0 by have := h.ne; omega)
  unfold atP; omega
theorem cellP_mem {n : Int} {s : Pu} (h : PSt n s) : cellP s ∈ s.1 := by
  unfold cellP
  rw [List.getD_eq_getElem?_getD, List.getElem?_eq_getElem (atP_lt h)]
  exact List.getElem_mem _
section
variable {P : Program} {w : World} {K : PySem.W.Frag} {mg : Str → Option Value} {base : Heap} {f : Addr} {fd : FuncData}
abbrev sDR : Stmt := top at__law_draw
abbrev nDR : List Str := ["_law_purse_here", "_law_out_of", "_law_cells", "_law_turn", "_law_at", "_law_cell", "_law_number"]
theorem scDR : FnScope nDR ["_law_purse_here", "_law_out_of"] (defScope sDR) := ⟨rfl, rfl, rfl, by decide +kernel, rfl, by decide +kernel, by decide +kernel⟩
def SDR : SpU Pu := fun K s ps T => ∃ b : Int, PSt 1000000 s ∧ ps = [⟨rInt, b⟩] ∧ 0 < b ∧ b < 1000000000000000000 ∧ T = fun s' => rtP K rInt fun y => s' = nextP s b ∧ y = drawP s b
theorem ok_DR (M : Mods mg) (F : Fun K "_law_draw" "_law_draw" sDR f fd) (hm : mg "_law_draw" = some (.ref f)) (hb : Binds K fd ["_law_purse_here", "_law_out_of"] []) : Cal P w K mg base "_law_draw" 1 (spU kPu SDR K) := by
  have nd := scDR.nd
  refine fnU_ok F scDR hm hb (fun xs qs T ⟨b, _, e, _⟩ => by rw [e]; rfl) (fun cdv A outer s H E a b st qs T hr hS => ?_)
  obtain ⟨d, hP, rfl, b0, b1, rfl⟩ := hS
  have al := atP_lt hP
  have t0 := hP.t0; have t1 := hP.t1; have ne := hP.ne; have le := hP.le
  have hbc := hP.bits _ (cellP_mem hP)
  have m0 := Int.emod_nonneg st.2 (show (st.1.length : Int) ≠ 0 by omega)
  have m1 := Int.emod_lt_of_pos st.2 (show (0 : Int) < (st.1.length : Int) by omega)
  change WS _ _ [.ob (kPu.bx a b st), .im rInt d, .no, .no, .no, .no, .no] _ _
  refine ws_seq (w_unpPu 0 2 3 rfl ?_)
  refine ws_seq (w_set 4 (ev_mod (ev_name 3 rfl) (ev_lenPu 0 2 M.len rfl rfl) (by omega)) ?_)
  refine ws_seq (w_set 5 (ev_ixPu 0 2 (c := cellP st) (ev_name 4 rfl) rfl rfl (by rw [atI_getD m0 m1]; rfl)) ?_)
  refine ws_seq (w_turnPu 0 (ev_add (ev_name 3 rfl) ev_int) rfl ?_)
  refine ws_seq (w_if (tv_cmp c_ge (ev_name 5 rfl) (ev_pow ev_int ev_int ⟨by decide, by decide, by decide⟩)) (fun h => ?_) (fun h => ws_end ?_))
  · have h : (10 : Int) ^ 18 ≤ cellP st := of_decide_eq_true h
    refine ws_seq (w_setixPu 0 2 (n := atP st) (ev_fdivG (ev_name 5 rfl) (ev_name 1 rfl) ⟨b0, b1⟩) (ev_name 4 rfl) rfl rfl (ixN_of m0 m1) ?_)
    refine ws_one (w_retU 0 (B := kPu) (ev_mod (ev_name 5 rfl) (ev_name 1 rfl) b0) rfl ⟨?_, ?_⟩)
    · rw [nextP, if_pos h]
    · rw [drawP, if_pos h]
  · have h : ¬ (10 : Int) ^ 18 ≤ cellP st := of_decide_eq_false h
    have n0 : 0 ≤ numP st := Int.emod_nonneg _ (by decide)
    have n1 : numP st < 2147483647 := Int.emod_lt_of_pos _ (by decide)
    have q0 : 0 ≤ num2P st := Int.emod_nonneg _ (by decide)
    have q1 : num2P st < 2147483629 := Int.emod_lt_of_pos _ (by decide)
    refine ws_seq (w_set 6 (EV.cast (y' := numP st) (ev_mod (ev_add (ev_add (ev_mulG (ev_name 5 rfl) ev_int (.of_right (by decide))) (ev_mulG (ev_mulG (ev_name 3 rfl) (ev_name 3 rfl) (small_mul t0 (by omega))) ev_int (.of_right (by decide)))) ev_int) ev_int (by decide)) rfl) ?_)
    refine ws_seq (w_set 6 (EV.cast (y' := num2P st) (ev_mod (ev_mulG (ev_name 6 rfl) (ev_name 6 rfl) (small_mul n0 (by omega))) ev_int (by decide)) rfl) ?_)
    refine ws_one (w_retU 0 (B := kPu) (ev_mod (ev_mod (ev_mulG (ev_name 6 rfl) (ev_name 6 rfl) (small_mul q0 (by omega))) ev_int (by decide)) (ev_name 1 rfl) b0) rfl ⟨?_, ?_⟩)
    · rw [nextP, if_neg h]
    · rw [drawP, if_neg h]
theorem drawOk {n : Int} {s : Pu} (h : PSt n s) (hn : n < 1000000) {b : Int} (b0 : 0 < b) (b1 : b < 1000000000000000000) : ∃ y st, 0 ≤ y ∧ y < b ∧ PSt (n + 1) st ∧ ∀ K, SDR K s [⟨rInt, b⟩] (fun s' => rtP K rInt fun z => s' = st ∧ z = y) := by
  have hbc := h.bits _ (cellP_mem h)
  have t0 := h.t0; have t1 := h.t1; have ne := h.ne; have le := h.le
  refine ⟨drawP s b, nextP s b, ?_, ?_, ?_, fun K => ⟨b, h.mono (by omega), rfl, b0, b1, rfl⟩⟩
  · unfold drawP; split <;> exact Int.emod_nonneg _ (by omega)
  · unfold drawP; split <;> exact Int.emod_lt_of_pos _ b0
  · unfold nextP
    split
    · refine ⟨by rw [List.length_set]; exact ne, by rw [List.length_set]; exact le, fun c hc => ?_, by show 0 ≤ s.2 + 1; omega, by show s.2 + 1 ≤ n + 1; omega⟩
      rcases List.mem_or_eq_of_mem_set hc with z | rfl
      · exact h.bits c z
      · exact bits_ediv b0 hbc
    · exact ⟨ne, le, h.bits, by show 0 ≤ s.2 + 1; omega, by show s.2 + 1 ≤ n + 1; omega⟩
abbrev sPU : Stmt := top at__law_purse
abbrev nPU : List Str := ["_law_script", "_law_cells"]
theorem scPU : FnScope nPU ["_law_script"] (defScope sPU) := ⟨rfl, rfl, rfl, by decide +kernel, rfl, by decide +kernel, by decide +kernel⟩
def SPU : SpD := fun K ps T => ∃ ns : List Int, ps = [⟨rScr, ns⟩] ∧ ns.length ≤ 63 ∧ (∀ n ∈ ns, intBits n ≤ 2 ^ 20) ∧ T = rtPu (PSt 0)
theorem cut_sub {α : Type} (xs : List α) (l h : Option Int) : ∀ x ∈ cut xs l h, x ∈ xs := by
  intro x hx
  unfold cut at hx
  first | exact List.mem_of_mem_drop (List.mem_of_mem_take hx) | exact List.mem_of_mem_take (List.mem_of_mem_drop hx) | (simp at hx; exact hx)
theorem ok_PU (F : Fun K "_law_purse" "_law_purse" sPU f fd) (hm : mg "_law_purse" = some (.ref f)) (hb : Binds K fd ["_law_script"] []) : Cal P w K mg base "_law_purse" 1 (spG SPU K) := by
  have nd := scPU.nd
  refine fn_ok F scPU hm hb (fun qs T ⟨_, e, _⟩ => by rw [e]; rfl) (fun cdv A outer s H E qs T hr hS => ?_)
  obtain ⟨ns, rfl, hl, hbits, rfl⟩ := hS
  have hu : (A.deeper (envOfC "_law_purse" (defScope sPU) s.heap.objs.size f cdv)).units + 1 < cLine := Nat.lt_of_le_of_lt (Nat.add_le_add_left (by decide : 1 ≤ 64) _) hr.units
  change WS _ _ [.im rScr ns, .no] _ _
  refine ws_seq (w_setL 1 (evl_sliceS (ev_name 0 rfl) ov_none (ov_some ev_int)) ?_)
  have cl : (cut ns none (some 63)).length ≤ 63 := Nat.le_trans (cut_length _ _ _) hl
  have cb : ∀ n ∈ cut ns none (some 63), intBits n ≤ 2 ^ 20 := fun n hn => hbits n (cut_sub ns none (some 63) n hn)
  generalize cut ns none (some 63) = cs at cl cb
  have fin : ∀ xs : List Int, 1 ≤ xs.length → xs.length ≤ 63 → (∀ n ∈ xs, intBits n ≤ 2 ^ 20) → WS (cxOf CX0 P w K mg base nPU "_law_purse" (defScope sPU) f cdv A outer s H E).nox ((defBody sPU).drop 2) [.im rScr ns, .mu rInt xs] (fun _ => False) (rtPu (PSt 0)) := by
    intro xs h1 h2 h3
    refine WS.box 1 rfl fun b => ?_
    exact ws_one (w_retPu 1 (evl_lst (ea_cons (ev_bareB 1 rfl) (ea_cons (EV.bareI ev_int) ea_nil)) (by show 2 ≤ sizeLine; decide)) rfl ⟨h1, h2, h3, Int.le_refl _, Int.le_refl _⟩)
  refine ws_seq (w_if (TV.frz (frzLst (i := 1) rfl (small_le (by omega))) (tv_cmp (c_eqL (r := rInt) eq_int hu) (ev_name 1 rfl) (EVL.im (evl_lst ea_nil (by decide))))) (fun h => ?_) (fun h => ws_end ?_))
  · refine ws_one (w_setL 1 (r := rInt) (evl_lst (ea_cons ev_int ea_nil) (by show 1 ≤ sizeLine; decide)) ?_)
    exact fin [0] (by simp) (by simp) (by intro n hn; rw [List.mem_singleton.mp hn]; decide)
  · have h : cs ≠ [] := of_decide_eq_false h
    exact fin cs (by cases cs with
      | nil => exact absurd rfl h
      | cons => simp) cl cb
end
end K1

set_option Elab.async false
set_option linter.all false
set_option maxRecDepth 100000
set_option maxHeartbeats 4000000
namespace Fc
open PySem PySem.Spec L2
open PyProof.Rows hiding St
theorem paired_insAt {α β : Type} {F : α → β → Prop} {v : α} {y : β} {vs : List α} {xs : List β} (k : Nat) (h : F v y) (p : PySem.Paired F vs xs) : PySem.Paired F (insAt k v vs) (insAt k y xs) := by
  unfold insAt
  exact paired_append (paired_take k p) (.cons h (paired_drop k p))
def isI (k : Int) : Value → Bool
  | .int n _ => decide (n = k)
  | _ => false
section
variable {X : Cx} {Γ Γ1 Γ2 Γ3 : Ga} {α β γ δ : Type} {N : Ga → Prop} {T : RT}
theorem w_ins (i : Nat) {x : Str} {e1 e2 : Expr} {p1 ap cp pos : Pos} {r : Rep α} {xs : List α} {y : α} {k : Int} (h1 : EV X e1 Γ rInt k Γ1) (h2 : EV X e2 Γ1 r y Γ2) (hΓ : Γ[i]? = some (.mu r xs)) (hΓ2 : Γ2[i]? = some (.mu r xs))
    (k0 : 0 ≤ k) (k1 : k ≤ (xs.length : Int)) (hz : xs.length < sizeLine) (h : N (Γ2.set i (.mu r (insAt k.toNat y xs))))
    (hN : X.N[i]? = some x := by rfl) (hv : Vis X.env.scope x := by first | exact Or.inl rfl | exact Or.inr (Or.inl rfl) | exact Or.inr (Or.inr rfl))
    (hd : (x == ("__debug__" : Str)) = false := by decide) (hcd : (x == ("__classdict__" : Str)) = false := by decide)
    (hsw : swapsWith (.Call (.Attribute (.Name x p1) "insert" ap) [e1, e2] [] cp) none pos.line X.env = pure false := by rfl)
    (hbase : attributeBase (.Name x p1) "insert" X.env (eval (.Name x p1) X.env) = eval (.Name x p1) X.env := by rfl)
    (hfew : ((backTo cp (starEach [e1, e2] X.env)).all (fun x => !x.1) && (backToKw cp (keywordEach [] X.env)).all (fun x => x.1.isSome)
      && decide ([e1, e2].length + ([] : List Keyword).length + (if ([] : List Keyword).isEmpty then 0 else 1) < 30)) = true := by rfl)
    (hline : (ap.endLine == cp.line) = true := by rfl) (hs : starEach [e1, e2] X.env = (false, eval e1 X.env) :: starEach [e2] X.env := by rfl) (hs2 : starEach [e2] X.env = (false, eval e2 X.env) :: starEach [] X.env := by rfl) (hpl : (backTo cp (starEach [e2] X.env)).any (·.1) = false := by rfl) :
    W1 X (.Expr (.Call (.Attribute (.Name x p1) "insert" ap) [e1, e2] [] cp) pos) Γ N T := fun σ H0 R0 H R E D dn dr => by
  obtain ⟨a, vs, ea, ha, hR, pp⟩ := E.ent i _ hΓ
  refine sS (ps_expr (pe_bm PySem.F.plainAttrs_list PySem.F.slot_list_insert PySem.F.type_list_insert mt_insert (pe_var hN hv hd hcd) (pa_cons peS (pa_cons peS pa_nil hs2) hs) hbase hfew hline hs hpl) hsw) ?_
  refine ⟨.ref a, at_of ea, .inl ⟨rfl, _, SqL.of ha⟩, h1 σ H0 R0 H R E _ fun v1 H1 R1 E1 s1 q1 => h2 σ H0 R0 H1 R1 E1 _ fun v2 H2 R2 E2 s2 q2 => ?_⟩
  cases q1
  obtain ⟨a', vs', ea', ha', hR', pp'⟩ := E2.ent i _ hΓ2
  rw [ea] at ea'; cases ea'
  refine ⟨a, vs', k, v2, rfl, rfl, ha', k0, by rw [pp'.length]; exact k1, by rw [pp'.length]; exact hz, ?_⟩
  exact dn σ _ R2 _ (E2.upd (en := .mu r (insAt k.toNat y xs)) hΓ2 rfl ea hR' ⟨a, _, rfl, upd_same, hR', paired_insAt _ q2 pp'⟩) (s1.trans s2) h
def rIndex : V → List V → Hp → VK → Prop := fun x vs H Q => ∃ (l : Addr) (ns : List Int) (k : Int) (j : Nat), x = .ref l ∧ vs = [.int k] ∧ H l = some (.lst (ns.map V.int)) ∧ ns[j]? = some k ∧ (∀ m, m < j → ns[m]? ≠ some k) ∧ Q (.int (j : Nat)) H
theorem mt_index (hu : X.A.units + 1 < cLine) : MtR X "list.index" rIndex := by
  intro pins s σ H x vs v us Q I rx rv h
  obtain ⟨l, ns, k, j, rfl, rfl, hH, hj, hno, q⟩ := h
  cases rx
  obtain ⟨u, rfl, t, rfl⟩ := rv.one
  obtain ⟨hz, its, m, r1, hl, ho⟩ := I.lstM hH
  have jl : j < ns.length := (List.getElem?_eq_some_iff.mp hj).1
  have hl2 : its.length = ns.length := by rw [← hl, List.length_map]
  have at_ : ∀ (n : Nat) (h1 : n < its.length) (h2 : n < ns.length), ∃ t', its[n] = .int ns[n] t' := fun n h1 h2 => by
    obtain ⟨u, e1, t', e2⟩ := r1.get (show (ns.map V.int)[n]? = some (.int ns[n]) by rw [List.getElem?_map, List.getElem?_eq_getElem h2]; rfl)
    rw [List.getElem?_eq_getElem h1] at e1
    exact ⟨t', (Option.some.inj e1).trans e2⟩
  refine call_meets PySem.F.slot_list_index ⟨_, ho, rfl⟩ PySem.F.entry_list_index (PySem.F.args_list_index_2 _ _)
    (SeqAt.list_indexAt l its.toArray m _ _ (.int k t) (isI k) j (by simpa [hl2] using jl) ?_ ?_ ?_) ⟨ho, fun w hw => ?_, ?_⟩
  · have : sizeLine < 2 ^ 63 - 1 := by decide
    rw [List.length_map] at hz
    omega
  · obtain ⟨t', e⟩ := at_ j (by omega) jl
    show isI k its[j] = true
    rw [e]
    rw [List.getElem?_eq_getElem jl] at hj
    exact decide_eq_true (Option.some.inj hj)
  · intro n hn hnj
    obtain ⟨t', e⟩ := at_ n (by simpa using hn) (by omega)
    show isI k its[n] = false
    rw [e]
    refine decide_eq_false fun z => hno n hnj ?_
    rw [List.getElem?_eq_getElem (by omega), z]
  · have hw : w ∈ its := by simpa using hw
    obtain ⟨n, hn, rfl⟩ := List.mem_iff_getElem.mp hw
    obtain ⟨t', e⟩ := at_ n hn (by omega)
    rw [e]
    intro prog w E Q hq
    refine wpAny_eqBool_int ?_
    rw [Bool.beq_eq_decide_eq]; exact hq
  · exact ⟨.int _, H, I.tok _, ⟨_, rfl⟩, q⟩
theorem ev_index (i : Nat) {x : Str} {e : Expr} {p1 ap cp : Pos} {ns : List Int} {k : Int} {j : Nat} (hu : X.A.units + 1 < cLine) (he : EV X e Γ rInt k Γ1) (hΓ : Γ[i]? = some (.mu rInt ns)) (hΓ1 : Γ1[i]? = some (.mu rInt ns)) (hj : ns[j]? = some k) (hno : ∀ m, m < j → ns[m]? ≠ some k)
    (hN : X.N[i]? = some x := by rfl) (hv : Vis X.env.scope x := by first | exact Or.inl rfl | exact Or.inr (Or.inl rfl) | exact Or.inr (Or.inr rfl))
    (hd : (x == ("__debug__" : Str)) = false := by decide) (hcd : (x == ("__classdict__" : Str)) = false := by decide)
    (hbase : attributeBase (.Name x p1) "index" X.env (eval (.Name x p1) X.env) = eval (.Name x p1) X.env := by rfl)
    (hfew : ((backTo cp (starEach [e] X.env)).all (fun x => !x.1) && (backToKw cp (keywordEach [] X.env)).all (fun x => x.1.isSome)
      && decide ([e].length + ([] : List Keyword).length + (if ([] : List Keyword).isEmpty then 0 else 1) < 30)) = true := by rfl)
    (hline : (ap.endLine == cp.line) = true := by rfl) (hs : starEach [e] X.env = (false, eval e X.env) :: starEach [] X.env := by rfl) : EV X (.Call (.Attribute (.Name x p1) "index" ap) [e] [] cp) Γ rInt (j : Nat) Γ1 := fun σ H0 R0 H R E Q q => by
  obtain ⟨a, vs, ea, ha, hR, pp⟩ := E.ent i _ hΓ
  refine eS (pe_bm PySem.F.plainAttrs_list PySem.F.slot_list_index PySem.F.type_list_index (mt_index hu) (pe_var hN hv hd hcd) (pa_cons peS pa_nil hs) hbase hfew hline hs rfl) ?_
  refine ⟨.ref a, at_of ea, .inl ⟨rfl, vs, SqL.of ha⟩, he σ H0 R0 H R E _ fun v H1 R1 E1 s1 e1 => ?_⟩
  obtain ⟨a', vs', ea', ha', hR', pp'⟩ := E1.ent i _ hΓ1
  rw [ea] at ea'; cases ea'
  cases e1
  exact ⟨a, ns, k, j, rfl, rfl, by rw [ha', ints_of pp'], hj, hno, q _ _ _ E1 s1 rfl⟩
def rRemove : V → List V → Hp → VK → Prop := fun x vs H Q => ∃ (l : Addr) (ns : List Int) (k : Int) (j : Nat), x = .ref l ∧ vs = [.int k] ∧ H l = some (.lst (ns.map V.int)) ∧ ns[j]? = some k ∧ (∀ m, m < j → ns[m]? ≠ some k) ∧ Q .non (upd H l (.lst ((ns.eraseIdx j).map V.int)))
theorem mt_remove : MtM X "list.remove" rRemove := by
  intro pins s σ H x vs v us Q I rx rv h
  obtain ⟨l, ns, k, j, rfl, rfl, hH, hj, hno, q⟩ := h
  cases rx
  obtain ⟨u, rfl, t, rfl⟩ := rv.one
  obtain ⟨hz, its, m, r1, hl, ho⟩ := I.lstM hH
  have jl : j < ns.length := (List.getElem?_eq_some_iff.mp hj).1
  have hl2 : its.length = ns.length := by rw [← hl, List.length_map]
  have at_ : ∀ (n : Nat) (h1 : n < its.length) (h2 : n < ns.length), ∃ t', its[n] = .int ns[n] t' := fun n h1 h2 => by
    obtain ⟨u, e1, t', e2⟩ := r1.get (show (ns.map V.int)[n]? = some (.int ns[n]) by rw [List.getElem?_map, List.getElem?_eq_getElem h2]; rfl)
    rw [List.getElem?_eq_getElem h1] at e1
    exact ⟨t', (Option.some.inj e1).trans e2⟩
  refine call_meets PySem.F.slot_list_remove ⟨_, ho, rfl⟩ PySem.F.entry_list_remove (PySem.F.args_list_remove_2 _ _)
    (MeetsSeq.list_remove l its.toArray m (.int k t) (isI k) (fun w hw => ?_) j (by simpa [hl2] using jl) ?_ ?_ (by rw [List.size_toArray, hl2, ← List.length_map (f := V.int)]; exact hz)) ⟨ho, ?_⟩
  · have hw : w ∈ its := by simpa using hw
    obtain ⟨n, hn, rfl⟩ := List.mem_iff_getElem.mp hw
    obtain ⟨t', e⟩ := at_ n hn (by omega)
    rw [e]
    intro prog w A E s Q hq
    refine wpAny_eqBool_int ?_
    rw [Bool.beq_eq_decide_eq]; exact hq
  · obtain ⟨t', e⟩ := at_ j (by omega) jl
    show isI k its[j] = true
    rw [e]
    rw [List.getElem?_eq_getElem jl] at hj
    exact decide_eq_true (Option.some.inj hj)
  · intro n hn hnj
    obtain ⟨t', e⟩ := at_ n (by simpa using hn) (by omega)
    show isI k its[n] = false
    rw [e]
    refine decide_eq_false fun z => hno n hnj ?_
    rw [List.getElem?_eq_getElem (by omega), z]
  · refine ⟨.non, _, I.lset (its' := its.eraseIdx j) hH ho ?_ ?_ ?_, rfl, q⟩
    · rw [List.eraseIdxIfInBounds_toArray]
    · have key : ∀ (ns : List Int) (ws : List Value) (j : Nat), Vals (ns.map V.int) ws → Vals ((ns.eraseIdx j).map V.int) (ws.eraseIdx j) := by
        intro ns
        induction ns with
        | nil => intro ws j h; cases h; exact .nil
        | cons a ns ih =>
          intro ws j h
          cases h with
          | cons h1 t =>
            cases j with
            | zero => exact t
            | succ j => exact .cons h1 (ih _ j t)
      exact key ns its j r1
    · rw [List.length_map]
      rw [List.length_map] at hz
      exact Nat.le_trans (List.length_eraseIdx_le ns j) hz
theorem w_remove (i : Nat) {x : Str} {e : Expr} {p1 ap cp pos : Pos} {ns : List Int} {k : Int} {j : Nat} (he : EV X e Γ rInt k Γ1) (hΓ : Γ[i]? = some (.mu rInt ns)) (hΓ1 : Γ1[i]? = some (.mu rInt ns)) (hj : ns[j]? = some k) (hno : ∀ m, m < j → ns[m]? ≠ some k) (h : N (Γ1.set i (.mu rInt (ns.eraseIdx j))))
    (hN : X.N[i]? = some x := by rfl) (hv : Vis X.env.scope x := by first | exact Or.inl rfl | exact Or.inr (Or.inl rfl) | exact Or.inr (Or.inr rfl))
    (hd : (x == ("__debug__" : Str)) = false := by decide) (hcd : (x == ("__classdict__" : Str)) = false := by decide)
    (hsw : swapsWith (.Call (.Attribute (.Name x p1) "remove" ap) [e] [] cp) none pos.line X.env = pure false := by rfl)
    (hbase : attributeBase (.Name x p1) "remove" X.env (eval (.Name x p1) X.env) = eval (.Name x p1) X.env := by rfl)
    (hfew : ((backTo cp (starEach [e] X.env)).all (fun x => !x.1) && (backToKw cp (keywordEach [] X.env)).all (fun x => x.1.isSome)
      && decide ([e].length + ([] : List Keyword).length + (if ([] : List Keyword).isEmpty then 0 else 1) < 30)) = true := by rfl)
    (hline : (ap.endLine == cp.line) = true := by rfl) (hs : starEach [e] X.env = (false, eval e X.env) :: starEach [] X.env := by rfl) : W1 X (.Expr (.Call (.Attribute (.Name x p1) "remove" ap) [e] [] cp) pos) Γ N T := fun σ H0 R0 H R E D dn dr => by
  obtain ⟨a, vs, ea, ha, hR, pp⟩ := E.ent i _ hΓ
  refine sS (ps_expr (pe_bm PySem.F.plainAttrs_list PySem.F.slot_list_remove PySem.F.type_list_remove mt_remove (pe_var hN hv hd hcd) (pa_cons peS pa_nil hs) hbase hfew hline hs rfl) hsw) ?_
  refine ⟨.ref a, at_of ea, .inl ⟨rfl, vs, SqL.of ha⟩, he σ H0 R0 H R E _ fun v H1 R1 E1 s1 e1 => ?_⟩
  obtain ⟨a', vs', ea', ha', hR', pp'⟩ := E1.ent i _ hΓ1
  rw [ea] at ea'; cases ea'
  cases e1
  refine ⟨a, ns, k, j, rfl, rfl, by rw [ha', ints_of pp'], hj, hno, ?_⟩
  exact dn σ _ R1 _ (E1.upd (en := .mu rInt (ns.eraseIdx j)) hΓ1 rfl ea hR' ⟨a, _, rfl, upd_same, hR', paired_ints _⟩) s1 h
theorem EV.two {e : Expr} {r : Rep α} {x y : α} (h : EV X e Γ (rList r) [x, y] Γ1) : EV X e Γ (rTwo r) (x, y) Γ1 := EV.rep h fun _ _ q => q
end
end Fc

set_option Elab.async false
set_option linter.all false
set_option maxRecDepth 100000
set_option maxHeartbeats 4000000
namespace Fc
open PySem PySem.Spec L2
open PyProof.Rows hiding St
section
variable {X : Cx} {Γ Γ1 Γ2 Γ3 : Ga} {α β γ δ : Type} {N : Ga → Prop} {T : RT}
theorem tw_andT {a b : Expr} {rest : List Expr} {pos : Pos} {y : Bool} (ha : TV X a Γ true Γ1) (hb : TW X (.BoolOp .And (b :: rest) pos) Γ1 y Γ2) : TW X (.BoolOp .And (a :: b :: rest) pos) Γ y Γ2 := fun σ H0 R0 H R E Q q =>
  wS (pw_and ptS pwS) (ha σ H0 R0 H R E _ fun H1 R1 E1 s1 => ite_tt (hb σ H0 R0 H1 R1 E1 Q fun H2 R2 E2 s2 => q H2 R2 E2 (s1.trans s2)))
theorem tw_and1G {a : Expr} {pos : Pos} {x : Bool} (ha : TV X a Γ x Γ1) : TW X (.BoolOp .And [a] pos) Γ x Γ1 := fun σ H0 R0 H R E Q q => wS (pw_and1 ptS) (ha σ H0 R0 H R E Q q)
end
end Fc
namespace K1
open PySem L2 Fc
open PySem.Spec hiding Row
open PyProof.Rows hiding St
open PySem.Builtin.Int (intBits)
def swp (t : Int × Int) : Int × Int := (t.2, t.1)
theorem swp_mem {es : List (Int × Int)} {a b : Int} : (a, b) ∈ es.map swp ↔ (b, a) ∈ es := by
  rw [List.mem_map]
  constructor
  · rintro ⟨⟨x, y⟩, h, e⟩
    simp only [swp, Prod.mk.injEq] at e
    rw [← e.1, ← e.2]; exact h
  · intro h; exact ⟨(b, a), h, rfl⟩
structure MGood (many : Int) (ties : List (Int × Int)) : Prop where
  m2 : 2 ≤ many
  bd : ∀ t ∈ ties, 0 ≤ t.1 ∧ t.1 < many ∧ t.1 ≠ 1 ∧ 0 ≤ t.2 ∧ t.2 < many
  fw : ∀ k, 0 ≤ k → k < many → Reach ties 0 k
  bw : ∀ k, 0 ≤ k → k < many → Reach (ties.map swp) 1 k
theorem Reach.mono {es es' : List (Int × Int)} {s : Int} (h : ∀ t ∈ es, t ∈ es') {k : Int} (r : Reach es s k) : Reach es' s k := Reach.sub .base (fun _ _ ha hab => .step ha (h _ hab)) r
theorem MGood.more {n : Int} {ties : List (Int × Int)} (h : MGood n ties) {a b : Int} (a0 : 0 ≤ a) (a1 : a < n) (an : a ≠ 1) (b0 : 0 ≤ b) (b1 : b < n) : MGood n (ties ++ [(a, b)]) := by
  refine ⟨h.m2, fun t ht => ?_, fun k k0 k1 => Reach.mono (fun t ht => List.mem_append_left _ ht) (h.fw k k0 k1), fun k k0 k1 => Reach.mono (fun t ht => ?_) (h.bw k k0 k1)⟩
  · rcases List.mem_append.mp ht with z | z
    · exact h.bd t z
    · rw [List.mem_singleton.mp z]; exact ⟨a0, a1, an, b0, b1⟩
  · rw [List.map_append]; exact List.mem_append_left _ ht
theorem MGood.split {n : Int} {ties : List (Int × Int)} (h : MGood n ties) {i : Nat} {a b : Int} (hi : ties[i]? = some (a, b)) : MGood (n + 1) (ties.set i (a, n) ++ [(n, b)]) := by
  have il := (List.getElem?_eq_some_iff.mp hi).1
  have hm := h.m2
  have hab := h.bd _ (List.mem_of_getElem? hi)
  have e1 : (a, n) ∈ ties.set i (a, n) ++ [(n, b)] := List.mem_append_left _ (List.mem_iff_getElem?.mpr ⟨i, List.getElem?_set_self il⟩)
  have e2 : (n, b) ∈ ties.set i (a, n) ++ [(n, b)] := List.mem_append_right _ (by simp)
  have keep : ∀ t ∈ ties, t = (a, b) ∨ t ∈ ties.set i (a, n) ++ [(n, b)] := fun t ht => by
    obtain ⟨j, hj⟩ := List.mem_iff_getElem?.mp ht
    by_cases e : i = j
    · subst e; rw [hi] at hj; cases hj; exact .inl rfl
    · exact .inr (List.mem_append_left _ (List.mem_iff_getElem?.mpr ⟨j, by rw [List.getElem?_set_ne e]; exact hj⟩))
  have fw : ∀ {k : Int}, Reach ties 0 k → Reach (ties.set i (a, n) ++ [(n, b)]) 0 k := fun r => Reach.sub .base (fun x y hx hxy => by
    rcases keep _ hxy with z | z
    · cases z; exact .step (.step hx e1) e2
    · exact .step hx z) r
  have bw : ∀ {k : Int}, Reach (ties.map swp) 1 k → Reach ((ties.set i (a, n) ++ [(n, b)]).map swp) 1 k := fun r => Reach.sub .base (fun x y hx hxy => by
    rcases keep _ (swp_mem.mp hxy) with z | z
    · cases z; exact .step (.step hx (swp_mem.mpr e2)) (swp_mem.mpr e1)
    · exact .step hx (swp_mem.mpr z)) r
  refine ⟨by omega, fun t ht => ?_, fun k k0 k1 => ?_, fun k k0 k1 => ?_⟩
  · rcases List.mem_append.mp ht with z | z
    · rcases List.mem_or_eq_of_mem_set z with z | z
      · have := h.bd t z; omega
      · rw [z]; exact ⟨hab.1, by show a < n + 1; omega, hab.2.2.1, by show 0 ≤ n; omega, by show n < n + 1; omega⟩
    · rw [List.mem_singleton.mp z]; exact ⟨by show 0 ≤ n; omega, by show n < n + 1; omega, by show n ≠ 1; omega, hab.2.2.2.1, by show b < n + 1; omega⟩
  · by_cases e : k = n
    · rw [e]; exact .step (fw (h.fw a hab.1 hab.2.1)) e1
    · exact fw (h.fw k k0 (by omega))
  · by_cases e : k = n
    · rw [e]; exact .step (bw (h.bw b hab.2.2.2.1 hab.2.2.2.2)) (swp_mem.mpr e2)
    · exact bw (h.bw k k0 (by omega))
theorem MGood.ren {n : Int} {ties : List (Int × Int)} (h : MGood n ties) {g : Int → Int} (gb : ∀ k, 0 ≤ k → k < n → 0 ≤ g k ∧ g k < n) (gs : ∀ k, 0 ≤ k → k < n → ∃ j, 0 ≤ j ∧ j < n ∧ g j = k) (g0 : g 0 = 0) (g1 : g 1 = 1) (gi : ∀ k, 0 ≤ k → k < n → g k = 1 → k = 1) : MGood n (ties.map fun (t : Int × Int) => (g t.1, g t.2)) := by
  have fw : ∀ {k : Int}, Reach ties 0 k → Reach (ties.map fun (t : Int × Int) => (g t.1, g t.2)) 0 (g k) := fun r => by
    refine Reach.sub (P := fun k => Reach (ties.map fun (t : Int × Int) => (g t.1, g t.2)) 0 (g k)) (by rw [g0]; exact .base) (fun x y hx hxy => .step hx (List.mem_map.mpr ⟨_, hxy, rfl⟩)) r
  have bw : ∀ {k : Int}, Reach (ties.map swp) 1 k → Reach ((ties.map fun (t : Int × Int) => (g t.1, g t.2)).map swp) 1 (g k) := fun r => by
    refine Reach.sub (P := fun k => Reach ((ties.map fun (t : Int × Int) => (g t.1, g t.2)).map swp) 1 (g k)) (by rw [g1]; exact .base) (fun x y hx hxy => .step hx (swp_mem.mpr (List.mem_map.mpr ⟨_, swp_mem.mp hxy, rfl⟩))) r
  refine ⟨h.m2, fun t ht => ?_, fun k k0 k1 => ?_, fun k k0 k1 => ?_⟩
  · obtain ⟨u, hu, rfl⟩ := List.mem_map.mp ht
    have b := h.bd u hu
    have b1 := gb u.1 b.1 b.2.1
    have b2 := gb u.2 b.2.2.2.1 b.2.2.2.2
    exact ⟨b1.1, b1.2, fun e => b.2.2.1 (gi u.1 b.1 b.2.1 e), b2.1, b2.2⟩
  · obtain ⟨j, j0, j1, rfl⟩ := gs k k0 k1
    exact fw (h.fw j j0 j1)
  · obtain ⟨j, j0, j1, rfl⟩ := gs k k0 k1
    exact bw (h.bw j j0 j1)
structure Perm0 (n : Nat) (xs : List Int) : Prop where
  len : xs.length = n
  nd : xs.Nodup
  mem : ∀ k, k ∈ xs ↔ 0 ≤ k ∧ k < (n : Int)
theorem insAt_perm {α : Type} {k : Nat} {y : α} {xs : List α} : (insAt k y xs).Perm (y :: xs) := by
  unfold insAt
  have := List.perm_middle (a := y) (l₁ := xs.take k) (l₂ := xs.drop k)
  rwa [List.take_append_drop] at this
theorem Perm0.ins {n : Nat} {xs : List Int} (h : Perm0 n xs) (k : Nat) : Perm0 (n + 1) (insAt k (n : Int) xs) := by
  have p := insAt_perm (k := k) (y := (n : Int)) (xs := xs)
  refine ⟨by rw [p.length_eq, List.length_cons, h.len], p.nodup_iff.mpr (List.nodup_cons.mpr ⟨fun z => by have := (h.mem _).mp z; omega, h.nd⟩), fun j => ?_⟩
  rw [p.mem_iff, List.mem_cons, h.mem]
  omega
section
variable {P : Program} {w : World} {K : PySem.W.Frag} {mg : Str → Option Value} {base : Heap} {f : Addr} {fd : FuncData}
abbrev sOR : Stmt := top at__law_order
abbrev nOR : List Str := ["_law_purse_here", "_law_many_here", "_law_found", "_law_k"]
theorem scOR : FnScope nOR ["_law_purse_here", "_law_many_here"] (defScope sOR) := ⟨rfl, rfl, rfl, by decide +kernel, rfl, by decide +kernel, by decide +kernel⟩
def orderF (s : Pu) : Nat → Pu × List Int
  | 0 => (s, [])
  | k + 1 => (nextP (orderF s k).1 ((k : Int) + 1), insAt (drawP (orderF s k).1 ((k : Int) + 1)).toNat (k : Int) (orderF s k).2)
theorem orderF_ok {n : Int} {s : Pu} (h : PSt n s) : ∀ m : Nat, n + m ≤ 200000 → PSt (n + m) (orderF s m).1 ∧ Perm0 m (orderF s m).2
  | 0, _ => ⟨h.mono (by omega), rfl, List.nodup_nil, fun k => by simp [orderF] <;> omega⟩
  | k + 1, hk => by
    have hn0 : 0 ≤ n := Int.le_trans h.t0 h.t1
    obtain ⟨h1, h2⟩ := orderF_ok h k (by omega)
    refine ⟨?_, h2.ins _⟩
    obtain ⟨y, st, _, _, h3, h4⟩ := drawOk h1 (by omega) (b := (k : Int) + 1) (by omega) (by omega)
    have hbc := h1.bits _ (cellP_mem h1)
    show PSt _ (nextP (orderF s k).1 ((k : Int) + 1))
    have t0 := h1.t0; have t1 := h1.t1; have ne := h1.ne; have le := h1.le
    unfold nextP
    split
    · refine ⟨by rw [List.length_set]; exact ne, by rw [List.length_set]; exact le, fun c hc => ?_, by show 0 ≤ (orderF s k).1.2 + 1; omega, by show (orderF s k).1.2 + 1 ≤ _; omega⟩
      rcases List.mem_or_eq_of_mem_set hc with z | rfl
      · exact h1.bits c z
      · exact bits_ediv (by omega) hbc
    · exact ⟨ne, le, h1.bits, by show 0 ≤ (orderF s k).1.2 + 1; omega, by show (orderF s k).1.2 + 1 ≤ _; omega⟩
def SOR : SpU Pu := fun K s ps T => ∃ (n : Int) (m : Nat), PSt n s ∧ 0 ≤ n ∧ n ≤ 100000 ∧ ps = [⟨rInt, (m : Int)⟩] ∧ m ≤ 100 ∧ T = fun s' => rtP K (rList rInt) fun xs => s' = (orderF s m).1 ∧ xs = (orderF s m).2
theorem orderOk {n : Int} {s : Pu} (h : PSt n s) (n0 : 0 ≤ n) (hn : n ≤ 100000) {m : Nat} (hm : m ≤ 100) : ∃ xs st, PSt (n + m) st ∧ Perm0 m xs ∧ ∀ K, SOR K s [⟨rInt, (m : Int)⟩] (fun s' => rtP K (rList rInt) fun z => s' = st ∧ z = xs) := by
  obtain ⟨h1, h2⟩ := orderF_ok h m (by omega)
  exact ⟨_, _, h1, h2, fun K => ⟨n, m, h, n0, hn, rfl, hm, rfl⟩⟩
theorem ok_OR (M : Mods mg) (CD : Cal P w K mg base "_law_draw" 1 (spU kPu SDR K)) (F : Fun K "_law_order" "_law_order" sOR f fd) (hm : mg "_law_order" = some (.ref f)) (hb : Binds K fd ["_law_purse_here", "_law_many_here"] []) : Cal P w K mg base "_law_order" 2 (spU kPu SOR K) := by
  have nd := scOR.nd
  refine fnU_ok F scOR hm hb (fun xs qs T ⟨_, _, _, _, _, e, _⟩ => by rw [e]; rfl) (fun cdv A outer s H E a b st qs T hr hS => ?_)
  obtain ⟨n, m, hP, n0, n1, rfl, hm, rfl⟩ := hS
  change WS _ _ [.ob (kPu.bx a b st), .im rInt (m : Int), .no, .no] _ _
  refine ws_seq (w_setL 2 (r := rInt) (evl_lst ea_nil (by decide)) ?_)
  refine ws_seq (w_forI (r := rInt) (fun i Γ => ∃ v3, Γ = [.ob (kPu.bx a b (orderF st i).1), .im rInt (m : Int), .mu rInt (orderF st i).2, v3])
    (iv_range1 M.range (ev_name 1 rfl) ⟨by omega, by omega⟩) (bg_name 3) ⟨_, rfl⟩ ?_ ?_)
  · rintro i x Γ hx ⟨v3, rfl⟩
    obtain ⟨hi, rfl⟩ := ups_at hx
    obtain ⟨hP1, hX⟩ := orderF_ok hP i (by omega)
    have hl := hX.len
    have e0 : (0 : Int) + (i : Int) = (i : Int) := by omega
    have hb1 : 0 ≤ drawP (orderF st i).1 ((i : Int) + 1) ∧ drawP (orderF st i).1 ((i : Int) + 1) < (i : Int) + 1 := by
      unfold drawP; split <;> exact ⟨Int.emod_nonneg _ (by omega), Int.emod_lt_of_pos _ (by omega)⟩
    refine ws_one (w_ins 2 (k := drawP (orderF st i).1 ((i : Int) + 1)) (ev_callU 0 (st := nextP (orderF st i).1 ((i : Int) + 1)) CD hr (ha_cons (EV.cast (y' := (i : Int) + 1) (ev_add (ev_name 3 rfl) ev_int) (by omega)) ha_nil) rfl rfl ⟨_, hP1.mono (by omega), rfl, by omega, by omega, rfl⟩) (EV.cast (y' := (i : Int)) (ev_name 3 rfl) e0) rfl rfl hb1.1 (by omega) (Nat.lt_of_le_of_lt (show (orderF st i).2.length ≤ 1000 by omega) (by decide)) ?_)
    exact ⟨_, rfl⟩
  · rintro Γ ⟨v3, rfl⟩
    rw [ups_length]
    obtain ⟨hP1, hX⟩ := orderF_ok hP m (by omega)
    have hl := hX.len
    rw [show ((m : Int)).toNat = m by omega]
    exact ws_one (w_retU 0 (B := kPu) (ev_own 2 rfl (small_le (by omega))) rfl ⟨rfl, rfl⟩)
end
end K1

set_option Elab.async false
set_option linter.all false
set_option maxRecDepth 100000
set_option maxHeartbeats 4000000
namespace K1
open PySem L2 Fc
open PySem.Spec hiding Row
open PyProof.Rows hiding St
open PySem.Builtin.Int (intBits)
theorem insAt_lo {α : Type} {k i : Nat} {y : α} {xs : List α} (h : i < k) (hk : k ≤ xs.length) : (insAt k y xs)[i]? = xs[i]? := by
  unfold insAt
  rw [List.getElem?_append_left (by rw [List.length_take]; omega), List.getElem?_take_of_lt h]
theorem insAt_at {α : Type} {k : Nat} {y : α} {xs : List α} (hk : k ≤ xs.length) : (insAt k y xs)[k]? = some y := by
  unfold insAt
  rw [List.getElem?_append_right (by rw [List.length_take]; omega), List.length_take, Nat.min_eq_left hk, Nat.sub_self]; rfl
theorem insAt_hi {α : Type} {k i : Nat} {y : α} {xs : List α} (h : k ≤ i) (hk : k ≤ xs.length) : (insAt k y xs)[i + 1]? = xs[i]? := by
  unfold insAt
  rw [List.getElem?_append_right (by rw [List.length_take]; omega), List.length_take, Nat.min_eq_left hk, show i + 1 - k = (i - k) + 1 by omega, List.getElem?_cons_succ, List.getElem?_drop]
  congr 1; omega
structure POk (loose : Bool) (od : List Int) (rows : List (Int × Int)) : Prop where
  pm : Perm0 od.length od
  l2 : 2 ≤ od.length
  first : od[0]? = some 0
  last : od[od.length - 1]? = some 1
  good : MGood od.length rows
  up : loose = true → ∀ t ∈ rows, ∃ (i j : Nat), od[i]? = some t.1 ∧ od[j]? = some t.2 ∧ i < j
theorem POk.base (loose : Bool) : POk loose [0, 1] [(0, 1)] := by
  refine ⟨⟨rfl, by decide, fun k => by simp; omega⟩, by decide, rfl, rfl, ⟨by decide, fun t ht => ?_, fun k k0 k1 => ?_, fun k k0 k1 => ?_⟩, fun _ t ht => ?_⟩
  · rw [List.mem_singleton.mp ht]; decide
  · have k1 : k < 2 := k1
    rcases (show k = 0 ∨ k = 1 by omega) with rfl | rfl
    · exact .base
    · exact .step .base (by simp)
  · have k1 : k < 2 := k1
    rcases (show k = 0 ∨ k = 1 by omega) with rfl | rfl
    · exact .step (a := 1) .base (by simp [swp])
    · exact .base
  · rw [List.mem_singleton.mp ht]; exact ⟨0, 1, rfl, rfl, by decide⟩
theorem POk.ne1 {loose : Bool} {od : List Int} {rows : List (Int × Int)} (h : POk loose od rows) {i : Nat} {x : Int} (hi : od[i]? = some x) (hl : i + 1 < od.length) : x ≠ 1 := fun e => by
  subst e
  have a := (List.getElem?_eq_some_iff.mp hi)
  have b := (List.getElem?_eq_some_iff.mp h.last)
  have := (List.getElem_inj (h₀ := a.1) (h₁ := b.1) h.pm.nd).mp (a.2.trans b.2.symm)
  omega
theorem POk.bd {loose : Bool} {od : List Int} {rows : List (Int × Int)} (h : POk loose od rows) {i : Nat} {x : Int} (hi : od[i]? = some x) : 0 ≤ x ∧ x < (od.length : Int) := (h.pm.mem x).mp (List.mem_of_getElem? hi)
theorem POk.more {loose : Bool} {od : List Int} {rows : List (Int × Int)} (h : POk loose od rows) {i j : Nat} {x y : Int} (hi : od[i]? = some x) (hj : od[j]? = some y) (hl : i + 1 < od.length) (hij : loose = true → i < j) : POk loose od (rows ++ [(x, y)]) := by
  have bx := h.bd hi
  have by_ := h.bd hj
  refine ⟨h.pm, h.l2, h.first, h.last, h.good.more bx.1 bx.2 (h.ne1 hi hl) by_.1 by_.2, fun e t ht => ?_⟩
  rcases List.mem_append.mp ht with z | z
  · exact h.up e t z
  · rw [List.mem_singleton.mp z]; exact ⟨i, j, hi, hj, hij e⟩
theorem POk.split {loose : Bool} {od : List Int} {rows : List (Int × Int)} (h : POk loose od rows) {r q : Nat} {x y : Int} (hr : rows[r]? = some (x, y)) (q0 : 1 ≤ q) (q1 : q + 1 ≤ od.length) (hq : loose = true → ∃ (i j : Nat), od[i]? = some x ∧ od[j]? = some y ∧ i < q ∧ q ≤ j) :
    POk loose (insAt q (od.length : Int) od) (rows.set r (x, (od.length : Int)) ++ [((od.length : Int), y)]) := by
  have ln : (insAt q (od.length : Int) od).length = od.length + 1 := by rw [insAt_perm.length_eq]; rfl
  have l2 := h.l2
  have sh : ∀ {i : Nat} {z : Int}, od[i]? = some z → (insAt q (od.length : Int) od)[if i < q then i else i + 1]? = some z := fun {i z} hi => by
    split
    · rename_i hl; rw [insAt_lo hl (by omega)]; exact hi
    · rename_i hl; rw [insAt_hi (by omega) (by omega)]; exact hi
  refine ⟨by rw [ln]; exact h.pm.ins q, by omega, by rw [insAt_lo (by omega) (by omega)]; exact h.first, ?_, by rw [ln]; exact h.good.split hr, fun e t ht => ?_⟩
  · rw [ln, show od.length + 1 - 1 = (od.length - 1) + 1 by omega, insAt_hi (by omega) (by omega)]; exact h.last
  · obtain ⟨i, j, hi, hj, iq, qj⟩ := hq e
    rcases List.mem_append.mp ht with z | z
    · rcases List.mem_or_eq_of_mem_set z with z | z
      · obtain ⟨i', j', a, b, c⟩ := h.up e t z
        exact ⟨_, _, sh a, sh b, by split <;> split <;> omega⟩
      · rw [z]; exact ⟨_, q, sh hi, insAt_at (by omega), by rw [if_pos iq]; exact iq⟩
    · rw [List.mem_singleton.mp z]
      exact ⟨q, _, insAt_at (by omega), sh hj, by rw [if_neg (by omega)]; omega⟩
structure PartOk (loose : Bool) (m : Nat) (size : Int) (ties : List (Int × Int)) : Prop where
  good : MGood size ties
  le : size ≤ 16
  len : ties.length = m + 1
  up : loose = true → ∃ rk : Int → Int, ∀ t ∈ ties, rk t.1 < rk t.2
def nmF (names : List Int) (k : Int) : Int := names.getD k.toNat 0
theorem POk.fin {loose : Bool} {od : List Int} {rows : List (Int × Int)} (h : POk loose od rows) {xs : List Int} (hx : Perm0 (od.length - 2) xs) (h16 : od.length ≤ 16) {m : Nat} (hm : rows.length = m + 1) : PartOk loose m od.length (rows.map fun (t : Int × Int) => (nmF ([0, 1] ++ xs.map (2 + ·)) t.1, nmF ([0, 1] ++ xs.map (2 + ·)) t.2)) := by
  have l2 := h.l2
  have hl := hx.len
  have n0 : nmF ([0, 1] ++ xs.map (2 + ·)) 0 = 0 := rfl
  have n1 : nmF ([0, 1] ++ xs.map (2 + ·)) 1 = 1 := rfl
  have n2 : ∀ k : Nat, k < xs.length → nmF ([0, 1] ++ xs.map (2 + ·)) ((k : Int) + 2) = 2 + xs.getD k 0 := fun k hk => by
    unfold nmF
    rw [show ((k : Int) + 2).toNat = k + 2 by omega]
    show ((xs.map (2 + ·)).getD k 0) = _
    rw [List.getD_eq_getElem?_getD, List.getD_eq_getElem?_getD, List.getElem?_map, List.getElem?_eq_getElem hk]; rfl
  have xb : ∀ k : Nat, k < xs.length → 0 ≤ xs.getD k 0 ∧ xs.getD k 0 < ((od.length - 2 : Nat) : Int) := fun k hk => (hx.mem _).mp (by rw [List.getD_eq_getElem?_getD, List.getElem?_eq_getElem hk]; exact List.getElem_mem _)
  have cs : ∀ k : Int, 0 ≤ k → k < (od.length : Int) → k = 0 ∨ k = 1 ∨ ∃ j : Nat, j < xs.length ∧ k = (j : Int) + 2 := fun k k0 k1 => by
    rcases (show k = 0 ∨ k = 1 ∨ 2 ≤ k by omega) with z | z | z
    · exact .inl z
    · exact .inr (.inl z)
    · exact .inr (.inr ⟨(k - 2).toNat, by omega, by omega⟩)
  have inj : ∀ k j : Int, 0 ≤ k → k < (od.length : Int) → 0 ≤ j → j < (od.length : Int) → nmF ([0, 1] ++ xs.map (2 + ·)) k = nmF ([0, 1] ++ xs.map (2 + ·)) j → k = j := by
    intro k j k0 k1 j0 j1 e
    rcases cs k k0 k1 with rfl | rfl | ⟨a, ha, rfl⟩ <;> rcases cs j j0 j1 with rfl | rfl | ⟨b, hb, rfl⟩ <;> simp only [n0, n1] at e <;> try rfl
    · exact absurd e (by decide)
    · rw [n2 b hb] at e; have := xb b hb; omega
    · exact absurd e (by decide)
    · rw [n2 b hb] at e; have := xb b hb; omega
    · rw [n2 a ha] at e; have := xb a ha; omega
    · rw [n2 a ha] at e; have := xb a ha; omega
    · rw [n2 a ha, n2 b hb] at e
      have e : xs.getD a 0 = xs.getD b 0 := by omega
      rw [List.getD_eq_getElem?_getD, List.getD_eq_getElem?_getD, List.getElem?_eq_getElem ha, List.getElem?_eq_getElem hb] at e
      have := (List.getElem_inj (h₀ := ha) (h₁ := hb) hx.nd).mp e
      omega
  refine ⟨h.good.ren (fun k k0 k1 => ?_) (fun k k0 k1 => ?_) n0 n1 (fun k k0 k1 e => inj k 1 k0 k1 (by omega) (by omega) (by rw [e, n1])), by omega, by rw [List.length_map]; exact hm, fun e => ?_⟩
  · rcases cs k k0 k1 with rfl | rfl | ⟨a, ha, rfl⟩
    · rw [n0]; omega
    · rw [n1]; omega
    · rw [n2 a ha]; have := xb a ha; omega
  · rcases cs k k0 k1 with rfl | rfl | ⟨a, ha, rfl⟩
    · exact ⟨0, by omega, by omega, n0⟩
    · exact ⟨1, by omega, by omega, n1⟩
    · have : (a : Int) ∈ xs := (hx.mem _).mpr (by omega)
      obtain ⟨j, hj, e⟩ := List.mem_iff_getElem.mp this
      refine ⟨(j : Int) + 2, by omega, by omega, ?_⟩
      rw [n2 j hj, List.getD_eq_getElem?_getD, List.getElem?_eq_getElem hj]
      show 2 + xs[j] = _
      omega
  · classical
    -- the rank of a name: where the place stands in the order
    let g := nmF ([0, 1] ++ xs.map (2 + ·))
    refine ⟨fun z => if hz : ∃ k : Int, 0 ≤ k ∧ k < (od.length : Int) ∧ g k = z then ((od.idxOf hz.choose : Nat) : Int) else 0, fun t ht => ?_⟩
    obtain ⟨u, hu, rfl⟩ := List.mem_map.mp ht
    have b := h.good.bd u hu
    obtain ⟨i, j, hi, hj, hij⟩ := h.up e u hu
    have rk : ∀ k : Int, 0 ≤ k → k < (od.length : Int) → ∀ n : Nat, od[n]? = some k → (if hz : ∃ k' : Int, 0 ≤ k' ∧ k' < (od.length : Int) ∧ g k' = g k then ((od.idxOf hz.choose : Nat) : Int) else 0) = n := by
      intro k k0 k1 n hn
      have hz : ∃ k' : Int, 0 ≤ k' ∧ k' < (od.length : Int) ∧ g k' = g k := ⟨k, k0, k1, rfl⟩
      rw [dif_pos hz]
      have hc := hz.choose_spec
      have : hz.choose = k := inj _ _ hc.1 hc.2.1 k0 k1 hc.2.2
      rw [this]
      have nl := (List.getElem?_eq_some_iff.mp hn)
      have := List.Nodup.idxOf_getElem h.pm.nd n nl.1
      rw [nl.2] at this
      rw [this]
    show (if hz : _ then _ else _) < (if hz : _ then _ else _)
    rw [rk u.1 b.1 b.2.1 i hi, rk u.2 b.2.2.2.1 b.2.2.2.2 j hj]
    omega
end K1

set_option Elab.async false
set_option linter.all false
set_option maxRecDepth 100000
set_option maxHeartbeats 4000000
namespace K1
open PySem L2 Fc
open PySem.Spec hiding Row
open PyProof.Rows hiding St
open PySem.Builtin.Int (intBits)
section
variable {P : Program} {w : World} {K : PySem.W.Frag} {mg : Str → Option Value} {base : Heap} {f : Addr} {fd : FuncData}
abbrev sPT : Stmt := top at__law_part
abbrev nPT : List Str := ["_law_purse_here", "_law_many_here", "_law_loose", "_law_order_here", "_law_rows", "_law_k", "_law_size", "_law_at", "_law_one", "_law_other", "_law_low", "_law_names"]
theorem scPT : FnScope nPT ["_law_purse_here", "_law_many_here", "_law_loose"] (defScope sPT) := ⟨rfl, rfl, rfl, by decide +kernel, rfl, by decide +kernel, by decide +kernel⟩
def SPT : SpU Pu := fun K s ps T => ∃ (n : Int) (m : Nat) (loose : Bool), PSt n s ∧ n ≤ 10000 ∧ ps = [⟨rInt, (m : Int)⟩, ⟨rBool, loose⟩] ∧ m ≤ 30 ∧ T = fun s' => rtP K (rPair rInt (rList (rTwo rInt))) fun z => PSt (n + 200) s' ∧ PartOk loose m z.1 z.2
theorem ok_PT (M : Mods mg) (CD : Cal P w K mg base "_law_draw" 1 (spU kPu SDR K)) (CO : Cal P w K mg base "_law_order" 2 (spU kPu SOR K)) (F : Fun K "_law_part" "_law_part" sPT f fd) (hm : mg "_law_part" = some (.ref f)) (hb : Binds K fd ["_law_purse_here", "_law_many_here", "_law_loose"] []) : Cal P w K mg base "_law_part" 3 (spU kPu SPT K) := by
  have nd := scPT.nd
  have nd1 : List.Nodup [("_law_place" : Str)] := by decide
  have nd2 : List.Nodup [("_law_one" : Str), "_law_other", "_law_names"] := by decide
  have CD := CD.mono (show 1 ≤ 2 by decide)
  refine fnU_ok F scPT hm hb (fun xs qs T ⟨_, _, _, _, _, e, _⟩ => by rw [e]; rfl) (fun cdv A outer s H E a b st qs T hr hS => ?_)
  obtain ⟨n, m, loose, hP, n1, rfl, hm, rfl⟩ := hS
  have hu : (A.deeper (envOfC "_law_part" (defScope sPT) s.heap.objs.size f cdv)).units + 1 < cLine := Nat.lt_of_le_of_lt (Nat.add_le_add_left (by decide : 1 ≤ 64) _) hr.units
  have n0 : 0 ≤ n := Int.le_trans hP.t0 hP.t1
  change WS _ _ [.ob (kPu.bx a b st), .im rInt (m : Int), .im rBool loose, .no, .no, .no, .no, .no, .no, .no, .no, .no] _ _
  refine ws_seq (w_setL 3 (r := rInt) (evl_lst (ea_cons ev_int (ea_cons ev_int ea_nil)) (by show 2 ≤ sizeLine; decide)) ?_)
  refine ws_seq (w_setL 4 (r := rTwo rInt) (evl_lst (ea_cons (EV.two (EVL.im (evl_lst (ea_cons ev_int (ea_cons ev_int ea_nil)) (by show 2 ≤ sizeLine; decide)))) ea_nil) (by show 1 ≤ sizeLine; decide)) ?_)
  refine ws_seq (w_forI (r := rInt) (fun i Γ => ∃ st od rows v5 v6 v7 v8 v9 v10, Γ = [.ob (kPu.bx a b st), .im rInt (m : Int), .im rBool loose, .mu rInt od, .mu (rTwo rInt) rows, v5, v6, v7, v8, v9, v10, .no] ∧ PSt (n + 4 * i) st ∧ POk loose od rows ∧ rows.length = i + 1 ∧ od.length ≤ 16)
    (iv_range1 M.range (ev_name 1 rfl) ⟨by omega, by omega⟩) (bg_name 5) ⟨st, [0, 1], [(0, 1)], _, _, _, _, _, _, rfl, hP.mono (by omega), POk.base loose, rfl, by decide⟩ ?_ ?_)
  · rintro i x Γ hx ⟨st, od, rows, v5, v6, v7, v8, v9, v10, rfl, hP, hO, hlen, h16⟩
    obtain ⟨hi, rfl⟩ := ups_at hx
    have l2 := hO.l2
    have zz : ∀ {k : Nat}, k ≤ 1000 → k < sizeLine := fun h => Nat.lt_of_le_of_lt h (by decide)
    refine ws_seq (w_set 6 (ev_lenM 3 M.len rfl) ?_)
    have more : ∀ (st1 : Pu), PSt (n + 4 * i + 1) st1 → WS (cxOf CX0 P w K mg base nPT "_law_part" (defScope sPT) f cdv A outer s H E).nox
        (match (defBody sPT).getD 2 (.Pass ⟨0, 0, 0, 0⟩) with | .For _ _ body _ _ => (match body.getD 1 (.Pass ⟨0, 0, 0, 0⟩) with | .If _ _ els _ => els | _ => []) | _ => [])
        [.ob (kPu.bx a b st1), .im rInt (m : Int), .im rBool loose, .mu rInt od, .mu (rTwo rInt) rows, .im rInt (0 + (i : Int)), .im rInt (od.length : Int), v7, v8, v9, v10, .no]
        (fun Γ => ∃ st od rows v5 v6 v7 v8 v9 v10, Γ = [.ob (kPu.bx a b st), .im rInt (m : Int), .im rBool loose, .mu rInt od, .mu (rTwo rInt) rows, v5, v6, v7, v8, v9, v10, .no] ∧ PSt (n + 4 * ((i + 1 : Nat) : Int)) st ∧ POk loose od rows ∧ rows.length = i + 1 + 1 ∧ od.length ≤ 16)
        (rtU K kPu a b fun s' => rtP K (rPair rInt (rList (rTwo rInt))) fun z => PSt (n + 200) s' ∧ PartOk loose m z.1 z.2) := by
      intro st1 hP1
      have gt : ∀ {k : Int}, 0 ≤ k → k < (od.length : Int) → ∃ y, od[k.toNat]? = some y := fun k0 k1 => ⟨_, List.getElem?_eq_getElem (by omega)⟩
      refine ws_one (w_if (tv_bool (ev_name 2 rfl)) (fun hl => ?_) (fun hl => ?_))
      · obtain ⟨c, st2, c0, c1, hP2, hS2⟩ := drawOk hP1 (by omega) (b := (od.length : Int) - 1) (by omega) (by omega)
        refine ws_seq (w_set 10 (ev_callU 0 CD hr (ha_cons (ev_sub (ev_name 6 rfl) ev_int) ha_nil) rfl rfl (hS2 _)) ?_)
        obtain ⟨d, st3, d0, d1, hP3, hS3⟩ := drawOk hP2 (by omega) (b := (od.length : Int) - 1 - c) (by omega) (by omega)
        obtain ⟨y1, h1⟩ := gt c0 (by omega)
        obtain ⟨y2, h2⟩ := gt (k := c + 1 + d) (by omega) (by omega)
        refine ws_one (w_append 4 (EV.two (EVL.im (evl_lst (ea_cons (ev_ixM 3 (y := y1) (ev_name 10 rfl) rfl rfl (by rw [atI_of c0 (by omega)]; exact h1)) (ea_cons (ev_ixM 3 (y := y2) (ev_add (ev_add (ev_name 10 rfl) ev_int) (ev_callU 0 CD hr (ha_cons (ev_sub (ev_sub (ev_name 6 rfl) ev_int) (ev_name 10 rfl)) ha_nil) rfl rfl (hS3 _))) rfl rfl (by rw [atI_of (by omega) (by omega)]; exact h2)) ea_nil)) (by show 2 ≤ sizeLine; decide)))) rfl rfl (zz (by omega)) ?_)
        exact ⟨st3, _, _, _, _, _, _, _, _, rfl, hP3.mono (by omega), hO.more h1 h2 (by omega) (fun _ => by omega), by rw [List.length_append]; simp; omega, h16⟩
      · obtain ⟨c, st2, c0, c1, hP2, hS2⟩ := drawOk hP1 (by omega) (b := (od.length : Int) - 1) (by omega) (by omega)
        obtain ⟨d, st3, d0, d1, hP3, hS3⟩ := drawOk hP2 (by omega) (b := (od.length : Int)) (by omega) (by omega)
        obtain ⟨y1, h1⟩ := gt c0 (by omega)
        obtain ⟨y2, h2⟩ := gt d0 d1
        refine ws_one (w_append 4 (EV.two (EVL.im (evl_lst (ea_cons (ev_ixM 3 (y := y1) (ev_callU 0 CD hr (ha_cons (ev_sub (ev_name 6 rfl) ev_int) ha_nil) rfl rfl (hS2 _)) rfl rfl (by rw [atI_of c0 (by omega)]; exact h1)) (ea_cons (ev_ixM 3 (y := y2) (ev_callU 0 CD hr (ha_cons (ev_name 6 rfl) ha_nil) rfl rfl (hS3 _)) rfl rfl (by rw [atI_of d0 (by omega)]; exact h2)) ea_nil)) (by show 2 ≤ sizeLine; decide)))) rfl rfl (zz (by omega)) ?_)
        exact ⟨st3, _, _, _, _, _, _, _, _, rfl, hP3.mono (by omega), hO.more h1 h2 (by omega) (fun e => by rw [hl] at e; cases e), by rw [List.length_append]; simp; omega, h16⟩
    by_cases hsz : od.length < 16
    · obtain ⟨c, st1, c0, c1, hP1, hS1⟩ := drawOk hP (by omega) (b := 2) (by decide) (by decide)
      refine ws_one (w_if (TW.tv (tw_andT (TV.cast (tv_cmp c_lt (ev_name 6 rfl) ev_int) (decide_eq_true (by omega))) (tw_and1G (tv_cmp c_eq (ev_callU 0 CD hr (ha_cons ev_int ha_nil) rfl rfl (hS1 _)) ev_int)))) (fun h => ?_) (fun h => more st1 hP1))
      obtain ⟨k, st2, k0, k1, hP2, hS2⟩ := drawOk hP1 (by omega) (b := (rows.length : Int)) (by omega) (by omega)
      refine ws_seq (w_set 7 (ev_callU 0 CD hr (ha_cons (ev_lenM 4 M.len rfl) ha_nil) rfl rfl (hS2 _)) ?_)
      obtain ⟨t, ht⟩ : ∃ t, rows[k.toNat]? = some t := ⟨_, List.getElem?_eq_getElem (by omega)⟩
      have at1 : atI rows k = some t := by rw [atI_of k0 (by omega), ht]
      refine ws_seq (w_asg (ev_ixM 4 (ev_name 7 rfl) rfl rfl at1) (bg_lst2 8 9) ?_)
      -- what comes of either
      have fin : ∀ (st3 : Pu) (q : Nat) v10', PSt (n + 4 * i + 3) st3 → 1 ≤ q → q + 1 ≤ od.length → (loose = true → ∃ (i j : Nat), od[i]? = some t.1 ∧ od[j]? = some t.2 ∧ i < q ∧ q ≤ j) → WS (cxOf CX0 P w K mg base nPT "_law_part" (defScope sPT) f cdv A outer s H E).nox
          (match (defBody sPT).getD 2 (.Pass ⟨0, 0, 0, 0⟩) with | .For _ _ body _ _ => (match body.getD 1 (.Pass ⟨0, 0, 0, 0⟩) with | .If _ yes _ _ => yes.drop 3 | _ => []) | _ => [])
          [.ob (kPu.bx a b st3), .im rInt (m : Int), .im rBool loose, .mu rInt (insAt q (od.length : Int) od), .mu (rTwo rInt) rows, .im rInt (0 + (i : Int)), .im rInt (od.length : Int), .im rInt k, .im rInt t.1, .im rInt t.2, v10', .no]
          (fun Γ => ∃ st od rows v5 v6 v7 v8 v9 v10, Γ = [.ob (kPu.bx a b st), .im rInt (m : Int), .im rBool loose, .mu rInt od, .mu (rTwo rInt) rows, v5, v6, v7, v8, v9, v10, .no] ∧ PSt (n + 4 * ((i + 1 : Nat) : Int)) st ∧ POk loose od rows ∧ rows.length = i + 1 + 1 ∧ od.length ≤ 16)
          (rtU K kPu a b fun s' => rtP K (rPair rInt (rList (rTwo rInt))) fun z => PSt (n + 200) s' ∧ PartOk loose m z.1 z.2) := by
        intro st3 q v10' hP3 q0 q1 hq
        refine ws_seq (w_setix 4 (j := k.toNat) (y := (t.1, (od.length : Int))) (EV.two (EVL.im (evl_lst (ea_cons (ev_name 8 rfl) (ea_cons (ev_name 6 rfl) ea_nil)) (by show 2 ≤ sizeLine; decide)))) (ev_name 7 rfl) rfl rfl (ixN_of k0 (by omega)) ?_)
        refine ws_one (w_append 4 (y := ((od.length : Int), t.2)) (EV.two (EVL.im (evl_lst (ea_cons (ev_name 6 rfl) (ea_cons (ev_name 9 rfl) ea_nil)) (by show 2 ≤ sizeLine; decide)))) rfl rfl (zz (by rw [List.length_set]; omega)) ?_)
        exact ⟨st3, _, _, _, _, _, _, _, _, rfl, hP3.mono (by omega), hO.split (show rows[k.toNat]? = some (t.1, t.2) from ht) q0 q1 hq, by rw [List.length_append, List.length_set]; simp; omega, by rw [insAt_perm.length_eq]; simp; omega⟩
      refine ws_seq (w_if (tv_bool (ev_name 2 rfl)) (fun hl => ?_) (fun hl => ?_))
      · obtain ⟨i1, j1, a1, a2, a3⟩ := hO.up hl t (List.mem_of_getElem? ht)
        have no : ∀ {i1 : Nat} {z : Int}, od[i1]? = some z → ∀ m', m' < i1 → od[m']? ≠ some z := fun {i1 z} hz m' hm' e => by
          have q1 := List.getElem?_eq_some_iff.mp hz
          have q2 := List.getElem?_eq_some_iff.mp e
          have := (List.getElem_inj (h₀ := q2.1) (h₁ := q1.1) hO.pm.nd).mp (q2.2.trans q1.2.symm)
          omega
        have jl := (List.getElem?_eq_some_iff.mp a2).1
        refine ws_seq (w_set 10 (ev_index 3 hu (ev_name 8 rfl) rfl rfl a1 (no a1)) ?_)
        obtain ⟨d, st3, d0, d1, hP3, hS3⟩ := drawOk hP2 (by omega) (b := (j1 : Int) - (i1 : Int)) (by omega) (by omega)
        refine ws_one (w_ins 3 (k := (i1 : Int) + 1 + d) (ev_add (ev_add (ev_name 10 rfl) ev_int) (ev_callU 0 CD hr (ha_cons (ev_sub (ev_index 3 hu (ev_name 9 rfl) rfl rfl a2 (no a2)) (ev_name 10 rfl)) ha_nil) rfl rfl (hS3 _))) (ev_name 6 rfl) rfl rfl (by omega) (by omega) (zz (by omega)) ?_)
        exact fin st3 _ _ (hP3.mono (by omega)) (by omega) (by omega) (fun _ => ⟨i1, j1, a1, a2, by omega, by omega⟩)
      · obtain ⟨d, st3, d0, d1, hP3, hS3⟩ := drawOk hP2 (by omega) (b := (od.length : Int) - 1) (by omega) (by omega)
        refine ws_one (w_ins 3 (k := 1 + d) (ev_add ev_int (ev_callU 0 CD hr (ha_cons (ev_sub (ev_name 6 rfl) ev_int) ha_nil) rfl rfl (hS3 _))) (ev_name 6 rfl) rfl rfl (by omega) (by omega) (zz (by omega)) ?_)
        exact fin st3 _ _ (hP3.mono (by omega)) (by omega) (by omega) (fun e => by rw [hl] at e; cases e)
    · refine ws_one (w_if (TW.tv (tw_and (y := false) (tv_cmp c_lt (ev_name 6 rfl) ev_int) (fun h => absurd (of_decide_eq_true h) (by omega)))) (fun h => by simp at h) (fun h => more st (hP.mono (by omega))))
  · rintro Γ ⟨st, od, rows, v5, v6, v7, v8, v9, v10, rfl, hP, hO, hlen, h16⟩
    rw [ups_length, show ((m : Int)).toNat = m by omega] at hP hlen
    have l2 := hO.l2
    obtain ⟨xs, st1, hP1, hX, hS⟩ := orderOk hP (by omega) (by omega) (m := od.length - 2) (by omega)
    have xl := hX.len
    have ec : ((od.length - 2 : Nat) : Int) = (od.length : Int) - 2 := by omega
    have hid : ((xs.filter fun _ => true).map fun k => 2 + k) = xs.map (2 + ·) := by rw [List.filter_eq_self.mpr (by simp)]
    refine ws_seq (w_set 11 (EV.cast (y' := [0, 1] ++ xs.map (2 + ·)) (EVL.im (evl_cat (EVL.im (evl_lst (ea_cons ev_int (ea_cons ev_int ea_nil)) (by show 2 ≤ sizeLine; decide))) (EVL.im (evl_comp (own := ["_law_place"]) (fr := []) (ix := []) (ra := rInt) (rb := rInt) (p := fun _ => true) (f := fun k => 2 + k) (comp_mk (so := defScope sPT) (N0 := nPT) rfl rfl (fun x h => cell_has h) (by decide +kernel)) (iv_list (ev_callU 0 CO hr (ha_cons (EV.cast (ev_sub (ev_lenM 3 M.len rfl) ev_int) ec.symm) ha_nil) rfl rfl (hS _)))
      (fun C s H ex => bg_name 0) (fun x => ⟨.inr rfl, trivial⟩) (fun C s H ex x hx => tf_nil) (fun C s H ex x hx _ => ev_add ev_int (ev_name 0 rfl)))) (small_le (by rw [List.length_map, List.filter_eq_self.mpr (by simp)]; show 2 + _ ≤ _; omega)))) (by rw [hid])) ?_)
    have hnl : (([0, 1] ++ xs.map (2 + ·)).length : Int) = od.length := by rw [List.length_append, List.length_map]; show ((2 + xs.length : Nat) : Int) = _; omega
    have hfin := hO.fin hX h16 hlen
    have hid2 : ((rows.filter fun _ => true).map fun (t : Int × Int) => (nmF ([0, 1] ++ xs.map (2 + ·)) t.1, nmF ([0, 1] ++ xs.map (2 + ·)) t.2)) = rows.map fun (t : Int × Int) => (nmF ([0, 1] ++ xs.map (2 + ·)) t.1, nmF ([0, 1] ++ xs.map (2 + ·)) t.2) := by rw [List.filter_eq_self.mpr (by simp)]
    have hbd := hO.good.bd
    generalize [0, 1] ++ xs.map (2 + ·) = names at hnl hfin hid2
    refine ws_one (w_retU 0 (B := kPu) (y := ((od.length : Int), rows.map fun (t : Int × Int) => (nmF names t.1, nmF names t.2))) (ev_pair (ha_cons (ev_lenM 3 M.len rfl) (ha_cons (EV.cast (EVL.im (evl_comp (own := ["_law_one", "_law_other"]) (fr := ["_law_names"]) (ix := [11]) (ra := rTwo rInt) (rb := rTwo rInt) (p := fun _ => true) (f := fun (t : Int × Int) => (nmF names t.1, nmF names t.2)) (comp_mk (so := defScope sPT) (N0 := nPT) rfl rfl (fun x h => cell_has h) (by decide +kernel)) (iv_list (ev_own 4 rfl (small_le (by omega))))
      (fun C s H ex => bg_lst2 0 1) (fun x => ⟨.inr rfl, .inr rfl, .inl rfl, trivial⟩) (fun C s H ex x hx => tf_nil) (fun C s H ex x hx _ => EV.two (EVL.im (evl_lst (ea_cons (ev_ixL (ev_name 2 rfl) (ev_name 0 rfl) (atI_getD (hbd x hx).1 (by rw [hnl]; exact (hbd x hx).2.1))) (ea_cons (ev_ixL (ev_name 2 rfl) (ev_name 1 rfl) (atI_getD (hbd x hx).2.2.2.1 (by rw [hnl]; exact (hbd x hx).2.2.2.2))) ea_nil)) (by show 2 ≤ sizeLine; decide)))))) hid2) ha_nil))) rfl ⟨hP1.mono (by omega), hfin⟩)
end
end K1

set_option Elab.async false
set_option linter.all false
set_option maxRecDepth 100000
set_option maxHeartbeats 4000000
namespace Fc
open PySem PySem.Spec L2
open PyProof.Rows hiding St
def FlatE : Ent → Prop
  | .no => True
  | .im _ _ => True
  | _ => False
def FlatL : Ga → Prop
  | [] => True
  | e :: r => FlatE e ∧ FlatL r
theorem FlatL.fp : ∀ {Γ : Ga}, FlatL Γ → ∀ (i : Nat) (e : Ent), Γ[i]? = some e → ∀ o, e.fp o = []
  | e :: _, ⟨h, _⟩, 0, _, q, o => by
    cases q
    cases e with
    | no => rfl
    | im _ _ => rfl
    | mu _ _ => exact h.elim
    | di _ => exact h.elim
    | ob _ => exact h.elim
  | _ :: r, ⟨_, h⟩, i + 1, e, q, o => FlatL.fp h i e (by simpa using q) o
  | [], _, i, e, q, o => by simp at q
theorem EnvOk.rebase {K : PySem.W.Frag} {σ : St} {H0 R0 H R : Hp} {Γ : Ga} (E : EnvOk K σ H0 R0 H R Γ) (fl : FlatL Γ) : EnvOk K σ H R H R Γ :=
  ⟨⟨Same.refl _, Same.refl _, E.sub, fun _ _ => rfl⟩, E.ent, (fun i e a q w => by rw [fl.fp i e q] at w; cases w), (fun i j e e' a q q' w w' => by rw [fl.fp i e q] at w; cases w), E.len⟩
def rowI (r : Row) : List Int := [r.1, r.2.1, r.2.2.1, r.2.2.2]
section
variable {X : Cx} {Γ Γ1 Γ2 Γ3 : Ga} {α β γ δ : Type} {N : Ga → Prop} {T : RT}
theorem RowsAt.locS {H H' : Hp} {as : List Addr} {rs : List Row} (h : RowsAt H as rs) (s : Same H H') : RowsAt H' as rs := ⟨h.1, fun i b r h1 h2 => s _ _ (h.2 i b r h1 h2)⟩
theorem RowsAt.snoc {H : Hp} {as : List Addr} {rs : List Row} (h : RowsAt H as rs) {b : Addr} {r : Row} (hb : H b = some (.lst (rowL r))) : RowsAt H (as ++ [b]) (rs ++ [r]) := by
  refine ⟨by rw [List.length_append, List.length_append, h.1]; rfl, fun i c q h1 h2 => ?_⟩
  rcases Nat.lt_or_ge i as.length with hl | hl
  · rw [List.getElem?_append_left hl] at h1
    rw [List.getElem?_append_left (by rw [← h.1]; exact hl)] at h2
    exact h.2 i c q h1 h2
  · rw [List.getElem?_append_right hl] at h1
    rw [List.getElem?_append_right (by rw [← h.1]; exact hl)] at h2
    have e : i - as.length = 0 := by
      have := (List.getElem?_eq_some_iff.mp h1).1
      simp at this; omega
    rw [e] at h1
    rw [← h.1, e] at h2
    simp at h1 h2
    rw [← h1, ← h2]; exact hb
theorem RowsAt.app {H : Hp} {as : List Addr} {rs : List Row} (h : RowsAt H as rs) : ∀ {bs : List Addr} {qs : List Row}, RowsAt H bs qs → RowsAt H (as ++ bs) (rs ++ qs) := by
  intro bs qs g
  refine ⟨by rw [List.length_append, List.length_append, h.1, g.1], fun i c q h1 h2 => ?_⟩
  rcases Nat.lt_or_ge i as.length with hl | hl
  · rw [List.getElem?_append_left hl] at h1
    rw [List.getElem?_append_left (by rw [← h.1]; exact hl)] at h2
    exact h.2 i c q h1 h2
  · rw [List.getElem?_append_right hl] at h1
    rw [List.getElem?_append_right (by rw [← h.1]; exact hl), ← h.1] at h2
    exact g.2 _ c q h1 h2
theorem comp_readN {tg elt : Expr} {scope : Scope} {cl : List (Str × Addr)} {own fr : List Str} {ix : List Nat} {ra : Rep α} {xs : List α} {f : α → Row} {bf : α → Ga → Ga} {J : It} {σ : St} {H0 R0 H1 R1 : Hp} {Q : VK} (E1 : EnvOk X.K σ H0 R0 H1 R1 Γ1) (src : Src X.K J R1 ra xs) (hz : xs.length ≤ sizeLine)
    (hb : ∀ (C : Addr) (s : Shared) (H : Hp) (ex : List Addr), BG (cxComp X scope cl C (own ++ fr) s H ex) tg ra bf) (hw : ∀ x, Wk (bf x (cGa own ix Γ1)) (cGa own ix Γ1)) (hfl : ∀ x, FlatL (bf x (cGa own ix Γ1)))
    (he : ∀ (C : Addr) (s : Shared) (H : Hp) (ex : List Addr) x, x ∈ xs → EVL (cxComp X scope cl C (own ++ fr) s H ex) elt (bf x (cGa own ix Γ1)) rInt (rowI (f x)) (bf x (cGa own ix Γ1)))
    (q : ∀ a bs H' R', Ext H1 R1 H' R' → H' a = none → RowsAt H' bs (xs.map f) → bs.Nodup → (∀ b ∈ bs, H1 b = none ∧ R' b = none) → Q (.ref a) (upd H' a (.lst (bs.map .ref)))) :
    ∃ W : Nat → Nat → List V → St → Hp → Prop, (∃ m, W 0 m [] (zComp own ix σ) H1) ∧ ∀ i m ys σ' H', W i m ys σ' H' →
      ys.length ≤ sizeLine ∧ ((J.stop i H' ∧ ∀ p, H' p = none → Q (.ref p) (upd H' p (.lst ys))) ∨
      (J.go i H' ∧ ∀ x H2, J.yld i H' x H2 → (fun v σ H Q => ∀ C s Hh ex, semG (cxComp X scope cl C (own ++ fr) s Hh ex) tg v σ H Q : TG) x σ' H2 fun σ2 H3 => (fun σ H Q => ∀ C s Hh ex, semF (cxComp X scope cl C (own ++ fr) s Hh ex) [] σ H Q : TT) σ2 H3 fun b H4 =>
        if b = true then (fun σ H Q => ∀ C s Hh ex, semE (cxComp X scope cl C (own ++ fr) s Hh ex) elt σ H Q : TE) σ2 H4 fun v H5 => ∃ m', m' < m ∧ W (i + 1) m' (ys ++ [v]) σ2 H5 else ∃ m', m' < m ∧ W (i + 1) m' ys σ2 H4)) := by
  refine ⟨fun i m ys σ' H' => m = xs.length - i ∧ i ≤ xs.length ∧ ∃ R' bs, EnvOk X.K σ' H1 R1 H' R' (cGa own ix Γ1) ∧ ys = bs.map .ref ∧ RowsAt H' bs ((xs.take i).map f) ∧ bs.Nodup ∧ ∀ b ∈ bs, H1 b = none ∧ R' b = none, ⟨_, rfl, Nat.zero_le _, R1, [], env_comp E1 own ix, rfl, ⟨rfl, fun i b r h1 => by simp at h1⟩, List.nodup_nil, fun b hb => by cases hb⟩, ?_⟩
  rintro i m ys σ' H' ⟨rfl, hle, R', bs, E', rfl, hrs, hnd, hbs⟩
  have hbl : bs.length = i := by rw [hrs.1, List.length_map, List.length_take]; omega
  have hys : (bs.map V.ref).length ≤ sizeLine := by rw [List.length_map, hbl]; omega
  obtain ⟨sgo, sstop⟩ := src H' R' E'.ext.r E'.sub i
  refine ⟨hys, ?_⟩
  by_cases hlt : i < xs.length
  · obtain ⟨go, yl⟩ := sgo _ (List.getElem?_eq_getElem hlt)
    have hmem : xs[i] ∈ xs := List.getElem_mem hlt
    have tk : (xs.take (i + 1)) = xs.take i ++ [xs[i]] := by rw [List.take_succ, List.getElem?_eq_getElem hlt]; rfl
    refine .inr ⟨go, fun v H2 hy C s Hh ex => ?_⟩
    obtain ⟨R2, x2, hr⟩ := yl v H2 hy
    refine hb C s Hh ex σ' H1 R1 H2 R2 _ v _ (E'.grow x2) hr _ fun σ2 E2 => ?_
    intro C s Hh ex
    refine (tf_nil (X := cxComp X scope cl C (own ++ fr) s Hh ex)) σ2 H2 R2 H2 R2 (E2.rebase (hfl _)) _ fun H4 R4 E4 s4 => ?_
    rw [if_pos rfl]
    intro C s Hh ex
    refine he C s Hh ex _ hmem σ2 H4 R4 H4 R4 (E4.rebase (hfl _)) _ fun a vs H5 R5 E5 s5 ha hR h0 off pp hz' => ?_
    have hv := ints_of pp
    subst hv
    have x5 : Ext H' R' H5 R5 := x2.trans (E4.ext.trans E5.ext)
    have x25 : Ext H2 R2 H5 R5 := E4.ext.trans E5.ext
    have hin : ∀ b ∈ bs, H' b ≠ none := fun b hb => by
      obtain ⟨r, hr⟩ := hrs.row hb
      rw [hr]; exact Option.some_ne_none _
    have hold : ∀ b ∈ bs, b ≠ a := fun b hb e => by
      have : H4 b ≠ none := Same.some (x2.h.trans E4.ext.h) (hin b hb)
      exact this (e ▸ h0)
    refine ⟨xs.length - (i + 1), by omega, rfl, hlt, R5, bs ++ [a], (E2.grow x25).weak (hw _), by rw [List.map_append]; rfl, ?_, ?_, fun b hb => ?_⟩
    · rw [tk, List.map_append]
      exact (hrs.locS x5.h).snoc ha
    · exact nd_snoc hnd fun z => hold a z rfl
    · rcases List.mem_append.mp hb with z | z
      · exact ⟨(hbs b z).1, (x5.old b (hin b z)).trans (hbs b z).2⟩
      · rw [List.mem_singleton.mp z]
        exact ⟨(E'.ext.h.trans (x2.h.trans E4.ext.h)).free h0, hR⟩
  · have e : i = xs.length := by omega
    subst e
    rw [List.take_length] at hrs
    exact .inl ⟨sstop (Nat.le_refl _), fun a ha => q a bs H' R' E'.ext ha hrs hnd hbs⟩
theorem w_rowsCat (i : Nat) {y : Str} {py p1 bp spos : Pos} {tg elt iter : Expr} {scope : Scope} {pos : Pos} {cl : List (Str × Addr)} {own fr : List Str} {ix : List Nat} {ra : Rep α} {xs : List α} {f : α → Row} {bf : α → Ga → Ga} {a : Addr} {as : List Addr} {rs : List Row}
    (S : CompScope X scope cl own fr ix) (hit : IV X tg iter Γ ra xs Γ)
    (hb : ∀ (C : Addr) (s : Shared) (H : Hp) (ex : List Addr), BG (cxComp X scope cl C (own ++ fr) s H ex) tg ra bf) (hw : ∀ x, Wk (bf x (cGa own ix Γ)) (cGa own ix Γ)) (hfl : ∀ x, FlatL (bf x (cGa own ix Γ)))
    (he : ∀ (C : Addr) (s : Shared) (H : Hp) (ex : List Addr) x, x ∈ xs → EVL (cxComp X scope cl C (own ++ fr) s H ex) elt (bf x (cGa own ix Γ)) rInt (rowI (f x)) (bf x (cGa own ix Γ)))
    (hΓ : Γ[i]? = some (.ob (bRows a as rs))) (hz : rs.length + xs.length ≤ sizeLine) (h : ∀ d bs, N (Γ.set i (.ob (bRows d (as ++ bs) (rs ++ xs.map f)))))
    (hN : X.N.Nodup := by first | assumption | decide) (hi' : X.N[i]? = some y := by rfl) (hx : Loc X.env.scope y := by first | exact Or.inl rfl | exact Or.inr rfl) (hv : Vis X.env.scope y := by first | exact Or.inl rfl | exact Or.inr (Or.inl rfl) | exact Or.inr (Or.inr rfl)) (hd : (y == ("__debug__" : Str)) = false := by decide) (hcd : (y == ("__classdict__" : Str)) = false := by decide)
    (hsw : swapsWith (.BinOp (.Name y p1) .Add (.ListComp elt [⟨tg, iter, [], 0⟩] scope pos) bp) (some (.Name y py)) spos.line X.env = pure false := by rfl)
    (hc : X.calm = true := by rfl) (hs : ∀ x, foldedSetIterable iter X.env x = pure x := by intro _; rfl) (hf : X.fn y = true ∨ X.env.scope.names.lookup y = some .local := by first | exact .inl rfl | exact .inr rfl) :
    W1 X (.Assign [.Name y py] (.BinOp (.Name y p1) .Add (.ListComp elt [⟨tg, iter, [], 0⟩] scope pos) bp) spos) Γ N T := fun σ H0 R0 H R E D dn dr => by
  obtain ⟨wi, hi, hit⟩ := hit
  obtain ⟨⟨v, ea, rfl, ha, hr, nd⟩, hR⟩ := E.ent i _ hΓ
  refine sS (ps_set hN hi' hx (pe_op op_cat (pe_var hi' hv hd hcd) (pe_comp (g := fun v σ H Q => ∀ C s Hh ex, semG (cxComp X scope cl C (own ++ fr) s Hh ex) tg v σ H Q) (tc := fun σ H Q => ∀ C s Hh ex, semF (cxComp X scope cl C (own ++ fr) s Hh ex) [] σ H Q) (te := fun σ H Q => ∀ C s Hh ex, semE (cxComp X scope cl C (own ++ fr) s Hh ex) elt σ H Q) hc S hi
    (fun C s H ex => ⟨fun pins s1 σ H v u Q I r h => h C s _ ex pins s1 u I r, fun pins s1 σ H Q I h => h C s _ ex pins s1 I, fun pins s1 σ H Q I h => h C s _ ex pins s1 I⟩) hs)) hsw hf) ⟨.ref a, at_of ea, ?_⟩
  refine hit σ H0 R0 H R E _ fun J H1 R1 E1 s1 hz1 src => comp_readN (Q := fun y H2 => rCat (V.ref a) y H2 fun x H1 => gName i x σ H1 D.nx) E1 src hz1 hb hw hfl he fun b bs H' R' xx hb0 hrs hnd hbs => ?_
  have E2 := E1.grow xx
  have E3 := E2.grow (Ext.freshM E2.sub hb0 (.lst (bs.map .ref)))
  obtain ⟨⟨v3, ea3, rfl, ha3, hr3, nd3⟩, hR3⟩ := E3.ent i _ hΓ
  have hsb : Same H' (upd H' b (.lst (bs.map .ref))) := Same.fresh hb0 _
  have hlen : as.length = rs.length := hr3.1
  have hlen2 : bs.length = xs.length := by rw [hrs.1, List.length_map]
  refine ⟨a, b, as.map .ref, bs.map .ref, rfl, rfl, ha3, upd_same, by rw [List.length_map, List.length_map, hlen, hlen2]; exact hz, fun d hd0 => ?_⟩
  have E4 := E3.grow (Ext.freshM E3.sub hd0 (.lst (as.map .ref ++ bs.map .ref)))
  have hsd : Same (upd H' b (.lst (bs.map .ref))) (upd (upd H' b (.lst (bs.map .ref))) d (.lst (as.map .ref ++ bs.map .ref))) := Same.fresh hd0 _
  have inb : ∀ c ∈ bs, H' c ≠ none := fun c hc => by
    obtain ⟨r, hr⟩ := hrs.row hc
    rw [hr]; exact Option.some_ne_none _
  have ina : ∀ c ∈ as, H1 c ≠ none := fun c hc => by
    obtain ⟨⟨v, _, _, _, hr1, _⟩, _⟩ := E1.ent i _ hΓ
    obtain ⟨r, hr⟩ := hr1.row hc
    rw [hr]; exact Option.some_ne_none _
  have nda := List.nodup_cons.mp nd3
  have dne : ∀ c, upd H' b (.lst (bs.map .ref)) c ≠ none → c ≠ d := fun c hc e => hc (e ▸ hd0)
  have hd1 : H' d = none := hsb.free hd0
  have r4 : ∀ c ∈ as ++ bs, upd H' b (.lst (bs.map .ref)) c ≠ none := fun c hc => by
    rcases List.mem_append.mp hc with z | z
    · exact Same.some hsb (Same.some xx.h (ina c z))
    · exact Same.some hsb (inb c z)
  refine dn _ _ R' _ (E4.setG (v := .ref d) (en := .ob (bRows d (as ++ bs) (rs ++ xs.map f))) i ⟨⟨.ref d, rfl, rfl, ?_, ?_, ?_⟩, fun c hc => ?_⟩ (fun c hc => ?_) fun c hc j e hj qj w => ?_) (s1.trans xx.r) (h d bs)
  · rw [upd_same, List.map_append]
  · exact (hr3.locS hsd).app (hrs.locS (hsb.trans hsd))
  · refine List.nodup_cons.mpr ⟨fun z => dne d (r4 d z) rfl, ?_⟩
    rw [List.nodup_append]
    refine ⟨nda.2, hnd, fun c hc c' hc' e => ?_⟩
    subst e
    exact ina c hc (hbs c hc').1
  · rcases List.mem_cons.mp hc with rfl | hc
    · exact E2.sub.free hd1
    · rcases List.mem_append.mp hc with z | z
      · exact hR3 c (List.mem_cons_of_mem _ z)
      · exact (hbs c z).2
  · have hc : c ∈ d :: (as ++ bs) := hc
    rcases List.mem_cons.mp hc with rfl | hc
    · exact E2.ext.h.free hd1
    · rcases List.mem_append.mp hc with z | z
      · exact E3.nw i _ c hΓ (List.mem_cons_of_mem _ z)
      · exact E1.ext.h.free (hbs c z).1
  · have hc : c ∈ d :: (as ++ bs) := hc
    rcases List.mem_cons.mp hc with rfl | hc
    · exact (Ent.fp_at (E3.ent j e qj) w).1 hd0
    · rcases List.mem_append.mp hc with z | z
      · exact hj (E3.ds j i e _ c qj hΓ w (List.mem_cons_of_mem _ z))
      · exact (Ent.fp_at (E1.ent j e qj) w).1 (hbs c z).1
end
end Fc

set_option Elab.async false
set_option linter.all false
set_option maxRecDepth 100000
set_option maxHeartbeats 4000000
namespace Fc
open PySem PySem.Spec L2
open PyProof.Rows hiding St
section
variable {X : Cx} {Γ Γ1 Γ2 Γ3 : Ga} {α β γ δ : Type} {N : Ga → Prop} {T : RT}
theorem EnvOk.growB2 {K : PySem.W.Frag} {σ : St} {H0 R0 H R H' R' : Hp} {i j : Nat} {B C B' C' : Box} (hij : i ≠ j) (E : EnvOk K σ H0 R0 H R Γ) (hΓ : Γ[i]? = some (.ob B)) (hΓj : Γ[j]? = some (.ob C)) (x : Ext (delL H (B.fp ++ C.fp)) R H' R') (ho : (Ent.ob B').ok K H' R' (σ[i]?).join) (hoj : (Ent.ob C').ok K H' R' (σ[j]?).join) (hfp : ∀ b ∈ B'.fp, b ∈ B.fp) (hfpj : ∀ b ∈ C'.fp, b ∈ C.fp) : EnvOk K σ H0 R0 H' R' ((Γ.set i (.ob B')).set j (.ob C')) := by
  have h0 : ∀ b ∈ B.fp ++ C.fp, H0 b = none := fun b hb => by
    rcases List.mem_append.mp hb with z | z
    · exact E.nw i _ b hΓ z
    · exact E.nw j _ b hΓj z
  have out : ∀ {b : Addr}, H0 b ≠ none → b ∉ B.fp ++ C.fp := fun h e => h (h0 _ e)
  have apart : ∀ (k : Nat) (e : Ent), k ≠ i → k ≠ j → Γ[k]? = some e → ∀ b ∈ e.fp (σ[k]?).join, b ∉ B.fp ++ C.fp := fun k e hi hj qk b hb w => by
    rcases List.mem_append.mp w with z | z
    · exact hi (E.ds k i e _ b qk hΓ hb z)
    · exact hj (E.ds k j e _ b qk hΓj hb z)
  have key : ∀ (k : Nat) (e : Ent), ((Γ.set i (.ob B')).set j (.ob C'))[k]? = some e → (k = j ∧ e = .ob C') ∨ (k = i ∧ e = .ob B') ∨ (k ≠ i ∧ k ≠ j ∧ Γ[k]? = some e) := fun k e q => by
    rcases set_at q with ⟨rfl, rfl, _⟩ | ⟨hk, q1⟩
    · exact .inl ⟨rfl, rfl⟩
    · rcases set_at q1 with ⟨rfl, rfl, _⟩ | ⟨hk2, q2⟩
      · exact .inr (.inl ⟨rfl, rfl⟩)
      · exact .inr (.inr ⟨hk2, hk, q2⟩)
  refine ⟨⟨fun b o q => ?_, E.ext.r.trans x.r, x.s, fun b hb => ?_⟩, fun k e q => ?_, fun k e b q w => ?_, fun k l e e' b q q' w w' => ?_, by rw [List.length_set, List.length_set]; exact E.len⟩
  · exact x.h b o (by rw [delL_out (out (by rw [q]; exact Option.some_ne_none _))]; exact E.ext.h b o q)
  · refine (x.old b ?_).trans (E.ext.old b hb)
    rw [delL_out (out hb)]; exact Same.some E.ext.h hb
  · rcases key k e q with ⟨rfl, rfl⟩ | ⟨rfl, rfl⟩ | ⟨hi, hj, q1⟩
    · exact hoj
    · exact ho
    · have h1 := E.ent k e q1
      refine h1.loc (fun b hb => ?_) x.r fun b hb => ?_
      · cases e2 : H b with
        | none => exact absurd e2 (Ent.fp_at h1 hb).1
        | some u => exact x.h b u (by rw [delL_out (apart k e hi hj q1 b hb)]; exact e2)
      · exact (x.old b (by rw [delL_out (apart k e hi hj q1 b hb)]; exact (Ent.fp_at h1 hb).1)).trans (Ent.fp_at h1 hb).2
  · rcases key k e q with ⟨rfl, rfl⟩ | ⟨rfl, rfl⟩ | ⟨hi, hj, q1⟩
    · exact h0 b (List.mem_append_right _ (hfpj b w))
    · exact h0 b (List.mem_append_left _ (hfp b w))
    · exact E.nw k e b q1 w
  · rcases key k e q with ⟨rfl, rfl⟩ | ⟨rfl, rfl⟩ | ⟨hi, hj, q1⟩ <;> rcases key l e' q' with ⟨rfl, rfl⟩ | ⟨rfl, rfl⟩ | ⟨hi', hj', q1'⟩
    · rfl
    · exact E.ds _ _ _ _ b hΓj hΓ (hfpj b w) (hfp b w')
    · exact absurd (List.mem_append_right _ (hfpj b w)) (apart l e' hi' hj' q1' b w')
    · exact E.ds _ _ _ _ b hΓ hΓj (hfp b w) (hfpj b w')
    · rfl
    · exact absurd (List.mem_append_left _ (hfp b w)) (apart l e' hi' hj' q1' b w')
    · exact absurd (List.mem_append_right _ (hfpj b w')) (apart k e hi hj q1 b w)
    · exact absurd (List.mem_append_left _ (hfp b w')) (apart k e hi hj q1 b w)
    · exact E.ds _ _ _ _ b q1 q1' w w'
abbrev SpUR := PySem.W.Frag → Pu → List Row → List Pk → (Pu → List Row → RT) → Prop
def spUR (S : SpUR) (K : PySem.W.Frag) : Sp := fun vs H Q _ => ∃ R a b s c cs rs vs' ps T, vs = .ref a :: .ref c :: vs' ∧ Same R H ∧ (∀ x ∈ [a, b] ++ (c :: cs), R x = none) ∧ (bPu a b s).R K H R (.ref a) ∧ (bRows c cs rs).R K H R (.ref c) ∧ (∀ x ∈ [a, b], x ∉ c :: cs) ∧ Pks K R vs' ps ∧ S K s rs ps T ∧
  ∀ v H' R' s' rs', Ext (delL H ([a, b] ++ (c :: cs))) R H' R' → (bPu a b s').R K H' R' (.ref a) → (bRows c cs rs').R K H' R' (.ref c) → (∀ x ∈ [a, b] ++ (c :: cs), R' x = none) → T s' rs' (delL H ([a, b] ++ (c :: cs))) v H' R' → Q v H'
theorem w_callUR (i j : Nat) {S : SpUR} {x y z : Str} {k : Nat} {es : List Expr} {p p1 p2 p3 pos : Pos} {ps : List Pk} {a b c : Addr} {s : Pu} {cs : List Addr} {rs : List Row} {Pd : Pu → List Row → Prop} (C : Cal X.prog X.w X.K X.mg X.base x k (spUR S X.K)) (hr : Room k X.A) (hij : i ≠ j) (ha : HA X es Γ ps Γ) (hΓ : Γ[i]? = some (.ob (kPu.bx a b s))) (hΓj : Γ[j]? = some (.ob (bRows c cs rs))) (hS : S X.K s rs ps (fun s' rs' => rtP X.K rNon fun _ => Pd s' rs')) (h : ∀ s' rs', Pd s' rs' → N ((Γ.set i (.ob (kPu.bx a b s'))).set j (.ob (bRows c cs rs'))))
    (hg : Gl X x := by rfl) (hdb : (x == ("__debug__" : Str)) = false := by decide) (he : starEach (.Name y p1 :: .Name z p2 :: es) X.env = (false, eval (.Name y p1) X.env) :: starEach (.Name z p2 :: es) X.env := by rfl) (he2 : starEach (.Name z p2 :: es) X.env = (false, eval (.Name z p2) X.env) :: starEach es X.env := by rfl) (hpl : (backTo p3 (starEach (.Name z p2 :: es) X.env)).any (·.1) = false := by rfl)
    (hN : X.N[i]? = some y := by rfl) (hv : Vis X.env.scope y := by first | exact Or.inl rfl | exact Or.inr (Or.inl rfl) | exact Or.inr (Or.inr rfl)) (hd : (y == ("__debug__" : Str)) = false := by decide) (hcd : (y == ("__classdict__" : Str)) = false := by decide)
    (hNj : X.N[j]? = some z := by rfl) (hvj : Vis X.env.scope z := by first | exact Or.inl rfl | exact Or.inr (Or.inl rfl) | exact Or.inr (Or.inr rfl)) (hdj : (z == ("__debug__" : Str)) = false := by decide) (hcdj : (z == ("__classdict__" : Str)) = false := by decide)
    (hsw : swapsWith (.Call (.Name x p) (.Name y p1 :: .Name z p2 :: es) [] p3) none pos.line X.env = pure false := by rfl) : W1 X (.Expr (.Call (.Name x p) (.Name y p1 :: .Name z p2 :: es) [] p3) pos) Γ N T := fun σ H0 R0 H R E D dn dr => by
  obtain ⟨f, fd, pn, F, hm, hk, hb⟩ := C.ex
  obtain ⟨ea, _, _⟩ := ok_at (E.ent i _ hΓ)
  obtain ⟨⟨vc, ec, rfl, _, _, _⟩, _⟩ := E.ent j _ hΓj
  refine sS (ps_expr (pe_call F hr hg hm hk hb .nil pass0 (pa_cons (pe_var hN hv hd hcd) (pa_cons (pe_var hNj hvj hdj hcdj) paS he2) he) hdb he hpl) hsw) ⟨.ref a, at_of ea, .ref c, at_of ec, ha σ H0 R0 H R E _ fun us H1 R1 E1 s1 p1 => ?_⟩
  obtain ⟨ea1, hB, hRa, hRb⟩ := ok_at (E1.ent i _ hΓ)
  obtain ⟨⟨vc1, ec1, rfl, hc1, hc2, hc3⟩, hRc⟩ := E1.ent j _ hΓj
  have dis : ∀ x ∈ [a, b], x ∉ c :: cs := fun x hx w => hij (E1.ds i j _ _ x hΓ hΓj hx w)
  refine ⟨R1, a, b, s, c, cs, rs, us, ps, _, by rw [List.append_nil], E1.sub, fun x hx => ?_, hB, ⟨rfl, hc1, hc2, hc3⟩, dis, p1, hS, fun v H' R' s' rs' xx hB' hC' hR' t => ?_⟩
  · rcases List.mem_append.mp hx with w | w
    · rcases List.mem_cons.mp w with rfl | w
      · exact hRa
      · rw [List.mem_singleton.mp w]; exact hRb
    · exact hRc x w
  · obtain ⟨_, _, hP⟩ := t
    refine dn σ H' R' _ (E1.growB2 (B' := kPu.bx a b s') (C' := bRows c cs rs') hij hΓ hΓj xx ?_ ?_ (fun c hc => hc) fun c hc => hc) (s1.trans xx.r) (h s' rs' hP)
    · rw [ea1]; exact at_ok (B := kPu) hB' (hR' a (by simp)) (hR' b (by simp))
    · rw [ec1]; exact ⟨⟨.ref c, rfl, hC'⟩, fun x hx => hR' x (List.mem_append_right _ hx)⟩
variable {P : Program} {w : World} {K : PySem.W.Frag} {mg : Str → Option Value} {base : Heap}
theorem env_startUR {K : PySem.W.Frag} {R H : Hp} {a b c : Addr} {st : Pu} {cs : List Addr} {rs : List Row} {vs : List V} {ps : List Pk} {N : List Str} (s : Same R H) (hR : ∀ x ∈ [a, b] ++ (c :: cs), R x = none) (hB : (bPu a b st).R K H R (.ref a)) (hC : (bRows c cs rs).R K H R (.ref c)) (dis : ∀ x ∈ [a, b], x ∉ c :: cs) (p : Pks K R vs ps) (hl : ps.length + 2 ≤ N.length) :
    EnvOk K (L2.start N (.ref a :: .ref c :: vs)) (delL H ([a, b] ++ (c :: cs))) R H R (.ob (kPu.bx a b st) :: .ob (bRows c cs rs) :: gaOf ps (N.length - 2)) := by
  obtain ⟨n0, n1, N', rfl⟩ : ∃ n0 n1 N', N = n0 :: n1 :: N' := by
    match N, hl with
    | [], h => exact absurd h (by simp)
    | [_], h => exact absurd h (by simp)
    | n0 :: n1 :: N', _ => exact ⟨n0, n1, N', rfl⟩
  have hl' : ps.length ≤ N'.length := by simpa using hl
  have E0 := env_start (N := N') s p hl'
  have es : L2.start (n0 :: n1 :: N') (.ref a :: .ref c :: vs) = some (.ref a) :: some (.ref c) :: L2.start N' vs := by unfold L2.start; simp
  rw [es]
  have noown : ∀ (i : Nat) (e : Ent) (o : Option V), (gaOf ps N'.length)[i]? = some e → e.fp o = [] := fun i e o q => by
    unfold gaOf at q
    rcases List.mem_append.mp (List.mem_of_getElem? q) with z | z
    · obtain ⟨p, _, rfl⟩ := List.mem_map.mp z; rfl
    · obtain ⟨_, rfl⟩ := List.mem_replicate.mp z; rfl
  have ha := hR a (by simp)
  have hb := hR b (by simp)
  have key : ∀ (i : Nat) (e : Ent), (Ent.ob (kPu.bx a b st) :: Ent.ob (bRows c cs rs) :: gaOf ps (n0 :: n1 :: N').length.pred.pred)[i]? = some e → (i = 0 ∧ e = .ob (kPu.bx a b st)) ∨ (i = 1 ∧ e = .ob (bRows c cs rs)) ∨ ∃ i', i = i' + 2 ∧ (gaOf ps N'.length)[i']? = some e := by
    intro i e q
    match i, q with
    | 0, q => simp at q; exact .inl ⟨rfl, q.symm⟩
    | 1, q => simp at q; exact .inr (.inl ⟨rfl, q.symm⟩)
    | i + 2, q => exact .inr (.inr ⟨i, rfl, by simpa using q⟩)
  refine ⟨⟨delL_sub, Same.refl _, s, fun _ _ => rfl⟩, fun i e q => ?_, fun i e d q w => ?_, fun i j e e' d q q' w w' => ?_, ?_⟩
  · rcases key i e q with ⟨rfl, rfl⟩ | ⟨rfl, rfl⟩ | ⟨i', rfl, q1⟩
    · exact at_ok (B := kPu) hB ha hb
    · exact ⟨⟨.ref c, rfl, hC⟩, fun x hx => hR x (List.mem_append_right _ hx)⟩
    · simpa using E0.ent i' e q1
  · rcases key i e q with ⟨rfl, rfl⟩ | ⟨rfl, rfl⟩ | ⟨i', rfl, q1⟩
    · exact delL_in (List.mem_append_left _ w)
    · exact delL_in (List.mem_append_right _ w)
    · rw [noown i' e _ q1] at w; cases w
  · rcases key i e q with ⟨rfl, rfl⟩ | ⟨rfl, rfl⟩ | ⟨i', rfl, q1⟩
    · rcases key j e' q' with ⟨rfl, rfl⟩ | ⟨rfl, rfl⟩ | ⟨j', rfl, q1'⟩
      · rfl
      · exact absurd w' (dis d w)
      · rw [noown j' e' _ q1'] at w'; cases w'
    · rcases key j e' q' with ⟨rfl, rfl⟩ | ⟨rfl, rfl⟩ | ⟨j', rfl, q1'⟩
      · exact absurd w (dis d w')
      · rfl
      · rw [noown j' e' _ q1'] at w'; cases w'
    · rw [noown i' e _ q1] at w; cases w
  · have := E0.len
    simp [this]
theorem fnUR_ok {S : SpUR} {x qual : Str} {st : Stmt} {f : Addr} {fd : FuncData} {N ps : List Str} {k : Nat} (F : Fun K x qual st f fd) (Sc : FnScope N ps (defScope st)) (hm : mg x = some (.ref f)) (hb : Binds K fd ps []) (len : ∀ s rs qs T, S K s rs qs T → qs.length + 2 = ps.length)
    (hbody : ∀ (cdv : Value) (A : Around) (outer : List Env) (s : Shared) (H : Hp) (E : XK) (a b c : Addr) (cs : List Addr) (u : Pu) (rs : List Row) (qs : List Pk) (T : Pu → List Row → RT), Room k (A.deeper (envOfC qual (defScope st) s.heap.objs.size f cdv)) → S K u rs qs T →
      WS (cxOf CX0 P w K mg base N qual (defScope st) f cdv A outer s H E).nox (defBody st) (.ob (kPu.bx a b u) :: .ob (bRows c cs rs) :: gaOf qs (N.length - 2)) (fun Γ => ∃ u' rs', Γ[0]? = some (.ob (kPu.bx a b u')) ∧ Γ[1]? = some (.ob (bRows c cs rs')) ∧ ∀ H0 H' R', T u' rs' H0 .non H' R') (fun _ _ _ _ => False)) : Cal P w K mg base x (k + 1) (spUR S K) := by
  refine ⟨f, fd, ps, ?_, hm, F.kp, hb⟩
  refine F.ok Sc (fun vs H Q E h => ?_) (fun cdv A outer s H vs Q E hr h => ?_)
  · obtain ⟨R, a, b, u, c, cs, rs, vs', qs, T, rfl, _, _, _, _, _, p, hS, _⟩ := h
    rw [List.length_cons, List.length_cons, p.length]; exact len u rs qs T hS
  · obtain ⟨R, a, b, u, c, cs, rs, vs', qs, T, rfl, sR, hR, hB, hC, dis, p, hS, q⟩ := h
    have hl : qs.length + 2 ≤ N.length := by
      rw [len u rs qs T hS]
      have := congrArg List.length Sc.pre
      rw [List.length_take] at this
      omega
    refine ⟨_, pssS, hbody cdv A outer s H E a b c cs u rs qs T hr hS (L2.start N (.ref a :: .ref c :: vs')) (delL H ([a, b] ++ (c :: cs))) R H R (env_startUR sR hR hB hC dis p hl) { nx := fun _ H' => Q .non H', rt := Q } (fun σ' H' R' Γ' E' _ ⟨u', rs', hΓ, hΓ1, t⟩ => ?_) fun v H' R' xx t => t.elim⟩
    obtain ⟨ea, hB', hR'⟩ := ok_at (E'.ent 0 _ hΓ)
    obtain ⟨⟨vc, ec, e2, hc'⟩, hRc⟩ := E'.ent 1 _ hΓ1
    refine q .non H' R' u' rs' E'.ext hB' ⟨rfl, hc'⟩ (fun x hx => ?_) (t _ _ _)
    rcases List.mem_append.mp hx with w | w
    · rcases List.mem_cons.mp w with rfl | w
      · exact hR'.1
      · rw [List.mem_singleton.mp w]; exact hR'.2
    · exact hRc x w
theorem ev_rowAt (i : Nat) {x : Str} {e : Expr} {p1 pos : Pos} {a : Addr} {as : List Addr} {rs : List Row} {k : Int} {j : Nat} {b : Addr} (he : EV X e Γ rInt k Γ1) (hΓ : Γ[i]? = some (.ob (bRows a as rs))) (hΓ1 : Γ1[i]? = some (.ob (bRows a as rs))) (hk : ixN as.length k = some j) (hb : as[j]? = some b)
    (hN : X.N[i]? = some x := by rfl) (hv : Vis X.env.scope x := by first | exact Or.inl rfl | exact Or.inr (Or.inl rfl) | exact Or.inr (Or.inr rfl)) (hd : (x == ("__debug__" : Str)) = false := by decide) (hcd : (x == ("__classdict__" : Str)) = false := by decide) (hsx : PlainIx e := by exact fun _ _ => rfl) : EV X (.Subscript (.Name x p1) e pos) Γ rRef b Γ1 := fun σ H0 R0 H R E Q q => by
  obtain ⟨⟨v, ea, rfl, ha, hr, _⟩, hR⟩ := E.ent i _ hΓ
  refine eS (pe_ix ix_list (pe_var hN hv hd hcd) peS hsx) ⟨.ref a, at_of ea, he σ H0 R0 H R E _ fun u H2 R2 E2 s2 e2 => ?_⟩
  obtain ⟨⟨v, ea2, e3, ha2, hr2, nd⟩, hR2⟩ := E2.ent i _ hΓ1
  refine ⟨a, _, k, .ref b, rfl, e2, SqL.of ha2, ?_, q _ H2 R2 E2 s2 rfl⟩
  unfold atI
  rw [List.length_map, hk]
  show (as.map V.ref)[j]? = _
  rw [List.getElem?_map, hb]; rfl
theorem frzRL {i j : Nat} {a : Addr} {as : List Addr} {rs : List Row} {xs : List Int} (hij : i ≠ j) (hΓ : Γ[i]? = some (.ob (bRows a as rs))) (hj : Γ[j]? = some (.mu rInt xs)) (hz : rs.length ≤ sizeLine) (hzx : xs.length ≤ sizeLine) (σ : St) (H0 R0 H R : Hp) (E : EnvOk X.K σ H0 R0 H R Γ) : EnvOk X.K σ H H H H (((Γ.map lentE).set i (.im (rList rLrow) rs)).set j (.im (rList rInt) xs)) := by
  obtain ⟨⟨v, ea, rfl, ha, hr, nd⟩, hR⟩ := E.ent i _ hΓ
  obtain ⟨b, vs, eb, hb, hRb, pp⟩ := E.ent j _ hj
  have E1 := E.frz.tellG (i := i) (e0 := .no) (en := .im (rList rLrow) rs) (by rw [List.getElem?_map, hΓ]; rfl) ⟨.ref a, ea, a, _, rfl, ha, paired_rows hr, hz⟩ fun b w => by cases w
  exact E1.tellG (i := j) (e0 := .no) (by rw [List.getElem?_set_ne hij, List.getElem?_map, hj]; rfl) ⟨.ref b, eb, b, vs, rfl, hb, Paired.map (fun _ _ => rInt.mono E.sub) pp, hzx⟩ fun b w => by cases w
theorem ev_lcol0 {a : Expr} {j : Nat} {p1 pos : Pos} {r : Row} (ha : EV X a Γ rLrow r Γ1) : EV X (.Subscript a (.Constant (.int 0) j p1) pos) Γ rInt r.1 Γ1 := fun σ H0 R0 H R E Q q => by
  refine eS (pe_ix ix_list peS pe_int (fun _ _ => rfl)) (ha σ H0 R0 H R E _ fun v H1 R1 E1 s1 e1 => ?_)
  obtain ⟨b, rfl, hb⟩ := e1
  exact ⟨b, _, 0, .int r.1, rfl, rfl, SqL.of (E1.sub _ _ hb), rfl, q _ H1 R1 E1 s1 rfl⟩
end
end Fc

set_option Elab.async false
set_option linter.all false
set_option maxRecDepth 100000
set_option maxHeartbeats 4000000
namespace Fc
open PySem PySem.Spec L2
theorem WS.rowsLen {X : Cx} {Γ : Ga} {N : Ga → Prop} {T : RT} (i : Nat) {sts : List Stmt} {a : Addr} {as : List Addr} {rs : List Row} (hΓ : Γ[i]? = some (.ob (bRows a as rs))) (h : as.length = rs.length → WS X sts Γ N T) : WS X sts Γ N T := fun σ H0 R0 H R E D dn dr => by
  obtain ⟨⟨v, ea, _, ha, hr, nd⟩, hR⟩ := E.ent i _ hΓ
  exact h hr.1 σ H0 R0 H R E D dn dr
end Fc
namespace K1
open PySem L2 Fc
open PySem.Spec hiding Row
open PyProof.Rows hiding St
open PySem.Builtin.Int (intBits)
abbrev noRow : Row := (0, 0, 0, 0)
theorem nodup_sub : ∀ (l m : List Int), l.Nodup → (∀ x ∈ l, x ∈ m) → l.length ≤ m.length
  | [], _, _, _ => Nat.zero_le _
  | a :: l, m, nd, h => by
    obtain ⟨n1, n2⟩ := List.nodup_cons.mp nd
    have am := h a List.mem_cons_self
    have ih := nodup_sub l (m.erase a) n2 fun x hx => (List.mem_erase_of_ne (show x ≠ a from fun e => n1 (by rw [← e]; exact hx))).mpr (h x (List.mem_cons_of_mem _ hx))
    have := List.length_erase_of_mem am
    have : 0 < m.length := List.length_pos_of_mem am
    rw [List.length_cons]; omega
structure Called (parts : Int) (rs0 rs : List Row) : Prop where
  len : rs.length = rs0.length
  same : ∀ (k : Nat) (r : Row), rs[k]? = some r → ∃ r0, rs0[k]? = some r0 ∧ r.1 = r0.1 ∧ r.2.1 = r0.2.1 ∧ r.2.2.1 = r0.2.2.1
  ok : ∀ r ∈ rs, r.2.2.2 = -1 ∨ (r.1 < r.2.2.2 ∧ r.2.2.2 < parts)
theorem Called.set {parts : Int} {rs0 rs : List Row} (h : Called parts rs0 rs) {k : Nat} {r : Row} (hk : rs[k]? = some r) {c : Int} (hc : r.1 < c ∧ c < parts) : Called parts rs0 (rs.set k (r.1, r.2.1, r.2.2.1, c)) := by
  have kl := (List.getElem?_eq_some_iff.mp hk).1
  refine ⟨by rw [List.length_set]; exact h.len, fun j q hj => ?_, fun q hq => ?_⟩
  · by_cases e : k = j
    · subst e
      rw [List.getElem?_set_self kl] at hj; cases hj
      exact h.same k r hk
    · rw [List.getElem?_set_ne e] at hj; exact h.same j q hj
  · rcases List.mem_or_eq_of_mem_set hq with z | z
    · exact h.ok q z
    · rw [z]; exact .inr hc
structure Pick (parts : Int) (rs0 : List Row) (i : Nat) (rs : List Row) (free used : List Int) : Prop where
  c : Called parts rs0 rs
  nd : free.Nodup
  bd : ∀ k ∈ free, 0 ≤ k ∧ k < (rs0.length : Int)
  fr : ∀ k ∈ free, ∀ r, rs[k.toNat]? = some r → r.2.2.2 = -1
  cov : ∀ k : Int, 0 ≤ k → k < (rs0.length : Int) → k ∈ free ∨ k ∈ used
  ulen : used.length = i
  cl : ∀ q : Nat, 1 ≤ q → q ≤ i → ∃ r ∈ rs, r.2.2.2 = (q : Int)
theorem Pick.one {parts : Int} {rs0 : List Row} {i : Nat} {rs : List Row} {free used : List Int} (h : Pick parts rs0 i rs free used) (hp : ∀ q : Nat, q ≤ i → ∃ (k : Nat) (r : Row), rs0[k]? = some r ∧ r.1 = (q : Int)) : ∃ k ∈ free, ∀ r, rs[k.toNat]? = some r → r.1 < (i : Int) + 1 := by
  refine Classical.byContradiction fun no => ?_
  -- one row of each part, all different
  have reps : ∀ n : Nat, n ≤ i + 1 → ∃ l : List Int, l.length = n ∧ l.Nodup ∧ ∀ x ∈ l, 0 ≤ x ∧ x < (rs0.length : Int) ∧ ∃ r, rs0[x.toNat]? = some r ∧ r.1 < (n : Int) := by
    intro n
    induction n with
    | zero => intro _; exact ⟨[], rfl, List.nodup_nil, by simp⟩
    | succ n ih =>
      intro hn
      obtain ⟨l, l1, l2, l3⟩ := ih (by omega)
      obtain ⟨k, r, hk, hr⟩ := hp n (by omega)
      have kl := (List.getElem?_eq_some_iff.mp hk).1
      refine ⟨(k : Int) :: l, by rw [List.length_cons, l1], List.nodup_cons.mpr ⟨fun z => ?_, l2⟩, fun x hx => ?_⟩
      · obtain ⟨_, _, r', h1, h2⟩ := l3 _ z
        rw [show ((k : Int)).toNat = k by omega, hk] at h1
        cases h1; omega
      · rcases List.mem_cons.mp hx with rfl | z
        · exact ⟨by omega, by omega, r, by rw [show ((k : Int)).toNat = k by omega]; exact hk, by omega⟩
        · obtain ⟨a, b, r', c, d⟩ := l3 x z
          exact ⟨a, b, r', c, by omega⟩
  obtain ⟨l, l1, l2, l3⟩ := reps (i + 1) (Nat.le_refl _)
  have := nodup_sub l used l2 fun x hx => by
    obtain ⟨a, b, r0, c, d⟩ := l3 x hx
    rcases h.cov x a b with z | z
    · refine absurd ⟨x, z, fun r hr => ?_⟩ no
      obtain ⟨r0', e1, e2, _⟩ := h.c.same _ r hr
      rw [c] at e1; cases e1
      omega
    · exact z
  rw [l1, h.ulen] at this
  omega
section
variable {P : Program} {w : World} {K : PySem.W.Frag} {mg : Str → Option Value} {base : Heap} {f : Addr} {fd : FuncData}
abbrev sCL : Stmt := top at__law_called
abbrev nCL : List Str := ["_law_purse_here", "_law_rows", "_law_parts", "_law_free", "_law_part_here", "_law_some", "_law_k", "_law_later", "_law_pick"]
theorem scCL : FnScope nCL ["_law_purse_here", "_law_rows", "_law_parts"] (defScope sCL) := ⟨rfl, rfl, rfl, by decide +kernel, rfl, by decide +kernel, by decide +kernel⟩
structure CallOk (parts : Int) (rs0 rs : List Row) : Prop where
  c : Called parts rs0 rs
  cl : ∀ q : Nat, 1 ≤ q → (q : Int) < parts → ∃ r ∈ rs, r.2.2.2 = (q : Int)
def SCL : SpUR := fun K s rs ps T => ∃ (n parts : Int), PSt n s ∧ n ≤ 10000 ∧ ps = [⟨rInt, parts⟩] ∧ 1 ≤ parts ∧ parts ≤ 4 ∧ rs.length ≤ 100 ∧ (∀ r ∈ rs, 0 ≤ r.1 ∧ r.1 < parts ∧ r.2.2.2 = -1) ∧ (∀ q : Nat, (q : Int) < parts → ∃ (k : Nat) (r : Row), rs[k]? = some r ∧ r.1 = (q : Int)) ∧ T = fun s' rs' => rtP K rNon fun _ => PSt (n + 200) s' ∧ CallOk parts rs rs'
theorem ok_CL (M : Mods mg) (CD : Cal P w K mg base "_law_draw" 1 (spU kPu SDR K)) (F : Fun K "_law_called" "_law_called" sCL f fd) (hm : mg "_law_called" = some (.ref f)) (hb : Binds K fd ["_law_purse_here", "_law_rows", "_law_parts"] []) : Cal P w K mg base "_law_called" 2 (spUR SCL K) := by
  have nd := scCL.nd
  have nd1 : List.Nodup [("_law_k" : Str), "_law_part_here", "_law_rows"] := by decide
  refine fnUR_ok F scCL hm hb (fun _ _ qs T ⟨_, _, _, _, e, _⟩ => by rw [e]; rfl) (fun cdv A outer s H E a b c cs st rs0 qs T hr hS => ?_)
  obtain ⟨n, parts, hP, n1, rfl, p1, p4, hl, hrow, hpart, rfl⟩ := hS
  have n0 : 0 ≤ n := Int.le_trans hP.t0 hP.t1
  change WS _ _ [.ob (kPu.bx a b st), .ob (bRows c cs rs0), .im rInt parts, .no, .no, .no, .no, .no, .no] _ _
  refine ws_seq (w_setL 3 (evl_listRange M.list M.range (ev_lenRows 1 M.len rfl) ⟨by omega, by omega⟩) ?_)
  have e0 : ups 0 ((rs0.length : Int)).toNat = ups 0 rs0.length := by rw [show ((rs0.length : Int)).toNat = rs0.length by omega]
  rw [e0]
  refine ws_seq (w_forI (r := rInt) (fun i Γ => ∃ st rs free used v4 v5 v6, Γ = [.ob (kPu.bx a b st), .ob (bRows c cs rs), .im rInt parts, .mu rInt free, v4, v5, v6, .no, .no] ∧ PSt (n + i) st ∧ Pick parts rs0 i rs free used ∧ free.length ≤ 100)
    (iv_range2 M.range ev_int (ev_name 2 rfl) ⟨by decide, by decide, by omega, by omega⟩) (bg_name 4) ⟨st, rs0, ups 0 rs0.length, [], _, _, _, rfl, hP.mono (by omega), ⟨⟨rfl, fun k r hk => ⟨r, hk, rfl, rfl, rfl⟩, fun r hr => .inl (hrow r hr).2.2⟩, ups_nodup _, fun k hk => ups_mem.mp hk, fun k _ r hr => (hrow r (List.mem_of_getElem? hr)).2.2, fun k k0 k1 => .inl (ups_mem.mpr ⟨k0, k1⟩), rfl, fun q q1 q2 => by omega⟩, by rw [ups_length]; exact hl⟩ ?_ ?_)
  · rintro i x Γ hx ⟨st, rs, free, used, v4, v5, v6, rfl, hP, hK, hfl⟩
    obtain ⟨hi, ex⟩ := ups_at hx
    have ex : x = (i : Int) + 1 := by omega
    subst ex
    have il : (i : Int) + 1 < parts := by omega
    have hrl := hK.c.len
    refine WS.rowsLen 1 rfl fun hcs => ?_
    have rg : ∀ k ∈ free, ∃ r, rs[k.toNat]? = some r := fun k hk => ⟨_, List.getElem?_eq_getElem (by have := hK.bd k hk; omega)⟩
    have hkk : ∀ k ∈ free, atI rs k = some (rs.getD k.toNat noRow) := fun k hk => atI_getDG noRow (hK.bd k hk).1 (by have := hK.bd k hk; omega)
    refine ws_seq (w_compF 5 (frzRL (i := 1) (j := 3) (by decide) rfl rfl (small_le (by omega)) (small_le (by omega))) (own := ["_law_k"]) (fr := ["_law_part_here", "_law_rows"]) (ix := [4, 1]) (ra := rInt) (rb := rInt) (p := fun k => decide ((rs.getD k.toNat noRow).1 < (i : Int) + 1)) (f := fun k => k) (fun _ _ _ _ _ h => h) (comp_mk (so := defScope sCL) (N0 := nCL) rfl rfl (fun x h => cell_has h) (by decide +kernel)) (iv_list (ev_name 3 rfl))
      (fun C s H ex => bg_name 0) (fun x => ⟨.inr rfl, .inl rfl, .inl rfl, trivial⟩) (fun C s H ex x hx => tf_one (tv_cmp c_lt (ev_lcol0 (ev_ixL (ev_name 2 rfl) (ev_name 0 rfl) (hkk x hx))) (ev_name 1 rfl))) (fun C s H ex x hx _ => ev_name 0 rfl) ?_)
    have hid : ((free.filter fun k => decide ((rs.getD k.toNat noRow).1 < (i : Int) + 1)).map fun k => k) = free.filter fun k => decide ((rs.getD k.toNat noRow).1 < (i : Int) + 1) := by simp
    rw [hid]
    have hne : free.filter (fun k => decide ((rs.getD k.toNat noRow).1 < (i : Int) + 1)) ≠ [] := fun z => by
      obtain ⟨k, hk, hr⟩ := hK.one fun q hq => hpart q (by omega)
      have : k ∈ free.filter fun k => decide ((rs.getD k.toNat noRow).1 < (i : Int) + 1) := by
        rw [List.mem_filter]
        refine ⟨hk, decide_eq_true ?_⟩
        obtain ⟨r, er⟩ := rg k hk
        rw [List.getD_eq_getElem?_getD, er]; exact hr r er
      rw [z] at this; cases this
    have hsl := List.length_filter_le (fun k => decide ((rs.getD k.toNat noRow).1 < (i : Int) + 1)) free
    have hsub : ∀ k ∈ free.filter (fun k => decide ((rs.getD k.toNat noRow).1 < (i : Int) + 1)), k ∈ free ∧ (rs.getD k.toNat noRow).1 < (i : Int) + 1 := fun k hk => ⟨(List.mem_filter.mp hk).1, of_decide_eq_true (List.mem_filter.mp hk).2⟩
    generalize free.filter (fun k => decide ((rs.getD k.toNat noRow).1 < (i : Int) + 1)) = sm at hne hsl hsub
    have sl : 1 ≤ sm.length := by cases sm with
      | nil => exact absurd rfl hne
      | cons => simp
    obtain ⟨y, st1, y0, y1, hP1, hS⟩ := drawOk hP (by omega) (b := (sm.length : Int)) (by omega) (by omega)
    obtain ⟨k, hk⟩ : ∃ k, sm[y.toNat]? = some k := ⟨_, List.getElem?_eq_getElem (by omega)⟩
    obtain ⟨kf, kp⟩ := hsub k (List.mem_of_getElem? hk)
    have kb := hK.bd k kf
    refine ws_seq (w_set 6 (ev_ixM 5 (y := k) (ev_callU 0 CD hr (ha_cons (ev_lenM 5 M.len rfl) ha_nil) rfl rfl (hS _)) rfl rfl (by rw [atI_of y0 (by omega)]; exact hk)) ?_)
    obtain ⟨r, er⟩ := rg k kf
    rw [List.getD_eq_getElem?_getD, er] at kp
    have kp : r.1 < (i : Int) + 1 := kp
    obtain ⟨bk, hbk⟩ : ∃ bk, cs[k.toNat]? = some bk := ⟨_, List.getElem?_eq_getElem (by omega)⟩
    refine ws_seq (w_setRow 1 (y := (i : Int) + 1) (ev_name 4 rfl) (ev_rowAt 1 (ev_name 6 rfl) rfl rfl (ixN_of kb.1 (by omega)) hbk) rfl (hasRow1 hbk er) ?_)
    obtain ⟨j, hj, hno⟩ : ∃ j : Nat, free[j]? = some k ∧ ∀ m, m < j → free[m]? ≠ some k := by
      obtain ⟨j, hj⟩ := List.mem_iff_getElem?.mp kf
      refine ⟨j, hj, fun m hm e => ?_⟩
      have q1 := List.getElem?_eq_some_iff.mp hj
      have q2 := List.getElem?_eq_some_iff.mp e
      have := (List.getElem_inj (h₀ := q2.1) (h₁ := q1.1) hK.nd).mp (q2.2.trans q1.2.symm)
      omega
    refine ws_one (w_remove 3 (ev_name 6 rfl) rfl rfl hj hno ?_)
    have jl := (List.getElem?_eq_some_iff.mp hj)
    have em : ∀ z, z ∈ free.eraseIdx j ↔ z ∈ free ∧ z ≠ k := fun z => by
      rw [List.mem_eraseIdx_iff_getElem?]
      constructor
      · rintro ⟨m, m1, m2⟩
        refine ⟨List.mem_of_getElem? m2, fun e => m1 ?_⟩
        subst e
        have q2 := List.getElem?_eq_some_iff.mp m2
        exact (List.getElem_inj (h₀ := q2.1) (h₁ := jl.1) hK.nd).mp (q2.2.trans jl.2.symm)
      · rintro ⟨m1, m2⟩
        obtain ⟨m, hm⟩ := List.mem_iff_getElem?.mp m1
        refine ⟨m, fun e => m2 ?_, hm⟩
        subst e
        rw [hj] at hm; exact (Option.some.inj hm).symm
    refine ⟨st1, _, free.eraseIdx j, k :: used, _, _, _, rfl, hP1.mono (by omega), ⟨hK.c.set er ⟨by omega, by omega⟩, hK.nd.sublist (List.eraseIdx_sublist _ _), fun z hz => hK.bd z ((em z).mp hz).1, fun z hz q hq => ?_, fun z z0 z1 => ?_, by rw [List.length_cons, hK.ulen], fun q q1 q2 => ?_⟩, Nat.le_trans (List.length_eraseIdx_le _ _) hfl⟩
    · obtain ⟨zf, zk⟩ := (em z).mp hz
      have zb := hK.bd z zf
      rw [List.getElem?_set_ne (by omega)] at hq
      exact hK.fr z zf q hq
    · rcases hK.cov z z0 z1 with h | h
      · by_cases e : z = k
        · exact .inr (by rw [e]; simp)
        · exact .inl ((em z).mpr ⟨h, e⟩)
      · exact .inr (List.mem_cons_of_mem _ h)
    · rcases Nat.lt_or_ge q (i + 1) with h | h
      · obtain ⟨r', hr', e'⟩ := hK.cl q q1 (by omega)
        obtain ⟨j', hj'⟩ := List.mem_iff_getElem?.mp hr'
        refine ⟨r', List.mem_iff_getElem?.mpr ⟨j', ?_⟩, e'⟩
        rw [List.getElem?_set_ne (fun z => ?_)]; · exact hj'
        subst z
        rw [er] at hj'; cases hj'
        have := hK.fr k kf r er
        omega
      · have : q = i + 1 := by omega
        subst this
        exact ⟨(r.1, r.2.1, r.2.2.1, (i : Int) + 1), List.mem_iff_getElem?.mpr ⟨k.toNat, List.getElem?_set_self (by omega)⟩, by show (i : Int) + 1 = _; omega⟩
  · rintro Γ ⟨st, rs, free, used, v4, v5, v6, rfl, hP, hK, hfl⟩
    rw [ups_length] at hP hK
    have em : (parts - 1).toNat = (parts - 1).toNat := rfl
    have hrl := hK.c.len
    refine ws_one (w_forI (r := rInt) (fun i Γ => ∃ st rs v6 v7 v8, Γ = [.ob (kPu.bx a b st), .ob (bRows c cs rs), .im rInt parts, .im (rList rInt) free, v4, v5, v6, v7, v8] ∧ PSt (n + 10 + i) st ∧ CallOk parts rs0 rs ∧ ∀ m k, i ≤ m → free[m]? = some k → ∀ r, rs[k.toNat]? = some r → r.2.2.2 = -1)
      (iv_list (ev_own 3 rfl (small_le (by omega)))) (bg_name 6) ⟨st, rs, _, _, _, rfl, hP.mono (by omega), ⟨hK.c, fun q q1 q2 => hK.cl q q1 (by omega)⟩, fun m k _ hk r hr => hK.fr k (List.mem_of_getElem? hk) r hr⟩ ?_ ?_)
    · rintro i k Γ hk ⟨st, rs, v6, v7, v8, rfl, hP, hC, hfr⟩
      have il := (List.getElem?_eq_some_iff.mp hk).1
      have kb := hK.bd k (List.mem_of_getElem? hk)
      have hl2 := hC.c.len
      refine WS.rowsLen 1 rfl fun hcs => ?_
      obtain ⟨r, er⟩ : ∃ r, rs[k.toNat]? = some r := ⟨_, List.getElem?_eq_getElem (by omega)⟩
      obtain ⟨bk, hbk⟩ : ∃ bk, cs[k.toNat]? = some bk := ⟨_, List.getElem?_eq_getElem (by omega)⟩
      obtain ⟨r0, er0, e1, _⟩ := hC.c.same _ r er
      have hr0 := hrow r0 (List.mem_of_getElem? er0)
      have hcol : ∀ (Γ' : Ga) (pos p1 p2 p3 : Pos) (jj : Nat), Γ'[6]? = some (.im rInt k) → Γ'[1]? = some (.ob (bRows c cs rs)) → True := fun _ _ _ _ _ _ _ _ => trivial
      refine ws_seq (w_set 7 (ev_sub (ev_sub (ev_name 2 rfl) ev_int) (ev_col 1 (c := 0) (y := r.1) (ev_rowAt 1 (ev_name 6 rfl) rfl rfl (ixN_of kb.1 (by omega)) hbk) rfl (hasRow1 (r' := r) hbk er) rfl)) ?_)
      obtain ⟨y, st1, y0, y1, hP1, hS⟩ := drawOk hP (by omega) (b := 3 * (parts - 1 - r.1) + 1) (by omega) (by omega)
      refine ws_seq (w_set 8 (ev_callU 0 CD hr (ha_cons (ev_add (ev_mul ev_int (ev_name 7 rfl) (.inl (by decide))) ev_int) ha_nil) rfl rfl (hS _)) ?_)
      refine ws_one (w_if (tv_cmp c_lt (ev_name 8 rfl) (ev_name 7 rfl)) (fun h => ?_) (fun h => ws_end ?_))
      · have h : y < parts - 1 - r.1 := of_decide_eq_true h
        refine ws_one (w_setRow 1 (y := r.1 + 1 + y) (ev_add (ev_add (ev_col 1 (c := 0) (y := r.1) (ev_rowAt 1 (ev_name 6 rfl) rfl rfl (ixN_of kb.1 (by omega)) hbk) rfl (hasRow1 (r' := r) hbk er) rfl) ev_int) (ev_name 8 rfl)) (ev_rowAt 1 (ev_name 6 rfl) rfl rfl (ixN_of kb.1 (by omega)) hbk) rfl (hasRow1 hbk er) ?_)
        refine ⟨st1, _, _, _, _, rfl, hP1.mono (by omega), ⟨hC.c.set er ⟨by omega, by omega⟩, fun q q1 q2 => ?_⟩, fun m k' hm hk' r' hr' => ?_⟩
        · obtain ⟨r', hr', e'⟩ := hC.cl q q1 q2
          obtain ⟨j', hj'⟩ := List.mem_iff_getElem?.mp hr'
          refine ⟨r', List.mem_iff_getElem?.mpr ⟨j', ?_⟩, e'⟩
          rw [List.getElem?_set_ne (fun z => ?_)]; · exact hj'
          subst z
          rw [er] at hj'; cases hj'
          have := hfr i k (Nat.le_refl _) hk r er
          omega
        · have kb' := hK.bd k' (List.mem_of_getElem? hk')
          have : k.toNat ≠ k'.toNat := fun z => by
            have e : k = k' := by omega
            subst e
            have q1 := List.getElem?_eq_some_iff.mp hk
            have q2 := List.getElem?_eq_some_iff.mp hk'
            have := (List.getElem_inj (h₀ := q1.1) (h₁ := q2.1) hK.nd).mp (q1.2.trans q2.2.symm)
            omega
          rw [List.getElem?_set_ne this] at hr'
          exact hfr m k' (by omega) hk' r' hr'
      · exact ⟨st1, _, _, _, _, rfl, hP1.mono (by omega), hC, fun m k' hm hk' r' hr' => hfr m k' (by omega) hk' r' hr'⟩
    · rintro Γ ⟨st, rs, v6, v7, v8, rfl, hP, hC, _⟩
      exact ⟨st, rs, rfl, rfl, fun _ _ _ => ⟨(), rfl, hP.mono (by omega), hC⟩⟩
end
end K1

set_option Elab.async false
set_option linter.all false
set_option maxRecDepth 100000
set_option maxHeartbeats 4000000
namespace K1
open PySem L2 Fc
open PySem.Spec hiding Row
open PyProof.Rows hiding St
open PySem.Builtin.Int (intBits)
theorem Fc_reach_mono {es es' : List (Int × Int)} {s : Int} (h : ∀ t ∈ es, t ∈ es') {k : Int} (r : Reach es s k) : Reach es' s k := Reach.mono h r
structure WGood (k : Nat) (places : List Int) (rs : List Row) : Prop where
  len : places.length = k
  part : ∀ (i : Nat) (m : Int), places[i]? = some m → ∃ ties, MGood m ties ∧ ∀ a b, (∃ r ∈ rs, r.1 = (i : Int) ∧ r.2.1 = a ∧ r.2.2.1 = b) ↔ (a, b) ∈ ties
  row : ∀ r ∈ rs, 0 ≤ r.1 ∧ r.1 < (k : Int) ∧ (r.2.2.2 = -1 ∨ (r.1 < r.2.2.2 ∧ r.2.2.2 < (k : Int)))
  call : ∀ i : Nat, 0 < i → i < k → ∃ r ∈ rs, r.2.2.2 = (i : Int)
structure WebG (v : Web) : Prop where
  good : WGood v.1.length v.1 v.2
  pl : 1 ≤ v.1.length ∧ v.1.length ≤ 4
  rl : 1 ≤ v.2.length ∧ v.2.length ≤ 60
  sz : ∀ m ∈ v.1, 2 ≤ m ∧ m ≤ 16
theorem nums_mem {xs : List Int} {x : Int × Int} : x ∈ nums xs ↔ ∃ i : Nat, x.1 = (i : Int) ∧ xs[i]? = some x.2 := by
  constructor
  · intro h
    obtain ⟨i, hi⟩ := List.mem_iff_getElem?.mp h
    exact ⟨i, nums_at hi⟩
  · rintro ⟨i, h1, h2⟩
    refine List.mem_iff_getElem?.mpr ⟨i, ?_⟩
    unfold nums
    rw [List.getElem?_map, List.getElem?_zipIdx, h2]
    obtain ⟨a, b⟩ := x
    simp at h1
    simp [h1]
theorem all_map {α : Type} {xs : List α} {g : α → Bool} : ((xs.filter fun _ => true).map g).all id = true ↔ ∀ x ∈ xs, g x = true := by
  rw [List.filter_eq_self.mpr (by simp), List.all_map, List.all_eq_true]; rfl
structure RowP (ns : List Int) (r : Row) : Prop where
  p0 : 0 ≤ r.1
  p1 : r.1 < (ns.length : Int)
  s1 : r.2.1 ≠ 1
  c0 : -1 ≤ r.2.2.2
  c1 : r.2.2.2 < (ns.length : Int)
  s0 : 0 ≤ r.2.1
  e0 : 0 ≤ r.2.2.1
  sn : r.2.1 < ns.getD r.1.toNat 0
  en : r.2.2.1 < ns.getD r.1.toNat 0
  cp : ¬ (0 ≤ r.2.2.2 ∧ r.2.2.2 ≤ r.1)
theorem leads_iff {ns : List Int} {r : Row} (q : RowP ns r) : leads ns r = true := by
  unfold leads
  have := q.p0; have := q.p1; have := q.s1; have := q.c0; have := q.c1; have := q.s0; have := q.e0; have h1 := q.sn; have h2 := q.en; have := q.cp
  rw [List.getD_eq_getElem?_getD] at h1 h2
  rw [if_neg (by simp; omega), if_neg (by simp [List.getD_eq_getElem?_getD]; omega)]
  simp
  omega
theorem WebG.rowP {v : Web} (h : WebG v) {r : Row} (hr : r ∈ v.2) : RowP v.1 r := by
  have q := h.good.row r hr
  obtain ⟨m, hm⟩ : ∃ m, v.1[r.1.toNat]? = some m := ⟨_, List.getElem?_eq_getElem (by omega)⟩
  obtain ⟨ts, hg, hts⟩ := h.good.part _ _ hm
  have b := hg.bd (r.2.1, r.2.2.1) ((hts _ _).mp ⟨r, hr, by omega, rfl, rfl⟩)
  have e : v.1.getD r.1.toNat 0 = m := by rw [List.getD_eq_getElem?_getD, hm]; rfl
  refine ⟨q.1, q.2.1, b.2.2.1, by omega, by omega, b.1, b.2.2.2.1, by rw [e]; exact b.2.1, by rw [e]; exact b.2.2.2.2, by omega⟩
theorem fwd_mem {rs : List Row} {p a b : Int} : (a, b) ∈ fwd rs p ↔ ∃ r ∈ rs, r.1 = p ∧ r.2.1 = a ∧ r.2.2.1 = b := by
  unfold fwd
  simp only [List.mem_map, List.mem_filter, decide_eq_true_eq, Prod.mk.injEq]
  constructor
  · rintro ⟨r, ⟨h1, h2⟩, h3, h4⟩; exact ⟨r, h1, h2, h3, h4⟩
  · rintro ⟨r, h1, h2, h3, h4⟩; exact ⟨r, ⟨h1, h2⟩, h3, h4⟩
theorem bwd_mem {rs : List Row} {p a b : Int} : (a, b) ∈ bwd rs p ↔ ∃ r ∈ rs, r.1 = p ∧ r.2.2.1 = a ∧ r.2.1 = b := by
  unfold bwd
  simp only [List.mem_map, List.mem_filter, decide_eq_true_eq, Prod.mk.injEq]
  constructor
  · rintro ⟨r, ⟨h1, h2⟩, h3, h4⟩; exact ⟨r, h1, h2, h3, h4⟩
  · rintro ⟨r, h1, h2, h3, h4⟩; exact ⟨r, ⟨h1, h2⟩, h3, h4⟩
theorem WebG.toEnd {v : Web} (h : WebG v) {i : Nat} {m : Int} (hi : v.1[i]? = some m) {k : Int} (k0 : 0 ≤ k) (k1 : k < m) : Reach (bwd v.2 i) 1 k := by
  obtain ⟨ts, hg, hts⟩ := h.good.part i m hi
  refine Fc_reach_mono (fun t ht => ?_) (hg.bw k k0 k1)
  obtain ⟨a, b⟩ := t
  obtain ⟨r, hr, e0, e1, e2⟩ := (hts b a).mpr (swp_mem.mp ht)
  exact bwd_mem.mpr ⟨r, hr, e0, e2, e1⟩
theorem WebG.fromBegin {v : Web} (h : WebG v) {i : Nat} {m : Int} (hi : v.1[i]? = some m) {k : Int} (k0 : 0 ≤ k) (k1 : k < m) : Reach (fwd v.2 i) 0 k := by
  obtain ⟨ts, hg, hts⟩ := h.good.part i m hi
  refine Fc_reach_mono (fun t ht => ?_) (hg.fw k k0 k1)
  obtain ⟨a, b⟩ := t
  obtain ⟨r, hr, e0, e1, e2⟩ := (hts a b).mpr ht
  exact fwd_mem.mpr ⟨r, hr, e0, e1, e2⟩
open Classical in
theorem reachN_all {es : List (Int × Int)} {s n : Int} (hes : ∀ a b, (a, b) ∈ es → 0 ≤ b ∧ b < n) (h0 : 0 ≤ s) (h1 : s < n) (h : ∀ k, 0 ≤ k → k < n → Reach es s k) : reachN es s n = true := by
  unfold reachN
  rw [decide_eq_true_eq]
  refine ⟨ups 0 n.toNat, ups_nodup _, fun k => ⟨fun hk => ?_, fun hk => ?_⟩, by rw [ups_length]; omega⟩
  · have := ups_mem.mp hk
    exact h k (by omega) (by omega)
  · have : 0 ≤ k ∧ k < n := by
      cases hk with
      | base => exact ⟨h0, h1⟩
      | step _ m => exact hes _ _ m
    exact ups_mem.mpr (by omega)
theorem WebG.isWeb {v : Web} (h : WebG v) : webF v = true := by
  have pl := h.pl
  have rl := h.rl
  have hsz : sizes v = true := by
    unfold sizes
    rw [if_neg (by simp; omega), all_map]
    intro m hm
    have := h.sz m hm
    simp; omega
  unfold webF
  rw [if_neg (by rw [hsz]; decide)]
  have h2 : (List.map (leads v.1) (List.filter (fun _ => true) v.2)).all id = true := all_map.mpr fun r hr => leads_iff (h.rowP hr)
  rw [if_neg (by rw [h2]; decide)]
  have h3 : (List.map (called v.2) (List.filter (fun _ => true) (ups (0 + 1) ((v.1.length : Int) - (0 + 1)).toNat))).all id = true := all_map.mpr fun p hp => by
    unfold ups at hp
    obtain ⟨k, hk, rfl⟩ := List.mem_map.mp hp
    have hk := List.mem_range.mp hk
    obtain ⟨r, hr1, hr2⟩ := h.good.call (k + 1) (by omega) (by omega)
    unfold called
    rw [List.filter_eq_self.mpr (by simp), List.any_map, List.any_eq_true]
    exact ⟨r, hr1, by simp [hr2]; omega⟩
  rw [if_neg (by rw [h3]; decide)]
  refine all_map.mpr fun x hx => ?_
  obtain ⟨i, h1, hi⟩ := nums_mem.mp hx
  have nb := h.sz _ (List.mem_of_getElem? hi)
  have hd : ∀ r ∈ v.2, r.1 = (i : Int) → v.1.getD r.1.toNat 0 = x.2 := fun r hr hp => by
    rw [hp, List.getD_eq_getElem?_getD, show ((i : Int)).toNat = i by omega, hi]; rfl
  unfold lieF
  rw [h1, Bool.and_eq_true]
  refine ⟨reachN_all (fun a b hab => ?_) (by decide) (by omega) fun k k0 k1 => h.fromBegin hi k0 k1, reachN_all (fun a b hab => ?_) (by decide) (by omega) fun k k0 k1 => h.toEnd hi k0 k1⟩
  · obtain ⟨r, hr, hp, e1, e2⟩ := fwd_mem.mp hab
    have q := h.rowP hr
    have q1 := q.en; rw [hd r hr hp] at q1
    rw [← e2]; exact ⟨q.e0, q1⟩
  · obtain ⟨r, hr, hp, e1, e2⟩ := bwd_mem.mp hab
    have q := h.rowP hr
    have q1 := q.sn; rw [hd r hr hp] at q1
    rw [← e2]; exact ⟨q.s0, q1⟩
end K1

set_option Elab.async false
set_option linter.all false
set_option maxRecDepth 100000
set_option maxHeartbeats 4000000
namespace K1
open PySem L2 Fc
open PySem.Spec hiding Row
open PyProof.Rows hiding St
open PySem.Builtin.Int (intBits)
def Rise (rs : List Row) (p : Nat) : Prop := ∃ rk : Int → Int, ∀ r ∈ rs, r.1 = (p : Int) → rk r.2.1 < rk r.2.2.1
structure WParts (loose : Bool) (i : Nat) (places : List Int) (rs : List Row) : Prop where
  len : places.length = i
  sz : ∀ m ∈ places, 2 ≤ m ∧ m ≤ 16
  part : ∀ (p : Nat) (m : Int), places[p]? = some m → ∃ ties, MGood m ties ∧ ∀ a b, (∃ r ∈ rs, r.1 = (p : Int) ∧ r.2.1 = a ∧ r.2.2.1 = b) ↔ (a, b) ∈ ties
  row : ∀ r ∈ rs, 0 ≤ r.1 ∧ r.1 < (i : Int) ∧ r.2.2.2 = -1
  has : ∀ p : Nat, p < i → ∃ (k : Nat) (r : Row), rs[k]? = some r ∧ r.1 = (p : Int)
  up : loose = true → ∀ p : Nat, p < i → Rise rs p
theorem WParts.nil (loose : Bool) : WParts loose 0 [] [] := ⟨rfl, by simp, by simp, by simp, fun p h => by omega, fun _ p h => by omega⟩
theorem WParts.more {loose : Bool} {i m : Nat} {places : List Int} {rs : List Row} (h : WParts loose i places rs) {size : Int} {ties : List (Int × Int)} (hp : PartOk loose m size ties) : WParts loose (i + 1) (places ++ [size]) (rs ++ ties.map fun (t : Int × Int) => ((i : Int), t.1, t.2, (-1 : Int))) := by
  have hl := h.len
  have nw : ∀ r, r ∈ ties.map (fun (t : Int × Int) => ((i : Int), t.1, t.2, (-1 : Int))) ↔ r.1 = (i : Int) ∧ r.2.2.2 = -1 ∧ (r.2.1, r.2.2.1) ∈ ties := fun r => by
    rw [List.mem_map]
    constructor
    · rintro ⟨t, ht, rfl⟩; exact ⟨rfl, rfl, ht⟩
    · rintro ⟨a, b, c⟩
      refine ⟨_, c, ?_⟩
      obtain ⟨r1, r2, r3, r4⟩ := r
      simp only at a b
      subst a; subst b; rfl
  refine ⟨by rw [List.length_append, hl]; rfl, fun z hz => ?_, fun p z hz => ?_, fun r hr => ?_, fun p hp' => ?_, fun e p hp' => ?_⟩
  · rcases List.mem_append.mp hz with q | q
    · exact h.sz z q
    · rw [List.mem_singleton.mp q]; exact ⟨hp.good.m2, hp.le⟩
  · rcases Nat.lt_or_ge p i with pl | pl
    · rw [List.getElem?_append_left (by omega)] at hz
      obtain ⟨ts, g1, g2⟩ := h.part p z hz
      refine ⟨ts, g1, fun a b => ?_⟩
      rw [← g2 a b]
      constructor
      · rintro ⟨r, hr, r1, r2⟩
        rcases List.mem_append.mp hr with q | q
        · exact ⟨r, q, r1, r2⟩
        · have := ((nw r).mp q).1; omega
      · rintro ⟨r, hr, r1⟩; exact ⟨r, List.mem_append_left _ hr, r1⟩
    · have pe : p = i := by
        have := (List.getElem?_eq_some_iff.mp hz).1
        rw [List.length_append, hl] at this
        simp at this; omega
      subst pe
      rw [List.getElem?_append_right (by omega), hl, Nat.sub_self] at hz
      have hz : size = z := by simpa using hz
      subst hz
      refine ⟨ties, hp.good, fun a b => ?_⟩
      constructor
      · rintro ⟨r, hr, r1, r2, r3⟩
        rcases List.mem_append.mp hr with q | q
        · have := (h.row r q).2.1; omega
        · have := ((nw r).mp q).2.2
          rw [r2, r3] at this; exact this
      · intro hab
        exact ⟨((p : Int), a, b, -1), List.mem_append_right _ ((nw _).mpr ⟨rfl, rfl, hab⟩), rfl, rfl, rfl⟩
  · rcases List.mem_append.mp hr with q | q
    · have := h.row r q; exact ⟨this.1, by omega, this.2.2⟩
    · have := (nw r).mp q; exact ⟨by omega, by omega, this.2.1⟩
  · rcases Nat.lt_or_ge p i with pl | pl
    · obtain ⟨k, r, a, b⟩ := h.has p pl
      exact ⟨k, r, by rw [List.getElem?_append_left (List.getElem?_eq_some_iff.mp a).1]; exact a, b⟩
    · have pe : p = i := by omega
      subst pe
      have tl := hp.len
      have hm : ((p : Int), (ties[0]'(by omega)).1, (ties[0]'(by omega)).2, (-1 : Int)) ∈ rs ++ ties.map fun (t : Int × Int) => ((p : Int), t.1, t.2, (-1 : Int)) := List.mem_append_right _ (List.mem_map.mpr ⟨_, List.getElem_mem (by omega), rfl⟩)
      obtain ⟨k, hk⟩ := List.mem_iff_getElem?.mp hm
      exact ⟨k, _, hk, rfl⟩
  · rcases Nat.lt_or_ge p i with pl | pl
    · obtain ⟨rk, hrk⟩ := h.up e p pl
      refine ⟨rk, fun r hr r1 => ?_⟩
      rcases List.mem_append.mp hr with q | q
      · exact hrk r q r1
      · have := ((nw r).mp q).1; omega
    · have pe : p = i := by omega
      subst pe
      obtain ⟨rk, hrk⟩ := hp.up e
      refine ⟨rk, fun r hr r1 => ?_⟩
      rcases List.mem_append.mp hr with q | q
      · have := (h.row r q).2.1; omega
      · exact hrk _ ((nw r).mp q).2.2
structure WebL (loose : Bool) (v : Web) : Prop where
  g : WebG v
  le : v.2.length ≤ 30
  up : loose = true → ∀ p : Nat, p < v.1.length → Rise v.2 p
theorem webL_mk {loose : Bool} {parts : Nat} {places : List Int} {rs0 rs rs' : List Row} (h : WParts loose parts places rs0) (p1 : 1 ≤ parts) (p4 : parts ≤ 4) (hc : CallOk (parts : Int) rs0 rs) (hl : rs0.length ≤ 30) (hm : ∀ r, r ∈ rs' ↔ r ∈ rs) (hl' : rs'.length = rs.length) : WebL loose (places, rs') := by
  have hlen := h.len
  have fw : ∀ r ∈ rs, ∃ r0 ∈ rs0, r.1 = r0.1 ∧ r.2.1 = r0.2.1 ∧ r.2.2.1 = r0.2.2.1 := fun r hr => by
    obtain ⟨k, hk⟩ := List.mem_iff_getElem?.mp hr
    obtain ⟨r0, a, b⟩ := hc.c.same k r hk
    exact ⟨r0, List.mem_of_getElem? a, b⟩
  have bw : ∀ r0 ∈ rs0, ∃ r ∈ rs, r.1 = r0.1 ∧ r.2.1 = r0.2.1 ∧ r.2.2.1 = r0.2.2.1 := fun r0 hr => by
    obtain ⟨k, hk⟩ := List.mem_iff_getElem?.mp hr
    have kl := (List.getElem?_eq_some_iff.mp hk).1
    have kl2 : k < rs.length := by rw [hc.c.len]; exact kl
    obtain ⟨r0', a, b⟩ := hc.c.same k _ (List.getElem?_eq_getElem kl2)
    rw [hk] at a; cases a
    exact ⟨_, List.getElem_mem kl2, b⟩
  have n1 : 1 ≤ rs'.length := by
    obtain ⟨k, r, a, _⟩ := h.has 0 (by omega)
    have := (List.getElem?_eq_some_iff.mp a).1
    rw [hl', hc.c.len]; omega
  refine ⟨⟨⟨rfl, fun i m hi => ?_, fun r hr => ?_, fun i i0 i1 => ?_⟩, by show 1 ≤ places.length ∧ places.length ≤ 4; omega, by show 1 ≤ rs'.length ∧ rs'.length ≤ 60; rw [hl', hc.c.len] at *; omega, h.sz⟩, by show rs'.length ≤ 30; rw [hl', hc.c.len]; exact hl, fun e p hp => ?_⟩
  · obtain ⟨ties, g1, g2⟩ := h.part i m hi
    refine ⟨ties, g1, fun a b => ?_⟩
    rw [← g2 a b]
    constructor
    · rintro ⟨r, hr, r1, r2, r3⟩
      obtain ⟨r0, h0, e1, e2, e3⟩ := fw r ((hm r).mp hr)
      exact ⟨r0, h0, by omega, by omega, by omega⟩
    · rintro ⟨r0, h0, r1, r2, r3⟩
      obtain ⟨r, hr, e1, e2, e3⟩ := bw r0 h0
      exact ⟨r, (hm r).mpr hr, by omega, by omega, by omega⟩
  · have hr := (hm r).mp hr
    obtain ⟨r0, h0, e1, _⟩ := fw r hr
    have a := h.row r0 h0
    have b := hc.c.ok r hr
    show 0 ≤ r.1 ∧ r.1 < (places.length : Int) ∧ (r.2.2.2 = -1 ∨ (r.1 < r.2.2.2 ∧ r.2.2.2 < (places.length : Int)))
    omega
  · have i1 : i < places.length := i1
    obtain ⟨r, hr, e⟩ := hc.cl i i0 (by omega)
    exact ⟨r, (hm r).mpr hr, e⟩
  · have hp : p < places.length := hp
    obtain ⟨rk, hrk⟩ := h.up e p (by omega)
    refine ⟨rk, fun r hr r1 => ?_⟩
    obtain ⟨r0, h0, e1, e2, e3⟩ := fw r ((hm r).mp hr)
    have := hrk r0 h0 (by omega)
    rw [e2, e3]; exact this
section
variable {P : Program} {w : World} {K : PySem.W.Frag} {mg : Str → Option Value} {base : Heap} {f : Addr} {fd : FuncData}
abbrev sWB : Stmt := top at__law_web
abbrev nWB : List Str := ["_law_purse_here", "_law_loose", "_law_parts", "_law_left", "_law_places", "_law_rows", "_law_part_here", "_law_many_here", "_law_size", "_law_told"]
theorem scWB : FnScope nWB ["_law_purse_here", "_law_loose"] (defScope sWB) := ⟨rfl, rfl, rfl, by decide +kernel, rfl, by decide +kernel, by decide +kernel⟩
def SWB : SpU Pu := fun K s ps T => ∃ (n : Int) (loose : Bool), PSt n s ∧ n ≤ 1000 ∧ ps = [⟨rBool, loose⟩] ∧ T = fun s' => rtP K rWeb fun v => PSt (n + 2000) s' ∧ WebL loose v
theorem ok_WB (M : Mods mg) (CD : Cal P w K mg base "_law_draw" 1 (spU kPu SDR K)) (CO : Cal P w K mg base "_law_order" 2 (spU kPu SOR K)) (CP : Cal P w K mg base "_law_part" 3 (spU kPu SPT K)) (CC : Cal P w K mg base "_law_called" 2 (spUR SCL K)) (F : Fun K "_law_web" "_law_web" sWB f fd) (hm : mg "_law_web" = some (.ref f)) (hb : Binds K fd ["_law_purse_here", "_law_loose"] []) : Cal P w K mg base "_law_web" 4 (spU kPu SWB K) := by
  have nd := scWB.nd
  have nd1 : List.Nodup [("_law_one" : Str), "_law_other", "_law_part_here"] := by decide
  have nd2 : List.Nodup [("_law_k" : Str), "_law_rows"] := by decide
  have CD := CD.mono (show 1 ≤ 3 by decide)
  have CO := CO.mono (show 2 ≤ 3 by decide)
  have CC := CC.mono (show 2 ≤ 3 by decide)
  refine fnU_ok F scWB hm hb (fun xs qs T ⟨_, _, _, _, e, _⟩ => by rw [e]; rfl) (fun cdv A outer s H E a b st qs T hr hS => ?_)
  obtain ⟨n, loose, hP, n1, rfl, rfl⟩ := hS
  have n0 : 0 ≤ n := Int.le_trans hP.t0 hP.t1
  change WS _ _ [.ob (kPu.bx a b st), .im rBool loose, .no, .no, .no, .no, .no, .no, .no, .no] _ _
  obtain ⟨d, st1, d0, d1, hP1, hS1⟩ := drawOk hP (by omega) (b := 4) (by decide) (by decide)
  refine ws_seq (w_set 2 (ev_add ev_int (ev_callU 0 CD hr (ha_cons ev_int ha_nil) rfl rfl (hS1 _))) ?_)
  obtain ⟨parts, hparts⟩ : ∃ parts : Nat, 1 + d = (parts : Int) := ⟨(1 + d).toNat, by omega⟩
  rw [hparts]
  refine ws_seq (w_set 3 (ev_sub ev_int (ev_name 2 rfl)) ?_)
  refine ws_seq (w_setL 4 (r := rInt) (evl_lst ea_nil (by decide)) (ws_seq (w_setL 5 (r := rInt) (evl_lst ea_nil (by decide)) ?_)))
  refine WS.boxRows 5 rfl fun c => ?_
  refine ws_seq (w_forI (r := rInt) (fun i Γ => ∃ st left places c cs rs v6 v7 v8 v9, Γ = [.ob (kPu.bx a b st), .im rBool loose, .im rInt (parts : Int), .im rInt left, .mu rInt places, .ob (bRows c cs rs), v6, v7, v8, v9] ∧ PSt (n + 1 + 202 * i) st ∧ WParts loose i places rs ∧ 0 ≤ left ∧ (rs.length : Int) + left = 29 - parts + i)
    (iv_range1 M.range (ev_name 2 rfl) ⟨by omega, by omega⟩) (bg_name 6) ⟨st1, _, [], c, [], [], _, _, _, _, rfl, hP1.mono (by omega), WParts.nil loose, by omega, by simp⟩ ?_ ?_)
  · rintro i x Γ hx ⟨st, left, places, c, cs, rs, v6, v7, v8, v9, rfl, hP, hW, l0, hl⟩
    obtain ⟨hi, rfl⟩ := ups_at hx
    have e0 : (0 : Int) + (i : Int) = (i : Int) := by omega
    rw [e0]
    change WS _ _ [.ob (kPu.bx a b st), .im rBool loose, .im rInt (parts : Int), .im rInt left, .mu rInt places, .ob (bRows c cs rs), .im rInt (i : Int), v7, v8, v9] _ _
    obtain ⟨c3, st2, c0, c1, hP2, hS2⟩ := drawOk hP (by omega) (b := 3) (by decide) (by decide)
    obtain ⟨q, hq, q0, q1⟩ : ∃ q : Int, atI [(4 : Int), 8, 30] c3 = some q ∧ 4 ≤ q ∧ q ≤ 30 := by
      rcases (show c3 = 0 ∨ c3 = 1 ∨ c3 = 2 by omega) with rfl | rfl | rfl
      · exact ⟨4, rfl, by decide, by decide⟩
      · exact ⟨8, rfl, by decide, by decide⟩
      · exact ⟨30, rfl, by decide, by decide⟩
    obtain ⟨y, st3, y0, y1, hP3, hS3⟩ := drawOk hP2 (by omega) (b := q) (by omega) (by omega)
    refine ws_seq (w_set 7 (ev_min2 M.min (ha_cons (ev_name 3 rfl) (ha_cons (ev_callU 0 CD hr (ha_cons (ev_ixL (EVL.im (evl_lst (ea_cons ev_int (ea_cons ev_int (ea_cons ev_int ea_nil))) (by show 3 ≤ sizeLine; decide))) (ev_callU 0 CD hr (ha_cons ev_int ha_nil) rfl rfl (hS2 _)) hq) ha_nil) rfl rfl (hS3 _)) ha_nil))) ?_)
    obtain ⟨m, hm'⟩ : ∃ m : Nat, (if y < left then y else left) = (m : Int) := ⟨(if y < left then y else left).toNat, by split <;> omega⟩
    rw [hm']
    have ml : (m : Int) ≤ left := by rw [← hm']; split <;> omega
    refine ws_seq (w_set 3 (ev_sub (ev_name 3 rfl) (ev_name 7 rfl)) ?_)
    refine ws_seq (w_callUB 0 CP hr (ha_cons (ev_name 7 rfl) (ha_cons (ev_name 1 rfl) ha_nil)) rfl rfl ⟨n + 1 + 202 * i + 1 + 1, m, loose, hP3, by omega, rfl, by omega, rfl⟩ (bg_pair 8 9) ?_)
    rintro st4 ⟨size, told⟩ ⟨hP4, hPO⟩
    have tl : told.length = m + 1 := hPO.len
    have wl := hW.len
    have ple : parts ≤ 4 := by omega
    refine ws_seq (w_append 4 (ev_name 8 rfl) rfl rfl (Nat.lt_of_le_of_lt (show places.length ≤ 100 by omega) (by decide)) ?_)
    refine ws_one (w_rowsCat 5 (own := ["_law_one", "_law_other"]) (fr := ["_law_part_here"]) (ix := [6]) (ra := rTwo rInt) (f := fun (t : Int × Int) => ((i : Int), t.1, t.2, (-1 : Int))) (comp_mk (so := defScope sWB) (N0 := nWB) rfl rfl (fun x h => cell_has h) (by decide +kernel)) (iv_list (ev_name 9 rfl))
      (fun C s H ex => bg_lst2 0 1) (fun x => ⟨.inr rfl, .inr rfl, .inl rfl, trivial⟩) (fun x => ⟨trivial, trivial, trivial, trivial⟩) (fun C s H ex x hx => evl_lst (ea_cons (ev_name 2 rfl) (ea_cons (ev_name 0 rfl) (ea_cons (ev_name 1 rfl) (ea_cons (ev_neg ev_int) ea_nil)))) (by show 4 ≤ sizeLine; decide)) rfl (small_le (by show rs.length + told.length ≤ _; omega)) fun dd bs => ?_)
    exact ⟨st4, _, _, _, _, _, _, _, _, _, rfl, hP4.mono (by omega), hW.more hPO, by omega, by rw [List.length_append, List.length_map]; show ((rs.length + told.length : Nat) : Int) + _ = _; omega⟩
  · rintro Γ ⟨st, left, places, c, cs, rs, v6, v7, v8, v9, rfl, hP, hW, l0, hl⟩
    rw [ups_length, show ((parts : Int)).toNat = parts by omega] at hP hW hl
    have wl := hW.len
    refine ws_seq (w_callUR 0 5 CC hr (by decide) (ha_cons (ev_name 2 rfl) ha_nil) rfl rfl ⟨n + 1 + 202 * parts, (parts : Int), hP, by omega, rfl, by omega, by omega, by omega, fun r hr => hW.row r hr, fun q hq => hW.has q (by omega), rfl⟩ ?_)
    rintro st1 rs1 ⟨hP1, hC⟩
    have rl := hC.c.len
    change WS _ _ [.ob (kPu.bx a b st1), .im rBool loose, .im rInt (parts : Int), .im rInt left, .mu rInt places, .ob (bRows c cs rs1), v6, v7, v8, v9] _ _
    refine WS.outer 5 rfl ?_
    refine WS.frzRows 5 rfl (small_le (by omega)) ?_
    change WS _ _ [.ob (kPu.bx a b st1), .im rBool loose, .im rInt (parts : Int), .im rInt left, .mu rInt places, .im (rList rLrow) rs1, v6, v7, v8, v9] _ _
    obtain ⟨xs, st2, hP2, hX, hS⟩ := orderOk hP1 (by omega) (by omega) (m := rs1.length) (by omega)
    have xl := hX.len
    have hid : ((xs.filter fun _ => true).map fun k => rs1.getD k.toNat noRow) = xs.map fun k => rs1.getD k.toNat noRow := by rw [List.filter_eq_self.mpr (by simp)]
    refine ws_one (w_retU 0 (B := kPu) (y := (places, xs.map fun k => rs1.getD k.toNat noRow)) (ev_pair (r := rList rInt) (r' := rList rRow) (ha_cons (ev_own 4 rfl (small_le (by omega))) (ha_cons (EV.cast (EVL.im (evl_comp (own := ["_law_k"]) (fr := ["_law_rows"]) (ix := [5]) (ra := rInt) (rb := rRow) (p := fun _ => true) (f := fun k => rs1.getD k.toNat noRow) (comp_mk (so := defScope sWB) (N0 := nWB) rfl rfl (fun x h => cell_has h) (by decide +kernel)) (iv_list (ev_callU 0 CO hr (ha_cons (ev_len M.len (ev_name 5 rfl)) ha_nil) rfl rfl (hS _)))
      (fun C s H ex => bg_name 0) (fun x => ⟨.inr rfl, .inl rfl, trivial⟩) (fun C s H ex x hx => tf_nil) (fun C s H ex x hx _ => ev_tupRow M.tuple (ev_ixL (ev_name 1 rfl) (ev_name 0 rfl) (atI_getDG noRow ((hX.mem x).mp hx).1 ((hX.mem x).mp hx).2))))) hid) ha_nil))) rfl ⟨hP2.mono (by omega), webL_mk hW (by omega) (by omega) hC (by omega) (fun r => ?_) (by rw [List.length_map]; exact xl)⟩)
    rw [List.mem_map]
    constructor
    · rintro ⟨k, hk, rfl⟩
      have kb := (hX.mem k).mp hk
      rw [List.getD_eq_getElem?_getD, List.getElem?_eq_getElem (by omega)]
      exact List.getElem_mem _
    · intro hr'
      obtain ⟨j, hj⟩ := List.mem_iff_getElem?.mp hr'
      have jl := (List.getElem?_eq_some_iff.mp hj).1
      exact ⟨(j : Int), (hX.mem _).mpr (by omega), by rw [show ((j : Int)).toNat = j by omega, List.getD_eq_getElem?_getD, hj]; rfl⟩
end
end K1

set_option Elab.async false
set_option linter.all false
set_option maxRecDepth 100000
set_option maxHeartbeats 4000000
namespace Fc
open PySem PySem.Spec L2
open PyProof.Rows hiding St
section
variable {X : Cx} {Γ Γ1 Γ2 Γ3 : Ga} {α β γ δ : Type} {N : Ga → Prop} {T : RT}
theorem evl_listRow {a : Expr} {p pos : Pos} {r : Row} (hm : X.mg "list" = none) (ha : EV X a Γ rRow r Γ1) (hs : starEach [a] X.env = [(false, eval a X.env)] := by rfl) (hg : Gl X "list" := by rfl) : EVL X (.Call (.Name "list" p) [a] [] pos) Γ rInt (rowI r) Γ1 := fun σ H0 R0 H R E Q q => by
  refine eS (pe_callTy call_list_of hg hm PyProof.Rows.boot_list (pa_cons peS pa_nil hs) (by decide) (by decide) hs) (ha σ H0 R0 H R E _ fun v H1 R1 E1 s1 e1 => ?_)
  obtain ⟨b, rfl, hb⟩ := e1
  refine ⟨b, _, rfl, .inr (SqT.of (E1.sub _ _ hb)), fun l hl => ?_⟩
  exact q l _ _ R1 (E1.grow (Ext.freshM E1.sub hl _)) s1 upd_same (E1.sub.free hl) (E1.ext.h.free hl) (E1.off hl) (paired_ints (rowI r)) (by show 4 ≤ sizeLine; decide)
theorem EV.lrow {e : Expr} {r : Row} (h : EV X e Γ (rList rInt) (rowI r) Γ1) : EV X e Γ rLrow r Γ1 := EV.rep h fun K R q => by
  obtain ⟨b, vs, e, hb, pp, _⟩ := q
  exact ⟨b, e, by rw [hb, ints_of pp]; rfl⟩
end
end Fc
namespace K1
open PySem L2 Fc
open PySem.Spec hiding Row
open PyProof.Rows hiding St
open PySem.Builtin.Int (intBits)
def rowOf (v : Web) (k : Int) : Row := v.2.getD k.toNat noRow
section
variable {P : Program} {w : World} {K : PySem.W.Frag} {mg : Str → Option Value} {base : Heap} {f : Addr} {fd : FuncData}
abbrev sCP : Stmt := top at__law_copy
theorem scCP : FnScope ["_law_web_here"] ["_law_web_here"] (defScope sCP) := ⟨rfl, rfl, rfl, by decide +kernel, rfl, by decide +kernel, by decide +kernel⟩
def SCP : SpD := fun K ps T => ∃ v : Web, ps = [⟨rWeb, v⟩] ∧ T = rtP K rWeb (· = v)
theorem ok_CP (M : Mods mg) (F : Fun K "_law_copy" "_law_copy" sCP f fd) (hm : mg "_law_copy" = some (.ref f)) (hb : Binds K fd ["_law_web_here"] []) : Cal P w K mg base "_law_copy" 1 (spG SCP K) := by
  have nd := scCP.nd
  have nd1 : List.Nodup [("_law_row" : Str)] := by decide
  refine fn_ok F scCP hm hb (fun qs T ⟨_, e, _⟩ => by rw [e]; rfl) (fun cdv A outer s H E qs T hr hS => ?_)
  obtain ⟨v, rfl, rfl⟩ := hS
  change WS _ _ [.im (rPair (rList rInt) (rList rRow)) v] _ _
  have hid : ((v.2.filter fun _ => true).map fun r => r) = v.2 := by rw [List.filter_eq_self.mpr (by simp)]; simp
  exact ws_one (w_ret (r := rPair (rList rInt) (rList rRow)) (ev_pair (ha_cons (EVL.im (evl_list M.list (ev_fst (r := rList rInt) (r' := rList rRow) (ev_name 0 rfl)))) (ha_cons (EV.cast (EVL.im (evl_comp (own := ["_law_row"]) (fr := []) (ix := []) (ra := rRow) (rb := rRow) (p := fun _ => true) (f := fun r => r) (comp_mk (so := defScope sCP) (N0 := ["_law_web_here"]) rfl rfl (fun x h => cell_has h) (by decide +kernel)) (iv_list (ev_snd (r := rList rInt) (r' := rList rRow) (ev_name 0 rfl)))
    (fun C s H ex => bg_name 0) (fun x => ⟨.inr rfl, trivial⟩) (fun C s H ex x hx => tf_nil) (fun C s H ex x hx _ => ev_tupRow M.tuple (EV.lrow (EVL.im (evl_listRow M.list (ev_name 0 rfl))))))) hid) ha_nil))) rfl)
end
end K1

set_option Elab.async false
set_option linter.all false
set_option maxRecDepth 100000
set_option maxHeartbeats 4000000
namespace Fc
open PySem PySem.Spec L2
open PyProof.Rows hiding St
section
variable {X : Cx} {Γ Γ1 Γ2 Γ3 : Ga} {α β γ δ : Type} {N : Ga → Prop} {T : RT}
end
end Fc
namespace K1
open PySem L2 Fc
open PySem.Spec hiding Row
open PyProof.Rows hiding St
open PySem.Builtin.Int (intBits)
section
variable {P : Program} {w : World} {K : PySem.W.Frag} {mg : Str → Option Value} {base : Heap} {f : Addr} {fd : FuncData}
abbrev sNW : Stmt := top at_need_web
theorem scNW : FnScope ["web"] ["web"] (defScope sNW) := ⟨rfl, rfl, rfl, by decide +kernel, rfl, by decide +kernel, by decide +kernel⟩
def SNW : SpD := fun K ps T => ∃ v : Web, ps = [⟨rWeb, v⟩] ∧ WebG v ∧ T = rtP K rNon (fun _ => True)
theorem ok_NW (CW : Cal P w K mg base "is_web" 5 (spG SWE K)) (F : Fun K "need_web" "need_web" sNW f fd) (hm : mg "need_web" = some (.ref f)) (hb : Binds K fd ["web"] []) : Cal P w K mg base "need_web" 6 (spG SNW K) := by
  have nd := scNW.nd
  refine fnN_ok F scNW hm hb (fun qs T ⟨_, e, _⟩ => by rw [e]; rfl) (fun cdv A outer s H E qs T hr hS => ?_)
  obtain ⟨v, rfl, hv, rfl⟩ := hS
  have pl := hv.pl
  have rl := hv.rl
  refine ⟨fun _ _ _ => ⟨(), rfl, trivial⟩, ?_⟩
  change WS _ _ [.im rWeb v] _ _
  refine ws_one (w_if (tv_not (tv_bool (ev_call CW hr (ha_cons (ev_name 0 rfl) ha_nil) ⟨v, rfl, by omega, by omega, rfl⟩))) (fun h => ?_) (fun h => ws_end trivial))
  rw [hv.isWeb] at h; exact absurd h (by decide)
end
end K1

set_option Elab.async false
set_option linter.all false
set_option maxRecDepth 100000
set_option maxHeartbeats 4000000
namespace Fc
open PySem PySem.Spec L2
open PyProof.Rows hiding St
section
variable {X : Cx} {Γ Γ1 Γ2 Γ3 : Ga} {α β γ δ : Type} {N : Ga → Prop} {T : RT}
theorem get_list : PGet X (fun x y H Q => ∃ p xs i v, x = .ref p ∧ y = .int i ∧ 0 ≤ i ∧ SqL X.K H p xs ∧ atI xs i = some v ∧ Q v H) := by
  intro pins s σ H x y v u Q I rx ry h
  obtain ⟨p, xs, i, z, rfl, rfl, h0, hq, he, q⟩ := h
  cases rx
  obtain ⟨t, rfl⟩ := ry
  obtain ⟨its, r, pl, hz⟩ := I.list hq
  obtain ⟨j, h1, h2, h3, h4, h5⟩ := atI_get he
  obtain ⟨w, ew, rw'⟩ := r.get h2
  have hl := r.length
  have hn := line63
  have hj : i.toNat = j := by
    rw [seqIndex_of h0 h5] at h1
    exact Option.some.inj h1
  exact wpAny_getItem_list pl.isList h0 (by omega) (by rw [hj]; simpa using ew) ⟨z, H, I, rw', q⟩
theorem w_augixV (i : Nat) {x : Str} {b e : Expr} {p1 p2 pos : Pos} {c : Int} {xs : List Int} {y k : Int} {j : Nat} (hb : EV X b Γ rInt k Γ) (he : EV X e Γ rInt c Γ) (hΓ : Γ[i]? = some (.mu rInt xs)) (k0 : 0 ≤ k) (hj : ixN xs.length k = some j) (hy : atI xs k = some y) (h : N (Γ.set i (.mu rInt (xs.set j (y + c)))))
    (hN : X.N[i]? = some x := by rfl) (hv : Vis X.env.scope x := by first | exact Or.inl rfl | exact Or.inr (Or.inl rfl) | exact Or.inr (Or.inr rfl))
    (hd : (x == ("__debug__" : Str)) = false := by decide) (hcd : (x == ("__classdict__" : Str)) = false := by decide)
    (ha : ∀ ov iv new, augStore b ov iv new = (do holding [new, ov, iv] (setItem ov iv new); release [new, ov, iv] []; pure .next) := by intros; rfl) :
    W1 X (.AugAssign (.Subscript (.Name x p1) b p2) .Add e pos) Γ N T := fun σ H0 R0 H R E D dn dr => by
  obtain ⟨a, vs, ea, hp, hR, pp⟩ := E.ent i _ hΓ
  refine sS (ps_augS (pe_var hN hv hd hcd) peS get_list peS ip_add set_list ha) ⟨.ref a, at_of ea, hb σ H0 R0 H R E _ fun u H2 R2 E2 s2 e2 => ?_⟩
  obtain ⟨a', vs', ea', ha', hR', pp'⟩ := E2.ent i _ hΓ
  rw [ea] at ea'; cases ea'
  obtain ⟨w, e3, e4⟩ := paired_atI pp' hy
  cases (show w = V.int y from e4)
  refine ⟨a, vs', k, .int y, rfl, e2, k0, SqL.of ha', e3, he σ H0 R0 H2 R2 E2 _ fun u3 H3 R3 E3 s3 e5 => ?_⟩
  obtain ⟨a', vs3, ea', ha3, hR3, pp3⟩ := E3.ent i _ hΓ
  rw [ea] at ea'; cases ea'
  cases (show u3 = V.int c from e5)
  refine ⟨y, c, rfl, rfl, a, vs3, k, j, rfl, e2, ha3, by rw [pp3.length]; exact hj, ?_⟩
  exact dn σ _ R3 _ (E3.upd (en := .mu rInt (xs.set j (y + c))) hΓ rfl ea hR3 ⟨a, _, rfl, upd_same, hR3, paired_set (F := rInt.R X.K R3) (v := .int (y + c)) rfl j pp3⟩) (s2.trans s3) h
end
end Fc

set_option Elab.async false
set_option linter.all false
set_option maxRecDepth 100000
set_option maxHeartbeats 4000000
namespace Fc
open PySem PySem.Spec L2
open PyProof.Rows hiding St
section
variable {X : Cx} {Γ Γ1 Γ2 Γ3 : Ga} {α β γ δ : Type} {N : Ga → Prop} {T : RT}
theorem frzLst2 {i j : Nat} {r : Rep α} {r' : Rep β} {xs : List α} {ys : List β} (hij : i ≠ j) (hΓ : Γ[i]? = some (.mu r xs)) (hj : Γ[j]? = some (.mu r' ys)) (hz : xs.length ≤ sizeLine) (hz' : ys.length ≤ sizeLine) (σ : St) (H0 R0 H R : Hp) (E : EnvOk X.K σ H0 R0 H R Γ) : EnvOk X.K σ H H H H (((Γ.map lentE).set i (.im (rList r) xs)).set j (.im (rList r') ys)) := by
  obtain ⟨a, vs, ea, ha, hR, pp⟩ := E.ent i _ hΓ
  obtain ⟨b, ws, eb, hb, hRb, pq⟩ := E.ent j _ hj
  have E1 := E.frz.tellG (i := i) (e0 := .no) (en := .im (rList r) xs) (by rw [List.getElem?_map, hΓ]; rfl) ⟨.ref a, ea, a, vs, rfl, ha, Paired.map (fun _ _ => r.mono E.sub) pp, hz⟩ fun b w => by cases w
  exact E1.tellG (i := j) (e0 := .no) (by rw [List.getElem?_set_ne hij, List.getElem?_map, hj]; rfl) ⟨.ref b, eb, b, ws, rfl, hb, Paired.map (fun _ _ => r'.mono E.sub) pq, hz'⟩ fun b w => by cases w
end
end Fc
namespace K1
open PySem L2 Fc
open PySem.Spec hiding Row
open PyProof.Rows hiding St
open PySem.Builtin.Int (intBits)
theorem mul01 {b : Bool} {x : Int} : CMul x (if b = true then 1 else 0) := .inr (by cases b <;> decide)
theorem cut_sub3 {α : Type} (xs : List α) (l h : Option Int) : ∀ x ∈ cut xs l h, x ∈ xs := by
  intro x hx
  unfold cut at hx
  first | exact List.mem_of_mem_drop (List.mem_of_mem_take hx) | exact List.mem_of_mem_take (List.mem_of_mem_drop hx) | (simp at hx; exact hx)
section
variable {P : Program} {w : World} {K : PySem.W.Frag} {mg : Str → Option Value} {base : Heap} {f : Addr} {fd : FuncData}
abbrev sWH : Stmt := top at__law_whole
theorem scWH : FnScope ["_law_found"] ["_law_found"] (defScope sWH) := ⟨rfl, rfl, rfl, by decide +kernel, rfl, by decide +kernel, by decide +kernel⟩
def SWH : SpD := fun K ps T => ∃ x : Int, ps = [⟨rInt, x⟩] ∧ T = rtP K rBool (· = true)
theorem ok_WH (M : Mods mg) (F : Fun K "_law_whole" "_law_whole" sWH f fd) (hm : mg "_law_whole" = some (.ref f)) (hb : Binds K fd ["_law_found"] []) : Cal P w K mg base "_law_whole" 1 (spG SWH K) := by
  have nd := scWH.nd
  refine fn_ok F scWH hm hb (fun qs T ⟨x, e, _⟩ => by rw [e]; rfl) (fun cdv A outer s H E qs T hr hS => ?_)
  obtain ⟨x, rfl, rfl⟩ := hS
  exact ws_one (w_ret (ev_and (ev_isinst M.isinstance M.int PyProof.Rows.boot_int (ev_name 0 rfl) ty_int) (fun _ => ev_one (ev_not (ev_isinst M.isinstance M.bool boot_bool (ev_name 0 rfl) ty_int)))) rfl)
end
end K1

set_option Elab.async false
set_option linter.all false
set_option maxRecDepth 100000
set_option maxHeartbeats 4000000
namespace K1
open PySem L2 Fc
open PySem.Spec hiding Row
open PyProof.Rows hiding St
open PySem.Builtin.Int (intBits)
def sumOf (rs : List Row) (xs : List Int) (p : Int) : Int := ((rs.filter fun r => decide (r.2.2.2 = p)).map fun r => xs.getD r.1.toNat 0).sum
def manyL (v : Web) : Nat → List Int
  | 0 => [1]
  | i + 1 => manyL v i ++ [sumOf v.2 (manyL v i) ((i : Int) + 1)]
def manyF (v : Web) : List Int := manyL v (v.1.length - 1)
theorem manyL_len (v : Web) : ∀ i, (manyL v i).length = i + 1
  | 0 => rfl
  | i + 1 => by rw [manyL, List.length_append, manyL_len v i]; rfl
def offAt (v : Web) (k : Int) : Int := sumOf (cut v.2 none (some k)) (manyF v) (rowOf v k).2.2.2 * (if decide (0 ≤ (rowOf v k).2.2.2) = true then 1 else 0)
def offF (v : Web) : List Int := (ups 0 v.2.length).map (offAt v)
section
variable {P : Program} {w : World} {K : PySem.W.Frag} {mg : Str → Option Value} {base : Heap} {f : Addr} {fd : FuncData}
abbrev sMN : Stmt := top at__law_many
abbrev nMN : List Str := ["_law_web_here", "_law_many_here", "_law_part_here"]
theorem scMN : FnScope nMN ["_law_web_here"] (defScope sMN) := ⟨rfl, rfl, rfl, by decide +kernel, rfl, by decide +kernel, by decide +kernel⟩
def SMN : SpD := fun K ps T => ∃ v : Web, ps = [⟨rWeb, v⟩] ∧ WebG v ∧ T = rtP K (rList rInt) (· = manyF v)
theorem ok_MN (M : Mods mg) (F : Fun K "_law_many" "_law_many" sMN f fd) (hm : mg "_law_many" = some (.ref f)) (hb : Binds K fd ["_law_web_here"] []) : Cal P w K mg base "_law_many" 1 (spG SMN K) := by
  have nd := scMN.nd
  have nd1 : List.Nodup [("_law_row" : Str), "_law_many_here", "_law_part_here"] := by decide
  refine fn_ok F scMN hm hb (fun qs T ⟨_, e, _⟩ => by rw [e]; rfl) (fun cdv A outer s H E qs T hr hS => ?_)
  obtain ⟨v, rfl, hv, rfl⟩ := hS
  have pl := hv.pl
  have rl := hv.rl
  change WS _ _ [.im (rPair (rList rInt) (rList rRow)) v, .no, .no] _ _
  refine ws_seq (w_setL 1 (r := rInt) (evl_lst (ea_cons ev_int ea_nil) (by show 1 ≤ sizeLine; decide)) ?_)
  refine ws_seq (w_forI (r := rInt) (fun i Γ => ∃ v2, Γ = [.im (rPair (rList rInt) (rList rRow)) v, .mu rInt (manyL v i), v2])
    (iv_range2 M.range ev_int (ev_len M.len (ev_fst (ev_name 0 rfl))) ⟨by decide, by decide, by omega, by omega⟩) (bg_name 2) ⟨_, rfl⟩ ?_ ?_)
  · rintro i x Γ hx ⟨v2, rfl⟩
    obtain ⟨hi, ex⟩ := ups_at hx
    have ex : x = (i : Int) + 1 := by omega
    subst ex
    have ml := manyL_len v i
    have hrow : ∀ r ∈ v.2, r.2.2.2 = (i : Int) + 1 → atI (manyL v i) r.1 = some ((manyL v i).getD r.1.toNat 0) := fun r hr e => by
      have q := hv.rowP hr
      have := q.p0; have := q.cp
      exact atI_getD (by omega) (by omega)
    refine ws_one (w_append 1 (EV.frz (frzLst (i := 1) rfl (small_le (by omega))) (fun _ _ _ _ _ h => h) (ev_sum M.sum (EVL.im (evl_comp (own := ["_law_row"]) (fr := ["_law_many_here", "_law_part_here"]) (ix := [1, 2]) (ra := rRow) (rb := rInt) (p := fun r => decide (r.2.2.2 = (i : Int) + 1)) (f := fun r => (manyL v i).getD r.1.toNat 0) (comp_mk (so := defScope sMN) (N0 := nMN) rfl rfl (fun x h => cell_has h) (by decide +kernel)) (iv_list (ev_snd (ev_name 0 rfl)))
      (fun C s H ex => bg_name 0) (fun x => ⟨.inr rfl, .inl rfl, .inl rfl, trivial⟩) (fun C s H ex x hx => tf_one (tv_cmp c_eq (ev_row3 (ev_name 0 rfl)) (ev_name 2 rfl))) (fun C s H ex x hx h => ev_ixL (ev_name 1 rfl) (ev_row0 (ev_name 0 rfl)) (hrow x hx (of_decide_eq_true h))))))) rfl rfl (Nat.lt_of_le_of_lt (show (manyL v i).length ≤ 1000 by omega) (by decide)) ?_)
    exact ⟨_, rfl⟩
  · rintro Γ ⟨v2, rfl⟩
    rw [ups_length]
    have e : ((v.1.length : Int) - 1).toNat = v.1.length - 1 := by omega
    rw [e]
    have ml := manyL_len v (v.1.length - 1)
    exact ws_one (w_ret (ev_own 1 rfl (small_le (by omega))) rfl)
abbrev sOF : Stmt := top at__law_offsets
abbrev nOF : List Str := ["_law_web_here", "_law_many_here", "_law_found", "_law_k", "_law_calls"]
theorem scOF : FnScope nOF ["_law_web_here"] (defScope sOF) := ⟨rfl, rfl, rfl, by decide +kernel, rfl, by decide +kernel, by decide +kernel⟩
def SOF : SpD := fun K ps T => ∃ v : Web, ps = [⟨rWeb, v⟩] ∧ WebG v ∧ T = rtP K (rList rInt) (· = offF v)
theorem ok_OF (M : Mods mg) (CM : Cal P w K mg base "_law_many" 1 (spG SMN K)) (F : Fun K "_law_offsets" "_law_offsets" sOF f fd) (hm : mg "_law_offsets" = some (.ref f)) (hb : Binds K fd ["_law_web_here"] []) : Cal P w K mg base "_law_offsets" 2 (spG SOF K) := by
  have nd := scOF.nd
  have nd1 : List.Nodup [("_law_row" : Str), "_law_calls", "_law_many_here"] := by decide
  refine fn_ok F scOF hm hb (fun qs T ⟨_, e, _⟩ => by rw [e]; rfl) (fun cdv A outer s H E qs T hr hS => ?_)
  obtain ⟨v, rfl, hv, rfl⟩ := hS
  have pl := hv.pl
  have rl := hv.rl
  change WS _ _ [.im (rPair (rList rInt) (rList rRow)) v, .no, .no, .no, .no] _ _
  refine ws_seq (w_set 1 (ev_call CM hr (ha_cons (ev_name 0 rfl) ha_nil) ⟨v, rfl, hv, rfl⟩) ?_)
  refine ws_seq (w_setL 2 (r := rInt) (evl_lst ea_nil (by decide)) ?_)
  have ml : (manyF v).length = v.1.length := by unfold manyF; rw [manyL_len]; omega
  refine ws_seq (w_forI (r := rInt) (fun i Γ => ∃ v3 v4, Γ = [.im (rPair (rList rInt) (rList rRow)) v, .im (rList rInt) (manyF v), .mu rInt (((ups 0 v.2.length).take i).map (offAt v)), v3, v4])
    (iv_range1 M.range (ev_len M.len (ev_snd (ev_name 0 rfl))) ⟨by omega, by omega⟩) (bg_name 3) ⟨_, _, rfl⟩ ?_ ?_)
  · rintro i k Γ hk ⟨v3, v4, rfl⟩
    rw [show ((v.2.length : Int)).toNat = v.2.length by omega] at hk
    have kb := ups_mem.mp (List.mem_of_getElem? hk)
    have tk := ups_take hk
    refine ws_seq (w_set 4 (ev_row3 (ev_ixL (ev_snd (ev_name 0 rfl)) (ev_name 3 rfl) (atI_getDG noRow kb.1 kb.2))) ?_)
    have hrow : ∀ r ∈ cut v.2 none (some k), atI (manyF v) r.1 = some ((manyF v).getD r.1.toNat 0) := fun r hr => by
      have q := hv.rowP (cut_sub3 _ _ _ r hr)
      have := q.p0; have := q.p1
      exact atI_getD (by omega) (by omega)
    refine ws_one (w_append 2 (ev_mul (ev_sum M.sum (EVL.im (evl_comp (own := ["_law_row"]) (fr := ["_law_calls", "_law_many_here"]) (ix := [4, 1]) (ra := rRow) (rb := rInt) (p := fun r => decide (r.2.2.2 = (rowOf v k).2.2.2)) (f := fun r => (manyF v).getD r.1.toNat 0) (comp_mk (so := defScope sOF) (N0 := nOF) rfl rfl (fun x h => cell_has h) (by decide +kernel)) (iv_list (EVL.im (evl_slice (ev_snd (ev_name 0 rfl)) ov_none (ov_some (ev_name 3 rfl)))))
      (fun C s H ex => bg_name 0) (fun x => ⟨.inr rfl, .inl rfl, .inl rfl, trivial⟩) (fun C s H ex x hx => tf_one (tv_cmp c_eq (ev_row3 (ev_name 0 rfl)) (ev_name 1 rfl))) (fun C s H ex x hx h => ev_ixL (ev_name 2 rfl) (ev_row0 (ev_name 0 rfl)) (hrow x hx))))) (ev_intB M.int (ev_cmp c_ge (ev_name 4 rfl) ev_int)) mul01) rfl rfl (Nat.lt_of_le_of_lt (show _ ≤ 1000 by rw [List.length_map, List.length_take, ups_length]; omega) (by decide)) ?_)
    refine ⟨.im rInt k, .im rInt (rowOf v k).2.2.2, ?_⟩
    rw [tk, List.map_append]; rfl
  · rintro Γ ⟨v3, v4, rfl⟩
    rw [ups_length, show ((v.2.length : Int)).toNat = v.2.length by omega, List.take_of_length_le (Nat.le_of_eq (ups_length _ _))]
    exact ws_one (w_ret (ev_own 2 rfl (small_le (by rw [List.length_map, ups_length]; omega))) rfl)
def SCH : SpD := fun K ps T => ∃ v : Web, ps = [⟨rWeb, v⟩] ∧ WebG v ∧ T = rtL K rInt (· = manyF v)
def SOS : SpD := fun K ps T => ∃ v : Web, ps = [⟨rWeb, v⟩] ∧ WebG v ∧ T = rtL K rInt (· = offF v)
end
end K1

set_option Elab.async false
set_option linter.all false
set_option maxRecDepth 100000
set_option maxHeartbeats 4000000
namespace K1
open PySem L2 Fc
open PySem.Spec hiding Row
open PyProof.Rows hiding St
open PySem.Builtin.Int (intBits)
def aheadF (v : Web) (i : Nat) : List Int := (ups 0 v.1.length).map fun q => sumOf (v.2.take i) (manyF v) q
theorem aheadF_len (v : Web) (i : Nat) : (aheadF v i).length = v.1.length := by unfold aheadF; rw [List.length_map, ups_length]
theorem aheadF_at {v : Web} {i : Nat} {q : Int} (q0 : 0 ≤ q) (q1 : q < (v.1.length : Int)) : atI (aheadF v i) q = some (sumOf (v.2.take i) (manyF v) q) := by
  rw [atI_of q0 (by rw [aheadF_len]; exact q1)]
  have e : (ups 0 v.1.length)[q.toNat]? = some q := by
    unfold ups
    rw [List.getElem?_map, List.getElem?_range (by omega)]
    exact congrArg some (show (0 : Int) + (q.toNat : Int) = q by omega)
  unfold aheadF
  rw [List.getElem?_map, e]; rfl
theorem sumOf_snoc (rs : List Row) (r : Row) (xs : List Int) (q : Int) : sumOf (rs ++ [r]) xs q = sumOf rs xs q + (if r.2.2.2 = q then xs.getD r.1.toNat 0 else 0) := by
  unfold sumOf
  rw [List.filter_append, List.map_append, List.sum_append]
  by_cases h : r.2.2.2 = q
  · rw [List.filter_cons_of_pos (by simpa using h), if_pos h]; simp
  · rw [List.filter_cons_of_neg (by simpa using h), if_neg h]; simp
theorem aheadF_succ {v : Web} {i : Nat} {r : Row} (hr : v.2[i]? = some r) (c0 : 0 ≤ r.2.2.2) (c1 : r.2.2.2 < (v.1.length : Int)) : (aheadF v i).set r.2.2.2.toNat (sumOf (v.2.take i) (manyF v) r.2.2.2 + (manyF v).getD r.1.toNat 0) = aheadF v (i + 1) := by
  apply List.ext_getElem?
  intro j
  have tk : v.2.take (i + 1) = v.2.take i ++ [r] := by rw [List.take_succ, hr]; rfl
  unfold aheadF
  rw [tk]
  by_cases hj : j < v.1.length
  · rw [List.getElem?_map]
    have eu : (ups 0 v.1.length)[j]? = some (j : Int) := by unfold ups; rw [List.getElem?_map, List.getElem?_range hj]; simp
    rw [eu]
    by_cases e : r.2.2.2.toNat = j
    · subst e
      rw [List.getElem?_set_self (by rw [List.length_map, ups_length]; omega)]
      have ec : ((r.2.2.2.toNat : Nat) : Int) = r.2.2.2 := by omega
      simp only [Option.map_some, sumOf_snoc, ec, if_pos]
    · rw [List.getElem?_set_ne e, List.getElem?_map, eu]
      simp only [Option.map_some, sumOf_snoc]
      rw [if_neg (by omega)]; simp
  · rw [List.getElem?_eq_none (by rw [List.length_set, List.length_map, ups_length]; omega), List.getElem?_eq_none (by rw [List.length_map, ups_length]; omega)]
theorem aheadF_same {v : Web} {i : Nat} {r : Row} (hr : v.2[i]? = some r) (c0 : r.2.2.2 = -1) : aheadF v (i + 1) = aheadF v i := by
  have tk : v.2.take (i + 1) = v.2.take i ++ [r] := by rw [List.take_succ, hr]; rfl
  unfold aheadF
  rw [tk]
  apply List.map_congr_left
  intro q hq
  have := ups_mem.mp hq
  rw [sumOf_snoc, if_neg (by omega)]; simp
theorem offAt_is {v : Web} {i : Nat} {r : Row} (hr : v.2[i]? = some r) : offAt v (i : Int) = sumOf (v.2.take i) (manyF v) r.2.2.2 * (if decide (0 ≤ r.2.2.2) = true then 1 else 0) := by
  have il := (List.getElem?_eq_some_iff.mp hr).1
  have er : rowOf v (i : Int) = r := by unfold rowOf; rw [List.getD_eq_getElem?_getD, show ((i : Int)).toNat = i by omega, hr]; rfl
  have ec : cut v.2 none (some (i : Int)) = v.2.take i := by
    have e : HT.sIx v.2.length v.2.length (some (i : Int)) = i := by
      show (if (i : Int) < 0 then ((i : Int) + (v.2.length : Int)).toNat else min (i : Int).toNat v.2.length) = i
      rw [if_neg (by omega)]; omega
    unfold cut
    rw [e]; rfl
  unfold offAt
  rw [er, ec]
section
variable {P : Program} {w : World} {K : PySem.W.Frag} {mg : Str → Option Value} {base : Heap} {f : Addr} {fd : FuncData}
abbrev sCH : Stmt := top at_chains
abbrev nCH : List Str := ["web", "told", "part"]
theorem scCH : FnScope nCH ["web"] (defScope sCH) := ⟨rfl, rfl, rfl, by decide +kernel, rfl, by decide +kernel, by decide +kernel⟩
theorem ok_CH (M : Mods mg) (CN : Cal P w K mg base "need_web" 6 (spG SNW K)) (F : Fun K "chains" "chains" sCH f fd) (hm : mg "chains" = some (.ref f)) (hb : Binds K fd ["web"] []) : Cal P w K mg base "chains" 7 (spG SCH K) := by
  have nd := scCH.nd
  have nd1 : List.Nodup [("row" : Str), "part", "told"] := by decide
  obtain ⟨t1, hFP⟩ := M.firstPart
  refine fn_ok F scCH hm hb (fun qs T ⟨_, e, _⟩ => by rw [e]; rfl) (fun cdv A outer s H E qs T hr hS => ?_)
  obtain ⟨v, rfl, hv, rfl⟩ := hS
  have pl := hv.pl
  have rl := hv.rl
  change WS _ _ [.im (rPair (rList rInt) (rList rRow)) v, .no, .no] _ _
  refine ws_seq (w_callX CN hr (ha_cons (ev_name 0 rfl) ha_nil) ⟨v, rfl, hv, rfl⟩ ?_)
  refine ws_seq (w_setL 1 (r := rInt) (evl_lst (ea_cons ev_int ea_nil) (by show 1 ≤ sizeLine; decide)) ?_)
  refine ws_seq (w_forI (r := rInt) (fun i Γ => ∃ v2, Γ = [.im (rPair (rList rInt) (rList rRow)) v, .mu rInt (manyL v i), v2])
    (iv_range2 M.range (ev_add (ev_glob hFP) ev_int) (ev_len M.len (ev_fst (ev_name 0 rfl))) ⟨by decide, by decide, by omega, by omega⟩) (bg_name 2) ⟨_, rfl⟩ ?_ ?_)
  · rintro i x Γ hx ⟨v2, rfl⟩
    obtain ⟨hi, ex⟩ := ups_at hx
    have ex : x = (i : Int) + 1 := by omega
    subst ex
    have ml := manyL_len v i
    have hrow : ∀ r ∈ v.2, r.2.2.2 = (i : Int) + 1 → atI (manyL v i) r.1 = some ((manyL v i).getD r.1.toNat 0) := fun r hr e => by
      have q := hv.rowP hr
      have := q.p0; have := q.cp
      exact atI_getD (by omega) (by omega)
    refine ws_one (w_append 1 (EV.frz (frzLst (i := 1) rfl (small_le (by omega))) (fun _ _ _ _ _ h => h) (ev_sum M.sum (EVL.im (evl_comp (own := ["row"]) (fr := ["part", "told"]) (ix := [2, 1]) (ra := rRow) (rb := rInt) (p := fun r => decide (r.2.2.2 = (i : Int) + 1)) (f := fun r => (manyL v i).getD r.1.toNat 0) (comp_mk (so := defScope sCH) (N0 := nCH) rfl rfl (fun x h => cell_has h) (by decide +kernel)) (iv_list (ev_snd (ev_name 0 rfl)))
      (fun C s H ex => bg_name 0) (fun x => ⟨.inr rfl, .inl rfl, .inl rfl, trivial⟩) (fun C s H ex x hx => tf_one (tv_cmp c_eq (ev_row3 (ev_name 0 rfl)) (ev_name 1 rfl))) (fun C s H ex x hx h => ev_ixL (ev_name 2 rfl) (ev_row0 (ev_name 0 rfl)) (hrow x hx (of_decide_eq_true h))))))) rfl rfl (Nat.lt_of_le_of_lt (show (manyL v i).length ≤ 1000 by omega) (by decide)) ?_)
    exact ⟨_, rfl⟩
  · rintro Γ ⟨v2, rfl⟩
    rw [ups_length]
    have e : ((v.1.length : Int) - (0 + 1)).toNat = v.1.length - 1 := by omega
    rw [e]
    have ml := manyL_len v (v.1.length - 1)
    exact ws_one (w_retMu 1 rfl (small_le (by omega)) rfl)
abbrev sOS : Stmt := top at_offsets
abbrev nOS : List Str := ["web", "leading", "ahead", "told", "row"]
theorem scOS : FnScope nOS ["web"] (defScope sOS) := ⟨rfl, rfl, rfl, by decide +kernel, rfl, by decide +kernel, by decide +kernel⟩
theorem ok_OS (M : Mods mg) (CC : Cal P w K mg base "chains" 7 (spG SCH K)) (F : Fun K "offsets" "offsets" sOS f fd) (hm : mg "offsets" = some (.ref f)) (hb : Binds K fd ["web"] []) : Cal P w K mg base "offsets" 8 (spG SOS K) := by
  have nd := scOS.nd
  obtain ⟨t1, hNC⟩ := M.noCall
  refine fn_ok F scOS hm hb (fun qs T ⟨_, e, _⟩ => by rw [e]; rfl) (fun cdv A outer s H E qs T hr hS => ?_)
  obtain ⟨v, rfl, hv, rfl⟩ := hS
  have pl := hv.pl
  have rl := hv.rl
  have ml : (manyF v).length = v.1.length := by unfold manyF; rw [manyL_len]; omega
  change WS _ _ [.im (rPair (rList rInt) (rList rRow)) v, .no, .no, .no, .no] _ _
  refine ws_seq (w_set 1 (EVL.im (evl_call CC hr (ha_cons (ev_name 0 rfl) ha_nil) ⟨v, rfl, hv, rfl⟩)) ?_)
  refine ws_seq (w_setL 2 (r := rInt) (evl_rep (EVL.im (evl_lst (ea_cons ev_int ea_nil) (by show 1 ≤ sizeLine; decide))) (ev_len M.len (ev_name 1 rfl)) (by omega) (by omega) (small_le (by show 1 * _ ≤ _; omega))) ?_)
  refine ws_seq (w_setL 3 (r := rInt) (evl_lst ea_nil (by decide)) ?_)
  have e0 : (List.replicate ((manyF v).length : Int).toNat [(0 : Int)]).flatten = aheadF v 0 := by
    unfold aheadF sumOf
    rw [ml, show ((v.1.length : Int)).toNat = v.1.length by omega]
    apply List.ext_getElem?
    intro j
    rw [List.flatten_replicate_singleton, List.getElem?_replicate, List.getElem?_map]
    by_cases hj : j < v.1.length
    · have eu : (ups 0 v.1.length)[j]? = some (j : Int) := by unfold ups; rw [List.getElem?_map, List.getElem?_range hj]; simp
      rw [eu, if_pos hj]; simp
    · rw [if_neg hj, List.getElem?_eq_none (by rw [ups_length]; omega)]; rfl
  refine ws_seq (w_forI (r := rRow) (fun i Γ => ∃ v4, Γ = [.im (rPair (rList rInt) (rList rRow)) v, .im (rList rInt) (manyF v), .mu rInt (aheadF v i), .mu rInt (((ups 0 v.2.length).take i).map (offAt v)), v4])
    (iv_list (ev_snd (ev_name 0 rfl))) (bg_name 4) ⟨_, by rw [← e0]; rfl⟩ ?_ ?_)
  · rintro i r Γ hx ⟨v4, rfl⟩
    have il := (List.getElem?_eq_some_iff.mp hx).1
    have tk := ups_take (lo := 0) (n := v.2.length) (i := i) (x := (i : Int)) (by unfold ups; rw [List.getElem?_map, List.getElem?_range il]; simp)
    have lt : (((ups 0 v.2.length).take i).map (offAt v)).length < sizeLine := Nat.lt_of_le_of_lt (show _ ≤ 1000 by rw [List.length_map, List.length_take, ups_length]; omega) (by decide)
    have q := hv.rowP (List.mem_of_getElem? hx)
    have c0 := q.c0; have c1 := q.c1; have p0 := q.p0; have p1 := q.p1
    have oa := offAt_is hx
    refine ws_one (w_if (tv_cmp c_eq (ev_row3 (ev_name 4 rfl)) (ev_glob hNC)) (fun h => ?_) (fun h => ?_))
    · have h : r.2.2.2 = -1 := of_decide_eq_true h
      refine ws_one (w_append 3 ev_int rfl rfl lt ?_)
      refine ⟨.im rRow r, ?_⟩
      rw [aheadF_same hx h, tk, List.map_append, List.map_singleton, oa, h]
      simp
    · have h : r.2.2.2 ≠ -1 := of_decide_eq_false h
      refine ws_seq (w_append 3 (ev_ixM 2 (ev_row3 (ev_name 4 rfl)) rfl rfl (aheadF_at (by omega) c1)) rfl rfl lt ?_)
      refine ws_one (w_augixV 2 (ev_row3 (ev_name 4 rfl)) (ev_ixL (ev_name 1 rfl) (ev_row0 (ev_name 4 rfl)) (atI_getD p0 (by omega))) rfl (by omega) (ixN_of (by omega) (by rw [aheadF_len]; exact c1)) (aheadF_at (by omega) c1) ?_)
      refine ⟨.im rRow r, ?_⟩
      rw [tk, List.map_append, List.map_singleton, oa, ← aheadF_succ hx (by omega) c1, if_pos (by simp; omega)]
      simp
  · rintro Γ ⟨v4, rfl⟩
    rw [List.take_of_length_le (Nat.le_of_eq (ups_length _ _))]
    exact ws_one (w_retMu 3 rfl (small_le (by rw [List.length_map, ups_length]; omega)) rfl)
end
end K1

set_option Elab.async false
set_option linter.all false
set_option maxRecDepth 100000
set_option maxHeartbeats 4000000
namespace K1
open PySem L2 Fc
open PySem.Spec hiding Row
open PyProof.Rows hiding St
open PySem.Builtin.Int (intBits)
section
variable {P : Program} {w : World} {K : PySem.W.Frag} {mg : Str → Option Value} {base : Heap} {f : Addr} {fd : FuncData}
abbrev sIP : Stmt := top at_is_part
theorem scIP : FnScope ["web", "part"] ["web", "part"] (defScope sIP) := ⟨rfl, rfl, rfl, by decide +kernel, rfl, by decide +kernel, by decide +kernel⟩
end
end K1

set_option Elab.async false
set_option linter.all false
set_option maxRecDepth 100000
set_option maxHeartbeats 4000000
namespace Fc
open PySem PySem.Spec L2
open PyProof.Rows hiding St
theorem lri_len : typeLookup (.type "list_reverseiterator") "__len__" = pure none := by rw [typeLookup_type, builtinLookup_eq_fast]; kernel_rfl
theorem lri_hint : typeLookup (.type "list_reverseiterator") "__length_hint__" = pure (some (.builtin "list_reverseiterator.__length_hint__")) := by rw [typeLookup_type, builtinLookup_eq_fast]; kernel_rfl
section
variable {prog : Program} {w : World} {A : Around} {E : Value → Shared → Prop} {s : Shared}
theorem hint_rev {it l : Addr} {i : Int} {Q : Bool → Shared → Prop} (hit : s.heap.IsRevIter it l i) (h : Q false s) : wpAny (model prog w) A (Builtin.List.listLengthHint (.ref it)) Q E s := by
  unfold Builtin.List.listLengthHint
  refine wpAny_bind (wpAny_specialOf hit.typeIs lri_len ?_)
  try dsimp only
  refine wpAny_ite_split (fun hab => absurd hab (by decide)) (fun _ => ?_)
  refine wpAny_ite_split (fun hab => absurd hab (by decide)) (fun _ => ?_)
  refine wpAny_bind (wpAny_specialOf hit.typeIs lri_hint ?_)
  generalize hid : ("list_reverseiterator.__length_hint__" : String) = id0
  wp_delta
  rw [show splitId id0 = some ("list_reverseiterator", "__length_hint__") from by subst hid; decide +kernel]
  subst hid
  refine wpAny_bind (wpAny_isInstance (T := "list_reverseiterator") (b := true) hit.typeIs (by rw [isSubtype_type]; kernel_rfl) ?_)
  refine wpAny_ite_split (fun hab => absurd hab (by decide)) (fun _ => ?_)
  refine wpAny_ite_split (fun _ => ?_) (fun hab => absurd (by decide +kernel) hab)
  refine wpAny_ite_split (fun hab => absurd hab (by decide +kernel)) (fun _ => ?_)
  exact wpAny_pure h
theorem extend_rev {R : Result → Shared → Prop} {it l : Addr} {items : Array Value} (hh : A.handled = none) (hit : s.heap.IsRevIter it l ((items.size : Int) - 1)) (hl : s.heap.IsList l items) (hne : l ≠ it) (hlen : items.size ≤ sizeLine) (S : Addr) (res : Value) (c₀ : Nat) (hS : s.heap.get? S = some { cls := .type "list", data := .seq #[] c₀ }) (hSl : S ≠ l) (hSi : S ≠ it)
    (hR : ∀ h' tk acc' c', (∀ b o, b ≠ S → b ≠ it → s.heap.get? b = some o → h'.get? b = some o) → h'.get? S = some { cls := .type "list", dict := none, data := .seq acc' c', slots := #[] } →
      ItemsOf (fun i v => items[items.size - 1 - i]? = some v) acc' items.size → R (.ok (.ret res)) { s with heap := h', toks := tk }) :
    wpAny (model prog w) A.in1 (Builtin.List.listExtendWith (.ref S) (.ref it) res)
      (fun fin s' => match fin with | .done f => R (.ok f) s' | .again c' => c'.quiet = true ∧ codeAny (model prog w) A c' R s') (fun e s' => R (.error e) s') s := by
  have hSf : S ∉ [it, l] := fun hm => by
    rcases List.mem_cons.mp hm with z | z
    · exact hSi z
    · exact hSl (List.mem_singleton.mp z)
  have W := (Walks.listRev (prog := prog) (w := w) (A := A.in1) hh it l hne items).toS
  unfold Builtin.List.listExtendWith
  refine wpAny_bind (wpAny_typeOf (T := "list_reverseiterator") hit.typeIs ?_)
  have h1 : Builtin.List.listSameRef (.ref S) (.ref it) = false := by simp [Builtin.List.listSameRef, hSi]
  have h2 : (Value.type "list_reverseiterator" == Value.type "list") = false := by decide
  have h3 : (Value.type "list_reverseiterator" == Value.type "tuple") = false := by decide
  simp only [h1, h2, h3, Bool.or_false, Bool.false_eq_true, if_false]
  refine wpAny_bind (wpAny_pyIter_revIter hit ?_)
  refine wpAny_bind (wpAny_holding (hint_rev hit ?_))
  refine wpAny_ite_split (fun hab => absurd hab (by decide +kernel)) (fun _ => wpAny_pure ⟨plainId_quiet F.plain_extend_loop _, ?_⟩)
  refine codeAny_extend_loopS W hlen S hSf res items.size 0 _ #[] c₀ rfl (Nat.zero_le _) ⟨Nat.zero_le _, by simpa using hit, hl⟩ hS (ItemsOf.nil _) fun s' acc' c' hm hS' hacc => ?_
  rw [Moved.eq_with hm]
  refine hR s'.heap s'.toks acc' c' (fun b o hb hb2 e => hm.heap b o (fun hmem => ?_) e) hS' hacc
  rcases List.mem_cons.mp hmem with e' | hmem
  · exact hb e'
  · exact hb2 (List.mem_singleton.mp hmem)
theorem init_rev {R : Result → Shared → Prop} {it l : Addr} {items : Array Value} (hh : A.handled = none) (hit : s.heap.IsRevIter it l ((items.size : Int) - 1)) (hl : s.heap.IsList l items) (hne : l ≠ it) (hlen : items.size ≤ sizeLine) (S : Addr) (hS : s.heap.get? S = some { cls := .type "list", data := .seq #[] }) (hSl : S ≠ l) (hSi : S ≠ it)
    (hR : ∀ h' tk acc' c', (∀ b o, b ≠ S → b ≠ it → s.heap.get? b = some o → h'.get? b = some o) → h'.get? S = some { cls := .type "list", dict := none, data := .seq acc' c', slots := #[] } →
      ItemsOf (fun i v => items[items.size - 1 - i]? = some v) acc' items.size → R (.ok (.ret .none)) { s with heap := h', toks := tk }) :
    wpAny (model prog w) A.in1 (Builtin.«list.__init__» ⟨[.ref S, .ref it], []⟩)
      (fun fin s' => match fin with | .done f => R (.ok f) s' | .again c' => c'.quiet = true ∧ codeAny (model prog w) A c' R s') (fun e s' => R (.error e) s') s := by
  show wpAny _ _ (do let old ← Builtin.List.listItems (.ref S); Builtin.List.listUpdate (.ref S) (fun _ => #[]); letGo old.toList.reverse; Builtin.List.listExtendWith (.ref S) (.ref it) .none) _ _ s
  refine wpAny_bind ?_
  unfold Builtin.List.listItems
  refine wpAny_bind (wpAny_seqItems hS rfl (wpAny_pure ?_))
  show wpAny _ _ (updateSeq S (fun _ => #[]) >>= fun _ => letGo (#[] : Array Value).toList.reverse >>= fun _ => Builtin.List.listExtendWith (.ref S) (.ref it) .none) _ _ s
  refine wpAny_bind (wpAny_updateSeq hS rfl ?_)
  have hS₂ := Heap.get?_update_self (Obj.mapSeq (fun _ => (#[] : Array Value))) hS rfl
  have oth : ∀ b o, b ≠ S → s.heap.get? b = some o → (s.heap.update S (Obj.mapSeq (fun _ => (#[] : Array Value)))).get? b = some o :=
    fun b o hb e => (Heap.get?_update_other _ _ (Ne.symm hb)).trans e
  refine wpAny_bind (wpAny_letGo ?_)
  refine extend_rev hh (hit.at fun o e => oth it o (Ne.symm hSi) e) (hl.at fun o e => oth l o (Ne.symm hSl) e) hne hlen S .none _ hS₂ hSl hSi fun h' tk acc' c' hk hS' hacc => ?_
  exact hR h' tk acc' c' (fun b o hb hb2 e => hk b o hb hb2 (oth b o hb e)) hS' hacc
theorem call_list_rev {it l : Addr} {items : Array Value} {Q : Value → Shared → Prop} (hh : A.handled = none) (hit : s.heap.IsRevIter it l ((items.size : Int) - 1)) (hl : s.heap.IsList l items) (hne : l ≠ it) (hlen : items.size ≤ sizeLine)
    (hQ : ∀ h' tk acc' c', (∀ b o, b ≠ it → s.heap.get? b = some o → h'.get? b = some o) →
      h'.get? s.heap.objs.size = some { cls := .type "list", dict := none, data := .seq acc' c', slots := #[] } → ItemsOf (fun i v => items[items.size - 1 - i]? = some v) acc' items.size → Q (.ref s.heap.objs.size) { s with heap := h', toks := tk }) :
    wpAny (model prog w) A (call (.type "list") [.ref it]) Q E s := by
  refine callType_codes (Q₁ := fun obj s₁ => obj = .ref s.heap.objs.size ∧ s₁ = { s with heap := s.heap.push { cls := .type "list", data := .seq #[] } }) F.called_list (F.typeCall_list_1 _) F.entry_list_init
    (code_list_new _ ⟨rfl, rfl⟩) fun obj s₁ h₁ => ?_
  obtain ⟨rfl, rfl⟩ := h₁
  have hS : (s.heap.push { cls := .type "list", data := .seq #[] }).get? s.heap.objs.size = some { cls := .type "list", data := .seq #[] } := Heap.get?_push_size _ rfl
  have lt : ∀ {b o}, s.heap.get? b = some o → b ≠ s.heap.objs.size := fun e => Nat.ne_of_lt (Heap.lt_size e)
  have l1 : s.heap.objs.size ≠ l := by obtain ⟨o, e, _⟩ := id hl; exact Ne.symm (lt e)
  have l2 : s.heap.objs.size ≠ it := by obtain ⟨o, e, _⟩ := id hit; exact Ne.symm (lt e)
  refine ⟨⟨_, hS, rfl⟩, F.args_list_init_2 _ _, init_rev (A := A.in1) hh (hit.at fun o e => Heap.get?_push_of_some _ e) (hl.at fun o e => Heap.get?_push_of_some _ e) hne hlen _ hS l1 l2 fun h' tk acc' c' hk hS' hacc => ?_⟩
  exact ⟨rfl, hQ h' tk acc' c' (fun b o hb e => hk b o (lt e) hb (Heap.get?_push_of_some _ e)) hS' hacc⟩
end
theorem vals_reverse : ∀ {xs : List V} {us : List Value}, Vals xs us → Vals xs.reverse us.reverse
  | _, _, .nil => .nil
  | _, _, .cons h t => by
    rw [List.reverse_cons, List.reverse_cons]
    exact (vals_reverse t).append (.cons h .nil)
theorem paired_reverse {α : Type} {F : V → α → Prop} : ∀ {vs : List V} {xs : List α}, PySem.Paired F vs xs → PySem.Paired F vs.reverse xs.reverse
  | _, _, .nil => .nil
  | _, _, .cons h t => by
    rw [List.reverse_cons, List.reverse_cons]
    exact paired_append (paired_reverse t) (.cons h .nil)
section
variable {X : Cx} {Γ Γ1 Γ2 Γ3 : Ga} {α β γ δ : Type} {N : Ga → Prop} {T : RT}
theorem evl_listRev {e : Expr} {p1 p2 pos pos2 : Pos} {r : Rep α} {xs : List α} (hml : X.mg "list" = none) (hmr : X.mg "reversed" = none) (ha : EV X e Γ (rList r) xs Γ1) (hs : starEach [e] X.env = [(false, eval e X.env)] := by rfl) (hs2 : starEach [.Call (.Name "reversed" p2) [e] [] pos] X.env = [(false, eval (.Call (.Name "reversed" p2) [e] [] pos) X.env)] := by rfl) (hc : X.calm = true := by rfl) (hgl : Gl X "list" := by rfl) (hgr : Gl X "reversed" := by rfl) :
    EVL X (.Call (.Name "list" p1) [.Call (.Name "reversed" p2) [e] [] pos] [] pos2) Γ r xs.reverse Γ1 := by
  intro σ H0 R0 H R E Q q pins s I
  refine Call_ (ld_blt I hgl hml PyProof.Rows.boot_list (PyProof.Rows.callWith_type1 ?_ hs2 rfl))
  rw [hs2]
  show wpAny _ _ (spliced ((false, eval (.Call (.Name "reversed" p2) [e] [] pos) X.env) :: backTo pos2 [])) _ _ s
  refine Calls.spliced_cons ?_
  refine Call_ (ld_blt I hgr hmr PyProof.Rows.boot_reversed (PyProof.Rows.callWith_type1 ?_ hs rfl))
  rw [hs]
  show wpAny _ _ (spliced ((false, eval e X.env) :: backTo pos [])) _ _ s
  refine Calls.spliced_cons (thn (ha σ H0 R0 H R E (fun v H1 => ∃ a vs R1, v = .ref a ∧ EnvOk X.K σ H0 R0 H1 R1 Γ1 ∧ Same R R1 ∧ H1 a = some (.lst vs) ∧ PySem.Paired (r.R X.K R1) vs xs ∧ xs.length ≤ sizeLine) (fun v H1 R1 E1 s1 e1 => by
    obtain ⟨a, vs, rfl, hp, pp, z⟩ := e1
    exact ⟨a, vs, R1, rfl, E1, s1, E1.sub _ _ hp, pp, z⟩) pins s I) fun u s1 ⟨v, H1, I1, r1, a, vs, R1, ev, E1, sR, hp, pp, z⟩ => ?_)
  subst ev
  cases r1
  refine Calls.spliced_nil ?_
  obtain ⟨its, rv, pl, hz⟩ := I1.list (SqL.of (K := X.K) hp)
  refine call_reversed_list pl.isList ?_
  refine Calls.spliced_nil ?_
  have la : a < s1.heap.objs.size := by obtain ⟨o, n, e, _⟩ := pl; exact Heap.lt_size e
  have hl := rv.length
  refine call_list_rev (s := { s1 with heap := s1.heap.push (revObj a ((its.toArray.size : Int) - 1)) }) (l := a) (items := its.toArray) (I1.ok.hd hc) ⟨_, Heap.get?_push_size _ rfl, rfl, rfl⟩ (pl.isList.at fun o e => Heap.get?_push_of_some _ e) (Nat.ne_of_lt la) (by simp; omega) fun h' tk acc' c' hk hS hacc => ?_
  have sz : (s1.heap.push (revObj a ((its.toArray.size : Int) - 1))).objs.size = s1.heap.objs.size + 1 := Heap.size_push ..
  have ea : acc'.toList = its.reverse := by
    refine List.ext_getElem? fun i => ?_
    by_cases hi : i < its.length
    · have h1 : i < acc'.toList.length := by rw [Array.length_toList, hacc.1]; simpa using hi
      rw [List.getElem?_eq_getElem h1]
      have := hacc.2 i _ (by rw [← Array.getElem?_toList]; exact List.getElem?_eq_getElem h1)
      rw [List.getElem?_reverse hi]
      simpa using this.symm
    · rw [List.getElem?_eq_none (by rw [Array.length_toList, hacc.1]; simpa using hi), List.getElem?_eq_none (by simpa using hi)]
  have kk : ∀ b u, s1.heap.get? b = some u → h'.get? b = some u := fun b u e => hk b u (Nat.ne_of_lt (Heap.lt_size e)) (Heap.get?_push_of_some _ e)
  have fr : H1 (s1.heap.objs.size + 1) = none := I1.hok.fresh (Nat.le_succ _)
  rw [sz] at hS
  have I2 : Inv X pins σ (upd H1 (s1.heap.objs.size + 1) (.lst vs.reverse)) { s1 with heap := h', toks := tk } := I1.laid (a := s1.heap.objs.size + 1) kk (Nat.le_succ _) ⟨by rw [List.length_reverse]; exact hz, acc'.toList, c', by rw [ea]; exact vals_reverse rv, by rw [hS]⟩
  show EP X pins σ Q (.ref (s1.heap.push (revObj a ((its.toArray.size : Int) - 1))).objs.size) _
  rw [sz]
  exact ⟨.ref (s1.heap.objs.size + 1), _, I2, rfl, q _ _ _ R1 (E1.grow (Ext.freshM E1.sub fr _)) sR upd_same (E1.sub.free fr) (E1.ext.h.free fr) (E1.off fr) (paired_reverse pp) (by rw [List.length_reverse]; exact z)⟩
end
end Fc

set_option Elab.async false
set_option linter.all false
set_option maxRecDepth 100000
set_option maxHeartbeats 4000000
namespace Fc
open PySem PySem.Spec L2
open PyProof.Rows hiding St
section
variable {X : Cx} {Γ Γ1 Γ2 Γ3 : Ga} {α β γ δ : Type} {N : Ga → Prop} {T : RT}
theorem w_subN (i : Nat) {x : Str} {e : Expr} {p1 pos : Pos} {a c : Int} (he : EV X e Γ rInt c Γ) (hΓ : Γ[i]? = some (.im rInt a)) (h : N (Γ.set i (.im rInt (a - c))))
    (hN : X.N.Nodup := by first | assumption | decide) (hi : X.N[i]? = some x := by rfl) (hx : Loc X.env.scope x := by first | exact Or.inl rfl | exact Or.inr rfl)
    (hf : X.fn x = true ∨ X.env.scope.names.lookup x = some .local := by first | exact .inl rfl | exact .inr rfl) :
    W1 X (.AugAssign (.Name x p1) .Sub e pos) Γ N T := fun σ H0 R0 H R E D dn dr => by
  obtain ⟨v, ea, hr⟩ := E.ent i _ hΓ
  cases (show v = V.int a from hr)
  refine sS (ps_aug hN hi hx peS ip_sub hf) ⟨.int a, at_of ea, he σ H0 R0 H R E _ fun u H2 R2 E2 s2 e2 => ?_⟩
  cases (show u = V.int c from e2)
  exact ⟨a, c, rfl, rfl, dn _ H2 R2 _ (E2.set i (r := rInt) (x := a - c) rfl) s2 h⟩
end
end Fc

set_option Elab.async false
set_option linter.all false
set_option maxRecDepth 100000
set_option maxHeartbeats 4000000
namespace K1
open PySem L2 Fc
open PySem.Spec hiding Row
open PyProof.Rows hiding St
open PySem.Builtin.Int (intBits)
def chF (v : Web) : Int → List Int → Bool
  | p, [] => decide (p ≠ -1)
  | p, k :: ks => (decide (0 ≤ k) && decide (k < (v.2.length : Int)) && decide ((rowOf v k).1 = p)) && chF v (rowOf v k).2.2.2 ks
theorem chF_in {v : Web} : ∀ {xs : List Int} {p : Int}, chF v p xs = true → ∀ k ∈ xs, 0 ≤ k ∧ k < (v.2.length : Int)
  | [], _, _, k, hk => by cases hk
  | x :: xs, p, h, k, hk => by
    rw [chF, Bool.and_eq_true, Bool.and_eq_true, Bool.and_eq_true] at h
    rcases List.mem_cons.mp hk with rfl | hk
    · exact ⟨of_decide_eq_true h.1.1.1, of_decide_eq_true h.1.1.2⟩
    · exact chF_in h.2 k hk
theorem manyL_get (v : Web) : ∀ (n i j : Nat), j ≤ i → i ≤ n → (manyL v n).getD j 0 = (manyL v i).getD j 0
  | 0, i, j, h1, h2 => by rw [show i = 0 by omega]
  | n + 1, i, j, h1, h2 => by
    by_cases e : i = n + 1
    · rw [e]
    · rw [← manyL_get v n i j h1 (by omega), manyL, List.getD_eq_getElem?_getD, List.getD_eq_getElem?_getD, List.getElem?_append_left (by rw [manyL_len]; omega)]
theorem sum_nn : ∀ (xs : List Int), (∀ x ∈ xs, 0 ≤ x) → 0 ≤ xs.sum
  | [], _ => by simp
  | x :: xs, h => by
    rw [List.sum_cons]
    have := h x List.mem_cons_self
    have := sum_nn xs fun y hy => h y (List.mem_cons_of_mem _ hy)
    omega
theorem getD_nn {xs : List Int} (h : ∀ x ∈ xs, 0 ≤ x) (j : Nat) : 0 ≤ xs.getD j 0 := by
  rw [List.getD_eq_getElem?_getD]
  cases e : xs[j]? with
  | none => simp
  | some x => exact h x (List.mem_of_getElem? e)
theorem manyL_nn (v : Web) : ∀ (i : Nat), ∀ x ∈ manyL v i, 0 ≤ x
  | 0, x, hx => by rw [manyL, List.mem_singleton] at hx; omega
  | i + 1, x, hx => by
    rw [manyL] at hx
    rcases List.mem_append.mp hx with hx | hx
    · exact manyL_nn v i x hx
    · rw [List.mem_singleton.mp hx]
      refine sum_nn _ fun y hy => ?_
      obtain ⟨r, _, rfl⟩ := List.mem_map.mp hy
      exact getD_nn (manyL_nn v i) _
theorem manyF_nn (v : Web) (j : Nat) : 0 ≤ (manyF v).getD j 0 := getD_nn (manyL_nn v _) j
theorem many_at {v : Web} (hv : WebG v) {q : Int} (q0 : 1 ≤ q) (q1 : q < (v.1.length : Int)) : (manyF v).getD q.toNat 0 = sumOf v.2 (manyF v) q := by
  obtain ⟨i, rfl⟩ : ∃ i : Nat, q = (i : Int) + 1 := ⟨(q - 1).toNat, by omega⟩
  have hi : i + 1 ≤ v.1.length - 1 := by omega
  rw [show ((i : Int) + 1).toNat = i + 1 by omega]
  unfold manyF
  rw [manyL_get v _ (i + 1) (i + 1) (Nat.le_refl _) hi]
  have ml := manyL_len v i
  rw [manyL, List.getD_eq_getElem?_getD, List.getElem?_append_right (by omega), ml]
  simp only [Nat.sub_self, List.getElem?_cons_zero, Option.getD_some]
  unfold sumOf
  congr 1
  apply List.map_congr_left
  intro r hr
  obtain ⟨hr, hc⟩ := List.mem_filter.mp hr
  have hc : r.2.2.2 = (i : Int) + 1 := of_decide_eq_true hc
  have R := hv.rowP hr
  have := R.p0; have := R.cp
  exact (manyL_get v _ i _ (by omega) (by omega)).symm
theorem step_at (g : Nat → Int) (l : Int) : ∀ n, g 0 ≤ l → l < g n → ∃ i, i < n ∧ g i ≤ l ∧ l < g (i + 1)
  | 0, h0, h1 => by omega
  | n + 1, h0, h1 => by
    by_cases e : g n ≤ l
    · exact ⟨n, by omega, e, h1⟩
    · obtain ⟨i, h2, h3, h4⟩ := step_at g l n h0 (by omega)
      exact ⟨i, by omega, h3, h4⟩
theorem offF_at {v : Web} {i : Nat} (h : i < v.2.length) : (offF v).getD i 0 = offAt v (i : Int) := by
  unfold offF
  rw [List.getD_eq_getElem?_getD, List.getElem?_map]
  unfold ups
  rw [List.getElem?_map, List.getElem?_range h]; simp
theorem grow_le {g : Nat → Int} {n : Nat} (h : ∀ i, i < n → g i ≤ g (i + 1)) : ∀ {i j : Nat}, i ≤ j → j ≤ n → g i ≤ g j := by
  intro i j hij
  induction hij with
  | refl => intro _; exact Int.le_refl _
  | step _ ih => intro hj; exact Int.le_trans (ih (by omega)) (h _ (by omega))
def callP (v : Web) (q left : Int) (x : Int × Row) : Bool := decide (x.2.2.2.2 = q) && decide ((offF v).getD x.1.toNat 0 ≤ left)
theorem call_step {v : Web} (hv : WebG v) {q left : Int} (q0 : 1 ≤ q) (q1 : q < (v.1.length : Int)) (l0 : 0 ≤ left) (l1 : left < (manyF v).getD q.toNat 0) :
    ∃ (i : Nat) (r : Row), v.2[i]? = some r ∧ r.2.2.2 = q ∧ offAt v (i : Int) ≤ left ∧ 0 ≤ offAt v (i : Int) ∧ left - offAt v (i : Int) < (manyF v).getD r.1.toNat 0 ∧ atI (((nums v.2).filter (callP v q left)).map fun x => x.1) (-1) = some (i : Int) := by
  rw [many_at hv q0 q1] at l1
  have tk : ∀ (i : Nat) (r : Row), v.2[i]? = some r → sumOf (v.2.take (i + 1)) (manyF v) q = sumOf (v.2.take i) (manyF v) q + (if r.2.2.2 = q then (manyF v).getD r.1.toNat 0 else 0) := fun i r hr => by
    rw [List.take_succ, hr]; exact sumOf_snoc _ _ _ _
  obtain ⟨i, hi, h1, h2⟩ := step_at (fun i => sumOf (v.2.take i) (manyF v) q) left v.2.length (by simpa [sumOf] using l0) (by simpa using l1)
  obtain ⟨r, hr⟩ : ∃ r, v.2[i]? = some r := ⟨_, List.getElem?_eq_getElem hi⟩
  have h2 : left < sumOf (v.2.take (i + 1)) (manyF v) q := h2
  have h1 : sumOf (v.2.take i) (manyF v) q ≤ left := h1
  have h3 := tk i r hr
  have hq : r.2.2.2 = q := by
    by_cases e : r.2.2.2 = q
    · exact e
    · rw [if_neg e] at h3; omega
  rw [if_pos hq] at h3
  have oa : ∀ (j : Nat) (s : Row), v.2[j]? = some s → s.2.2.2 = q → offAt v (j : Int) = sumOf (v.2.take j) (manyF v) q := fun j s hj hs => by
    rw [offAt_is hj, hs, if_pos (by simp; omega)]; omega
  have nn : ∀ j, 0 ≤ sumOf (v.2.take j) (manyF v) q := fun j => sum_nn _ fun y hy => by
    obtain ⟨s, _, rfl⟩ := List.mem_map.mp hy
    exact manyF_nn v _
  refine ⟨i, r, hr, hq, by rw [oa i r hr hq]; exact h1, by rw [oa i r hr hq]; exact nn i, by rw [oa i r hr hq]; omega, ?_⟩
  have hn : i < (nums v.2).length := by rw [nums_length]; exact hi
  obtain ⟨y, hy⟩ : ∃ y, (nums v.2)[i]? = some y := ⟨_, List.getElem?_eq_getElem hn⟩
  obtain ⟨e1, e2⟩ := nums_at hy
  rw [hr] at e2
  have ey : y = ((i : Int), r) := by
    obtain ⟨a, b⟩ := y
    cases e2
    cases e1
    rfl
  have sp : nums v.2 = (nums v.2).take i ++ y :: (nums v.2).drop (i + 1) := by
    obtain ⟨h5, h6⟩ := List.getElem?_eq_some_iff.mp hy
    conv => lhs; rw [← List.take_append_drop i (nums v.2), List.drop_eq_getElem_cons h5, h6]
  have yes : callP v q left y = true := by
    rw [ey]
    unfold callP
    rw [decide_eq_true hq, show ((i : Int)).toNat = i by omega, offF_at hi, oa i r hr hq, decide_eq_true h1]; rfl
  have mono : ∀ j, j < v.2.length → sumOf (v.2.take j) (manyF v) q ≤ sumOf (v.2.take (j + 1)) (manyF v) q := fun j hj => by
    rw [tk j _ (List.getElem?_eq_getElem hj)]
    split
    · have := manyF_nn v (v.2[j]).1.toNat; omega
    · omega
  have no : ((nums v.2).drop (i + 1)).filter (callP v q left) = [] := by
    rw [List.filter_eq_nil_iff]
    intro z hz hc
    obtain ⟨j, hj⟩ := List.mem_iff_getElem?.mp hz
    rw [List.getElem?_drop] at hj
    obtain ⟨z1, z2⟩ := nums_at hj
    have zl := (List.getElem?_eq_some_iff.mp z2).1
    unfold callP at hc
    have hc := Bool.and_eq_true_iff.mp hc
    have c1 : z.2.2.2.2 = q := of_decide_eq_true hc.1
    have c2 := of_decide_eq_true hc.2
    rw [z1, show (((i + 1 + j : Nat) : Int)).toNat = i + 1 + j by omega, offF_at zl, oa _ _ z2 c1] at c2
    have := grow_le (g := fun j => sumOf (v.2.take j) (manyF v) q) (n := v.2.length) mono (i := i + 1) (j := i + 1 + j) (by omega) (by omega)
    have this : sumOf (v.2.take (i + 1)) (manyF v) q ≤ sumOf (v.2.take (i + 1 + j)) (manyF v) q := this
    omega
  refine atI_neg1 ?_
  rw [sp, List.filter_append, List.filter_cons_of_pos yes, no, List.map_append, List.map_singleton, List.length_append, List.length_singleton, Nat.add_sub_cancel, List.getElem?_append_right (Nat.le_refl _), Nat.sub_self, ey]
  rfl
inductive ChT (v : Web) : List Int → Int → Prop
  | nil : ChT v [] 0
  | snoc {xs : List Int} {p k : Int} : ChT v xs p → 0 ≤ k → k < (v.2.length : Int) → (rowOf v k).1 = p → 0 ≤ (rowOf v k).2.2.2 → ChT v (xs ++ [k]) (rowOf v k).2.2.2
def offS (v : Web) (xs : List Int) : Int := (xs.map fun k => (offF v).getD k.toNat 0).sum
theorem offS_snoc (v : Web) (xs : List Int) (k : Int) : offS v (xs ++ [k]) = offS v xs + (offF v).getD k.toNat 0 := by
  unfold offS; rw [List.map_append, List.sum_append]; simp
theorem rowOf_mem {v : Web} {k : Int} (k0 : 0 ≤ k) (k1 : k < (v.2.length : Int)) : rowOf v k ∈ v.2 := by
  unfold rowOf; rw [List.getD_eq_getElem?_getD, List.getElem?_eq_getElem (by omega)]; exact List.getElem_mem _
theorem ChT.part {v : Web} (hv : WebG v) {xs : List Int} {p : Int} (h : ChT v xs p) : 0 ≤ p ∧ p < (v.1.length : Int) ∧ xs.length ≤ p.toNat := by
  induction h with
  | nil => have := hv.pl; exact ⟨by omega, by omega, Nat.le_refl _⟩
  | snoc h k0 k1 kp kc ih =>
    have R := hv.rowP (rowOf_mem k0 k1)
    have := R.c1; have := R.cp
    rw [kp] at *
    refine ⟨kc, by omega, ?_⟩
    rw [List.length_append, List.length_singleton]; omega
theorem ChT.chF {v : Web} {xs : List Int} {p : Int} (h : ChT v xs p) : ∀ ys, K1.chF v 0 (xs ++ ys) = K1.chF v p ys := by
  induction h with
  | nil => intro ys; rfl
  | snoc h k0 k1 kp kc ih =>
    intro ys
    rw [List.append_assoc, ih]
    show K1.chF v _ (_ :: ys) = _
    rw [K1.chF, decide_eq_true k0, decide_eq_true k1, decide_eq_true kp]; rfl
theorem sumOf_up {v : Web} {q : Int} : ∀ {i j : Nat}, i ≤ j → j ≤ v.2.length → sumOf (v.2.take i) (manyF v) q ≤ sumOf (v.2.take j) (manyF v) q := by
  refine fun hij hj => grow_le (g := fun i => sumOf (v.2.take i) (manyF v) q) (n := v.2.length) (fun i hi => ?_) hij hj
  show sumOf (v.2.take i) (manyF v) q ≤ sumOf (v.2.take (i + 1)) (manyF v) q
  rw [List.take_succ, List.getElem?_eq_getElem hi]
  show _ ≤ sumOf (v.2.take i ++ [v.2[i]]) (manyF v) q
  rw [sumOf_snoc]
  split
  · have := manyF_nn v (v.2[i]).1.toNat; omega
  · omega
theorem off_take {v : Web} {i : Nat} {r : Row} (hr : v.2[i]? = some r) (hc : 0 ≤ r.2.2.2) : offAt v (i : Int) = sumOf (v.2.take i) (manyF v) r.2.2.2 ∧ offAt v (i : Int) + (manyF v).getD r.1.toNat 0 = sumOf (v.2.take (i + 1)) (manyF v) r.2.2.2 := by
  have e : offAt v (i : Int) = sumOf (v.2.take i) (manyF v) r.2.2.2 := by rw [offAt_is hr, if_pos (by simpa using hc)]; omega
  refine ⟨e, ?_⟩
  rw [List.take_succ, hr]
  show _ = sumOf (v.2.take i ++ [r]) (manyF v) r.2.2.2
  rw [sumOf_snoc, if_pos rfl, e]
theorem row_get {v : Web} {k : Int} (k0 : 0 ≤ k) (k1 : k < (v.2.length : Int)) : v.2[k.toNat]? = some (rowOf v k) := by
  unfold rowOf; rw [List.getD_eq_getElem?_getD, List.getElem?_eq_getElem (by omega)]; rfl
theorem off_bd {v : Web} (hv : WebG v) {k : Int} (k0 : 0 ≤ k) (k1 : k < (v.2.length : Int)) (kc : 0 ≤ (rowOf v k).2.2.2) : 0 ≤ (offF v).getD k.toNat 0 ∧ (offF v).getD k.toNat 0 + (manyF v).getD (rowOf v k).1.toNat 0 ≤ (manyF v).getD (rowOf v k).2.2.2.toNat 0 := by
  have R := hv.rowP (rowOf_mem k0 k1)
  have c1 := R.c1; have cp := R.cp; have p0 := R.p0
  obtain ⟨e1, e2⟩ := off_take (row_get k0 k1) kc
  rw [offF_at (by omega)]
  refine ⟨?_, ?_⟩
  · rw [e1]
    refine sum_nn _ fun y hy => ?_
    obtain ⟨s, _, rfl⟩ := List.mem_map.mp hy
    exact manyF_nn v _
  · rw [e2, many_at hv (q := (rowOf v k).2.2.2) (by omega) c1]
    have := sumOf_up (v := v) (q := (rowOf v k).2.2.2) (i := k.toNat + 1) (j := v.2.length) (by omega) (Nat.le_refl _)
    rw [List.take_length] at this
    exact this
theorem ChT.bd {v : Web} (hv : WebG v) {xs : List Int} {p : Int} (h : ChT v xs p) : 0 ≤ offS v xs ∧ offS v xs < (manyF v).getD p.toNat 0 := by
  induction h with
  | nil =>
    refine ⟨Int.le_refl _, ?_⟩
    show (0 : Int) < (manyL v (v.1.length - 1)).getD 0 0
    rw [manyL_get v _ 0 0 (Nat.le_refl _) (Nat.zero_le _)]
    show (0 : Int) < 1
    decide
  | snoc h k0 k1 kp kc ih =>
    obtain ⟨b1, b2⟩ := off_bd hv k0 k1 kc
    rw [kp] at b2
    rw [offS_snoc]
    exact ⟨by omega, by omega⟩
theorem call_is {v : Web} (hv : WebG v) {k left : Int} (k0 : 0 ≤ k) (k1 : k < (v.2.length : Int)) (kc : 0 ≤ (rowOf v k).2.2.2) (l0 : (offF v).getD k.toNat 0 ≤ left) (l1 : left < (offF v).getD k.toNat 0 + (manyF v).getD (rowOf v k).1.toNat 0) {i : Nat} {r : Row} (hi : v.2[i]? = some r) (hq : r.2.2.2 = (rowOf v k).2.2.2) (o0 : offAt v (i : Int) ≤ left) (o2 : left - offAt v (i : Int) < (manyF v).getD r.1.toNat 0) : i = k.toNat := by
  have il := (List.getElem?_eq_some_iff.mp hi).1
  obtain ⟨e1, e2⟩ := off_take (row_get k0 k1) kc
  obtain ⟨f1, f2⟩ := off_take hi (by rw [hq]; exact kc)
  rw [hq] at f1 f2
  rw [offF_at (by omega)] at l0 l1
  rcases Nat.lt_trichotomy i k.toNat with z | z | z
  · have := sumOf_up (v := v) (q := (rowOf v k).2.2.2) (i := i + 1) (j := k.toNat) (by omega) (by omega)
    omega
  · exact z
  · have := sumOf_up (v := v) (q := (rowOf v k).2.2.2) (i := k.toNat + 1) (j := i) (by omega) (by omega)
    omega
theorem ChT.zero {v : Web} (hv : WebG v) {xs : List Int} {p : Int} (h : ChT v xs p) (hp : p = 0) : xs = [] := by
  cases h with
  | nil => rfl
  | snoc h k0 k1 kp kc =>
    have R := hv.rowP (rowOf_mem k0 k1)
    have := R.cp; have := R.p0
    omega
section
variable {P : Program} {w : World} {K : PySem.W.Frag} {mg : Str → Option Value} {base : Heap} {f : Addr} {fd : FuncData}
abbrev sRW : Stmt := top at_is_row
theorem scRW : FnScope ["web", "number"] ["web", "number"] (defScope sRW) := ⟨rfl, rfl, rfl, by decide +kernel, rfl, by decide +kernel, by decide +kernel⟩
def SRW : SpD := fun K ps T => ∃ (v : Web) (k : Int), ps = [⟨rWeb, v⟩, ⟨rInt, k⟩] ∧ T = rtP K rBool (· = (decide (0 ≤ k) && decide (k < (v.2.length : Int))))
theorem ok_RW (M : Mods mg) (CI : Cal P w K mg base "is_whole" 1 (spG SIW K)) (F : Fun K "is_row" "is_row" sRW f fd) (hm : mg "is_row" = some (.ref f)) (hb : Binds K fd ["web", "number"] []) : Cal P w K mg base "is_row" 2 (spG SRW K) := by
  have nd := scRW.nd
  refine fn_ok F scRW hm hb (fun qs T ⟨_, _, e, _⟩ => by rw [e]; rfl) (fun cdv A outer s H E qs T hr hS => ?_)
  obtain ⟨v, k, rfl, rfl⟩ := hS
  change WS _ _ [.im (rPair (rList rInt) (rList rRow)) v, .im rInt k] _ _
  exact ws_one (w_ret (ev_and (ev_call CI hr (ha_cons (ev_name 1 rfl) ha_nil) ⟨k, rfl, rfl⟩) (fun _ => ev_one (ev_chain c_le c_lt ev_int (ev_name 1 rfl) (ev_len M.len (ev_snd (ev_name 0 rfl)))))) (Bool.true_and _))
def SIPb : SpD := fun K ps T => ∃ (v : Web) (p : Int), ps = [⟨rWeb, v⟩, ⟨rInt, p⟩] ∧ T = rtP K rBool (· = (decide (0 ≤ p) && decide (p < (v.1.length : Int))))
theorem ok_IPb (M : Mods mg) (CI : Cal P w K mg base "is_whole" 1 (spG SIW K)) (F : Fun K "is_part" "is_part" sIP f fd) (hm : mg "is_part" = some (.ref f)) (hb : Binds K fd ["web", "part"] []) : Cal P w K mg base "is_part" 2 (spG SIPb K) := by
  have nd := scIP.nd
  refine fn_ok F scIP hm hb (fun qs T ⟨_, _, e, _⟩ => by rw [e]; rfl) (fun cdv A outer s H E qs T hr hS => ?_)
  obtain ⟨v, p, rfl, rfl⟩ := hS
  change WS _ _ [.im (rPair (rList rInt) (rList rRow)) v, .im rInt p] _ _
  exact ws_one (w_ret (ev_and (ev_call CI hr (ha_cons (ev_name 1 rfl) ha_nil) ⟨p, rfl, rfl⟩) (fun _ => ev_one (ev_chain c_le c_lt ev_int (ev_name 1 rfl) (ev_len M.len (ev_fst (ev_name 0 rfl)))))) (Bool.true_and _))
abbrev sXC : Stmt := top at_is_chain
abbrev nXC : List Str := ["web", "chain", "part", "number"]
theorem scXC : FnScope nXC ["web", "chain"] (defScope sXC) := ⟨rfl, rfl, rfl, by decide +kernel, rfl, by decide +kernel, by decide +kernel⟩
def SXC : SpD := fun K ps T => ∃ (v : Web) (xs : List Int), ps = [⟨rWeb, v⟩, ⟨rList rInt, xs⟩] ∧ xs.length ≤ 1000 ∧ T = rtP K rBool (· = chF v 0 xs)
theorem ok_XC (M : Mods mg) (CR : Cal P w K mg base "is_row" 2 (spG SRW K)) (F : Fun K "is_chain" "is_chain" sXC f fd) (hm : mg "is_chain" = some (.ref f)) (hb : Binds K fd ["web", "chain"] []) : Cal P w K mg base "is_chain" 3 (spG SXC K) := by
  have nd := scXC.nd
  obtain ⟨t1, hFP⟩ := M.firstPart
  obtain ⟨t2, hNC⟩ := M.noCall
  refine fn_ok F scXC hm hb (fun qs T ⟨_, _, e, _⟩ => by rw [e]; rfl) (fun cdv A outer s H E qs T hr hS => ?_)
  obtain ⟨v, xs, rfl, hl, rfl⟩ := hS
  change WS _ _ [.im (rPair (rList rInt) (rList rRow)) v, .im (rList rInt) xs, .no, .no] _ _
  refine ws_seq (w_if (tv_not (tv_bool (ev_isinst M.isinstance M.list PyProof.Rows.boot_list (ev_name 1 rfl) ty_list (b := true)))) (fun h => absurd h (by decide)) (fun _ => ws_end ?_))
  refine ws_seq (w_set 2 (ev_glob hFP) ?_)
  refine ws_seq (w_forI (r := rInt) (fun i Γ => ∃ p v3, Γ = [.im (rPair (rList rInt) (rList rRow)) v, .im (rList rInt) xs, .im rInt p, v3] ∧ chF v 0 xs = chF v p (xs.drop i)) (iv_list (ev_name 1 rfl)) (bg_name 3) ⟨0, _, rfl, rfl⟩ ?_ ?_)
  · rintro i k Γ hk ⟨p, v3, rfl, hc⟩
    have hd : xs.drop i = k :: xs.drop (i + 1) := by
      obtain ⟨h1, h2⟩ := List.getElem?_eq_some_iff.mp hk
      rw [List.drop_eq_getElem_cons h1, h2]
    rw [hd, chF] at hc
    refine ws_seq (w_if (TW.tv (tw_or (tv_not (tv_bool (ev_call CR hr (ha_cons (ev_name 0 rfl) (ha_cons (ev_name 3 rfl) ha_nil)) ⟨v, k, rfl, rfl⟩))) fun h => tw_or1 (tv_cmp c_ne (ev_row0 (ev_ixL (y := rowOf v k) (ev_snd (ev_name 0 rfl)) (ev_name 3 rfl) ?_)) (ev_name 2 rfl)))) (fun h => ?_) (fun h => ws_end ?_))
    · have h : (decide (0 ≤ k) && decide (k < (v.2.length : Int))) = true := by simpa using h
      rw [Bool.and_eq_true] at h
      exact atI_getDG noRow (of_decide_eq_true h.1) (of_decide_eq_true h.2)
    · refine ws_one (w_ret ev_bool ?_)
      rw [hc]
      cases z : (decide (0 ≤ k) && decide (k < (v.2.length : Int))) with
      | false => rfl
      | true => rw [z] at h; have h : (rowOf v k).1 ≠ p := by simpa using h
                rw [decide_eq_false h]; rfl
    · have h := Bool.or_eq_false_iff.mp h
      have h1 : (decide (0 ≤ k) && decide (k < (v.2.length : Int))) = true := by simpa using h.1
      have h2 : (rowOf v k).1 = p := by simpa using h.2
      have h1' := Bool.and_eq_true_iff.mp h1
      refine ws_one (w_set 2 (ev_row3 (ev_ixL (y := rowOf v k) (ev_snd (ev_name 0 rfl)) (ev_name 3 rfl) (atI_getDG noRow (of_decide_eq_true h1'.1) (of_decide_eq_true h1'.2)))) ?_)
      refine ⟨(rowOf v k).2.2.2, _, rfl, ?_⟩
      rw [hc, h1, decide_eq_true h2]; rfl
  · rintro Γ ⟨p, v3, rfl, hc⟩
    rw [List.drop_length] at hc
    refine ws_one (w_ret (ev_cmp c_ne (ev_name 2 rfl) (ev_glob hNC)) ?_)
    rw [hc, chF]; simp
abbrev sCN : Stmt := top at_chain_number
abbrev nCN : List Str := ["web", "chain", "known"]
theorem scCN : FnScope nCN ["web", "chain"] (defScope sCN) := ⟨rfl, rfl, rfl, by decide +kernel, rfl, by decide +kernel, by decide +kernel⟩
def SCN : SpD := fun K ps T => ∃ (v : Web) (xs : List Int) (p : Int), ps = [⟨rWeb, v⟩, ⟨rList rInt, xs⟩] ∧ WebG v ∧ ChT v xs p ∧ T = rtP K rInt (· = offS v xs)
theorem ok_CN (M : Mods mg) (CO : Cal P w K mg base "offsets" 8 (spG SOS K)) (CX : Cal P w K mg base "is_chain" 3 (spG SXC K)) (F : Fun K "chain_number" "chain_number" sCN f fd) (hm : mg "chain_number" = some (.ref f)) (hb : Binds K fd ["web", "chain"] []) : Cal P w K mg base "chain_number" 9 (spG SCN K) := by
  have nd := scCN.nd
  have nd1 : List.Nodup [("number" : Str), "known"] := by decide
  have CX := CX.mono (show 3 ≤ 8 by decide)
  refine fn_ok F scCN hm hb (fun qs T ⟨_, _, _, e, _⟩ => by rw [e]; rfl) (fun cdv A outer s H E qs T hr hS => ?_)
  obtain ⟨v, xs, p, rfl, hv, hch, rfl⟩ := hS
  have rl := hv.rl
  have pl := hv.pl
  have pt := hch.part hv
  have hl : xs.length ≤ 1000 := by omega
  have hc : chF v 0 xs = true := by
    have := hch.chF []
    rw [List.append_nil] at this
    rw [this, chF]; exact decide_eq_true (by omega)
  have ol : (offF v).length = v.2.length := by unfold offF; rw [List.length_map, ups_length]
  change WS _ _ [.im (rPair (rList rInt) (rList rRow)) v, .im (rList rInt) xs, .no] _ _
  refine ws_seq (w_set 2 (EVL.im (evl_call CO hr (ha_cons (ev_name 0 rfl) ha_nil) ⟨v, rfl, hv, rfl⟩)) ?_)
  refine ws_seq (w_if (tv_not (tv_bool (ev_call CX hr (ha_cons (ev_name 0 rfl) (ha_cons (ev_name 1 rfl) ha_nil)) ⟨v, xs, rfl, hl, rfl⟩))) (fun h => by rw [hc] at h; exact absurd h (by decide)) (fun _ => ws_end ?_))
  refine ws_one (w_ret (ev_sum M.sum (EVL.im (evl_comp (own := ["number"]) (fr := ["known"]) (ix := [2]) (ra := rInt) (rb := rInt) (p := fun _ => true) (f := fun k => (offF v).getD k.toNat 0) (comp_mk (so := defScope sCN) (N0 := nCN) rfl rfl (fun x h => cell_has h) (by decide +kernel)) (iv_list (ev_name 1 rfl))
        (fun C s H ex => bg_name 0) (fun x => ⟨.inr rfl, .inl rfl, trivial⟩) (fun C s H ex x hx => tf_nil) (fun C s H ex x hx h => ev_ixL (ev_name 1 rfl) (ev_name 0 rfl) (by have := chF_in hc x hx; exact atI_getD this.1 (by omega)))))) ?_)
  unfold offS
  rw [List.filter_eq_self.mpr (by simp)]
abbrev sCF : Stmt := top at_chain_of
abbrev nCF : List Str := ["web", "part", "number", "known", "backwards", "here", "left", "calling"]
theorem scCF : FnScope nCF ["web", "part", "number"] (defScope sCF) := ⟨rfl, rfl, rfl, by decide +kernel, rfl, by decide +kernel, by decide +kernel⟩
def SCF : SpD := fun K ps T => ∃ (v : Web) (p : Int) (xs : List Int), ps = [⟨rWeb, v⟩, ⟨rInt, p⟩, ⟨rInt, offS v xs⟩] ∧ WebG v ∧ ChT v xs p ∧ T = rtL K rInt (· = xs)
theorem ok_CF (M : Mods mg) (CI : Cal P w K mg base "is_whole" 1 (spG SIW K)) (CH : Cal P w K mg base "chains" 7 (spG SCH K)) (CO : Cal P w K mg base "offsets" 8 (spG SOS K)) (CP : Cal P w K mg base "is_part" 2 (spG SIPb K)) (F : Fun K "chain_of" "chain_of" sCF f fd) (hm : mg "chain_of" = some (.ref f)) (hb : Binds K fd ["web", "part", "number"] []) : Cal P w K mg base "chain_of" 9 (spG SCF K) := by
  have nd := scCF.nd
  have nd1 : List.Nodup [("row" : Str), "lead", "here", "known", "left"] := by decide
  obtain ⟨t1, hFP⟩ := M.firstPart
  have CI := CI.mono (show 1 ≤ 8 by decide)
  have CH := CH.mono (show 7 ≤ 8 by decide)
  have CP := CP.mono (show 2 ≤ 8 by decide)
  refine fn_ok F scCF hm hb (fun qs T ⟨_, _, _, e, _⟩ => by rw [e]; rfl) (fun cdv A outer s H E qs T hr hS => ?_)
  obtain ⟨v, p, xs, rfl, hv, hch, rfl⟩ := hS
  have pl := hv.pl
  have rl := hv.rl
  have ml : (manyF v).length = v.1.length := by unfold manyF; rw [manyL_len]; omega
  have ol : (offF v).length = v.2.length := by unfold offF; rw [List.length_map, ups_length]
  obtain ⟨p0, p1, xl⟩ := hch.part hv
  obtain ⟨n0, n1⟩ := hch.bd hv
  generalize hn : offS v xs = n at n0 n1
  change WS _ _ [.im (rPair (rList rInt) (rList rRow)) v, .im rInt p, .im rInt n, .no, .no, .no, .no, .no] _ _
  refine ws_seq (w_set 3 (EVL.im (evl_call CO hr (ha_cons (ev_name 0 rfl) ha_nil) ⟨v, rfl, hv, rfl⟩)) ?_)
  refine ws_seq (w_if (TW.tv (tw_or (tv_not (tv_bool (ev_call CP hr (ha_cons (ev_name 0 rfl) (ha_cons (ev_name 1 rfl) ha_nil)) ⟨v, p, rfl, rfl⟩))) fun _ => tw_or (tv_not (tv_bool (ev_call CI hr (ha_cons (ev_name 2 rfl) ha_nil) ⟨n, rfl, rfl⟩))) fun _ =>
        tw_or1 (tv_not (tv_chain c_le c_lt ev_int (ev_name 2 rfl) (ev_ixL (EVL.im (evl_call CH hr (ha_cons (ev_name 0 rfl) ha_nil) ⟨v, rfl, hv, rfl⟩)) (ev_name 1 rfl) (atI_getD p0 (by omega))))))) (fun h => ?_) (fun _ => ws_end ?_))
  · rw [decide_eq_true p0, decide_eq_true p1, decide_eq_true n0, decide_eq_true n1] at h; exact absurd h (by decide)
  refine ws_seq (w_setL 4 (r := rInt) (evl_lst ea_nil (by decide)) ?_)
  refine ws_seq (w_set 5 (ev_name 1 rfl) ?_)
  refine ws_seq (w_set 6 (ev_name 2 rfl) ?_)
  refine ws_seq (w_while (fun m Γ => ∃ bw here left v7 ys, Γ = [.im (rPair (rList rInt) (rList rRow)) v, .im rInt p, .im rInt n, .im (rList rInt) (offF v), .mu rInt bw, .im rInt here, .im rInt left, v7] ∧ ChT v ys here ∧ left = offS v ys ∧ ys ++ bw.reverse = xs ∧ m = here.toNat) (m0 := p.toNat) ⟨_, _, _, _, xs, rfl, hch, hn.symm, by simp, rfl⟩ ?_)
  rintro m Γ ⟨bw, here, left, v7, ys, rfl, hy, rfl, hxs, rfl⟩
  have bl : bw.length ≤ 1000 := by
    have := congrArg List.length hxs
    rw [List.length_append, List.length_reverse] at this
    omega
  refine ⟨_, _, tv_cmp c_ne (ev_name 5 rfl) (ev_glob hFP), fun h => ?_, fun h => ?_⟩
  · have h : here ≠ 0 := by simpa using h
    obtain ⟨h0, h1, _⟩ := hy.part hv
    obtain ⟨l0, l1⟩ := hy.bd hv
    obtain ⟨i, r, hi, hq, o0, o1, o2, hat⟩ := call_step hv (q := here) (by omega) h1 l0 l1
    have il := (List.getElem?_eq_some_iff.mp hi).1
    have R := hv.rowP (List.mem_of_getElem? hi)
    have := R.p0; have := R.cp; have := R.p1
    refine ws_seq (w_set 7 (y := (i : Int)) (ev_ixL (i := -1) (EVL.im (evl_comp (own := ["row", "lead"]) (fr := ["here", "known", "left"]) (ix := [5, 3, 6]) (ra := rPair rInt rRow) (rb := rInt) (p := callP v here (offS v ys)) (f := fun x => x.1) (comp_mk (so := defScope sCF) (N0 := nCF) rfl rfl (fun x h => cell_has h) (by decide +kernel)) (iv_enum M.enumerate (ev_snd (ev_name 0 rfl)))
            (fun C s H ex => bg_pair 0 1) (fun x => ⟨.inr rfl, .inr rfl, .inl rfl, .inl rfl, .inl rfl, trivial⟩) (fun C s H ex x hx => tf_one (TW.tv (tw_and (tv_cmp c_eq (ev_row3 (ev_name 1 rfl)) (ev_name 2 rfl)) fun _ => tw_and1 (tv_cmp c_le (ev_ixL (ev_name 3 rfl) (ev_name 0 rfl) (by
              obtain ⟨j, hj⟩ := List.mem_iff_getElem?.mp hx
              obtain ⟨e1, e2⟩ := nums_at hj
              have := (List.getElem?_eq_some_iff.mp e2).1
              exact atI_getD (by omega) (by omega))) (ev_name 4 rfl))))) (fun C s H ex x hx _ => ev_name 0 rfl))) (ev_neg ev_int) hat) ?_)
    refine ws_seq (w_append 4 (ev_name 7 rfl) rfl rfl (Nat.lt_of_le_of_lt bl (by decide)) ?_)
    refine ws_seq (w_subN 6 (c := offAt v (i : Int)) (ev_ixL (ev_name 3 rfl) (ev_name 7 rfl) (by rw [atI_getD (by omega) (by omega), show ((i : Int)).toNat = i by omega, offF_at il])) rfl ?_)
    refine ws_one (w_set 5 (ev_row0 (ev_ixL (y := r) (ev_snd (ev_name 0 rfl)) (ev_name 7 rfl) (by rw [atI_of (by omega) (by omega), show ((i : Int)).toNat = i by omega]; exact hi))) ?_)
    cases hy with
    | nil => exact absurd rfl h
    | @snoc zs q k hz k0 k1 kp kc =>
      have zb := hz.bd hv
      rw [offS_snoc] at o0 o2 l0 l1
      have ei := call_is hv k0 k1 kc (left := offS v zs + (offF v).getD k.toNat 0) (by omega) (by rw [kp]; omega) hi hq o0 o2
      subst ei
      have er : r = rowOf v k := Option.some.inj (hi.symm.trans (row_get k0 k1))
      subst er
      have ek : ((k.toNat : Nat) : Int) = k := by omega
      refine ⟨(rowOf v k).1.toNat, by omega, bw ++ [((k.toNat : Nat) : Int)], (rowOf v k).1, _, _, zs, rfl, by rw [kp]; exact hz, ?_, ?_, rfl⟩
      · rw [offS_snoc, offF_at (by omega)]; omega
      · rw [← hxs, List.reverse_append, List.append_assoc, ek]; rfl
  · have h : here = 0 := by simpa using h
    have ez := hy.zero hv h
    subst ez
    exact ws_one (w_retL (evl_listRev M.list M.reversed (ev_own 4 rfl (small_le (by omega)))) (by rw [← hxs]; rfl))
end
end K1

set_option Elab.async false
set_option linter.all false
namespace Fc.SetT
open PySem
abbrev Rise (l : List Nat) : Prop := l.Pairwise (· < ·)
theorem rise_get {l : List Nat} (h : Rise l) {i j : Nat} (hij : i < j) (hj : j < l.length) : l[i]'(by omega) < l[j] := List.pairwise_iff_getElem.mp h i j (by omega) hj hij
theorem below_go (xs : Array Nat) (j : Nat) (h : Rise xs.toList) : ∀ (fuel lo hi : Nat), hi - lo ≤ fuel → lo ≤ hi → hi ≤ xs.size →
    (∀ k (hk : k < xs.size), k < lo → xs[k] < j) → (∀ k (hk : k < xs.size), hi ≤ k → j ≤ xs[k]) →
    SetTable.below.go xs j fuel lo hi ≤ xs.size ∧ (∀ k (hk : k < xs.size), k < SetTable.below.go xs j fuel lo hi → xs[k] < j) ∧ (∀ k (hk : k < xs.size), SetTable.below.go xs j fuel lo hi ≤ k → j ≤ xs[k])
  | 0, lo, hi, hf, hlo, hhi, h1, h2 => by
    have : lo = hi := by omega
    subst this
    rw [SetTable.below.go]
    exact ⟨hhi, h1, h2⟩
  | fuel + 1, lo, hi, hf, hlo, hhi, h1, h2 => by
    rw [SetTable.below.go]
    split
    · rename_i hlt
      have hm : (lo + hi) / 2 < hi := by omega
      have hm' : lo ≤ (lo + hi) / 2 := by omega
      have hms : (lo + hi) / 2 < xs.size := by omega
      have e : xs.getD ((lo + hi) / 2) j = xs[(lo + hi) / 2] := by simp [Array.getD, hms]
      dsimp only
      rw [e]
      split
      · rename_i hl
        refine below_go xs j h fuel _ hi (by omega) (by omega) hhi (fun k hk hkl => ?_) h2
        rcases Nat.lt_or_ge k ((lo + hi) / 2) with hlt' | hge
        · have := rise_get h hlt' (by simpa using hms)
          simp only [Array.getElem_toList] at this
          omega
        · have : k = (lo + hi) / 2 := by omega
          subst this; exact hl
      · rename_i hl
        refine below_go xs j h fuel lo _ (by omega) (by omega) (by omega) h1 (fun k hk hkl => ?_)
        rcases Nat.lt_or_ge ((lo + hi) / 2) k with hlt' | hge
        · have := rise_get h hlt' (by simpa using hk)
          simp only [Array.getElem_toList] at this
          omega
        · have : k = (lo + hi) / 2 := by omega
          subst this; omega
    · have : lo = hi := by omega
      subst this
      exact ⟨hhi, h1, h2⟩
theorem below_spec {xs : Array Nat} (h : Rise xs.toList) (j : Nat) : SetTable.below xs j ≤ xs.size ∧ (∀ k (hk : k < xs.size), k < SetTable.below xs j → xs[k] < j) ∧ (∀ k (hk : k < xs.size), SetTable.below xs j ≤ k → j ≤ xs[k]) := by
  unfold SetTable.below
  exact below_go xs j h _ 0 _ (by omega) (Nat.zero_le _) (Nat.le_refl _) (fun _ _ h => absurd h (Nat.not_lt_zero _)) (fun k hk h => absurd hk (by omega))
theorem below_uniq {xs : Array Nat} (h : Rise xs.toList) {j i : Nat} (hi : i ≤ xs.size) (h1 : ∀ k (hk : k < xs.size), k < i → xs[k] < j) (h2 : ∀ k (hk : k < xs.size), i ≤ k → j ≤ xs[k]) : SetTable.below xs j = i := by
  obtain ⟨a, b, c⟩ := below_spec h j
  rcases Nat.lt_trichotomy (SetTable.below xs j) i with q | q | q
  · have hk : SetTable.below xs j < xs.size := by omega
    have := h1 _ hk q; have := c _ hk (Nat.le_refl _); omega
  · exact q
  · have hk : i < xs.size := by omega
    have := b _ hk q; have := h2 _ hk (Nat.le_refl _); omega
theorem below_zero {xs : Array Nat} (h : Rise xs.toList) : SetTable.below xs 0 = 0 :=
  below_uniq h (Nat.zero_le _) (fun _ _ q => absurd q (Nat.not_lt_zero _)) (fun _ _ _ => Nat.zero_le _)
theorem below_next {xs : Array Nat} (h : Rise xs.toList) {i : Nat} (hi : i < xs.size) : SetTable.below xs (xs[i] + 1) = i + 1 := by
  refine below_uniq h hi (fun k hk q => ?_) (fun k hk q => ?_)
  · rcases Nat.lt_or_ge k i with q' | q'
    · have := rise_get h q' (by simpa using hi); simp only [Array.getElem_toList] at this; omega
    · have : k = i := by omega
      subst this; omega
  · have := rise_get h (show i < k from q) (by simpa using hk); simp only [Array.getElem_toList] at this; omega
theorem slot_empty {t : SetTable} (h : Rise t.place.toList) (hd : t.dummies = #[]) {j : Nat} (hj : j ∉ t.place.toList) : t.slot j = .empty := by
  unfold SetTable.slot
  dsimp only
  have e : (t.place[SetTable.below t.place j]? == some j) = false := by
    rw [beq_eq_false_iff_ne]; intro q
    rw [Array.getElem?_eq_some_iff] at q
    obtain ⟨hk, q⟩ := q
    exact hj (by rw [← q]; simp)
  rw [e, hd]
  simp [SetTable.has]
theorem slot_not_dummy {t : SetTable} (hd : t.dummies = #[]) {j : Nat} : t.slot j ≠ .dummy := by
  unfold SetTable.slot
  dsimp only
  rw [hd]
  split
  · intro q; cases q
  · simp [SetTable.has]
theorem slot_empty_not {t : SetTable} (h : Rise t.place.toList) {j : Nat} (hj : t.slot j = .empty) : j ∉ t.place.toList := by
  intro hm
  obtain ⟨k, hk, e⟩ := List.getElem_of_mem hm
  simp only [Array.length_toList] at hk
  simp only [Array.getElem_toList] at e
  obtain ⟨a, b, c⟩ := below_spec h j
  have hb : SetTable.below t.place j = k := by
    rcases Nat.lt_trichotomy (SetTable.below t.place j) k with q | q | q
    · have := c _ (by omega) (Nat.le_refl _)
      have h2 := rise_get h q (by simpa using hk); simp only [Array.getElem_toList] at h2
      omega
    · exact q
    · have := b k hk q; omega
  unfold SetTable.slot at hj
  dsimp only at hj
  rw [hb] at hj
  have : (t.place[k]? == some j) = true := by rw [beq_iff_eq, Array.getElem?_eq_some_iff]; exact ⟨hk, e⟩
  rw [if_pos this] at hj
  cases hj
def leapN (mask : Nat) : Nat → Nat × Nat → Nat × Nat
  | 0, p => p
  | n + 1, p => leapN mask n (SetTable.leap mask p.1 p.2)
theorem leapN_add (mask : Nat) : ∀ (m n : Nat) (p : Nat × Nat), leapN mask (m + n) p = leapN mask n (leapN mask m p)
  | 0, n, p => by rw [Nat.zero_add]; rfl
  | m + 1, n, p => by rw [show m + 1 + n = (m + n) + 1 by omega]; show leapN mask (m + n) _ = _; rw [leapN_add mask m n]; rfl
theorem leapN_pert (mask : Nat) : ∀ (n : Nat) (p : Nat × Nat), (leapN mask n p).2 = p.2 / 32 ^ n
  | 0, p => by simp [leapN]
  | n + 1, p => by show (leapN mask n _).2 = _; rw [leapN_pert mask n]; simp [SetTable.leap, Nat.div_div_eq_div_mul, Nat.pow_succ, Nat.mul_comm]
theorem leapN_le (mask : Nat) : ∀ (n : Nat) (p : Nat × Nat), p.1 ≤ mask → (leapN mask n p).1 ≤ mask
  | 0, p, h => h
  | n + 1, p, h => leapN_le mask n _ (Nat.le_of_lt_succ (Nat.mod_lt (p.1 * 5 + 1 + p.2 / 32) (Nat.succ_pos mask)))
def hop (mask i : Nat) : Nat := (i * 5 + 1) % (mask + 1)
def hops (mask : Nat) : Nat → Nat → Nat
  | 0, i => i
  | n + 1, i => hops mask n (hop mask i)
theorem hops_add (mask : Nat) : ∀ (m n i : Nat), hops mask (m + n) i = hops mask n (hops mask m i)
  | 0, n, i => by rw [Nat.zero_add]; rfl
  | m + 1, n, i => by rw [show m + 1 + n = (m + n) + 1 by omega]; show hops mask (m + n) _ = _; rw [hops_add mask m n]; rfl
theorem leapN_zero (mask : Nat) : ∀ (n i : Nat), leapN mask n (i, 0) = (hops mask n i, 0)
  | 0, i => rfl
  | n + 1, i => by show leapN mask n (SetTable.leap mask i 0) = _; rw [show SetTable.leap mask i 0 = (hop mask i, 0) by simp [SetTable.leap, hop]]; exact leapN_zero mask n _
def tour (mask : Nat) : Nat → Nat → List Nat
  | 0, _ => []
  | n + 1, i => i :: tour mask n (hop mask i)
theorem tour_mem (mask : Nat) : ∀ (n i j : Nat), j ∈ tour mask n i → ∃ m, m < n ∧ hops mask m i = j
  | 0, _, _, h => by cases h
  | n + 1, i, j, h => by
    rcases List.mem_cons.mp h with rfl | h
    · exact ⟨0, Nat.succ_pos _, rfl⟩
    · obtain ⟨m, hm, e⟩ := tour_mem mask n _ j h
      exact ⟨m + 1, by omega, e⟩
abbrev Round (mask : Nat) : Prop := mask = 7 ∨ mask = 31 ∨ mask = 127
theorem tour_all {mask : Nat} (hm : Round mask) {j : Nat} (hj : j ≤ mask) : j ∈ tour mask (mask + 1) 0 := by
  rcases hm with rfl | rfl | rfl
  · have : ∀ j, j < 8 → j ∈ tour 7 8 0 := by decide +kernel
    exact this j (by omega)
  · have : ∀ j, j < 32 → j ∈ tour 31 32 0 := by decide +kernel
    exact this j (by omega)
  · have : ∀ j, j < 128 → j ∈ tour 127 128 0 := by decide +kernel
    exact this j (by omega)
theorem hops_back {mask : Nat} (hm : Round mask) : hops mask (mask + 1) 0 = 0 := by rcases hm with rfl | rfl | rfl <;> decide +kernel
theorem hops_all {mask : Nat} (hm : Round mask) {i j : Nat} (hi : i ≤ mask) (hj : j ≤ mask) : ∃ m, m ≤ mask ∧ hops mask m i = j := by
  obtain ⟨a, ha, rfl⟩ := tour_mem mask _ 0 i (tour_all hm hi)
  obtain ⟨b, hb, rfl⟩ := tour_mem mask _ 0 j (tour_all hm hj)
  rcases Nat.lt_or_ge b a with q | q
  · refine ⟨mask + 1 - a + b, by omega, ?_⟩
    rw [← hops_add, show a + (mask + 1 - a + b) = mask + 1 + b by omega, hops_add, hops_back hm]
  · exact ⟨b - a, by omega, by rw [← hops_add, show a + (b - a) = b by omega]⟩
theorem leap_all {mask : Nat} (hm : Round mask) {i j p : Nat} (hi : i ≤ mask) (hj : j ≤ mask) (hp : p < 2 ^ 64) : ∃ m, m < SetTable.turns mask ∧ (leapN mask m (i, p)).1 = j := by
  have h0 : (leapN mask 13 (i, p)).2 = 0 := by rw [leapN_pert]; exact Nat.div_eq_of_lt (Nat.lt_of_lt_of_le hp (by decide))
  have h1 : (leapN mask 13 (i, p)).1 ≤ mask := leapN_le mask 13 _ hi
  obtain ⟨m, hm', e⟩ := hops_all hm h1 hj
  refine ⟨13 + m, by unfold SetTable.turns; omega, ?_⟩
  rw [leapN_add, show leapN mask 13 (i, p) = ((leapN mask 13 (i, p)).1, 0) from Prod.ext rfl h0, leapN_zero]
  exact e
theorem bits_lt (h : Int) : SetTable.bits h < 2 ^ 64 := by unfold SetTable.bits; omega
end Fc.SetT

set_option Elab.async false
set_option linter.all false
namespace Fc.SetT
open PySem
theorem runEnd_le {mask i : Nat} (h : i ≤ mask) : SetTable.runEnd mask i ≤ mask ∧ i ≤ SetTable.runEnd mask i ∧ SetTable.runEnd mask i ≤ i + 9 := by
  unfold SetTable.runEnd; split <;> omega
section
variable {t : SetTable} (hr : Rise t.place.toList) (hd : t.dummies = #[])
include hr hd
theorem go_run (h : Int) : ∀ (more fuel j i pert : Nat), j + more ≤ t.mask →
    (∃ k, k ≤ t.mask ∧ k ∉ t.place.toList ∧ SetTable.probe.go t (fun _ => h + 1) h (more + 1 + fuel) ⟨j, more, i, pert, none⟩ = some (.empty k none)) ∨
    (SetTable.probe.go t (fun _ => h + 1) h (more + 1 + fuel) ⟨j, more, i, pert, none⟩ = SetTable.probe.go t (fun _ => h + 1) h fuel (t.advance ⟨j + more, 0, i, pert, none⟩) ∧ j ∈ t.place.toList)
  | more, fuel, j, i, pert, hm => by
    by_cases hj : j ∈ t.place.toList
    · have hs : ∃ n, t.slot j = .live n := by
        cases q : t.slot j with
        | empty => exact absurd hj (slot_empty_not hr q)
        | dummy => exact absurd q (slot_not_dummy hd)
        | live n => exact ⟨n, rfl⟩
      obtain ⟨n, hs⟩ := hs
      have hne : (h + 1 == h) = false := by rw [beq_eq_false_iff_ne]; omega
      have step : ∀ f, SetTable.probe.go t (fun _ => h + 1) h (f + 1) ⟨j, more, i, pert, none⟩ = SetTable.probe.go t (fun _ => h + 1) h f (t.advance ⟨j, more, i, pert, none⟩) := by
        intro f
        rw [SetTable.probe.go]
        simp only [hs, hne, Bool.false_eq_true, if_false]
      match more, hm with
      | 0, hm =>
        refine .inr ⟨?_, hj⟩
        rw [show 0 + 1 + fuel = fuel + 1 by omega, step]
        rfl
      | more + 1, hm =>
        have e : t.advance ⟨j, more + 1, i, pert, none⟩ = ⟨j + 1, more, i, pert, none⟩ := by
          unfold SetTable.advance; simp
        have ih := go_run h more fuel (j + 1) i pert (by omega)
        rw [show more + 1 + 1 + fuel = (more + 1 + fuel) + 1 by omega, step, e]
        rcases ih with ih | ⟨ih, _⟩
        · exact .inl ih
        · refine .inr ⟨?_, hj⟩
          rw [ih, show j + 1 + more = j + (more + 1) by omega]
    · refine .inl ⟨j, by omega, hj, ?_⟩
      rw [show more + 1 + fuel = (more + fuel) + 1 by omega, SetTable.probe.go]
      simp only [slot_empty hr hd hj]
termination_by more => more
theorem go_leaps (h : Int) : ∀ (m fuel i pert : Nat), i ≤ t.mask → (leapN t.mask m (i, pert)).1 ∉ t.place.toList → 10 * (m + 1) ≤ fuel →
    ∃ k, k ≤ t.mask ∧ k ∉ t.place.toList ∧ SetTable.probe.go t (fun _ => h + 1) h fuel ⟨i, SetTable.runEnd t.mask i - i, i, pert, none⟩ = some (.empty k none)
  | m, fuel, i, pert, hi, hf, hfu => by
    obtain ⟨r1, r2, r3⟩ := runEnd_le hi
    have key := go_run hr hd h (SetTable.runEnd t.mask i - i) (fuel - (SetTable.runEnd t.mask i - i) - 1) i i pert (by omega)
    rw [show SetTable.runEnd t.mask i - i + 1 + (fuel - (SetTable.runEnd t.mask i - i) - 1) = fuel by omega] at key
    rcases key with key | ⟨key, hmem⟩
    · exact key
    · match m, hf, hfu with
      | 0, hf, hfu => exact absurd hmem hf
      | m + 1, hf, hfu =>
        rw [key]
        have e : t.advance ⟨i + (SetTable.runEnd t.mask i - i), 0, i, pert, none⟩ = ⟨(SetTable.leap t.mask i pert).1, SetTable.runEnd t.mask (SetTable.leap t.mask i pert).1 - (SetTable.leap t.mask i pert).1, (SetTable.leap t.mask i pert).1, (SetTable.leap t.mask i pert).2, none⟩ := by
          unfold SetTable.advance; simp
        rw [e]
        exact go_leaps h m _ _ _ (Nat.le_of_lt_succ (Nat.mod_lt _ (Nat.succ_pos t.mask))) hf (by omega)
termination_by m => m
theorem free_slot (hm : Round t.mask) (hx : ∃ j, j ≤ t.mask ∧ j ∉ t.place.toList) (h : Int) : ∃ k, k ≤ t.mask ∧ k ∉ t.place.toList ∧ t.freeSlot h = some (k, false) := by
  obtain ⟨j, hj, hn⟩ := hx
  have hi : SetTable.bits h % (t.mask + 1) ≤ t.mask := Nat.le_of_lt_succ (Nat.mod_lt _ (Nat.succ_pos _))
  obtain ⟨m, hm', e⟩ := leap_all hm hi hj (bits_lt h)
  obtain ⟨k, hk, hkn, e'⟩ := go_leaps hr hd h m (10 * SetTable.turns t.mask) _ (SetTable.bits h) hi (by rw [e]; exact hn) (by omega)
  refine ⟨k, hk, hkn, ?_⟩
  unfold SetTable.freeSlot SetTable.probe SetTable.probeStart
  dsimp only
  rw [e']
  rfl
end
theorem nodup_len : ∀ {l m : List Nat}, l.Nodup → l ⊆ m → l.length ≤ m.length
  | [], _, _, _ => Nat.zero_le _
  | a :: l, m, hn, hs => by
    have ha : a ∈ m := hs List.mem_cons_self
    have ih := nodup_len (l := l) (m := m.erase a) (List.nodup_cons.mp hn).2 (fun x hx => by
      have hne : x ≠ a := fun e => (List.nodup_cons.mp hn).1 (e ▸ hx)
      exact (List.mem_erase_of_ne hne).mpr (hs (List.mem_cons_of_mem _ hx)))
    rw [List.length_erase_of_mem ha] at ih
    have : 0 < m.length := List.length_pos_of_mem ha
    simp only [List.length_cons]
    omega
theorem some_free {l : List Nat} (hr : Rise l) {mask : Nat} (h : l.length ≤ mask) : ∃ j, j ≤ mask ∧ j ∉ l := by
  apply Classical.byContradiction
  intro hc
  have hall : ∀ j, j < mask + 1 → j ∈ l := fun j hj => by
    apply Classical.byContradiction; intro hn; exact hc ⟨j, by omega, hn⟩
  have hnd : (List.range (mask + 1)).Nodup := List.nodup_range
  have hsub : (List.range (mask + 1)) ⊆ l := fun j hj => hall j (List.mem_range.mp hj)
  have := nodup_len hnd hsub
  simp at this
  omega
structure Good (t : SetTable) (n : Nat) : Prop where
  plain : t.plain = true
  led : t.led = true
  dum : t.dummies = #[]
  size : t.place.size = n
  rise : Rise t.place.toList
  round : Round t.mask
theorem rise_insert {l : List Nat} {p j : Nat} (h : Rise l) (h1 : ∀ x ∈ l.take p, x < j) (h2 : ∀ x ∈ l.drop p, j < x) : Rise (l.take p ++ j :: l.drop p) := by
  refine List.pairwise_append.mpr ⟨h.sublist (List.take_sublist _ _), List.pairwise_cons.mpr ⟨h2, h.sublist (List.drop_sublist _ _)⟩, fun a ha b hb => ?_⟩
  rcases List.mem_cons.mp hb with rfl | hb
  · exact h1 a ha
  · exact Nat.lt_trans (h1 a ha) (h2 b hb)
theorem put_rise {t : SetTable} (h : Rise t.place.toList) {j : Nat} (hj : j ∉ t.place.toList) : Rise (SetTable.insertAt t.place (SetTable.below t.place j) j).toList := by
  rw [SetTable.toList_insertAt]
  obtain ⟨a, b, c⟩ := below_spec h j
  refine rise_insert h (fun x hx => ?_) (fun x hx => ?_)
  · obtain ⟨k, hk, e⟩ := List.getElem_of_mem hx
    rw [List.length_take] at hk
    rw [List.getElem_take] at e
    simp only [Array.getElem_toList] at e
    rw [← e]
    exact b k (by simp at hk; omega) (by omega)
  · obtain ⟨k, hk, e⟩ := List.getElem_of_mem hx
    rw [List.length_drop] at hk
    rw [List.getElem_drop] at e
    simp only [Array.getElem_toList] at e
    simp at hk
    have := c (SetTable.below t.place j + k) (by omega) (by omega)
    rw [e] at this
    rcases Nat.lt_or_ge j x with q | q
    · exact q
    · have : x = j := by omega
      subst this
      exact absurd (List.mem_of_mem_drop hx) hj
theorem size_insertAt {α : Type} (xs : Array α) (p : Nat) (x : α) : (SetTable.insertAt xs p x).size = xs.size + 1 := by
  have := (SetTable.insertAt_perm xs p x).length_eq
  simpa using this
theorem layNew_good {t : SetTable} {es : Array (Int × Value)} (G : Good t es.size) (hf : es.size + 1 ≤ t.mask) (h : Int) (x : Value) :
    ∃ t', (layNew t es h x).2.1 = t' ∧ Good t' (es.size + 1) ∧ t'.mask = t.mask ∧ (layNew t es h x).1.size = es.size + 1 ∧ (layNew t es h x).2.2.1 = false := by
  obtain ⟨k, hk, hkn, e⟩ := free_slot G.rise G.dum G.round (some_free G.rise (mask := t.mask) (by simp [G.size]; omega)) h
  have hsz : (SetTable.insertAt es (t.put k).2 (h, x)).size = es.size + 1 := size_insertAt ..
  have hd : (t.put k).1.dummies = #[] := by unfold SetTable.put; simp [G.dum, SetTable.has]
  have hp : (t.put k).1.place.size = es.size + 1 := by unfold SetTable.put; simp [size_insertAt, G.size]
  have hfit : (t.put k).1.fits (es.size + 1) = true := by
    unfold SetTable.fits SetTable.fill
    rw [hp, hd]
    have : (t.put k).1.mask = t.mask := rfl
    rw [this]; simp; omega
  have hor : (t.put k).1.orStandIn (es.size + 1) = (t.put k).1 := by unfold SetTable.orStandIn; rw [if_pos hfit]
  unfold layNew
  rw [e]
  dsimp only
  refine ⟨(t.put k).1, ?_, ⟨G.plain, G.led, hd, hp, put_rise G.rise hkn, G.round⟩, rfl, hsz, rfl⟩
  rw [hsz, hor]
end Fc.SetT

set_option Elab.async false
set_option linter.all false
namespace Fc.SetT
open PySem
def Own (mask : Nat) (owner : Array (Option Nat)) (k : Nat) : Prop :=
  owner.size = mask + 1 ∧ List.Perm ((List.range (mask + 1)).filterMap fun j => owner.getD j none) (List.range k)
theorem filterMap_same {α : Type} {f g : Nat → Option α} : ∀ {l : List Nat}, (∀ i ∈ l, g i = f i) → l.filterMap g = l.filterMap f
  | [], _ => rfl
  | a :: l, h => by rw [List.filterMap_cons, List.filterMap_cons, h a List.mem_cons_self, filterMap_same fun i hi => h i (List.mem_cons_of_mem _ hi)]
theorem filterMap_set {α : Type} {f g : Nat → Option α} {j : Nat} {a : α} (hf : f j = none) (hg : g j = some a) (ho : ∀ i, i ≠ j → g i = f i) :
    ∀ N, j < N → List.Perm ((List.range N).filterMap g) (a :: (List.range N).filterMap f)
  | 0, h => absurd h (Nat.not_lt_zero _)
  | N + 1, h => by
    rw [List.range_succ, List.filterMap_append, List.filterMap_append]
    rcases Nat.lt_or_ge j N with q | q
    · have ih := filterMap_set hf hg ho N q
      have e : List.filterMap g [N] = List.filterMap f [N] := by simp [List.filterMap_cons, ho N (by omega)]
      rw [e]
      exact (ih.append_right _)
    · have e : j = N := by omega
      subst e
      have e1 : List.filterMap g [j] = [a] := by simp [List.filterMap_cons, hg]
      have e2 : List.filterMap f [j] = [] := by simp [List.filterMap_cons, hf]
      have e3 : (List.range j).filterMap g = (List.range j).filterMap f := filterMap_same fun i hi => ho i (by have := List.mem_range.mp hi; omega)
      rw [e1, e2, e3, List.append_nil]
      exact List.perm_append_comm
theorem getD_eq {α : Type} (xs : Array α) (i : Nat) (d : α) : xs.getD i d = xs[i]?.getD d := by
  unfold Array.getD
  split
  · rename_i h; rw [Array.getElem?_eq_getElem h]; rfl
  · rename_i h; rw [Array.getElem?_eq_none (by omega)]; rfl
theorem own_set {mask : Nat} {owner : Array (Option Nat)} {k j : Nat} (h : Own mask owner k) (hj : j ≤ mask) (hn : owner.getD j none = none) : Own mask (owner.setIfInBounds j (some k)) (k + 1) := by
  obtain ⟨hs, hp⟩ := h
  refine ⟨by simp [hs], ?_⟩
  have hjs : j < owner.size := by omega
  have := filterMap_set (f := fun j => owner.getD j none) (g := fun i => (owner.setIfInBounds j (some k)).getD i none) (j := j) (a := k) hn (by simp [getD_eq, Array.getElem?_setIfInBounds, hjs]) (fun i hi => by
    simp only [getD_eq, Array.getElem?_setIfInBounds, if_neg (Ne.symm hi)]) (mask + 1) (by omega)
  refine this.trans ?_
  rw [List.range_succ (n := k)]
  exact (List.Perm.cons k hp).trans (List.perm_append_singleton k _).symm
theorem own_zero (mask : Nat) : Own mask (Array.replicate (mask + 1) none) 0 := by
  refine ⟨by simp, ?_⟩
  have : ((List.range (mask + 1)).filterMap fun j => (Array.replicate (mask + 1) (none : Option Nat)).getD j none) = [] := by
    rw [List.filterMap_eq_nil_iff]
    intro i _
    rw [getD_eq, Array.getElem?_replicate]
    split <;> rfl
  rw [this]; exact .rfl
theorem own_free {mask : Nat} {owner : Array (Option Nat)} {k : Nat} (h : Own mask owner k) (hk : k ≤ mask) : ∃ j, j ≤ mask ∧ owner.getD j none = none := by
  apply Classical.byContradiction
  intro hc
  have hall : ∀ j, j < mask + 1 → ∃ a, owner.getD j none = some a := fun j hj => by
    cases q : owner.getD j none with
    | none => exact absurd ⟨j, by omega, q⟩ hc
    | some a => exact ⟨a, rfl⟩
  have hl : ((List.range (mask + 1)).filterMap fun j => owner.getD j none).length = mask + 1 := by
    have : ∀ (l : List Nat), (∀ j ∈ l, j < mask + 1) → (l.filterMap fun j => owner.getD j none).length = l.length := by
      intro l
      induction l with
      | nil => intro _; rfl
      | cons a l ih =>
        intro hl
        obtain ⟨b, e⟩ := hall a (hl a List.mem_cons_self)
        rw [List.filterMap_cons, e, List.length_cons, List.length_cons, ih fun j hj => hl j (List.mem_cons_of_mem _ hj)]
    rw [this _ fun j hj => List.mem_range.mp hj, List.length_range]
  have := h.2.length_eq
  rw [hl, List.length_range] at this
  omega
theorem free_finds {mask : Nat} {owner : Array (Option Nat)} (hs : owner.size = mask + 1) : ∀ (m fuel i pert : Nat), i ≤ mask → owner.getD (leapN mask m (i, pert)).1 none = none → m < fuel →
    ∃ j, j ≤ mask ∧ owner.getD j none = none ∧ SetTable.layClean.free mask owner fuel i pert = some j
  | m, 0, i, pert, hi, hf, hfu => absurd hfu (Nat.not_lt_zero _)
  | m, fuel + 1, i, pert, hi, hf, hfu => by
    obtain ⟨r1, r2, r3⟩ := runEnd_le hi
    rw [SetTable.layClean.free]
    cases q : (List.range (SetTable.runEnd mask i + 1 - i)).find? fun k => (owner.getD (i + k) (some 0)).isNone with
    | some k =>
      have h1 := List.find?_some q
      have h2 := List.mem_range.mp (List.mem_of_find?_eq_some q)
      refine ⟨i + k, by omega, ?_, rfl⟩
      have hlt : i + k < owner.size := by omega
      rw [getD_eq] at h1 ⊢
      rw [Array.getElem?_eq_getElem hlt] at h1 ⊢
      simpa using h1
    | none =>
      match m, hf, hfu with
      | 0, hf, hfu =>
        have := List.find?_eq_none.mp q 0 (List.mem_range.mpr (by omega))
        have hlt : i < owner.size := by omega
        have hf' : owner.getD i none = none := hf
        rw [getD_eq, Array.getElem?_eq_getElem hlt] at hf'
        rw [Nat.add_zero, getD_eq, Array.getElem?_eq_getElem hlt] at this
        simp only [Option.getD_some] at hf' this
        rw [hf'] at this
        exact absurd rfl this
      | m + 1, hf, hfu => exact free_finds hs m fuel _ _ (Nat.le_of_lt_succ (Nat.mod_lt _ (Nat.succ_pos mask))) hf (by omega)
termination_by m fuel => fuel
theorem layClean_own {mask : Nat} (hm : Round mask) (hashes : List Int) : ∀ (owner : Array (Option Nat)) (k : Nat), Own mask owner k → k + hashes.length ≤ mask + 1 →
    ∃ owner', hashes.foldl (init := some (owner, k)) (fun acc h => do
      let (owner, k) ← acc
      let j ← SetTable.layClean.free mask owner (SetTable.turns mask) (SetTable.bits h % (mask + 1)) (SetTable.bits h)
      pure (owner.setIfInBounds j (some k), k + 1)) = some (owner', k + hashes.length) ∧ Own mask owner' (k + hashes.length) := by
  induction hashes with
  | nil => intro owner k h _; exact ⟨owner, rfl, h⟩
  | cons x l ih =>
    intro owner k h hk
    simp only [List.length_cons] at hk
    obtain ⟨j0, hj0, hn0⟩ := own_free h (by omega)
    have hi : SetTable.bits x % (mask + 1) ≤ mask := Nat.le_of_lt_succ (Nat.mod_lt _ (Nat.succ_pos _))
    obtain ⟨m, hm', e⟩ := leap_all hm hi hj0 (bits_lt x)
    obtain ⟨j, hj, hn, e'⟩ := free_finds h.1 m (SetTable.turns mask) _ (SetTable.bits x) hi (by rw [e]; exact hn0) hm'
    obtain ⟨o', e2, ho'⟩ := ih _ (k + 1) (own_set h hj hn) (by omega)
    refine ⟨o', ?_, by rw [List.length_cons, show k + (l.length + 1) = k + 1 + l.length by omega]; exact ho'⟩
    rw [List.foldl_cons, List.length_cons, show k + (l.length + 1) = k + 1 + l.length by omega, ← e2]
    congr 1
    simp [e']
theorem live_fst {owner : Array (Option Nat)} : ∀ (l : List Nat), ((l.filterMap fun j => (owner.getD j none).map (j, ·)).map (·.1)).Sublist l
  | [] => .slnil
  | a :: l => by
    rw [List.filterMap_cons]
    cases q : owner.getD a none with
    | none => exact (live_fst l).cons _
    | some b => exact (live_fst l).cons₂ _
theorem live_snd {owner : Array (Option Nat)} : ∀ (l : List Nat), (l.filterMap fun j => (owner.getD j none).map (j, ·)).map (·.2) = l.filterMap fun j => owner.getD j none
  | [] => rfl
  | a :: l => by
    rw [List.filterMap_cons, List.filterMap_cons]
    cases q : owner.getD a none with
    | none => exact live_snd l
    | some b => simp only [Option.map_some, List.map_cons, live_snd l]
theorem laid_good {mask finger moves : Nat} (hm : Round mask) {hashes : Array Int} (hk : hashes.size ≤ mask) :
    ∃ t' order, SetTable.laid mask finger moves true true hashes = some (t', order) ∧ Good t' hashes.size ∧ t'.mask = mask ∧ List.Perm order.toList (List.range hashes.size) := by
  obtain ⟨o', e, ho⟩ := layClean_own hm hashes.toList (Array.replicate (mask + 1) none) 0 (own_zero mask) (by simp; omega)
  simp only [Nat.zero_add, Array.length_toList] at e ho
  unfold SetTable.laid SetTable.layClean
  rw [← Array.foldl_toList, e]
  refine ⟨_, _, rfl, ⟨rfl, rfl, rfl, ?_, ?_, hm⟩, rfl, ?_⟩
  · have h1 := ho.2.length_eq
    rw [List.length_range, ← live_snd, List.length_map] at h1
    simpa using h1
  · refine List.Pairwise.sublist (live_fst (owner := o') (List.range (mask + 1))) List.pairwise_lt_range
  · rw [List.toList_toArray, live_snd]; exact ho.2
theorem relay_good {t : SetTable} {es : Array (Int × Value)} (G : Good t es.size) {wanted : Nat} (hm : Round (SetTable.sizeAbove wanted - 1)) (hk : es.size ≤ SetTable.sizeAbove wanted - 1) :
    ∃ t', (relayAll t es wanted).2.1 = t' ∧ Good t' es.size ∧ t'.mask = SetTable.sizeAbove wanted - 1 ∧ (relayAll t es wanted).1.size = es.size := by
  have hsz : (relayAll t es wanted).1.size = es.size := by have := (relayAll_perm t es wanted).length_eq; simpa using this
  obtain ⟨t', order, e, G', hmk, hp⟩ := laid_good (finger := t.finger) (moves := t.movedTo (SetTable.sizeAbove wanted - 1)) hm (hashes := es.map (·.1)) (by simpa using hk)
  simp only [Array.size_map] at G' hp
  have hc : coversAll order es.size = true := by unfold coversAll; exact List.isPerm_iff.mpr hp
  have hes : (order.filterMap (es[·]?)).size = es.size := by
    have := (hp.filterMap (fun i => es[i]?)).length_eq
    rw [filterMap_getElem?_range] at this
    rw [← Array.length_toList, Array.toList_filterMap, this, Array.length_toList]
  have hfit : t'.fits (order.filterMap (es[·]?)).size = true := by
    rw [hes]
    unfold SetTable.fits SetTable.fill
    rw [G'.size, G'.dum, hmk]
    simp; omega
  refine ⟨t', ?_, G', hmk, hsz⟩
  unfold relayAll SetTable.relaid
  rw [G.led, G.plain, e]
  dsimp only
  rw [hc, hfit]
  rfl
end Fc.SetT

set_option Elab.async false
set_option linter.all false
set_option maxRecDepth 100000
namespace Fc.SetT
open PySem
def valI : Value → Int
  | .int n _ => n
  | _ => 0
theorem valI_of {k : Int} {v : Value} (h : Value.isInt k v = true) : valI v = k := by obtain ⟨t, rfl⟩ := Value.isInt_shape h; rfl
theorem isInt_of {prog : Program} {w : World} {l : List (Int × Value)} (h : ElemsOf (intKind prog w) l) {e : Int × Value} (he : e ∈ l) : Value.isInt (valI e.2) e.2 = true := by
  obtain ⟨⟨k, hk, _⟩, _⟩ := h e he
  have hk : Value.isInt k e.2 = true := hk
  rw [valI_of hk]; exact hk
abbrev nums (es : Array (Int × Value)) : List Int := es.toList.map fun e => valI e.2
def put1 (σ : List Int) (k : Int) : List Int := if σ.any (· == k) then σ else σ ++ [k]
def SetG (prog : Program) (w : World) (o : Obj) (σ : List Int) : Prop :=
  o.ExactSet ∧ ∃ es ep t, o.data = .set es ep t ∧ ElemsOf (intKind prog w) es.toList ∧ (nums es).Perm σ ∧ t.fits es.size = true ∧ (w.params.followText "set-order" = false → Good t es.size ∧ es.size * 5 < t.mask * 3)
theorem SetG.len {prog : Program} {w : World} {o : Obj} {σ : List Int} {es : Array (Int × Value)} (p : (nums es).Perm σ) : es.size = σ.length := by have := p.length_eq; simpa [nums] using this
theorem grow_good {t : SetTable} {es : Array (Int × Value)} (G : Good t es.size) (hl : es.size * 5 < t.mask * 3) (hb : es.size + 1 ≤ 64) (h : Int) (x : Value) :
    let L := layNew t es h x
    Good L.2.1 L.1.size ∧ L.2.2.1 = false ∧ (L.2.1.tooFull = false → L.1.size * 5 < L.2.1.mask * 3) ∧
      (L.2.1.tooFull = true → Good (relayAll L.2.1 L.1 (SetTable.grown L.1.size)).2.1 (relayAll L.2.1 L.1 (SetTable.grown L.1.size)).1.size ∧
        (relayAll L.2.1 L.1 (SetTable.grown L.1.size)).1.size * 5 < (relayAll L.2.1 L.1 (SetTable.grown L.1.size)).2.1.mask * 3) := by
  have hr := G.round
  have hf : es.size + 1 ≤ t.mask := by rcases hr with e | e | e <;> omega
  obtain ⟨t', e, G', hm, hs, hw⟩ := layNew_good G hf h x
  dsimp only
  rw [e]
  refine ⟨by rw [hs]; exact G', hw, fun hn => ?_, fun hn => ?_⟩
  · unfold SetTable.tooFull SetTable.fill at hn
    rw [G'.size, G'.dum, hm] at hn
    simp only [Array.size_empty, Nat.add_zero, ge_iff_le, decide_eq_false_iff_not] at hn
    rw [hs, hm]; omega
  · unfold SetTable.tooFull SetTable.fill at hn
    rw [G'.size, G'.dum, hm] at hn
    simp only [Array.size_empty, Nat.add_zero, ge_iff_le, decide_eq_true_eq] at hn
    have G1 : Good t' (layNew t es h x).1.size := by rw [hs]; exact G'
    have hcase : ((layNew t es h x).1.size = 5) ∨ ((layNew t es h x).1.size = 19) := by
      rw [hs]; rcases hr with q | q | q <;> rw [q] at hn hl <;> omega
    have key : ∀ n m, (layNew t es h x).1.size = n → SetTable.sizeAbove (SetTable.grown n) - 1 = m → Round m → n ≤ m → n * 5 < m * 3 →
        Good (relayAll t' (layNew t es h x).1 (SetTable.grown (layNew t es h x).1.size)).2.1 (relayAll t' (layNew t es h x).1 (SetTable.grown (layNew t es h x).1.size)).1.size ∧
        (relayAll t' (layNew t es h x).1 (SetTable.grown (layNew t es h x).1.size)).1.size * 5 < (relayAll t' (layNew t es h x).1 (SetTable.grown (layNew t es h x).1.size)).2.1.mask * 3 := by
      intro n m hn hm hrm hnm hlt
      obtain ⟨t2, e2, G2, hm2, hs2⟩ := relay_good G1 (wanted := SetTable.grown (layNew t es h x).1.size) (by rw [hn, hm]; exact hrm) (by rw [hn, hm]; exact hnm)
      rw [hs2, e2]
      refine ⟨G2, ?_⟩
      rw [hm2, hn, hm]; exact hlt
    rcases hcase with q | q
    · exact key 5 31 q (by decide +kernel) (by decide) (by decide) (by decide)
    · exact key 19 127 q (by decide +kernel) (by decide) (by decide) (by decide)
section
variable {prog : Program} {w : World} {A : Around} {E : Value → Shared → Prop} {s : Shared}
theorem store_good {a : Addr} {o : Obj} {es : Array (Int × Value)} {ep : Nat} {t : SetTable} (ho : s.heap.get? a = some o) (hex : o.ExactSet) (hd : o.data = .set es ep t) (es' : Array (Int × Value)) (t' : SetTable) {σ : List Int}
    (hel : ElemsOf (intKind prog w) es'.toList) (hp : (nums es').Perm σ) (hf : t'.fits es'.size = true) (hg : w.params.followText "set-order" = false → Good t' es'.size ∧ es'.size * 5 < t'.mask * 3) :
    ∃ o', (s.heap.update a (Obj.putSet es' t')).get? a = some o' ∧ SetG prog w o' σ := by
  refine ⟨{ o with data := .set es' (ep + 1) t' }, ?_, hex, es', ep + 1, t', rfl, hel, hp, hf, hg⟩
  have q := Heap.get?_update_self (Obj.putSet es' t') ho (by rw [putSet_of es' t' hd]; rfl)
  rw [putSet_of es' t' hd] at q
  exact q
theorem nums_any {es : Array (Int × Value)} (hel : ElemsOf (intKind prog w) es.toList) {σ : List Int} (hp : (nums es).Perm σ) (k : Int) : σ.any (· == k) = (es.toList.findIdx? fun e => (intKind prog w).is k e.2).isSome := by
  rw [Bool.eq_iff_iff, List.any_eq_true, Option.isSome_iff_ne_none]
  constructor
  · rintro ⟨y, hy, e⟩ hn
    have e : y = k := by simpa using e
    subst e
    obtain ⟨c, hc, e⟩ := List.mem_map.mp (hp.mem_iff.mpr hy)
    have := List.findIdx?_eq_none_iff.mp hn c hc
    have h2 := isInt_of hel hc
    rw [e] at h2
    exact Bool.noConfusion (this.symm.trans h2)
  · intro hn
    cases q : es.toList.findIdx? fun e => (intKind prog w).is k e.2 with
    | none => exact absurd q hn
    | some j =>
      obtain ⟨hj, hpj, _⟩ := List.findIdx?_eq_some_iff_getElem.mp q
      exact ⟨k, hp.mem_iff.mp (List.mem_map.mpr ⟨_, List.getElem_mem hj, valI_of hpj⟩), by simp⟩
theorem add_good {a : Addr} {o : Obj} {σ : List Int} {k : Int} {tk : Tok} {Q : Bool → Shared → Prop} (ho : s.heap.get? a = some o) (hS : SetG prog w o σ) (hb : σ.length + 1 ≤ 64)
    (h : ∀ (h' : Heap) (o' : Obj), Heap.SameBut a s.heap h' → h'.get? a = some o' → SetG prog w o' (put1 σ k) → Q (!σ.any (· == k)) { s with heap := h' }) :
    wpAny (model prog w) A (setAddHashed a (.int k tk) (hashInt k)) Q E s := by
  obtain ⟨hex, es, ep, t, hd, hel, hp, hf, hg⟩ := hS
  have hsz : es.size = σ.length := SetG.len (prog := prog) (w := w) (o := o) hp
  have hkey : (intKind prog w).is k (.int k tk) = true := by simp [intKind, Value.isInt]
  have hb1 : es.size + 1 < scanBound := by unfold scanBound; omega
  unfold setAddHashed setAddHashedIn
  refine wpAny_holding (wpAny_bind (wpAny_setState_of ho hd hf ?_))
  dsimp only
  rw [byScan_of (knd := intKind prog w) (x := .int k tk) rfl (by omega) hel, if_pos rfl]
  unfold setAddByScan
  refine wpAny_bind (wpAny_bind (wpAny_rule (wpAny_bind (wpAny_setScan_of (knd := intKind prog w) hkey ho hd hf hel ?_))))
  have hany := nums_any hel hp k
  cases hr : es.toList.findIdx? fun e => (intKind prog w).is k e.2 with
  | some j =>
    rw [hr] at hany
    have ha : σ.any (· == k) = true := hany
    dsimp only
    refine wpAny_pure (wpAny_pure ?_)
    have := h s.heap o (Heap.SameBut.refl a s.heap) ho ⟨hex, es, ep, t, hd, hel, by unfold put1; rw [if_pos ha]; exact hp, hf, hg⟩
    rw [ha] at this
    exact this
  | none =>
    rw [hr] at hany
    have ha : σ.any (· == k) = false := hany
    dsimp only
    have gw : ∀ (b : Bool) {s₁ : Shared} {Q' : Unit → Shared → Prop}, Q' () s₁ → wpAny (model prog w) A (match b with | true => rule "set.scan.the-table-gave-way" | false => pure ()) Q' E s₁ := by
      intro b s₁ Q' q; cases b
      · exact wpAny_pure q
      · exact wpAny_rule q
    have hpm := layNew_perm t es (hashInt k) (.int k tk)
    have hfi := layNew_fits t es (hashInt k) (.int k tk)
    have hgr := fun e => grow_good (hg e).1 (hg e).2 (by omega) (hashInt k) (.int k tk)
    generalize layNew t es (hashInt k) (.int k tk) = L at hpm hfi hgr ⊢
    obtain ⟨es1, t1, wd, gv⟩ := L
    dsimp only at hpm hfi hgr ⊢
    rw [Array.toList_push] at hpm
    have hel1 : ElemsOf (intKind prog w) es1.toList := (ElemsOf.push hel hkey rfl).perm hpm
    have hp1 : (nums es1).Perm (put1 σ k) := by
      unfold put1; rw [if_neg (by rw [ha]; exact Bool.false_ne_true)]
      refine (hpm.map _).trans ?_
      rw [List.map_append]
      exact hp.append_right _
    have hs1 : es1.size = es.size + 1 := by have := hpm.length_eq; simpa using this
    have hl1 : es1.size ≤ sizeLine := fits_of_scanBound (by omega)
    refine wpAny_bind (gw _ ?_)
    have goal : ∀ (h' : Heap) (o' : Obj), Heap.SameBut a s.heap h' → h'.get? a = some o' → SetG prog w o' (put1 σ k) → Q true { s with heap := h' } := by
      intro h' o' e1 e2 e3; have := h h' o' e1 e2 e3; rw [ha] at this; exact this
    have sb1 := Heap.SameBut.update s.heap a (Obj.putSet es1 t1)
    have hbv : plainKind (.int k tk) = true := rfl
    split
    case' isTrue => refine wpAny_bind ?_; rw [hashByValue_scannable 8 rfl]; refine wpAny_pure ?_
    case' isFalse => refine wpAny_bind (wpAny_pure ?_)
    all_goals
     simp only [hbv, if_true]
     refine wpAny_bind (wpAny_storeSet_of ho hd ?_ hl1)
     by_cases hc : (!wd && t1.tooFull) = true
     · rw [if_pos hc]
       have hq := relayAll_perm t1 es1 (SetTable.grown es1.size)
       have hqf := relayAll_fits t1 es1 (SetTable.grown es1.size)
       have hfu : t1.tooFull = true := by rw [Bool.and_eq_true] at hc; exact hc.2
       have hgg := fun e => (hgr e).2.2.2 hfu
       generalize relayAll t1 es1 (SetTable.grown es1.size) = L at hq hqf hgg ⊢
       obtain ⟨es2, t2, gv2⟩ := L
       dsimp only at hq hqf hgg ⊢
       have hs2 : es2.size = es1.size := by have := hq.length_eq; simpa using this
       obtain ⟨o1, ho1⟩ : ∃ o1, (s.heap.update a (Obj.putSet es1 t1)).get? a = some o1 ∧ o1 = { o with data := .set es1 (ep + 1) t1 } := by
         have q := Heap.get?_update_self (Obj.putSet es1 t1) ho (by rw [putSet_of es1 t1 hd]; rfl)
         rw [putSet_of es1 t1 hd] at q
         exact ⟨_, q, rfl⟩
       obtain ⟨ho1, e1⟩ := ho1
       have hex1 : o1.ExactSet := by rw [e1]; exact hex
       have hd1 : o1.data = .set es1 (ep + 1) t1 := by rw [e1]
       refine wpAny_bind (gw _ (wpAny_bind (wpAny_storeSet_of ho1 hd1 ?_ (by rw [hs2]; exact hl1))))
       obtain ⟨o2, ho2, hS2⟩ := store_good (s := { s with heap := s.heap.update a (Obj.putSet es1 t1) }) ho1 hex1 hd1 es2 t2 (hel1.perm hq) ((hq.map _).trans hp1) hqf hgg
       exact wpAny_pure (wpAny_pure (goal _ o2 (sb1.trans (Heap.SameBut.update _ a _)) ho2 hS2))
     · rw [if_neg hc]
       obtain ⟨o2, ho2, hS2⟩ := store_good ho hex hd es1 t1 hel1 hp1 hfi (fun e => ⟨(hgr e).1, (hgr e).2.2.1 (by
         have h1 := (hgr e).2.1
         rw [h1] at hc; simpa using hc)⟩)
       exact wpAny_pure (wpAny_pure (goal _ o2 sb1 ho2 hS2))
end
end Fc.SetT

set_option Elab.async false
set_option linter.all false
set_option maxRecDepth 100000
namespace Fc.SetT
open PySem
theorem eraseIdx_perm {α : Type} : ∀ {l : List α} {i : Nat} (h : i < l.length), (l[i] :: l.eraseIdx i).Perm l
  | a :: l, 0, h => .rfl
  | a :: l, i + 1, h => by
    have h' : i < l.length := by simpa using h
    show (l[i] :: a :: l.eraseIdx i).Perm (a :: l)
    exact (List.Perm.swap _ _ _).trans ((eraseIdx_perm h').cons a)
theorem pick_go {α : Type} (next : Nat → Nat) : ∀ (fuel k : Nat) (left : List α) (out : Array α), fuel = left.length → (pickOrder.go next fuel k left out).toList.Perm (out.toList ++ left)
  | 0, k, left, out, h => by
    have : left = [] := List.length_eq_zero_iff.mp h.symm
    subst this
    rw [pickOrder.go, List.append_nil]
  | fuel + 1, k, left, out, h => by
    have hp : 0 < left.length := by omega
    have hi : next k % left.length < left.length := Nat.mod_lt _ hp
    rw [pickOrder.go, List.getElem?_eq_getElem hi]
    dsimp only
    refine (pick_go next fuel (k + 1) _ _ (by rw [List.length_eraseIdx_of_lt hi]; omega)).trans ?_
    rw [Array.toList_push, List.append_assoc]
    exact (eraseIdx_perm hi).append_left _
theorem pick_perm {α : Type} (next : Nat → Nat) (xs : Array α) : (pickOrder next xs).toList.Perm xs.toList := by
  have := pick_go next xs.size 0 xs.toList #[] (by simp)
  simpa [pickOrder] using this
def ordE (w : World) (a : Addr) (ep : Nat) (es : Array (Int × Value)) : Array (Int × Value) := if w.params.followText "set-order" = true then pickOrder (w.params.setOrder a ep) es else es
theorem ord_perm (w : World) (a : Addr) (ep : Nat) (es : Array (Int × Value)) : (ordE w a ep es).toList.Perm es.toList := by
  unfold ordE; split
  · exact pick_perm _ _
  · exact .rfl
theorem ord_size (w : World) (a : Addr) (ep : Nat) (es : Array (Int × Value)) : (ordE w a ep es).size = es.size := by have := (ord_perm w a ep es).length_eq; simpa using this
section
variable {prog : Program} {w : World} {A : Around} {E : Value → Shared → Prop} {s : Shared}
def At (w : World) (t : SetTable) (slot i : Nat) : Prop := w.params.followText "set-order" = false → SetTable.below t.place slot = i
theorem byText_wp {Q : Bool → Shared → Prop} (h : Q (w.params.followText "set-order") s) : wpAny (model prog w) A setsByText Q E s := by
  unfold setsByText
  exact wpAny_bind (wpAny_askSetting (wpAny_pure h))
theorem walk_wp {a : Addr} {o : Obj} {es : Array (Int × Value)} {ep : Nat} {t : SetTable} {Q : Array (Int × Value) → Shared → Prop} (ho : s.heap.get? a = some o) (hd : o.data = .set es ep t) (hf : t.fits es.size = true)
    (hb : w.params.followText "set-order" = true) (h : Q (ordE w a ep es) s) : wpAny (model prog w) A (setWalk a) Q E s := by
  unfold setWalk
  refine wpAny_bind (wpAny_setState_of ho hd hf ?_)
  dsimp only
  refine wpAny_bind (byText_wp ?_)
  rw [hb, if_pos rfl]
  refine wpAny_bind (wpAny_askSetting (wpAny_pure ?_))
  unfold ordE at h
  rw [if_pos hb] at h
  exact h
theorem next_item {a : Addr} {o : Obj} {es : Array (Int × Value)} {ep : Nat} {t : SetTable} {slot i : Nat} {Q : Option (Value × Nat) → Shared → Prop} (ho : s.heap.get? a = some o) (hd : o.data = .set es ep t) (hf : t.fits es.size = true)
    (hg : w.params.followText "set-order" = false → Good t es.size) (hat : At w t slot i) {x : Int × Value} (hx : (ordE w a ep es)[i]? = some x)
    (h : ∀ slot', At w t slot' (i + 1) → Q (some (x.2, slot')) s) : wpAny (model prog w) A (setNext a slot i ep) Q E s := by
  unfold setNext
  refine wpAny_bind (wpAny_setState_of ho hd hf ?_)
  dsimp only
  refine wpAny_bind (byText_wp ?_)
  cases hb : w.params.followText "set-order" with
  | true =>
    rw [if_pos rfl, if_neg (by simp)]
    refine wpAny_bind (walk_wp ho hd hf hb ?_)
    rw [hx]
    exact wpAny_pure (h slot fun e => by rw [hb] at e; cases e)
  | false =>
    have G := hg hb
    have hi := hat hb
    unfold ordE at hx
    rw [if_neg (by rw [hb]; exact Bool.false_ne_true)] at hx
    have hlt : i < es.size := by
      rcases Nat.lt_or_ge i es.size with q | q
      · exact q
      · rw [Array.getElem?_eq_none q] at hx; cases hx
    have hpl : i < t.place.size := by rw [G.size]; exact hlt
    rw [if_neg Bool.false_ne_true, if_neg (by show ¬ ((!t.plain && decide (es.size > 1)) = true); rw [G.plain]; simp)]
    refine wpAny_bind ?_
    show wpAny _ _ (if (!t.led && !es.isEmpty) = true then unsupported "set:maker-not-led" else pure ()) _ _ _
    rw [if_neg (by rw [G.led]; simp)]
    refine wpAny_pure ?_
    rw [hi, hx, Array.getElem?_eq_getElem hpl]
    exact wpAny_pure (h _ fun _ => below_next G.rise hpl)
theorem next_end {a : Addr} {o : Obj} {es : Array (Int × Value)} {ep : Nat} {t : SetTable} {slot : Nat} {Q : Option (Value × Nat) → Shared → Prop} (ho : s.heap.get? a = some o) (hd : o.data = .set es ep t) (hf : t.fits es.size = true)
    (hg : w.params.followText "set-order" = false → Good t es.size) (hat : At w t slot es.size) (h : Q none s) : wpAny (model prog w) A (setNext a slot es.size ep) Q E s := by
  unfold setNext
  refine wpAny_bind (wpAny_setState_of ho hd hf ?_)
  dsimp only
  refine wpAny_bind (byText_wp ?_)
  cases hb : w.params.followText "set-order" with
  | true =>
    rw [if_pos rfl, if_neg (by simp)]
    refine wpAny_bind (walk_wp ho hd hf hb ?_)
    rw [Array.getElem?_eq_none (by rw [ord_size]; exact Nat.le_refl _)]
    exact wpAny_pure h
  | false =>
    have G := hg hb
    have hi := hat hb
    rw [if_neg Bool.false_ne_true, if_neg (by show ¬ ((!t.plain && decide (es.size > 1)) = true); rw [G.plain]; simp)]
    refine wpAny_bind ?_
    show wpAny _ _ (if (!t.led && !es.isEmpty) = true then unsupported "set:maker-not-led" else pure ()) _ _ _
    rw [if_neg (by rw [G.led]; simp)]
    refine wpAny_pure ?_
    rw [hi, Array.getElem?_eq_none (Nat.le_refl _)]
    exact wpAny_pure h
theorem slot_setit_next : Slot "set_iterator" "__next__" "set_iterator.__next__" :=
  .of (owner := "set_iterator") (n := "__next__") (by rw [typeLookup_type, builtinLookup_eq_fast]; kernel_rfl) (by decide +kernel) (by decide +kernel) (by decide +kernel)
    (by first | exact .inl (by decide +kernel) | exact .inr (by decide +kernel)) (by rw [isSubtype_type]; kernel_rfl)
theorem entry_setit_next : entryFor table "set_iterator.__next__" = some Builtin.«set_iterator.__next__» := entryFor_of_tree (by kernel_rfl)
theorem owner_setit : Manifest.owners.lookup (String.ofList ['r', 'o', 't', 'a', 'r', 'e', 't', 'i', '_', 't', 'e', 's'].reverse) = some Manifest.sig_set_iterator := by kernel_rfl
theorem args_setit_next (a : Value) : argsOk "set_iterator.__next__" ⟨[a], []⟩ := by
  unfold argsOk; rw [signature?_of (id := "set_iterator.__next__") (n := ['_', '_', 't', 'x', 'e', 'n', '_', '_']) (o := ['r', 'o', 't', 'a', 'r', 'e', 't', 'i', '_', 't', 'e', 's']) (by kernel_rfl) owner_setit]; kernel_rfl
def IsIt (h : Heap) (it a : Addr) (slot i n ep : Nat) : Prop := ∃ o, h.get? it = some o ∧ o.cls = .type "set_iterator" ∧ o.data = .fields #[.int slot 0, .int i 0, .ref a, .int n 0, .int ep 0]
theorem IsIt.typeIs {it a : Addr} {slot i n ep : Nat} (x : IsIt s.heap it a slot i n ep) : s.TypeIs (.ref it) "set_iterator" := let ⟨o, ho, hc, _⟩ := x; ⟨o, ho, hc⟩
theorem pyNext_item {it a : Addr} {slot i : Nat} {o : Obj} {es : Array (Int × Value)} {ep : Nat} {t : SetTable} {Q : Option Value → Shared → Prop} (hit : IsIt s.heap it a slot i es.size ep) (hne : a ≠ it)
    (ho : s.heap.get? a = some o) (hd : o.data = .set es ep t) (hf : t.fits es.size = true) (hg : w.params.followText "set-order" = false → Good t es.size) (hat : At w t slot i) {x : Int × Value} (hx : (ordE w a ep es)[i]? = some x)
    (h : ∀ (h' : Heap) (slot' : Nat), At w t slot' (i + 1) → IsIt h' it a slot' (i + 1) es.size ep → Heap.ExtBut it s.heap h' → Q (some x.2) { s with heap := h' }) : wpAny (model prog w) A (pyNext (.ref it)) Q E s := by
  obtain ⟨oi, hoi, hci, hdi⟩ := id hit
  unfold pyNext
  refine wpAny_bind (wpAny_attempt (wpAny_callSpecial?_slot (name := Str.ofString "__next__") hit.typeIs slot_setit_next (wpAny_call_entry slot_setit_next hit.typeIs entry_setit_next ?_ (args_setit_next _))))
  unfold Builtin.«set_iterator.__next__»
  refine wpAny_bind (wpAny_pure ?_)
  refine wpAny_bind (wpAny_fieldsOf hoi hdi ?_)
  dsimp only
  refine wpAny_bind (wpAny_setEntries_of ho hd hf ?_)
  rw [if_neg (by simp)]
  simp only [Int.toNat_natCast]
  refine wpAny_bind (next_item ho hd hf hg hat hx fun slot' hat' => ?_)
  dsimp only
  refine wpAny_bind (wpAny_setField hoi hdi (by simp) ?_)
  have h1 := Heap.get?_update_self (Obj.mapFields (·.setIfInBounds 0 (rawInt slot'))) hoi (Obj.isFreed_of_fields (Obj.data_mapFields hdi _))
  have d1 := Obj.data_mapFields hdi (·.setIfInBounds 0 (rawInt slot'))
  refine wpAny_bind (wpAny_setField (s := { s with heap := _ }) h1 d1 (by simp) (wpAny_pure ⟨x.2, rfl, wpAny_pure (h _ slot' hat' ?_ ?_)⟩))
  · refine ⟨_, Heap.get?_update_self _ h1 (Obj.isFreed_of_fields (Obj.data_mapFields d1 _)), ((Obj.cls_mapFields ..).trans (Obj.cls_mapFields ..)).trans hci, ?_⟩
    rw [Obj.data_mapFields d1]; simp [rawInt]
  · exact (Heap.SameBut.trans (Heap.SameBut.update ..) (Heap.SameBut.update ..)).extBut
theorem pyNext_end {it a : Addr} {slot : Nat} {o : Obj} {es : Array (Int × Value)} {ep : Nat} {t : SetTable} {Q : Option Value → Shared → Prop} (hh : A.handled = none) (hit : IsIt s.heap it a slot es.size es.size ep)
    (ho : s.heap.get? a = some o) (hd : o.data = .set es ep t) (hf : t.fits es.size = true) (hg : w.params.followText "set-order" = false → Good t es.size) (hat : At w t slot es.size)
    (h : ∀ (h' : Heap), Heap.ExtBut it s.heap h' → Q none { s with heap := h' }) : wpAny (model prog w) A (pyNext (.ref it)) Q E s := by
  obtain ⟨oi, hoi, hci, hdi⟩ := id hit
  unfold pyNext
  refine wpAny_bind (wpAny_attempt (wpAny_callSpecial?_slot (name := Str.ofString "__next__") hit.typeIs slot_setit_next (wpAny_call_entry slot_setit_next hit.typeIs entry_setit_next ?_ (args_setit_next _))))
  unfold Builtin.«set_iterator.__next__»
  refine wpAny_bind (wpAny_pure ?_)
  refine wpAny_bind (wpAny_fieldsOf hoi hdi ?_)
  dsimp only
  refine wpAny_bind (wpAny_setEntries_of ho hd hf ?_)
  rw [if_neg (by simp)]
  simp only [Int.toNat_natCast]
  refine wpAny_bind (next_end ho hd hf hg hat ?_)
  dsimp only
  refine wpAny_bind (wpAny_setField hoi hdi (by simp) (wpAny_bind ?_))
  simp only [newExc, newTuple]
  refine wpAny_bind (wpAny_newObj_type ?_ (by size_fits))
  refine wpAny_bind (m := firstArgMember _ _) (wpAny_of_eq (a := Value.none) (by first | rfl | (simp only [firstArgMember]; rfl)) (wpAny_newObj_type ?_ (by size_fits)))
  simp only [raiseNew]
  refine wpAny_bind (wpAny_handled ?_)
  rw [show A.in1.handled = none from hh]
  refine wpAny_bind (wpAny_pure (wpAny_throw ?_))
  refine wpAny_bind (wpAny_isInstance (T := "StopIteration") (b := true) ⟨_, Heap.get?_push_size _ rfl, rfl⟩ isSubtype_stop (wpAny_pure (h _ ?_)))
  exact ((Heap.SameBut.update ..).extBut.push _).push _
theorem slot_setit_iter : Slot "set_iterator" "__iter__" "set_iterator.__iter__" :=
  .of (owner := "set_iterator") (n := "__iter__") (by rw [typeLookup_type, builtinLookup_eq_fast]; kernel_rfl) (by decide +kernel) (by decide +kernel) (by decide +kernel)
    (by first | exact .inl (by decide +kernel) | exact .inr (by decide +kernel)) (by rw [isSubtype_type]; kernel_rfl)
theorem entry_setit_iter : entryFor table "set_iterator.__iter__" = some Builtin.«dict_keyiterator.__iter__» := entryFor_alias (id' := "dict_keyiterator.__iter__") (by kernel_rfl) rfl (by decide +kernel) (by kernel_rfl)
theorem args_setit_iter (a : Value) : argsOk "set_iterator.__iter__" ⟨[a], []⟩ := by
  unfold argsOk; rw [signature?_of (id := "set_iterator.__iter__") (n := ['_', '_', 'r', 'e', 't', 'i', '_', '_']) (o := ['r', 'o', 't', 'a', 'r', 'e', 't', 'i', '_', 't', 'e', 's']) (by kernel_rfl) owner_setit]; kernel_rfl
theorem pyIter_it {it a : Addr} {slot i n ep : Nat} {Q : Value → Shared → Prop} (hit : IsIt s.heap it a slot i n ep) (h : Q (.ref it) s) : wpAny (model prog w) A (pyIter (.ref it)) Q E s := by
  refine wpAny_pyIter_slot hit.typeIs slot_setit_iter (wpAny_call_entry slot_setit_iter hit.typeIs entry_setit_iter ?_ (args_setit_iter _))
  show wpAny _ _ (ret (.ref it)) _ _ s
  exact wpAny_pure ⟨_, rfl, "set_iterator", _, hit.typeIs, slot_setit_next.lookup, h⟩
theorem entry_set_iter : entryFor table "set.__iter__" = some Builtin.«frozenset.__iter__» := entryFor_alias (id' := "frozenset.__iter__") (by kernel_rfl) rfl (by decide +kernel) (by kernel_rfl)
theorem slot_set_iter : Slot "set" "__iter__" "set.__iter__" :=
  .of (owner := "set") (n := "__iter__") (by rw [typeLookup_type, builtinLookup_eq_fast]; kernel_rfl) (by decide +kernel) (by decide +kernel) (by decide +kernel)
    (by first | exact .inl (by decide +kernel) | exact .inr (by decide +kernel)) (by rw [isSubtype_type]; kernel_rfl)
theorem owner_set : Manifest.owners.lookup (String.ofList ['t', 'e', 's'].reverse) = some Manifest.sig_set := by kernel_rfl
theorem args_set_iter (a : Value) : argsOk "set.__iter__" ⟨[a], []⟩ := by
  unfold argsOk; rw [signature?_of (id := "set.__iter__") (n := ['_', '_', 'r', 'e', 't', 'i', '_', '_']) (o := ['t', 'e', 's']) (by kernel_rfl) owner_set]; kernel_rfl
def itObj (a : Addr) (n ep : Nat) : Obj := { cls := .type "set_iterator", data := .fields #[.int 0 0, .int 0 0, .ref a, .int n 0, .int ep 0] }
theorem pyIter_set {a : Addr} {o : Obj} {es : Array (Int × Value)} {ep : Nat} {t : SetTable} {Q : Value → Shared → Prop} (ho : s.heap.get? a = some o) (hex : o.ExactSet) (hd : o.data = .set es ep t) (hf : t.fits es.size = true)
    (hg : w.params.followText "set-order" = false → Good t es.size) (h : Q (.ref s.heap.objs.size) { s with heap := s.heap.push (itObj a es.size ep) }) : wpAny (model prog w) A (pyIter (.ref a)) Q E s := by
  have hT : s.TypeIs (.ref a) "set" := ⟨o, ho, hex.1⟩
  refine wpAny_pyIter_slot hT slot_set_iter (wpAny_call_entry slot_set_iter hT entry_set_iter ?_ (args_set_iter _))
  unfold Builtin.«frozenset.__iter__» Builtin.Frozenset.slot0 Builtin.Frozenset.sizeOf
  refine wpAny_bind (wpAny_bind (wpAny_pure (wpAny_pure ?_)))
  refine wpAny_bind (wpAny_bind (wpAny_setEntries_of ho hd hf (wpAny_pure ?_)))
  unfold setDrawn
  refine wpAny_bind (wpAny_bind (wpAny_setState_of ho hd hf ?_))
  dsimp only
  refine wpAny_bind (byText_wp (wpAny_pure ?_))
  have hn : (!w.params.followText "set-order" && (!t.plain && decide (es.size > 1))) = false := by
    cases hb : w.params.followText "set-order" with
    | true => rfl
    | false => rw [(hg hb).plain]; rfl
  rw [if_neg (by intro q; exact Bool.false_ne_true (hn.symm.trans q))]
  refine wpAny_bind (wpAny_pure ?_)
  refine wpAny_bind (wpAny_setEpoch_of ho hd hf ?_)
  refine wpAny_bind (wpAny_newObj_type (wpAny_pure ⟨_, rfl, "set_iterator", _, ⟨_, Heap.get?_push_size _ rfl, rfl⟩, slot_setit_next.lookup, h⟩))
theorem walks (hh : A.handled = none) (I a : Addr) (hne : a ≠ I) {o : Obj} {es : Array (Int × Value)} {ep : Nat} {t : SetTable} (hd : o.data = .set es ep t) (hf : t.fits es.size = true)
    (hg : w.params.followText "set-order" = false → Good t es.size) :
    Walks prog w A I [I, a] [I] es.size (fun i v => ∃ x, (ordE w a ep es)[i]? = some x ∧ v = x.2) (fun i h => (∃ slot, IsIt h I a slot i es.size ep ∧ At w t slot i) ∧ h.get? a = some o) where
  sub := fun b hb => by simp at hb; simp [hb]
  frame := fun i h h' ⟨⟨slot, ⟨oi, e, r⟩, ha⟩, ho⟩ hk => ⟨⟨slot, ⟨oi, hk I (by simp) _ e, r⟩, ha⟩, hk a (by simp) _ ho⟩
  item := fun i s Q E hi ⟨⟨slot, hit, ha⟩, ho⟩ hQ => by
    have hi' : i < (ordE w a ep es).size := by rw [ord_size]; exact hi
    refine pyNext_item hit hne ho hd hf hg ha (Array.getElem?_eq_getElem hi') fun h' slot' ha' hit' he => ?_
    exact hQ _ h' s.toks ⟨_, Array.getElem?_eq_getElem hi', rfl⟩ ⟨⟨slot', hit', ha'⟩, he a o hne ho⟩ fun b o hb e => he b o (fun q => hb (by simp [q])) e
  done := fun s Q E ⟨⟨slot, hit, ha⟩, ho⟩ hQ => pyNext_end hh hit ho hd hf hg ha fun h' he => hQ h' s.toks fun b o hb e => he b o (fun q => hb (by simp [q])) e
  self := fun _ _ _ _ ⟨⟨slot, hit, _⟩, _⟩ hQ => pyIter_it hit hQ
end
end Fc.SetT

set_option Elab.async false
set_option linter.all false
set_option maxRecDepth 100000
namespace Fc.SetT
open PySem PyProof.Rows
def metL (val : Nat → Int) (i : Nat) : List Int := ((List.range i).map val).foldl put1 []
theorem metL_succ (val : Nat → Int) (i : Nat) : metL val (i + 1) = put1 (metL val i) (val i) := by unfold metL; rw [List.range_succ, List.map_append, List.foldl_append]; rfl
theorem put1_len (σ : List Int) (k : Int) : (put1 σ k).length ≤ σ.length + 1 := by unfold put1; split <;> simp
theorem metL_len (val : Nat → Int) : ∀ i, (metL val i).length ≤ i
  | 0 => Nat.le_refl _
  | i + 1 => by rw [metL_succ]; exact Nat.le_trans (put1_len _ _) (Nat.succ_le_succ (metL_len val i))
section
variable {prog : Program} {w : World} {A : Around} {R : Result → Shared → Prop} {I : Addr} {fp wr : List Addr} {G : Array GenState → Array GenState → Prop} {n : Nat} {P : Nat → Value → Prop} {St : Nat → Shared → Prop}
theorem update_loop (W : WalksS prog w A.in1 I fp wr G n P St) (S : Addr) (hSf : S ∉ fp) (val : Nat → Int) (hval : ∀ i v, P i v → ∃ t, v = .int (val i) t) (hb : n + 1 ≤ 64) :
    ∀ (k i : Nat) (s : Shared) (o : Obj), n - i = k → i ≤ n → St i s → s.heap.get? S = some o → SetG prog w o (metL val i) →
      (∀ (s' : Shared) (o' : Obj), Moved (S :: wr) G s s' → s'.heap.get? S = some o' → SetG prog w o' (metL val n) → R (.ok (.ret .none)) s') →
      codeAny (model prog w) A (.builtin "set.update.loop" ⟨[.ref S, .ref I], []⟩) R s := by
  have hSw : S ∉ wr := fun h => hSf (W.sub _ h)
  have hsub : ∀ b ∈ wr, b ∈ S :: wr := fun b hb => List.mem_cons_of_mem _ hb
  intro k
  induction k with
  | zero =>
    intro i s o hk hi hst ho hS hR
    have hin : i = n := by omega
    subst hin
    refine codeAny_builtin F.entry_set_update_loop ?_
    rw [Around.under_plainId F.plain_set_update_loop _]; show wpAny _ A.in1 (pyNext (.ref I) >>= _) _ _ s
    refine wpAny_bind (W.done s _ _ hst fun s' hm => ?_); show wpAny _ A.in1 (ret Value.none) _ _ s'
    exact wpAny_pure (hR s' o (hm.mono hsub) (hm.heap S _ hSw ho) hS)
  | succ k ih =>
    intro i s o hk hi hst ho hS hR
    have hlt : i < n := by omega
    refine codeAny_builtin F.entry_set_update_loop ?_
    rw [Around.under_plainId F.plain_set_update_loop _]; show wpAny _ A.in1 (pyNext (.ref I) >>= _) _ _ s
    refine wpAny_bind (W.item i s _ _ hlt hst fun v s' hP hst' hm => ?_)
    obtain ⟨t, rfl⟩ := hval i v hP
    have ho' : s'.heap.get? S = some o := hm.heap S _ hSw ho
    show wpAny _ A.in1 (holding [Value.int (val i) t] (setAdd S (.int (val i) t)) >>= _) _ _ s'
    refine wpAny_bind (wpAny_holding ?_); unfold setAdd
    refine wpAny_holding (wpAny_bind ((intKind prog w).pyHash (k := val i) (intKind_is _ _ _ _) ?_))
    have hl := metL_len val i
    refine add_good (s := { s' with toks := s'.toks + 1 }) ho' hS (by omega) fun h' o' hsb ho2 hS2 => ?_
    rw [← metL_succ] at hS2
    refine wpAny_pure ⟨plainId_quiet F.plain_set_update_loop _, ih (i + 1) _ o' (by omega) hlt (W.frame _ s' _ _ hst' (Nat.le_succ _) fun b hb u e => ?_) ho2 hS2 fun s'' o'' hm'' ho'' hS'' => ?_⟩
    · rw [hsb.2 b (fun h : b = S => hSf (by rw [← h]; exact hb))]; exact e
    · refine hR s'' o'' (Moved.trans W.gtrans ((hm.mono hsub).then_heap (Nat.le_succ _) fun b u hb e => ?_) hm'') ho'' hS''
      rw [hsb.2 b (fun h : b = S => hb (by rw [h]; exact List.mem_cons_self))]; exact e
end
section
variable {prog : Program} {w : World} {A : Around} {E : Value → Shared → Prop} {s : Shared}
abbrev led0 (w : World) : Bool := !w.params.followText "set-order"
abbrev setO (w : World) : Obj := { cls := .type "set", dict := none, data := .set #[] 0 (.fresh 0 0 (led0 w)) }
theorem set0_good : SetG prog w (setO w) [] := by
  refine ⟨⟨rfl, rfl, rfl⟩, #[], 0, _, rfl, fun e he => by simp at he, .rfl, by rfl, fun hb => ⟨⟨rfl, by simp [SetTable.fresh, led0, hb], rfl, rfl, .nil, .inl rfl⟩, by show 0 * 5 < 7 * 3; decide⟩⟩
theorem set_new (a : Value) {Q₁ : Value → Shared → Prop} (h : Q₁ (.ref s.heap.objs.size) { s with heap := s.heap.push (setO w) }) :
    codeAny (model prog w) A (.call (.builtin "set.__new__") ⟨[.type "set", a], []⟩) (wants Q₁ E) s := by
  refine codeAny_of_tree ?_; show wpAny _ A.in1 (do checkBuiltinCall "set.__new__" ⟨[.type "set", a], []⟩; again (.builtin "set.__new__" ⟨[.type "set", a], []⟩)) _ _ s
  refine wpAny_bind (wpAny_of_eq (F.newCall_set_1 a) (wpAny_pure ⟨plainId_quiet F.plain_set_new _, codeAny_builtin F.entry_set_new ?_⟩)); rw [Around.under_plainId F.plain_set_new _]
  unfold Builtin.«set.__new__» Builtin.Frozenset.newClass; have hsub := sub_set_self; obtain ⟨hp, g, d, tk, os⟩ := s; dsimp only
  wp_walk
  refine wpAny_askSetting (wpAny_pure ?_); dsimp only; simp only [newObj]
  exact wpAny_bind (wpAny_alloc (wpAny_pure (wpAny_pure h)))
set_option maxHeartbeats 3200000 in
theorem call_set {l : Addr} {items : Array Value} {ns : List Int} {Q : Value → Shared → Prop} (hh : A.handled = none) (hl : s.heap.IsList l items) (hi : PyProof.Rows.IntsAre items.toList ns) (hb : items.size + 1 ≤ 64)
    (h : ∀ (h' : Heap) (tk : Nat) (o : Obj), h'.get? s.heap.objs.size = some o → SetG prog w o (metL (fun i => ns.getD i 0) items.size) → (∀ b u, b < s.heap.objs.size → s.heap.get? b = some u → h'.get? b = some u) → Q (.ref s.heap.objs.size) { s with heap := h', toks := tk }) :
    wpAny (model prog w) A (call (.type "set") [.ref l]) Q E s := by
  obtain ⟨c, tl, hmro⟩ := F.called_set.mro
  have hmade := F.called_set.made
  have hsub := F.called_set.sub
  refine wpAny_call (codeAny_of_tree ?_); show wpAny _ _ (callAny (.type "set") _) _ _ _
  refine wpAny_pure ⟨Code.quiet_builtin _ (by decide +kernel), codeAny_builtin F.entry_type_call ?_⟩; rw [Around.under_plain (weight_type_call_type "set" [.ref l] []) rfl]
  have h1 := F.called_set.notType
  have h2 := F.called_set.canCreate
  have hct := F.typeCall_set_1 (.ref l)
  repeat (any_goals (first | assumption | wp_step))
  refine codeAny_mono (set_new (.ref l) (E := E) (Q₁ := fun obj s₁ => obj = .ref s.heap.objs.size ∧ s₁ = { s with heap := s.heap.push (setO w) }) ⟨rfl, rfl⟩) fun r s₁ hr => ?_
  cases r with
  | error e => exact hr
  | ok fl =>
    cases fl with
    | ret obj =>
      obtain ⟨rfl, rfl⟩ := hr
      have hS : (s.heap.push (setO w)).get? s.heap.objs.size = some (setO w) := Heap.get?_push_size _ rfl
      have hT : Shared.TypeIs { s with heap := s.heap.push (setO w) } (.ref s.heap.objs.size) "set" := ⟨_, hS, rfl⟩
      have hli := F.called_set.init.lookup
      have hbi := F.called_set.init.bind (.ref s.heap.objs.size)
      repeat (any_goals (first | assumption | wp_step))
      refine codeAny_mono (codeAny_call_builtin (R := wants (fun r s₂ => r = .none ∧ ∃ h' tk o, s₂ = { s with heap := h', toks := tk } ∧ h'.get? s.heap.objs.size = some o ∧ SetG prog w o (metL (fun i => ns.getD i 0) items.size) ∧
          (∀ b u, b < s.heap.objs.size → s.heap.get? b = some u → h'.get? b = some u)) E) F.called_set.init.plain F.entry_set_init (check_set_init_1 hT ?_)) fun r₂ s₂ hr₂ => ?_
      · obtain ⟨ol, hol, hcl, nl, hdl⟩ := hl
        obtain ⟨ocls, odict, odata, oslots⟩ := ol
        simp only at hcl hdl
        subst hcl; subst hdl
        have hol' : (s.heap.push (setO w)).get? l = some { cls := .type "list", dict := odict, data := .seq items nl, slots := oslots } := Heap.get?_push_of_some _ hol
        have hsls := F.sub_list_set
        have hslf := F.sub_list_frozenset
        have hne : (Value.type "list" == Value.type "dict") = false := by decide
        have hl1 : (s.heap.push (setO w)).IsList l items := ⟨_, hol', rfl, nl, rfl⟩
        unfold Builtin.«set.__init__» noKeywords Builtin.Frozenset.updateFrom; generalize hPI : pyIter = PI
        wp_walk
        subst hPI
        refine wpAny_pyIter_list hl1 (wpAny_bind (wpAny_runValue ?_))
        have hlS : l < s.heap.objs.size := Heap.lt_size hol
        have hh3 : A.in1.in1.in1.handled = none := by simp [hh]
        have hsz : (s.heap.push (setO w)).objs.size = s.heap.objs.size + 1 := Heap.size_push ..
        have hneI : l ≠ (s.heap.push (setO w)).objs.size := by rw [hsz]; exact Nat.ne_of_lt (Nat.lt_succ_of_lt hlS)
        have hSf : s.heap.objs.size ∉ [(s.heap.push (setO w)).objs.size, l] := by simp only [List.mem_cons, List.not_mem_nil, or_false, not_or]; exact ⟨by rw [hsz]; exact Nat.ne_of_lt (Nat.lt_succ_self _), Nat.ne_of_gt hlS⟩
        have hval : ∀ (i : Nat) (v : Value), items[i]? = some v → ∃ t, v = .int ((fun i => ns.getD i 0) i) t := fun i v hv => PyProof.Rows.IntsAre.int_at hi i v (by rw [Array.getElem?_toList]; exact hv)
        refine update_loop ((Walks.list hh3 _ l hneI items).toS) s.heap.objs.size hSf (fun i => ns.getD i 0) hval hb (items.size - 0) 0 _ (setO w) (by omega) (Nat.zero_le _) ⟨⟨_, Heap.get?_push_size _ rfl, rfl, rfl⟩, (hl1.push _)⟩ (Heap.get?_push_of_some _ hS) set0_good ?hR
        case hR =>
          intro s' o' hm ho' hS'
          obtain ⟨h', g', d', tk', os'⟩ := s'
          have eg : g' = s.gens := hm.gens
          have ed : d' = s.drawn := hm.drawn
          have eo : os' = s.os := hm.os
          subst eg; subst ed; subst eo
          refine wpAny_pure (wpAny_pure ⟨rfl, h', tk', o', rfl, ho', hS', fun b u hb e => ?_⟩)
          exact hm.heap b u (by simp only [List.mem_cons, List.not_mem_nil, or_false, not_or]; exact ⟨Nat.ne_of_lt hb, by rw [hsz]; exact Nat.ne_of_lt (Nat.lt_succ_of_lt hb)⟩) (Heap.get?_push_of_some _ (Heap.get?_push_of_some _ e))
      · cases r₂ with
        | error e => exact hr₂
        | ok fl₂ =>
          cases fl₂ with
          | ret r =>
            obtain ⟨rfl, h', tk, o', rfl, ho', hS', hk'⟩ := hr₂
            repeat (any_goals (first | assumption | wp_step))
            exact h _ _ _ ho' hS' hk'
          | _ => exact hr₂.elim
    | _ => exact hr.elim
end
end Fc.SetT

set_option Elab.async false
set_option linter.all false
set_option maxRecDepth 100000
namespace Fc.SetT
open PySem PyProof.Rows PySem.W
section
variable {prog : Program} {w : World} {A : Around} {E : Value → Shared → Prop} {s : Shared}
theorem hint_set {r : Addr} {Q : Bool → Shared → Prop} (hT : s.TypeIs (.ref r) "set") (h : Q false s) : wpAny (model prog w) A (Builtin.List.listLengthHint (.ref r)) Q E s := by
  unfold Builtin.List.listLengthHint; refine wpAny_bind (wpAny_specialOf hT PySem.F.slot_set_len.lookup ?_)
  generalize hid : ("set.__len__" : String) = id0
  wp_delta
  rw [show splitId id0 = some ("set", "__len__") from by subst hid; decide +kernel]
  subst hid
  refine wpAny_bind (wpAny_isInstance (T := "set") (b := true) hT (by rw [isSubtype_type]; kernel_rfl) ?_)
  refine wpAny_ite_split (fun hab => absurd hab (by decide)) (fun _ => wpAny_ite_split (fun _ => ?_) (fun hab => absurd (by decide +kernel) hab))
  exact wpAny_bind (wpAny_typeOf hT (wpAny_pure h))
theorem src {a : Addr} {o : Obj} {es : Array (Int × Value)} {ep : Nat} {t : SetTable} (hex : o.ExactSet) (hd : o.data = .set es ep t) (hf : t.fits es.size = true) (hg : w.params.followText "set-order" = false → Good t es.size) :
    KdlSrc prog w "set" a a es.size (fun i v => ∃ x, (ordE w a ep es)[i]? = some x ∧ v = x.2) (fun h => h.get? a = some o) where
  type := fun s h => ⟨o, h, hex.1⟩
  there := fun h e => ⟨Heap.lt_size e, Heap.lt_size e⟩
  keep := fun h h' e k => k a (.inl rfl) o e
  notList := by decide
  notTuple := by decide
  hint := fun A E s Q e q => hint_set ⟨o, e, hex.1⟩ q
  iter := fun A s hh e => by
    have hne : a ≠ s.heap.objs.size := Nat.ne_of_lt (Heap.lt_size e)
    refine ⟨itObj a es.size ep, _, fun E Q q => pyIter_set e hex hd hf hg q, walks hh s.heap.objs.size a hne hd hf hg, ⟨0, ⟨_, Heap.get?_push_size _ rfl, rfl, rfl⟩, fun hb => below_zero (hg hb).rise⟩, Heap.get?_push_of_some _ e⟩
theorem items_ints {es : Array (Int × Value)} {a : Addr} {ep : Nat} (hel : ElemsOf (intKind prog w) es.toList) {acc : Array Value} (h : ItemsOf (fun i v => ∃ x, (ordE w a ep es)[i]? = some x ∧ v = x.2) acc es.size) :
    IntsAre acc.toList (acc.toList.map valI) ∧ (acc.toList.map valI).Perm (nums es) := by
  have e : acc.toList = (ordE w a ep es).toList.map (·.2) := by
    apply List.ext_getElem
    · simp [h.1, ord_size]
    · intro i h1 h2
      have hi : i < acc.size := by simpa using h1
      obtain ⟨x, hx, hv⟩ := h.2 i acc[i] (by rw [Array.getElem?_eq_getElem hi])
      have hi2 : i < (ordE w a ep es).size := by rw [ord_size, ← h.1]; exact hi
      rw [Array.getElem?_eq_getElem hi2] at hx
      cases hx
      simp only [Array.getElem_toList, List.getElem_map]
      exact hv
  have hp := ord_perm w a ep es
  constructor
  · have : ∀ l : List (Int × Value), ElemsOf (intKind prog w) l → IntsAre (l.map (·.2)) ((l.map (·.2)).map valI) := by
      intro l
      induction l with
      | nil => intro _; exact .nil
      | cons c l ih =>
        intro hl
        obtain ⟨t, e⟩ := Value.isInt_shape (isInt_of hl List.mem_cons_self)
        simp only [List.map_cons]
        rw [e]
        exact .cons _ t (ih hl.tail)
    rw [e]
    exact this _ (hel.perm hp)
  · rw [e, List.map_map]
    exact hp.map _
theorem sorted_set {a : Addr} {o : Obj} {σ : List Int} {Q : Value → Shared → Prop} (hh : A.handled = none) (ho : s.heap.get? a = some o) (hS : SetG prog w o σ) (h64 : σ.length < 64)
    (h : ∀ (h1 h' : Heap) (tk : Nat) (out : Array Value) (ms : List Int) (e : Nat), (∀ b u, s.heap.get? b = some u → h1.get? b = some u) → (∀ b u, h1.get? b = some u → h'.get? b = some u) → h'.get? h1.objs.size = some (seqObj "list" out e) → IntsAre out.toList ms → ms.Perm σ → ms.Pairwise (· ≤ ·) → Q (.ref h1.objs.size) { s with heap := h', toks := tk }) :
    wpAny (model prog w) A (call (.builtin "sorted") [.ref a]) Q E s := by
  obtain ⟨hex, es, ep, t, hd, hel, hp, hf, hg⟩ := hS
  have hl := SetG.len (prog := prog) (w := w) (o := o) hp
  refine Calls.call_function_entry kind_sorted plain_sorted entry_sorted (args_sorted1 _) ?_
  unfold Builtin.«sorted»; refine wpAny_bind (m := checkCount "sorted" 1 1 _) (wpAny_pure ?_)
  refine wpAny_bind (kdu_collect (A := A.in1) (src hex hd hf (fun e => (hg e).1)) hh ho (by rw [sizeLine_eq]; omega) fun h1 tk acc hk hacc => ?_)
  obtain ⟨hI, hpm⟩ := items_ints hel hacc
  have hal : acc.toList.length = σ.length := by rw [Array.length_toList, hacc.1, hl]
  refine wpAny_bind (wpAny_newList ?_ (by rw [hal, sizeLine_eq]; omega))
  have hoL : (h1.push (seqObj "list" acc.toList.toArray 0)).get? h1.objs.size = some (seqObj "list" acc.toList.toArray 0) := Heap.get?_push_size _ rfl
  refine wpAny_bind (wpAny_holding (wpAny_call_entry slot_list_sort ⟨_, hoL, rfl⟩ entry_list_sort (list_sort_tree (s := { s with heap := _, toks := tk }) hoL hI (by rw [hal]; exact h64) fun out ms a1 a2 a3 => ⟨_, rfl, ?_⟩) (args_list_sort _)))
  obtain ⟨e, he⟩ := sortedHeap_at (out := out) hoL
  have hold : ∀ b u, h1.get? b = some u → (sortedHeap (h1.push (seqObj "list" acc.toList.toArray 0)) h1.objs.size acc.toList out).get? b = some u := by
    intro b u q
    have hb : b < h1.objs.size := Heap.lt_size q
    rw [sortedHeap_old (Nat.ne_of_lt hb) (by rw [size_push']; exact Nat.lt_succ_of_lt hb), Heap.get?_push_ne _ _ _ (Nat.ne_of_lt hb)]
    exact q
  exact wpAny_pure ⟨_, rfl, h _ _ tk out ms e hk hold he a1 (a2.trans (hpm.trans hp)) a3⟩
end
end Fc.SetT

set_option Elab.async false
set_option linter.all false
set_option maxRecDepth 100000
set_option maxHeartbeats 4000000
namespace Fc
open PySem PySem.Spec L2
open PyProof.Rows hiding St
section
variable {X : Cx} {Γ Γ1 Γ2 Γ3 : Ga} {α β γ δ : Type} {N : Ga → Prop} {T : RT}
def EVX (X : Cx) (e : Expr) (Γ : Ga) {α : Type} (r : Rep α) (P : List α → Ga → Prop) : Prop :=
  ∀ (σ : St) (H0 R0 H R : Hp), EnvOk X.K σ H0 R0 H R Γ → ∀ Q : VK, (∀ a vs ys Γ' H' R', P ys Γ' → EnvOk X.K σ H0 R0 H' R' Γ' → Same R R' → H' a = some (.lst vs) → R' a = none → H0 a = none → Off a σ Γ' → PySem.Paired (r.R X.K R') vs ys → ys.length ≤ sizeLine → Q (.ref a) H') → semE X e σ H Q
def EVQ (X : Cx) (e : Expr) (Γ : Ga) {α : Type} (r : Rep α) (P : α → Ga → Prop) : Prop :=
  ∀ (σ : St) (H0 R0 H R : Hp), EnvOk X.K σ H0 R0 H R Γ → ∀ Q : VK, (∀ v y Γ' H' R', P y Γ' → EnvOk X.K σ H0 R0 H' R' Γ' → Same R R' → r.R X.K R' v y → Q v H') → semE X e σ H Q
theorem EV.evq {e : Expr} {r : Rep α} {y : α} {P : α → Ga → Prop} (h : EV X e Γ r y Γ1) (hp : P y Γ1) : EVQ X e Γ r P := fun σ H0 R0 H R E Q q => h σ H0 R0 H R E Q fun v H' R' E' s' e' => q v y Γ1 H' R' hp E' s' e'
def IVX (X : Cx) (tg iter : Expr) (Γ : Ga) {α : Type} (r : Rep α) (P : List α → Ga → Prop) : Prop :=
  ∃ wi, PI X tg iter wi ∧ ∀ (σ : St) (H0 R0 H R : Hp), EnvOk X.K σ H0 R0 H R Γ → ∀ Rq : It → Hp → Prop, (∀ J H1 R1 xs Γ1, P xs Γ1 → EnvOk X.K σ H0 R0 H1 R1 Γ1 → Same R R1 → xs.length ≤ sizeLine → Src X.K J R1 r xs → Rq J H1) → wi σ H Rq
theorem w_forX {tg iter : Expr} {body : List Stmt} {pos : Pos} {r : Rep α} {P : List α → Ga → Prop} {bf : α → Ga → Ga} (I : List α → Nat → Ga → Prop) (hit : IVX X tg iter Γ r P) (hb : BG X tg r bf) (h0 : ∀ xs Γ1, P xs Γ1 → I xs 0 Γ1)
    (hstep : ∀ xs, (∃ Γ1, P xs Γ1) → ∀ (i : Nat) (x : α) (Γ : Ga), xs[i]? = some x → I xs i Γ → WS X body (bf x Γ) (I xs (i + 1)) T) (hend : ∀ xs, (∃ Γ1, P xs Γ1) → ∀ Γ : Ga, I xs xs.length Γ → N Γ)
    (hc : X.calm = true := by rfl) (hp : PassesOwn (model X.prog X.w) X.A X.env X.xe := by exact PassesOwn.never) (hs : ∀ x, foldedSetIterable iter X.env x = pure x := by intro _; rfl) : W1 X (.For tg iter body [] pos) Γ N T := fun σ H0 R0 H R E D dn dr => by
  obtain ⟨wi, hi, hit⟩ := hit
  refine sS (ps_for hp hc hi pgS pssS hs) (hit σ H0 R0 H R E _ fun J H1 R1 xs Γ1 hP E1 s1 hz src => ?_)
  have hP' : ∃ Γ1, P xs Γ1 := ⟨Γ1, hP⟩
  refine ⟨fun i m σ' H' => m = xs.length - i ∧ i ≤ xs.length ∧ ∃ R' Γ', EnvOk X.K σ' H0 R0 H' R' Γ' ∧ Same R1 R' ∧ I xs i Γ', ⟨_, rfl, Nat.zero_le _, R1, Γ1, E1, Same.refl _, h0 xs Γ1 hP⟩, ?_⟩
  rintro i m σ' H' ⟨rfl, hle, R', Γ', E', s', hI⟩
  obtain ⟨sgo, sstop⟩ := src H' R' s' E'.sub i
  by_cases hlt : i < xs.length
  · obtain ⟨go, yl⟩ := sgo _ (List.getElem?_eq_getElem hlt)
    refine .inr ⟨go, fun σ' H' => i + 1 ≤ xs.length ∧ ∃ R' Γ', EnvOk X.K σ' H0 R0 H' R' Γ' ∧ Same R1 R' ∧ I xs (i + 1) Γ', fun σ2 H2 h => ⟨xs.length - (i + 1), by omega, rfl, h.1, h.2⟩, fun v H2 hy => ?_⟩
    obtain ⟨R2, x2, hr⟩ := yl v H2 hy
    refine hb σ' H0 R0 H2 R2 Γ' v _ (E'.grow x2) hr _ fun σ2 E2 => ?_
    exact hstep xs hP' i _ Γ' (List.getElem?_eq_getElem hlt) hI σ2 H0 R0 H2 R2 E2 _ (fun σ3 H3 R3 Γ3 E3 s3 h3 => ⟨hlt, R3, Γ3, E3, s'.trans (x2.r.trans s3), h3⟩) dr
  · have e : i = xs.length := by omega
    subst e
    exact .inl ⟨sstop (Nat.le_refl _), dn σ' H' R' Γ' E' (s1.trans s') (hend xs hP' Γ' hI)⟩
theorem evx_cat {a b : Expr} {pos : Pos} {r : Rep α} {xs : List α} {P : List α → Ga → Prop} (ha : EV X a Γ (rList r) xs Γ1) (hb : EVX X b Γ1 r P) (hz : ∀ ys Γ2, P ys Γ2 → xs.length + ys.length ≤ sizeLine) : EVX X (.BinOp a .Add b pos) Γ r (fun zs Γ2 => ∃ ys, zs = xs ++ ys ∧ P ys Γ2) := by
  intro σ H0 R0 H R E Q q
  refine eS (pe_op op_cat peS peS) (ha σ H0 R0 H R E _ fun v H1 R1 E1 s1 e1 => hb σ H0 R0 H1 R1 E1 _ fun c ws ys Γ2 H2 R2 hP E2 s2 hc hR h0 off pp' z' => ?_)
  obtain ⟨p, vs, rfl, hp, pp, z⟩ := (rList r).mono s2 e1
  refine ⟨p, c, vs, ws, rfl, rfl, E2.sub _ _ hp, hc, by rw [pp.length, pp'.length]; exact hz ys Γ2 hP, fun d hd => ?_⟩
  exact q d _ _ Γ2 _ R2 ⟨ys, rfl, hP⟩ (E2.grow (Ext.freshM E2.sub hd _)) (s1.trans s2) upd_same (E2.sub.free hd) (E2.ext.h.free hd) (E2.off hd) (paired_append pp pp') (by rw [List.length_append]; exact hz ys Γ2 hP)
def cGb (own : List Str) (ix : List Nat) (l : Nat) (e : Ent) (Γ : Ga) : Ga := List.replicate own.length .no ++ ix.map fun i => if i = l then e else lent Γ[i]?
theorem env_compB {K : PySem.W.Frag} {σ : St} {H0 R0 H R : Hp} {Pp : Type} {B : BoxK Pp} {a b : Addr} {s0 : Pp} {l : Nat} (E : EnvOk K σ H0 R0 H R Γ) (own : List Str) (ix : List Nat) (hl : Γ[l]? = some (.ob (B.bx a b s0))) (hu : ∀ (j k : Nat), ix[j]? = some l → ix[k]? = some l → j = k) : EnvOk K (zComp own ix σ) (delL H [a, b]) R H R (cGb own ix l (.ob (B.bx a b s0)) Γ) := by
  obtain ⟨ea, hB, hRa, hRb⟩ := ok_at (E.ent l _ hl)
  have look : ∀ (i : Nat) (e : Ent), (cGb own ix l (.ob (B.bx a b s0)) Γ)[i]? = some e → e = .no ∨ ∃ k, own.length ≤ i ∧ ix[i - own.length]? = some k ∧ ((zComp own ix σ)[i]?).join = (σ[k]?).join ∧ e = if k = l then .ob (B.bx a b s0) else lent Γ[k]? := fun i e q => by
    unfold cGb at q
    by_cases hi : i < own.length
    · rw [List.getElem?_append_left (by simpa using hi), List.getElem?_replicate, if_pos hi] at q
      exact .inl (Option.some.inj q).symm
    · rw [List.getElem?_append_right (by simpa using hi), List.length_replicate, List.getElem?_map] at q
      cases ek : ix[i - own.length]? with
      | none => rw [ek] at q; cases q
      | some k =>
        rw [ek] at q
        refine .inr ⟨k, by omega, rfl, ?_, (Option.some.inj q).symm⟩
        unfold zComp
        rw [List.getElem?_append_right (by simpa using hi), List.length_replicate, List.getElem?_map, ek]
        rfl
  have lentfp : ∀ (k : Nat) (o : Option V), (lent Γ[k]?).fp o = [] := fun k o => by unfold lent; split <;> rfl
  refine ⟨⟨delL_sub, Same.refl _, E.sub, fun _ _ => rfl⟩, fun i e q => ?_, fun i e c q w => ?_, fun i j e e' c q q' w w' => ?_, by unfold cGb zComp; simp⟩
  · rcases look i e q with rfl | ⟨k, _, _, ej, rfl⟩
    · trivial
    · rw [ej]
      split
      · rename_i hk; rw [hk]; exact E.ent l _ hl
      · cases eg : Γ[k]? with
        | none => trivial
        | some e =>
          cases e with
          | im r x => exact E.ent k _ eg
          | no => trivial
          | mu r x => trivial
          | di x => trivial
          | ob x => trivial
  · rcases look i e q with rfl | ⟨k, _, _, ej, rfl⟩
    · cases w
    · split at w
      · have w : c ∈ (B.bx a b s0).fp := w
        rw [B.fp] at w
        exact delL_in w
      · rw [lentfp] at w; cases w
  · rcases look i e q with rfl | ⟨k, oi, ki, _, rfl⟩
    · cases w
    · rcases look j e' q' with rfl | ⟨k', oj, kj, _, rfl⟩
      · cases w'
      · split at w
        · rename_i h1
          split at w'
          · rename_i h2
            rw [h1] at ki; rw [h2] at kj
            have := hu _ _ ki kj
            omega
          · rw [lentfp] at w'; cases w'
        · rw [lentfp] at w; cases w
theorem comp_readU {tg elt : Expr} {scope : Scope} {cl : List (Str × Addr)} {own fr : List Str} {ix : List Nat} {ra : Rep α} {rb : Rep β} {xs : List α} {Pp : Type} {B : BoxK Pp} {a b : Addr} {s0 : Pp} {l li : Nat} {G : Pp → Ga} {Inv : Nat → Pp → Prop} {P : α → β → Prop} {bf : α → Ga → Ga} {J : It} {σ : St} {H0 R0 H1 R1 : Hp} {Q : VK} (E1 : EnvOk X.K σ H0 R0 H1 R1 Γ1) (hl : Γ1[l]? = some (.ob (B.bx a b s0))) (hu : ∀ (j k : Nat), ix[j]? = some l → ix[k]? = some l → j = k) (hG0 : cGb own ix l (.ob (B.bx a b s0)) Γ1 = G s0) (hG : ∀ s, (G s)[li]? = some (.ob (B.bx a b s))) (src : Src X.K J R1 ra xs) (hz : xs.length ≤ sizeLine) (hI0 : Inv 0 s0)
    (hb : ∀ (C : Addr) (s : Shared) (H : Hp) (ex : List Addr), BG (cxComp X scope cl C (own ++ fr) s H ex) tg ra bf) (hw : ∀ x s, Wk (bf x (G s)) (G s))
    (he : ∀ (C : Addr) (s : Shared) (H : Hp) (ex : List Addr) (i : Nat) x st, xs[i]? = some x → Inv i st → EVQ (cxComp X scope cl C (own ++ fr) s H ex) elt (bf x (G st)) rb (fun y Γ' => ∃ st', Γ' = bf x (G st') ∧ P x y ∧ Inv (i + 1) st'))
    (q : ∀ c vs zs H' R' st, Ext (delL H1 [a, b]) R1 H' R' → (B.bx a b st).R X.K H' R' (.ref a) → R' a = none → R' b = none → H' c = none → PySem.Paired (rb.R X.K R') vs zs → PySem.Paired P xs zs → Inv xs.length st → Q (.ref c) (upd H' c (.lst vs))) :
    ∃ W : Nat → Nat → List V → St → Hp → Prop, (∃ m, W 0 m [] (zComp own ix σ) H1) ∧ ∀ i m ys σ' H', W i m ys σ' H' →
      ys.length ≤ sizeLine ∧ ((J.stop i H' ∧ ∀ p, H' p = none → Q (.ref p) (upd H' p (.lst ys))) ∨
      (J.go i H' ∧ ∀ x H2, J.yld i H' x H2 → (fun v σ H Q => ∀ C s Hh ex, semG (cxComp X scope cl C (own ++ fr) s Hh ex) tg v σ H Q : TG) x σ' H2 fun σ2 H3 => (fun σ H Q => ∀ C s Hh ex, semF (cxComp X scope cl C (own ++ fr) s Hh ex) [] σ H Q : TT) σ2 H3 fun b H4 =>
        if b = true then (fun σ H Q => ∀ C s Hh ex, semE (cxComp X scope cl C (own ++ fr) s Hh ex) elt σ H Q : TE) σ2 H4 fun v H5 => ∃ m', m' < m ∧ W (i + 1) m' (ys ++ [v]) σ2 H5 else ∃ m', m' < m ∧ W (i + 1) m' ys σ2 H4)) := by
  refine ⟨fun i m ys σ' H' => m = xs.length - i ∧ i ≤ xs.length ∧ ∃ R' zs st, EnvOk X.K σ' (delL H1 [a, b]) R1 H' R' (G st) ∧ PySem.Paired (rb.R X.K R') ys zs ∧ PySem.Paired P (xs.take i) zs ∧ Inv i st, ⟨_, rfl, Nat.zero_le _, R1, [], s0, by rw [← hG0]; exact env_compB E1 own ix hl hu, .nil, (.nil : PySem.Paired P [] []), hI0⟩, ?_⟩
  rintro i m ys σ' H' ⟨rfl, hle, R', zs, st, E', pp, pq, hI⟩
  have hys : ys.length ≤ sizeLine := by
    rw [pp.length, ← pq.length]
    refine Nat.le_trans ?_ hz
    rw [List.length_take]; omega
  obtain ⟨sgo, sstop⟩ := src H' R' E'.ext.r E'.sub i
  refine ⟨hys, ?_⟩
  by_cases hlt : i < xs.length
  · obtain ⟨go, yl⟩ := sgo _ (List.getElem?_eq_getElem hlt)
    have tk : (xs.take (i + 1)) = xs.take i ++ [xs[i]] := by rw [List.take_succ, List.getElem?_eq_getElem hlt]; rfl
    refine .inr ⟨go, fun v H2 hy C s Hh ex => ?_⟩
    obtain ⟨R2, x2, hr⟩ := yl v H2 hy
    refine hb C s Hh ex σ' _ R1 H2 R2 _ v _ (E'.grow x2) hr _ fun σ2 E2 => ?_
    intro C s Hh ex
    refine (tf_nil (X := cxComp X scope cl C (own ++ fr) s Hh ex)) σ2 _ R1 H2 R2 E2 _ fun H4 R4 E4 s4 => ?_
    rw [if_pos rfl]
    intro C s Hh ex
    refine he C s Hh ex i _ st (List.getElem?_eq_getElem hlt) hI σ2 _ R1 H4 R4 E4 _ fun w z Γ' H5 R5 hP E5 s5 e5 => ?_
    obtain ⟨st', rfl, hPz, hI'⟩ := hP
    refine ⟨xs.length - (i + 1), by omega, rfl, hlt, R5, zs ++ [z], st', E5.weak (hw _ _), ?_, ?_, hI'⟩
    · exact paired_append (Paired.map (fun _ _ => rb.mono (x2.r.trans (s4.trans s5))) pp) (.cons e5 .nil)
    · rw [tk]; exact paired_append pq (.cons hPz .nil)
  · have e : i = xs.length := by omega
    subst e
    rw [List.take_length] at pq
    obtain ⟨_, hB, hRa, hRb⟩ := ok_at (E'.ent li _ (hG st))
    exact .inl ⟨sstop (Nat.le_refl _), fun c hc => q c ys zs H' R' st E'.ext hB hRa hRb hc pp pq hI⟩
theorem evx_compU (l li : Nat) {tg elt iter : Expr} {scope : Scope} {pos : Pos} {cl : List (Str × Addr)} {own fr : List Str} {ix : List Nat} {ra : Rep α} {rb : Rep β} {xs : List α} {Pp : Type} {B : BoxK Pp} {a b : Addr} {s0 : Pp} (G : Pp → Ga) (Inv : Nat → Pp → Prop) {P : α → β → Prop} {bf : α → Ga → Ga}
    (S : CompScope X scope cl own fr ix) (hit : IV X tg iter Γ ra xs Γ1) (hl : Γ1[l]? = some (.ob (B.bx a b s0))) (hu : ∀ (j k : Nat), ix[j]? = some l → ix[k]? = some l → j = k) (hG0 : cGb own ix l (.ob (B.bx a b s0)) Γ1 = G s0) (hG : ∀ s, (G s)[li]? = some (.ob (B.bx a b s))) (hI0 : Inv 0 s0)
    (hb : ∀ (C : Addr) (s : Shared) (H : Hp) (ex : List Addr), BG (cxComp X scope cl C (own ++ fr) s H ex) tg ra bf) (hw : ∀ x s, Wk (bf x (G s)) (G s))
    (he : ∀ (C : Addr) (s : Shared) (H : Hp) (ex : List Addr) (i : Nat) x st, xs[i]? = some x → Inv i st → EVQ (cxComp X scope cl C (own ++ fr) s H ex) elt (bf x (G st)) rb (fun y Γ' => ∃ st', Γ' = bf x (G st') ∧ P x y ∧ Inv (i + 1) st'))
    (hc : X.calm = true := by rfl) (hs : ∀ x, foldedSetIterable iter X.env x = pure x := by intro _; rfl) : EVX X (.ListComp elt [⟨tg, iter, [], 0⟩] scope pos) Γ rb (fun zs Γ2 => PySem.Paired P xs zs ∧ ∃ st, Inv xs.length st ∧ Γ2 = Γ1.set l (.ob (B.bx a b st))) := by
  intro σ H0 R0 H R E Q q
  obtain ⟨wi, hi, hit⟩ := hit
  refine eS (pe_comp (g := fun v σ H Q => ∀ C s Hh ex, semG (cxComp X scope cl C (own ++ fr) s Hh ex) tg v σ H Q) (tc := fun σ H Q => ∀ C s Hh ex, semF (cxComp X scope cl C (own ++ fr) s Hh ex) [] σ H Q) (te := fun σ H Q => ∀ C s Hh ex, semE (cxComp X scope cl C (own ++ fr) s Hh ex) elt σ H Q) hc S hi
    (fun C s H ex => ⟨fun pins s1 σ H v u Q I r h => h C s _ ex pins s1 u I r, fun pins s1 σ H Q I h => h C s _ ex pins s1 I, fun pins s1 σ H Q I h => h C s _ ex pins s1 I⟩) hs) ?_
  refine hit σ H0 R0 H R E _ fun J H1 R1 E1 s1 hz src => comp_readU E1 hl hu hG0 hG src hz hI0 hb hw he fun c vs zs H' R' st xx hB hRa hRb hc pp pq hI => ?_
  obtain ⟨ea, _⟩ := ok_at (E1.ent l _ hl)
  have E2 : EnvOk X.K σ H0 R0 H' R' (Γ1.set l (.ob (B.bx a b st))) := E1.growB hl (by rw [B.fp]; exact xx) (by rw [ea]; exact at_ok hB hRa hRb) fun c hc => by rw [B.fp] at hc ⊢; exact hc
  exact q c vs zs _ _ R' ⟨pq, st, hI, rfl⟩ (E2.grow (Ext.freshM E2.sub hc _)) (s1.trans xx.r) upd_same (E2.sub.free hc) (E2.ext.h.free hc) (E2.off hc) pp (by rw [← pq.length]; exact hz)
end
end Fc

set_option Elab.async false
set_option linter.all false
set_option maxRecDepth 100000
set_option maxHeartbeats 4000000
namespace Fc
open PySem PySem.Spec L2
open PyProof.Rows hiding St
section
variable {X : Cx} {Γ Γ1 : Ga}
theorem put1_nodup {σ : List Int} {k : Int} (h : σ.Nodup) : (SetT.put1 σ k).Nodup := by
  unfold SetT.put1; split
  · exact h
  · rename_i hn
    rw [List.nodup_append]
    refine ⟨h, by simp, fun a ha b hb e => hn ?_⟩
    rw [List.mem_singleton] at hb
    subst hb; subst e
    exact List.any_eq_true.mpr ⟨a, ha, by simp⟩
theorem put1_mem {σ : List Int} {k z : Int} : z ∈ SetT.put1 σ k ↔ z ∈ σ ∨ z = k := by
  unfold SetT.put1; split
  · rename_i hn
    obtain ⟨y, hy, e⟩ := List.any_eq_true.mp hn
    have e : y = k := by simpa using e
    subst e
    constructor
    · exact .inl
    · rintro (h | rfl)
      · exact h
      · exact hy
  · simp
theorem metL_all (val : Nat → Int) : ∀ i, (SetT.metL val i).Nodup ∧ ∀ z, z ∈ SetT.metL val i ↔ ∃ j, j < i ∧ val j = z
  | 0 => ⟨.nil, fun z => ⟨fun h => (by cases h), fun ⟨j, h, _⟩ => absurd h (Nat.not_lt_zero _)⟩⟩
  | i + 1 => by
    obtain ⟨h1, h2⟩ := metL_all val i
    rw [SetT.metL_succ]
    refine ⟨put1_nodup h1, fun z => ?_⟩
    rw [put1_mem, h2]
    constructor
    · rintro (⟨j, hj, e⟩ | rfl)
      · exact ⟨j, by omega, e⟩
      · exact ⟨i, by omega, rfl⟩
    · rintro ⟨j, hj, e⟩
      rcases Nat.lt_or_ge j i with q | q
      · exact .inl ⟨j, q, e⟩
      · have : j = i := by omega
        subst this; exact .inr e.symm
theorem metL_mem (ns : List Int) : (SetT.metL (fun i => ns.getD i 0) ns.length).Nodup ∧ ∀ z, z ∈ SetT.metL (fun i => ns.getD i 0) ns.length ↔ z ∈ ns := by
  obtain ⟨h1, h2⟩ := metL_all (fun i => ns.getD i 0) ns.length
  refine ⟨h1, fun z => (h2 z).trans ⟨?_, ?_⟩⟩
  · rintro ⟨j, hj, rfl⟩
    simp [List.getD, List.getElem?_eq_getElem hj]
  · intro hz
    obtain ⟨j, hj, e⟩ := List.getElem_of_mem hz
    exact ⟨j, hj, by simp [List.getD, List.getElem?_eq_getElem hj, e]⟩
theorem evx_sortedSet {a : Expr} {p p2 pos pos2 : Pos} {P : List Int → Ga → Prop} (hm : X.mg "sorted" = none) (hm2 : X.mg "set" = none) (ha : EVX X a Γ rInt P) (h64 : ∀ ys Γ1, P ys Γ1 → ys.length < 63) (hc : X.calm = true := by rfl)
    (hs : starEach [.Call (.Name "set" p2) [a] [] pos2] X.env = (false, eval (.Call (.Name "set" p2) [a] [] pos2) X.env) :: starEach [] X.env := by rfl) (hs2 : starEach [a] X.env = (false, eval a X.env) :: starEach [] X.env := by rfl) (hg : Gl X "sorted" := by rfl) (hg2 : Gl X "set" := by rfl) :
    EVX X (.Call (.Name "sorted" p) [.Call (.Name "set" p2) [a] [] pos2] [] pos) Γ rInt (fun zs Γ1 => ∃ ys, P ys Γ1 ∧ zs.Nodup ∧ zs.Pairwise (· ≤ ·) ∧ ∀ z, z ∈ zs ↔ z ∈ ys) := by
  intro σ H0 R0 H R E Q q pins s I
  refine wpAny_Call_Name_kw (ld_blt I hg hm PyProof.Rows.boot_sorted ?_ (by decide) (by decide))
  refine PyProof.Rows.callWith_builtin1 ?_ hs rfl
  rw [hs]
  show wpAny _ _ (spliced ((false, eval (.Call (.Name "set" p2) [a] [] pos2) X.env) :: backTo pos (starEach [] X.env))) _ _ s
  refine Calls.spliced_cons (wpAny_Call_Name_kw (ld_blt I hg2 hm2 PyProof.Rows.boot_set ?_ (by decide) (by decide)))
  refine PyProof.Rows.callWith_type1 (thn (pa_cons (peS (X := X) (e := a)) pa_nil hs2 pos2 pins s σ H (fun vs H1 => ∃ c us ys Γ1 R1, vs = [.ref c] ∧ P ys Γ1 ∧ EnvOk X.K σ H0 R0 H1 R1 Γ1 ∧ Same R R1 ∧ H1 c = some (.lst us) ∧ PySem.Paired (rInt.R X.K R1) us ys) I
    (ha σ H0 R0 H R E _ fun c us ys Γ1 H1 R1 hP E1 s1 hc hR h0 off pp z => ⟨c, us, ys, Γ1, R1, rfl, hP, E1, s1, hc, pp⟩)) fun us s1 ⟨vs, H1, I1, r1, c, ws, ys, Γ1, R1, e, hP, E1, sR, hcl, pp⟩ => ?_) hs2 rfl
  subst e
  obtain ⟨u, rfl, rx⟩ := vals1 r1
  cases rx
  have hsq : SqL X.K H1 c (ys.map V.int) := by rw [← ints_of pp]; exact SqL.of hcl
  obtain ⟨its, r', pl, hz⟩ := I1.list hsq
  have hl : its.length = ys.length := by rw [← r'.length, List.length_map]
  have h63 := h64 ys Γ1 hP
  have hh := I1.ok.hd hc
  refine SetT.call_set (ns := ys) hh pl.isList (by simpa using intsAre_of r') (by simp [hl]; omega) fun h2 tk o ho hS hk => ?_
  rw [show its.toArray.size = ys.length by simp [hl]] at hS
  obtain ⟨hnd, hmem⟩ := metL_mem ys
  refine Calls.spliced_nil ?_
  have I2 : Inv X pins σ H1 { s1 with heap := h2, toks := tk } := I1.kept fun b w e => hk b w (Heap.lt_size e) e
  refine SetT.sorted_set hh ho hS (Nat.lt_of_le_of_lt (SetT.metL_len _ _) (by omega)) fun h3 h4 tk2 out ms e k3 k4 he hi hp hsd => ?_
  have I3 : Inv X pins σ H1 { s1 with heap := h3, toks := tk } := I2.kept k3
  have hn : H1 h3.objs.size = none := I3.hok.fresh (Nat.le_refl _)
  have hml : ms.length ≤ ys.length := by rw [hp.length_eq]; exact SetT.metL_len _ _
  have aints : ∀ zs : List Int, PySem.Paired (rInt.R X.K R1) (zs.map V.int) zs := fun zs => by
    induction zs with
    | nil => exact .nil
    | cons y r ih => exact .cons rfl ih
  have hle : ms.length ≤ sizeLine := Nat.le_trans hml (Nat.le_trans (Nat.le_of_lt h63) (by decide))
  refine ⟨.ref h3.objs.size, upd H1 h3.objs.size (.lst (ms.map V.int)), I3.laid (a := h3.objs.size) (o := .lst (ms.map V.int)) (t' := tk2) k4 (Nat.le_refl _) ⟨by rw [List.length_map]; exact hle, out.toList, e, vals_ints hi, by rw [he]⟩, rfl, ?_⟩
  exact q _ _ ms Γ1 _ R1 ⟨ys, hP, hp.nodup_iff.mpr hnd, hsd, fun z => hp.mem_iff.trans (hmem z)⟩ (E1.grow (Ext.freshM E1.sub hn _)) sR upd_same (E1.sub.free hn) (E1.ext.h.free hn) (E1.off hn) (aints _) hle
end
end Fc

set_option Elab.async false
set_option linter.all false
set_option maxRecDepth 100000
set_option maxHeartbeats 4000000
namespace Fc
open PySem PySem.Spec L2
open PyProof.Rows hiding St
section
variable {X : Cx} {Γ Γ1 Γ2 Γ3 : Ga} {α β γ δ : Type} {N : Ga → Prop} {T : RT}
theorem EVX.q {e : Expr} {r : Rep α} {P : List α → Ga → Prop} (h : EVX X e Γ r P) : EVQ X e Γ (rList r) P := fun σ H0 R0 H R E Q q =>
  h σ H0 R0 H R E Q fun a vs ys Γ' H' R' hP E' s' ha hR h0 off pp z => by
    have s2 : Same R' (upd R' a (.lst vs)) := Same.fresh hR _
    exact q _ ys Γ' H' _ hP (E'.still ha hR h0 off) (s'.trans s2) ⟨a, vs, rfl, upd_same, Paired.map (fun _ _ => r.mono s2) pp, z⟩
theorem evl_listO (i : Nat) {x : Str} {p p1 pos : Pos} {r : Rep α} {xs : List α} (hm : X.mg "list" = none) (hΓ : Γ[i]? = some (.mu r xs)) (hz : xs.length ≤ sizeLine) (hN : X.N[i]? = some x := by rfl) (hv : Vis X.env.scope x := by first | exact Or.inl rfl | exact Or.inr (Or.inl rfl) | exact Or.inr (Or.inr rfl))
    (hd : (x == ("__debug__" : Str)) = false := by decide) (hcd : (x == ("__classdict__" : Str)) = false := by decide) (hs : starEach [.Name x p1] X.env = [(false, eval (.Name x p1) X.env)] := by rfl) (hg : Gl X "list" := by rfl) : EVL X (.Call (.Name "list" p) [.Name x p1] [] pos) Γ r xs Γ := by
  intro σ H0 R0 H R E Q q
  obtain ⟨a, vs, ea, ha, hn, pp⟩ := E.ent i _ hΓ
  refine eS (pe_callTy call_list_of hg hm PyProof.Rows.boot_list (pa_cons (pe_var hN hv hd hcd) pa_nil hs) (by decide) (by decide) hs) ⟨.ref a, at_of ea, a, vs, rfl, .inl (SqL.of ha), fun l hl => ?_⟩
  exact q l vs _ R (E.grow (Ext.freshM E.sub hl _)) (Same.refl _) upd_same (E.sub.free hl) (E.ext.h.free hl) (E.off hl) pp hz
theorem w_retUQ (i : Nat) {P : Type} {B : BoxK P} {e : Expr} {pos : Pos} {a b : Addr} {rr : Rep β} {Pq : β → Ga → Prop} {Pd : P → β → Prop} (he : EVQ X e Γ rr Pq) (h : ∀ y Γ1, Pq y Γ1 → ∃ s, Γ1[i]? = some (.ob (B.bx a b s)) ∧ Pd s y) : W1 X (.Return (some e) pos) Γ N (rtU X.K B a b fun s' => rtP X.K rr (Pd s')) := fun σ H0 R0 H R E D dn dr =>
  sS (ps_ret peS) (he σ H0 R0 H R E _ fun v y Γ1 H1 R1 hP E1 s1 e1 => by
    obtain ⟨s, hΓ1, hd⟩ := h y Γ1 hP
    obtain ⟨ea, hB, hR⟩ := ok_at (E1.ent i _ hΓ1)
    exact dr v H1 R1 E1.ext ⟨s, hB, hR, y, e1, hd⟩)
theorem ivx_q {tg iter : Expr} {r : Rep α} {P : List α → Ga → Prop} (h : EVQ X iter Γ (rList r) P) : IVX X tg iter Γ r P := by
  refine ⟨_, pi_list peS, fun σ H0 R0 H R E Rq q => h σ H0 R0 H R E _ fun v xs Γ1 H1 R1 hP E1 s1 e1 => ?_⟩
  obtain ⟨a, vs, rfl, ha, pp, z⟩ := e1
  refine ⟨a, rfl, ⟨vs, SqL.of (E1.sub _ _ ha)⟩, q _ H1 R1 xs Γ1 hP E1 s1 z fun H' R' sR sH i => ⟨fun x hx => ?_, fun hi => ?_⟩⟩
  · have hq : SqL X.K H' a vs := SqL.of (sH _ _ (sR _ _ ha))
    obtain ⟨v, hv, hr⟩ := paired_at pp hx
    refine ⟨⟨vs, v, hq, hv⟩, fun v' H2 hy => ?_⟩
    obtain ⟨rfl, hy⟩ := hy
    have := hy vs hq
    rw [hv] at this
    cases this
    exact ⟨R', Ext.refl sH, r.mono sR hr⟩
  · exact ⟨vs, SqL.of (sH _ _ (sR _ _ ha)), by rw [pp.length]; exact hi⟩
theorem evq_callU (i : Nat) {P : Type} {B : BoxK P} {S : SpU P} {x y : Str} {k : Nat} {es : List Expr} {p p1 pos : Pos} {ps : List Pk} {a b : Addr} {s0 s : P} {rr : Rep β} {Pd : P → β → Prop} {G : β → Ga → Prop} (C : Cal X.prog X.w X.K X.mg X.base x k (spU B S X.K)) (hr : Room k X.A) (ha : HA X es Γ ps Γ1) (hΓ : Γ[i]? = some (.ob (B.bx a b s0))) (hΓ1 : Γ1[i]? = some (.ob (B.bx a b s))) (hS : S X.K s ps (fun s' => rtP X.K rr (Pd s')))
    (h : ∀ s' z, Pd s' z → G z (Γ1.set i (.ob (B.bx a b s'))))
    (hg : Gl X x := by rfl) (hdb : (x == ("__debug__" : Str)) = false := by decide) (he : starEach (.Name y p1 :: es) X.env = (false, eval (.Name y p1) X.env) :: starEach es X.env := by rfl) (hpl : (backTo pos (starEach es X.env)).any (·.1) = false := by rfl)
    (hN : X.N[i]? = some y := by rfl) (hv : Vis X.env.scope y := by first | exact Or.inl rfl | exact Or.inr (Or.inl rfl) | exact Or.inr (Or.inr rfl)) (hd : (y == ("__debug__" : Str)) = false := by decide) (hcd : (y == ("__classdict__" : Str)) = false := by decide) :
    EVQ X (.Call (.Name x p) (.Name y p1 :: es) [] pos) Γ rr G := fun σ H0 R0 H R E Q q =>
  ev_callUT i C hr ha hΓ hΓ1 hS E (fun H1 R1 v H' R' s' _ s1 xx E' t => by
    obtain ⟨z, e1, hz⟩ := t
    exact q v z _ H' R' (h s' z hz) E' (s1.trans xx.r) e1) hg hdb he hpl hN hv hd hcd
open Classical in
noncomputable def isL (r : Rep α) (K : PySem.W.Frag) (R : Hp) (x : List α) (w : Value) : Bool := decide (∃ a, w = .ref a ∧ (rList r).R K R (.ref a) x)
open Classical in
theorem isL_at {r : Rep α} [DecidableEq α] {n : Nat} (e : EqRep (rList r) n) {K : PySem.W.Frag} {R : Hp} {x y : List α} {v : V} {w : Value} (hv : RelV v w) (hy : (rList r).R K R v y) : isL r K R x w = decide (y = x) := by
  have hy2 := hy
  obtain ⟨a, vs, rfl, _⟩ := hy2
  cases hv
  unfold isL
  by_cases h : y = x
  · subst h
    rw [decide_eq_true rfl]
    exact decide_eq_true ⟨a, rfl, hy⟩
  · rw [decide_eq_false h]
    refine decide_eq_false ?_
    rintro ⟨a', ea, hx⟩
    cases ea
    exact h (e.inj hy hx)
theorem c_inL {r : Rep α} [DecidableEq α] {n : Nat} (e : EqRep (rList r) n) (hu : X.A.units + (n + 1) < cLine) {x : List α} {xs : List (List α)} : Cmp X .In (rList r) (rList (rList r)) x xs (decide (x ∈ xs)) :=
  ⟨fun v u H Q => ∃ R, Same R H ∧ (rList r).R X.K R v x ∧ (rList (rList r)).R X.K R u xs ∧ Q (.bl (decide (x ∈ xs))) H, fun pins s σ H v1 u1 v u Q I rx ry ⟨R, sub, h1, h2, q⟩ => by
    obtain ⟨b, ws, rfl, hb, py, _⟩ := h2
    cases ry
    obtain ⟨its, rr, pl, hz⟩ := I.list (SqL.of (sub _ _ hb))
    have at_ : ∀ (m : Nat) (w : Value), its[m]? = some w → ∃ v y, xs[m]? = some y ∧ RelV v w ∧ (rList r).R X.K R v y := fun m w hm => by
      have ml := (List.getElem?_eq_some_iff.mp hm).1
      have l1 := rr.length
      have l2 := py.length
      obtain ⟨y, hy⟩ : ∃ y, xs[m]? = some y := ⟨_, List.getElem?_eq_getElem (by omega)⟩
      obtain ⟨v, hv, hry⟩ := paired_at py hy
      obtain ⟨w', hw', rv⟩ := rr.get hv
      rw [hm] at hw'
      cases hw'
      exact ⟨v, y, hy, rv, hry⟩
    refine SeqAt.in_listAt (isL r X.K R x) pl.isList (fun w hw => ?_) ⟨.bl _, H, I, rfl, ?_⟩
    · obtain ⟨m, hm⟩ := List.mem_iff_getElem?.mp (show w ∈ its by simpa using hw)
      obtain ⟨v', y, hy, rv, hry⟩ := at_ m w hm
      rw [isL_at e rv hry]
      exact e.eq (A := X.A.in1) I sub rv rx hry h1 (by show X.A.units + 1 + n < cLine; omega)
    · have : its.toArray.any (isL r X.K R x) = decide (x ∈ xs) := by
        rw [show its.toArray.any (isL r X.K R x) = its.any (isL r X.K R x) by simp]
        by_cases hx : x ∈ xs
        · rw [decide_eq_true hx, List.any_eq_true]
          obtain ⟨m, hm⟩ := List.mem_iff_getElem?.mp hx
          have ml := (List.getElem?_eq_some_iff.mp hm).1
          have l1 := rr.length
          have l2 := py.length
          obtain ⟨w, hw⟩ : ∃ w, its[m]? = some w := ⟨_, List.getElem?_eq_getElem (by omega)⟩
          obtain ⟨v', y, hy, rv, hry⟩ := at_ m w hw
          rw [hm] at hy; cases hy
          exact ⟨w, List.mem_of_getElem? hw, by rw [isL_at e rv hry, decide_eq_true rfl]⟩
        · rw [decide_eq_false hx]
          refine Bool.eq_false_iff.mpr fun h => hx ?_
          obtain ⟨w, hw, he⟩ := List.any_eq_true.mp h
          obtain ⟨m, hm⟩ := List.mem_iff_getElem?.mp hw
          obtain ⟨v', y, hy, rv, hry⟩ := at_ m w hm
          rw [isL_at e rv hry] at he
          rw [← of_decide_eq_true he]
          exact List.mem_of_getElem? hy
      rw [this]; exact q, fun R H v u Q s h1 h2 q => ⟨R, s, h1, h2, q⟩⟩
end
end Fc
namespace K1
open PySem L2 Fc
open PySem.Spec hiding Row
open PyProof.Rows hiding St
open PySem.Builtin.Int (intBits)
theorem many_zero (v : Web) : (manyF v).getD 0 0 = 1 := by
  unfold manyF
  rw [manyL_get v (v.1.length - 1) 0 0 (Nat.le_refl _) (Nat.zero_le _)]; rfl
theorem chain_ex {v : Web} (hv : WebG v) : ∀ (m : Nat) (p n : Int), p.toNat = m → 0 ≤ p → p < (v.1.length : Int) → 0 ≤ n → n < (manyF v).getD p.toNat 0 → ∃ xs, ChT v xs p ∧ offS v xs = n := by
  intro m
  induction m using Nat.strongRecOn with
  | _ m ih =>
    intro p n hm p0 p1 n0 n1
    by_cases h : p = 0
    · subst h
      rw [show (0 : Int).toNat = 0 from rfl, many_zero] at n1
      exact ⟨[], .nil, by show (0 : Int) = n; omega⟩
    · obtain ⟨i, r, hi, hq, h1, h2, h3, _⟩ := call_step hv (q := p) (left := n) (by omega) p1 n0 n1
      have il := (List.getElem?_eq_some_iff.mp hi).1
      have hr : rowOf v (i : Int) = r := by
        have := row_get (v := v) (k := (i : Int)) (by omega) (by omega)
        rw [show ((i : Int)).toNat = i by omega, hi] at this
        exact (Option.some.inj this).symm
      have R := hv.rowP (List.mem_of_getElem? hi)
      have R1 := R.cp; have R2 := R.p0
      obtain ⟨xs, hx, e⟩ := ih r.1.toNat (by omega) r.1 (n - offAt v (i : Int)) rfl R2 (by omega) (by omega) h3
      refine ⟨xs ++ [(i : Int)], ?_, ?_⟩
      · have := ChT.snoc (k := (i : Int)) hx (by omega) (by omega) (by rw [hr]) (by rw [hr]; omega)
        rw [hr, hq] at this
        exact this
      · rw [offS_snoc, e, show ((i : Int)).toNat = i by omega, offF_at il]; omega
theorem sum_le {c : Int} (c0 : 0 ≤ c) : ∀ (xs : List Int), (∀ x ∈ xs, x ≤ c) → xs.sum ≤ (xs.length : Int) * c
  | [], _ => by simp
  | x :: xs, h => by
    have h1 := h x List.mem_cons_self
    have h2 := sum_le c0 xs fun y hy => h y (List.mem_cons_of_mem _ hy)
    rw [List.sum_cons, List.length_cons]
    have : ((xs.length + 1 : Nat) : Int) * c = (xs.length : Int) * c + c := by rw [Int.natCast_add, Int.add_mul]; omega
    omega
theorem many_bd {v : Web} (hv : WebG v) : ∀ (m : Nat), m < v.1.length → (manyF v).getD m 0 ≤ (60 : Int) ^ m := by
  intro m
  induction m using Nat.strongRecOn with
  | _ m ih =>
    intro hm
    by_cases h : m = 0
    · subst h; rw [many_zero]; decide
    · have e := many_at hv (q := (m : Int)) (by omega) (by omega)
      rw [show ((m : Int)).toNat = m by omega] at e
      rw [e]
      unfold sumOf
      have p0 : (0 : Int) ≤ 60 ^ (m - 1) := Int.le_of_lt (Int.pow_pos (by decide))
      refine Int.le_trans (sum_le p0 _ fun x hx => ?_) ?_
      · obtain ⟨r, hr, rfl⟩ := List.mem_map.mp hx
        obtain ⟨hr, hq⟩ := List.mem_filter.mp hr
        have hq := of_decide_eq_true hq
        have R := hv.rowP hr
        have R1 := R.cp; have R2 := R.p0
        have := ih r.1.toNat (by omega) (by omega)
        refine Int.le_trans this ?_
        have : ∀ a b : Nat, a ≤ b → (60 : Int) ^ a ≤ 60 ^ b := fun a b hab => by
          have := Nat.pow_le_pow_right (n := 60) (by decide) hab
          exact_mod_cast this
        exact this _ _ (by omega)
      · rw [List.length_map]
        have hl : ((v.2.filter fun r => decide (r.2.2.2 = (m : Int))).length : Int) ≤ 60 := by
          have := List.length_filter_le (fun r : Row => decide (r.2.2.2 = (m : Int))) v.2
          have := hv.rl.2
          omega
        have e2 : (60 : Int) ^ m = 60 * 60 ^ (m - 1) := by
          conv => lhs; rw [show m = (m - 1) + 1 by omega, Int.pow_succ, Int.mul_comm]
        rw [e2]
        exact Int.mul_le_mul_of_nonneg_right hl p0
theorem many_lt {v : Web} (hv : WebG v) {p : Int} (p0 : 0 ≤ p) (p1 : p < (v.1.length : Int)) : (manyF v).getD p.toNat 0 ≤ 216000 := by
  have h := many_bd hv p.toNat (by omega)
  have hp : p.toNat ≤ 3 := by have := hv.pl.2; omega
  refine Int.le_trans h ?_
  have : ∀ m : Nat, m ≤ 3 → (60 : Int) ^ m ≤ 216000 := by decide
  exact this _ hp
theorem mem_sum : ∀ {xs : List Int} {y : Int}, (∀ x ∈ xs, 0 ≤ x) → y ∈ xs → y ≤ xs.sum
  | [], _, _, h => by cases h
  | x :: xs, y, hn, h => by
    have h0 := hn x List.mem_cons_self
    have h1 := sum_nn xs fun z hz => hn z (List.mem_cons_of_mem _ hz)
    rw [List.sum_cons]
    rcases List.mem_cons.mp h with rfl | h
    · omega
    · have := mem_sum (fun z hz => hn z (List.mem_cons_of_mem _ hz)) h; omega
theorem many_pos {v : Web} (hv : WebG v) : ∀ (m : Nat), m < v.1.length → 1 ≤ (manyF v).getD m 0 := by
  intro m
  induction m using Nat.strongRecOn with
  | _ m ih =>
    intro hm
    by_cases h : m = 0
    · subst h; rw [many_zero]; decide
    · have e := many_at hv (q := (m : Int)) (by omega) (by omega)
      rw [show ((m : Int)).toNat = m by omega] at e
      obtain ⟨r, hr, hq⟩ := hv.good.call m (by omega) hm
      have R := hv.rowP hr
      have R1 := R.cp; have R2 := R.p0
      have hi := ih r.1.toNat (by omega) (by omega)
      rw [e]
      unfold sumOf
      refine Int.le_trans hi (mem_sum (fun x hx => ?_) (List.mem_map.mpr ⟨r, List.mem_filter.mpr ⟨hr, decide_eq_true hq⟩, rfl⟩))
      obtain ⟨s, _, rfl⟩ := List.mem_map.mp hx
      exact manyF_nn v _
section
variable {P : Program} {w : World} {K : PySem.W.Frag} {mg : Str → Option Value} {base : Heap} {f : Addr} {fd : FuncData}
abbrev sLC : Stmt := top at__law_is_chain
abbrev pLC : List Str := ["_law_web_here", "_law_chain", "_law_part_here"]
abbrev nLC : List Str := ["_law_web_here", "_law_chain", "_law_part_here", "_law_here", "_law_k"]
theorem scLC : FnScope nLC pLC (defScope sLC) := ⟨rfl, rfl, rfl, by decide +kernel, rfl, by decide +kernel, by decide +kernel⟩
def SLC : SpD := fun K ps T => ∃ (v : Web) (xs : List Int) (p : Int), ps = [⟨rWeb, v⟩, ⟨rList rInt, xs⟩, ⟨rInt, p⟩] ∧ ChT v xs p ∧ T = rtP K rBool (· = true)
def endP (v : Web) (xs : List Int) : Int := match xs.getLast? with
  | none => 0
  | some k => (rowOf v k).2.2.2
theorem ChT.end_ {v : Web} {xs : List Int} {p : Int} (h : ChT v xs p) : p = endP v xs := by
  cases h with
  | nil => rfl
  | snoc => unfold endP; rw [List.getLast?_append]; rfl
theorem ChT.pre {v : Web} {xs : List Int} {p : Int} (h : ChT v xs p) : ∀ i, i ≤ xs.length → ∃ q, ChT v (xs.take i) q ∧ (i = xs.length → q = p) ∧ ∀ k, xs[i]? = some k → 0 ≤ k ∧ k < (v.2.length : Int) ∧ (rowOf v k).1 = q ∧ 0 ≤ (rowOf v k).2.2.2 ∧ ChT v (xs.take (i + 1)) (rowOf v k).2.2.2 := by
  induction h with
  | nil =>
    intro i hi
    have : i = 0 := by simpa using hi
    subst this
    exact ⟨0, .nil, fun _ => rfl, fun k hk => by simp at hk⟩
  | @snoc xs p k hx k0 k1 kp kc ih =>
    intro i hi
    rw [List.length_append, List.length_singleton] at hi
    rcases Nat.lt_trichotomy i xs.length with h | h | h
    · obtain ⟨q, h1, h2, h3⟩ := ih i (by omega)
      refine ⟨q, by rw [List.take_append_of_le_length (by omega)]; exact h1, fun e => by rw [List.length_append, List.length_singleton] at e; omega, fun j hj => ?_⟩
      rw [List.getElem?_append_left h] at hj
      rw [List.take_append_of_le_length (by omega)]
      exact h3 j hj
    · subst h
      refine ⟨p, by rw [List.take_append_of_le_length (Nat.le_refl _), List.take_length]; exact hx, fun e => by rw [List.length_append, List.length_singleton] at e; omega, fun j hj => ?_⟩
      rw [List.getElem?_append_right (Nat.le_refl _), Nat.sub_self] at hj
      have hj : k = j := by simpa using hj
      subst hj
      refine ⟨k0, k1, kp, kc, ?_⟩
      rw [List.take_of_length_le (by simp)]
      exact .snoc hx k0 k1 kp kc
    · have : i = xs.length + 1 := by omega
      subst this
      refine ⟨_, by rw [List.take_of_length_le (by simp)]; exact .snoc hx k0 k1 kp kc, fun _ => rfl, fun j hj => ?_⟩
      rw [List.getElem?_eq_none (by simp)] at hj; cases hj
theorem ok_LC (M : Mods mg) (F : Fun K "_law_is_chain" "_law_is_chain" sLC f fd) (hm : mg "_law_is_chain" = some (.ref f)) (hb : Binds K fd pLC []) : Cal P w K mg base "_law_is_chain" 1 (spG SLC K) := by
  have nd := scLC.nd
  refine fn_ok F scLC hm hb (fun qs T ⟨_, _, _, e, _⟩ => by rw [e]; rfl) (fun cdv A outer s H E qs T hr hS => ?_)
  obtain ⟨v, xs, p, rfl, hc, rfl⟩ := hS
  change WS _ _ [.im (rPair (rList rInt) (rList rRow)) v, .im (rList rInt) xs, .im rInt p, .no, .no] _ _
  refine ws_seq (w_set 3 ev_int ?_)
  refine ws_seq (w_forI (r := rInt) (fun i Γ => ∃ q v4, Γ = [.im (rPair (rList rInt) (rList rRow)) v, .im (rList rInt) xs, .im rInt p, .im rInt q, v4] ∧ i ≤ xs.length ∧ ChT v (xs.take i) q) (iv_list (ev_name 1 rfl)) (bg_name 4) ⟨0, _, rfl, Nat.zero_le _, .nil⟩ ?_ ?_)
  · rintro i k Γ hk ⟨q, v4, rfl, hi, hq⟩
    obtain ⟨q', h1, _, h3⟩ := hc.pre i hi
    have eq : q' = q := h1.end_.trans hq.end_.symm
    subst eq
    obtain ⟨k0, k1, kp, kc, hn⟩ := h3 k hk
    have hat : atI v.2 k = some (rowOf v k) := atI_getDG noRow k0 k1
    have il := (List.getElem?_eq_some_iff.mp hk).1
    refine ws_seq (w_if (TW.tv (tw_or (tv_cmp c_lt (ev_name 4 rfl) ev_int) fun h1 => tw_or (tv_cmp c_ge (ev_name 4 rfl) (ev_len M.len (ev_snd (ev_name 0 rfl)))) fun h2 => tw_or (tv_cmp c_ne (ev_row0 (ev_ixL (y := rowOf v k) (ev_snd (ev_name 0 rfl)) (ev_name 4 rfl) hat)) (ev_name 3 rfl)) fun _ => tw_or1 (tv_cmp c_lt (ev_row3 (ev_ixL (y := rowOf v k) (ev_snd (ev_name 0 rfl)) (ev_name 4 rfl) hat)) ev_int))) (fun h => ?_) (fun h => ws_end ?_))
    · rw [decide_eq_false (show ¬ k < 0 by omega), decide_eq_false (show ¬ (v.2.length : Int) ≤ k by omega), kp, decide_eq_false (show ¬ (rowOf v k).2.2.2 < 0 by omega)] at h
      simp at h
    · exact ws_one (w_set 3 (ev_row3 (ev_ixL (y := rowOf v k) (ev_snd (ev_name 0 rfl)) (ev_name 4 rfl) hat)) ⟨_, _, rfl, by omega, hn⟩)
  · rintro Γ ⟨q, v4, rfl, hi, hq⟩
    rw [List.take_length] at hq
    have eq : q = p := hq.end_.trans hc.end_.symm
    exact ws_one (w_ret (ev_cmp c_eq (ev_name 3 rfl) (ev_name 2 rfl)) (by rw [eq]; simp))
abbrev sNM : Stmt := top at__law_numbers
abbrev pNM : List Str := ["_law_purse_here", "_law_many_here"]
theorem scNM : FnScope pNM pNM (defScope sNM) := ⟨rfl, rfl, rfl, by decide +kernel, rfl, by decide +kernel, by decide +kernel⟩
def SNM : SpU Pu := fun K s ps T => ∃ (n m : Int), PSt n s ∧ 0 ≤ n ∧ n ≤ 900000 ∧ ps = [⟨rInt, m⟩] ∧ 1 ≤ m ∧ m ≤ 900000 ∧ T = fun s' => rtP K (rList rInt) fun xs => PSt (n + 10) s' ∧ xs.Nodup ∧ (∀ x ∈ xs, 0 ≤ x ∧ x < m) ∧ xs.length ≤ 16
theorem nodup_short : ∀ {l m : List Int}, l.Nodup → (∀ x ∈ l, x ∈ m) → l.length ≤ m.length
  | [], _, _, _ => Nat.zero_le _
  | a :: l, m, hn, hs => by
    have ha : a ∈ m := hs a List.mem_cons_self
    have ih := nodup_short (l := l) (m := m.erase a) (List.nodup_cons.mp hn).2 (fun x hx => by
      have hne : x ≠ a := fun e => (List.nodup_cons.mp hn).1 (e ▸ hx)
      exact (List.mem_erase_of_ne hne).mpr (hs x (List.mem_cons_of_mem _ hx)))
    rw [List.length_erase_of_mem ha] at ih
    have : 0 < m.length := List.length_pos_of_mem ha
    simp only [List.length_cons]
    omega
theorem ok_NM (M : Mods mg) (CD : Cal P w K mg base "_law_draw" 1 (spU kPu SDR K)) (F : Fun K "_law_numbers" "_law_numbers" sNM f fd) (hm : mg "_law_numbers" = some (.ref f)) (hb : Binds K fd pNM []) : Cal P w K mg base "_law_numbers" 2 (spU kPu SNM K) := by
  have nd := scNM.nd
  have nd1 : List.Nodup [("_law_k" : Str), "_law_many_here", "_law_purse_here"] := by decide
  refine fnU_ok F scNM hm hb (fun xs qs T ⟨_, _, _, _, _, e, _⟩ => by rw [e]; rfl) (fun cdv A outer s H E a b st qs T hr hS => ?_)
  obtain ⟨n, m, hP, n0, n1, rfl, m0, m1, rfl⟩ := hS
  change WS _ _ [.ob (kPu.bx a b st), .im rInt m] _ _
  refine ws_seq (w_if (tv_cmp c_le (ev_name 1 rfl) ev_int) (fun h => ?_) (fun h => ws_end ?_))
  · have h : m ≤ 16 := of_decide_eq_true h
    refine ws_one (w_retU 0 (B := kPu) (EVL.im (evl_listRange M.list M.range (ev_name 1 rfl) ⟨by omega, by omega⟩)) rfl ⟨hP.mono (by omega), ups_nodup _, fun x hx => ?_, ?_⟩)
    · have := ups_mem.mp hx; omega
    · rw [ups_length]; omega
  · have h : ¬ m ≤ 16 := of_decide_eq_false h
    refine ws_one (w_retUQ 0 (B := kPu) (EVX.q (evx_sortedSet M.sorted M.set (evx_cat (EVL.im (evl_lst (r := rInt) (ea_cons ev_int (ea_cons (ev_sub (ev_name 1 rfl) ev_int) ea_nil)) (by show 2 ≤ sizeLine; decide)))
      (evx_compU 0 2 (own := ["_law_k"]) (fr := ["_law_many_here", "_law_purse_here"]) (ix := [1, 0]) (ra := rInt) (rb := rInt) (B := kPu) (fun s => [.no, .im rInt m, .ob (kPu.bx a b s)]) (fun i s => PSt (n + (i : Int)) s) (P := fun (_ : Int) y => 0 ≤ y ∧ y < m) (comp_mk (so := defScope sNM) (N0 := pNM) rfl rfl (fun x h => cell_has h) (by decide +kernel)) (iv_range1 M.range ev_int ⟨by decide, by decide⟩) rfl (fun j k hj hk => by
        have one : ∀ m : Nat, ([1, 0] : List Nat)[m]? = some 0 → m = 1 := fun m hm => by
          match m, hm with
          | 0, hm => simp at hm
          | 1, _ => rfl
          | m + 2, hm => simp at hm
        rw [one j hj, one k hk]) rfl (fun _ => rfl) (hP.mono (by omega)) (fun C s H ex => bg_name 0) (fun x s => ⟨.inr rfl, .inl rfl, .inl rfl, trivial⟩) (fun C s H ex i x st' hx hI => ?dr))
      (fun ys Γ2 hp => by rw [← hp.1.length, ups_length]; show 2 + 10 ≤ sizeLine; decide)) (fun ys Γ1 hp => ?len))) ?_)
    case dr =>
      have il := (List.getElem?_eq_some_iff.mp hx).1
      rw [ups_length] at il
      have il : i < 10 := il
      obtain ⟨y, st3, y0, y1, hP3, hS3⟩ := drawOk hI (by omega) (b := m) (by omega) (by omega)
      exact EV.evq (ev_callU 2 CD hr (ha_cons (ev_name 1 rfl) ha_nil) rfl rfl (hS3 _)) ⟨st3, rfl, ⟨y0, y1⟩, hP3.mono (by omega)⟩
    case len =>
      obtain ⟨zs, rfl, hpd, _⟩ := hp
      rw [List.length_append, ← hpd.length, ups_length]; show 2 + 10 < 63; decide
    rintro zs Γ1 ⟨ys, ⟨us, rfl, hpd, st3, hI3, rfl⟩, hnd, _, hmem⟩
    have ul : us.length = 10 := by rw [← hpd.length, ups_length]; rfl
    have ub : ∀ u ∈ us, 0 ≤ u ∧ u < m := fun u hu => by
      obtain ⟨j, hj⟩ := List.mem_iff_getElem?.mp hu
      obtain ⟨x, hx, hp⟩ := paired_at hpd hj
      exact hp
    refine ⟨st3, rfl, hI3.mono (by rw [ups_length]; show n + 10 ≤ n + 10; omega), hnd, fun x hx => ?_, ?_⟩
    · rcases List.mem_append.mp ((hmem x).mp hx) with z | z
      · rcases List.mem_cons.mp z with rfl | z
        · omega
        · rw [List.mem_singleton.mp z]; omega
      · exact ub x z
    · have := nodup_short hnd fun x hx => (hmem x).mp hx
      rw [List.length_append, ul] at this
      have : zs.length ≤ 2 + 10 := this
      omega
end
end K1

set_option Elab.async false
set_option linter.all false
set_option maxRecDepth 100000
set_option maxHeartbeats 4000000
namespace K1
open PySem L2 Fc
open PySem.Spec hiding Row
open PyProof.Rows hiding St
open PySem.Builtin.Int (intBits)
section
variable {P : Program} {w : World} {K : PySem.W.Frag} {mg : Str → Option Value} {base : Heap} {f : Addr} {fd : FuncData}
abbrev sLA : Stmt := top at_law
abbrev nLA : List Str := ["_law_script", "_law_purse_here", "_law_web_here", "_law_handed", "_law_offset", "_law_many_here", "_law_part_here", "_law_seen", "_law_number", "_law_chain", "_law_told"]
theorem scLA : FnScope nLA ["_law_script"] (defScope sLA) := ⟨rfl, rfl, rfl, by decide +kernel, rfl, by decide +kernel, by decide +kernel⟩
def SLAW : SpD := fun K ps T => ∃ ns : List Int, ps = [⟨rScr, ns⟩] ∧ ns.length ≤ 63 ∧ (∀ n ∈ ns, intBits n ≤ 2 ^ 20) ∧ T = rtP K rBool (· = true)
theorem flatI (K : PySem.W.Frag) (H H' : Hp) (v : V) (y : Int) (h : rInt.R K H v y) : rInt.R K H' v y := h
theorem ok_LA (M : Mods mg) (CU : Cal P w K mg base "_law_purse" 1 (spG SPU K)) (CW : Cal P w K mg base "_law_web" 4 (spU kPu SWB K)) (CC : Cal P w K mg base "_law_copy" 1 (spG SCP K)) (CO : Cal P w K mg base "_law_offsets" 2 (spG SOF K)) (CM : Cal P w K mg base "_law_many" 1 (spG SMN K)) (CX : Cal P w K mg base "_law_whole" 1 (spG SWH K)) (CH : Cal P w K mg base "chains" 7 (spG SCH K)) (CN : Cal P w K mg base "_law_numbers" 2 (spU kPu SNM K)) (CF : Cal P w K mg base "chain_of" 9 (spG SCF K)) (CK : Cal P w K mg base "chain_number" 9 (spG SCN K)) (CL : Cal P w K mg base "_law_is_chain" 1 (spG SLC K)) (F : Fun K "law" "law" sLA f fd) : FnOk P w K mg base CX0 10 f fd ["_law_script"] (spG SLAW K) := by
  have nd := scLA.nd
  have nd1 : List.Nodup [("_law_k" : Str)] := by decide
  have nd2 : List.Nodup [("_law_k" : Str), "_law_offset"] := by decide
  have CU := CU.mono (show 1 ≤ 9 by decide)
  have CW := CW.mono (show 4 ≤ 9 by decide)
  have CC := CC.mono (show 1 ≤ 9 by decide)
  have CO := CO.mono (show 2 ≤ 9 by decide)
  have CM := CM.mono (show 1 ≤ 9 by decide)
  have CX := CX.mono (show 1 ≤ 9 by decide)
  have CH := CH.mono (show 7 ≤ 9 by decide)
  have CN := CN.mono (show 2 ≤ 9 by decide)
  have CL := CL.mono (show 1 ≤ 9 by decide)
  refine fn_okF F scLA (fun qs T ⟨_, e, _⟩ => by rw [e]; rfl) (fun cdv A outer s H E qs T hr hS => ?_)
  obtain ⟨ns, rfl, hlen, hbits, rfl⟩ := hS
  have hu : ∀ n, n ≤ 8 → (A.deeper (envOfC "law" (defScope sLA) s.heap.objs.size f cdv)).units + n < cLine := fun n hn => Nat.lt_of_le_of_lt (Nat.add_le_add_left (by omega : n ≤ 64) _) hr.units
  have hu1 := hu 1 (by decide)
  have hu2 := hu 2 (by decide)
  have hu3 := hu 3 (by decide)
  change WS _ _ [.im rScr ns, .no, .no, .no, .no, .no, .no, .no, .no, .no, .no] _ _
  refine ws_seq (w_callPu 1 CU hr (ha_cons (ev_name 0 rfl) ha_nil) ⟨ns, rfl, hlen, hbits, rfl⟩ ?_)
  intro a b st hP
  refine ws_seq (w_callUB 1 CW hr (ha_cons ev_bool ha_nil) rfl rfl ⟨_, false, hP, by decide, rfl, rfl⟩ (bg_name 2) ?_)
  rintro st2 v ⟨hP2, hL⟩
  have hv := hL.g
  have pl := hv.pl
  have rl := hv.rl
  have ml : (manyF v).length = v.1.length := by unfold manyF; rw [manyL_len]; omega
  have ol : (offF v).length = v.2.length := by unfold offF; rw [List.length_map, ups_length]
  refine ws_seq (w_set 3 (ev_call CC hr (ha_cons (ev_name 2 rfl) ha_nil) ⟨v, rfl, rfl⟩) ?_)
  refine ws_seq (w_set 4 (ev_call CO hr (ha_cons (ev_name 2 rfl) ha_nil) ⟨v, rfl, hv, rfl⟩) ?_)
  refine ws_seq (w_set 5 (ev_call CM hr (ha_cons (ev_name 2 rfl) ha_nil) ⟨v, rfl, hv, rfl⟩) ?_)
  refine ws_seq (w_if (tv_cmp (c_neL (r := rInt) eq_int hu1) (EVL.im (evl_call CH hr (ha_cons (ev_name 3 rfl) ha_nil) ⟨v, rfl, hv, rfl⟩)) (ev_name 5 rfl)) (fun h => by simp at h) (fun _ => ws_end ?_))
  refine ws_seq (w_forI (r := rInt) (fun i Γ => ∃ st v6 v7 v8 v9 v10, Γ = [.im rScr ns, .ob (kPu.bx a b st), .im (rPair (rList rInt) (rList rRow)) v, .im (rPair (rList rInt) (rList rRow)) v, .im (rList rInt) (offF v), .im (rList rInt) (manyF v), v6, v7, v8, v9, v10] ∧ PSt (2000 + 10 * (i : Int)) st) (iv_range1 M.range (ev_len M.len (ev_fst (ev_name 2 rfl))) ⟨by omega, by omega⟩) (bg_name 6) ⟨st2, _, _, _, _, _, rfl, hP2.mono (by decide)⟩ ?_ ?_)
  · rintro i p Γ hp ⟨st3, v6, v7, v8, v9, v10, rfl, hP3⟩
    obtain ⟨il, ep⟩ := ups_at hp
    have p0 : 0 ≤ p := by omega
    have p1 : p < (v.1.length : Int) := by omega
    have mb := many_lt hv p0 p1
    have m1 : 1 ≤ (manyF v).getD p.toNat 0 := many_pos hv _ (by omega)
    refine ws_seq (w_setL 7 (r := rList rInt) (evl_lst ea_nil (by decide)) ?_)
    refine ws_one (w_forX (fun zs j Γ => ∃ st seen v8 v9 v10, Γ = [.im rScr ns, .ob (kPu.bx a b st), .im (rPair (rList rInt) (rList rRow)) v, .im (rPair (rList rInt) (rList rRow)) v, .im (rList rInt) (offF v), .im (rList rInt) (manyF v), .im rInt p, .mu (rList rInt) seen, v8, v9, v10] ∧ PSt (2000 + 10 * ((i : Int) + 1)) st ∧ seen.length = j ∧ (∀ c ∈ seen, ∃ k, k < j ∧ zs[k]? = some (offS v c)) ∧ zs.Nodup ∧ zs.length ≤ 16 ∧ ∀ z ∈ zs, 0 ≤ z ∧ z < (manyF v).getD p.toNat 0)
      (ivx_q (evq_callU 1 CN hr (ha_cons (ev_ixL (ev_name 5 rfl) (ev_name 6 rfl) (atI_getD p0 (by omega))) ha_nil) rfl rfl ⟨2000 + 10 * (i : Int), _, hP3, by omega, by omega, rfl, m1, by omega, rfl⟩ (G := fun zs Γ' => ∃ st, Γ' = [.im rScr ns, .ob (kPu.bx a b st), .im (rPair (rList rInt) (rList rRow)) v, .im (rPair (rList rInt) (rList rRow)) v, .im (rList rInt) (offF v), .im (rList rInt) (manyF v), .im rInt p, .mu (rList rInt) [], v8, v9, v10] ∧ PSt (2000 + 10 * ((i : Int) + 1)) st ∧ zs.Nodup ∧ zs.length ≤ 16 ∧ (∀ z ∈ zs, 0 ≤ z ∧ z < (manyF v).getD p.toNat 0)) (fun s' z hz => ⟨s', rfl, hz.1.mono (by omega), hz.2.1, hz.2.2.2, hz.2.2.1⟩)))
      (bg_name 8) ?_ ?_ ?_)
    · rintro zs Γ1 ⟨st4, rfl, hP4, hnd, hzl, hz⟩
      exact ⟨st4, [], _, _, _, rfl, hP4, rfl, fun c hc => (by cases hc), hnd, hzl, hz⟩
    · rintro zs _ j z Γ hz ⟨st4, seen, v8, v9, v10, rfl, hP4, sl, hs, hnd, hzl, hzs⟩
      have jl := (List.getElem?_eq_some_iff.mp hz).1
      obtain ⟨z0, z1⟩ := hzs z (List.mem_of_getElem? hz)
      obtain ⟨xs, hx, rfl⟩ := chain_ex hv _ p z rfl p0 p1 z0 z1
      have hpt := hx.part hv
      have xl : xs.length ≤ 4 := by omega
      have xin : ∀ k ∈ xs, 0 ≤ k ∧ k < (v.2.length : Int) := by
        have := hx.chF []
        rw [List.append_nil] at this
        refine chF_in (p := 0) ?_
        rw [this, chF]; exact decide_eq_true (by omega)
      have hnew : xs ∉ seen := fun hm => by
        obtain ⟨k, hk, e⟩ := hs xs hm
        have kl := (List.getElem?_eq_some_iff.mp e)
        have jl2 := (List.getElem?_eq_some_iff.mp hz)
        exact List.pairwise_iff_getElem.mp hnd k j kl.1 jl2.1 hk (kl.2.trans jl2.2.symm)
      have es : ((xs.filter fun _ => true).map fun k => (offF v).getD k.toNat 0).sum = offS v xs := by unfold offS; rw [List.filter_eq_self.mpr (by simp)]
      have sz : seen.length ≤ 1000000 := by omega
      have szl : seen.length < sizeLine := Nat.lt_of_le_of_lt sz (by decide)
      refine ws_seq (w_setL 9 (r := rInt) (evl_call CF hr (ha_cons (ev_name 3 rfl) (ha_cons (ev_name 6 rfl) (ha_cons (ev_name 8 rfl) ha_nil))) ⟨v, p, xs, rfl, hv, hx, rfl⟩) ?_)
      refine ws_seq (w_if (TV.frz (frzLst2 (i := 7) (j := 9) (by decide) rfl rfl (Nat.le_of_lt szl) (small_le (by omega))) (TW.tv (tw_or (tv_not (tv_bool (ev_isinst M.isinstance M.list PyProof.Rows.boot_list (ev_name 9 rfl) ty_list (b := true)))) fun _ => tw_or (tv_not (tv_bool (ev_all M.all (EVL.im (evl_comp (own := ["_law_k"]) (fr := []) (ix := []) (ra := rInt) (rb := rBool) (p := fun _ => true) (f := fun _ => true) (comp_mk (so := defScope sLA) (N0 := nLA) rfl rfl (fun x h => cell_has h) (by decide +kernel)) (iv_list (ev_name 9 rfl))
        (fun C s H ex => bg_name 0) (fun x => ⟨.inr rfl, trivial⟩) (fun C s H ex x hx => tf_nil) (fun C s H ex x hx _ => ev_call CX hr (ha_cons (ev_name 0 rfl) ha_nil) ⟨x, rfl, rfl⟩)))))) fun _ => tw_or1 (tv_cmp (c_inL (eq_list eq_int) hu2) (ev_name 9 rfl) (ev_name 7 rfl))))) (fun h => ?_) (fun _ => ws_end ?_))
      · rw [decide_eq_false hnew] at h; simp at h
      refine ws_seq (w_if (TV.frz (frzLst (i := 9) rfl (small_le (by omega))) (TW.tv (tw_or (tv_not (tv_bool (ev_call CL hr (ha_cons (ev_name 2 rfl) (ha_cons (ev_name 9 rfl) (ha_cons (ev_name 6 rfl) ha_nil))) ⟨v, xs, p, rfl, hx, rfl⟩))) fun _ => tw_or1 (tv_cmp c_ne (EV.cast (y' := offS v xs) (ev_sum M.sum (EVL.im (evl_comp (own := ["_law_k"]) (fr := ["_law_offset"]) (ix := [4]) (ra := rInt) (rb := rInt) (p := fun _ => true) (f := fun k => (offF v).getD k.toNat 0) (comp_mk (so := defScope sLA) (N0 := nLA) rfl rfl (fun x h => cell_has h) (by decide +kernel)) (iv_list (ev_name 9 rfl))
        (fun C s H ex => bg_name 0) (fun x => ⟨.inr rfl, .inl rfl, trivial⟩) (fun C s H ex x hx => tf_nil) (fun C s H ex x hx h => ev_ixL (ev_name 1 rfl) (ev_name 0 rfl) (by have := xin x hx; exact atI_getD this.1 (by omega)))))) es) (ev_name 8 rfl))))) (fun h => ?_) (fun _ => ws_end ?_))
      · simp at h
      refine ws_seq (w_append 7 (EVL.im (evl_listO 9 M.list rfl (small_le (by omega)))) rfl rfl szl ?_)
      have last : (seen ++ [xs])[(seen ++ [xs]).length - 1]? = some xs := by simp
      have szm : (seen ++ [xs]).length ≤ sizeLine := by rw [List.length_append]; exact szl
      refine ws_seq (w_set 10 (EV.frz (frzLst (i := 9) rfl (small_le (by omega))) flatI (ev_call CK hr (ha_cons (ev_name 3 rfl) (ha_cons (ev_name 9 rfl) ha_nil)) ⟨v, xs, p, rfl, hv, hx, rfl⟩)) ?_)
      refine ws_seq (w_if (TV.frz (frzLst2 (i := 7) (j := 9) (by decide) rfl rfl szm (small_le (by omega))) (TW.tv (tw_or (tv_not (tv_bool (ev_call CX hr (ha_cons (ev_name 10 rfl) ha_nil) ⟨_, rfl, rfl⟩))) fun _ => tw_or (tv_cmp c_ne (ev_name 10 rfl) (ev_name 8 rfl)) fun _ => tw_or (tv_cmp (c_neL (r := rInt) eq_int hu1) (ev_name 9 rfl) (ev_ixL (ev_name 7 rfl) (ev_neg ev_int) (atI_neg1 last))) fun _ => tw_or1 (tv_cmp (c_neP (r := rList rInt) (r' := rList rRow) (eq_list eq_int) (eq_list eq_row) hu2 hu3) (ev_name 3 rfl) (ev_name 2 rfl))))) (fun h => ?_) (fun _ => ws_end ?_))
      · simp at h
      refine ws_seq (w_append 9 ev_int rfl rfl (Nat.lt_of_le_of_lt (show _ ≤ 4 by omega) (by decide)) ?_)
      refine ws_one (w_if (TV.frz (frzLst (i := 7) rfl szm) (TW.tv (tw_and (tv_cmp c_eq (ev_mod (ev_name 8 rfl) ev_int (by decide)) ev_int) fun _ => tw_and1 (tv_cmp (c_neL (r := rInt) eq_int hu1) (EVL.im (evl_call CF hr (ha_cons (ev_name 3 rfl) (ha_cons (ev_name 6 rfl) (ha_cons (ev_name 8 rfl) ha_nil))) ⟨v, p, xs, rfl, hv, hx, rfl⟩)) (ev_ixL (ev_name 7 rfl) (ev_neg ev_int) (atI_neg1 last)))))) (fun h => ?_) (fun _ => ws_end ?_))
      · simp at h
      refine ⟨st4, seen ++ [xs], _, _, _, rfl, hP4, by rw [List.length_append, sl]; rfl, fun c hc => ?_, hnd, hzl, hzs⟩
      rcases List.mem_append.mp hc with q | q
      · obtain ⟨k, hk, e⟩ := hs c q
        exact ⟨k, by omega, e⟩
      · rw [List.mem_singleton.mp q]; exact ⟨j, by omega, hz⟩
    · rintro zs _ Γ ⟨st4, seen, v8, v9, v10, rfl, hP4, _⟩
      exact ⟨st4, _, _, _, _, _, rfl, hP4.mono (by omega)⟩
  · rintro Γ ⟨st3, v6, v7, v8, v9, v10, rfl, hP3⟩
    exact ws_one (w_ret (ev_cmp (c_eqP (r := rList rInt) (r' := rList rRow) (eq_list eq_int) (eq_list eq_row) hu2 hu3) (ev_name 3 rfl) (ev_name 2 rfl)) (by simp))
end
end K1

set_option Elab.async false
set_option linter.all false
set_option maxRecDepth 100000
set_option maxHeartbeats 4000000
namespace K1
open PySem L2 Fc
open PySem.Spec hiding Row
open PyProof.Rows hiding St
open PySem.Builtin.Int (intBits)
structure Top (K : PySem.W.Frag) (mg : Str → Option Value) : Prop where
  M : Mods mg
  IW : Def K mg "is_whole" sIW ["value"]
  AW : Def K mg "are_whole" sAW ["values"]
  RF : Def K mg "has_row_form" sRF ["row"]
  WF : Def K mg "has_web_form" sWF ["web"]
  WZ : Def K mg "has_web_sizes" sWZ ["web"]
  LW : Def K mg "leads_within" sLW ["places", "row"]
  IC : Def K mg "is_called" sIC ["rows", "part"]
  RE : Def K mg "reached" sRE ["leads", "start"]
  LO : Def K mg "lies_on_ways" sLO ["rows", "part", "size"]
  WE : Def K mg "is_web" sWE ["web"]
  NW : Def K mg "need_web" sNW ["web"]
  IP : Def K mg "is_part" sIP ["web", "part"]
  RW : Def K mg "is_row" sRW ["web", "number"]
  CH : Def K mg "chains" sCH ["web"]
  OS : Def K mg "offsets" sOS ["web"]
  XC : Def K mg "is_chain" sXC ["web", "chain"]
  CN : Def K mg "chain_number" sCN ["web", "chain"]
  CF : Def K mg "chain_of" sCF ["web", "part", "number"]
  DR : Def K mg "_law_draw" sDR ["_law_purse_here", "_law_out_of"]
  PU : Def K mg "_law_purse" sPU ["_law_script"]
  OR : Def K mg "_law_order" sOR ["_law_purse_here", "_law_many_here"]
  PT : Def K mg "_law_part" sPT ["_law_purse_here", "_law_many_here", "_law_loose"]
  CL : Def K mg "_law_called" sCL ["_law_purse_here", "_law_rows", "_law_parts"]
  WB : Def K mg "_law_web" sWB ["_law_purse_here", "_law_loose"]
  CP : Def K mg "_law_copy" sCP ["_law_web_here"]
  MN : Def K mg "_law_many" sMN ["_law_web_here"]
  OF : Def K mg "_law_offsets" sOF ["_law_web_here"]
  WH : Def K mg "_law_whole" sWH ["_law_found"]
  LC : Def K mg "_law_is_chain" sLC ["_law_web_here", "_law_chain", "_law_part_here"]
  NM : Def K mg "_law_numbers" sNM ["_law_purse_here", "_law_many_here"]
theorem law_ok {P : Program} {w : World} {K : PySem.W.Frag} {mg : Str → Option Value} {base : Heap} {f : Addr} {fd : FuncData} (T : Top K mg) (F : Fun K "law" "law" sLA f fd) : FnOk P w K mg base CX0 10 f fd ["_law_script"] (spG SLAW K) := by
  have M := T.M
  obtain ⟨_, _, F1, m1, b1⟩ := T.IW
  have IW := ok_IW (P := P) (w := w) (base := base) M F1 m1 b1
  obtain ⟨_, _, F1, m1, b1⟩ := T.AW
  have AW := ok_AW (P := P) (w := w) (base := base) M IW F1 m1 b1
  obtain ⟨_, _, F1, m1, b1⟩ := T.RF
  have RF := ok_RF (P := P) (w := w) (base := base) M AW F1 m1 b1
  obtain ⟨_, _, F1, m1, b1⟩ := T.WF
  have WF := ok_WF (P := P) (w := w) (base := base) M AW RF F1 m1 b1
  obtain ⟨_, _, F1, m1, b1⟩ := T.WZ
  have WZ := ok_WZ (P := P) (w := w) (base := base) M F1 m1 b1
  obtain ⟨_, _, F1, m1, b1⟩ := T.LW
  have LW := ok_LW (P := P) (w := w) (base := base) M F1 m1 b1
  obtain ⟨_, _, F1, m1, b1⟩ := T.IC
  have IC := ok_IC (P := P) (w := w) (base := base) M F1 m1 b1
  obtain ⟨_, _, F1, m1, b1⟩ := T.RE
  have RE := ok_RE (P := P) (w := w) (base := base)  F1 m1 b1
  obtain ⟨_, _, F1, m1, b1⟩ := T.LO
  have LO := ok_LO (P := P) (w := w) (base := base) M RE F1 m1 b1
  obtain ⟨_, _, F1, m1, b1⟩ := T.WE
  have WE := ok_WE (P := P) (w := w) (base := base) M WF WZ LW IC LO F1 m1 b1
  obtain ⟨_, _, F1, m1, b1⟩ := T.NW
  have NW := ok_NW (P := P) (w := w) (base := base) WE F1 m1 b1
  obtain ⟨_, _, F1, m1, b1⟩ := T.IP
  have IP := ok_IPb (P := P) (w := w) (base := base) M IW F1 m1 b1
  obtain ⟨_, _, F1, m1, b1⟩ := T.RW
  have RW := ok_RW (P := P) (w := w) (base := base) M IW F1 m1 b1
  obtain ⟨_, _, F1, m1, b1⟩ := T.CH
  have CH := ok_CH (P := P) (w := w) (base := base) M NW F1 m1 b1
  obtain ⟨_, _, F1, m1, b1⟩ := T.OS
  have OS := ok_OS (P := P) (w := w) (base := base) M CH F1 m1 b1
  obtain ⟨_, _, F1, m1, b1⟩ := T.XC
  have XC := ok_XC (P := P) (w := w) (base := base) M RW F1 m1 b1
  obtain ⟨_, _, F1, m1, b1⟩ := T.CN
  have CN := ok_CN (P := P) (w := w) (base := base) M OS XC F1 m1 b1
  obtain ⟨_, _, F1, m1, b1⟩ := T.CF
  have CF := ok_CF (P := P) (w := w) (base := base) M IW CH OS IP F1 m1 b1
  obtain ⟨_, _, F1, m1, b1⟩ := T.DR
  have DR := ok_DR (P := P) (w := w) (base := base) M F1 m1 b1
  obtain ⟨_, _, F1, m1, b1⟩ := T.PU
  have PU := ok_PU (P := P) (w := w) (base := base)  F1 m1 b1
  obtain ⟨_, _, F1, m1, b1⟩ := T.OR
  have OR := ok_OR (P := P) (w := w) (base := base) M DR F1 m1 b1
  obtain ⟨_, _, F1, m1, b1⟩ := T.PT
  have PT := ok_PT (P := P) (w := w) (base := base) M DR OR F1 m1 b1
  obtain ⟨_, _, F1, m1, b1⟩ := T.CL
  have CL := ok_CL (P := P) (w := w) (base := base) M DR F1 m1 b1
  obtain ⟨_, _, F1, m1, b1⟩ := T.WB
  have WB := ok_WB (P := P) (w := w) (base := base) M DR OR PT CL F1 m1 b1
  obtain ⟨_, _, F1, m1, b1⟩ := T.CP
  have CP := ok_CP (P := P) (w := w) (base := base) M F1 m1 b1
  obtain ⟨_, _, F1, m1, b1⟩ := T.MN
  have MN := ok_MN (P := P) (w := w) (base := base) M F1 m1 b1
  obtain ⟨_, _, F1, m1, b1⟩ := T.OF
  have OF := ok_OF (P := P) (w := w) (base := base) M MN F1 m1 b1
  obtain ⟨_, _, F1, m1, b1⟩ := T.WH
  have WH := ok_WH (P := P) (w := w) (base := base) M F1 m1 b1
  obtain ⟨_, _, F1, m1, b1⟩ := T.LC
  have LC := ok_LC (P := P) (w := w) (base := base) M F1 m1 b1
  obtain ⟨_, _, F1, m1, b1⟩ := T.NM
  have NM := ok_NM (P := P) (w := w) (base := base) M DR F1 m1 b1
  exact ok_LA M PU WB CP OF MN WH CH NM CF CN LC F
theorem mods_mk {h : Heap} {K : PySem.W.Frag} {mg : Str → Option Value} (KX : K.In h) (G : h.Ns mainGlobals mg) {t1 t2 t3 t4 t5 t6 t7 t8 : Tok}
    (a1 : PySem.W.nsIn K mainGlobals "MOST_PARTS" = some (some (.int 4 t1))) (a2 : PySem.W.nsIn K mainGlobals "LEAST_PLACES" = some (some (.int 2 t2))) (a3 : PySem.W.nsIn K mainGlobals "MOST_PLACES" = some (some (.int 16 t3))) (a4 : PySem.W.nsIn K mainGlobals "MOST_ROWS" = some (some (.int 60 t4))) (a5 : PySem.W.nsIn K mainGlobals "FIRST_PART" = some (some (.int 0 t5))) (a6 : PySem.W.nsIn K mainGlobals "BEGIN" = some (some (.int 0 t6))) (a7 : PySem.W.nsIn K mainGlobals "END" = some (some (.int 1 t7))) (a8 : PySem.W.nsIn K mainGlobals "NO_CALL" = some (some (.int (-1) t8)))
    (b1 : PySem.W.nsIn K mainGlobals "len" = some none) (b2 : PySem.W.nsIn K mainGlobals "all" = some none) (b3 : PySem.W.nsIn K mainGlobals "any" = some none) (b4 : PySem.W.nsIn K mainGlobals "range" = some none) (b5 : PySem.W.nsIn K mainGlobals "enumerate" = some none) (b6 : PySem.W.nsIn K mainGlobals "isinstance" = some none) (b7 : PySem.W.nsIn K mainGlobals "int" = some none) (b8 : PySem.W.nsIn K mainGlobals "bool" = some none) (b9 : PySem.W.nsIn K mainGlobals "list" = some none) (b10 : PySem.W.nsIn K mainGlobals "tuple" = some none) (b11 : PySem.W.nsIn K mainGlobals "min" = some none) (b12 : PySem.W.nsIn K mainGlobals "max" = some none) (b13 : PySem.W.nsIn K mainGlobals "sorted" = some none) (b14 : PySem.W.nsIn K mainGlobals "sum" = some none) (b15 : PySem.W.nsIn K mainGlobals "zip" = some none) (b16 : PySem.W.nsIn K mainGlobals "reversed" = some none) (b17 : PySem.W.nsIn K mainGlobals "set" = some none) : Mods mg :=
  ⟨⟨_, PySem.W.mg_of KX G a1⟩, ⟨_, PySem.W.mg_of KX G a2⟩, ⟨_, PySem.W.mg_of KX G a3⟩, ⟨_, PySem.W.mg_of KX G a4⟩, ⟨_, PySem.W.mg_of KX G a5⟩, ⟨_, PySem.W.mg_of KX G a6⟩, ⟨_, PySem.W.mg_of KX G a7⟩, ⟨_, PySem.W.mg_of KX G a8⟩, PySem.W.mg_none_of KX G b1, PySem.W.mg_none_of KX G b2, PySem.W.mg_none_of KX G b3, PySem.W.mg_none_of KX G b4, PySem.W.mg_none_of KX G b5, PySem.W.mg_none_of KX G b6, PySem.W.mg_none_of KX G b7, PySem.W.mg_none_of KX G b8, PySem.W.mg_none_of KX G b9, PySem.W.mg_none_of KX G b10, PySem.W.mg_none_of KX G b11, PySem.W.mg_none_of KX G b12, PySem.W.mg_none_of KX G b13, PySem.W.mg_none_of KX G b14, PySem.W.mg_none_of KX G b15, PySem.W.mg_none_of KX G b16, PySem.W.mg_none_of KX G b17⟩
theorem law_mk {l : PySem.W.OpenLaw} {w : World} {K : PySem.W.Frag} {h : Heap} {mg : Str → Option Value} {fa f : Addr} {oc kV doc pm cdv ct : Value} {od an : Option Addr} {osl : Array (Option Value)} (KX : K.In h) (G : h.Ns mainGlobals mg) (hfa : mg "law" = some (.ref fa)) (T : Top K mg)
    (a : PySem.W.nsIn K mainGlobals "law" = some (some (.ref f))) (lk : K.lookup f = some ⟨oc, od, .func (PySem.W.fnOf "law" "law" (defArgs sLA) (defBody sLA) (defScope sLA) .none kV doc pm an cdv ct), osl⟩) (c : PySem.W.codeIn K cdv "law" = true) (k : PySem.W.keepIn K (.ref f) = true) :
    ∃ fd : FuncData, (∀ (s : Shared) (v : Value), BindsTo s fd ⟨[v], []⟩ [("_law_script", v)]) ∧ ∀ base : Heap, K.In base → base.Ns mainGlobals mg → FnOk l.prog w K mg base CX0 10 fa fd ["_law_script"] (spG SLAW K) := by
  have e := hfa.symm.trans (PySem.W.mg_of KX G a)
  cases e
  exact ⟨PySem.W.fnOf "law" "law" (defArgs sLA) (defBody sLA) (defScope sLA) .none kV doc pm an cdv ct, fun s v => .of_eq rfl, fun base _ _ => law_ok T (fun_mk lk c k)⟩
theorem walk {l : PySem.W.OpenLaw} {q : Program} {loose : List Str} {XP : (Str → Option Value) → Heap → Prop} {YP : World → Heap → Prop} {d : DefRec} {K : Params → PySem.W.Frag} (hn : l.most = some 63) (hdf : d.params.defaults = [])
    (hY : ∀ (w : World) (h : Heap), YP w h → (K w.params).In h)
    (F : ∀ (w : World) (mg : Str → Option Value) (fa : Addr) (h : Heap), (K w.params).In h → h.Ns mainGlobals mg → mg d.name = some (.ref fa) →
      ∃ fd : FuncData, (∀ (s : Shared) (u : Value), BindsTo s fd ⟨[u], []⟩ [("_law_script", u)]) ∧ ∀ base : Heap, (K w.params).In base → base.Ns mainGlobals mg → FnOk l.prog w (K w.params) mg base CX0 10 fa fd ["_law_script"] (spG SLAW (K w.params))) :
    PySem.W.WalkO q loose XP YP l.row.toRowW d [] (fun f vs => PySem.call f vs) :=
  L2.walk_ofB (n := 63) (k := 10) (x := "_law_script") (CX := fun _ => CX0) (sp := fun w => spG SLAW (K w.params)) hn (by decide) hdf ⟨rfl, by decide, by decide⟩ hY F
    (fun w H a ns hl hbits _ hS => ⟨H, [⟨rScr, ns⟩], _, Same.refl _, .cons ⟨a, rfl, hS, hl⟩ .nil, ⟨ns, rfl, hl, hbits, rfl⟩, fun v H' R' _ t => by obtain ⟨y, hy, rfl⟩ := t; exact hy⟩) fun _ _ _ _ _ z => z
end K1

set_option Elab.async false
open PySem PySem.W PyProof.Rows
theorem PySem.W.Fast.tw10083701892281913895 : True := trivial
theorem PySem.W.Fast.tw2579710900826409880 : True := trivial
theorem PySem.W.Fast.tw967063245277877634 : True := trivial
theorem PySem.W.Fast.tw15287140450084258495 : True := trivial
theorem PySem.W.Fast.tw14608048940703263310 : True := trivial
theorem PySem.W.Fast.tw1613872854469808150 : True := trivial
theorem PySem.W.Fast.tw563632867894544266 : True := trivial
theorem PySem.W.Fast.tw7418891743169812735 : True := trivial
theorem PySem.W.Fast.tw16409349880709769922 : True := trivial
theorem PySem.W.Fast.tw3308455820314395003 : True := trivial
theorem PySem.W.Fast.tw12730604303730640934 : True := trivial
theorem PySem.W.Fast.tw7658916813410026055 : True := trivial
theorem PySem.W.Fast.tw17423924322125029971 : True := trivial
theorem PySem.W.Fast.tw6047508831588639633 : True := trivial
theorem PySem.W.Fast.tw10068542329200673298 : True := trivial
theorem PySem.W.Fast.tw7636549277988427601 : True := trivial
theorem PySem.W.Fast.tw6167198150258585428 : True := trivial
theorem PySem.W.Fast.tw3967745875796604818 : True := trivial
theorem PySem.W.Fast.tw15673366930936634803 : True := trivial
theorem PySem.W.Fast.tw10144874657868694449 : True := trivial
theorem PySem.W.Fast.tw13033563269084344177 : True := trivial
theorem PySem.W.Fast.tw1837147868071039432 : True := trivial
theorem PySem.W.Fast.tw7500825125255820457 : True := trivial
theorem PySem.W.Fast.tw6210636341087881536 : True := trivial
theorem PySem.W.Fast.tw10894082325541449955 : True := trivial
theorem PySem.W.Fast.tw10242914362842749618 : True := trivial
theorem PySem.W.Fast.tw5325848327853028675 : True := trivial
theorem PySem.W.Fast.tw11628333829256018461 : True := trivial
theorem PySem.W.Fast.tw10282537036113942706 : True := trivial
theorem PySem.W.Fast.tw14634334940415721932 : True := trivial
theorem PySem.W.Fast.tw11285821814444928649 : True := trivial
theorem PySem.W.Fast.tw11929183197716769823 : True := trivial
theorem PySem.W.Fast.tw2909019897486188439 : True := trivial
theorem PySem.W.Fast.tw17202334951119630704 : True := trivial
theorem PySem.W.Fast.tw63398651583615110 : True := trivial
theorem PySem.W.Fast.tw16001896757874953617 : True := trivial
theorem PySem.W.Fast.tw10580463221344662182 : True := trivial
theorem PySem.W.Fast.tw6283065228583118231 : True := trivial
theorem PySem.W.Fast.tw8262902289676696210 : True := trivial
theorem PySem.W.Fast.tw10151252953983146034 : True := trivial
theorem PySem.W.Fast.tw1749838970751190442 : True := trivial
theorem PySem.W.Fast.tw7981574159280813254 : True := trivial
theorem PySem.W.Fast.tw706714033139522109 : True := trivial
theorem PySem.W.Fast.tw15221416418905144667 : True := trivial
theorem PySem.W.Fast.tw16099526277115139564 : True := trivial
theorem PySem.W.Fast.tw5776270226384310033 : True := trivial
theorem PySem.W.Fast.tw10788701381309188851 : True := trivial
theorem PySem.W.Fast.tw9354294993001030386 : True := trivial
theorem PySem.W.Fast.tw17633636417794721066 : True := trivial
theorem PySem.W.Fast.tw1223079036618216091 : True := trivial
theorem PySem.W.Fast.tw13265182905872870500 : True := trivial
theorem PySem.W.Fast.tw8266702166595700326 : True := trivial
theorem PySem.W.Fast.tw3416892946479892444 : True := trivial
theorem PySem.W.Fast.tw13770450963312749674 : True := trivial
theorem PySem.W.Fast.tw16922255732483873154 : True := trivial
theorem PySem.W.Fast.tw14248469323941869517 : True := trivial
theorem PySem.W.Fast.tw8211904682812839846 : True := trivial
theorem PySem.W.Fast.tw16399514833538723320 : True := trivial
theorem PySem.W.Fast.tw3240014714471652241 : True := trivial
theorem PySem.W.Fast.tw6965783834083043404 : True := trivial
theorem PySem.W.Fast.tw2190593880271895985 : True := trivial
theorem PySem.W.Fast.tw1678947450180329400 : True := trivial
theorem PySem.W.Fast.tw15245590178692091467 : True := trivial
theorem PySem.W.Fast.tw10967603716671975747 : True := trivial
theorem PySem.W.Fast.tw5304347991504571962 : True := trivial
theorem PySem.W.Fast.tw8483634327918764940 : True := trivial
theorem PySem.W.Fast.tw1833020305705238453 : True := trivial
theorem PySem.W.Fast.tw4343780500195173646 : True := trivial
theorem PySem.W.Fast.tw17410356430753938936 : True := trivial
theorem PySem.W.Fast.tw16805621190523543252 : True := trivial
theorem PySem.W.Fast.tw845813319194944100 : True := trivial
theorem PySem.W.Fast.tw11168593324722373318 : True := trivial
theorem PySem.W.Fast.tw7506982906977290010 : True := trivial
theorem PySem.W.Fast.tw3763089336796991036 : True := trivial
theorem PySem.W.Fast.tw4054975209967563679 : True := trivial
theorem PySem.W.Fast.tw9284135708225353641 : True := trivial
theorem PySem.W.Fast.tw10956237000040757485 : True := trivial
theorem PySem.W.Fast.tw10859654557371508136 : True := trivial
theorem PySem.W.Fast.tw1107440927106325834 : True := trivial
theorem PySem.W.Fast.tw4487918222759261915 : True := trivial
theorem PySem.W.Fast.tw7550310959113554209 : True := trivial
theorem PySem.W.Fast.tw6924517845106930986 : True := trivial
theorem PySem.W.Fast.tw17165314264178091771 : True := trivial
theorem PySem.W.Fast.tw2519143873654556863 : True := trivial
theorem PySem.W.Fast.tw17523798814714803129 : True := trivial
theorem PySem.W.Fast.tw11965546785060008906 : True := trivial
theorem PySem.W.Fast.tw13245252206406848788 : True := trivial
theorem PySem.W.Fast.tw1920360209261704908 : True := trivial
theorem PySem.W.Fast.tw14062384891856066387 : True := trivial
theorem PySem.W.Fast.tw3062204216245766990 : True := trivial
theorem PySem.W.Fast.tw17778464355440898530 : True := trivial
theorem PySem.W.Fast.tw18435925980486913555 : True := trivial
theorem PySem.W.Fast.tw15039830685216610172 : True := trivial
theorem PySem.W.Fast.tw958567563358107958 : True := trivial
theorem PySem.W.Fast.tw9098798477149817359 : True := trivial
theorem PySem.W.Fast.tw7512025537219888745 : True := trivial
theorem PySem.W.Fast.tw972848955641105894 : True := trivial
theorem PySem.W.Fast.tw3642653645483342949 : True := trivial
theorem PySem.W.Fast.tw18369067856324469815 : True := trivial
theorem PySem.W.Fast.tw5605435350692864540 : True := trivial
theorem PySem.W.Fast.tw5562693368628189463 : True := trivial
theorem PySem.W.Fast.tw17842742964916596208 : True := trivial
theorem PySem.W.Fast.tw1674916554856358987 : True := trivial
theorem PySem.W.Fast.tw10067471419350333109 : True := trivial
theorem PySem.W.Fast.tw6425041145448715202 : True := trivial
theorem PySem.W.Fast.tw15743685744282640583 : True := trivial
theorem PySem.W.Fast.tw15053445565325765591 : True := trivial
theorem PySem.W.Fast.tw13155226669912976672 : True := trivial
theorem PySem.W.Fast.tw4751659167482675299 : True := trivial
theorem PySem.W.Fast.tw8488142601943402266 : True := trivial
theorem PySem.W.Fast.tw6899651504121714777 : True := trivial
theorem PySem.W.Fast.tw13378136254325149032 : True := trivial
theorem PySem.W.Fast.tw2024631806213929757 : True := trivial
theorem PySem.W.Fast.tw13666871025933409247 : True := trivial
theorem PySem.W.Fast.tw10357701254141598820 : True := trivial
theorem PySem.W.Fast.tw18104927898159114691 : True := trivial
theorem PySem.W.Fast.tw15490895992634048325 : True := trivial
theorem PySem.W.Fast.tw16213016929302925207 : True := trivial
theorem PySem.W.Fast.tw1539142083980423183 : True := trivial
theorem PySem.W.Fast.tw6891406914431302850 : True := trivial
theorem PySem.W.Fast.tw14200956807440593098 : True := trivial
theorem PySem.W.Fast.tw7688116687163074181 : True := trivial
theorem PySem.W.Fast.tw3890647171981656848 : True := trivial
theorem PySem.W.Fast.tw12244029752918347344 : True := trivial
theorem PySem.W.Fast.tw18225337408078756956 : True := trivial
theorem PySem.W.Fast.tw18338655930490349190 : True := trivial
theorem PySem.W.Fast.tw15067001063914225856 : True := trivial
theorem PySem.W.Fast.tw4470151291371923961 : True := trivial
theorem PySem.W.Fast.tw17711704585600470660 : True := trivial
theorem PySem.W.Fast.tw7920244518466260534 : True := trivial
theorem PySem.W.Fast.tw7429644511874615856 : True := trivial
theorem PySem.W.Fast.tw5214584010928381488 : True := trivial
theorem PySem.W.Fast.tw8756610240327088730 : True := trivial
theorem PySem.W.Fast.tw14472039245058093472 : True := trivial
theorem PySem.W.Fast.tw10516034701563735287 : True := trivial
set_option maxRecDepth 100000 in
set_option maxHeartbeats 0 in
theorem PySem.Challenge.cw_fewcounters_k57_whole_chains_and_their_n_holds : PySem.Challenge.rw_fewcounters_k57_whole_chains_and_their_n.Holds := by
  w_on; o_law; k_head; (case hw => w_witness2)
  k_fill
  refine K1.walk (l := PySem.Challenge.rw_fewcounters_k57_whole_chains_and_their_n) rfl rfl (fun w h Y => PySem.W.kIn_of Y) ?F
  case F =>
    intro w mg fa h KX G hmg
    have M : K1.Mods mg := by
      refine' K1.mods_mk KX G ?a1 ?a2 ?a3 ?a4 ?a5 ?a6 ?a7 ?a8 ?b1 ?b2 ?b3 ?b4 ?b5 ?b6 ?b7 ?b8 ?b9 ?b10 ?b11 ?b12 ?b13 ?b14 ?b15 ?b16 ?b17
      (case a1 => k_is); (case a2 => k_is); (case a3 => k_is); (case a4 => k_is); (case a5 => k_is); (case a6 => k_is); (case a7 => k_is); (case a8 => k_is); (case b1 => k_is); (case b2 => k_is); (case b3 => k_is); (case b4 => k_is); (case b5 => k_is); (case b6 => k_is); (case b7 => k_is); (case b8 => k_is); (case b9 => k_is); (case b10 => k_is); (case b11 => k_is); (case b12 => k_is); (case b13 => k_is); (case b14 => k_is); (case b15 => k_is); (case b16 => k_is); (case b17 => k_is)
    have DIW : Fc.Def (L2.KOf KX) mg "is_whole" K1.sIW ["value"] := by
      dsimp only [L2.KOf]
      refine' Fc.def_mk KX G ?a ?l ?c ?k ?b
      (case a => k_is); (case l => k_is); (case c => k_is); (case k => k_is); (case b => exact fun _ _ _ _ _ _ us hl => match us, hl with | [_], _ => rfl)
    have DAW : Fc.Def (L2.KOf KX) mg "are_whole" K1.sAW ["values"] := by
      dsimp only [L2.KOf]
      refine' Fc.def_mk KX G ?a ?l ?c ?k ?b
      (case a => k_is); (case l => k_is); (case c => k_is); (case k => k_is); (case b => exact fun _ _ _ _ _ _ us hl => match us, hl with | [_], _ => rfl)
    have DRF : Fc.Def (L2.KOf KX) mg "has_row_form" K1.sRF ["row"] := by
      dsimp only [L2.KOf]
      refine' Fc.def_mk KX G ?a ?l ?c ?k ?b
      (case a => k_is); (case l => k_is); (case c => k_is); (case k => k_is); (case b => exact fun _ _ _ _ _ _ us hl => match us, hl with | [_], _ => rfl)
    have DWF : Fc.Def (L2.KOf KX) mg "has_web_form" K1.sWF ["web"] := by
      dsimp only [L2.KOf]
      refine' Fc.def_mk KX G ?a ?l ?c ?k ?b
      (case a => k_is); (case l => k_is); (case c => k_is); (case k => k_is); (case b => exact fun _ _ _ _ _ _ us hl => match us, hl with | [_], _ => rfl)
    have DWZ : Fc.Def (L2.KOf KX) mg "has_web_sizes" K1.sWZ ["web"] := by
      dsimp only [L2.KOf]
      refine' Fc.def_mk KX G ?a ?l ?c ?k ?b
      (case a => k_is); (case l => k_is); (case c => k_is); (case k => k_is); (case b => exact fun _ _ _ _ _ _ us hl => match us, hl with | [_], _ => rfl)
    have DLW : Fc.Def (L2.KOf KX) mg "leads_within" K1.sLW ["places", "row"] := by
      dsimp only [L2.KOf]
      refine' Fc.def_mk KX G ?a ?l ?c ?k ?b
      (case a => k_is); (case l => k_is); (case c => k_is); (case k => k_is); (case b => exact fun _ _ _ _ _ _ us hl => match us, hl with | [_, _], _ => rfl)
    have DIC : Fc.Def (L2.KOf KX) mg "is_called" K1.sIC ["rows", "part"] := by
      dsimp only [L2.KOf]
      refine' Fc.def_mk KX G ?a ?l ?c ?k ?b
      (case a => k_is); (case l => k_is); (case c => k_is); (case k => k_is); (case b => exact fun _ _ _ _ _ _ us hl => match us, hl with | [_, _], _ => rfl)
    have DRE : Fc.Def (L2.KOf KX) mg "reached" K1.sRE ["leads", "start"] := by
      dsimp only [L2.KOf]
      refine' Fc.def_mk KX G ?a ?l ?c ?k ?b
      (case a => k_is); (case l => k_is); (case c => k_is); (case k => k_is); (case b => exact fun _ _ _ _ _ _ us hl => match us, hl with | [_, _], _ => rfl)
    have DLO : Fc.Def (L2.KOf KX) mg "lies_on_ways" K1.sLO ["rows", "part", "size"] := by
      dsimp only [L2.KOf]
      refine' Fc.def_mk KX G ?a ?l ?c ?k ?b
      (case a => k_is); (case l => k_is); (case c => k_is); (case k => k_is); (case b => exact fun _ _ _ _ _ _ us hl => match us, hl with | [_, _, _], _ => rfl)
    have DWE : Fc.Def (L2.KOf KX) mg "is_web" K1.sWE ["web"] := by
      dsimp only [L2.KOf]
      refine' Fc.def_mk KX G ?a ?l ?c ?k ?b
      (case a => k_is); (case l => k_is); (case c => k_is); (case k => k_is); (case b => exact fun _ _ _ _ _ _ us hl => match us, hl with | [_], _ => rfl)
    have DNW : Fc.Def (L2.KOf KX) mg "need_web" K1.sNW ["web"] := by
      dsimp only [L2.KOf]
      refine' Fc.def_mk KX G ?a ?l ?c ?k ?b
      (case a => k_is); (case l => k_is); (case c => k_is); (case k => k_is); (case b => exact fun _ _ _ _ _ _ us hl => match us, hl with | [_], _ => rfl)
    have DIP : Fc.Def (L2.KOf KX) mg "is_part" K1.sIP ["web", "part"] := by
      dsimp only [L2.KOf]
      refine' Fc.def_mk KX G ?a ?l ?c ?k ?b
      (case a => k_is); (case l => k_is); (case c => k_is); (case k => k_is); (case b => exact fun _ _ _ _ _ _ us hl => match us, hl with | [_, _], _ => rfl)
    have DRW : Fc.Def (L2.KOf KX) mg "is_row" K1.sRW ["web", "number"] := by
      dsimp only [L2.KOf]
      refine' Fc.def_mk KX G ?a ?l ?c ?k ?b
      (case a => k_is); (case l => k_is); (case c => k_is); (case k => k_is); (case b => exact fun _ _ _ _ _ _ us hl => match us, hl with | [_, _], _ => rfl)
    have DCH : Fc.Def (L2.KOf KX) mg "chains" K1.sCH ["web"] := by
      dsimp only [L2.KOf]
      refine' Fc.def_mk KX G ?a ?l ?c ?k ?b
      (case a => k_is); (case l => k_is); (case c => k_is); (case k => k_is); (case b => exact fun _ _ _ _ _ _ us hl => match us, hl with | [_], _ => rfl)
    have DOS : Fc.Def (L2.KOf KX) mg "offsets" K1.sOS ["web"] := by
      dsimp only [L2.KOf]
      refine' Fc.def_mk KX G ?a ?l ?c ?k ?b
      (case a => k_is); (case l => k_is); (case c => k_is); (case k => k_is); (case b => exact fun _ _ _ _ _ _ us hl => match us, hl with | [_], _ => rfl)
    have DXC : Fc.Def (L2.KOf KX) mg "is_chain" K1.sXC ["web", "chain"] := by
      dsimp only [L2.KOf]
      refine' Fc.def_mk KX G ?a ?l ?c ?k ?b
      (case a => k_is); (case l => k_is); (case c => k_is); (case k => k_is); (case b => exact fun _ _ _ _ _ _ us hl => match us, hl with | [_, _], _ => rfl)
    have DCN : Fc.Def (L2.KOf KX) mg "chain_number" K1.sCN ["web", "chain"] := by
      dsimp only [L2.KOf]
      refine' Fc.def_mk KX G ?a ?l ?c ?k ?b
      (case a => k_is); (case l => k_is); (case c => k_is); (case k => k_is); (case b => exact fun _ _ _ _ _ _ us hl => match us, hl with | [_, _], _ => rfl)
    have DCF : Fc.Def (L2.KOf KX) mg "chain_of" K1.sCF ["web", "part", "number"] := by
      dsimp only [L2.KOf]
      refine' Fc.def_mk KX G ?a ?l ?c ?k ?b
      (case a => k_is); (case l => k_is); (case c => k_is); (case k => k_is); (case b => exact fun _ _ _ _ _ _ us hl => match us, hl with | [_, _, _], _ => rfl)
    have DDR : Fc.Def (L2.KOf KX) mg "_law_draw" K1.sDR ["_law_purse_here", "_law_out_of"] := by
      dsimp only [L2.KOf]
      refine' Fc.def_mk KX G ?a ?l ?c ?k ?b
      (case a => k_is); (case l => k_is); (case c => k_is); (case k => k_is); (case b => exact fun _ _ _ _ _ _ us hl => match us, hl with | [_, _], _ => rfl)
    have DPU : Fc.Def (L2.KOf KX) mg "_law_purse" K1.sPU ["_law_script"] := by
      dsimp only [L2.KOf]
      refine' Fc.def_mk KX G ?a ?l ?c ?k ?b
      (case a => k_is); (case l => k_is); (case c => k_is); (case k => k_is); (case b => exact fun _ _ _ _ _ _ us hl => match us, hl with | [_], _ => rfl)
    have DOR : Fc.Def (L2.KOf KX) mg "_law_order" K1.sOR ["_law_purse_here", "_law_many_here"] := by
      dsimp only [L2.KOf]
      refine' Fc.def_mk KX G ?a ?l ?c ?k ?b
      (case a => k_is); (case l => k_is); (case c => k_is); (case k => k_is); (case b => exact fun _ _ _ _ _ _ us hl => match us, hl with | [_, _], _ => rfl)
    have DPT : Fc.Def (L2.KOf KX) mg "_law_part" K1.sPT ["_law_purse_here", "_law_many_here", "_law_loose"] := by
      dsimp only [L2.KOf]
      refine' Fc.def_mk KX G ?a ?l ?c ?k ?b
      (case a => k_is); (case l => k_is); (case c => k_is); (case k => k_is); (case b => exact fun _ _ _ _ _ _ us hl => match us, hl with | [_, _, _], _ => rfl)
    have DCL : Fc.Def (L2.KOf KX) mg "_law_called" K1.sCL ["_law_purse_here", "_law_rows", "_law_parts"] := by
      dsimp only [L2.KOf]
      refine' Fc.def_mk KX G ?a ?l ?c ?k ?b
      (case a => k_is); (case l => k_is); (case c => k_is); (case k => k_is); (case b => exact fun _ _ _ _ _ _ us hl => match us, hl with | [_, _, _], _ => rfl)
    have DWB : Fc.Def (L2.KOf KX) mg "_law_web" K1.sWB ["_law_purse_here", "_law_loose"] := by
      dsimp only [L2.KOf]
      refine' Fc.def_mk KX G ?a ?l ?c ?k ?b
      (case a => k_is); (case l => k_is); (case c => k_is); (case k => k_is); (case b => exact fun _ _ _ _ _ _ us hl => match us, hl with | [_, _], _ => rfl)
    have DCP : Fc.Def (L2.KOf KX) mg "_law_copy" K1.sCP ["_law_web_here"] := by
      dsimp only [L2.KOf]
      refine' Fc.def_mk KX G ?a ?l ?c ?k ?b
      (case a => k_is); (case l => k_is); (case c => k_is); (case k => k_is); (case b => exact fun _ _ _ _ _ _ us hl => match us, hl with | [_], _ => rfl)
    have DMN : Fc.Def (L2.KOf KX) mg "_law_many" K1.sMN ["_law_web_here"] := by
      dsimp only [L2.KOf]
      refine' Fc.def_mk KX G ?a ?l ?c ?k ?b
      (case a => k_is); (case l => k_is); (case c => k_is); (case k => k_is); (case b => exact fun _ _ _ _ _ _ us hl => match us, hl with | [_], _ => rfl)
    have DOF : Fc.Def (L2.KOf KX) mg "_law_offsets" K1.sOF ["_law_web_here"] := by
      dsimp only [L2.KOf]
      refine' Fc.def_mk KX G ?a ?l ?c ?k ?b
      (case a => k_is); (case l => k_is); (case c => k_is); (case k => k_is); (case b => exact fun _ _ _ _ _ _ us hl => match us, hl with | [_], _ => rfl)
    have DWH : Fc.Def (L2.KOf KX) mg "_law_whole" K1.sWH ["_law_found"] := by
      dsimp only [L2.KOf]
      refine' Fc.def_mk KX G ?a ?l ?c ?k ?b
      (case a => k_is); (case l => k_is); (case c => k_is); (case k => k_is); (case b => exact fun _ _ _ _ _ _ us hl => match us, hl with | [_], _ => rfl)
    have DLC : Fc.Def (L2.KOf KX) mg "_law_is_chain" K1.sLC ["_law_web_here", "_law_chain", "_law_part_here"] := by
      dsimp only [L2.KOf]
      refine' Fc.def_mk KX G ?a ?l ?c ?k ?b
      (case a => k_is); (case l => k_is); (case c => k_is); (case k => k_is); (case b => exact fun _ _ _ _ _ _ us hl => match us, hl with | [_, _, _], _ => rfl)
    have DNM : Fc.Def (L2.KOf KX) mg "_law_numbers" K1.sNM ["_law_purse_here", "_law_many_here"] := by
      dsimp only [L2.KOf]
      refine' Fc.def_mk KX G ?a ?l ?c ?k ?b
      (case a => k_is); (case l => k_is); (case c => k_is); (case k => k_is); (case b => exact fun _ _ _ _ _ _ us hl => match us, hl with | [_, _], _ => rfl)
    refine' K1.law_mk KX G hmg ⟨M, DIW, DAW, DRF, DWF, DWZ, DLW, DIC, DRE, DLO, DWE, DNW, DIP, DRW, DCH, DOS, DXC, DCN, DCF, DDR, DPU, DOR, DPT, DCL, DWB, DCP, DMN, DOF, DWH, DLC, DNM⟩ ?a ?l ?c ?k
    (case a => k_is); (case l => k_is); (case c => k_is); (case k => k_is)

