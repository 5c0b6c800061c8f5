import PyProof.Rows.All
import Wide.All
import OpenK.AllK
import Wide.FinOn
import Lean
import PyProof.EqAt
import PyProof.EqKinds
import PyProof.TupleCall
import PyProof.SetKind
import PyProof.CollectWalk
import PyProof.FactsAll.set
import PyProof.ForAny
import PyProof.MeetsSeq2
import PyProof.DictKinds
import PyProof.WalksMore
import PyProof.DictIter
import PyProof.Walk
import PyProof.WalkLemmas
import PyProof.Rows.SortWalk
import PyProof.Rows.SetFrom
import PyProof.Rows.SortStrRead
import KE.KWords
import PyProof.NeKinds
import KE.KDictList
import KE.LcSums
import KE.KDictSum
import PySem.Challenge.RW_wordfinder_k05_whole_index
set_option Elab.async false
set_option linter.all false
set_option maxRecDepth 100000
namespace L2
open PySem PySem.Spec PyProof.Rows

/-- a key: an int or a str -/
abbrev Key := Sum Int Str
def keyIs : Key → Value → Bool
  | .inl k, v => Value.isInt k v
  | .inr x, v => Value.isStrOf x v
def keyH (w : World) : Key → Int
  | .inl k => hashInt k
  | .inr x => hashStr w x
theorem keyIs_shape : ∀ {k : Key} {v : Value}, keyIs k v = true → (∃ i t, k = Sum.inl i ∧ v = Value.int i t) ∨ (∃ x t, k = Sum.inr x ∧ v = Value.str x t)
  | .inl i, v, h => by
    obtain ⟨t, e⟩ := Value.isInt_shape (k := i) (v := v) h
    exact .inl ⟨i, t, rfl, e⟩
  | .inr x, v, h => by
    obtain ⟨t, e⟩ := Value.isStrOf_shape (x := x) (v := v) h
    exact .inr ⟨x, t, rfl, e⟩
theorem keyIs_int (i : Int) (t : Tok) : keyIs (.inl i) (.int i t) = true := by simp [keyIs, Value.isInt]
theorem keyIs_str (x : Str) (t : Tok) : keyIs (.inr x) (.str x t) = true := by simp [keyIs, Value.isStrOf]
theorem key_ll (a b : Int) : decide ((Sum.inl a : Key) = Sum.inl b) = (a == b) := by
  by_cases e : a = b
  · subst e; simp
  · have h : ¬ (Sum.inl a : Key) = Sum.inl b := fun q => e (Sum.inl.inj q)
    rw [decide_eq_false h]
    exact (beq_eq_false_iff_ne.mpr e).symm
theorem key_rr (a b : Str) : decide ((Sum.inr a : Key) = Sum.inr b) = decide (a = b) := by
  by_cases e : a = b
  · subst e; simp
  · have h : ¬ (Sum.inr a : Key) = Sum.inr b := fun q => e (Sum.inr.inj q)
    rw [decide_eq_false h, decide_eq_false e]
theorem key_lr (a : Int) (b : Str) : decide ((Sum.inl a : Key) = Sum.inr b) = false := decide_eq_false (fun q => nomatch q)
theorem key_rl (a : Str) (b : Int) : decide ((Sum.inr a : Key) = Sum.inl b) = false := decide_eq_false (fun q => nomatch q)

def mixKind (prog : Program) (w : World) : PySem.KeyKind prog w Key where
  is := keyIs
  hash := keyH w
  inj := fun v a b ha hb => by
    rcases keyIs_shape ha with ⟨i, t, rfl, rfl⟩ | ⟨x, t, rfl, rfl⟩
    · rcases keyIs_shape hb with ⟨j, u, rfl, e⟩ | ⟨y, u, rfl, e⟩
      · injection e with e1 _; rw [e1]
      · exact nomatch e
    · rcases keyIs_shape hb with ⟨j, u, rfl, e⟩ | ⟨y, u, rfl, e⟩
      · exact nomatch e
      · injection e with e1 _; rw [e1]
  byValue := fun k v h => by
    rcases keyIs_shape h with ⟨i, t, rfl, rfl⟩ | ⟨x, t, rfl, rfl⟩ <;> rfl
  pyHash := fun hv h => by
    rcases keyIs_shape hv with ⟨i, t, rfl, rfl⟩ | ⟨x, t, rfl, rfl⟩
    · exact wpAny_pyHash_int h
    · exact wpAny_pyHash_str h
  eqBool := fun hu hv h => by
    rcases keyIs_shape hu with ⟨i, t, rfl, rfl⟩ | ⟨x, t, rfl, rfl⟩
    · rcases keyIs_shape hv with ⟨j, u, rfl, rfl⟩ | ⟨y, u, rfl, rfl⟩
      · rw [key_ll] at h; exact wpAny_eqBool_int h
      · rw [key_lr] at h; exact SeqAt.EqAt.int_str i t y u _ _ _ _ h
    · rcases keyIs_shape hv with ⟨j, u, rfl, rfl⟩ | ⟨y, u, rfl, rfl⟩
      · rw [key_rl] at h; exact SeqAt.EqAt.str_int x t j u _ _ _ _ h
      · rw [key_rr] at h; exact wpAny_eqBool_str h
  «strs» := fun k x t v h => by
    rcases keyIs_shape h with ⟨i, u, rfl, e⟩ | ⟨y, u, rfl, e⟩
    · exact nomatch e
    · injection e with e1 _
      subst e1
      cases v <;> rfl

theorem mixKind_int (prog : Program) (w : World) (i : Int) (t : Tok) : (mixKind prog w).is (.inl i) (.int i t) = true := keyIs_int i t
theorem mixKind_str (prog : Program) (w : World) (x : Str) (t : Tok) : (mixKind prog w).is (.inr x) (.str x t) = true := keyIs_str x t
end L2

namespace L2
open PySem PySem.Spec PyProof.Rows

/-- a value, without the heap -/
inductive V where
  | non | bl (b : Bool) | int (i : Int) | str (x : Str) | byt (b : Array UInt8) | flt (b : UInt64) | ref (a : Addr) | ty (n : String)
  deriving DecidableEq

def RelV : V → Value → Prop
  | .non, u => u = Value.none
  | .bl b, u => u = Value.bool b
  | .int i, u => ∃ t, u = Value.int i t
  | .str x, u => ∃ t, u = Value.str x t
  | .byt b, u => ∃ t, u = Value.bytes b t
  | .flt b, u => ∃ t, u = Value.float b t
  | .ref a, u => u = Value.ref a
  | .ty n, u => u = Value.type n

abbrev Vals : List V → List Value → Prop := Paired RelV
theorem Vals.length {xs : List V} {us : List Value} (r : Vals xs us) : xs.length = us.length := Paired.length r
theorem Vals.get : ∀ {xs : List V} {us : List Value} {i : Nat} {x : V}, Vals xs us → xs[i]? = some x → ∃ u, us[i]? = some u ∧ RelV x u
  | _, _, _, _, .nil, e => by simp at e
  | _, _, 0, _, .cons r _, e => by simp at e; subst e; exact ⟨_, rfl, r⟩
  | _, _, i + 1, x, .cons _ t, e => by
    obtain ⟨u, h1, h2⟩ := Vals.get (i := i) (x := x) t (by simpa using e)
    exact ⟨u, by simpa using h1, h2⟩
theorem Vals.append : ∀ {xs ys : List V} {us ws : List Value}, Vals xs us → Vals ys ws → Vals (xs ++ ys) (us ++ ws)
  | _, _, _, _, .nil, s => s
  | _, _, _, _, .cons r t, s => .cons r (Vals.append t s)
theorem Vals.take : ∀ {xs : List V} {us : List Value} (n : Nat), Vals xs us → Vals (xs.take n) (us.take n)
  | _, _, 0, _ => .nil
  | _, _, _ + 1, .nil => .nil
  | _, _, n + 1, .cons r t => .cons r (Vals.take n t)
theorem Vals.drop : ∀ {xs : List V} {us : List Value} (n : Nat), Vals xs us → Vals (xs.drop n) (us.drop n)
  | _, _, 0, r => r
  | _, _, _ + 1, .nil => .nil
  | _, _, n + 1, .cons _ t => Vals.drop n t
def RelO : Option V → Option Value → Prop
  | some v, some u => RelV v u
  | none, none => True
  | _, _ => False
def KV {κ : Type} : List (κ × V) → List (κ × Value) → Prop := Paired fun (p : κ × V) (q : κ × Value) => p.1 = q.1 ∧ RelV p.2 q.2

/-- a key of a dict (00_mix): an int or a text -/
def kV : Key → V
  | .inl i => .int i
  | .inr x => .str x

/-- what stands at a tracked address -/
inductive HO where
  /-- a list -/
  | lst (xs : List V)
  /-- a tuple (never changes) -/
  | tup (xs : List V)
  /-- a dict whose keys are ints and texts; one whose keys are tuples of ints and texts (the empty one is both) -/
  | dK (kvs : List (Key × V)) | dT (kvs : List (List Key × V))
  /-- a set of ints: its members, its size -/
  | set (S : Int → Bool) (n : Nat)
  /-- an instance of the class at C, its dict at dx, its attributes -/
  | ins (C dx : Addr) (fs : List (Str × V))
  /-- the dict of the instance at x -/
  | own (x : Addr)
  /-- the dict of an exception -/
  | xd (fs : List (Str × V))
  /-- a bound method, f of x -/
  | met (f x : Addr)
  /-- a range object lo, lo + 1, .. below hi -/
  | rng (lo hi : Int)
  /-- a thing that is known to the object (the script; a dict while a loop walks it): read, never written while it is so -/
  | frz (o : Obj) (u : HO)
  /-- a code object's table -/
  | tbl (ps : Array Value)
  /-- any other thing, by what is true of its one object (a def of one's own: SetO a S n := HO.ext fun h => ..) -/
  | ext (φ : Heap → Prop)

abbrev Hp := Addr → Option HO
def upd (H : Hp) (a : Addr) (o : HO) : Hp := fun b => if b = a then some o else H b
theorem upd_same {H : Hp} {a : Addr} {o : HO} : upd H a o a = some o := by unfold upd; rw [if_pos rfl]
theorem upd_ne {H : Hp} {a b : Addr} {o : HO} (h : b ≠ a) : upd H a o b = H b := by unfold upd; rw [if_neg h]
/-- two objects of different content stand apart -/
theorem ne_of {H : Hp} {a b : Addr} {o u : HO} (h : H a = some o) (h' : H b = some u) (d : o ≠ u) : a ≠ b := by
  intro e; subst e; rw [h] at h'; exact d (Option.some.inj h')
theorem ne_of_none {H : Hp} {a b : Addr} {o : HO} (h : H a = some o) (h' : H b = none) : a ≠ b := by
  intro e; subst e; rw [h] at h'; cases h'

section
variable (P : Program) (w : World)
def ObjOk (H : Hp) (h : Heap) (a : Addr) : HO → Prop
  | .lst xs => xs.length ≤ sizeLine ∧ ∃ (its : List Value) (n : Nat), Vals xs its ∧ h.get? a = some { cls := .type "list", data := .seq its.toArray n }
  | .tup xs => xs.length ≤ sizeLine ∧ ∃ its : List Value, Vals xs its ∧ IsTup h a its.toArray
  | .dK kvs => kvs.length ≤ sizeLine ∧ (a == sysModules) = false ∧ ∃ vs, KV kvs vs ∧ h.DictOf (mixKind P w) a vs
  | .dT kvs => kvs.length ≤ sizeLine ∧ (a == sysModules) = false ∧ ∃ xs : List (List Key × Addr × Value),
      Paired (fun (p : List Key × V) (q : List Key × Addr × Value) => p.1 = q.1 ∧ H q.2.1 = some (.tup (p.1.map kV)) ∧ RelV p.2 q.2.2) kvs xs ∧
      ∃ o es ep, h.get? a = some o ∧ o.ExactDict ∧ o.data = .dict es ep ∧ es.toList = xs.map (entryOfKey (tupleKind (mixKind P w))) ∧ (xs.map (·.1)).Nodup
  | .set S n => h.SetOf (intKind P w) a S n
  | .ins C dx fs => H dx = some (.own a) ∧ fs.length ≤ 1000 ∧ dx ≠ a ∧ h.get? a = some (PySem.W.instObj C dx) ∧
      ∃ mA, h.Ns1 dx mA ∧ (∀ f, RelO (fs.lookup f) (mA f)) ∧ PySem.Within mA (fs.map (·.1))
  | .own _ => ∃ o, h.get? a = some o
  | .xd fs => ∃ mA, h.Ns1 a mA ∧ ∀ f, RelO (fs.lookup f) (mA f)
  | .rng lo hi => ∃ t u v, h.get? a = some { cls := .type "range", data := .fields #[.int lo t, .int hi u, .int 1 v] }
  | .frz o u => h.get? a = some o ∧ ObjOk H h a u
  | .tbl ps => h.get? a = some { cls := .none, data := .fields ps }
  | .met f x => h.get? a = some (PySem.W.methodObj (.ref f) (.ref x))
  | .ext φ => φ h ∧ (∃ o, h.get? a = some o) ∧ ∀ h1 h2 : Heap, φ h1 → (∀ o, h1.get? a = some o → h2.get? a = some o) → φ h2
/-- the abstract heap is held -/
def HOk (H : Hp) (h : Heap) : Prop := ∀ a o, H a = some o → ObjOk P w H h a o
end

section
variable {P : Program} {w : World} {H H' : Hp} {h h' : Heap} {a : Addr} {o : HO}
theorem ObjOk.lt (x : ObjOk P w H h a o) : a < h.objs.size := by
  cases o with
  | lst xs => obtain ⟨_, _, _, _, e⟩ := x; exact Heap.lt_size e
  | tup xs => obtain ⟨_, _, _, p⟩ := x; exact p.lt
  | dK kvs => obtain ⟨_, _, _, _, o, _, _, e, _⟩ := x; exact Heap.lt_size e
  | dT kvs => obtain ⟨_, _, _, _, o, _, _, e, _⟩ := x; exact Heap.lt_size e
  | set S n => obtain ⟨o, _, _, _, e, _⟩ := x; exact Heap.lt_size e
  | ins C dx fs => obtain ⟨_, _, _, e, _⟩ := x; exact Heap.lt_size e
  | own y => obtain ⟨_, e⟩ := x; exact Heap.lt_size e
  | xd fs => obtain ⟨_, ⟨_, _, _, e, _⟩, _⟩ := x; exact Heap.lt_size e
  | rng lo hi => obtain ⟨_, _, _, e⟩ := x; exact Heap.lt_size e
  | frz ob u => obtain ⟨e, _⟩ := x; exact Heap.lt_size e
  | tbl ps => exact Heap.lt_size (show h.get? a = some _ from x)
  | met f y => exact Heap.lt_size (show h.get? a = some _ from x)
  | ext φ => obtain ⟨_, ⟨_, e⟩, _⟩ := x; exact Heap.lt_size e
theorem Paired.mapP {α β : Type} {F G : α → β → Prop} : ∀ {l₁ : List α} {l₂ : List β}, Paired F l₁ l₂ → (∀ a b, F a b → G a b) → Paired G l₁ l₂
  | _, _, .nil, _ => .nil
  | _, _, .cons r t, f => .cons (f _ _ r) (Paired.mapP t f)
/-- what an object's description leans on: its own object, its own dict, the tuples -/
theorem ObjOk.stay (x : ObjOk P w H h a o) (k : ∀ b u, (b = a ∨ H b = some (.own a)) → h.get? b = some u → h'.get? b = some u)
    (ho : ∀ b, H b = some (.own a) → H' b = some (.own a)) (ht : ∀ b xs, H b = some (.tup xs) → H' b = some (.tup xs)) : ObjOk P w H' h' a o := by
  induction o with
  | lst xs => obtain ⟨z, its, n, r, e⟩ := x; exact ⟨z, its, n, r, k _ _ (.inl rfl) e⟩
  | tup xs => obtain ⟨z, its, r, ob, e, c⟩ := x; exact ⟨z, its, r, ob, k _ _ (.inl rfl) e, c⟩
  | dK kvs => obtain ⟨z, y, vs, r, ob, es, ep, e, c⟩ := x; exact ⟨z, y, vs, r, ob, es, ep, k _ _ (.inl rfl) e, c⟩
  | dT kvs =>
    obtain ⟨z, y, xs, r, ob, es, ep, e, c⟩ := x
    exact ⟨z, y, xs, Paired.mapP r fun p q z => ⟨z.1, ht _ _ z.2.1, z.2.2⟩, ob, es, ep, k _ _ (.inl rfl) e, c⟩
  | set S n => obtain ⟨ob, es, ep, t, e, c⟩ := x; exact ⟨ob, es, ep, t, k _ _ (.inl rfl) e, c⟩
  | ins C dx fs =>
    obtain ⟨d, z, ne, e, mA, ⟨od, es, ep, e2, c⟩, r⟩ := x
    exact ⟨ho _ d, z, ne, k _ _ (.inl rfl) e, mA, ⟨od, es, ep, k _ _ (.inr d) e2, c⟩, r⟩
  | own y => obtain ⟨ob, e⟩ := x; exact ⟨ob, k _ _ (.inl rfl) e⟩
  | xd fs => obtain ⟨mA, ⟨od, es, ep, e, c⟩, r⟩ := x; exact ⟨mA, ⟨od, es, ep, k _ _ (.inl rfl) e, c⟩, r⟩
  | rng lo hi => obtain ⟨t, u, v, e⟩ := x; exact ⟨t, u, v, k _ _ (.inl rfl) e⟩
  | frz ob u ih => obtain ⟨e, q⟩ := x; exact ⟨k _ _ (.inl rfl) e, ih q⟩
  | tbl ps =>
    have e : h.get? a = some { cls := .none, data := .fields ps } := x
    show h'.get? a = some { cls := .none, data := .fields ps }
    exact k a _ (.inl rfl) e
  | met f y =>
    have e : h.get? a = some (PySem.W.methodObj (.ref f) (.ref y)) := x
    show h'.get? a = some (PySem.W.methodObj (.ref f) (.ref y))
    exact k a _ (.inl rfl) e
  | ext φ => obtain ⟨p, ⟨o, e⟩, st⟩ := x; exact ⟨st _ _ p fun o q => k _ _ (.inl rfl) q, ⟨o, k _ _ (.inl rfl) e⟩, st⟩
theorem HOk.lt (x : HOk P w H h) (e : H a = some o) : a < h.objs.size := (x a o e).lt
theorem HOk.fresh (x : HOk P w H h) (e : h.objs.size ≤ a) : H a = none := by
  cases q : H a with
  | none => rfl
  | some u => exact absurd (Nat.lt_of_lt_of_le (x.lt q) e) (Nat.lt_irrefl _)
/-- every object of the heap is kept -/
theorem HOk.kept (x : HOk P w H h) (k : ∀ b u, h.get? b = some u → h'.get? b = some u) : HOk P w H h' := fun a o e =>
  (x a o e).stay (fun b u _ q => k b u q) (fun _ q => q) fun _ _ q => q
/-- a new object is laid and tracked -/
theorem HOk.laid (x : HOk P w H h) (k : ∀ b u, h.get? b = some u → h'.get? b = some u) (hp : h.objs.size ≤ a) (new : ObjOk P w (upd H a o) h' a o) : HOk P w (upd H a o) h' := fun b u e => by
  have hn := x.fresh hp
  by_cases hb : b = a
  · subst hb; rw [upd_same] at e; cases e; exact new
  · rw [upd_ne hb] at e
    exact (x b u e).stay (fun c v _ q => k c v q) (fun c q => by rw [upd_ne (ne_of_none q hn)]; exact q) fun c xs q => by rw [upd_ne (ne_of_none q hn)]; exact q
end

/-- what may be read as u: it is u, or a known u -/
def Rd (H : Hp) (a : Addr) (u : HO) : Prop := H a = some u ∨ ∃ o, H a = some (.frz o u)
theorem Rd.of {H : Hp} {a : Addr} {u : HO} (h : H a = some u) : Rd H a u := .inl h
theorem Rd.ok {P : Program} {w : World} {H : Hp} {h : Heap} {a : Addr} {u : HO} (r : Rd H a u) (x : HOk P w H h) : ObjOk P w H h a u := by
  rcases r with r | ⟨o, r⟩
  · exact x a u r
  · obtain ⟨_, q⟩ := x a _ r
    exact q
/-- what may be written -/
def Mut : Option HO → Prop
  | some (.lst _) => True
  | some (.dK _) => True
  | some (.dT _) => True
  | some (.set _ _) => True
  | some (.ins _ _ _) => True
  | some (.ext _) => True
  | _ => False
section
variable {P : Program} {w : World} {H : Hp} {h h' : Heap} {x e : Addr} {o' : HO}
/-- the object at e is changed: x itself, or the dict of the instance x -/
theorem HOk.write (ok : HOk P w H h) (mu : Mut (H x)) (he : e = x ∨ H e = some (.own x)) (k : ∀ b u, b ≠ e → h.get? b = some u → h'.get? b = some u) (heo : ∃ u, h'.get? e = some u)
    (new : ObjOk P w (upd H x o') h' x o') : HOk P w (upd H x o') h' := fun b u q => by
  have nown : ∀ c y, H c = some (.own y) → c ≠ x := fun c y r z => by subst z; rw [r] at mu; exact mu
  have ntup : ∀ c xs, H c = some (.tup xs) → c ≠ x := fun c xs r z => by subst z; rw [r] at mu; exact mu
  by_cases hb : b = x
  · subst hb; rw [upd_same] at q; cases q; exact new
  · rw [upd_ne hb] at q
    by_cases hbe : b = e
    · have q' : H b = some (.own x) := by
        rcases he with z | z
        · exact absurd (hbe.trans z) hb
        · rw [hbe]; exact z
      rw [q] at q'; cases q'
      obtain ⟨v, hv⟩ := heo
      exact ⟨v, by rw [hbe]; exact hv⟩
    · refine (ok b u q).stay (fun c v hc r => k c v ?_ r) (fun c r => by rw [upd_ne (nown c b r)]; exact r) fun c xs r => by rw [upd_ne (ntup c xs r)]; exact r
      rcases hc with rfl | hc
      · exact hbe
      · rintro rfl
        rcases he with z | z
        · exact nown c b hc z
        · rw [hc] at z; cases z; exact hb rfl
end

/-! ### kept unless tracked; of the frames at fs (the callers') the slots may change (an exception that passes writes there); of the records at ex (iterators) nothing is said -/
structure Un (fs ex : List Addr) (H H' : Hp) (h h' : Heap) : Prop where
  keep : ∀ b o, h.get? b = some o → H b = none → b ∉ fs → b ∉ ex → h'.get? b = some o
  slot : ∀ b o, h.get? b = some o → H b = none → b ∈ fs → b ∉ ex → ∃ sl, h'.get? b = some { o with slots := sl }
  free : ∀ b o, h.get? b = some o → H b = none → b ∉ ex → H' b = none
  there : ∀ b o, h.get? b = some o → b ∉ ex → ∃ o', h'.get? b = some o'
  tups : ∀ b xs, H b = some (.tup xs) → H' b = some (.tup xs)
  frzs : ∀ b o u, H b = some (.frz o u) → H' b = some (.frz o u)
  tbls : ∀ b ps, H b = some (.tbl ps) → ∃ more, H' b = some (.tbl (ps ++ more))
section
variable {fs fs' ex ex' : List Addr} {H H1 H2 : Hp} {h h1 h2 h' : Heap} {a x e : Addr} {o : HO}
theorem Un.any (u : Un fs ex H H1 h h1) {b : Addr} {ob : Obj} (q : h.get? b = some ob) (n : H b = none) (hx : b ∉ ex) : ∃ sl, h1.get? b = some { ob with slots := sl } := by
  by_cases hb : b ∈ fs
  · exact u.slot b ob q n hb hx
  · exact ⟨ob.slots, u.keep b ob q n hb hx⟩
theorem Un.kept (k : ∀ b u, h.get? b = some u → h'.get? b = some u) : Un fs ex H H h h' :=
  ⟨fun b ob q _ _ _ => k b ob q, fun b ob q _ _ _ => ⟨ob.slots, k b ob q⟩, fun _ _ _ n _ => n, fun b ob q _ => ⟨ob, k b ob q⟩, fun _ _ q => q, fun _ _ _ q => q, fun _ ps q => ⟨#[], by rw [q]; simp⟩⟩
theorem Un.refl : Un fs ex H H h h := Un.kept fun _ _ q => q
theorem Un.laid (k : ∀ b u, h.get? b = some u → h'.get? b = some u) (hp : h.objs.size ≤ a) (hn : H a = none) : Un fs ex H (upd H a o) h h' where
  keep := fun b u q _ _ _ => k b u q
  slot := fun b u q _ _ _ => ⟨u.slots, k b u q⟩
  free := fun b u q n _ => by rw [upd_ne (Nat.ne_of_lt (Nat.lt_of_lt_of_le (Heap.lt_size q) hp))]; exact n
  there := fun b u q _ => ⟨u, k b u q⟩
  tups := fun b xs q => by rw [upd_ne (ne_of_none q hn)]; exact q
  frzs := fun b u xs q => by rw [upd_ne (ne_of_none q hn)]; exact q
  tbls := fun b ps q => ⟨#[], by rw [upd_ne (ne_of_none q hn), q]; simp⟩
theorem Un.write (mu : Mut (H x)) (he : e = x ∨ H e = some (.own x)) (k : ∀ b u, b ≠ e → h.get? b = some u → h'.get? b = some u) (heo : ∃ u, h'.get? e = some u) : Un fs ex H (upd H x o) h h' := by
  have hx : ∀ b, H b = none → b ≠ x := fun b n z => by subst z; rw [n] at mu; exact mu
  have hb : ∀ b, H b = none → b ≠ e := fun b n z => by
    subst z
    rcases he with r | r
    · exact hx b n r
    · rw [n] at r; cases r
  have hm : ∀ b u, H b = some u → ¬ Mut (some u) → b ≠ x := fun b u q nm z => by subst z; rw [q] at mu; exact nm mu
  refine ⟨fun b u q n _ _ => k b u (hb b n) q, fun b u q n _ _ => ⟨u.slots, k b u (hb b n) q⟩, fun b u q n _ => by rw [upd_ne (hx b n)]; exact n, fun b u q _ => ?_,
    fun b xs q => by rw [upd_ne (hm b _ q fun z => z)]; exact q, fun b u xs q => by rw [upd_ne (hm b _ q fun z => z)]; exact q, fun b ps q => ⟨#[], by rw [upd_ne (hm b _ q fun z => z), q]; simp⟩⟩
  by_cases hbe : b = e
  · subst hbe; exact heo
  · exact ⟨u, k b u hbe q⟩
end

/-! ### the heap without what is tracked -/
def trk (h : Heap) (H : Hp) : List Addr := (List.range h.objs.size).filter fun a => (H a).isSome
def hidT (h : Heap) (H : Hp) : Heap := PySem.W.hideAll h (trk h H)
theorem hidT_size (h : Heap) (H : Hp) : (hidT h H).objs.size = h.objs.size := PySem.W.hideAll_size _ _
theorem hidT_get {h : Heap} {H : Hp} {b : Addr} {o : Obj} (e : h.get? b = some o) (n : H b = none) : (hidT h H).get? b = some o :=
  PySem.W.hideAll_get _ e fun hm => by
    have q : (H b).isSome = true := (List.mem_filter.mp hm).2
    rw [n] at q; simp at q
theorem of_hidT {h : Heap} {H : Hp} {b : Addr} {o : Obj} (e : (hidT h H).get? b = some o) : h.get? b = some o ∧ H b = none := by
  have e' : h.get? b = some o := PySem.W.of_hideAll (trk h H) e
  refine ⟨e', ?_⟩
  cases q : H b with
  | none => rfl
  | some x =>
    have hm : b ∈ trk h H := List.mem_filter.mpr ⟨List.mem_range.mpr (Heap.lt_size e'), by simp [q]⟩
    have z : (hidT h H).get? b = none := PySem.W.hideAll_none (trk h H) hm
    rw [z] at e; cases e

/-! ### OpenK's ledger, filled with every new object but one -/
end L2

namespace L2
open PySem PySem.Spec PyProof.Rows

/-- the module's facts, over the base: the heap at the law's entry without what is tracked there -/
structure Mod (K : PySem.W.Frag) (mg : Str → Option Value) (base : Heap) : Prop where
  kin : K.In base
  glob : base.Ns mainGlobals mg
  blt : ∃ mb, base.Ns builtinsNs mb ∧ ∀ x : Str, x ≠ "__name__" → mb x = bootBuiltins x
  nolimit : base.NoLimit

/-- the context: a def's body (or a comprehension's block) running. base: fixed through the whole law; s₀, H₀: the entry; outer: the frames whose slots others may change (a def's callers); stack: all frames that run;
   ex: iterators that were made ahead of the entry and are walked here (a comprehension's); fn: the names whose cells were made at the entry (a def: all; a comprehension's block: its own); calm: not within an except suite; pn: pins that every state bears; xe: what is wanted of an exception that leaves the code -/
structure Cx where
  prog : Program
  w : World
  K : PySem.W.Frag
  mg : Str → Option Value
  base : Heap
  A : Around
  N : List Str
  s₀ : Shared
  H₀ : Hp
  env : Env
  outer : List Env
  stack : List Env
  ex : List Addr
  fn : Str → Bool
  calm : Bool
  pn : List (Addr × Obj)
  xe : Value → Shared → Prop
/-- the callers' frames -/
def frs (l : List Env) : List Addr := l.filterMap (·.frame)
abbrev Cx.fs (X : Cx) : List Addr := frs X.outer

def Vis (sc : Scope) (x : Str) : Prop := sc.names.lookup x = some .local ∨ sc.names.lookup x = some .cell ∨ sc.names.lookup x = some .free
def Loc (sc : Scope) (x : Str) : Prop := sc.names.lookup x = some .local ∨ sc.names.lookup x = some .cell
def Look (env : Env) (h : Heap) (m : Str → Option Value) (x : Str) (u : Value) : Prop :=
  (env.kindOf x = some .local ∧ m x = some u) ∨ ((env.kindOf x = some .cell ∨ env.kindOf x = some .free) ∧ ∃ c, env.cells.lookup x = some c ∧ h.IsCell c (some u))

structure Cx.Ok (X : Cx) : Prop where
  mod : Mod X.K X.mg X.base
  kind : X.env.scope.kind = .function
  glob : X.env.globals = mainGlobals
  blt : X.env.builtins = builtinsNs
  above : X.s₀.heap.objs.size ≤ X.env.locals
  inj : ∀ x y c, X.env.cells.lookup x = some c → X.env.cells.lookup y = some c → x = y
  has : ∀ x, (X.env.kindOf x = some .cell ∨ X.env.kindOf x = some .free) → ∃ c, X.env.cells.lookup x = some c
  cab : ∀ x c, X.fn x = true → X.env.cells.lookup x = some c → X.s₀.heap.objs.size ≤ c
  hd : X.calm = true → X.A.handled = none
  frames : X.A.frames = some X.stack
  stk : X.stack = X.outer ∨ (X.stack = X.env :: X.outer ∧ X.env.frame = some X.env.locals)
  exf : ∀ b ∈ X.ex, b ≠ X.env.locals ∧ ∀ x c, X.env.cells.lookup x = some c → c ≠ b
  bs : ∀ b o, X.base.get? b = some o → X.s₀.heap.get? b = some o ∧ X.H₀ b = none
  bsz : X.base.objs.size ≤ X.s₀.heap.objs.size
  noex : ∀ b o, X.base.get? b = some o → b ∉ X.ex
  exfs : ∀ b ∈ X.ex, b ∉ X.fs
  funs : X.s₀.heap.FunFrames X.base X.outer
  frf : ∀ b ∈ X.fs, X.H₀ b = none

structure Inv (X : Cx) (pins : List (Addr × Obj)) (σ : List (Option V)) (H : Hp) (s : Shared) : Prop where
  ok : X.Ok
  os : s.os = X.s₀.os
  bare : AllBare s.gens
  base : Un X.fs X.ex X.H₀ H X.s₀.heap s.heap
  loc : ∃ m, s.heap.Ns X.env.locals m ∧ ∀ (i : Nat) (x : Str) (v : V), X.N[i]? = some x → σ[i]? = some (some v) → Vis X.env.scope x → ∃ u, RelV v u ∧ Look X.env s.heap m x u
  cell : ∀ x c, X.env.cells.lookup x = some c → ∃ v, s.heap.IsCell c v
  free : H X.env.locals = none
  freeC : ∀ x c, X.env.cells.lookup x = some c → H c = none
  pin : ∀ p ∈ X.pn ++ pins, s.heap.get? p.1 = some p.2 ∧ H p.1 = none ∧ p.1 ≠ X.env.locals ∧ p.1 ∉ X.fs ∧ ∀ v, p.2.data ≠ .cell v
  hok : HOk X.prog X.w H s.heap
  len : σ.length = X.N.length

section
variable {X : Cx} {pins : List (Addr × Obj)} {σ : List (Option V)} {H H' : Hp} {s : Shared} {h' : Heap}

theorem Cx.Ok.nofr (ok : X.Ok) {b : Addr} {o : Obj} (e : X.base.get? b = some o) : b ∉ X.fs := fun hb => by
  have := (ok.funs.mem hb).1
  rw [e] at this; cases this
theorem Inv.bs (I : Inv X pins σ H s) : ∀ b o, X.base.get? b = some o → s.heap.get? b = some o ∧ H b = none := fun b o e =>
  ⟨I.base.keep b o (I.ok.bs b o e).1 (I.ok.bs b o e).2 (I.ok.nofr e) (I.ok.noex b o e), I.base.free b o (I.ok.bs b o e).1 (I.ok.bs b o e).2 (I.ok.noex b o e)⟩
theorem Inv.bk (I : Inv X pins σ H s) : ∀ b o, X.base.get? b = some o → s.heap.get? b = some o := fun b o e => (I.bs b o e).1
theorem Inv.mod (I : Inv X pins σ H s) : Mod X.K X.mg X.base := I.ok.mod
theorem Inv.kIn (I : Inv X pins σ H s) : X.K.In s.heap := I.ok.mod.kin.keeps I.bk
theorem Inv.lt (I : Inv X pins σ H s) : X.env.locals < s.heap.objs.size := let ⟨_, hn, _⟩ := I.loc; hn.lt
theorem Inv.sz (I : Inv X pins σ H s) : X.s₀.heap.objs.size ≤ s.heap.objs.size := Nat.le_trans I.ok.above (Nat.le_of_lt I.lt)
theorem Inv.nofs (I : Inv X pins σ H s) {a : Addr} (h : s.heap.objs.size ≤ a) : a ∉ X.fs := fun hb => by
  obtain ⟨_, o, ho, _⟩ := I.ok.funs.mem hb
  exact absurd (Nat.lt_of_lt_of_le (Heap.lt_size ho) (Nat.le_trans I.sz h)) (Nat.lt_irrefl _)
theorem Inv.cne (I : Inv X pins σ H s) : ∀ x c, X.env.cells.lookup x = some c → c ≠ X.env.locals := fun x c e z => by
  obtain ⟨v, o, ho, hd⟩ := I.cell x c e
  obtain ⟨m, ⟨o', es, ep, ho', hd', _⟩, _⟩ := I.loc
  rw [z, ho'] at ho; cases ho; rw [hd'] at hd; cases hd
theorem Inv.funs (I : Inv X pins σ H s) : s.heap.FunFrames X.base X.outer := by
  have all : ∀ (l : List Env), (∀ b ∈ frs l, b ∈ X.fs) → X.s₀.heap.FunFrames X.base l → s.heap.FunFrames X.base l := by
    intro l
    induction l with
    | nil => intro _ _; trivial
    | cons env r ih =>
      intro hs hl
      obtain ⟨hk, ⟨L, o, hf, hn, ho, hd⟩, hr⟩ := hl
      have hL : L ∈ X.fs := hs L (by unfold frs; rw [List.filterMap_cons, hf]; exact List.mem_cons_self)
      obtain ⟨sl, e⟩ := I.base.slot L o ho (I.ok.frf L hL) hL fun z => I.ok.exfs L z hL
      exact ⟨hk, ⟨L, _, hf, hn, e, hd⟩, ih (fun b hb => hs b (by unfold frs; rw [List.filterMap_cons, hf]; exact List.mem_cons_of_mem _ hb)) hr⟩
  exact all X.outer (fun _ hb => hb) I.ok.funs

/-- the frames that run, for a call -/
theorem Inv.stack (I : Inv X pins σ H s) : s.heap.FunFrames X.base X.stack := by
  rcases I.ok.stk with e | ⟨e, hf⟩
  · rw [e]; exact I.funs
  · rw [e]
    obtain ⟨m, hn, _⟩ := I.loc
    refine .cons (by rw [I.ok.kind]; decide) hf hn ?_ I.funs
    exact Heap.get?_none_of_le (Nat.le_trans I.ok.bsz I.ok.above)
theorem Inv.stkSub (I : Inv X pins σ H s) : ∀ b ∈ frs X.stack, b ∈ X.env.locals :: X.fs := fun b hb => by
  rcases I.ok.stk with e | ⟨e, hf⟩
  · rw [e] at hb; exact List.mem_cons_of_mem _ hb
  · rw [e] at hb
    unfold frs at hb
    rw [List.filterMap_cons, hf] at hb
    exact hb
theorem Inv.stkFree (I : Inv X pins σ H s) : ∀ b ∈ frs X.stack, H b = none := fun b hb => by
  rcases List.mem_cons.mp (I.stkSub b hb) with e | hb
  · rw [e]; exact I.free
  · obtain ⟨_, o, ho, _⟩ := I.ok.funs.mem hb
    exact I.base.free b o ho (I.ok.frf b hb) fun z => I.ok.exfs b z hb

/-- THE STEP: the untracked objects but the frame and the records at ch are kept (the callers' frames up to slots), the frame's map is kept, the new abstract heap is held -/
theorem Inv.step {g' : Array GenState} {t' : Nat} {d' : Drawn} {ch : List Addr} (I : Inv X pins σ H s)
    (hch : ∀ b ∈ ch, (b ∈ X.ex ∨ X.s₀.heap.objs.size ≤ b) ∧ b ≠ X.env.locals ∧ (∀ x c, X.env.cells.lookup x = some c → c ≠ b) ∧ ∀ p ∈ X.pn ++ pins, p.1 ≠ b)
    (keep : ∀ b o, b ≠ X.env.locals → b ∉ X.fs → b ∉ ch → s.heap.get? b = some o → H b = none → h'.get? b = some o)
    (slot : ∀ b o, b ≠ X.env.locals → b ∈ X.fs → b ∉ ch → s.heap.get? b = some o → H b = none → ∃ sl, h'.get? b = some { o with slots := sl }) (free : ∀ b o, b ∉ ch → s.heap.get? b = some o → H b = none → H' b = none)
    (there : ∀ b o, b ∉ ch → s.heap.get? b = some o → ∃ o', h'.get? b = some o')
    (tups : ∀ b xs, H b = some (.tup xs) → H' b = some (.tup xs)) (frzs : ∀ b o u, H b = some (.frz o u) → H' b = some (.frz o u)) (tbls : ∀ b ps, H b = some (.tbl ps) → ∃ more, H' b = some (.tbl (ps ++ more)))
    (ns : ∀ m, s.heap.Ns X.env.locals m → h'.Ns X.env.locals m) (hok : HOk X.prog X.w H' h') (hg : AllBare g') :
    Inv X pins σ H' { s with heap := h', gens := g', drawn := d', toks := t' } := by
  have neL : ∀ b o, X.s₀.heap.get? b = some o → b ≠ X.env.locals := fun b o e => Nat.ne_of_lt (Nat.lt_of_lt_of_le (Heap.lt_size e) I.ok.above)
  have neC : ∀ b o, X.s₀.heap.get? b = some o → b ∉ X.ex → b ∉ ch := fun b o e hx hb => by
    rcases (hch b hb).1 with z | z
    · exact hx z
    · exact absurd (Nat.lt_of_lt_of_le (Heap.lt_size e) z) (Nat.lt_irrefl _)
  have cellK : ∀ x c, X.env.cells.lookup x = some c → ∀ v, s.heap.IsCell c v → h'.IsCell c v := fun x c e v ⟨o, ho, hd⟩ => by
    have nch : c ∉ ch := fun z => (hch c z).2.2.1 x c e rfl
    by_cases hc : c ∈ X.fs
    · obtain ⟨sl, q⟩ := slot c o (I.cne x c e) hc nch ho (I.freeC x c e)
      exact ⟨_, q, hd⟩
    · exact ⟨o, keep c o (I.cne x c e) hc nch ho (I.freeC x c e), hd⟩
  refine ⟨I.ok, I.os, hg, ⟨fun b o e n hb hx => ?_, fun b o e n hb hx => ?_, fun b o e n hx => ?_, fun b o e hx => ?_, fun b xs e => tups b xs (I.base.tups b xs e), fun b o xs e => frzs b o xs (I.base.frzs b o xs e), fun b ps e => ?_⟩, ?_, fun x c e => ?_, ?_, fun x c e => ?_, fun p hp => ?_, hok, I.len⟩
  · exact keep b o (neL b o e) hb (neC b o e hx) (I.base.keep b o e n hb hx) (I.base.free b o e n hx)
  · obtain ⟨sl, e1⟩ := I.base.slot b o e n hb hx
    obtain ⟨sl', e2⟩ := slot b _ (neL b o e) hb (neC b o e hx) e1 (I.base.free b o e n hx)
    exact ⟨sl', e2⟩
  · obtain ⟨o', e1⟩ := I.base.there b o e hx
    exact free b o' (neC b o e hx) e1 (I.base.free b o e n hx)
  · obtain ⟨o', e1⟩ := I.base.there b o e hx
    exact there b o' (neC b o e hx) e1
  · obtain ⟨m1, e1⟩ := I.base.tbls b ps e
    obtain ⟨m2, e2⟩ := tbls b _ e1
    exact ⟨m1 ++ m2, by rw [e2, Array.append_assoc]⟩
  · obtain ⟨m, hn, hl⟩ := I.loc
    refine ⟨m, ns m hn, fun i x v e1 e2 e3 => ?_⟩
    obtain ⟨u, r, l⟩ := hl i x v e1 e2 e3
    refine ⟨u, r, ?_⟩
    rcases l with l | ⟨k, c, e, z⟩
    · exact .inl l
    · exact .inr ⟨k, c, e, cellK x c e _ z⟩
  · obtain ⟨v, z⟩ := I.cell x c e
    exact ⟨v, cellK x c e v z⟩
  · obtain ⟨m, ⟨o, _, _, ho, _⟩, _⟩ := I.loc
    exact free _ o (fun z => (hch _ z).2.1 rfl) ho I.free
  · obtain ⟨v, o, ho, hd⟩ := I.cell x c e
    exact free c o (fun z => (hch c z).2.2.1 x c e rfl) ho (I.freeC x c e)
  · obtain ⟨e, n, ne, nf, d⟩ := I.pin p hp
    have nch : p.1 ∉ ch := fun z => (hch p.1 z).2.2.2 p hp rfl
    exact ⟨keep p.1 p.2 ne nf nch e n, free p.1 p.2 nch e n, ne, nf, d⟩
/-- .. where the frame's own object is kept too -/
theorem Inv.un {t' : Nat} (I : Inv X pins σ H s) (u : Un X.fs [] H H' s.heap h') (hok : HOk X.prog X.w H' h') : Inv X pins σ H' { s with heap := h', toks := t' } := by
  obtain ⟨m, ⟨o, es, ep, ho, r⟩, _⟩ := id I.loc
  obtain ⟨sl, hL⟩ := u.any ho I.free (by simp)
  exact I.step (g' := s.gens) (d' := s.drawn) (ch := []) (fun _ z => nomatch z) (fun b o _ hb _ e n => u.keep b o e n hb (by simp)) (fun b o _ hb _ e n => u.slot b o e n hb (by simp)) (fun b o _ e n => u.free b o e n (by simp)) (fun b o _ e => u.there b o e (by simp)) u.tups u.frzs u.tbls (fun m' hm => by
    obtain ⟨o', es', ep', ho', r'⟩ := hm
    rw [ho] at ho'; cases ho'
    exact ⟨_, es', ep', hL, r'⟩) hok I.bare
/-- behind a call (or a comprehension's block): the slots of this frame may have changed too, the records at ch may have turned -/
theorem Inv.call {g' : Array GenState} {t' : Nat} {d' : Drawn} {ch : List Addr} (I : Inv X pins σ H s) (u : Un (frs X.stack) ch H H' s.heap h') (hok : HOk X.prog X.w H' h') (hg : AllBare g')
    (hch : ∀ b ∈ ch, (b ∈ X.ex ∨ X.s₀.heap.objs.size ≤ b) ∧ b ≠ X.env.locals ∧ (∀ x c, X.env.cells.lookup x = some c → c ≠ b) ∧ ∀ p ∈ X.pn ++ pins, p.1 ≠ b) :
    Inv X pins σ H' { s with heap := h', gens := g', drawn := d', toks := t' } := by
  obtain ⟨m, ⟨o, es, ep, ho, r⟩, _⟩ := id I.loc
  obtain ⟨sl, hL⟩ := u.any ho I.free fun z => (hch _ z).2.1 rfl
  exact I.step (ch := ch) hch (fun b o hL hb hc e n => u.keep b o e n (fun z => (List.mem_cons.mp (I.stkSub b z)).elim hL hb) hc) (fun b o _ _ hc e n => u.any e n hc) (fun b o hc e n => u.free b o e n hc) (fun b o hc e => u.there b o e hc) u.tups u.frzs u.tbls (fun m' hm => by
    obtain ⟨o', es', ep', ho', r'⟩ := hm
    rw [ho] at ho'; cases ho'
    exact ⟨_, es', ep', hL, r'⟩) hok hg
/-- an untracked record of ours (an iterator) has turned -/
theorem Inv.turned {t' : Nat} {it : Addr} (I : Inv X pins σ H s) (k : ∀ b o, b ≠ it → s.heap.get? b = some o → h'.get? b = some o) (hn : H it = none) (hL : it ≠ X.env.locals)
    (h1 : it ∈ X.ex ∨ X.s₀.heap.objs.size ≤ it) (h2 : ∀ x c, X.env.cells.lookup x = some c → c ≠ it) (h3 : ∀ p ∈ X.pn ++ pins, p.1 ≠ it) : Inv X pins σ H { s with heap := h', toks := t' } := by
  have nit : ∀ b u, H b = some u → b ≠ it := fun b u e z => by rw [z, hn] at e; cases e
  refine I.step (g' := s.gens) (d' := s.drawn) (ch := [it]) (fun b hb => ?_) (fun b o _ _ hc e _ => k b o (fun z => hc (by simp [z])) e) (fun b o _ _ hc e _ => ⟨o.slots, k b o (fun z => hc (by simp [z])) e⟩) (fun _ _ _ _ n => n)
    (fun b o hc e => ⟨o, k b o (fun z => hc (by simp [z])) e⟩) (fun _ _ e => e) (fun _ _ _ e => e) (fun b ps e => ⟨#[], by rw [e]; simp⟩) (fun m hm => ?_) (fun b u e => ?_) I.bare
  · have e : b = it := by simpa using hb
    subst e
    exact ⟨h1, hL, h2, h3⟩
  · obtain ⟨o, es, ep, ho, r⟩ := hm
    exact ⟨o, es, ep, k _ o (Ne.symm hL) ho, r⟩
  · refine (I.hok b u e).stay (fun c v hc q => k c v ?_ q) (fun _ q => q) fun _ _ q => q
    rcases hc with z | z
    · rw [z]; exact nit b u e
    · exact nit c _ z
theorem Inv.tok (I : Inv X pins σ H s) (t : Nat) : Inv X pins σ H { s with toks := t } := I.un (h' := s.heap) (t' := t) Un.refl I.hok
/-- all objects kept -/
theorem Inv.kept {t' : Nat} (I : Inv X pins σ H s) (k : ∀ b u, s.heap.get? b = some u → h'.get? b = some u) : Inv X pins σ H { s with heap := h', toks := t' } := I.un (Un.kept k) (I.hok.kept k)
/-- a new object laid and tracked -/
theorem Inv.laid {a : Addr} {o : HO} {t' : Nat} (I : Inv X pins σ H s) (k : ∀ b u, s.heap.get? b = some u → h'.get? b = some u) (hp : s.heap.objs.size ≤ a) (new : ObjOk X.prog X.w (upd H a o) h' a o) :
    Inv X pins σ (upd H a o) { s with heap := h', toks := t' } := I.un (Un.laid k hp (I.hok.fresh hp)) (I.hok.laid k hp new)
/-- an object written -/
theorem Inv.write {x e : Addr} {o : HO} {t' : Nat} (I : Inv X pins σ H s) (mu : Mut (H x)) (he : e = x ∨ H e = some (.own x)) (k : ∀ b u, b ≠ e → s.heap.get? b = some u → h'.get? b = some u) (heo : ∃ u, h'.get? e = some u)
    (new : ObjOk X.prog X.w (upd H x o) h' x o) : Inv X pins σ (upd H x o) { s with heap := h', toks := t' } := I.un (Un.write mu he k heo) (I.hok.write mu he k heo new)
theorem Inv.pins_of {pins' : List (Addr × Obj)} (I : Inv X pins σ H s) (h : ∀ p ∈ pins', s.heap.get? p.1 = some p.2 ∧ H p.1 = none ∧ p.1 ≠ X.env.locals ∧ p.1 ∉ X.fs ∧ ∀ v, p.2.data ≠ .cell v) : Inv X pins' σ H s :=
  ⟨I.ok, I.os, I.bare, I.base, I.loc, I.cell, I.free, I.freeC, fun p hp => (List.mem_append.mp hp).elim (fun z => I.pin p (List.mem_append_left _ z)) (h p), I.hok, I.len⟩

theorem nodup_ix {N : List Str} (hN : N.Nodup) {i j : Nat} {x : Str} (a : N[i]? = some x) (b : N[j]? = some x) : i = j := by
  obtain ⟨h1, e1⟩ := List.getElem?_eq_some_iff.mp a
  obtain ⟨h2, e2⟩ := List.getElem?_eq_some_iff.mp b
  exact (List.getElem_inj hN).mp (e1.trans e2.symm)

/-- a name is stored; what changed -/
theorem store_ok2 {M : Model} {A : Around} {E : Value → Shared → Prop} {i : Nat} {x : Str} {v : V} {u : Value} {Q : Unit → Shared → Prop} (I : Inv X pins σ H s) (hN : X.N.Nodup) (hi : X.N[i]? = some x) (hx : Loc X.env.scope x) (r : RelV v u)
    (h : ∀ s', Inv X pins (σ.set i (some v)) H s' → (∃ a, Heap.SameBut a s.heap s'.heap ∧ (a = X.env.locals ∨ X.env.cells.lookup x = some a)) → Q () s') (hf : X.fn x = true ∨ X.env.scope.names.lookup x = some .local := by first | exact .inl rfl | exact .inr rfl | assumption) : wpAny M A (storeName X.env x u) Q E s := by
  obtain ⟨m, hn, hl⟩ := id I.loc
  have hcls : (X.env.scope.kind == .class || (X.env.scope.kind == .module && X.env.locals != X.env.globals)) = false := by rw [I.ok.kind]; rfl
  have hiσ : i < σ.length := by rw [I.len]; exact (List.getElem?_eq_some_iff.mp hi).1
  have cne := I.cne
  have tracked : ∀ {a : Addr} {h' : Heap}, (∃ o, s.heap.get? a = some o ∧ H a = none) → Heap.SameBut a s.heap h' → HOk X.prog X.w H h' := fun {a h'} ha hs b ob e => by
    obtain ⟨_, _, hfree⟩ := ha
    refine (I.hok b ob e).stay (fun c w' hc q => (hs.2 c ?_).trans q) (fun _ q => q) fun _ _ q => q
    rintro rfl
    rcases hc with rfl | hc
    · rw [hfree] at e; cases e
    · rw [hfree] at hc; cases hc
  rcases hx with hk | hk
  · refine wpAny_storeName_local hk hn (fun h' hn' hs => ?_) hcls
    obtain ⟨oL, _, _, hoL, _⟩ := id hn
    refine h _ ⟨I.ok, I.os, I.bare, ⟨fun b o e n hb hx => ?_, fun b o e n hb hx => ?_, I.base.free, fun b o e hx => ?_, I.base.tups, I.base.frzs, I.base.tbls⟩, ⟨_, hn', fun j y v' e1 e2 e3 => ?_⟩, fun y c e => ?_, I.free, I.freeC, fun p hp => ?_, tracked ⟨oL, hoL, I.free⟩ hs, by simpa using I.len⟩ ⟨_, hs, .inl rfl⟩
    · exact (hs.2 b (Nat.ne_of_lt (Nat.lt_of_lt_of_le (Heap.lt_size e) I.ok.above))).trans (I.base.keep b o e n hb hx)
    · obtain ⟨sl, e1⟩ := I.base.slot b o e n hb hx
      exact ⟨sl, (hs.2 b (Nat.ne_of_lt (Nat.lt_of_lt_of_le (Heap.lt_size e) I.ok.above))).trans e1⟩
    · obtain ⟨o', e1⟩ := I.base.there b o e hx
      exact ⟨o', (hs.2 b (Nat.ne_of_lt (Nat.lt_of_lt_of_le (Heap.lt_size e) I.ok.above))).trans e1⟩
    · by_cases hj : j = i
      · subst hj
        rw [hi] at e1; cases e1
        rw [List.getElem?_set_self hiσ] at e2
        cases e2
        exact ⟨u, r, .inl ⟨hk, by simp⟩⟩
      · rw [List.getElem?_set_ne (Ne.symm hj)] at e2
        obtain ⟨u', r', q⟩ := hl j y v' e1 e2 e3
        refine ⟨u', r', ?_⟩
        rcases q with ⟨k, e⟩ | ⟨k, c, e, z⟩
        · refine .inl ⟨k, ?_⟩
          have : y ≠ x := fun e => hj (nodup_ix hN e1 (e ▸ hi))
          simp [this, e]
        · exact .inr ⟨k, c, e, z.sameBut hs (cne y c e)⟩
    · obtain ⟨w', z⟩ := I.cell y c e
      exact ⟨w', z.sameBut hs (cne y c e)⟩
    · obtain ⟨e, n, ne, nf, d⟩ := I.pin p hp
      exact ⟨(hs.2 p.1 ne).trans e, n, ne, nf, d⟩
  · have hfn : X.fn x = true := by
      rcases hf with z | z
      · exact z
      · rw [z] at hk; cases hk
    obtain ⟨c, hc⟩ := I.ok.has x (.inl hk)
    obtain ⟨w', z⟩ := I.cell x c hc
    refine wpAny_storeName_cell I.ok.kind hk hc z (fun h' hc' hs => ?_)
    obtain ⟨oc, hoc, hocd⟩ := id z
    refine h { s with heap := h' } ⟨I.ok, I.os, I.bare, ⟨fun b o e n hb hx => ?_, fun b o e n hb hx => ?_, I.base.free, fun b o e hx => ?_, I.base.tups, I.base.frzs, I.base.tbls⟩, ⟨m, hn.sameBut hs (Ne.symm (cne x c hc)), fun j y v' e1 e2 e3 => ?_⟩, fun y c' e => ?_, I.free, I.freeC, fun p hp => ?_, tracked ⟨oc, hoc, I.freeC x c hc⟩ hs, by simpa using I.len⟩ ⟨c, hs, .inr hc⟩
    · exact (hs.2 b (Nat.ne_of_lt (Nat.lt_of_lt_of_le (Heap.lt_size e) (I.ok.cab x c hfn hc)))).trans (I.base.keep b o e n hb hx)
    · obtain ⟨sl, e1⟩ := I.base.slot b o e n hb hx
      exact ⟨sl, (hs.2 b (Nat.ne_of_lt (Nat.lt_of_lt_of_le (Heap.lt_size e) (I.ok.cab x c hfn hc)))).trans e1⟩
    · obtain ⟨o', e1⟩ := I.base.there b o e hx
      exact ⟨o', (hs.2 b (Nat.ne_of_lt (Nat.lt_of_lt_of_le (Heap.lt_size e) (I.ok.cab x c hfn hc)))).trans e1⟩
    · by_cases hj : j = i
      · subst hj
        rw [hi] at e1; cases e1
        rw [List.getElem?_set_self hiσ] at e2
        cases e2
        exact ⟨u, r, .inr ⟨.inl hk, c, hc, hc'⟩⟩
      · rw [List.getElem?_set_ne (Ne.symm hj)] at e2
        obtain ⟨u', r', q⟩ := hl j y v' e1 e2 e3
        refine ⟨u', r', ?_⟩
        rcases q with q | ⟨k, c', e, z'⟩
        · exact .inl q
        · refine .inr ⟨k, c', e, z'.sameBut hs ?_⟩
          rintro rfl
          exact hj (nodup_ix hN e1 (I.ok.inj _ _ _ e hc ▸ hi))
    · by_cases hcc : c' = c
      · subst hcc; exact ⟨_, hc'⟩
      · obtain ⟨w2, z2⟩ := I.cell y c' e
        exact ⟨w2, z2.sameBut hs hcc⟩
    · obtain ⟨e, n, ne, nf, d⟩ := I.pin p hp
      refine ⟨(hs.2 p.1 ?_).trans e, n, ne, nf, d⟩
      intro q
      rw [q, hoc] at e
      have q' : oc = p.2 := Option.some.inj e
      exact d w' (by rw [← q']; exact hocd)
theorem store_ok {M : Model} {A : Around} {E : Value → Shared → Prop} {i : Nat} {x : Str} {v : V} {u : Value} {Q : Unit → Shared → Prop} (I : Inv X pins σ H s) (hN : X.N.Nodup) (hi : X.N[i]? = some x) (hx : Loc X.env.scope x) (r : RelV v u)
    (h : ∀ s', Inv X pins (σ.set i (some v)) H s' → Q () s') (hf : X.fn x = true ∨ X.env.scope.names.lookup x = some .local := by first | exact .inl rfl | exact .inr rfl | assumption) : wpAny M A (storeName X.env x u) Q E s :=
  store_ok2 I hN hi hx r (fun s' I' _ => h s' I') hf
/-- behind a call or a block, the state as it is -/
theorem Inv.call' {s' : Shared} {ch : List Addr} (I : Inv X pins σ H s) (ho : s'.os = s.os) (u : Un (frs X.stack) ch H H' s.heap s'.heap) (hok : HOk X.prog X.w H' s'.heap) (hg : AllBare s'.gens)
    (hch : ∀ b ∈ ch, (b ∈ X.ex ∨ X.s₀.heap.objs.size ≤ b) ∧ b ≠ X.env.locals ∧ (∀ x c, X.env.cells.lookup x = some c → c ≠ b) ∧ ∀ p ∈ X.pn ++ pins, p.1 ≠ b) : Inv X pins σ H' s' := by
  obtain ⟨h', g', d', t', o'⟩ := s'
  have e : o' = s.os := ho
  subst e
  exact I.call (g' := g') (t' := t') (d' := d') u hok hg hch
end

/-! ### the judgements -/
/-- an exception: its class, its own dict's address (where it has one), the abstract heap behind it -/
abbrev XK := Value → Option Addr → Hp → Prop
abbrev St := List (Option V)
abbrev VK := V → Hp → Prop
/-- an expression's reading; a test's; an argument list's -/
abbrev TE := St → Hp → VK → Prop
abbrev TT := St → Hp → (Bool → Hp → Prop) → Prop
abbrev TA := St → Hp → (List V → Hp → Prop) → Prop
/-- what is wanted behind a statement -/
structure Ends where
  nx : St → Hp → Prop
  rt : VK
  bk : St → Hp → Prop := fun _ _ => False
  ct : St → Hp → Prop := fun _ _ => False
abbrev TS := Ends → St → Hp → Prop

def EP (X : Cx) (pins : List (Addr × Obj)) (σ : St) (Q : VK) (u : Value) (s' : Shared) : Prop := ∃ v H', Inv X pins σ H' s' ∧ RelV v u ∧ Q v H'
def TP (X : Cx) (pins : List (Addr × Obj)) (σ : St) (Q : Bool → Hp → Prop) (b : Bool) (s' : Shared) : Prop := ∃ H', Inv X pins σ H' s' ∧ Q b H'
def AP (X : Cx) (pins : List (Addr × Obj)) (σ : St) (Q : List V → Hp → Prop) (us : List Value) (s' : Shared) : Prop := ∃ vs H', Inv X pins σ H' s' ∧ Vals vs us ∧ Q vs H'
def SP (X : Cx) (pins : List (Addr × Obj)) (D : Ends) (f : Flow) (s' : Shared) : Prop :=
  match f with
  | .next => ∃ σ' H', Inv X pins σ' H' s' ∧ D.nx σ' H'
  | .brk => ∃ σ' H', Inv X pins σ' H' s' ∧ D.bk σ' H'
  | .cont => ∃ σ' H', Inv X pins σ' H' s' ∧ D.ct σ' H'
  | .ret u => ∃ v σ' H', Inv X pins σ' H' s' ∧ RelV v u ∧ D.rt v H'

def PE (X : Cx) (e : Expr) (t : TE) : Prop :=
  ∀ (pins : List (Addr × Obj)) (s : Shared) (σ : St) (H : Hp) (Q : VK), Inv X pins σ H s → t σ H Q → wpAny (model X.prog X.w) X.A (eval e X.env) (EP X pins σ Q) X.xe s
def PT (X : Cx) (e : Expr) (t : TT) : Prop :=
  ∀ (pins : List (Addr × Obj)) (s : Shared) (σ : St) (H : Hp) (Q : Bool → Hp → Prop), Inv X pins σ H s → t σ H Q → wpAny (model X.prog X.w) X.A (isTrue e X.env (eval e X.env)) (TP X pins σ Q) X.xe s
/-- a test whatever its 'whole' is (and, or) -/
def PW (X : Cx) (e : Expr) (t : TT) : Prop :=
  ∀ (whole : Sem Value) (pins : List (Addr × Obj)) (s : Shared) (σ : St) (H : Hp) (Q : Bool → Hp → Prop), Inv X pins σ H s → t σ H Q → wpAny (model X.prog X.w) X.A (isTrue e X.env whole) (TP X pins σ Q) X.xe s
theorem PW.pt {X : Cx} {e : Expr} {t : TT} (h : PW X e t) : PT X e t := h _
/-- an argument list (no star), from the left -/
def PA (X : Cx) (es : List Expr) (t : TA) : Prop :=
  ∀ (pos : Pos) (pins : List (Addr × Obj)) (s : Shared) (σ : St) (H : Hp) (Q : List V → Hp → Prop), Inv X pins σ H s → t σ H Q → wpAny (model X.prog X.w) X.A (spliced (backTo pos (starEach es X.env))) (AP X pins σ Q) X.xe s
def PS (X : Cx) (st : Stmt) (t : TS) : Prop :=
  ∀ (pins : List (Addr × Obj)) (s : Shared) (σ : St) (H : Hp) (D : Ends), Inv X pins σ H s → t D σ H → wpAny (model X.prog X.w) X.A (exec st X.env) (SP X pins D) X.xe s
def PSs (X : Cx) (st : List Stmt) (t : TS) : Prop :=
  ∀ (pins : List (Addr × Obj)) (s : Shared) (σ : St) (H : Hp) (D : Ends), Inv X pins σ H s → t D σ H → wpAny (model X.prog X.w) X.A (execs st X.env) (SP X pins D) X.xe s
/-- weaken the end -/
theorem thn {α : Type} {t : Sem α} {Q Q' : α → Shared → Prop} {M : Model} {A : Around} {E : Value → Shared → Prop} {s : Shared} (h : wpAny M A t Q E s) (hQ : ∀ a s, Q a s → Q' a s) : wpAny M A t Q' E s := wpAny_mono h hQ fun _ _ x => x
end L2

namespace L2
open PySem PySem.Spec PyProof.Rows
section
variable {X : Cx}

/-! ### names and constants -/
inductive tVarI (i : Nat) (σ : St) (H : Hp) (Q : VK) : Prop | mk (v) (h0 : σ[i]? = some (some v)) (h1 : Q v H) : tVarI i σ H Q
def tVar (i : Nat) : TE := fun σ H Q => tVarI i σ H Q
def tC (v : V) : TE := fun _ H Q => Q v H
theorem pe_var {i : Nat} {x : Str} {pos : Pos} (hN : X.N[i]? = some x) (hv : Vis X.env.scope x) (hd : (x == ("__debug__" : Str)) = false := by decide) (hcd : (x == ("__classdict__" : Str)) = false := by decide) : PE X (.Name x pos) (tVar i) := by
  intro pins s σ H Q I h
  obtain ⟨v, e, h⟩ := h
  obtain ⟨m, hn, hl⟩ := I.loc
  obtain ⟨u, r, l⟩ := hl i x v hN e hv
  have fin : EP X pins σ Q u s := ⟨v, H, I, r, h⟩
  rcases l with ⟨hk, hm⟩ | ⟨hk, c, hc, hcell⟩
  · exact wpAny_Name (wpAny_loadName_local I.ok.kind hk hn hm fin) hd
  · rcases hk with hk | hk
    · exact wpAny_Name (wpAny_loadName_cell I.ok.kind hk hc hcell fin) hd
    · exact wpAny_Name (wpAny_loadName_free I.ok.kind hk hc hcell fin hcd) hd
theorem pe_int {i j pos} : PE X (.Constant (.int i) j pos) (tC (.int i)) := fun _ _ _ H _ I h => wpAny_Constant_int ⟨.int i, H, I.tok _, ⟨_, rfl⟩, h⟩
theorem pe_bl {b j pos} : PE X (.Constant (.bool b) j pos) (tC (.bl b)) := fun _ _ _ H _ I h => Constant_bool ⟨.bl b, H, I, rfl, h⟩
theorem pe_str {x j pos} : PE X (.Constant (.str x) j pos) (tC (.str x)) := fun _ _ _ H _ I h => Calls.Constant_str ⟨.str x, H, I.tok _, ⟨_, rfl⟩, h⟩

/-- a global name of the def -/
def Gl (X : Cx) (x : Str) : Prop := X.env.kindOf x = some .globalImplicit
theorem ld_glob {E : Value → Shared → Prop} {pins : List (Addr × Obj)} {s : Shared} {σ : St} {H : Hp} {x : Str} {u : Value} {pos : Pos} {Q : Value → Shared → Prop} (I : Inv X pins σ H s) (hg : Gl X x) (hm : X.mg x = some u) (h : Q u s)
    (hd : (x == ("__debug__" : Str)) = false := by decide) : wpAny (model X.prog X.w) X.A (eval (.Name x pos) X.env) Q E s :=
  Calls.Name_function_global I.ok.kind hg (Calls.loadGlobal_global (by rw [I.ok.glob]; exact I.mod.glob.keeps I.bk) hm h) hd
theorem ld_blt {E : Value → Shared → Prop} {pins : List (Addr × Obj)} {s : Shared} {σ : St} {H : Hp} {x : Str} {u : Value} {pos : Pos} {Q : Value → Shared → Prop} (I : Inv X pins σ H s) (hg : Gl X x) (hm : X.mg x = none) (hv : bootBuiltins x = some u) (h : Q u s)
    (hn : x ≠ "__name__" := by decide) (hd : (x == ("__debug__" : Str)) = false := by decide) : wpAny (model X.prog X.w) X.A (eval (.Name x pos) X.env) Q E s := by
  obtain ⟨mb, h1, h2⟩ := I.mod.blt
  exact Calls.Name_function_global I.ok.kind hg (Calls.loadGlobal_builtin (by rw [I.ok.glob]; exact I.mod.glob.keeps I.bk) hm (by rw [I.ok.blt]; exact h1.keeps I.bk) ((h2 x hn).trans hv) h) hd
theorem pe_bltn {x : Str} {v : V} {u : Value} {pos : Pos} (hg : Gl X x) (hm : X.mg x = none) (hv : bootBuiltins x = some u) (r : RelV v u) (hn : x ≠ "__name__" := by decide) (hd : (x == ("__debug__" : Str)) = false := by decide) : PE X (.Name x pos) (tC v) :=
  fun _ _ _ H _ I h => ld_blt I hg hm hv ⟨v, H, I, r, h⟩ hn hd

/-! ### arithmetic -/
variable {a b : Expr} {ta tb : TE} {pos : Pos}
/-! ### comparisons -/
def PC (X : Cx) (op : CmpOp) (a b : Expr) (t : TE) : Prop :=
  ∀ (pins : List (Addr × Obj)) (s : Shared) (σ : St) (H : Hp) (Q : VK), Inv X pins σ H s → t σ H Q →
    wpAny (model X.prog X.w) X.A (eval a X.env) (fun v s₁ => wpAny (model X.prog X.w) X.A (eval b X.env) (fun u s₂ => wpAny (model X.prog X.w) X.A (compareOp op v u) (EP X pins σ Q) X.xe s₂) X.xe s₁) X.xe s
/-- a comparison as a value, as a test -/
inductive tBI (Q : Bool → Hp → Prop) (x : V) (H1 : Hp) : Prop | mk (c) (h0 : x = .bl c) (h1 : Q c H1) : tBI Q x H1
def tB (t : TE) : TT := fun σ H Q => t σ H fun x H1 => tBI Q x H1
theorem pt_cmp {op : CmpOp} {t : TE} (h : PC X op a b t) (h1 : behindInMarks op b = false := by first | exact nobehind _ (by decide) (by decide) | rfl) : PT X (.Compare a [op] [b] pos) (tB t) := by
  intro pins s σ H Q I hw
  refine wpAny_isTrue_Compare1 (thn (h pins s σ H _ I hw) fun v s1 h1 => thn h1 fun u s2 h2 => thn h2 fun c s3 ⟨x, H1, I1, r1, q1⟩ => ?_) h1
  obtain ⟨d, rfl, q⟩ := q1
  cases r1
  exact wpAny_truthy_bool ⟨H1, I1, q⟩
/-- an expression whose value is a bool, as a test -/
theorem pt_val {e : Expr} {t : TE} (h : PE X e t) (he : ∀ whole, isTrue e X.env whole = (do let v ← whole; standAt e.pos; holding [v] (truthy v)) := by intro _; rfl) : PT X e (tB t) := by
  intro pins s σ H Q I hw
  refine isTrue_plain (thn (h pins s σ H _ I hw) fun v s1 ⟨x, H1, I1, r1, q1⟩ => ?_) (he _)
  obtain ⟨d, rfl, q⟩ := q1
  cases r1
  exact wpAny_truthy_bool ⟨H1, I1, q⟩

/-! ### and, or, not -/
variable {tA tB' : TT} {rest : List Expr}
def tAnd (t u : TT) : TT := fun σ H Q => t σ H fun c H1 => if c = true then u σ H1 Q else Q false H1
def tOr (t u : TT) : TT := fun σ H Q => t σ H fun c H1 => if c = true then Q true H1 else u σ H1 Q
def tNot (t : TT) : TT := fun σ H Q => t σ H fun c H1 => Q (!c) H1
theorem pw_and1 (ha : PT X a tA) : PW X (.BoolOp .And [a] pos) tA := by
  intro wh pins s σ H Q I h
  refine isTrue_and (thn (ha pins s σ H Q I h) fun c s1 e => ?_)
  cases c with
  | true => exact isTrue_and_nil e
  | false => exact e
theorem pw_or1 (ha : PT X a tA) : PW X (.BoolOp .Or [a] pos) tA := by
  intro wh pins s σ H Q I h
  refine isTrue_or (thn (ha pins s σ H Q I h) fun c s1 e => ?_)
  cases c with
  | false => exact isTrue_or_nil e
  | true => exact e
theorem pw_and (ha : PT X a tA) (hb : PW X (.BoolOp .And (b :: rest) pos) tB') : PW X (.BoolOp .And (a :: b :: rest) pos) (tAnd tA tB') := by
  intro wh pins s σ H Q I h
  refine isTrue_and (thn (ha pins s σ H _ I h) fun c s1 ⟨H1, I1, q1⟩ => ?_)
  cases c with
  | true => exact hb wh pins s1 σ H1 Q I1 q1
  | false => exact ⟨H1, I1, q1⟩
theorem pw_or (ha : PT X a tA) (hb : PW X (.BoolOp .Or (b :: rest) pos) tB') : PW X (.BoolOp .Or (a :: b :: rest) pos) (tOr tA tB') := by
  intro wh pins s σ H Q I h
  refine isTrue_or (thn (ha pins s σ H _ I h) fun c s1 ⟨H1, I1, q1⟩ => ?_)
  cases c with
  | true => exact ⟨H1, I1, q1⟩
  | false => exact hb wh pins s1 σ H1 Q I1 q1
theorem pt_not (ha : PT X a tA) : PT X (.UnaryOp .Not a pos) (tNot tA) := by
  intro pins s σ H Q I h
  exact isTrue_not (ha pins s σ H (fun c H1 => Q (!c) H1) I h)
/-- .. as values (bools) -/
inductive tAndVI (tb : TE) (σ : St) (Q : VK) (x : V) (H1 : Hp) : Prop | mk (c) (h0 : x = .bl c) (h1 : if c = true then tb σ H1 Q else Q (.bl false) H1) : tAndVI tb σ Q x H1
def tAndV (ta tb : TE) : TE := fun σ H Q => ta σ H fun x H1 => tAndVI tb σ Q x H1
inductive tOrVI (tb : TE) (σ : St) (Q : VK) (x : V) (H1 : Hp) : Prop | mk (c) (h0 : x = .bl c) (h1 : if c = true then Q (.bl true) H1 else tb σ H1 Q) : tOrVI tb σ Q x H1
def tOrV (ta tb : TE) : TE := fun σ H Q => ta σ H fun x H1 => tOrVI tb σ Q x H1
inductive tNotVI (Q : VK) (x : V) (H1 : Hp) : Prop | mk (c) (h0 : x = .bl c) (h1 : Q (.bl (!c)) H1) : tNotVI Q x H1
def tNotV (ta : TE) : TE := fun σ H Q => ta σ H fun x H1 => tNotVI Q x H1
theorem pe_one {op} {t : TE} (h : PE X a t) : PE X (.BoolOp op [a] pos) t := fun pins s σ H Q I hw => BoolOp_one (h pins s σ H Q I hw)
theorem pe_and (ha : PE X a ta) (hb : PE X (.BoolOp .And (b :: rest) pos) tb) : PE X (.BoolOp .And (a :: b :: rest) pos) (tAndV ta tb) := by
  intro pins s σ H Q I h
  refine BoolOp_and (thn (ha pins s σ H _ I h) fun v s1 ⟨x, H1, I1, r1, q1⟩ => ?_)
  obtain ⟨c, rfl, q1⟩ := q1
  cases r1
  refine wpAny_truthy_bool ?_
  cases c with
  | true => exact hb pins s1 σ H1 Q I1 q1
  | false => exact ⟨.bl false, H1, I1, rfl, q1⟩
theorem pe_or (ha : PE X a ta) (hb : PE X (.BoolOp .Or (b :: rest) pos) tb) : PE X (.BoolOp .Or (a :: b :: rest) pos) (tOrV ta tb) := by
  intro pins s σ H Q I h
  refine BoolOp_or (thn (ha pins s σ H _ I h) fun v s1 ⟨x, H1, I1, r1, q1⟩ => ?_)
  obtain ⟨c, rfl, q1⟩ := q1
  cases r1
  refine wpAny_truthy_bool ?_
  cases c with
  | false => exact hb pins s1 σ H1 Q I1 q1
  | true => exact ⟨.bl true, H1, I1, rfl, q1⟩
theorem pe_not (ha : PE X a ta) : PE X (.UnaryOp .Not a pos) (tNotV ta) := by
  intro pins s σ H Q I h
  refine UnaryOp_ (thn (ha pins s σ H _ I h) fun v s1 ⟨x, H1, I1, r1, q1⟩ => ?_)
  obtain ⟨c, rfl, q1⟩ := q1
  cases r1
  exact not_of (wpAny_truthy_bool ⟨.bl (!c), H1, I1, rfl, q1⟩)
end
end L2

namespace L2
open PySem PySem.Spec PyProof.Rows

/-! ### a list, a tuple that is read: tracked, frozen, or an object of the module -/
def SqL (K : PySem.W.Frag) (H : Hp) (a : Addr) (xs : List V) : Prop :=
  Rd H a (.lst xs) ∨
    ∃ (o : Obj) (its : Array Value) (n : Nat), K.lookup a = some o ∧ o.cls = .type "list" ∧ o.dict = none ∧ o.data = .seq its n ∧ its.size ≤ sizeLine ∧ Vals xs its.toList
def SqT (K : PySem.W.Frag) (H : Hp) (a : Addr) (xs : List V) : Prop :=
  Rd H a (.tup xs) ∨
    ∃ (o : Obj) (its : Array Value) (n : Nat), K.lookup a = some o ∧ o.cls = .type "tuple" ∧ o.data = .seq its n ∧ its.size ≤ sizeLine ∧ Vals xs its.toList
def absV : Value → Option V
  | .none => some .non
  | .bool b => some (.bl b)
  | .int i _ => some (.int i)
  | .str x _ => some (.str x)
  | .bytes b _ => some (.byt b)
  | .float b _ => some (.flt b)
  | .ref a => some (.ref a)
  | .type n => some (.ty n)
  | _ => none
theorem RelV.abs {x : V} {u : Value} (r : RelV x u) : absV u = some x := by
  cases x with
  | non => cases r; rfl
  | bl _ => cases r; rfl
  | int _ => obtain ⟨t, rfl⟩ := r; rfl
  | str _ => obtain ⟨t, rfl⟩ := r; rfl
  | byt _ => obtain ⟨t, rfl⟩ := r; rfl
  | flt _ => obtain ⟨t, rfl⟩ := r; rfl
  | ref _ => cases r; rfl
  | ty _ => cases r; rfl
theorem RelV.inj {x y : V} {u : Value} (r : RelV x u) (q : RelV y u) : x = y := Option.some.inj (r.abs.symm.trans q.abs)
theorem Vals.inj : ∀ {xs ys : List V} {us : List Value}, Vals xs us → Vals ys us → xs = ys
  | _, _, _, .nil, .nil => rfl
  | _, _, _, .cons r t, .cons r' t' => by rw [r.inj r', Vals.inj t t']
section
variable {X : Cx} {pins : List (Addr × Obj)} {σ : St} {H : Hp} {s : Shared} {a : Addr} {xs ys : List V}
theorem SqL.of {K : PySem.W.Frag} (h : H a = some (.lst xs)) : SqL K H a xs := .inl (.inl h)
theorem SqT.of {K : PySem.W.Frag} (h : H a = some (.tup xs)) : SqT K H a xs := .inl (.inl h)
theorem Inv.list (I : Inv X pins σ H s) (h : SqL X.K H a xs) : ∃ its : List Value, Vals xs its ∧ PlainL s.heap a its.toArray ∧ xs.length ≤ sizeLine := by
  rcases h with h | ⟨o, its, n, hk, hc, hd, hs, hz, r⟩
  · obtain ⟨z, its, n, r, e⟩ := h.ok I.hok
    exact ⟨its, r, ⟨_, n, e, rfl, rfl, rfl⟩, z⟩
  · refine ⟨its.toList, r, ⟨o, n, I.kIn a o hk, hc, hd, by simpa using hs⟩, ?_⟩
    have e := r.length
    simp only [Array.length_toList] at e
    omega
theorem Inv.tuple (I : Inv X pins σ H s) (h : SqT X.K H a xs) : ∃ its : List Value, Vals xs its ∧ IsTup s.heap a its.toArray ∧ xs.length ≤ sizeLine := by
  rcases h with h | ⟨o, its, n, hk, hc, hs, hz, r⟩
  · obtain ⟨z, its, r, p⟩ := h.ok I.hok
    exact ⟨its, r, p, z⟩
  · refine ⟨its.toList, r, ⟨o, I.kIn a o hk, hc, n, by simpa using hs⟩, ?_⟩
    have e := r.length
    simp only [Array.length_toList] at e
    omega
theorem Inv.list_inj (I : Inv X pins σ H s) (h : SqL X.K H a xs) (h' : SqL X.K H a ys) : xs = ys := by
  obtain ⟨its, r, ⟨o, n, e, _, _, d⟩, _⟩ := I.list h
  obtain ⟨its', r', ⟨o', n', e', _, _, d'⟩, _⟩ := I.list h'
  rw [e] at e'; cases e'
  rw [d] at d'
  injection d' with d1 _
  have : its = its' := by simpa using congrArg Array.toList d1
  subst this
  exact r.inj r'
end

/-! ### another wish about exceptions -/
abbrev Cx.wish (X : Cx) (E : Value → Shared → Prop) : Cx := { X with xe := E }
/-- no exception leaves -/
abbrev Cx.nox (X : Cx) : Cx := X.wish fun _ _ => False
theorem Cx.Ok.wish {X : Cx} (ok : X.Ok) (E : Value → Shared → Prop) : (X.wish E).Ok :=
  ⟨ok.mod, ok.kind, ok.glob, ok.blt, ok.above, ok.inj, ok.has, ok.cab, ok.hd, ok.frames, ok.stk, ok.exf, ok.bs, ok.bsz, ok.noex, ok.exfs, ok.funs, ok.frf⟩
theorem Cx.Ok.unwish {X : Cx} {E : Value → Shared → Prop} (ok : (X.wish E).Ok) : X.Ok :=
  ⟨ok.mod, ok.kind, ok.glob, ok.blt, ok.above, ok.inj, ok.has, ok.cab, ok.hd, ok.frames, ok.stk, ok.exf, ok.bs, ok.bsz, ok.noex, ok.exfs, ok.funs, ok.frf⟩
section
variable {X : Cx} {pins : List (Addr × Obj)} {σ : St} {H : Hp} {s : Shared} {E : Value → Shared → Prop}
theorem Inv.wish (I : Inv X pins σ H s) (E : Value → Shared → Prop) : Inv (X.wish E) pins σ H s := ⟨I.ok.wish E, I.os, I.bare, I.base, I.loc, I.cell, I.free, I.freeC, I.pin, I.hok, I.len⟩
theorem Inv.unwish (I : Inv (X.wish E) pins σ H s) : Inv X pins σ H s := ⟨I.ok.unwish, I.os, I.bare, I.base, I.loc, I.cell, I.free, I.freeC, I.pin, I.hok, I.len⟩
theorem SP.unwish {D : Ends} {f : Flow} {s' : Shared} (h : SP (X.wish E) pins D f s') : SP X pins D f s' := by
  cases f with
  | next => obtain ⟨σ', H', I, q⟩ := h; exact ⟨σ', H', I.unwish, q⟩
  | brk => obtain ⟨σ', H', I, q⟩ := h; exact ⟨σ', H', I.unwish, q⟩
  | cont => obtain ⟨σ', H', I, q⟩ := h; exact ⟨σ', H', I.unwish, q⟩
  | ret u => obtain ⟨v, σ', H', I, r, q⟩ := h; exact ⟨v, σ', H', I.unwish, r, q⟩
theorem PSs.nox {st : List Stmt} {t : TS} (h : PSs X.nox st t) : PSs X st t := fun pins s σ H D I hw =>
  wpAny_mono (h pins s σ H D (I.wish _) hw) (fun _ _ q => q.unwish) fun _ _ z => False.elim z
end

/-! ### blocks and small statements -/
section
variable {X : Cx} {st : Stmt} {rest : List Stmt} {t u : TS} {e : Expr} {te : TE} {pos : Pos}
def tNext : TS := fun D σ H => D.nx σ H
def tSeq (t u : TS) : TS := fun D σ H => t { D with nx := u D } σ H
theorem pss_nil : PSs X [] tNext := fun _ _ σ H _ I h => wpAny_execs_nil ⟨σ, H, I, h⟩
theorem pss_cons (h1 : PS X st t) (h2 : PSs X rest u) : PSs X (st :: rest) (tSeq t u) := by
  intro pins s σ H D I h
  refine wpAny_execs_cons (thn (h1 pins s σ H { D with nx := u D } I h) fun f s1 q => ?_)
  cases f with
  | next =>
    obtain ⟨σ', H', I', q⟩ := q
    exact h2 pins s1 σ' H' D I' q
  | ret v => exact q
  | brk => exact q
  | cont => exact q
theorem pss_one (h1 : PS X st t) : PSs X [st] t := by
  intro pins s σ H D I h
  refine wpAny_execs_cons (thn (h1 pins s σ H D I h) fun f s1 q => ?_)
  cases f with
  | next => exact wpAny_execs_nil q
  | ret v => exact q
  | brk => exact q
  | cont => exact q
/-- in a def's body nothing is shown -/
theorem Inv.quiet {pins : List (Addr × Obj)} {σ : St} {H : Hp} {s : Shared} (I : Inv X pins σ H s) : interactive X.env = false := by simp [interactive, I.ok.kind]
/-- an expression whose value is dropped -/
def tDrop (te : TE) : TS := fun D σ H => te σ H fun _ H1 => D.nx σ H1
theorem ps_expr (he : PE X e te) (hs : swapsWith e none pos.line X.env = pure false := by rfl) : PS X (.Expr e pos) (tDrop te) := by
  intro pins s σ H D I h
  exact wpAny_Expr_any (thn (he pins s σ H _ I h) fun v s1 ⟨x, H1, I1, r1, q1⟩ => ⟨σ, H1, I1, q1⟩) I.quiet hs
def tRet (te : TE) : TS := fun D σ H => te σ H D.rt
theorem ps_ret (he : PE X e te) : PS X (.Return (some e) pos) (tRet te) := by
  intro pins s σ H D I h
  exact wpAny_Return_some (thn (he pins s σ H _ I h) fun v s1 ⟨x, H1, I1, r1, q1⟩ => ⟨x, σ, H1, I1, r1, q1⟩)
def tIfS (c : TT) (t u : TS) : TS := fun D σ H => c σ H fun b H1 => if b = true then t D σ H1 else u D σ H1
theorem ps_if {c : Expr} {a b : List Stmt} {tc : TT} (hc : PT X c tc) (ha : PSs X a t) (hb : PSs X b u) : PS X (.If c a b pos) (tIfS tc t u) := by
  intro pins s σ H D I h
  refine wpAny_If (thn (hc pins s σ H _ I h) fun d s1 ⟨H1, I1, q1⟩ => ?_)
  cases d with
  | true => exact ha pins s1 σ H1 D I1 q1
  | false => exact hb pins s1 σ H1 D I1 q1
end

/-! ### targets -/
abbrev TG := V → St → Hp → (St → Hp → Prop) → Prop
abbrev TGs := List V → St → Hp → (St → Hp → Prop) → Prop
def PG (X : Cx) (target : Expr) (t : TG) : Prop :=
  ∀ (pins : List (Addr × Obj)) (s : Shared) (σ : St) (H : Hp) (v : V) (u : Value) (Q : St → Hp → Prop), Inv X pins σ H s → RelV v u → t v σ H Q →
    wpAny (model X.prog X.w) X.A (assign target X.env u) (fun _ s' => ∃ σ' H', Inv X pins σ' H' s' ∧ Q σ' H') X.xe s
/-- several targets, one after another -/
def PGs (X : Cx) (ts : List Expr) (t : TGs) : Prop :=
  ∀ (pins : List (Addr × Obj)) (s : Shared) (σ : St) (H : Hp) (vs : List V) (us : List Value) (Q : St → Hp → Prop), Inv X pins σ H s → Vals vs us → t vs σ H Q →
    wpAny (model X.prog X.w) X.A (assignInOrder ((assignEach ts X.env).map (·.2)) us) (fun _ s' => ∃ σ' H', Inv X pins σ' H' s' ∧ Q σ' H') X.xe s
section
variable {X : Cx} {pos : Pos}
def gName (i : Nat) : TG := fun v σ H Q => Q (σ.set i (some v)) H
theorem pg_name {i : Nat} {x : Str} (hN : X.N.Nodup) (hi : X.N[i]? = some x) (hx : Loc X.env.scope x) (hf : X.fn x = true ∨ X.env.scope.names.lookup x = some .local := by first | exact .inl rfl | exact .inr rfl | assumption) : PG X (.Name x pos) (gName i) := by
  intro pins s σ H v u Q I r h
  exact wpAny_assign_Name (store_ok I hN hi hx r (fun s' I' => ⟨_, H, I', h⟩) hf)
def gNil : TGs := fun vs σ H Q => vs = [] ∧ Q σ H
def gCons (t : TG) (u : TGs) : TGs := fun vs σ H Q => ∃ v r, vs = v :: r ∧ t v σ H fun σ' H' => u r σ' H' Q
theorem pgs_nil : PGs X [] gNil := by
  intro pins s σ H vs us Q I r h
  obtain ⟨e, h⟩ := h
  subst e
  cases r
  exact assignInOrder_nil ⟨σ, H, I, h⟩
theorem pgs_cons {e : Expr} {es : List Expr} {t : TG} {u : TGs} (h1 : PG X e t) (h2 : PGs X es u)
    (hs : (assignEach (e :: es) X.env).map (·.2) = assign e X.env :: (assignEach es X.env).map (·.2) := by rfl) : PGs X (e :: es) (gCons t u) := by
  intro pins s σ H vs us Q I r h
  obtain ⟨v, vr, e1, h⟩ := h
  subst e1
  cases r with
  | cons r rr =>
    rw [hs]
    refine assignInOrder_cons (thn (h1 pins s σ H _ _ _ I r h) fun _ s1 ⟨σ1, H1, I1, q1⟩ => ?_)
    exact h2 pins s1 σ1 H1 _ _ Q I1 rr q1
/-- (a, b, ..) = a tuple of that length -/
def gTup (K : PySem.W.Frag) (n : Nat) (t : TGs) : TG := fun v σ H Q => ∃ a xs, v = .ref a ∧ SqT K H a xs ∧ xs.length = n ∧ t xs σ H Q
theorem pg_tup {es : List Expr} {k : Nat} {t : TGs} {n : Nat} (hc : X.calm = true) (h : PGs X es t)
    (hn : (assignEach es X.env).length = n := by rfl) (hst : (assignEach es X.env).findIdx? (·.1) = none := by rfl) : PG X (.Tuple es k pos) (gTup X.K n t) := by
  intro pins s σ H v u Q I r hw
  obtain ⟨a, xs, e1, hq, hl, hw⟩ := hw
  subst e1
  cases r
  obtain ⟨its, rv, ht, hz⟩ := I.tuple hq
  refine assign_Tuple_tuple (I.ok.hd hc) ht (by simp [hn, ← hl, rv.length]) hst fun h' hx => ?_
  have I1 : Inv X pins σ H { s with heap := h' } := I.kept (t' := s.toks) fun b o e => hx b o (Nat.ne_of_lt (Heap.lt_size e)) e
  exact h pins _ σ H xs _ Q I1 (by simpa using rv) hw
/-- target = value -/
def tAsg (te : TE) (g : TG) : TS := fun D σ H => te σ H fun x H1 => g x σ H1 D.nx
/-- name = value -/
theorem ps_set {i : Nat} {x : Str} {e : Expr} {te : TE} {pos' : Pos} (hN : X.N.Nodup) (hi : X.N[i]? = some x) (hx : Loc X.env.scope x) (he : PE X e te) (hs : swapsWith e (some (.Name x pos')) pos.line X.env = pure false := by rfl) (hf : X.fn x = true ∨ X.env.scope.names.lookup x = some .local := by first | exact .inl rfl | exact .inr rfl | assumption) :
    PS X (.Assign [.Name x pos'] e pos) (tAsg te (gName i)) := by
  intro pins s σ H D I h
  refine wpAny_Assign_Name (thn (he pins s σ H _ I h) fun v s1 ⟨y, H1, I1, r1, q1⟩ => ?_) hs
  exact store_ok I1 hN hi hx r1 (fun s2 I2 => ⟨_, H1, I2, q1⟩) hf
end

/-! ### while -/
section
variable {X : Cx} {pos : Pos}
/-- the invariant W with its measure -/
def tWhile (c : TT) (tb : TS) : TS := fun D σ H => ∃ W : Nat → St → Hp → Prop, (∃ m, W m σ H) ∧ ∀ m σ H, W m σ H →
  c σ H fun b H1 => if b = true then ∃ N : St → Hp → Prop, (∀ σ' H', N σ' H' → ∃ m', m' < m ∧ W m' σ' H') ∧ tb { D with nx := N, ct := N, bk := D.nx } σ H1 else D.nx σ H1
theorem ps_while {c : Expr} {body : List Stmt} {tc : TT} {tb : TS} (hp : PassesOwn (model X.prog X.w) X.A X.env X.xe) (hc : PT X c tc) (hb : PSs X body tb) : PS X (.While c body [] pos) (tWhile tc tb) := by
  intro pins s σ H D I h
  obtain ⟨W, ⟨m0, w0⟩, turn⟩ := h
  refine wpAny_While (codeAny_whileLoop (fun n s' => ∃ σ' H', Inv X pins σ' H' s' ∧ W n σ' H') ?_ m0 ⟨σ, H, I, w0⟩)
  rintro n s1 ⟨σ1, H1, I1, w1⟩
  refine wpAny_passesOwn hp (thn (hc pins s1 σ1 H1 _ I1 (turn n σ1 H1 w1)) fun b s2 ⟨H2, I2, q2⟩ => ?_)
  cases b with
  | true =>
    obtain ⟨N, hN, q2⟩ := q2
    rw [if_pos rfl]
    refine wpAny_passesOwn hp (thn (hb pins s2 σ1 H2 _ I2 q2) fun f s3 q3 => ?_)
    cases f with
    | next =>
      obtain ⟨σ3, H3, I3, n3⟩ := q3
      obtain ⟨m', hm, w3⟩ := hN σ3 H3 n3
      exact ⟨m', hm, σ3, H3, I3, w3⟩
    | cont =>
      obtain ⟨σ3, H3, I3, n3⟩ := q3
      obtain ⟨m', hm, w3⟩ := hN σ3 H3 n3
      exact ⟨m', hm, σ3, H3, I3, w3⟩
    | brk => exact q3
    | ret v => exact q3
  | false =>
    rw [if_neg Bool.false_ne_true]
    exact wpAny_execs_nil ⟨σ1, H2, I2, q2⟩
end

/-! ### what a loop or a comprehension walks -/
/-- at turn i: it yields x (the heap may grow), or it stops -/
structure It where
  go : Nat → Hp → Prop
  yld : Nat → Hp → V → Hp → Prop
  stop : Nat → Hp → Prop
/-- the iterator's own objects may turn: they are not the frame's, not pinned, younger than the entry (or a comprehension's own) -/
def FpOk (X : Cx) (pins : List (Addr × Obj)) (H : Hp) (b : Addr) : Prop :=
  H b = none ∧ b ≠ X.env.locals ∧ b ∉ X.fs ∧ (b ∈ X.ex ∨ X.s₀.heap.objs.size ≤ b) ∧ (∀ x c, X.env.cells.lookup x = some c → c ≠ b) ∧ ∀ p ∈ X.pn ++ pins, p.1 ≠ b
theorem Inv.fpOk {X : Cx} {pins : List (Addr × Obj)} {σ : St} {H H' : Hp} {s : Shared} {b : Addr} (I : Inv X pins σ H s) (hb : s.heap.objs.size ≤ b) (hn : H' b = none) : FpOk X pins H' b := by
  refine ⟨hn, Nat.ne_of_gt (Nat.lt_of_lt_of_le I.lt hb), I.nofs hb, .inr (Nat.le_trans I.sz hb), fun x c e z => ?_, fun p hp z => ?_⟩
  · obtain ⟨v, q⟩ := I.cell x c e
    exact absurd (Nat.lt_of_lt_of_le q.lt (by rw [z]; exact hb)) (Nat.lt_irrefl _)
  · exact absurd (Nat.lt_of_lt_of_le (Heap.lt_size (I.pin p hp).1) (by rw [z]; exact hb)) (Nat.lt_irrefl _)
structure Turn (P : Program) (w : World) (K : PySem.W.Frag) (tg : Expr) (J : It) (fp : List Addr) (it : Addr) (tn : Nat → Heap → Prop) : Prop where
  mem : it ∈ fp
  obj : ∀ i h, tn i h → ∀ b ∈ fp, ∃ o, h.get? b = some o ∧ ∀ v, o.data ≠ .cell v
  keep : ∀ i h h', tn i h → (∀ b ∈ fp, ∀ o, h.get? b = some o → h'.get? b = some o) → tn i h'
  item : ∀ (X : Cx), X.prog = P → X.w = w → X.K = K → X.calm = true → ∀ (i : Nat) (pins : List (Addr × Obj)) (s : Shared) (σ : St) (H : Hp) (E : Value → Shared → Prop), Inv X pins σ H s → (∀ b ∈ fp, FpOk X pins H b) → tn i s.heap → J.go i H →
    wpAny (model P w) X.A (pyNext (.ref it)) (fun r s1 => ∃ u, r = some u ∧
      wpAny (model P w) X.A (letOwnedTupleGo tg (.ref it) u) (fun _ s2 => ∃ x H', Inv X pins σ H' s2 ∧ RelV x u ∧ J.yld i H x H' ∧ tn (i + 1) s2.heap ∧ ∀ b ∈ fp, H' b = none) E s1) E s
  done : ∀ (X : Cx), X.prog = P → X.w = w → X.K = K → X.calm = true → ∀ (i : Nat) (pins : List (Addr × Obj)) (s : Shared) (σ : St) (H : Hp) (E : Value → Shared → Prop), Inv X pins σ H s → (∀ b ∈ fp, FpOk X pins H b) → tn i s.heap → J.stop i H →
    wpAny (model P w) X.A (pyNext (.ref it)) (fun r s1 => r = none ∧ Inv X pins σ H s1) E s
  self : ∀ (A : Around) (i : Nat) (s : Shared) (Q : Value → Shared → Prop) (E : Value → Shared → Prop), tn i s.heap → Q (.ref it) s → wpAny (model P w) A (pyIter (.ref it)) Q E s
abbrev TI := St → Hp → (It → Hp → Prop) → Prop
/-- an iterator has come -/
def PIE (X : Cx) (pins : List (Addr × Obj)) (σ : St) (tg : Expr) (R : It → Hp → Prop) (itv : Value) (s2 : Shared) : Prop :=
  ∃ (it : Addr) (fp : List Addr) (tn : Nat → Heap → Prop) (J : It) (H' : Hp), itv = .ref it ∧ Inv X pins σ H' s2 ∧ Turn X.prog X.w X.K tg J fp it tn ∧ tn 0 s2.heap ∧ (∀ b ∈ fp, FpOk X pins H' b) ∧ R J H'
def PI (X : Cx) (tg iter : Expr) (wi : TI) : Prop :=
  ∀ (pins : List (Addr × Obj)) (s : Shared) (σ : St) (H : Hp) (R : It → Hp → Prop), Inv X pins σ H s → wi σ H R →
    wpAny (model X.prog X.w) X.A (eval iter X.env) (fun v s1 => wpAny (model X.prog X.w) X.A (pyIter v) (PIE X pins σ tg R) X.xe s1) X.xe s

/-- the step ahead of the store is nothing for an iterator that keeps no tuple -/
theorem go_of {M : Model} {A : Around} {E : Value → Shared → Prop} {s : Shared} {tg : Expr} {it : Addr} {u : Value} {o : Obj} {n : String} {vs : Array Value} {Q : Unit → Shared → Prop} (ho : s.heap.get? it = some o) (hc : o.cls = .type n) (hd : o.data = .fields vs)
    (hn : ["enumerate", "zip", "dict_itemiterator", "dict_reverseitemiterator", "odict_iterator", "itertools.zip_longest", "itertools.pairwise"].contains n = false) (hQ : Q () s) : wpAny M A (letOwnedTupleGo tg (.ref it) u) Q E s := by
  unfold letOwnedTupleGo
  cases tg <;> first
    | exact wpAny_pure hQ
    | (cases u <;> first
        | exact wpAny_pure hQ
        | (refine wpAny_bind (wpAny_load ho ?_)
           rw [hc, hd]
           show wpAny M A (if (["enumerate", "zip", "dict_itemiterator", "dict_reverseitemiterator", "odict_iterator", "itertools.zip_longest", "itertools.pairwise"].contains n && vs[0]? == some (rawInt _)) = true then _ else _) Q E s
           rw [if_neg (by intro h; rw [hn, Bool.false_and] at h; cases h)]
           exact wpAny_pure hQ))

/-- the list at a, as it stands at each turn (a loop may append to it) -/
def Itl (K : PySem.W.Frag) (a : Addr) : It :=
  ⟨fun i H => ∃ xs x, SqL K H a xs ∧ xs[i]? = some x, fun i H x H' => H' = H ∧ ∀ xs, SqL K H a xs → xs[i]? = some x, fun i H => ∃ xs, SqL K H a xs ∧ xs.length ≤ i⟩
/-- lo, lo + 1, .. (n of them) -/
def Itr (lo : Int) (n : Nat) : It := ⟨fun i _ => i < n, fun i H x H' => H' = H ∧ x = .int (lo + i), fun i _ => n ≤ i⟩
theorem turn_list {P : Program} {w : World} {K : PySem.W.Frag} {tg : Expr} (a it : Addr) : Turn P w K tg (Itl K a) [it] it (fun i h => h.IsListIter it a i) where
  mem := by simp
  obj := fun i h st b hb => by
    have e : b = it := by simpa using hb
    subst e
    obtain ⟨o, e, c, d⟩ := st
    exact ⟨o, e, fun v z => by rw [d] at z; cases z⟩
  keep := fun i h h' st k => st.at fun o e => k it (by simp) o e
  item := by
    intro X hP hw hK hc i pins s σ H E I hf st hg
    subst hP hw hK
    obtain ⟨xs, x, hq, hx⟩ := hg
    obtain ⟨its, rv, p, hz⟩ := I.list hq
    obtain ⟨u, hu, ru⟩ := rv.get hx
    obtain ⟨f0, f1, f2, f3, f4, f5⟩ := hf it (by simp)
    refine wpAny_pyNext_list_item st p.isList (x := u) (by simpa using hu) fun h' st' sb => ?_
    have I1 : Inv X pins σ H { s with heap := h' } := I.turned (t' := s.toks) (fun b o hb e => (sb.2 b hb).trans e) f0 f1 f3 f4 f5
    obtain ⟨o, e, c, d⟩ := id st'
    exact ⟨u, rfl, go_of (s := { s with heap := h' }) e c d (by decide) ⟨x, H, I1, ru, ⟨rfl, fun ys hy => by rw [I.list_inj hy hq]; exact hx⟩, st', fun b hb => (hf b hb).1⟩⟩
  done := by
    intro X hP hw hK hc i pins s σ H E I hf st hg
    subst hP hw hK
    obtain ⟨xs, hq, hx⟩ := hg
    obtain ⟨its, rv, p, hz⟩ := I.list hq
    obtain ⟨f0, f1, f2, f3, f4, f5⟩ := hf it (by simp)
    have hl := rv.length
    exact wpAny_pyNext_list_end (I.ok.hd hc) st p.isList (by simp; omega) fun h' eb => ⟨rfl, I.turned (t' := s.toks) (fun b o hb e => eb b o hb e) f0 f1 f3 f4 f5⟩
  self := fun _ _ _ _ _ st h => wpAny_pyIter_listiter st h
theorem turn_range {P : Program} {w : World} {K : PySem.W.Frag} {tg : Expr} (it : Addr) (lo : Int) (n : Nat) : Turn P w K tg (Itr lo n) [it] it (fun i h => IsRangeIter h it (lo + (i : Nat) * 1) ((n : Int) - (i : Nat)) 1) where
  mem := by simp
  obj := fun i h st b hb => by
    have e : b = it := by simpa using hb
    subst e
    exact ⟨_, st, fun v z => by
      have z' : Data.fields _ = Data.cell v := z
      cases z'⟩
  keep := fun i h h' st k => k it (by simp) _ st
  item := by
    intro X hP hw hK hc i pins s σ H E I hf st hg
    subst hP hw hK
    obtain ⟨f0, f1, f2, f3, f4, f5⟩ := hf it (by simp)
    have W := Walks.range (prog := X.prog) (w := X.w) (I.ok.hd hc) it lo 1 n
    refine W.item i s _ _ hg st fun v h' tk hv st' kk => ?_
    obtain ⟨t, rfl⟩ := hv
    have I1 : Inv X pins σ H { s with heap := h', toks := tk } := I.turned (fun b o hb e => kk b o (by simpa using hb) e) f0 f1 f3 f4 f5
    refine ⟨_, rfl, go_of (s := { s with heap := h', toks := tk }) (n := "range_iterator") st' rfl rfl (by decide) ⟨.int (lo + i), H, I1, ⟨t, ?_⟩, ⟨rfl, rfl⟩, st', fun b hb => (hf b hb).1⟩⟩
    rw [Int.mul_one]
  done := by
    intro X hP hw hK hc i pins s σ H E I hf st hg
    subst hP hw hK
    obtain ⟨f0, f1, f2, f3, f4, f5⟩ := hf it (by simp)
    exact wpAny_pyNext_range_end (I.ok.hd hc) st (by have : n ≤ i := hg; omega) fun h' eb => ⟨rfl, I.turned (t' := s.toks) (fun b o hb e => eb b o hb e) f0 f1 f3 f4 f5⟩
  self := fun _ _ _ _ _ st h => wpAny_pyIter_rangeiter st h
end L2

namespace L2
open PySem PySem.Spec PyProof.Rows
section
variable {X : Cx} {tg : Expr}
inductive iListI (K : PySem.W.Frag) (R : It → Hp → Prop) (x : V) (H1 : Hp) : Prop | mk (a) (h0 : x = .ref a) (h1 : (∃ xs, SqL K H1 a xs)) (h2 : R (Itl K a) H1) : iListI K R x H1
def iList (K : PySem.W.Frag) (tl : TE) : TI := fun σ H R => tl σ H fun x H1 => iListI K R x H1
theorem pi_list {l : Expr} {tl : TE} (hl : PE X l tl) : PI X tg l (iList X.K tl) := by
  intro pins s σ H R I h
  refine thn (hl pins s σ H _ I h) fun v s1 ⟨x, H1, I1, r1, q1⟩ => ?_
  obtain ⟨a, e, ⟨xs, hq⟩, q⟩ := q1
  subst e
  cases r1
  obtain ⟨its, rv, p, hz⟩ := I1.list hq
  refine wpAny_pyIter_list p.isList ?_
  refine ⟨s1.heap.objs.size, [s1.heap.objs.size], _, _, H1, rfl, I1.kept (t' := s1.toks) fun b o e => Heap.get?_push_of_some _ e, turn_list a _, ⟨_, Heap.get?_push_size _ rfl, rfl, rfl⟩, fun b hb => ?_, q⟩
  have e : b = s1.heap.objs.size := by simpa using hb
  subst e
  exact I1.fpOk (Nat.le_refl _) (I1.hok.fresh (Nat.le_refl _))
/-- a range object just made, walked -/
theorem range_it {pins : List (Addr × Obj)} {σ : St} {H : Hp} {s : Shared} {R : It → Hp → Prop} {E : Value → Shared → Prop} {lo hi : Int} {t u v : Tok} {tk : Nat} (I : Inv X pins σ H s) (h1 : -(2 ^ 62) ≤ lo) (h2 : lo < 2 ^ 62) (h3 : -(2 ^ 62) ≤ hi) (h4 : hi < 2 ^ 62)
    (q : R (Itr lo (hi - lo).toNat) H) : wpAny (model X.prog X.w) X.A (pyIter (.ref s.heap.objs.size)) (PIE X pins σ tg R) E { s with heap := s.heap.push { cls := .type "range", data := .fields #[.int lo t, .int hi u, .int 1 v] }, toks := tk } := by
  refine wpAny_pyIter_range (IsRange.new ..) (small_one h1 h2 h3 h4) ?_
  have I1 : Inv X pins σ H { s with heap := s.heap.push { cls := .type "range", data := .fields #[.int lo t, .int hi u, .int 1 v] }, toks := tk } := I.kept fun b o e => Heap.get?_push_of_some _ e
  refine ⟨(s.heap.push { cls := .type "range", data := .fields #[.int lo t, .int hi u, .int 1 v] }).objs.size, [(s.heap.push { cls := .type "range", data := .fields #[.int lo t, .int hi u, .int 1 v] }).objs.size], _, _, H, rfl,
    I1.kept (t' := tk) fun b o e => Heap.get?_push_of_some _ e, turn_range _ lo (hi - lo).toNat, ?_, fun b hb => ?_, q⟩
  · have e1 : lo + ((0 : Nat) : Int) * 1 = lo := by simp
    have e2 : (((hi - lo).toNat : Nat) : Int) - ((0 : Nat) : Int) = Builtin.Range.rangeSize lo hi 1 := by rw [rangeSize_one]; split <;> omega
    show IsRangeIter _ _ (lo + ((0 : Nat) : Int) * 1) ((((hi - lo).toNat : Nat) : Int) - ((0 : Nat) : Int)) 1
    rw [e1, e2]
    exact Heap.get?_push_size _ rfl
  · have e : b = (s.heap.push { cls := .type "range", data := .fields #[.int lo t, .int hi u, .int 1 v] }).objs.size := by simpa using hb
    subst e
    exact I1.fpOk (Nat.le_refl _) (I1.hok.fresh (Nat.le_refl _))
inductive iRng1I (R : It → Hp → Prop) (vs : List V) (H1 : Hp) : Prop | mk (j : Int) (h0 : vs = [.int j]) (h1 : -(2 ^ 62) ≤ j) (h2 : j < 2 ^ 62) (h3 : R (Itr 0 j.toNat) H1) : iRng1I R vs H1
def iRng1 (ta : TA) : TI := fun σ H R => ta σ H fun vs H1 => iRng1I R vs H1
theorem pi_range1 {a : Expr} {ta : TA} {p pos : Pos} (hg : Gl X "range") (hm : X.mg "range" = none) (ha : PA X [a] ta) (hs : starEach [a] X.env = [(false, eval a X.env)] := by rfl) : PI X tg (.Call (.Name "range" p) [a] [] pos) (iRng1 ta) := by
  intro pins s σ H R I h
  refine Call_ (ld_blt I hg hm boot_range (PyProof.Rows.callWith_type1 (thn (ha pos pins s σ H _ I h) fun us s1 ⟨vs, H1, I1, r1, q1⟩ => ?_) hs rfl))
  obtain ⟨j, e, q1, q2, q⟩ := q1
  subst e
  cases r1 with
  | cons r rr =>
    cases rr
    obtain ⟨t, rfl⟩ := r
    exact call_range_1 (range_it I1 (by omega) (by omega) q1 q2 (by simpa using q))
/-! ### for -/
/-- W: the invariant by the turn and a measure; N: what the body is to reach -/
def tFor (wi : TI) (g : TG) (tb : TS) : TS := fun D σ H => wi σ H fun J H1 => ∃ W : Nat → Nat → St → Hp → Prop, (∃ m, W 0 m σ H1) ∧ ∀ i m σ H, W i m σ H →
  (J.stop i H ∧ D.nx σ H) ∨ (J.go i H ∧ ∃ N : St → Hp → Prop, (∀ σ' H', N σ' H' → ∃ m', m' < m ∧ W (i + 1) m' σ' H') ∧ ∀ x H', J.yld i H x H' → g x σ H' fun σ2 H2 => tb { D with nx := N, ct := N, bk := D.nx } σ2 H2)
/-- the records at fp as they stand -/
def pinsAt (fp : List Addr) (h : Heap) : List (Addr × Obj) := fp.filterMap fun b => (h.get? b).map fun o => (b, o)
theorem mem_pinsAt {fp : List Addr} {h : Heap} {b : Addr} {o : Obj} (hb : b ∈ fp) (e : h.get? b = some o) : (b, o) ∈ pinsAt fp h := List.mem_filterMap.mpr ⟨b, hb, by rw [e]; rfl⟩
theorem of_pinsAt {fp : List Addr} {h : Heap} {p : Addr × Obj} (hp : p ∈ pinsAt fp h) : p.1 ∈ fp ∧ h.get? p.1 = some p.2 := by
  obtain ⟨b, hb, e⟩ := List.mem_filterMap.mp hp
  cases q : h.get? b with
  | none => rw [q] at e; cases e
  | some o =>
    rw [q] at e
    have e' : (b, o) = p := Option.some.inj e
    subst e'
    exact ⟨hb, q⟩
theorem Inv.pinned {pins : List (Addr × Obj)} {σ : St} {H : Hp} {s : Shared} {fp : List Addr} (I : Inv X pins σ H s) (hf : ∀ b ∈ fp, FpOk X pins H b) (ho : ∀ b ∈ fp, ∃ o, s.heap.get? b = some o ∧ ∀ v, o.data ≠ .cell v) : Inv X (pins ++ pinsAt fp s.heap) σ H s :=
  I.pins_of fun p hp => (List.mem_append.mp hp).elim (fun z => I.pin p (List.mem_append_right _ z)) fun z => by
    obtain ⟨hb, e⟩ := of_pinsAt z
    obtain ⟨f0, f1, f2, _⟩ := hf p.1 hb
    obtain ⟨o, e', d⟩ := ho p.1 hb
    rw [e] at e'; cases e'
    exact ⟨e, f0, f1, f2, d⟩
theorem Inv.unpinned {pins pl : List (Addr × Obj)} {σ : St} {H : Hp} {s : Shared} (I : Inv X (pins ++ pl) σ H s) : Inv X pins σ H s := I.pins_of fun p hp => I.pin p (List.mem_append_right _ (List.mem_append_left _ hp))
theorem ps_for {iter : Expr} {body : List Stmt} {wi : TI} {g : TG} {tb : TS} {pos : Pos} (hp : PassesOwn (model X.prog X.w) X.A X.env X.xe) (hc : X.calm = true) (hi : PI X tg iter wi) (hg : PG X tg g) (hb : PSs X body tb)
    (hs : ∀ x, foldedSetIterable iter X.env x = pure x := by intro _; rfl) : PS X (.For tg iter body [] pos) (tFor wi g tb) := by
  intro pins s σ H D I h
  refine wpAny_For (thn (hi pins s σ H _ I h) fun v s1 h1 => thn h1 fun itv s2 h2 => ?_) hs
  obtain ⟨it, fp, tn, J, H2, e, I2, T, st2, f2, W, ⟨m0, w0⟩, turn⟩ := h2
  subst e
  -- what stays true of the iterator's objects through the loop
  have stat : ∀ {H' : Hp}, (∀ b ∈ fp, H' b = none) → ∀ b ∈ fp, FpOk X pins H' b := fun hn b hb => ⟨hn b hb, (f2 b hb).2⟩
  refine codeAny_forLoop_any (fun n s' => ∃ i σ' H', Inv X pins σ' H' s' ∧ tn i s'.heap ∧ (∀ b ∈ fp, H' b = none) ∧ W i n σ' H') ?_ m0 ⟨0, σ, H2, I2, st2, fun b hb => (f2 b hb).1, w0⟩
  rintro n s3 ⟨i, σ3, H3, I3, st3, fr3, w3⟩
  rcases turn i n σ3 H3 w3 with ⟨stop, qn⟩ | ⟨go, N, hN, step⟩
  · refine wpAny_passesOwn hp (thn (T.done X rfl rfl rfl hc i pins s3 σ3 H3 X.xe I3 (stat fr3) st3 stop) fun r s4 ⟨hr, I4⟩ => ?_)
    subst hr
    exact wpAny_execs_nil ⟨σ3, H3, I4, qn⟩
  · refine wpAny_passesOwn hp (thn (T.item X rfl rfl rfl hc i pins s3 σ3 H3 X.xe I3 (stat fr3) st3 go) fun r s4 ⟨u, hr, h4⟩ => ?_)
    subst hr
    refine wpAny_passesOwn hp (thn h4 fun _ s5 ⟨x, H5, I5, r5, y5, st5, fr5⟩ => ?_)
    have I5' := I5.pinned (stat fr5) (T.obj _ _ st5)
    refine wpAny_passesOwn hp (thn (hg _ s5 σ3 H5 x u _ I5' r5 (step x H5 y5)) fun _ s6 ⟨σ6, H6, I6, q6⟩ => ?_)
    refine wpAny_passesOwn hp (thn (hb _ s6 σ6 H6 _ I6 q6) fun f s7 q7 => ?_)
    have again : ∀ {σ7 : St} {H7 : Hp}, Inv X (pins ++ pinsAt fp s5.heap) σ7 H7 s7 → N σ7 H7 → ∃ m, m < n ∧ ∃ i σ' H', Inv X pins σ' H' s7 ∧ tn i s7.heap ∧ (∀ b ∈ fp, H' b = none) ∧ W i m σ' H' := fun {σ7 H7} I7 n7 => by
      obtain ⟨m', hm, w7⟩ := hN σ7 H7 n7
      refine ⟨m', hm, i + 1, σ7, H7, I7.unpinned, T.keep _ _ _ st5 fun b hb o e => (I7.pin (b, o) (List.mem_append_right _ (List.mem_append_right _ (mem_pinsAt hb e)))).1, fun b hb => ?_, w7⟩
      obtain ⟨o, e, d⟩ := T.obj _ _ st5 b hb
      exact (I7.pin (b, o) (List.mem_append_right _ (List.mem_append_right _ (mem_pinsAt hb e)))).2.1
    cases f with
    | next => obtain ⟨σ7, H7, I7, n7⟩ := q7; exact again I7 n7
    | cont => obtain ⟨σ7, H7, I7, n7⟩ := q7; exact again I7 n7
    | brk => obtain ⟨σ7, H7, I7, q7⟩ := q7; exact ⟨σ7, H7, I7.unpinned, q7⟩
    | ret v => obtain ⟨x7, σ7, H7, I7, r7, q7⟩ := q7; exact ⟨x7, σ7, H7, I7.unpinned, r7, q7⟩
end

/-! ### the forms one uses -/
/-- over a list that the body leaves as it is -/
theorem for_list {K : PySem.W.Frag} {a : Addr} {xs : List V} {g : TG} {tb : TS} {D : Ends} {σ : St} {H : Hp} (Pv : Nat → St → Hp → Prop) (h0 : Pv 0 σ H) (hl : ∀ i σ H, i ≤ xs.length → Pv i σ H → SqL K H a xs)
    (hs : ∀ i x σ H, xs[i]? = some x → Pv i σ H → g x σ H fun σ2 H2 => tb { D with nx := Pv (i + 1), ct := Pv (i + 1), bk := D.nx } σ2 H2) (hd : ∀ σ H, Pv xs.length σ H → D.nx σ H) :
    ∃ W : Nat → Nat → St → Hp → Prop, (∃ m, W 0 m σ H) ∧ ∀ i m σ H, W i m σ H →
      ((Itl K a).stop i H ∧ D.nx σ H) ∨ ((Itl K a).go i H ∧ ∃ N : St → Hp → Prop, (∀ σ' H', N σ' H' → ∃ m', m' < m ∧ W (i + 1) m' σ' H') ∧ ∀ x H', (Itl K a).yld i H x H' → g x σ H' fun σ2 H2 => tb { D with nx := N, ct := N, bk := D.nx } σ2 H2) := by
  refine ⟨fun i m σ H => m = xs.length - i ∧ i ≤ xs.length ∧ Pv i σ H, ⟨xs.length, by simp, Nat.zero_le _, h0⟩, ?_⟩
  rintro i m σ H ⟨rfl, hi, p⟩
  have q := hl i σ H hi p
  by_cases hlt : i < xs.length
  · refine .inr ⟨⟨xs, xs[i], q, by simp [hlt]⟩, Pv (i + 1), fun σ' H' p' => ⟨xs.length - (i + 1), by omega, rfl, hlt, p'⟩, fun x H' y => ?_⟩
    obtain ⟨e, y⟩ := y
    subst e
    exact hs i x σ _ (y xs q) p
  · have e : i = xs.length := by omega
    subst e
    exact .inl ⟨⟨xs, q, Nat.le_refl _⟩, hd σ H p⟩
theorem for_range {lo : Int} {n : Nat} {g : TG} {tb : TS} {D : Ends} {σ : St} {H : Hp} (Pv : Nat → St → Hp → Prop) (h0 : Pv 0 σ H)
    (hs : ∀ i σ H, i < n → Pv i σ H → g (.int (lo + i)) σ H fun σ2 H2 => tb { D with nx := Pv (i + 1), ct := Pv (i + 1), bk := D.nx } σ2 H2) (hd : ∀ σ H, Pv n σ H → D.nx σ H) :
    ∃ W : Nat → Nat → St → Hp → Prop, (∃ m, W 0 m σ H) ∧ ∀ i m σ H, W i m σ H →
      ((Itr lo n).stop i H ∧ D.nx σ H) ∨ ((Itr lo n).go i H ∧ ∃ N : St → Hp → Prop, (∀ σ' H', N σ' H' → ∃ m', m' < m ∧ W (i + 1) m' σ' H') ∧ ∀ x H', (Itr lo n).yld i H x H' → g x σ H' fun σ2 H2 => tb { D with nx := N, ct := N, bk := D.nx } σ2 H2) := by
  refine ⟨fun i m σ H => m = n - i ∧ i ≤ n ∧ Pv i σ H, ⟨n, by simp, Nat.zero_le _, h0⟩, ?_⟩
  rintro i m σ H ⟨rfl, hi, p⟩
  by_cases hlt : i < n
  · refine .inr ⟨hlt, Pv (i + 1), fun σ' H' p' => ⟨n - (i + 1), by omega, rfl, hlt, p'⟩, fun x H' y => ?_⟩
    obtain ⟨e, y⟩ := y
    subst e y
    exact hs i σ _ hlt p
  · have e : i = n := by omega
    subst e
    exact .inl ⟨Nat.le_refl _, hd σ H p⟩
end L2

namespace L2
open PySem PySem.Spec PyProof.Rows

abbrev R2 := V → V → Hp → VK → Prop
/-- a two-place operation on values: f is binaryOp op, inplaceOp op or compareOp op -/
def OpR (X : Cx) (f : Value → Value → Sem Value) (r : R2) : Prop :=
  ∀ (pins : List (Addr × Obj)) (s : Shared) (σ : St) (H : Hp) (x y : V) (v u : Value) (Q : VK), Inv X pins σ H s → RelV x v → RelV y u → r x y H Q →
    wpAny (model X.prog X.w) X.A (f v u) (EP X pins σ Q) X.xe s
/-- a one-place operation -/
def UnR (X : Cx) (f : Value → Sem Value) (r : V → Hp → VK → Prop) : Prop :=
  ∀ (pins : List (Addr × Obj)) (s : Shared) (σ : St) (H : Hp) (x : V) (v : Value) (Q : VK), Inv X pins σ H s → RelV x v → r x H Q →
    wpAny (model X.prog X.w) X.A (f v) (EP X pins σ Q) X.xe s
/-- a call of a value that is known (a builtin, a type) with values -/
def CallR (X : Cx) (f : Value) (r : List V → Hp → VK → Prop) : Prop :=
  ∀ (pins : List (Addr × Obj)) (s : Shared) (σ : St) (H : Hp) (xs : List V) (us : List Value) (Q : VK), Inv X pins σ H s → Vals xs us → r xs H Q →
    wpAny (model X.prog X.w) X.A (call f us) (EP X pins σ Q) X.xe s
def tOp (r : R2) (ta tb : TE) : TE := fun σ H Q => ta σ H fun x H1 => tb σ H1 fun y H2 => r x y H2 Q
def tUn (r : V → Hp → VK → Prop) (ta : TE) : TE := fun σ H Q => ta σ H fun x H1 => r x H1 Q
/-- ints in, under C, and a value out -/
inductive rII (C : Int → Int → Prop) (g : Int → Int → V) (x : V) (y : V) (H : Hp) (Q : VK) : Prop | mk (i j) (h0 : x = .int i) (h1 : y = .int j) (h2 : C i j) (h3 : Q (g i j) H) : rII C g x y H Q
def rI (C : Int → Int → Prop) (g : Int → Int → V) : R2 := fun x y H Q => rII C g x y H Q
inductive rI0I (g : Int → Int → V) (x : V) (y : V) (H : Hp) (Q : VK) : Prop | mk (i j) (h0 : x = .int i) (h1 : y = .int j) (h2 : Q (g i j) H) : rI0I g x y H Q
def rI0 (g : Int → Int → V) : R2 := fun x y H Q => rI0I g x y H Q
inductive rUI (g : Int → V) (x : V) (H : Hp) (Q : VK) : Prop | mk (i) (h0 : x = .int i) (h1 : Q (g i) H) : rUI g x H Q
def rU (g : Int → V) : V → Hp → VK → Prop := fun x H Q => rUI g x H Q

section
variable {X : Cx} {a b c : Expr} {ta tb tc : TE} {pos : Pos}

theorem binT (ha : PE X a ta) (hb : PE X b tb) {pins : List (Addr × Obj)} {s : Shared} {σ : St} {H : Hp} {R : V → V → Hp → Prop} (I : Inv X pins σ H s)
    (h : ta σ H fun x H1 => tb σ H1 fun y H2 => R x y H2) {Q : Value → Shared → Prop} {f : Value → Value → Sem Value}
    (hf : ∀ v u s2 x y H2, Inv X pins σ H2 s2 → RelV x v → RelV y u → R x y H2 → wpAny (model X.prog X.w) X.A (f v u) Q X.xe s2) :
    wpAny (model X.prog X.w) X.A (eval a X.env) (fun v s₁ => wpAny (model X.prog X.w) X.A (eval b X.env) (fun u s₂ => wpAny (model X.prog X.w) X.A (f v u) Q X.xe s₂) X.xe s₁) X.xe s := by
  refine thn (ha pins s σ H _ I h) fun v s1 ⟨x, H1, I1, r1, q1⟩ => ?_
  refine thn (hb pins s1 σ H1 _ I1 q1) fun u s2 ⟨y, H2, I2, r2, q2⟩ => ?_
  exact hf v u s2 x y H2 I2 r1 r2 q2

theorem pe_op {op : Operator} {r : R2} (ho : OpR X (binaryOp op) r) (ha : PE X a ta) (hb : PE X b tb) : PE X (.BinOp a op b pos) (tOp r ta tb) := by
  intro pins s σ H Q I h
  exact wpAny_BinOp (binT ha hb I h fun v u s2 x y H2 I2 rx ry q => ho pins s2 σ H2 x y v u Q I2 rx ry q)
theorem pe_un {op : UnaryOp} {r : V → Hp → VK → Prop} (ho : UnR X (unaryOp op) r) (ha : PE X a ta) : PE X (.UnaryOp op a pos) (tUn r ta) := by
  intro pins s σ H Q I h
  exact UnaryOp_ (thn (ha pins s σ H _ I h) fun v s1 ⟨x, H1, I1, r1, q1⟩ => ho pins s1 σ H1 x v Q I1 r1 q1)
/-! ### ints -/
theorem opI {f : Value → Value → Sem Value} {C : Int → Int → Prop} {g : Int → Int → Int}
    (rule : ∀ (i j : Int) (t u : Tok) (s : Shared) (Q : Value → Shared → Prop) (E : Value → Shared → Prop), C i j → Q (.int (g i j) s.toks) { s with toks := s.toks + 1 } → wpAny (model X.prog X.w) X.A (f (.int i t) (.int j u)) Q E s) :
    OpR X f (rI C fun i j => .int (g i j)) := by
  intro pins s σ H x y v u Q I rx ry h
  obtain ⟨i, j, rfl, rfl, hc, q⟩ := h
  obtain ⟨t, rfl⟩ := rx
  obtain ⟨t', rfl⟩ := ry
  exact rule i j t t' s _ _ hc ⟨.int (g i j), H, I.tok _, ⟨_, rfl⟩, q⟩
theorem opI0 {f : Value → Value → Sem Value} {g : Int → Int → Int}
    (rule : ∀ (i j : Int) (t u : Tok) (s : Shared) (Q : Value → Shared → Prop) (E : Value → Shared → Prop), Q (.int (g i j) s.toks) { s with toks := s.toks + 1 } → wpAny (model X.prog X.w) X.A (f (.int i t) (.int j u)) Q E s) :
    OpR X f (rI0 fun i j => .int (g i j)) := by
  intro pins s σ H x y v u Q I rx ry h
  obtain ⟨i, j, rfl, rfl, q⟩ := h
  obtain ⟨t, rfl⟩ := rx
  obtain ⟨t', rfl⟩ := ry
  exact rule i j t t' s _ _ ⟨.int (g i j), H, I.tok _, ⟨_, rfl⟩, q⟩
theorem opB0 {f : Value → Value → Sem Value} {g : Int → Int → Bool}
    (rule : ∀ (i j : Int) (t u : Tok) (s : Shared) (Q : Value → Shared → Prop) (E : Value → Shared → Prop), Q (.bool (g i j)) s → wpAny (model X.prog X.w) X.A (f (.int i t) (.int j u)) Q E s) :
    OpR X f (rI0 fun i j => .bl (g i j)) := by
  intro pins s σ H x y v u Q I rx ry h
  obtain ⟨i, j, rfl, rfl, q⟩ := h
  obtain ⟨t, rfl⟩ := rx
  obtain ⟨t', rfl⟩ := ry
  exact rule i j t t' s _ _ ⟨.bl (g i j), H, I, rfl, q⟩

def CDiv (i j : Int) : Prop := 0 < j ∧ j < 1073741824
def CPow (i j : Int) : Prop := 0 ≤ j ∧ j ≤ 1000000 ∧ i.natAbs < 2 ^ 64
def CMul (i j : Int) : Prop := (-(2 ^ 64) < i ∧ i < 2 ^ 64) ∨ (-(2 ^ 64) < j ∧ j < 2 ^ 64)
theorem CMul.ok {i j : Int} (h : CMul i j) : IntMulOk i j := by
  rcases h with ⟨h1, h2⟩ | ⟨h1, h2⟩
  · exact .of_left (intBits_le_64 h1 h2)
  · exact .of_right (intBits_le_64 h1 h2)
theorem op_add : OpR X (binaryOp .Add) (rI0 fun i j => .int (i + j)) := opI0 fun _ _ _ _ _ _ _ q => add_int q
theorem op_sub : OpR X (binaryOp .Sub) (rI0 fun i j => .int (i - j)) := opI0 fun _ _ _ _ _ _ _ q => sub_int q
theorem op_mul : OpR X (binaryOp .Mult) (rI CMul fun i j => .int (i * j)) := opI fun _ _ _ _ _ _ _ hc q => mul_int q hc.ok
/-- // by a positive divisor -/
theorem op_fdiv : OpR X (binaryOp .FloorDiv) (rI CDiv fun i j => .int (i / j)) := opI fun i j _ _ _ _ _ hc q => by
  have h1 : (0 : Int) < j := hc.1
  have h2 : j < 1073741824 := hc.2
  exact floordiv_int (by omega) (by rw [Int.fdiv_eq_ediv_of_nonneg i (by omega)]; exact q) (.inl (PyProof.noPylong_small (by omega)))
/-- % by a positive divisor of any size -/
theorem op_mod : OpR X (binaryOp .Mod) (rI (fun _ j => 0 < j) fun i j => .int (i % j)) := opI fun i j _ _ _ _ _ hc q => by
  have h1 : (0 : Int) < j := hc
  exact mod_int' (by omega) (by rw [Int.fmod_eq_emod_of_nonneg i (by omega)]; exact q)
theorem op_pow : OpR X (binaryOp .Pow) (rI CPow fun i j => .int (i ^ j.toNat)) := opI fun _ _ _ _ _ _ _ hc q => pow_int_small hc.1 hc.2.1 hc.2.2 q
theorem unI {f : Value → Sem Value} {g : Int → Int}
    (rule : ∀ (i : Int) (t : Tok) (s : Shared) (Q : Value → Shared → Prop) (E : Value → Shared → Prop), Q (.int (g i) s.toks) { s with toks := s.toks + 1 } → wpAny (model X.prog X.w) X.A (f (.int i t)) Q E s) :
    UnR X f (rU fun i => .int (g i)) := by
  intro pins s σ H x v Q I rx h
  obtain ⟨i, rfl, q⟩ := h
  obtain ⟨t, rfl⟩ := rx
  exact rule i t s _ _ ⟨.int (g i), H, I.tok _, ⟨_, rfl⟩, q⟩
theorem un_neg : UnR X (unaryOp .USub) (rU fun i => .int (-i)) := unI fun _ _ _ _ _ q => neg_int q
/-! ### bools among ints: n += (a < b) -/
end

/-! ### comparisons -/
/-- the scalars that == tells apart as data does -/
def scal : V → V → Bool
  | .non, .non => true | .non, .int _ => true | .int _, .non => true | .non, .bl _ => true | .bl _, .non => true | .non, .str _ => true | .str _, .non => true
  | .int _, .int _ => true | .bl _, .bl _ => true | .str _, .str _ => true | .byt _, .byt _ => true
  | .int _, .str _ => true | .str _, .int _ => true | .bl _, .str _ => true | .str _, .bl _ => true
  | _, _ => false
def rEq : R2 := fun x y H Q => scal x y = true ∧ Q (.bl (decide (x = y))) H
def rNe : R2 := fun x y H Q => scal x y = true ∧ Q (.bl (!decide (x = y))) H

theorem dec_int {i j : Int} : decide (V.int i = V.int j) = (i == j) := by
  rw [Bool.eq_iff_iff]
  simp
theorem dec_bl {i j : Bool} : decide (V.bl i = V.bl j) = (i == j) := by
  rw [Bool.eq_iff_iff]
  simp
theorem dec_str {i j : Str} : decide (V.str i = V.str j) = (i == j) := by
  rw [Bool.eq_iff_iff]
  simp
theorem dec_byt {i j : Array UInt8} : decide (V.byt i = V.byt j) = (i.toList == j.toList) := by
  rw [Bool.eq_iff_iff]
  cases i
  cases j
  simp

section
variable {X : Cx} {a b c : Expr} {ta tb tc : TE} {pos : Pos}
theorem fin_bl {pins : List (Addr × Obj)} {σ : St} {H : Hp} {s : Shared} {Q : VK} {k k' : Bool} (I : Inv X pins σ H s) (q : Q (.bl k) H) (e : k = k') : EP X pins σ Q (.bool k') s := by
  subst e
  exact ⟨.bl k, H, I, rfl, q⟩
theorem op_eq : OpR X (compareOp .Eq) rEq := by
  intro pins s σ H x y v u Q I rx ry h
  obtain ⟨hs, q⟩ := h
  cases x with
  | non =>
    cases rx
    cases y with
    | non => cases ry; exact PySem.EqNone.eq_none_none (fin_bl I q (by simp))
    | bl j => cases ry; exact PySem.EqNone.eq_none_bool (fin_bl I q (by simp))
    | int j => obtain ⟨t', rfl⟩ := ry; exact PySem.EqNone.eq_none_int (fin_bl I q (by simp))
    | str j => obtain ⟨t', rfl⟩ := ry; exact PySem.EqNone.eq_none_str (fin_bl I q (by simp))
    | _ => exact absurd (show false = true from hs) Bool.false_ne_true
  | bl i =>
    cases rx
    cases y with
    | non => cases ry; exact PySem.EqNone.eq_bool_none (fin_bl I q (by simp))
    | bl j => cases ry; exact eq_bool (fin_bl I q dec_bl)
    | str j => obtain ⟨t', rfl⟩ := ry; exact PySem.EqMixed.eq_bool_str (fin_bl I q (by simp))
    | _ => exact absurd (show false = true from hs) Bool.false_ne_true
  | int i =>
    obtain ⟨t, rfl⟩ := rx
    cases y with
    | non => cases ry; exact PySem.EqNone.eq_int_none (fin_bl I q (by simp))
    | int j => obtain ⟨t', rfl⟩ := ry; exact eq_int (fin_bl I q dec_int)
    | str j => obtain ⟨t', rfl⟩ := ry; exact PySem.EqMixed.eq_int_str (fin_bl I q (by simp))
    | _ => exact absurd (show false = true from hs) Bool.false_ne_true
  | str i =>
    obtain ⟨t, rfl⟩ := rx
    cases y with
    | non => cases ry; exact PySem.EqNone.eq_str_none (fin_bl I q (by simp))
    | bl j => cases ry; exact PySem.EqMixed.eq_str_bool (fin_bl I q (by simp))
    | int j => obtain ⟨t', rfl⟩ := ry; exact PySem.EqMixed.eq_str_int (fin_bl I q (by simp))
    | str j => obtain ⟨t', rfl⟩ := ry; exact eq_str (fin_bl I q dec_str)
    | _ => exact absurd (show false = true from hs) Bool.false_ne_true
  | byt i =>
    obtain ⟨t, rfl⟩ := rx
    cases y with
    | byt j => obtain ⟨t', rfl⟩ := ry; exact PySem.W.eq_bytes (fin_bl I q dec_byt)
    | _ => exact absurd (show false = true from hs) Bool.false_ne_true
  | _ => cases y <;> exact absurd (show false = true from hs) Bool.false_ne_true
theorem op_ne : OpR X (compareOp .NotEq) rNe := by
  intro pins s σ H x y v u Q I rx ry h
  obtain ⟨hs, q⟩ := h
  cases x with
  | non =>
    cases rx
    cases y with
    | non => cases ry; exact PySem.EqNone.ne_none_none (fin_bl I q (by simp))
    | bl j => cases ry; exact PySem.EqNone.ne_none_bool (fin_bl I q (by simp))
    | int j => obtain ⟨t', rfl⟩ := ry; exact PySem.EqNone.ne_none_int (fin_bl I q (by simp))
    | str j => obtain ⟨t', rfl⟩ := ry; exact PySem.EqNone.ne_none_str (fin_bl I q (by simp))
    | _ => exact absurd (show false = true from hs) Bool.false_ne_true
  | bl i =>
    cases rx
    cases y with
    | non => cases ry; exact PySem.EqNone.ne_bool_none (fin_bl I q (by simp))
    | bl j => cases ry; exact ne_bool (fin_bl I q (congrArg not dec_bl))
    | str j => obtain ⟨t', rfl⟩ := ry; exact PySem.EqMixed.ne_bool_str (fin_bl I q (by simp))
    | _ => exact absurd (show false = true from hs) Bool.false_ne_true
  | int i =>
    obtain ⟨t, rfl⟩ := rx
    cases y with
    | non => cases ry; exact PySem.EqNone.ne_int_none (fin_bl I q (by simp))
    | int j => obtain ⟨t', rfl⟩ := ry; exact ne_int (fin_bl I q (congrArg not dec_int))
    | str j => obtain ⟨t', rfl⟩ := ry; exact PySem.EqMixed.ne_int_str (fin_bl I q (by simp))
    | _ => exact absurd (show false = true from hs) Bool.false_ne_true
  | str i =>
    obtain ⟨t, rfl⟩ := rx
    cases y with
    | non => cases ry; exact PySem.EqNone.ne_str_none (fin_bl I q (by simp))
    | bl j => cases ry; exact PySem.EqMixed.ne_str_bool (fin_bl I q (by simp))
    | int j => obtain ⟨t', rfl⟩ := ry; exact PySem.EqMixed.ne_str_int (fin_bl I q (by simp))
    | str j => obtain ⟨t', rfl⟩ := ry; exact ne_str (fin_bl I q (congrArg not dec_str))
    | _ => exact absurd (show false = true from hs) Bool.false_ne_true
  | byt i =>
    obtain ⟨t, rfl⟩ := rx
    cases y with
    | byt j => obtain ⟨t', rfl⟩ := ry; exact PySem.W.ne_bytes (fin_bl I q (congrArg not dec_byt))
    | _ => exact absurd (show false = true from hs) Bool.false_ne_true
  | _ => cases y <;> exact absurd (show false = true from hs) Bool.false_ne_true

theorem op_lt : OpR X (compareOp .Lt) (rI0 fun i j => .bl (decide (i < j))) := opB0 fun _ _ _ _ _ _ _ q => lt_int q
theorem op_le : OpR X (compareOp .LtE) (rI0 fun i j => .bl (decide (i ≤ j))) := opB0 fun _ _ _ _ _ _ _ q => le_int q
theorem op_gt : OpR X (compareOp .Gt) (rI0 fun i j => .bl (decide (j < i))) := opB0 fun _ _ _ _ _ _ _ q => gt_int q
/-- the one string within the other -/
theorem op_in_str : OpR X (compareOp .In) (fun x y H Q => ∃ i j, x = .str i ∧ y = .str j ∧ Q (.bl (!(Builtin.Str.occurrences j i 0 j.length 1).isEmpty)) H) := by
  intro pins s σ H x y v u Q I rx ry h
  obtain ⟨i, j, rfl, rfl, q⟩ := h
  obtain ⟨t, rfl⟩ := rx
  obtain ⟨t', rfl⟩ := ry
  exact in_str (fin_bl I q rfl)

theorem nomark (b : Expr) {op : CmpOp} (h : op ≠ .In := by decide) (h2 : op ≠ .NotIn := by decide) : behindInMarks op b = false := by
  have e1 : (op == CmpOp.In) = false := by cases op <;> first | rfl | exact absurd rfl h
  have e2 : (op == CmpOp.NotIn) = false := by cases op <;> first | rfl | exact absurd rfl h2
  cases b <;> simp [behindInMarks, e1, e2]
/-- a comparison as a value; hm: nomark b, or (for in, not in) by with_unfolding_all rfl -/
theorem pe_cmpR {op : CmpOp} {r : R2} (ho : OpR X (compareOp op) r) (ha : PE X a ta) (hb : PE X b tb) (hm : behindInMarks op b = false) : PE X (.Compare a [op] [b] pos) (tOp r ta tb) := by
  intro pins s σ H Q I h
  exact wpAny_Compare1 (binT ha hb I h fun v u s2 x y H2 I2 rx ry q => ho pins s2 σ H2 x y v u Q I2 rx ry q) hm
/-- a reading of a value as a test -/
inductive tTestI (Q : Bool → Hp → Prop) (x : V) (H' : Hp) : Prop | mk (k) (h0 : x = .bl k) (h1 : Q k H') : tTestI Q x H'
def tTest (t : TE) : TT := fun σ H Q => t σ H fun x H' => tTestI Q x H'
theorem pt_cmpR {op : CmpOp} {r : R2} (ho : OpR X (compareOp op) r) (ha : PE X a ta) (hb : PE X b tb) (hm : behindInMarks op b = false) : PT X (.Compare a [op] [b] pos) (tTest (tOp r ta tb)) := by
  intro pins s σ H Q I h
  refine wpAny_isTrue_Compare1 (thn (ha pins s σ H _ I h) fun v s1 ⟨x, H1, I1, r1, q1⟩ => thn (hb pins s1 σ H1 _ I1 q1) fun u s2 ⟨y, H2, I2, r2, q2⟩ =>
    thn (ho pins s2 σ H2 x y v u _ I2 r1 r2 q2) fun c s3 ⟨z, H3, I3, r3, k, e, q3⟩ => ?_) hm
  subst e
  cases r3
  exact wpAny_truthy_bool ⟨H3, I3, q3⟩
/-- a op1 b op2 c -/
def tChain (r r' : R2) (ta tb tc : TE) : TE := fun σ H Q => ta σ H fun x H1 => tb σ H1 fun y H2 => r x y H2 fun z H3 => ∃ k, z = .bl k ∧
  (if k = true then tc σ H3 fun w' H4 => r' y w' H4 Q else Q (.bl false) H3)
theorem pe_chain {op op' : CmpOp} {r r' : R2} (ho : OpR X (compareOp op) r) (ho' : OpR X (compareOp op') r') (ha : PE X a ta) (hb : PE X b tb) (hc : PE X c tc)
    (hm : lastMarks [op, op'] [b, c] = false := by with_unfolding_all rfl) : PE X (.Compare a [op, op'] [b, c] pos) (tChain r r' ta tb tc) := by
  intro pins s σ H Q I h
  refine Compare_chain (thn (ha pins s σ H _ I h) fun v s1 ⟨x, H1, I1, r1, q1⟩ => chain_link (thn (hb pins s1 σ H1 _ I1 q1) fun u s2 ⟨y, H2, I2, r2, q2⟩ =>
    thn (ho pins s2 σ H2 x y v u _ I2 r1 r2 q2) fun d s3 ⟨z, H3, I3, r3, k, e, q3⟩ => ?_)) hm
  subst e
  cases r3
  refine wpAny_truthy_bool ?_
  cases k with
  | false => exact ite_ff ⟨.bl false, H3, I3, rfl, q3⟩
  | true => exact ite_tt (chain_last (thn (hc pins s3 σ H3 _ I3 q3) fun w' s4 ⟨z', H4, I4, r4, q4⟩ => ho' pins s4 σ H4 y z' u w' Q I4 r2 r4 q4))
/-! ### truth -/
theorem line63 : (sizeLine : Nat) < 2 ^ 63 := by rw [sizeLine_eq]; decide
/-! ### strs and bytes -/
theorem op_add_str : OpR X (binaryOp .Add) (fun x y H Q => ∃ i j, x = .str i ∧ y = .str j ∧ i.length + j.length ≤ sizeLine ∧ Q (.str (i ++ j)) H) := by
  intro pins s σ H x y v u Q I rx ry h
  obtain ⟨i, j, rfl, rfl, hz, q⟩ := h
  obtain ⟨t, rfl⟩ := rx
  obtain ⟨t', rfl⟩ := ry
  exact add_str (fun t' tk => ⟨.str (i ++ j), H, I.tok _, ⟨_, rfl⟩, q⟩) hz
/-! ### scalar builtins, by CallR -/
theorem vals1 {x : V} {us : List Value} (r : Vals [x] us) : ∃ u, us = [u] ∧ RelV x u := by
  cases r with
  | cons r1 r2 => cases r2; exact ⟨_, rfl, r1⟩
theorem call_int1 : CallR X (.type "int") (fun xs H Q => (∃ i, xs = [.int i] ∧ Q (.int i) H) ∨ ∃ k, xs = [.bl k] ∧ Q (.int (if k then 1 else 0)) H) := by
  intro pins s σ H xs us Q I r h
  rcases h with ⟨i, rfl, q⟩ | ⟨k, rfl, q⟩
  · obtain ⟨u, rfl, t, rfl⟩ := vals1 r
    exact call_int_int ⟨.int i, H, I, ⟨_, rfl⟩, q⟩
  · obtain ⟨u, rfl, r1⟩ := vals1 r
    cases r1
    exact call_int_bool ⟨.int (if k then 1 else 0), H, I.tok _, ⟨_, rfl⟩, q⟩
end
end L2

namespace L2
open PySem PySem.Spec PyProof.Rows

/-! ### an instance, its attributes a map -/
structure ObjM (h : Heap) (x dx C : Addr) (mA : Str → Option Value) : Prop where
  obj : h.get? x = some (PySem.W.instObj C dx)
  ns : h.Ns1 dx mA
  ne : dx ≠ x

theorem lookIn_ns {h : Heap} {dx : Addr} {mA : Str → Option Value} (n : h.Ns1 dx mA) : ∃ od, h.get? dx = some od ∧ ∀ name, PySem.W.lookIn name od = some (mA name) := by
  obtain ⟨o, es, ep, ho, hd, hk, _, hm⟩ := n
  refine ⟨o, ho, fun name => ?_⟩
  have e := hm name
  unfold nsFind findBy at e
  rw [← Array.find?_toList] at e
  unfold PySem.W.lookIn
  rw [hd]
  dsimp only
  split
  · rename_i y q
    rw [q] at e
    exact congrArg some e
  · rename_i q
    rw [q] at e
    have a : es.toList.any (·.refKey) = false := by
      rw [List.any_eq_false]
      intro y hy
      obtain ⟨z, t, hkey⟩ := hk y (Array.mem_toList_iff.mp hy)
      simp [DictEntry.refKey, hkey]
    have a' : ¬ es.toList.any (·.refKey) = true := by rw [a]; exact Bool.false_ne_true
    rw [if_neg a']
    exact congrArg some e

theorem ObjM.look {h : Heap} {x dx C : Addr} {mA : Str → Option Value} (I : ObjM h x dx C mA) : ∃ od, PySem.W.InstAt h x (PySem.W.instObj C dx) C (some od) ∧ ∀ name, PySem.W.lookIn name od = some (mA name) :=
  let ⟨od, ho, hl⟩ := lookIn_ns I.ns
  ⟨od, ⟨I.obj, rfl, rfl, ho⟩, hl⟩

section
variable {prog : Program} {w : World} {A : Around} {E : Value → Shared → Prop} {s : Shared} {K : PySem.W.Frag} {x dx C f : Addr} {mA : Str → Option Value} {name : Str} {v : Value}

theorem get_map {expr : Bool} {Q : Value → Shared → Prop} (X : K.In s.heap) (I : ObjM s.heap x dx C mA) (hg : PySem.W.plainGet K C name = true) (hh : PySem.W.hasDictIn K C = true)
    (ha : PySem.W.findIn K (.ref C) name = some none) (hv : mA name = some v) (hv' : PySem.W.handedIn v = true) (h : Q v { s with toks := s.toks + 1 }) :
    wpAny (model prog w) A (getAttr (.ref x) name expr) Q E s := by
  obtain ⟨od, J, hl⟩ := I.look
  exact PySem.W.get_value X J (PySem.W.plainGet_of hg).1 (PySem.W.findObj_own hh ha rfl (by rw [hl, hv])) hv' h

theorem get_meth {pl : Sem Bool} {Q : Value × List Value → Shared → Prop} (X : K.In s.heap) (I : ObjM s.heap x dx C mA) (hg : PySem.W.plainGet K C name = true)
    (hf : PySem.W.findIn K (.ref C) name = some (some (.ref f))) (ht : PySem.W.isFn K (.ref f) = true) (hv : mA name = none) (h : Q (.ref f, [.ref x]) s) :
    wpAny (model prog w) A (getMethod (.ref x) name pl) Q E s := by
  obtain ⟨od, J, hl⟩ := I.look
  exact PySem.W.method_fn X J (PySem.W.plainGet_of hg).1 (PySem.W.plainGet_of hg).2 hf (beq_iff_eq.mp ht) (by show (PySem.W.lookIn name od).map (·.isSome) = some false; rw [hl, hv]; rfl) h

theorem set_map {ns : List Str} {Q : Unit → Shared → Prop} (X : K.In s.heap) (I : ObjM s.heap x dx C mA)
    (hs : PySem.W.findIn K (.ref C) "__setattr__" = some (some (.builtin "object.__setattr__"))) (hp : PySem.W.plainOver K C = true) (ht : PySem.W.takerIn K C name = some none) (hh : PySem.W.hasDictIn K C = true)
    (hw : PySem.Within mA ns) (hsz : ns.length ≤ sizeLine)
    (h : ∀ h', ObjM h' x dx C (fun y => if y = name then some v else mA y) → Heap.SameBut dx s.heap h' → Q () { s with heap := h', toks := s.toks + 2 }) :
    wpAny (model prog w) A (setAttr (.ref x) name v) Q E s := by
  obtain ⟨od, J, hl⟩ := I.look
  refine PySem.W.set_plain X J hs (PySem.W.osa_open (s := { s with toks := s.toks + 1 }) (r := none) X J hp ht fun b => ?_)
  obtain ⟨cd, hc, hd'⟩ := PySem.W.any_some hh
  have hx : s.heap.get? x = some ⟨.ref C, some dx, .plain, #[]⟩ := I.obj
  refine wpAny_bind (wpAny_pure (wpAny_bind (wpAny_bind (wpAny_loadPart hx (wpAny_bind (PySem.W.Looks.here (s := { s with toks := s.toks + 1 }) (PySem.W.looks_clsIn X hc) ?_))))))
  rw [hd']
  refine wpAny_pure (a := some dx) (wpAny_bind (wpAny_pure (wpAny_bind ?_)))
  refine wpAny_nsSet1 (s := { s with toks := s.toks + 1 }) I.ns fun h' hn2 hs2 => ?_
  obtain ⟨oD, esD, epD, hoD, hdD, hcD⟩ := hn2.count (PySem.Within.cons name v hw)
  refine wpAny_bind (wpAny_lookBehind hoD (by rw [hdD]; exact pastItsLine_dict (Nat.le_trans hcD (by rw [List.length_cons]; omega))) ?_)
  exact wpAny_pure (h _ ⟨(hs2.2 _ (Ne.symm I.ne)).trans I.obj, hn2, I.ne⟩ hs2)

/-- C(..): the dict at the heap's end, the instance behind it; then its __init__ -/
theorem make_map {R : Result → Shared → Prop} {vs : List Value} {kw : List (Str × Value)} (X : K.In s.heap) (hm : PySem.W.makesIn K C = true)
    (hi : PySem.W.findIn K (.ref C) "__init__" = some (some (.ref f))) (hf : PySem.W.typeIn K (.ref f) = some (.type "function"))
    (h : codeAny (model prog w) (A.under (.builtin "type.__call__" ⟨.ref C :: vs, kw⟩)) (.call (.ref f) ⟨.ref (s.heap.objs.size + 1) :: vs, kw⟩) (PySem.W.InitBack (s.heap.objs.size + 1) R)
      { s with heap := (s.heap.push PySem.W.emptyDict).push (PySem.W.instObj C s.heap.objs.size) }) :
    codeAny (model prog w) A (.call (.ref C) ⟨vs, kw⟩) R s := by
  obtain ⟨hh, g, d, t, os⟩ := s
  exact PySem.W.make_core (PySem.W.makes_of X hm) (PySem.W.looks_findIn X hi) (fun self => PySem.W.bind_fn X self hf) (.inl rfl) h
end

/-! ### the attributes as a list of pairs -/
def putF (f : Str) (v : V) : List (Str × V) → List (Str × V)
  | [] => [(f, v)]
  | (g, x) :: r => if g = f then (g, v) :: r else (g, x) :: putF f v r
theorem lookup_putF (f g : Str) (v : V) : ∀ fs : List (Str × V), (putF f v fs).lookup g = if g = f then some v else fs.lookup g
  | [] => by
    show List.lookup g [(f, v)] = _
    by_cases h : g = f
    · have hb : (g == f) = true := beq_iff_eq.mpr h
      simp only [List.lookup, hb, if_pos h]
    · have hb : (g == f) = false := beq_eq_false_iff_ne.mpr h
      simp only [List.lookup, hb, if_neg h]
  | (k, x) :: r => by
    have ih := lookup_putF f g v r
    rw [show putF f v ((k, x) :: r) = (if k = f then (k, v) :: r else (k, x) :: putF f v r) from rfl]
    by_cases hk : k = f
    · rw [if_pos hk]
      by_cases h : g = k
      · have hb : (g == k) = true := beq_iff_eq.mpr h
        simp only [List.lookup, hb, if_pos (h.trans hk)]
      · have hb : (g == k) = false := beq_eq_false_iff_ne.mpr h
        simp only [List.lookup, hb, if_neg (fun e : g = f => h (e.trans hk.symm))]
    · rw [if_neg hk]
      by_cases h : g = k
      · have hb : (g == k) = true := beq_iff_eq.mpr h
        simp only [List.lookup, hb, if_neg (fun e : g = f => hk (h.symm.trans e))]
      · have hb : (g == k) = false := beq_eq_false_iff_ne.mpr h
        simp only [List.lookup, hb]
        exact ih
theorem keys_putF (f : Str) (v : V) : ∀ fs : List (Str × V), f ∈ (putF f v fs).map (·.1) ∧ ∀ g, g ∈ fs.map (·.1) → g ∈ (putF f v fs).map (·.1)
  | [] => ⟨by simp [putF], fun g h => by simp at h⟩
  | (k, x) :: r => by
    obtain ⟨i1, i2⟩ := keys_putF f v r
    rw [show putF f v ((k, x) :: r) = (if k = f then (k, v) :: r else (k, x) :: putF f v r) from rfl]
    by_cases hk : k = f
    · rw [if_pos hk]
      subst hk
      exact ⟨by simp, fun g h => by simpa using h⟩
    · rw [if_neg hk]
      refine ⟨?_, fun g h => ?_⟩
      · rw [List.map_cons]
        exact List.mem_cons_of_mem _ i1
      · rw [List.map_cons] at h ⊢
        rcases List.mem_cons.mp h with e | e
        · exact List.mem_cons.mpr (.inl e)
        · exact List.mem_cons_of_mem _ (i2 g e)
theorem length_putF (f : Str) (v : V) : ∀ fs : List (Str × V), (putF f v fs).length ≤ fs.length + 1
  | [] => by simp [putF]
  | (k, x) :: r => by
    have ih := length_putF f v r
    rw [show putF f v ((k, x) :: r) = (if k = f then (k, v) :: r else (k, x) :: putF f v r) from rfl]
    by_cases hk : k = f
    · rw [if_pos hk, List.length_cons, List.length_cons]; omega
    · rw [if_neg hk, List.length_cons, List.length_cons]; omega

theorem RelO.some_of {v : V} {o : Option Value} (r : RelO (some v) o) : ∃ u, o = some u ∧ RelV v u := by
  cases o with
  | none => exact (show False from r).elim
  | some u => exact ⟨u, rfl, r⟩
theorem RelO.none_of {o : Option Value} (r : RelO none o) : o = none := by
  cases o with
  | none => rfl
  | some u => exact (show False from r).elim
theorem handed_of {v : V} {u : Value} (r : RelV v u) : PySem.W.handedIn u = true := by
  cases v with
  | non => cases (show u = Value.none from r); rfl
  | bl b => cases (show u = Value.bool b from r); rfl
  | int i => obtain ⟨t, e⟩ := (show ∃ t, u = Value.int i t from r); cases e; rfl
  | str x => obtain ⟨t, e⟩ := (show ∃ t, u = Value.str x t from r); cases e; rfl
  | byt b => obtain ⟨t, e⟩ := (show ∃ t, u = Value.bytes b t from r); cases e; rfl
  | flt b => obtain ⟨t, e⟩ := (show ∃ t, u = Value.float b t from r); cases e; rfl
  | ref a => cases (show u = Value.ref a from r); rfl
  | ty n => cases (show u = Value.type n from r); rfl

section
variable {P : Program} {w : World} {H H' : Hp} {h h' : Heap} {a C dx : Addr} {fs fs' : List (Str × V)}
theorem ins_get (hok : HOk P w H h) (e : H a = some (.ins C dx fs)) : ∃ mA, ObjM h a dx C mA ∧ (∀ f, RelO (fs.lookup f) (mA f)) ∧ PySem.Within mA (fs.map (·.1)) ∧ fs.length ≤ 1000 ∧ H dx = some (.own a) := by
  obtain ⟨d, z, ne, ob, mA, n, r, q⟩ := (show ObjOk P w H h a (.ins C dx fs) from hok a _ e)
  exact ⟨mA, ⟨ob, n, ne⟩, r, q, z, d⟩
end

/-! ### what of the text a class must have -/
structure Cls (K : PySem.W.Frag) (C : Addr) : Prop where
  pg : PySem.W.plainGet K C Str.empty = true
  hd : PySem.W.hasDictIn K C = true
  po : PySem.W.plainOver K C = true
  sa : PySem.W.findIn K (.ref C) "__setattr__" = some (some (.builtin "object.__setattr__"))
theorem Cls.get {K : PySem.W.Frag} {C : Addr} (c : Cls K C) (f : Str) : PySem.W.plainGet K C f = true := c.pg
/-- no class of it has the name -/
def NoAttr (K : PySem.W.Frag) (C : Addr) (f : Str) : Prop := PySem.W.findIn K (.ref C) f = some none
theorem NoAttr.taker {K : PySem.W.Frag} {C : Addr} {f : Str} (n : NoAttr K C f) : PySem.W.takerIn K C f = some none := by
  unfold PySem.W.takerIn
  rw [show PySem.W.findIn K (.ref C) f = some none from n]
  rfl
/-- a constant of the class -/
structure Con (K : PySem.W.Frag) (C : Addr) (f : Str) (v : V) (u : Value) : Prop where
  at_ : PySem.W.findIn K (.ref C) f = some (some u)
  rel : RelV v u
  get : PySem.W.specialIn K u "__get__" = some none
  cp : PySem.W.copiedNames.contains f = false
/-- a method: a plain def of the class or of one above it -/
structure Meth (K : PySem.W.Frag) (C : Addr) (m : Str) (f : Addr) : Prop where
  at_ : PySem.W.findIn K (.ref C) m = some (some (.ref f))
  fn : PySem.W.isFn K (.ref f) = true
  kp : PySem.W.keepIn K (.ref f) = true

section
variable {X : Cx} {pins : List (Addr × Obj)} {σ : St} {H : Hp} {s : Shared} {a C dx : Addr} {fs : List (Str × V)} {f : Str} {v : V} {A : Around} {E : Value → Shared → Prop}

theorem getattr_ok {b : Bool} {Q : Value → Shared → Prop} (I : Inv X pins σ H s) (e : H a = some (.ins C dx fs)) (c : Cls X.K C) (n : NoAttr X.K C f) (l : fs.lookup f = some v)
    (h : ∀ u s', Inv X pins σ H s' → RelV v u → Q u s') : wpAny (model X.prog X.w) A (getAttr (.ref a) f b) Q E s := by
  obtain ⟨mA, O, r, _, _, _⟩ := ins_get I.hok e
  obtain ⟨u, hu, ru⟩ := RelO.some_of (v := v) (o := mA f) (by rw [← l]; exact r f)
  exact get_map I.kIn O (c.get f) c.hd n hu (handed_of ru) (h u _ (I.tok _) ru)

theorem getmeth_ok {m : Str} {g : Addr} {pl : Sem Bool} {Q : Value × List Value → Shared → Prop} (I : Inv X pins σ H s) (e : H a = some (.ins C dx fs)) (c : Cls X.K C) (k : Meth X.K C m g) (l : fs.lookup m = none)
    (h : Q (.ref g, [.ref a]) s) : wpAny (model X.prog X.w) A (getMethod (.ref a) m pl) Q E s := by
  obtain ⟨mA, O, r, _, _, _⟩ := ins_get I.hok e
  have hn : mA m = none := RelO.none_of (by rw [← l]; exact r m)
  exact get_meth I.kIn O (c.get m) k.at_ k.fn hn h

theorem setattr_ok {y : V} {u : Value} {Q : Unit → Shared → Prop} (I : Inv X pins σ H s) (e : H a = some (.ins C dx fs)) (c : Cls X.K C) (n : NoAttr X.K C f) (hl : fs.length < 1000) (ry : RelV y u)
    (h : ∀ s', Inv X pins σ (upd H a (.ins C dx (putF f y fs))) s' → Q () s') : wpAny (model X.prog X.w) A (setAttr (.ref a) f u) Q E s := by
  obtain ⟨mA, O, r, wi, _, ho⟩ := ins_get I.hok e
  have hz : (fs.map (·.1)).length ≤ sizeLine := by rw [List.length_map, sizeLine_eq]; omega
  refine set_map I.kIn O c.sa c.po n.taker c.hd wi hz fun h' O' sb => h _ ?_
  have hd : ∃ o, h'.get? dx = some o := let ⟨o, _, _, e', _⟩ := O'.ns; ⟨o, e'⟩
  refine I.write (x := a) (e := dx) (by rw [e]; exact True.intro) (.inr ho) (fun b q hb z => (sb.2 b hb).trans z) hd ?_
  refine ⟨by rw [upd_ne O.ne]; exact ho, ?_, O.ne, O'.obj, _, O'.ns, fun g => ?_, fun g hg => ?_⟩
  · have := length_putF f y fs; omega
  · show RelO ((putF f y fs).lookup g) (if g = f then some u else mA g)
    rw [lookup_putF]
    by_cases q : g = f
    · rw [if_pos q, if_pos q]; exact ry
    · rw [if_neg q, if_neg q]; exact r g
  · by_cases q : g = f
    · rw [q]; exact (keys_putF f y fs).1
    · refine (keys_putF f y fs).2 g (wi g fun z => hg ?_)
      show (if g = f then some u else mA g) = none
      rw [if_neg q]; exact z

/-- a new instance, tracked, without attributes -/
theorem Inv.made (I : Inv X pins σ H s) : Inv X pins σ (upd (upd H s.heap.objs.size (.own (s.heap.objs.size + 1))) (s.heap.objs.size + 1) (.ins C s.heap.objs.size []))
    { s with heap := (s.heap.push PySem.W.emptyDict).push (PySem.W.instObj C s.heap.objs.size) } := by
  have e1 : (s.heap.push PySem.W.emptyDict).get? s.heap.objs.size = some PySem.W.emptyDict := Heap.get?_push_size s.heap rfl
  have e2 : ((s.heap.push PySem.W.emptyDict).push (PySem.W.instObj C s.heap.objs.size)).get? (s.heap.objs.size + 1) = some (PySem.W.instObj C s.heap.objs.size) := by
    have := Heap.get?_push_size (s.heap.push PySem.W.emptyDict) (o := PySem.W.instObj C s.heap.objs.size) rfl
    rwa [Heap.size_push] at this
  have e3 : (s.heap.push PySem.W.emptyDict).Ns s.heap.objs.size (fun _ => none) := ⟨PySem.W.emptyDict, #[], _, e1, rfl, (fun e he => absurd he (by simp)), fun _ => rfl⟩
  have I1 := I.laid (a := s.heap.objs.size) (o := .own (s.heap.objs.size + 1)) (h' := s.heap.push PySem.W.emptyDict) (t' := s.toks) (fun b u q => Heap.get?_push_of_some _ q) (Nat.le_refl _) ⟨_, e1⟩
  refine I1.laid (a := s.heap.objs.size + 1) (o := .ins C s.heap.objs.size []) (t' := s.toks) (fun b u q => Heap.get?_push_of_some _ q) (Nat.le_of_eq (Heap.size_push _ _)) ?_
  have ne : s.heap.objs.size ≠ s.heap.objs.size + 1 := Nat.ne_of_lt (Nat.lt_succ_self _)
  refine ⟨by rw [upd_ne ne, upd_same], Nat.zero_le _, ne, e2, fun _ => none, (Heap.Ns1.of_empty e3).at fun o q => Heap.get?_push_of_some _ q, fun _ => True.intro, fun y hy => absurd rfl hy⟩

/-- e.f where nothing but the object is asked: through attributeBase (super) and the last hold -/
theorem attr_of {prog : Program} {w : World} {env : Env} {e : Expr} {f : Str} {pos : Pos} {s : Shared} {Q : Value → Shared → Prop} (hb : attributeBase e f env (eval e env) = eval e env)
    (h : wpAny (model prog w) A (eval e env) (fun o s₁ => wpAny (model prog w) A (getAttr o f true) Q E s₁) E s) : wpAny (model prog w) A (eval (.Attribute e f pos) env) Q E s :=
  Attribute_any_ h (by rw [arm_eval_Attribute, hb])
end

/-! ### readings and rules -/
/-- e.f, an attribute of the instance -/
inductive tFldI (K : PySem.W.Frag) (f : Str) (Q : VK) (x : V) (H1 : Hp) : Prop | mk (a C dx fs v) (h0 : x = .ref a) (h1 : H1 a = some (.ins C dx fs)) (h2 : Cls K C) (h3 : NoAttr K C f) (h4 : fs.lookup f = some v) (h5 : Q v H1) : tFldI K f Q x H1
def tFld (K : PySem.W.Frag) (ta : TE) (f : Str) : TE := fun σ H Q => ta σ H fun x H1 => tFldI K f Q x H1
/-- e.f = value -/
def sFld (K : PySem.W.Frag) (ta tv : TE) (f : Str) : TS := fun D σ H => tv σ H fun y H1 => ta σ H1 fun x H2 => ∃ a C dx fs, x = .ref a ∧ H2 a = some (.ins C dx fs) ∧ Cls K C ∧ NoAttr K C f ∧ fs.length < 1000 ∧
  D.nx σ (upd H2 a (.ins C dx (putF f y fs)))
section
variable {X : Cx} {o e value : Expr} {f : Str} {pos pos' tpos : Pos} {ta tv : TE}
theorem pe_fld (he : PE X e ta) (hb : attributeBase e f X.env (eval e X.env) = eval e X.env) : PE X (.Attribute e f pos) (tFld X.K ta f) := by
  intro pins s σ H Q I h
  refine attr_of hb (thn (he pins s σ H _ I h) fun u s1 ⟨x, H1, I1, rx, a, C, dx, fs, v, ex, ea, c, n, l, q⟩ => ?_)
  subst ex
  obtain rfl : u = Value.ref a := rx
  exact getattr_ok I1 ea c n l fun u' s2 I2 ru => ⟨v, H1, I2, ru, q⟩
theorem ps_fld (ha : PE X o ta) (hv : PE X value tv) (hs : swapsWith value (some (.Attribute o f pos')) pos.line X.env = pure false) : PS X (.Assign [.Attribute o f pos'] value pos) (sFld X.K ta tv f) := by
  intro pins s σ H D I h
  refine plainObj_wpAny_Assign_Attribute (thn (hv pins s σ H _ I h) fun u s1 ⟨y, H1, I1, ry, q⟩ => thn (ha pins s1 σ H1 _ I1 q) fun ov s2 ⟨x, H2, I2, rx, a, C, dx, fs, ex, ea, c, n, l, q2⟩ => ?_) hs
  subst ex
  obtain rfl : ov = Value.ref a := rx
  exact setattr_ok I2 ea c n l ry fun s3 I3 => ⟨σ, _, I3, q2⟩
end

/-! ### isinstance -/
section
variable {X : Cx} {pins : List (Addr × Obj)} {σ : St} {H : Hp} {s : Shared} {A : Around} {E : Value → Shared → Prop} {Q : Value → Shared → Prop} {c : Value} {b : Bool}
/-- the type of a value, as the fragment's deciders take it; for an instance its class -/
inductive TyOf (K : PySem.W.Frag) (H : Hp) : V → Value → Prop where
  | non : TyOf K H .non (.type "NoneType")
  | bl (x : Bool) : TyOf K H (.bl x) (.type "bool")
  | int (i : Int) : TyOf K H (.int i) (.type "int")
  | str (x : Str) : TyOf K H (.str x) (.type "str")
  | flt (x : UInt64) : TyOf K H (.flt x) (.type "float")
  | lst {a : Addr} {xs : List V} (e : H a = some (.lst xs)) : TyOf K H (.ref a) (.type "list")
  | frz {a : Addr} {o : Obj} {xs : List V} (e : H a = some (.frz o (.lst xs))) : TyOf K H (.ref a) (.type "list")
  | tup {a : Addr} {xs : List V} (e : H a = some (.tup xs)) : TyOf K H (.ref a) (.type "tuple")
  | dK {a : Addr} {kvs : List (Key × V)} (e : H a = some (.dK kvs)) : TyOf K H (.ref a) (.type "dict")
  | dT {a : Addr} {kvs : List (List Key × V)} (e : H a = some (.dT kvs)) : TyOf K H (.ref a) (.type "dict")
  | ins {a C dx : Addr} {fs : List (Str × V)} (e : H a = some (.ins C dx fs)) (cl : Cls K C) (ha : PySem.W.findIn K (.ref C) "__class__" = some (some (.builtin "object.__class__")))
      (hn : PySem.W.specialIn K (.builtin "object.__class__") "__get__" = some (some (.builtin "getset_descriptor.__get__"))) (htk : PySem.W.takesIn K (.builtin "object.__class__") = some true)
      (hm : PySem.W.mroIn K C (.type "object") = some true) : TyOf K H (.ref a) (.ref C)
/-- isinstance(x, c) for one class c, a built-in or an own one: kitOne's answer -/
theorem isinst_ok {x : V} {u t : Value} (I : Inv X pins σ H s) (rx : RelV x u) (ty : TyOf X.K H x t) (e : PySem.W.kitOne X.K t c = some b) (h : ∀ tk, Q (.bool b) { s with toks := tk }) :
    wpAny (model X.prog X.w) A (call (.builtin "isinstance") [u, c]) Q E s := by
  cases ty with
  | non => cases (show u = Value.none from rx); exact PySem.W.kia_one PySem.W.kitx_none I.kIn True.intro e (fun z => nomatch z) h
  | bl y => cases (show u = Value.bool y from rx); exact PySem.W.kia_one PySem.W.kitx_bool I.kIn True.intro e (fun z => nomatch z) h
  | int i => obtain ⟨t, q⟩ := (show ∃ t, u = Value.int i t from rx); cases q; exact PySem.W.kia_one PySem.W.kitx_int I.kIn True.intro e (fun z => nomatch z) h
  | str y => obtain ⟨t, q⟩ := (show ∃ t, u = Value.str y t from rx); cases q; exact PySem.W.kia_one PySem.W.kitx_str I.kIn True.intro e (fun z => nomatch z) h
  | flt y => obtain ⟨t, q⟩ := (show ∃ t, u = Value.float y t from rx); cases q; exact PySem.W.kia_one PySem.W.kitx_float I.kIn True.intro e (fun z => nomatch z) h
  | @lst a xs ea =>
    cases (show u = Value.ref a from rx)
    obtain ⟨_, _, n, _, h1⟩ := (show ObjOk X.prog X.w H s.heap a (.lst xs) from I.hok a _ ea)
    exact PySem.W.kia_one PySem.W.kitx_list I.kIn ⟨_, h1, rfl⟩ e (fun z => nomatch z) h
  | @frz a ob xs ea =>
    cases (show u = Value.ref a from rx)
    obtain ⟨_, _, _, n, _, h1⟩ := (show ObjOk X.prog X.w H s.heap a (.frz ob (.lst xs)) from I.hok a _ ea)
    exact PySem.W.kia_one PySem.W.kitx_list I.kIn ⟨_, h1, rfl⟩ e (fun z => nomatch z) h
  | @tup a xs ea =>
    cases (show u = Value.ref a from rx)
    obtain ⟨_, _, _, p⟩ := (show ObjOk X.prog X.w H s.heap a (.tup xs) from I.hok a _ ea)
    obtain ⟨o, h1, h2, _⟩ := p
    exact PySem.W.kia_one PySem.W.kitx_tuple I.kIn ⟨o, h1, h2⟩ e (fun z => nomatch z) h
  | @dK a kvs ea =>
    cases (show u = Value.ref a from rx)
    obtain ⟨_, _, vs, _, p⟩ := (show ObjOk X.prog X.w H s.heap a (.dK kvs) from I.hok a _ ea)
    obtain ⟨o, es, ep, h1, h2, _⟩ := p
    exact PySem.W.kia_one PySem.W.kitx_dict I.kIn ⟨o, h1, h2.1⟩ e (fun z => nomatch z) h
  | @dT a kvs ea =>
    cases (show u = Value.ref a from rx)
    obtain ⟨_, _, xs, _, o, es, ep, h1, h2, _⟩ := (show ObjOk X.prog X.w H s.heap a (.dT kvs) from I.hok a _ ea)
    exact PySem.W.kia_one PySem.W.kitx_dict I.kIn ⟨o, h1, h2.1⟩ e (fun z => nomatch z) h
  | @ins a C dx fs ea cl ha hn htk hm =>
    cases (show u = Value.ref a from rx)
    obtain ⟨mA, O, _⟩ := ins_get I.hok ea
    obtain ⟨od, J, _⟩ := O.look
    exact PySem.W.kia_one (PySem.W.kitx_own (cl.get _) cl.hd ha hn htk hm) I.kIn J e (fun z => nomatch z) h
end
end L2

namespace L2
open PySem PySem.Spec PyProof.Rows

/-! ### room -/
structure Room (k : Nat) (A : Around) : Prop where
  hd : A.handled = none
  dp : A.depth + 3 * k + 5 < recursionLimit
  un : A.units + 16 * k + 200 < cLine
theorem Room.mono {j k : Nat} {A : Around} (r : Room k A) (h : j ≤ k) : Room j A := ⟨r.hd, by have := r.dp; omega, by have := r.un; omega⟩
theorem Room.deeper {k : Nat} {A : Around} (r : Room (k + 1) A) (env : Env) : Room k (A.deeper env) :=
  ⟨r.hd, by have := r.dp; show A.depth + 1 + 3 * k + 5 < _; omega, by have := r.un; show A.units + 3 + 16 * k + 200 < _; omega⟩
theorem make_depth {A : Around} {C : Addr} {us : List Value} {kw : List (Str × Value)} : (A.under (.builtin "type.__call__" ⟨.ref C :: us, kw⟩)).depth = A.depth + 1 := by
  first | rfl | simp [Around.under, Code.weight, Code.isCreation, Code.isGuard, Code.isCaller, Code.frames, Code.isFrame, guardIds]
theorem make_units {A : Around} {C : Addr} {us : List Value} {kw : List (Str × Value)} : (A.under (.builtin "type.__call__" ⟨.ref C :: us, kw⟩)).units = A.units + 1 := by
  first | rfl | simp [Around.under, Code.cUnits, Code.frames, Code.isFrame]
theorem Room.make {k : Nat} {A : Around} (r : Room (k + 1) A) (C : Addr) (us : List Value) (kw : List (Str × Value)) : Room k (A.under (.builtin "type.__call__" ⟨.ref C :: us, kw⟩)) :=
  ⟨r.hd, by have := r.dp; rw [make_depth]; omega, by have := r.un; rw [make_units]; omega⟩
theorem Room.depth {k : Nat} {A : Around} (r : Room k A) : A.depth < recursionLimit := by have := r.dp; omega
theorem Room.units {k : Nat} {A : Around} (r : Room k A) : A.units + 64 < cLine := by have := r.un; omega
/-! ### argument lists and displays -/
def tNil : TA := fun _ H Q => Q [] H
def tCons (ta : TE) (tr : TA) : TA := fun σ H Q => ta σ H fun x H1 => tr σ H1 fun xs H2 => Q (x :: xs) H2
section
variable {X : Cx} {e : Expr} {es : List Expr} {te : TE} {t : TA} {pos : Pos}
theorem pa_nil : PA X [] tNil := fun _ _ _ _ H Q I h => Calls.spliced_nil ⟨[], H, I, .nil, h⟩
theorem pa_cons (ha : PE X e te) (hr : PA X es t) (hs : starEach (e :: es) X.env = (false, eval e X.env) :: starEach es X.env := by rfl) : PA X (e :: es) (tCons te t) := by
  intro pos pins s σ H Q I h
  rw [hs]
  show wpAny _ _ (spliced ((false, eval e X.env) :: backTo pos (starEach es X.env))) _ _ s
  refine Calls.spliced_cons (thn (ha pins s σ H _ I h) fun u s1 ⟨x, H1, I1, r1, q1⟩ => ?_)
  exact thn (hr pos pins s1 σ H1 _ I1 q1) fun us s2 ⟨xs, H2, I2, r2, q2⟩ => ⟨x :: xs, H2, I2, .cons r1 r2, q2⟩

/-- a tuple, a list of written items -/
def tTup (t : TA) : TE := fun σ H Q => t σ H fun xs H1 => xs.length ≤ sizeLine ∧ ∀ p, H1 p = none → Q (.ref p) (upd H1 p (.tup xs))
def tLst (t : TA) : TE := fun σ H Q => t σ H fun xs H1 => xs.length ≤ sizeLine ∧ ∀ p, H1 p = none → Q (.ref p) (upd H1 p (.lst xs))
theorem pe_tup {x1} (h : PA X es t) : PE X (.Tuple es x1 pos) (tTup t) := by
  intro pins s σ H Q I hq
  refine wpAny_Tuple_spliced (thn (h pos pins s σ H _ I hq) fun us s1 ⟨xs, H1, I1, r, z, q⟩ => ⟨by rw [← r.length]; exact z, ?_⟩)
  have hf : H1 s1.heap.objs.size = none := I1.hok.fresh (Nat.le_refl _)
  refine ⟨.ref s1.heap.objs.size, upd H1 s1.heap.objs.size (.tup xs), I1.laid (t' := s1.toks) (fun b u e => Heap.get?_push_of_some _ e) (Nat.le_refl _) ?_, rfl, q _ hf⟩
  exact ⟨z, us, r, ⟨_, Heap.get?_push_size _ rfl, rfl, _, rfl⟩⟩
theorem pe_lst (h : PA X es t) : PE X (.List es pos) (tLst t) := by
  intro pins s σ H Q I hq
  refine wpAny_List_spliced (thn (h pos pins s σ H _ I hq) fun us s1 ⟨xs, H1, I1, r, z, q⟩ => ⟨by rw [← r.length]; exact z, ?_⟩)
  have hf : H1 s1.heap.objs.size = none := I1.hok.fresh (Nat.le_refl _)
  refine ⟨.ref s1.heap.objs.size, upd H1 s1.heap.objs.size (.lst xs), I1.laid (t' := s1.toks) (fun b u e => Heap.get?_push_of_some _ e) (Nat.le_refl _) ?_, rfl, q _ hf⟩
  exact ⟨z, us, 0, r, Heap.get?_push_size _ rfl⟩
end

/-! ### what a def promises -/
/-- a def's promise: the bound arguments in the parameters' order, the heap, the wanted end, the wanted exception -/
abbrev Sp := List V → Hp → VK → XK → Prop
/-- how an exception lies behind a call (file 08 gives it): the callers' frames, abstract heap and state ahead of the call, the wish, the exception, the state -/
abbrev CXT := List Env → Hp → Shared → XK → Value → Shared → Prop

/-- the state at a call -/
structure Env0 (P : Program) (w : World) (K : PySem.W.Frag) (mg : Str → Option Value) (base : Heap) (A : Around) (outer : List Env) (s : Shared) (H : Hp) : Prop where
  frames : A.frames = some outer
  mod : Mod K mg base
  bs : ∀ b o, base.get? b = some o → s.heap.get? b = some o ∧ H b = none
  bsz : base.objs.size ≤ s.heap.objs.size
  funs : s.heap.FunFrames base outer
  frf : ∀ b ∈ frs outer, H b = none
  hok : HOk P w H s.heap
  bare : AllBare s.gens
/-- a call's end -/
def CE (outer : List Env) (P : Program) (w : World) (H : Hp) (s : Shared) (Q : VK) (u : Value) (s' : Shared) : Prop :=
  ∃ v H', s'.os = s.os ∧ AllBare s'.gens ∧ Un (frs outer) [] H H' s.heap s'.heap ∧ HOk P w H' s'.heap ∧ RelV v u ∧ Q v H'
def CR (CX : CXT) (outer : List Env) (P : Program) (w : World) (H : Hp) (s : Shared) (Q : VK) (E : XK) (r : Result) (s' : Shared) : Prop :=
  match r with
  | .ok (.ret u) => CE outer P w H s Q u s'
  | .ok _ => False
  | .error e => CX outer H s E e s'
structure FnOk (P : Program) (w : World) (K : PySem.W.Frag) (mg : Str → Option Value) (base : Heap) (CX : CXT) (k : Nat) (f : Addr) (fd : FuncData) (ps : List Str) (sp : Sp) : Prop where
  len : ∀ vs H Q E, sp vs H Q E → vs.length = ps.length
  run : ∀ (A : Around) (outer : List Env) (s : Shared) (H : Hp) (args : Args) (us : List Value) (vs : List V) (Q : VK) (E : XK), Room k A → Env0 P w K mg base A outer s H → BindsTo s fd args (ps.zip us) → Vals vs us → sp vs H Q E →
    codeAny (model P w) A (.call (.ref f) args) (CR CX outer P w H s Q E) s
theorem Env0.make {P : Program} {w : World} {K : PySem.W.Frag} {mg : Str → Option Value} {base : Heap} {A : Around} {outer : List Env} {s : Shared} {H : Hp} (e : Env0 P w K mg base A outer s H) (C : Addr) (us : List Value) (kw : List (Str × Value)) :
    Env0 P w K mg base (A.under (.builtin "type.__call__" ⟨.ref C :: us, kw⟩)) outer s H := ⟨by first | exact e.frames | (simpa [Around.under, Code.envs, Code.isFrame, pushEnvs] using e.frames), e.mod, e.bs, e.bsz, e.funs, e.frf, e.hok, e.bare⟩
section
variable {X : Cx} {pins : List (Addr × Obj)} {σ : St} {H : Hp} {s s' : Shared}
/-- from a body: what a callee wants -/
theorem Inv.env0 (I : Inv X pins σ H s) : Env0 X.prog X.w X.K X.mg X.base X.A X.stack s H :=
  ⟨I.ok.frames, I.ok.mod, I.bs, Nat.le_trans I.ok.bsz I.sz, I.stack, I.stkFree, I.hok, I.bare⟩
/-- behind a call -/
theorem Inv.after {Q : VK} {u : Value} (I : Inv X pins σ H s) (h : CE X.stack X.prog X.w H s Q u s') : EP X pins σ Q u s' := by
  obtain ⟨v, H', os, bare, un, hok, r, q⟩ := h
  obtain ⟨hh, g, d, t, os'⟩ := s'
  obtain rfl : os' = s.os := os
  exact ⟨v, H', I.call (h' := hh) (g' := g) (d' := d) (t' := t) (ch := []) un hok bare (fun b z => absurd z (by simp)), r, q⟩
end

/-! ### calls -/
/-- f(..): the written arguments, then the defaults dvs; E: what is wanted of an exception -/
def tCall (sp : Sp) (dvs : List V) (E : XK) (t : TA) : TE := fun σ H Q => t σ H fun vs H1 => sp (vs ++ dvs) H1 Q E
/-- o.m(..) of an instance of the class at C -/
def tMeth (C : Addr) (m : Str) (sp : Sp) (dvs : List V) (E : XK) (ta : TE) (t : TA) : TE := fun σ H Q => ta σ H fun x H1 => ∃ a dx fs, x = .ref a ∧ H1 a = some (.ins C dx fs) ∧ fs.lookup m = none ∧
  t σ H1 fun vs H2 => sp (x :: (vs ++ dvs)) H2 Q E
/-- C(..): a new instance and its dict, then __init__ -/
def tMake (C : Addr) (sp : Sp) (dvs : List V) (E : XK) (t : TA) : TE := fun σ H Q => t σ H fun vs H1 => ∀ x dx, H1 x = none → H1 dx = none → dx ≠ x →
  sp (.ref x :: (vs ++ dvs)) (upd (upd H1 dx (.own x)) x (.ins C dx [])) (fun v H2 => v = .non ∧ Q (.ref x) H2) E

/-- how the parameters are bound: us the positional arguments, kw the keywords' values by name, ds the defaults that fill up -/
def Binds (K : PySem.W.Frag) (fd : FuncData) (ps : List Str) (ds : List Value) : Prop :=
  ∀ (s : Shared) (us : List Value), K.In s.heap → (us ++ ds).length = ps.length → BindsTo s fd ⟨us, []⟩ (ps.zip (us ++ ds))
/-- every parameter is given -/
theorem Binds.all {K : PySem.W.Frag} {fd : FuncData} {ps : List Str} (h : ∀ us : List Value, us.length = ps.length → bindArgs fd ⟨us, []⟩ = pure (ps.zip us)) : Binds K fd ps [] := fun s us _ hl => by
  rw [List.append_nil] at hl ⊢
  exact .of_eq (h us hl)

/-- an exception of a callee reaches what this body wants of exceptions -/
def Passes (CX : CXT) (X : Cx) (E : XK) : Prop := ∀ (pins : List (Addr × Obj)) (σ : St) (H : Hp) (s : Shared) (e : Value) (s' : Shared), Inv X pins σ H s → CX X.stack H s E e s' → X.xe e s'

section
variable {X : Cx} {CX : CXT} {k : Nat} {f C : Addr} {fd : FuncData} {ps : List Str} {sp : Sp} {dvs : List V} {ds : List Value} {E : XK} {x m : Str} {p pos apos : Pos} {e o : Expr} {es : List Expr} {ta : TE} {t : TA}

/-- the callee runs -/
theorem run_fn {pins : List (Addr × Obj)} {σ : St} {H : Hp} {s : Shared} {Q : VK} {us : List Value} {vs : List V} (F : FnOk X.prog X.w X.K X.mg X.base CX k f fd ps sp) (hr : Room k X.A) (hb : Binds X.K fd ps ds) (hd : Vals dvs ds) (hx : Passes CX X E)
    (I : Inv X pins σ H s) (r : Vals vs us) (h : sp (vs ++ dvs) H Q E) : wpAny (model X.prog X.w) X.A (call (.ref f) us) (EP X pins σ Q) X.xe s := by
  have r2 : Vals (vs ++ dvs) (us ++ ds) := r.append hd
  have hl : (us ++ ds).length = ps.length := by rw [← r2.length]; exact F.len _ _ _ _ h
  refine wpAny_call (codeAny_mono (F.run X.A X.stack s H ⟨us, []⟩ (us ++ ds) (vs ++ dvs) Q E hr I.env0 (hb s us I.kIn hl) r2 h) fun r s' hq => ?_)
  cases r with
  | error e => exact hx pins σ H s e s' I hq
  | ok fl =>
    cases fl with
    | ret u => exact I.after hq
    | next => exact False.elim hq
    | brk => exact False.elim hq
    | cont => exact False.elim hq

theorem pe_call (F : FnOk X.prog X.w X.K X.mg X.base CX k f fd ps sp) (hr : Room k X.A) (hg : Gl X x) (hm : X.mg x = some (.ref f)) (hk : PySem.W.keepIn X.K (.ref f) = true) (hb : Binds X.K fd ps ds) (hd : Vals dvs ds) (hx : Passes CX X E)
    (ha : PA X (e :: es) t) (hdb : (x == ("__debug__" : Str)) = false := by decide) (he : starEach (e :: es) X.env = (false, eval e X.env) :: starEach es X.env := by rfl) (hpl : (backTo pos (starEach es X.env)).any (·.1) = false := by rfl) :
    PE X (.Call (.Name x p) (e :: es) [] pos) (tCall sp dvs E t) := by
  intro pins s σ H Q I h
  refine wpAny_Call_Name_kw (ld_glob I hg hm ?_ hdb)
  refine PySem.W.callWith_K (h₀ := X.base) I.ok.mod.kin hk (thn (ha pos pins s σ H _ I h) fun us s1 ⟨vs, H1, I1, r, q⟩ => ⟨I1.kIn, ?_⟩) he hpl
  exact run_fn F hr hb hd hx I1 r q
/-- o.m(e, ..) -/
theorem pe_meth {pl : Sem Bool} (he : PE X o ta) (c : Cls X.K C) (hm : Meth X.K C m f) (F : FnOk X.prog X.w X.K X.mg X.base CX k f fd ps sp) (hr : Room k X.A) (hb : Binds X.K fd ps ds) (hd : Vals dvs ds) (hx : Passes CX X E) (ha : PA X (e :: es) t)
    (hst : starEach (e :: es) X.env = (false, eval e X.env) :: starEach es X.env := by rfl) (hpl : (backTo pos (starEach es X.env)).any (·.1) = false := by rfl)
    (ht : eval (.Call (.Attribute o m apos) (e :: es) [] pos) X.env = (do
      let ov ← eval o X.env
      standAt apos.atName
      let (f, first) ← holding [ov] (getMethod ov m pl)
      callWith pos f first (backTo pos (starEach (e :: es) X.env)) (backToKw pos (keywordEach [] X.env))) := by rfl) :
    PE X (.Call (.Attribute o m apos) (e :: es) [] pos) (tMeth C m sp dvs E ta t) := by
  intro pins s σ H Q I h
  refine PySem.W.methodCall_KW (pl := pl) (thn (he pins s σ H _ I h) fun u s1 ⟨x, H1, I1, rx, a, dx, fs, ex, ea, l, q⟩ => ?_) ht
  subst ex
  obtain rfl : u = Value.ref a := rx
  refine getmeth_ok I1 ea c hm l ?_
  refine PySem.W.callWith_K (first := [.ref a]) (h₀ := X.base) I.ok.mod.kin hm.kp (thn (ha pos pins s1 σ H1 _ I1 q) fun us s2 ⟨vs, H2, I2, r, q2⟩ => ⟨I2.kIn, ?_⟩) hst hpl
  exact run_fn (us := .ref a :: us) (vs := .ref a :: vs) F hr hb hd hx I2 (.cons rfl r) q2
/-- o.m() -/
theorem pe_meth0 {pl : Sem Bool} (he : PE X o ta) (c : Cls X.K C) (hm : Meth X.K C m f) (F : FnOk X.prog X.w X.K X.mg X.base CX k f fd ps sp) (hr : Room k X.A) (hb : Binds X.K fd ps ds) (hd : Vals dvs ds) (hx : Passes CX X E)
    (ht : eval (.Call (.Attribute o m apos) [] [] pos) X.env = (do
      let ov ← eval o X.env
      standAt apos.atName
      let (f, first) ← holding [ov] (getMethod ov m pl)
      callWith pos f first (backTo pos (starEach [] X.env)) (backToKw pos (keywordEach [] X.env))) := by rfl) :
    PE X (.Call (.Attribute o m apos) [] [] pos) (tMeth C m sp dvs E ta tNil) := by
  intro pins s σ H Q I h
  refine PySem.W.methodCall_KW (pl := pl) (thn (he pins s σ H _ I h) fun u s1 ⟨x, H1, I1, rx, a, dx, fs, ex, ea, l, q⟩ => ?_) ht
  subst ex
  obtain rfl : u = Value.ref a := rx
  refine getmeth_ok I1 ea c hm l ?_
  exact PySem.W.callWith_K0 (first := [.ref a]) I1.kIn hm.kp (run_fn (us := [.ref a]) (vs := [.ref a]) F hr hb hd hx I1 (.cons rfl .nil) q)

/-- what a class must have to be made -/
structure Mk (K : PySem.W.Frag) (C f : Addr) : Prop where
  makes : PySem.W.makesIn K C = true
  init : PySem.W.findIn K (.ref C) "__init__" = some (some (.ref f))
  fn : PySem.W.isFn K (.ref f) = true
  kp : PySem.W.keepIn K (.ref C) = true

theorem run_make {pins : List (Addr × Obj)} {σ : St} {H : Hp} {s : Shared} {Q : VK} {us : List Value} {vs : List V} (M : Mk X.K C f) (F : FnOk X.prog X.w X.K X.mg X.base CX k f fd ps sp) (hr : Room (k + 1) X.A) (hb : Binds X.K fd ps ds) (hd : Vals dvs ds)
    (hx : Passes CX X E) (I : Inv X pins σ H s) (r : Vals vs us)
    (h : ∀ x dx, H x = none → H dx = none → dx ≠ x → sp (.ref x :: (vs ++ dvs)) (upd (upd H dx (.own x)) x (.ins C dx [])) (fun v H2 => v = .non ∧ Q (.ref x) H2) E) :
    wpAny (model X.prog X.w) X.A (call (.ref C) us) (EP X pins σ Q) X.xe s := by
  have hq := h (s.heap.objs.size + 1) s.heap.objs.size (I.hok.fresh (Nat.le_succ _)) (I.hok.fresh (Nat.le_refl _)) (Nat.ne_of_lt (Nat.lt_succ_self _))
  have I2 := Inv.made (C := C) I
  have r2 : Vals (V.ref (s.heap.objs.size + 1) :: (vs ++ dvs)) (Value.ref (s.heap.objs.size + 1) :: (us ++ ds)) := .cons rfl (r.append hd)
  have hl : (Value.ref (s.heap.objs.size + 1) :: us ++ ds).length = ps.length := by
    have e := r2.length
    rw [F.len _ _ _ _ hq] at e
    exact e.symm
  refine wpAny_call (make_map (f := f) I.kIn M.makes M.init (beq_iff_eq.mp M.fn) (codeAny_mono (F.run _ X.stack _ _ ⟨Value.ref (s.heap.objs.size + 1) :: us, []⟩ (Value.ref (s.heap.objs.size + 1) :: (us ++ ds)) _ _ E (hr.make C us [])
    (I2.env0.make C us []) (hb _ (Value.ref (s.heap.objs.size + 1) :: us) I2.kIn hl) r2 hq) fun r s' hq' => ?_))
  cases r with
  | error e => exact hx pins σ _ _ e s' I2 hq'
  | ok fl =>
    cases fl with
    | ret u =>
      obtain ⟨v, H', I3, rv, ev, q3⟩ := I2.after hq'
      subst ev
      exact ⟨rv, ⟨V.ref (s.heap.objs.size + 1), H', I3, rfl, q3⟩⟩
    | next => exact False.elim hq'
    | brk => exact False.elim hq'
    | cont => exact False.elim hq'
theorem pe_make0 (M : Mk X.K C f) (F : FnOk X.prog X.w X.K X.mg X.base CX k f fd ps sp) (hr : Room (k + 1) X.A) (hg : Gl X x) (hm : X.mg x = some (.ref C)) (hb : Binds X.K fd ps ds) (hd : Vals dvs ds) (hx : Passes CX X E)
    (hdb : (x == ("__debug__" : Str)) = false := by decide) : PE X (.Call (.Name x p) [] [] pos) (tMake C sp dvs E tNil) := by
  intro pins s σ H Q I h
  refine wpAny_Call_Name_kw (ld_glob I hg hm ?_ hdb)
  exact PySem.W.callWith_K0 I.kIn M.kp (run_make (us := []) M F hr hb hd hx I .nil h)
end

/-! ### keywords -/
section
variable {X : Cx} {CX : CXT} {k : Nat} {f C : Addr} {fd : FuncData} {ps ks : List Str} {sp : Sp} {E : XK} {x m : Str} {p pos apos kpos : Pos} {e o : Expr} {es : List Expr} {kws : List Keyword} {te ta : TE} {t tk : TA} {nm : Option Str}
/-- how a call with keywords binds: g puts the positional values us and the keywords' values ws (names ks) in the parameters' order, defaults among them -/
structure KBinds (K : PySem.W.Frag) (fd : FuncData) (ps ks : List Str) (g : List Value → List Value → List Value) (gV : List V → List V → List V) : Prop where
  to : ∀ (s : Shared) (us ws : List Value), K.In s.heap → (g us ws).length = ps.length → BindsTo s fd ⟨us, ks.zip ws⟩ (ps.zip (g us ws))
  rel : ∀ {vs : List V} {us : List Value} {zs : List V} {ws : List Value}, Vals vs us → Vals zs ws → Vals (gV vs zs) (g us ws)
variable {g : List Value → List Value → List Value} {gV : List V → List V → List V}
end

/-! ### a def's body keeps its promise -/
/-- names: the parameters first -/
structure FnScope (N P : List Str) (sc : Scope) : Prop where
  kind : sc.kind = .function
  co : sc.isCoroutine = false
  gen : sc.isGenerator = false
  nd : N.Nodup
  pre : N.take P.length = P
  par : ∀ x ∈ P, sc.names.lookup x = some .local ∨ sc.names.lookup x = some .cell
  nofree : ∀ y ∈ sc.names, y.2 ≠ .free

theorem bindL_out {kindOf : Str → Option NameKind} {x : Str} : ∀ {binds : List (Str × Value)} {m : Str → Option Value}, (∀ v, (x, v) ∉ binds) → bindL kindOf binds m x = m x
  | [], _, _ => rfl
  | (n, v) :: r, m, h => by
    unfold bindL
    rw [bindL_out fun w hw => h w (List.mem_cons_of_mem _ hw)]
    split
    · have : x ≠ n := by rintro rfl; exact h v List.mem_cons_self
      simp [this]
    · rfl
theorem bindC_out {kindOf : Str → Option NameKind} {x : Str} : ∀ {binds : List (Str × Value)} {m : Str → Option Value}, (∀ v, (x, v) ∉ binds) → bindC kindOf binds m x = m x
  | [], _, _ => rfl
  | (n, v) :: r, m, h => by
    unfold bindC
    rw [bindC_out fun w hw => h w (List.mem_cons_of_mem _ hw)]
    split
    · rfl
    · have : x ≠ n := by rintro rfl; exact h v List.mem_cons_self
      simp [this]
theorem bindL_get {kindOf : Str → Option NameKind} {x : Str} {v : Value} : ∀ {P : List Str} {vs : List Value} {i : Nat} {m : Str → Option Value}, P.Nodup → P[i]? = some x → vs[i]? = some v → kindOf x = some .local →
    bindL kindOf (P.zip vs) m x = some v
  | [], _, _, _, _, h, _, _ => by simp at h
  | _ :: _, [], _, _, _, _, h, _ => by simp at h
  | p :: P, w :: vs, 0, m, nd, h1, h2, hk => by
    simp at h1 h2; subst h1; subst h2
    show bindL kindOf ((p, w) :: P.zip vs) m p = _
    unfold bindL
    rw [bindL_out fun v hv => (List.nodup_cons.mp nd).1 (List.of_mem_zip hv).1, if_pos hk]
    simp
  | p :: P, w :: vs, i + 1, m, nd, h1, h2, hk => by
    show bindL kindOf ((p, w) :: P.zip vs) m x = _
    unfold bindL
    exact bindL_get (i := i) (List.nodup_cons.mp nd).2 (by simpa using h1) (by simpa using h2) hk
theorem bindC_get {kindOf : Str → Option NameKind} {x : Str} {v : Value} : ∀ {P : List Str} {vs : List Value} {i : Nat} {m : Str → Option Value}, P.Nodup → P[i]? = some x → vs[i]? = some v → kindOf x ≠ some .local →
    bindC kindOf (P.zip vs) m x = some v
  | [], _, _, _, _, h, _, _ => by simp at h
  | _ :: _, [], _, _, _, _, h, _ => by simp at h
  | p :: P, w :: vs, 0, m, nd, h1, h2, hk => by
    simp at h1 h2; subst h1; subst h2
    show bindC kindOf ((p, w) :: P.zip vs) m p = _
    unfold bindC
    rw [bindC_out fun v hv => (List.nodup_cons.mp nd).1 (List.of_mem_zip hv).1, if_neg hk]
    simp
  | p :: P, w :: vs, i + 1, m, nd, h1, h2, hk => by
    show bindC kindOf ((p, w) :: P.zip vs) m x = _
    unfold bindC
    exact bindC_get (i := i) (List.nodup_cons.mp nd).2 (by simpa using h1) (by simpa using h2) hk

/-- the names' values at the entry -/
def start (N : List Str) (vs : List V) : St := vs.map some ++ List.replicate (N.length - vs.length) none

/-- the context of a def's body, at its entry; an exception leaves the frame, then lies as CX says -/
def cxOf (CX : CXT) (P : Program) (w : World) (K : PySem.W.Frag) (mg : Str → Option Value) (base : Heap) (N : List Str) (qual : Str) (scope : Scope) (f : Addr) (cd : Value) (A : Around) (outer : List Env) (s : Shared) (H : Hp) (E : XK) : Cx where
  prog := P
  w := w
  K := K
  mg := mg
  base := base
  A := A.deeper (envOfC qual scope s.heap.objs.size f cd)
  N := N
  s₀ := s
  H₀ := H
  env := envOfC qual scope s.heap.objs.size f cd
  outer := outer
  stack := envOfC qual scope s.heap.objs.size f cd :: outer
  ex := []
  calm := true
  fn := fun _ => true
  pn := []
  xe := fun e s' => wpAny (model P w) (A.deeper (envOfC qual scope s.heap.objs.size f cd)) (leaving (envOfC qual scope s.heap.objs.size f cd) e) (fun _ s'' => CX outer H s E e s'') (fun e' s'' => CX outer H s E e' s'') s'

theorem cell_has {sc : Scope} {n : Nat} {x : Str} (h : sc.names.lookup x = some .cell) : ∃ c, (cellsFrom n sc.names []).lookup x = some c := by
  have q := PySem.W.cellsFrom_some sc.names n [] (.inl h)
  exact Option.isSome_iff_exists.mp q

theorem inv_start {CX : CXT} {P : Program} {w : World} {K : PySem.W.Frag} {mg : Str → Option Value} {base : Heap} {N ps : List Str} {qual : Str} {scope : Scope} {f : Addr} {cd : Value} {A : Around} {outer : List Env} {s s1 : Shared} {H : Hp} {E : XK} {us : List Value} {vs : List V}
    (S : FnScope N ps scope) (hd : A.handled = none) (e0 : Env0 P w K mg base A outer s H) (hl : vs.length = ps.length) (r : Vals vs us)
    (x : InCallC s s.heap.objs.size (bindL (envOfC qual scope s.heap.objs.size f cd).kindOf (ps.zip us) fun _ => none) (cellsFrom (s.heap.objs.size + 1) scope.names []) (bindC (envOfC qual scope s.heap.objs.size f cd).kindOf (ps.zip us) fun _ => none) s1) :
    Inv (cxOf CX P w K mg base N qual scope f cd A outer s H E) [] (start N vs) H s1 := by
  have hpl : ps.length ≤ N.length := by have := congrArg List.length S.pre; rw [List.length_take] at this; omega
  obtain ⟨h1, tk, rfl, hk⟩ := x.done
  have noA : ∀ b : Addr, b ∉ (cxOf CX P w K mg base N qual scope f cd A outer s H E).ex := fun b z => absurd (show b ∈ ([] : List Addr) from z) (by simp)
  refine ⟨⟨e0.mod, S.kind, rfl, rfl, Nat.le_refl _, fun y z c h1 h2 => ?_, fun y hy => ?_, fun y c _ h => ?_, fun _ => hd, Around.frames_deeper e0.frames, .inr ⟨rfl, rfl⟩, fun b z => absurd z (noA b), e0.bs, e0.bsz, fun b _ _ => noA b, fun b z => absurd z (noA b), e0.funs, e0.frf⟩,
    rfl, e0.bare, Un.kept hk, ⟨_, x.toInCall.ns, fun i y v h1 h2 h3 => ?_⟩, fun y c h => ⟨_, x.cell y c h⟩, e0.hok.fresh (Nat.le_refl _), fun y c h => ?_, fun p hp => absurd (show p ∈ ([] : List (Addr × Obj)) from hp) (by simp), e0.hok.kept hk, ?_⟩
  · exact name_of_addr x.apart (PySem.mem_of_lookup h1) (PySem.mem_of_lookup h2)
  · have hy : scope.names.lookup y = some .cell ∨ scope.names.lookup y = some .free := hy
    rcases hy with hy | hy
    · exact cell_has hy
    · exact absurd rfl (S.nofree _ (PySem.mem_of_lookup hy))
  · exact Nat.le_of_lt (x.above y c (PySem.mem_of_lookup h))
  · have hi : i < vs.length := by
      unfold start at h2
      by_cases hi : i < vs.length
      · exact hi
      · rw [List.getElem?_append_right (by simpa using hi)] at h2
        rw [List.getElem?_replicate] at h2
        split at h2 <;> cases h2
    have ha : vs[i]? = some v := by
      unfold start at h2
      rw [List.getElem?_append_left (by simpa using hi), List.getElem?_map] at h2
      cases e : vs[i]? with
      | none => rw [e] at h2; cases h2
      | some a => rw [e] at h2; cases h2; rfl
    obtain ⟨u, hu, rv⟩ := r.get ha
    have hp : ps[i]? = some y := by
      rw [← S.pre, List.getElem?_take_of_lt (by omega)]; exact h1
    have ndP : ps.Nodup := by rw [← S.pre]; exact S.nd.sublist (List.take_sublist _ _)
    refine ⟨u, rv, ?_⟩
    rcases S.par y (List.mem_of_getElem? hp) with k | k
    · exact .inl ⟨k, bindL_get ndP hp hu k⟩
    · obtain ⟨c, e⟩ := cell_has (n := s.heap.objs.size + 1) k
      refine .inr ⟨.inl k, c, e, ?_⟩
      have q := x.cell y c e
      rw [bindC_get ndP hp hu (by show scope.names.lookup y ≠ _; rw [k]; decide)] at q
      exact q
  · exact e0.hok.fresh (Nat.le_of_lt (x.above y c (PySem.mem_of_lookup h)))
  · unfold start
    show _ = N.length
    rw [List.length_append, List.length_map, List.length_replicate]
    omega

/-- THE RULE: a def (or a method) of the text, by its body. The body's reading t is chosen for each entry; it is run at the parameters' values -/
theorem fn_of {CX : CXT} {P : Program} {w : World} {K : PySem.W.Frag} {mg : Str → Option Value} {base : Heap} {k : Nat} {f : Addr} {name qual : Str} {params : Arguments} {body : List Stmt} {scope : Scope} {dV kV doc pm cdv ct oc : Value} {an od : Option Addr}
    {osl : Array (Option Value)} {N ps : List Str} {sp : Sp} (lk : K.lookup f = some ⟨oc, od, .func (PySem.W.fnOf name qual params body scope dV kV doc pm an cdv ct), osl⟩) (hcd : PySem.W.codeIn K cdv qual = true) (S : FnScope N ps scope)
    (len : ∀ vs H Q E, sp vs H Q E → vs.length = ps.length)
    (hbody : ∀ (A : Around) (outer : List Env) (s : Shared) (H : Hp) (vs : List V) (Q : VK) (E : XK), Room k (A.deeper (envOfC qual scope s.heap.objs.size f cdv)) → sp vs H Q E →
      ∃ t, PSs (cxOf CX P w K mg base N qual scope f cdv A outer s H E) body t ∧ t { nx := fun _ H' => Q .non H', rt := Q } (start N vs) H) :
    FnOk P w K mg base CX (k + 1) f (PySem.W.fnOf name qual params body scope dV kV doc pm an cdv ct) ps sp := by
  refine ⟨len, fun A outer s H args us vs Q E hr e0 hb r hsp => ?_⟩
  have hl := len _ _ _ _ hsp
  have KX : K.In s.heap := e0.mod.kin.keeps fun b o e => (e0.bs b o e).1
  have lim : s.heap.NoLimit := e0.mod.nolimit.keeps fun b o e => (e0.bs b o e).1
  have hkind : ∀ y ∈ ps.zip us, scope.names.lookup y.1 = some .local ∨ (scope.names.lookup y.1 = some .cell ∧ ((cellsFrom (s.heap.objs.size + 1) scope.names []).lookup y.1).isSome = true) := fun ⟨n, v⟩ hy => by
    rcases S.par n (List.of_mem_zip hy).1 with q | q
    · exact .inl q
    · exact .inr ⟨q, PySem.W.cellsFrom_some _ _ _ (.inl q)⟩
  refine codeAny_call_function hr.depth (KX _ _ lk) rfl S.co S.gen rfl (PySem.W.codeRec_of KX hcd) (hb _ _ _ _ ?_)
  refine wpAny_newFunctionEnv_cells S.kind hkind fun env he s1 x => ?_
  subst he
  refine ⟨lim.keeps x.toInCall.keep, codeAny_func ?_⟩
  obtain ⟨t, ht, hq⟩ := hbody A outer s H vs Q E (hr.deeper _) hsp
  have I : Inv (cxOf CX P w K mg base N qual scope f cdv A outer s H E) [] (start N vs) H s1 := inv_start S hr.hd e0 hl r x
  refine wpAny_mono (ht [] s1 (start N vs) H _ I hq) (fun fl s' hs => ?_) fun e s' hs => hs
  have fin : ∀ {σ' : St} {H' : Hp} {v : V} {u : Value}, Inv (cxOf CX P w K mg base N qual scope f cdv A outer s H E) [] σ' H' s' → RelV v u → Q v H' → CE outer P w H s Q u s' :=
    fun {σ' H' v u} J rv q => ⟨v, H', J.os, J.bare, J.base, J.hok, rv, q⟩
  cases fl with
  | ret u =>
    obtain ⟨v, σ', H', J, rv, q⟩ := hs
    exact fin J rv q
  | next =>
    obtain ⟨σ', H', J, q⟩ := hs
    exact fin (v := V.non) (u := Value.none) J rfl q
  | brk =>
    obtain ⟨_, _, _, q⟩ := hs
    exact False.elim q
  | cont =>
    obtain ⟨_, _, _, q⟩ := hs
    exact False.elim q
end L2

namespace L2
open PySem PySem.Spec PyProof.Rows
section
variable {X : Cx} {x : Str} {p pos : Pos} {e : Expr} {es : List Expr} {t : TA} {id T : String} {r : List V → Hp → VK → Prop}

def tCB (r : List V → Hp → VK → Prop) (t : TA) : TE := fun σ H Q => t σ H fun vs H1 => r vs H1 Q
/-- f(e, ..), f a built-in function -/
theorem pe_callB (hc : CallR X (.builtin id) r) (hg : Gl X x) (hm : X.mg x = none) (hv : bootBuiltins x = some (.builtin id)) (ha : PA X (e :: es) t) (hn : x ≠ "__name__" := by decide) (hdb : (x == ("__debug__" : Str)) = false := by decide)
    (he : starEach (e :: es) X.env = (false, eval e X.env) :: starEach es X.env := by rfl) (hpl : (backTo pos (starEach es X.env)).any (·.1) = false := by rfl) : PE X (.Call (.Name x p) (e :: es) [] pos) (tCB r t) := by
  intro pins s σ H Q I h
  refine wpAny_Call_Name_kw (ld_blt I hg hm hv ?_ hn hdb)
  exact PyProof.Rows.callWith_builtin1 (thn (ha pos pins s σ H _ I h) fun us s1 ⟨vs, H1, I1, r1, q1⟩ => hc pins s1 σ H1 vs us Q I1 r1 q1) he hpl
/-- T(e, ..), T a built-in type -/
theorem pe_callTy (hc : CallR X (.type T) r) (hg : Gl X x) (hm : X.mg x = none) (hv : bootBuiltins x = some (.type T)) (ha : PA X (e :: es) t) (hn : x ≠ "__name__" := by decide) (hdb : (x == ("__debug__" : Str)) = false := by decide)
    (he : starEach (e :: es) X.env = (false, eval e X.env) :: starEach es X.env := by rfl) (hpl : (backTo pos (starEach es X.env)).any (·.1) = false := by rfl) : PE X (.Call (.Name x p) (e :: es) [] pos) (tCB r t) := by
  intro pins s σ H Q I h
  refine wpAny_Call_Name_kw (ld_blt I hg hm hv ?_ hn hdb)
  exact PyProof.Rows.callWith_type1 (thn (ha pos pins s σ H _ I h) fun us s1 ⟨vs, H1, I1, r1, q1⟩ => hc pins s1 σ H1 vs us Q I1 r1 q1) he hpl
end
end L2

namespace L2
open PySem PySem.Spec PyProof.Rows

/-! ### lists of pairs as tables -/
section
variable {κ : Type} [DecidableEq κ]
def valV (kvs : List (κ × V)) (k : κ) : Option V := (kvs.find? fun kv => decide (kv.1 = k)).map (·.2)
/-- in its place, or at the end -/
def putK (kvs : List (κ × V)) (k : κ) (v : V) : List (κ × V) :=
  if (kvs.any fun kv => decide (kv.1 = k)) = true then kvs.map (fun kv => if kv.1 = k then (kv.1, v) else kv) else kvs ++ [(k, v)]
def dropK (kvs : List (κ × V)) (k : κ) : List (κ × V) := kvs.filter fun kv => decide (kv.1 ≠ k)

theorem valV_pos {p : κ × V} {r : List (κ × V)} {k : κ} (e : p.1 = k) : valV (p :: r) k = some p.2 := by simp [valV, List.find?_cons, e]
theorem valV_neg {p : κ × V} {r : List (κ × V)} {k : κ} (e : ¬ p.1 = k) : valV (p :: r) k = valV r k := by simp [valV, List.find?_cons, e]
theorem valV_any (k : κ) : ∀ kvs : List (κ × V), (kvs.any fun kv => decide (kv.1 = k)) = (valV kvs k).isSome
  | [] => rfl
  | p :: r => by
    rw [List.any_cons]
    by_cases e : p.1 = k
    · simp only [valV_pos e, decide_eq_true e, Bool.true_or, Option.isSome_some]
    · rw [valV_neg e, decide_eq_false e, Bool.false_or]; exact valV_any k r
theorem length_putK (kvs : List (κ × V)) (k : κ) (v : V) : (putK kvs k v).length ≤ kvs.length + 1 := by
  unfold putK
  split
  · rw [List.length_map]; omega
  · rw [List.length_append, List.length_cons, List.length_nil]; omega
theorem putK_new {kvs : List (κ × V)} {k : κ} (v : V) (h : valV kvs k = none) : putK kvs k v = kvs ++ [(k, v)] := by
  unfold putK
  rw [valV_any, h]
  exact if_neg (by decide)

theorem RelO.isSome_eq {o : Option V} {u : Option Value} (r : RelO o u) : o.isSome = u.isSome := by
  cases o with
  | none => cases u with
    | none => rfl
    | some _ => exact (show False from r).elim
  | some _ => cases u with
    | none => exact (show False from r).elim
    | some _ => rfl
theorem RelO.getD {o : Option V} {u : Option Value} {d : V} {d' : Value} (r : RelO o u) (rd : RelV d d') : RelV (o.getD d) (u.getD d') := by
  cases o with
  | none => cases u with
    | none => exact rd
    | some _ => exact (show False from r).elim
  | some _ => cases u with
    | none => exact (show False from r).elim
    | some _ => exact r

/-- raw tables of the same keys -/
theorem KV.val {kvs : List (κ × V)} {vs : List (κ × Value)} (r : KV kvs vs) (k : κ) : RelO (valV kvs k) (valueAt vs k) := by
  unfold KV at r
  induction r with
  | nil => exact True.intro
  | @cons p q ps qs h t ih =>
    obtain ⟨h1, h2⟩ := h
    by_cases e : p.1 = k
    · have e' : q.1 = k := h1.symm.trans e
      have b : valueAt (q :: qs) k = some q.2 := by simp [valueAt, List.find?_cons, e']
      rw [valV_pos e, b]; exact h2
    · have e' : ¬ q.1 = k := fun z => e (h1.trans z)
      have b : valueAt (q :: qs) k = valueAt qs k := by simp [valueAt, List.find?_cons, e']
      rw [valV_neg e, b]; exact ih
theorem KV.any {kvs : List (κ × V)} {vs : List (κ × Value)} (r : KV kvs vs) (k : κ) : (kvs.any fun kv => decide (kv.1 = k)) = vs.any fun kv => decide (kv.1 = k) := by
  unfold KV at r
  induction r with
  | nil => rfl
  | cons h t ih => rw [List.any_cons, List.any_cons, ih, h.1]
theorem KV.repl {kvs : List (κ × V)} {vs : List (κ × Value)} (r : KV kvs vs) (k : κ) {y : V} {u : Value} (ry : RelV y u) :
    KV (kvs.map fun kv => if kv.1 = k then (kv.1, y) else kv) (vs.map fun kv => if kv.1 = k then (kv.1, u) else kv) := by
  unfold KV at r ⊢
  induction r with
  | nil => exact .nil
  | @cons p q ps qs h t ih =>
    rw [List.map_cons, List.map_cons]
    refine .cons ?_ ih
    obtain ⟨h1, h2⟩ := h
    by_cases e : p.1 = k
    · rw [if_pos e, if_pos (h1.symm.trans e)]; exact ⟨h1, ry⟩
    · rw [if_neg e, if_neg (fun z => e (h1.trans z))]; exact ⟨h1, h2⟩
theorem KV.put {kvs : List (κ × V)} {vs : List (κ × Value)} (r : KV kvs vs) (k : κ) {y : V} {u : Value} (ry : RelV y u) : KV (putK kvs k y) (stored vs k u) := by
  unfold putK stored
  rw [r.any k]
  by_cases e : (vs.any fun kv => decide (kv.1 = k)) = true
  · rw [if_pos e, if_pos e]; exact r.repl k ry
  · rw [if_neg e, if_neg e]; exact Paired.snoc r ⟨rfl, ry⟩
theorem KV.drop {kvs : List (κ × V)} {vs : List (κ × Value)} (r : KV kvs vs) (k : κ) : KV (dropK kvs k) (without vs k) := by
  unfold KV at r ⊢
  unfold dropK without
  induction r with
  | nil => exact .nil
  | @cons p q ps qs h t ih =>
    obtain ⟨h1, h2⟩ := h
    rw [List.filter_cons, List.filter_cons]
    by_cases e : p.1 = k
    · have a : ¬ decide (p.1 ≠ k) = true := by simp [e]
      have b : ¬ decide (q.1 ≠ k) = true := by simp [h1.symm.trans e]
      rw [if_neg a, if_neg b]; exact ih
    · have e' : ¬ q.1 = k := fun z => e (h1.trans z)
      have a : decide (p.1 ≠ k) = true := by simp [e]
      have b : decide (q.1 ≠ k) = true := by simp [e']
      rw [if_pos a, if_pos b]; exact .cons ⟨h1, h2⟩ ih
theorem KV.keys {kvs : List (κ × V)} {vs : List (κ × Value)} (r : KV kvs vs) : kvs.map (·.1) = vs.map (·.1) := by
  unfold KV at r
  induction r with
  | nil => rfl
  | cons h t ih => rw [List.map_cons, List.map_cons, ih, h.1]
theorem KV.length {kvs : List (κ × V)} {vs : List (κ × Value)} (r : KV kvs vs) : kvs.length = vs.length := Paired.length r
theorem dropK_le (kvs : List (κ × V)) (k : κ) : (dropK kvs k).length ≤ kvs.length := List.length_filter_le _ _
end


/-! ### a tracked dict, its keys ints and texts or tuples of these -/
theorem kV_is {P : Program} {w : World} {k : Key} {u : Value} (r : RelV (kV k) u) : (mixKind P w).is k u = true := by
  cases k with
  | inl i => obtain ⟨t, e⟩ := (show ∃ t, u = Value.int i t from r); subst e; exact mixKind_int P w i t
  | inr x => obtain ⟨t, e⟩ := (show ∃ t, u = Value.str x t from r); subst e; exact mixKind_str P w x t
theorem items_are {P : Program} {w : World} : ∀ {ks : List Key} {us : List Value}, Vals (ks.map kV) us → ItemsAre (mixKind P w) ks us
  | [], _, r => by rw [List.map_nil] at r; cases r; exact .nil
  | k :: ks, _, r => by
    rw [List.map_cons] at r
    cases r with
    | cons h t => exact .cons (kV_is h) (items_are t)

/-- raw entries of a dict with tuple keys -/
abbrev KT (H : Hp) : List (List Key × V) → List (List Key × Addr × Value) → Prop := Paired fun p q => p.1 = q.1 ∧ H q.2.1 = some (.tup (p.1.map kV)) ∧ RelV p.2 q.2.2
theorem KT.val {H : Hp} {kvs : List (List Key × V)} {xs : List (List Key × Addr × Value)} (r : KT H kvs xs) (k : List Key) : RelO (valV kvs k) ((atKey xs k).map (·.2)) := by
  induction r with
  | nil => exact True.intro
  | @cons p q ps qs h t ih =>
    obtain ⟨h1, _, h2⟩ := h
    by_cases e : p.1 = k
    · have e' : q.1 = k := h1.symm.trans e
      have b : atKey (q :: qs) k = some q.2 := by simp [atKey, List.find?_cons, e']
      rw [valV_pos e, b]; exact h2
    · have e' : ¬ q.1 = k := fun z => e (h1.trans z)
      have b : atKey (q :: qs) k = atKey qs k := by simp [atKey, List.find?_cons, e']
      rw [valV_neg e, b]; exact ih
theorem KT.repl {H : Hp} {kvs : List (List Key × V)} {xs : List (List Key × Addr × Value)} (r : KT H kvs xs) (k : List Key) {y : V} {u : Value} (ry : RelV y u) :
    KT H (kvs.map fun kv => if kv.1 = k then (kv.1, y) else kv) (xs.map (putAt k u)) := by
  induction r with
  | nil => exact .nil
  | @cons p q ps qs h t ih =>
    rw [List.map_cons, List.map_cons]
    refine .cons ?_ ih
    obtain ⟨h1, h2, h3⟩ := h
    unfold putAt
    by_cases e : p.1 = k
    · rw [if_pos e, if_pos (h1.symm.trans e)]; exact ⟨h1, h2, ry⟩
    · rw [if_neg e, if_neg (fun z => e (h1.trans z))]; exact ⟨h1, h2, h3⟩
theorem KT.put {H : Hp} {kvs : List (List Key × V)} {xs : List (List Key × Addr × Value)} (r : KT H kvs xs) (k : List Key) {b : Addr} {y : V} {u : Value} (hb : H b = some (.tup (k.map kV))) (ry : RelV y u) :
    KT H (putK kvs k y) (storedH xs k b u) := by
  have e : (kvs.any fun kv => decide (kv.1 = k)) = (atKey xs k).isSome := by
    rw [valV_any, (r.val k).isSome_eq, Option.isSome_map]
  unfold putK storedH
  rw [e]
  by_cases q : (atKey xs k).isSome = true
  · rw [if_pos q, if_pos q]; exact r.repl k ry
  · rw [if_neg q, if_neg q]; exact Paired.snoc r ⟨rfl, hb, ry⟩
theorem KT.keeps {H H' : Hp} {kvs : List (List Key × V)} {xs : List (List Key × Addr × Value)} (r : KT H kvs xs) (ht : ∀ b ys, H b = some (.tup ys) → H' b = some (.tup ys)) : KT H' kvs xs :=
  Paired.mapP r fun _ _ z => ⟨z.1, ht _ _ z.2.1, z.2.2⟩

section
variable {P : Program} {w : World} {H : Hp} {h : Heap} {a : Addr}
theorem rd_of {u : HO} (ok : HOk P w H h) (e : Rd H a u) : ObjOk P w H h a u := e.ok ok
theorem dk_rd {kvs : List (Key × V)} (ok : HOk P w H h) (e : Rd H a (.dK kvs)) : kvs.length ≤ sizeLine ∧ (a == sysModules) = false ∧ ∃ vs, KV kvs vs ∧ h.DictOf (mixKind P w) a vs :=
  show ObjOk P w H h a (.dK kvs) from rd_of ok e
theorem dk_of {kvs : List (Key × V)} (ok : HOk P w H h) (e : H a = some (.dK kvs)) : kvs.length ≤ sizeLine ∧ (a == sysModules) = false ∧ ∃ vs, KV kvs vs ∧ h.DictOf (mixKind P w) a vs := dk_rd ok (.inl e)
/-- a tracked tuple of ints and texts is a key -/
theorem key_of {ks : List Key} (ok : HOk P w H h) (e : H a = some (.tup (ks.map kV))) : (tupleKind (mixKind P w)).is h ks a := by
  obtain ⟨_, its, r, o, h1, h2, n, h3⟩ := (show ObjOk P w H h a (.tup (ks.map kV)) from ok a _ e)
  exact ⟨o, its.toArray, n, h1, h2, h3, by simpa using items_are r⟩
theorem dt_rd {kvs : List (List Key × V)} (ok : HOk P w H h) (e : Rd H a (.dT kvs)) : kvs.length ≤ sizeLine ∧ (a == sysModules) = false ∧
    ∃ xs, KT H kvs xs ∧ h.DictOfH (tupleKind (mixKind P w)) a xs := by
  obtain ⟨z, y, xs, r, o, es, ep, h1, h2, h3, h4, h5⟩ := (show ObjOk P w H h a (.dT kvs) from rd_of ok e)
  refine ⟨z, y, xs, r, o, es, ep, h1, h2, h3, h4, fun x hx => ?_, h5⟩
  have all : ∀ {l : List (List Key × V)} {m : List (List Key × Addr × Value)}, KT H l m → ∀ x ∈ m, (tupleKind (mixKind P w)).is h x.1 x.2.1 := by
    intro l m q
    induction q with
    | nil => intro x hx; exact nomatch hx
    | @cons p q ps qs hq t ih =>
      intro x hx
      rcases List.mem_cons.mp hx with e | hx
      · subst e
        exact key_of ok (by rw [← hq.1]; exact hq.2.1)
      · exact ih x hx
  exact all r x hx
theorem dt_of {kvs : List (List Key × V)} (ok : HOk P w H h) (e : H a = some (.dT kvs)) : kvs.length ≤ sizeLine ∧ (a == sysModules) = false ∧
    ∃ xs, KT H kvs xs ∧ h.DictOfH (tupleKind (mixKind P w)) a xs := dt_rd ok (.inl e)
end

/-- what the dict at a holds at the key y -/
def DGet (H : Hp) (a : Addr) (y : V) (r : Option V) : Prop :=
  (∃ kvs k, Rd H a (.dK kvs) ∧ y = kV k ∧ r = valV kvs k) ∨ ∃ kvs k b, Rd H a (.dT kvs) ∧ y = .ref b ∧ H b = some (.tup (k.map kV)) ∧ r = valV kvs k
/-- the heap behind a[y] = v -/
def DPut (H : Hp) (a : Addr) (y v : V) (H' : Hp) : Prop :=
  (∃ kvs k, H a = some (.dK kvs) ∧ y = kV k ∧ kvs.length < sizeLine ∧ H' = upd H a (.dK (putK kvs k v))) ∨
  ∃ kvs k b, H a = some (.dT kvs) ∧ y = .ref b ∧ H b = some (.tup (k.map kV)) ∧ kvs.length < sizeLine ∧ H' = upd H a (.dT (putK kvs k v))
theorem DGet.k {H : Hp} {a : Addr} {kvs : List (Key × V)} {k : Key} (e : H a = some (.dK kvs)) : DGet H a (kV k) (valV kvs k) := .inl ⟨kvs, k, .inl e, rfl, rfl⟩
theorem DPut.k {H : Hp} {a : Addr} {kvs : List (Key × V)} {k : Key} {v : V} (e : H a = some (.dK kvs)) (hl : kvs.length < sizeLine) : DPut H a (kV k) v (upd H a (.dK (putK kvs k v))) := .inl ⟨kvs, k, e, rfl, hl, rfl⟩
section
variable {X : Cx} {pins : List (Addr × Obj)} {σ : St} {H : Hp} {s : Shared} {a : Addr} {y v : V} {u r : Value} {o : Option V} {A : Around} {E : Value → Shared → Prop}

theorem Inv.big (I : Inv X pins σ H s) : sysModules < s.heap.objs.size := by
  have h : mainGlobals < s.heap.objs.size := (I.mod.glob.keeps I.bk).lt
  exact Nat.lt_trans (by decide) h

/-- d[y], there -/
theorem d_getItem {Q : Value → Shared → Prop} (hu : A.units + 1 < cLine) (I : Inv X pins σ H s) (g : DGet H a y (some v)) (ry : RelV y u) (h : ∀ w' s', Inv X pins σ H s' → RelV v w' → Q w' s') :
    wpAny (model X.prog X.w) A (getItem (.ref a) u) Q E s := by
  rcases g with ⟨kvs, k, e, ey, l⟩ | ⟨kvs, k, b, e, ey, eb, l⟩
  · subst ey
    obtain ⟨z, hd, vs, rel, dd⟩ := dk_rd I.hok e
    obtain ⟨w', hw, rw'⟩ := RelO.some_of (v := v) (o := valueAt vs k) (by rw [l]; exact rel.val k)
    exact wpAny_getItem_of (kV_is ry) dd.mapOf hw (h w' _ (I.tok _) rw')
  · subst ey
    cases (show u = Value.ref b from ry)
    obtain ⟨z, hd, xs, rel, dd⟩ := dt_rd I.hok e
    obtain ⟨w', hw, rw'⟩ := RelO.some_of (v := v) (o := (atKey xs k).map (·.2)) (by rw [l]; exact rel.val k)
    obtain ⟨p, hp, hp2⟩ := Option.map_eq_some_iff.mp hw
    refine wpAny_getItem_heap (tupleKind_room_in1 hu) (key_of I.hok eb) dd hp ?_
    rw [hp2]
    exact h w' _ (I.tok _) rw'
/-- y in d -/
theorem d_in {Q : Value → Shared → Prop} (hu : A.units + 1 < cLine) (I : Inv X pins σ H s) (g : DGet H a y o) (ry : RelV y u) (h : ∀ s', Inv X pins σ H s' → Q (.bool o.isSome) s') :
    wpAny (model X.prog X.w) A (compareOp .In u (.ref a)) Q E s := by
  rcases g with ⟨kvs, k, e, ey, l⟩ | ⟨kvs, k, b, e, ey, eb, l⟩
  · subst ey
    obtain ⟨z, hd, vs, rel, dd⟩ := dk_rd I.hok e
    refine wpAny_in_of (kV_is ry) hd dd.mapOf ?_
    rw [← (rel.val k).isSome_eq, ← l]
    exact h _ (I.tok _)
  · subst ey
    cases (show u = Value.ref b from ry)
    obtain ⟨z, hd, xs, rel, dd⟩ := dt_rd I.hok e
    refine wpAny_in_heap (tupleKind_room_in1 hu) (key_of I.hok eb) hd dd ?_
    have q := (rel.val k).isSome_eq
    rw [Option.isSome_map] at q
    rw [← q, ← l]
    exact h _ (I.tok _)
theorem d_notIn {Q : Value → Shared → Prop} (hu : A.units + 1 < cLine) (I : Inv X pins σ H s) (g : DGet H a y o) (ry : RelV y u) (h : ∀ s', Inv X pins σ H s' → Q (.bool (!o.isSome)) s') :
    wpAny (model X.prog X.w) A (compareOp .NotIn u (.ref a)) Q E s := by
  rcases g with ⟨kvs, k, e, ey, l⟩ | ⟨kvs, k, b, e, ey, eb, l⟩
  · subst ey
    obtain ⟨z, hd, vs, rel, dd⟩ := dk_rd I.hok e
    refine wpAny_notIn_of (kV_is ry) hd dd.mapOf ?_
    rw [← (rel.val k).isSome_eq, ← l]
    exact h _ (I.tok _)
  · subst ey
    cases (show u = Value.ref b from ry)
    obtain ⟨z, hd, xs, rel, dd⟩ := dt_rd I.hok e
    refine wpAny_notIn_heap (tupleKind_room_in1 hu) (key_of I.hok eb) hd dd ?_
    have q := (rel.val k).isSome_eq
    rw [Option.isSome_map] at q
    rw [← q, ← l]
    exact h _ (I.tok _)
/-- a dict's object is replaced -/
theorem d_write {h' : Heap} {t' : Nat} {ob : HO} (I : Inv X pins σ H s) (mu : Mut (H a)) (hs : Heap.SameBut a s.heap h') (he : ∃ q, h'.get? a = some q) (new : ObjOk X.prog X.w (upd H a ob) h' a ob) :
    Inv X pins σ (upd H a ob) { s with heap := h', toks := t' } :=
  I.write (x := a) (e := a) mu (.inl rfl) (fun b q hb z => (hs.2 b hb).trans z) he new
theorem dk_new {P : Program} {w : World} {H' : Hp} {h' : Heap} {kvs : List (Key × V)} {vs : List (Key × Value)} (z : kvs.length ≤ sizeLine) (hd : (a == sysModules) = false) (rel : KV kvs vs) (dd : h'.DictOf (mixKind P w) a vs) :
    ObjOk P w H' h' a (.dK kvs) := ⟨z, hd, vs, rel, dd⟩
/-- d[y] = v -/
theorem d_setItem {H' : Hp} {Q : Unit → Shared → Prop} (hu : A.units + 1 < cLine) (I : Inv X pins σ H s) (g : DPut H a y v H') (ry : RelV y u) (rv : RelV v r) (h : ∀ s', Inv X pins σ H' s' → Q () s') :
    wpAny (model X.prog X.w) A (setItem (.ref a) u r) Q E s := by
  rcases g with ⟨kvs, k, e, ey, l, eH⟩ | ⟨kvs, k, b, e, ey, eb, l, eH⟩
  · subst ey eH
    obtain ⟨z, hd, vs, rel, dd⟩ := dk_of I.hok e
    have hz : vs.length ≤ sizeLine := by rw [← rel.length]; exact z
    have hl : (putK kvs k v).length ≤ sizeLine := by have := length_putK kvs k v; omega
    refine wpAny_setItem_pairs (hsz := hz) (kV_is ry) dd fun h' dd' hs => h _ ?_
    have he : ∃ q, h'.get? a = some q := let ⟨q, _, _, hq, _⟩ := dd'; ⟨q, hq⟩
    exact d_write I (by rw [e]; exact True.intro) hs he (dk_new hl hd (rel.put k rv) dd')
  · subst ey eH
    cases (show u = Value.ref b from ry)
    obtain ⟨z, hd, xs, rel, dd⟩ := dt_of I.hok e
    have hz : xs.length ≤ sizeLine := by rw [← Paired.length rel]; exact z
    have hl : (putK kvs k v).length ≤ sizeLine := by have := length_putK kvs k v; omega
    refine wpAny_setItem_heap (hsz := hz) (tupleKind_room_in1 hu) (key_of I.hok eb) dd fun h' dd' hs => h _ ?_
    obtain ⟨q, es, ep, hq, h2, h3, h4, _, h5⟩ := dd'
    refine d_write I (by rw [e]; exact True.intro) hs ⟨q, hq⟩ ⟨hl, hd, _, (rel.put k eb rv).keeps fun c ys ec => ?_, q, es, ep, hq, h2, h3, h4, h5⟩
    rw [upd_ne (ne_of ec e (fun z => nomatch z))]
    exact ec
end

section
variable {X : Cx} {pins : List (Addr × Obj)} {σ : St} {H : Hp} {s : Shared} {a : Addr} {kvs : List (Key × V)} {k : Key} {u : Value} {A : Around} {E : Value → Shared → Prop}
/-- d.pop(k[, x]), there -/
theorem d_pop {v : V} {more : List Value} {Q : Value → Shared → Prop} (I : Inv X pins σ H s) (e : H a = some (.dK kvs)) (ry : RelV (kV k) u) (l : valV kvs k = some v) (hm : more = [] ∨ ∃ x, more = [x])
    (h : ∀ w' s', Inv X pins σ (upd H a (.dK (dropK kvs k))) s' → RelV v w' → Q w' s') : wpAny (model X.prog X.w) A (call (.builtin "dict.pop") (.ref a :: u :: more)) Q E s := by
  obtain ⟨z, hd, vs, rel, dd⟩ := dk_of I.hok e
  obtain ⟨w', hw, rw'⟩ := RelO.some_of (v := v) (o := valueAt vs k) (by rw [← l]; exact rel.val k)
  have hp : (keyPart u).isSome = true := by
    cases k with
    | inl i => obtain ⟨t, q⟩ := (show ∃ t, u = Value.int i t from ry); subst q; rfl
    | inr x => obtain ⟨t, q⟩ := (show ∃ t, u = Value.str x t from ry); subst q; rfl
  have ha : argsOk "dict.pop" ⟨.ref a :: u :: more, []⟩ := by
    rcases hm with q | ⟨x, q⟩
    · subst q; exact PySem.F.args_dict_pop_2 _ _
    · subst q; exact PySem.F.args_dict_pop_3 _ _ _
  refine call_meetsIn PySem.F.slot_dict_pop dd.typeIs PySem.F.entry_dict_pop ha (meets_dict_pop_there (mixKind X.prog X.w) a (kV_is ry) more hm hp)
    ⟨vs, w', dd, by rw [← rel.length]; exact z, hw, fun h' dd' hs => h w' _ ?_ rw'⟩
  have he : ∃ q, h'.get? a = some q := let ⟨q, _, _, hq, _⟩ := dd'; ⟨q, hq⟩
  exact d_write I (by rw [e]; exact True.intro) hs he (dk_new (Nat.le_trans (dropK_le kvs k) z) hd (rel.drop k) dd')
/-- len(d) -/
theorem d_len {Q : Value → Shared → Prop} (I : Inv X pins σ H s) (e : Rd H a (.dK kvs)) (h : ∀ t s', Inv X pins σ H s' → Q (.int kvs.length t) s') : wpAny (model X.prog X.w) A (call (.builtin "len") [.ref a]) Q E s := by
  obtain ⟨z, hd, vs, rel, dd⟩ := dk_rd I.hok e
  refine call_len_dict hd dd (by rw [← rel.length]; rw [sizeLine_eq] at z; omega) ?_
  rw [← rel.length]
  exact h _ _ (I.tok _)
end


/-! ### readings and rules -/
/-- the element of a subscription, not a slice -/
def NoSl (i : Expr) : Prop := ∀ ov iv, subscripted i false ov iv = operate [ov, iv] (getItem ov iv)
theorem subD_of {prog : Program} {w : World} {A : Around} {E : Value → Shared → Prop} {s : Shared} {env : Env} {value slice : Expr} {pos : Pos} {T id : String} {Q : Value → Shared → Prop}
    (hl : typeLookup (.type T) "__getitem__" = pure (some (.builtin id))) (hs : NoSl slice)
    (h : wpAny (model prog w) A (eval value env) (fun o s₁ => wpAny (model prog w) A (eval slice env) (fun i s₂ => s₂.TypeIs o T ∧ wpAny (model prog w) A (getItem o i) Q E s₂) E s₁) E s) :
    wpAny (model prog w) A (eval (.Subscript value slice pos) env) Q E s := by
  refine Subscript_ (wpAny_mono h (fun o s₁ h₁ => wpAny_mono h₁ (fun i s₂ h₂ => ?_) fun _ _ x => x) fun _ _ x => x)
  obtain ⟨hT, h₂⟩ := h₂
  unfold subscriptTail
  refine wpAny_bind ?_
  rw [getitemInPython_of_ne hT.not_modules]
  refine wpAny_bind (wpAny_specialOf hT hl ?_)
  have fin : wpAny (model prog w) A (subscripted slice false o i) (fun r s₃ => wpAny (model prog w) A (letTemporaryGo value o r >>= fun _ => pure r) Q E s₃) E s₂ := by
    rw [hs o i]
    exact wpAny_operating (wpAny_mono h₂ (fun r s₃ h₃ => wpAny_bind (wpAny_letTemporaryGo (wpAny_pure h₃))) fun _ _ x => x)
  first
    | exact wpAny_pure (wpAny_bind fin)
    | exact wpAny_bind (wpAny_pure (wpAny_bind fin))
    | exact wpAny_bind fin

theorem dict_typeIs {X : Cx} {pins : List (Addr × Obj)} {σ : St} {H : Hp} {s : Shared} {a : Addr} {y : V} {o : Option V} (I : Inv X pins σ H s) (g : DGet H a y o) : s.TypeIs (.ref a) "dict" := by
  rcases g with ⟨kvs, k, e, _, _⟩ | ⟨kvs, k, b, e, _, _, _⟩
  · obtain ⟨_, _, vs, _, dd⟩ := dk_rd I.hok e
    exact dd.typeIs
  · obtain ⟨_, _, xs, _, dd⟩ := dt_rd I.hok e
    exact dd.typeIs
/-- d[y] -/
inductive tDGetI (Q : VK) (x : V) (y : V) (H2 : Hp) : Prop | mk (a v) (h0 : x = .ref a) (h1 : DGet H2 a y (some v)) (h2 : Q v H2) : tDGetI Q x y H2
def tDGet (td ty : TE) : TE := fun σ H Q => td σ H fun x H1 => ty σ H1 fun y H2 => tDGetI Q x y H2
/-- y in d, y not in d -/
inductive tDInI (Q : VK) (y : V) (x : V) (H2 : Hp) : Prop | mk (a o) (h0 : x = .ref a) (h1 : DGet H2 a y o) (h2 : Q (.bl o.isSome) H2) : tDInI Q y x H2
def tDIn (ty td : TE) : TE := fun σ H Q => ty σ H fun y H1 => td σ H1 fun x H2 => tDInI Q y x H2
inductive tDNotInI (Q : VK) (y : V) (x : V) (H2 : Hp) : Prop | mk (a o) (h0 : x = .ref a) (h1 : DGet H2 a y o) (h2 : Q (.bl (!o.isSome)) H2) : tDNotInI Q y x H2
def tDNotIn (ty td : TE) : TE := fun σ H Q => ty σ H fun y H1 => td σ H1 fun x H2 => tDNotInI Q y x H2
/-- d[y] = v -/
def sDPut (td ty tv : TE) : TS := fun D σ H => tv σ H fun v H1 => td σ H1 fun x H2 => ty σ H2 fun y H3 => ∃ a H4, x = .ref a ∧ DPut H3 a y v H4 ∧ D.nx σ H4
section
variable {X : Cx} {o i e value : Expr} {pos pos' tpos : Pos} {td ty tv : TE}
theorem pe_dget (hu : X.A.units + 1 < cLine) (ho : PE X o td) (hi : PE X i ty) (hs : NoSl i) : PE X (.Subscript o i pos) (tDGet td ty) := by
  intro pins s σ H Q I h
  refine subD_of PySem.F.slot_dict_getitem.lookup hs (thn (ho pins s σ H _ I h) fun u s1 ⟨x, H1, I1, rx, q1⟩ => thn (hi pins s1 σ H1 _ I1 q1) fun iv s2 ⟨y, H2, I2, ry, a, v, ex, g, q2⟩ => ?_)
  subst ex
  obtain rfl : u = Value.ref a := rx
  exact ⟨dict_typeIs I2 g, d_getItem hu I2 g ry fun w' s3 I3 rw' => ⟨v, H2, I3, rw', q2⟩⟩
theorem pc_din (hu : X.A.units + 1 < cLine) (hi : PE X i ty) (ho : PE X o td) : PC X .In i o (tDIn ty td) := by
  intro pins s σ H Q I h
  refine thn (hi pins s σ H _ I h) fun iv s1 ⟨y, H1, I1, ry, q1⟩ => thn (ho pins s1 σ H1 _ I1 q1) fun u s2 ⟨x, H2, I2, rx, a, ov, ex, g, q2⟩ => ?_
  subst ex
  obtain rfl : u = Value.ref a := rx
  exact d_in hu I2 g ry fun s3 I3 => ⟨.bl ov.isSome, H2, I3, rfl, q2⟩
theorem pc_dnotin (hu : X.A.units + 1 < cLine) (hi : PE X i ty) (ho : PE X o td) : PC X .NotIn i o (tDNotIn ty td) := by
  intro pins s σ H Q I h
  refine thn (hi pins s σ H _ I h) fun iv s1 ⟨y, H1, I1, ry, q1⟩ => thn (ho pins s1 σ H1 _ I1 q1) fun u s2 ⟨x, H2, I2, rx, a, ov, ex, g, q2⟩ => ?_
  subst ex
  obtain rfl : u = Value.ref a := rx
  exact d_notIn hu I2 g ry fun s3 I3 => ⟨.bl (!ov.isSome), H2, I3, rfl, q2⟩
theorem ps_dput (hu : X.A.units + 1 < cLine) (ho : PE X o td) (hi : PE X i ty) (hv : PE X value tv) (hs : swapsWith value (some (.Subscript o i pos')) pos.line X.env = pure false) :
    PS X (.Assign [.Subscript o i pos'] value pos) (sDPut td ty tv) := by
  intro pins s σ H D I h
  refine wpAny_Assign_Subscript (thn (hv pins s σ H _ I h) fun r s1 ⟨v, H1, I1, rv, q1⟩ => thn (ho pins s1 σ H1 _ I1 q1) fun u s2 ⟨x, H2, I2, rx, q2⟩ => thn (hi pins s2 σ H2 _ I2 q2) fun iv s3 ⟨y, H3, I3, ry, a, H4, ex, g, q3⟩ => ?_) hs
  subst ex
  obtain rfl : u = Value.ref a := rx
  exact d_setItem hu I3 g ry rv fun s4 I4 => ⟨σ, H4, I4, q3⟩
end


/-! ### displays -/
theorem dk_empty {P : Program} {w : World} {H : Hp} (h : Heap) (hb : sysModules < h.objs.size) : ObjOk P w H (h.push { cls := .type "dict", data := .dict #[] }) h.objs.size (.dK []) :=
  ⟨Nat.zero_le _, beq_eq_false_iff_ne.mpr (Ne.symm (Nat.ne_of_lt hb)), [], .nil, Heap.DictOf.new h⟩
/-- {}, to be a dict of the kind that is wanted -/
def tDNewK : TE := fun _ H Q => ∀ p, H p = none → Q (.ref p) (upd H p (.dK []))
section
variable {X : Cx} {pos : Pos}
theorem pe_dnewK : PE X (.Dict [] [] pos) tDNewK := fun pins s σ H Q I h =>
  wpAny_Dict_empty ⟨.ref s.heap.objs.size, _, I.laid (a := s.heap.objs.size) (o := .dK []) (t' := s.toks) (fun _ _ q => Heap.get?_push_of_some _ q) (Nat.le_refl _) (dk_empty s.heap I.big), rfl, h _ (I.hok.fresh (Nat.le_refl _))⟩
end

/-! ### methods -/
/-- a method call o.m(e) of a built-in, with one argument: what must be seen of the text -/
structure M1 (X : Cx) (o : Expr) (m : Str) (apos : Pos) (e : Expr) (cpos : Pos) : Prop where
  base : attributeBase o m X.env (eval o X.env) = eval o X.env
  few : ((backTo cpos (starEach [e] X.env)).all (fun x => !x.1) && (backToKw cpos (keywordEach [] X.env)).all (fun x => x.1.isSome)
    && decide (([e] : List Expr).length + ([] : List Keyword).length + (if ([] : List Keyword).isEmpty then 0 else 1) < 30)) = true
  line : (apos.endLine == cpos.line) = true
  trees : backTo cpos (starEach [e] X.env) = [(false, eval e X.env)]
structure M2 (X : Cx) (o : Expr) (m : Str) (apos : Pos) (e f : Expr) (cpos : Pos) : Prop where
  base : attributeBase o m X.env (eval o X.env) = eval o X.env
  few : ((backTo cpos (starEach [e, f] X.env)).all (fun x => !x.1) && (backToKw cpos (keywordEach [] X.env)).all (fun x => x.1.isSome)
    && decide (([e, f] : List Expr).length + ([] : List Keyword).length + (if ([] : List Keyword).isEmpty then 0 else 1) < 30)) = true
  line : (apos.endLine == cpos.line) = true
  trees : backTo cpos (starEach [e, f] X.env) = [(false, eval e X.env), (false, eval f X.env)]

/-- a is a dict, whatever its keys -/
def IsD (H : Hp) (a : Addr) : Prop := (∃ kvs, Rd H a (.dK kvs)) ∨ ∃ kvs, Rd H a (.dT kvs)
theorem isD_at {X : Cx} {pins : List (Addr × Obj)} {σ : St} {H : Hp} {s : Shared} {a : Addr} (I : Inv X pins σ H s) (d : IsD H a) :
    s.TypeIs (.ref a) "dict" ∧ (∀ b, Value.ref a = .ref b → ∃ ob, s.heap.get? b = some ob ∧ ob.dict = none) ∧ (a == sysModules) = false := by
  rcases d with ⟨kvs, e⟩ | ⟨kvs, e⟩
  · obtain ⟨_, hd, vs, _, dd⟩ := dk_rd I.hok e
    refine ⟨dd.typeIs, fun b q => ?_, hd⟩
    cases q
    obtain ⟨ob, _, _, h1, h2, _⟩ := dd
    exact ⟨ob, h1, h2.2.1⟩
  · obtain ⟨_, hd, xs, _, dd⟩ := dt_rd I.hok e
    refine ⟨dd.typeIs, fun b q => ?_, hd⟩
    cases q
    obtain ⟨ob, _, _, h1, h2, _⟩ := dd
    exact ⟨ob, h1, h2.2.1⟩

section
variable {X : Cx} {pins : List (Addr × Obj)} {σ : St} {H : Hp} {s : Shared} {a : Addr} {y d : V} {u r : Value} {o : Option V} {A : Around} {E : Value → Shared → Prop}
/-- d.get(y, x) -/
theorem d_get2 {Q : Value → Shared → Prop} (hu : A.units + 1 < cLine) (I : Inv X pins σ H s) (g : DGet H a y o) (ry : RelV y u) (rd : RelV d r) (h : ∀ w' s', Inv X pins σ H s' → RelV (o.getD d) w' → Q w' s') :
    wpAny (model X.prog X.w) A (call (.builtin "dict.get") [.ref a, u, r]) Q E s := by
  rcases g with ⟨kvs, k, e, ey, l⟩ | ⟨kvs, k, b, e, ey, eb, l⟩
  · subst ey
    obtain ⟨z, hd, vs, rel, dd⟩ := dk_rd I.hok e
    refine call_meetsIn PySem.F.slot_dict_get dd.typeIs PySem.F.entry_dict_get (PySem.F.args_dict_get_3 _ _ _) (meets_dict_get_default (mixKind X.prog X.w) a (kV_is ry) hd r) ⟨_, dd.mapOf, h _ _ (I.tok _) ?_⟩
    rw [l]
    exact (rel.val k).getD rd
  · subst ey
    cases (show u = Value.ref b from ry)
    obtain ⟨z, hd, xs, rel, dd⟩ := dt_rd I.hok e
    refine call_meetsIn PySem.F.slot_dict_get dd.typeIs PySem.F.entry_dict_get (PySem.F.args_dict_get_3 _ _ _) (meetsH_dict_get_default (tupleKind (mixKind X.prog X.w)) a b hd r) ⟨tupleKind_room_in1 hu, k, xs, key_of I.hok eb, dd, h _ _ (I.tok _) ?_⟩
    rw [l]
    exact (rel.val k).getD rd
end

def tDGet2 (td ty tx : TE) : TE := fun σ H Q => td σ H fun x H1 => ∃ a, x = .ref a ∧ IsD H1 a ∧ ty σ H1 fun y H2 => tx σ H2 fun z H3 => ∃ o, DGet H3 a y o ∧ Q (o.getD z) H3
/-- d.pop(k): there; d.pop(k, x): there or not -/
def tDPop1 (td ty : TE) : TE := fun σ H Q => td σ H fun x H1 => ∃ a, x = .ref a ∧ IsD H1 a ∧ ty σ H1 fun y H2 => ∃ kvs k v, H2 a = some (.dK kvs) ∧ y = kV k ∧ valV kvs k = some v ∧ Q v (upd H2 a (.dK (dropK kvs k)))
section
variable {X : Cx} {o e f : Expr} {apos cpos : Pos} {td ty tx : TE}
theorem pe_dget2 (hu : X.A.units + 1 < cLine) (ho : PE X o td) (he : PE X e ty) (hf : PE X f tx) (m : M2 X o "get" apos e f cpos) : PE X (.Call (.Attribute o "get" apos) [e, f] [] cpos) (tDGet2 td ty tx) := by
  intro pins s σ H Q I h
  refine wpAny_Call_method m.base m.few m.line PySem.F.plainAttrs_dict PySem.F.slot_dict_get PySem.F.type_dict_get (thn (ho pins s σ H _ I h) fun u s1 ⟨x, H1, I1, rx, a, ex, d, q1⟩ => ?_)
  subst ex
  obtain rfl : u = Value.ref a := rx
  obtain ⟨t1, t2, _⟩ := isD_at I1 d
  refine ⟨t1, t2, ?_⟩
  rw [m.trees]
  refine Calls.callWith_builtin rfl (Calls.evalArgs_plain (Calls.spliced_cons (thn (he pins s1 σ H1 _ I1 q1) fun iv s2 ⟨y, H2, I2, ry, q2⟩ =>
    Calls.spliced_cons (thn (hf pins s2 σ H2 _ I2 q2) fun fv s3 ⟨z, H3, I3, rz, ov, g, q3⟩ => Calls.spliced_nil ?_))))
  exact d_get2 hu I3 g ry rz fun w' s4 I4 rw' => ⟨_, H3, I4, rw', q3⟩
theorem pe_dpop1 (ho : PE X o td) (he : PE X e ty) (m : M1 X o "pop" apos e cpos) : PE X (.Call (.Attribute o "pop" apos) [e] [] cpos) (tDPop1 td ty) := by
  intro pins s σ H Q I h
  refine wpAny_Call_method m.base m.few m.line PySem.F.plainAttrs_dict PySem.F.slot_dict_pop PySem.F.type_dict_pop (thn (ho pins s σ H _ I h) fun u s1 ⟨x, H1, I1, rx, a, ex, d, q1⟩ => ?_)
  subst ex
  obtain rfl : u = Value.ref a := rx
  obtain ⟨t1, t2, _⟩ := isD_at I1 d
  refine ⟨t1, t2, ?_⟩
  rw [m.trees]
  refine Calls.callWith_builtin rfl (Calls.evalArgs_plain (Calls.spliced_cons (thn (he pins s1 σ H1 _ I1 q1) fun iv s2 ⟨y, H2, I2, ry, kvs, k, v, ea, ey, l, q2⟩ => Calls.spliced_nil ?_)))
  subst ey
  exact d_pop I2 ea ry l (.inl rfl) fun w' s3 I3 rw' => ⟨v, _, I3, rw', q2⟩
end

/-! ### dict(d): a copy -/
section
variable {X : Cx} {pins : List (Addr × Obj)} {σ : St} {H : Hp} {s : Shared} {a : Addr} {kvs : List (Key × V)} {A : Around} {E : Value → Shared → Prop}
end


section
variable {X : Cx} {pins : List (Addr × Obj)} {σ : St} {H : Hp} {s : Shared} {a : Addr} {y : V} {u : Value} {A : Around} {E : Value → Shared → Prop}
end
end L2

namespace HT
open PySem PyProof.Rows

section
open PySem.SeqAt
open PySem.AutoSeq1 (wpAny_loadPart')
open PySem.MeetsSeq PySem.MeetsSeq2 PySem.MeetsSeq3

end

section
variable {prog : Program} {w : World} {A : Around} {E : Value → Shared → Prop} {s : Shared}

/-! ### t[a:b], not the whole -/
/-- a slice's bound as a place among n (d where it is left out) -/
def sIx (n d : Nat) : Option Int → Nat
  | none => d
  | some v => if v < 0 then (v + (n : Int)).toNat else min v.toNat n
theorem sIx_nat (n d k : Nat) : sIx n d (some (k : Int)) = min k n := by
  show (if (k : Int) < 0 then ((k : Int) + (n : Int)).toNat else min (k : Int).toNat n) = min k n
  rw [if_neg (by omega), Int.toNat_natCast]
end
end HT

namespace L2
open PySem PySem.Spec PyProof.Rows

/-! ### the parts of a slice -/
abbrev TO := St → Hp → (Option Int → Hp → Prop) → Prop
/-- a slice's part (left out, or an int) -/
def PO (X : Cx) (e : Option Expr) (t : TO) : Prop :=
  ∀ (pins : List (Addr × Obj)) (s : Shared) (σ : St) (H : Hp) (Q : Option Int → Hp → Prop), Inv X pins σ H s → t σ H Q →
    wpAny (model X.prog X.w) X.A (evalPart e X.env) (fun u s' => ∃ o H', Inv X pins σ H' s' ∧ IsPart u o ∧ Q o H') X.xe s
def tNoPart : TO := fun _ H Q => Q none H
inductive tPartI (Q : Option Int → Hp → Prop) (x : V) (H1 : Hp) : Prop | mk (i) (h0 : x = .int i) (h1 : Q (some i) H1) : tPartI Q x H1
def tPart (t : TE) : TO := fun σ H Q => t σ H fun x H1 => tPartI Q x H1

theorem intsAre_of {ns : List Int} : ∀ {us : List Value}, Vals (ns.map V.int) us → IntsAre us ns := by
  induction ns with
  | nil => intro us r; rw [List.map_nil] at r; cases r; exact .nil
  | cons n ns ih =>
    intro us r
    rw [List.map_cons] at r
    cases r with
    | cons r1 r2 =>
      obtain ⟨t, e⟩ := r1
      subst e
      exact .cons n t (ih r2)

section
variable {X : Cx} {e : Expr} {te : TE} {lo hi : Option Expr} {tl th : TO} {pos p2 : Pos}

theorem po_none : PO X none tNoPart := by
  intro pins s σ H Q I h
  rw [evalPart_none]
  exact wpAny_pure ⟨none, H, I, .none, h⟩
theorem po_some (h : PE X e te) : PO X (some e) (tPart te) := by
  intro pins s σ H Q I hw
  rw [evalPart_some]
  refine thn (h pins s σ H _ I hw) fun u s1 ⟨x, H1, I1, r1, q1⟩ => ?_
  obtain ⟨i, rfl, q⟩ := q1
  obtain ⟨t, rfl⟩ := r1
  exact ⟨some i, H1, I1, .int i t, q⟩

/-- what a slice of a value is, by values: the slice object stands at sl -/
def SlR (X : Cx) (r : V → Option Int → Option Int → Hp → VK → Prop) : Prop :=
  ∀ (pins : List (Addr × Obj)) (s : Shared) (σ : St) (H : Hp) (x : V) (v vl vu : Value) (lo hi : Option Int) (sl : Addr) (Q : VK), Inv X pins σ H s → RelV x v → s.heap.IsSliceOf sl vl vu .none → IsPart vl lo → IsPart vu hi → r x lo hi H Q →
    ∃ T id, typeLookup (.type T) "__getitem__" = pure (some (.builtin id)) ∧ s.TypeIs v T ∧ wpAny (model X.prog X.w) X.A (getItem v (.ref sl)) (EP X pins σ Q) X.xe s
def tSl (r : V → Option Int → Option Int → Hp → VK → Prop) (te : TE) (tl th : TO) : TE := fun σ H Q => te σ H fun x H1 => tl σ H1 fun l H2 => th σ H2 fun u H3 => r x l u H3 Q
/-- a[lo:hi], any a -/
theorem pe_slice {r : V → Option Int → Option Int → Hp → VK → Prop} (hr : SlR X r) (he : PE X e te) (hl : PO X lo tl) (hu : PO X hi th) : PE X (.Subscript e (.Slice lo hi none p2) pos) (tSl r te tl th) := by
  intro pins s σ H Q I h
  refine Subscript_ (thn (he pins s σ H _ I h) fun v s1 ⟨x, H1, I1, r1, q1⟩ => ?_)
  refine wpAny_Slice (thn (hl pins s1 σ H1 _ I1 q1) fun vl s2 ⟨l, H2, I2, pl, q2⟩ => thn (hu pins s2 σ H2 _ I2 q2) fun vu s3 ⟨u, H3, I3, pu, q3⟩ => ?_)
  rw [evalPart_none]
  refine wpAny_pure ?_
  have I4 : Inv X pins σ H3 { s3 with heap := s3.heap.push { cls := .type "slice", data := .fields #[vl, vu, .none] } } := I3.kept (t' := s3.toks) fun b ob q => Heap.get?_push_of_some _ q
  obtain ⟨T, id, hT, ht, hg⟩ := hr pins { s3 with heap := s3.heap.push { cls := .type "slice", data := .fields #[vl, vu, .none] } } σ H3 x v vl vu l u s3.heap.objs.size Q I4 r1 (Heap.IsSliceOf.new ..) pl pu q3
  show wpAny (model X.prog X.w) X.A (subscriptTail e (.Slice lo hi none p2) v (.ref s3.heap.objs.size)) (EP X pins σ Q) X.xe { s3 with heap := s3.heap.push { cls := .type "slice", data := .fields #[vl, vu, .none] } }
  exact tail_any (ops := [.ref s3.heap.objs.size, v]) ht hT hg (by with_unfolding_all rfl)

/-- the items of xs[lo:hi] -/
def cutV (xs : List V) (lo hi : Option Int) : List V := (xs.drop (HT.sIx xs.length 0 lo)).take (HT.sIx xs.length xs.length hi - HT.sIx xs.length 0 lo)
theorem cutV_length (xs : List V) (lo hi : Option Int) : (cutV xs lo hi).length ≤ xs.length := by
  unfold cutV
  rw [List.length_take, List.length_drop]
  omega
/-! ### t < u, t + u -/
end
end L2

namespace L2
open PySem PySem.Spec PyProof.Rows

/-! ### places -/
/-- the place that an index of any sign means -/
def ixN (n : Nat) (i : Int) : Option Nat := if 0 ≤ i then (if i < n then some i.toNat else none) else if -(n : Int) ≤ i then some (i + n).toNat else none
def atI {α : Type} (xs : List α) (i : Int) : Option α := (ixN xs.length i).bind fun j => xs[j]?
theorem ixN_seq {n : Nat} {i : Int} {j : Nat} (h : ixN n i = some j) : seqIndex? i n = some j ∧ j < n ∧ -(n : Int) ≤ i ∧ i < n := by
  unfold ixN at h
  by_cases h0 : 0 ≤ i
  · rw [if_pos h0] at h
    by_cases h1 : i < n
    · rw [if_pos h1] at h
      have e : i.toNat = j := Option.some.inj h
      exact ⟨by rw [seqIndex_of h0 h1, e], by omega, by omega, h1⟩
    · rw [if_neg h1] at h; cases h
  · rw [if_neg h0] at h
    by_cases h1 : -(n : Int) ≤ i
    · rw [if_pos h1] at h
      have e : (i + n).toNat = j := Option.some.inj h
      exact ⟨by rw [seqIndex_neg (by omega) h1, e], by omega, h1, by omega⟩
    · rw [if_neg h1] at h; cases h
theorem atI_get {α : Type} {xs : List α} {i : Int} {v : α} (h : atI xs i = some v) : ∃ j, seqIndex? i xs.length = some j ∧ xs[j]? = some v ∧ j < xs.length ∧ -(xs.length : Int) ≤ i ∧ i < xs.length := by
  unfold atI at h
  cases e : ixN xs.length i with
  | none => rw [e] at h; cases h
  | some j =>
    rw [e] at h
    obtain ⟨h1, h2, h3, h4⟩ := ixN_seq e
    exact ⟨j, h1, h, h2, h3, h4⟩
theorem atI_nat {α : Type} {xs : List α} {j : Nat} {v : α} (h : xs[j]? = some v) : atI xs (j : Int) = some v := by
  have hj : j < xs.length := (List.getElem?_eq_some_iff.mp h).1
  have e : ixN xs.length (j : Int) = some j := by
    unfold ixN
    rw [if_pos (by omega), if_pos (by omega)]; simp
  unfold atI; rw [e]; exact h
theorem atI_last {α : Type} (xs : List α) (v : α) : atI (xs ++ [v]) (-1) = some v := by
  have hl : (xs ++ [v]).length = xs.length + 1 := by simp
  have e : ixN (xs ++ [v]).length (-1) = some xs.length := by
    unfold ixN
    rw [hl, if_neg (by decide), if_pos (by omega)]
    congr 1
    omega
  unfold atI
  rw [e]
  show (xs ++ [v])[xs.length]? = some v
  simp

/-! ### what may be subscripted -/
/-- what stands as an index of a plain subscript -/
def PlainIx (b : Expr) : Prop := ∀ o i, subscripted b false o i = operate [o, i] (getItem o i)
/-- a subscript by values -/
def IxR (X : Cx) (r : R2) : Prop :=
  ∀ (value slice : Expr) (pins : List (Addr × Obj)) (s : Shared) (σ : St) (H : Hp) (x y : V) (v u : Value) (Q : VK), Inv X pins σ H s → RelV x v → RelV y u → r x y H Q →
    subscripted slice false v u = operate [v, u] (getItem v u) → wpAny (model X.prog X.w) X.A (subscriptTail value slice v u) (EP X pins σ Q) X.xe s
/-- a call of a builtin's method by values: the receiver, the arguments -/
def MtR (X : Cx) (id : String) (r : V → List V → Hp → VK → Prop) : Prop :=
  ∀ (pins : List (Addr × Obj)) (s : Shared) (σ : St) (H : Hp) (x : V) (xs : List V) (v : Value) (us : List Value) (Q : VK), Inv X pins σ H s → RelV x v → Vals xs us → r x xs H Q →
    wpAny (model X.prog X.w) X.A (call (.builtin id) (v :: us)) (EP X pins σ Q) X.xe s
section
variable {X : Cx} {a b : Expr} {ta tb : TE} {pos : Pos}
/-- a[b] -/
theorem pe_ix {r : R2} (hr : IxR X r) (ha : PE X a ta) (hb : PE X b tb) (hs : PlainIx b) : PE X (.Subscript a b pos) (tOp r ta tb) := by
  intro pins s σ H Q I h
  exact Subscript_ (binT ha hb I h fun v u s2 x y H2 I2 rx ry q => hr a b pins s2 σ H2 x y v u Q I2 rx ry q (hs _ _))

inductive rIxLI (K : PySem.W.Frag) (x : V) (y : V) (H : Hp) (Q : VK) : Prop | mk (p xs i v) (h0 : x = .ref p) (h1 : y = .int i) (h2 : SqL K H p xs) (h3 : atI xs i = some v) (h4 : Q v H) : rIxLI K x y H Q
def rIxL (K : PySem.W.Frag) : R2 := fun x y H Q => rIxLI K x y H Q
inductive rIxTI (K : PySem.W.Frag) (x : V) (y : V) (H : Hp) (Q : VK) : Prop | mk (p xs i v) (h0 : x = .ref p) (h1 : y = .int i) (h2 : SqT K H p xs) (h3 : atI xs i = some v) (h4 : Q v H) : rIxTI K x y H Q
def rIxT (K : PySem.W.Frag) : R2 := fun x y H Q => rIxTI K x y H Q
inductive rIxSI (x : V) (y : V) (H : Hp) (Q : VK) : Prop | mk (z i c) (h0 : x = .str z) (h1 : y = .int i) (h2 : z.length ≤ sizeLine) (h3 : atI z.cps.toList i = some c) (h4 : Q (.str ⟨#[c]⟩) H) : rIxSI x y H Q
def rIxS : R2 := fun x y H Q => rIxSI x y H Q
theorem ix_list : IxR X (rIxL X.K) := by
  intro value slice pins s σ H x y v u Q I rx ry h hs
  obtain ⟨p, xs, i, z, rfl, rfl, hq, he, q⟩ := h
  cases rx
  obtain ⟨t, rfl⟩ := ry
  obtain ⟨its, r, pl, hz⟩ := I.list hq
  obtain ⟨j, h1, h2, h3, h4, h5⟩ := atI_get he
  obtain ⟨w, ew, rw'⟩ := r.get h2
  have hl := r.length
  have hn := line63
  have fin : EP X pins σ Q w s := ⟨z, H, I, rw', q⟩
  by_cases h0 : 0 ≤ i
  · have hj : i.toNat = j := by
      rw [seqIndex_of h0 h5] at h1
      exact Option.some.inj h1
    exact item_listR pl.isList h0 (by omega) (by rw [hj]; simpa using ew) fin hs
  · have hj : (i + (its.toArray.size : Int)).toNat = j := by
      rw [seqIndex_neg (by omega) h4] at h1
      rw [List.size_toArray, ← hl]
      exact Option.some.inj h1
    exact subscriptTail_builtinR (x := w) pl.isList.typeIs slot_list_getitem.lookup
      (wpAny_getItem_list_neg (Q := fun r s' => r = w ∧ EP X pins σ Q r s') pl.isList (by omega) (by rw [List.size_toArray] <;> omega) (by omega) (by rw [hj]; simpa using ew) ⟨rfl, fin⟩) hs
theorem ix_tup : IxR X (rIxT X.K) := by
  intro value slice pins s σ H x y v u Q I rx ry h hs
  obtain ⟨p, xs, i, z, rfl, rfl, hq, he, q⟩ := h
  cases rx
  obtain ⟨t, rfl⟩ := ry
  obtain ⟨its, r, pl, hz⟩ := I.tuple hq
  obtain ⟨j, h1, h2, h3, h4, h5⟩ := atI_get he
  obtain ⟨w, ew, rw'⟩ := r.get h2
  have hl := r.length
  have hn := line63
  have fin : EP X pins σ Q w s := ⟨z, H, I, rw', q⟩
  exact subscriptTail_builtinR (x := w) pl.typeIs slot_tuple_getitem.lookup
    (getItem_tuple (j := j) (Q := fun r s' => r = w ∧ EP X pins σ Q r s') pl (by omega) (by omega) (by rw [List.size_toArray, ← hl]; exact h1) (by simpa using ew) ⟨rfl, fin⟩) hs
theorem ix_str : IxR X rIxS := by
  intro value slice pins s σ H x y v u Q I rx ry h hs
  obtain ⟨z, i, c, rfl, rfl, hz, he, q⟩ := h
  obtain ⟨t, rfl⟩ := rx
  obtain ⟨t', rfl⟩ := ry
  obtain ⟨j, h1, h2, h3, h4, h5⟩ := atI_get he
  have hl : z.cps.toList.length = z.length := by simp [Str.length]
  rw [hl] at h1 h4 h5
  have hn := line63
  exact tail_any (typeIs_str s z t) slot_str_getitem.lookup (getItem_str (c := c) (by
    have e1 : decide (i < -(2 ^ 63 : Int)) = false := decide_eq_false (by omega)
    have e2 : decide (i ≥ 2 ^ 63) = false := decide_eq_false (by omega)
    rw [e1, e2, Bool.or_false]) (by rw [h1]; simpa using h2) ⟨.str ⟨#[c]⟩, H, I.tok _, ⟨_, rfl⟩, q⟩) hs
/-! ### xs[i] = v, any sign -/
/-! ### slices -/
theorem slice_bounds (lo hi : Option Int) (n : Nat) : (sliceBounds lo hi none n).1 = ((HT.sIx n 0 lo : Nat) : Int) ∧ (sliceBounds lo hi none n).2.1 = ((HT.sIx n n hi : Nat) : Int) ∧ (sliceBounds lo hi none n).2.2 = 1 := by
  refine ⟨?_, ?_, rfl⟩
  · cases lo with
    | none => simp [sliceBounds, HT.sIx]
    | some i =>
      simp only [sliceBounds, HT.sIx, Option.getD_none, show (1 : Int) > 0 by decide, if_true]
      by_cases h : i < 0
      · simp only [h, if_true] <;> omega
      · simp only [h, if_false] <;> omega
  · cases hi with
    | none => simp [sliceBounds, HT.sIx]
    | some i =>
      simp only [sliceBounds, HT.sIx, Option.getD_none, show (1 : Int) > 0 by decide, if_true]
      by_cases h : i < 0
      · simp only [h, if_true] <;> omega
      · simp only [h, if_false] <;> omega
theorem slicePick_cut (its : List Value) (lo hi : Option Int) : slicePick its.toArray lo hi none = ((its.drop (HT.sIx its.length 0 lo)).take (HT.sIx its.length its.length hi - HT.sIx its.length 0 lo)).toArray := by
  obtain ⟨h1, h2, h3⟩ := slice_bounds lo hi its.toArray.size
  unfold slicePick
  rw [h1, h2, h3]
  simp only [sliceRange_one, pick_run, List.size_toArray] <;> rfl
/-- xs[lo:hi] of a list: a new list -/
inductive rSlLI (K : PySem.W.Frag) (x : V) (lo : Option Int) (hi : Option Int) (H : Hp) (Q : VK) : Prop | mk (a xs) (h0 : x = .ref a) (h1 : SqL K H a xs) (h2 : ∀ p, H p = none → Q (.ref p) (upd H p (.lst (cutV xs lo hi)))) : rSlLI K x lo hi H Q
def rSlL (K : PySem.W.Frag) : V → Option Int → Option Int → Hp → VK → Prop := fun x lo hi H Q => rSlLI K x lo hi H Q
theorem sl_list : SlR X (rSlL X.K) := by
  intro pins s σ H x v vl vu lo hi sl Q I rx hs pl pu h
  obtain ⟨a, xs, rfl, hx, q⟩ := h
  cases rx
  obtain ⟨its, r, ht, hz⟩ := I.list hx
  have hlen := r.length
  refine ⟨"list", _, slot_list_getitem.lookup, ht.isList.typeIs, ?_⟩
  refine wpAny_getItem_list_slice ht.isList hs pl pu .none (by simp) ?_ (by rw [List.size_toArray] <;> omega)
  rw [slicePick_cut, ← hlen]
  refine ⟨.ref s.heap.objs.size, _, I.laid (t' := s.toks) (o := .lst (cutV xs lo hi)) (fun b ob q => Heap.get?_push_of_some _ q) (Nat.le_refl _) ?_, rfl, q _ (I.hok.fresh (Nat.le_refl _))⟩
  exact ⟨Nat.le_trans (cutV_length xs lo hi) hz, _, 0, (r.drop (HT.sIx xs.length 0 lo)).take (HT.sIx xs.length xs.length hi - HT.sIx xs.length 0 lo), Heap.get?_push_size _ rfl⟩

/-! ### in, not in: flat items -/
def flatV : V → Bool
  | .non => true
  | .bl _ => true
  | .int _ => true
  | .str _ => true
  | _ => false
/-- == of flat values -/
def eqV : V → V → Bool
  | .non, .non => true
  | .bl a, .bl b => a == b
  | .bl a, .int b => (if a then 1 else 0) == b
  | .int a, .bl b => a == (if b then 1 else 0)
  | .int a, .int b => a == b
  | .str a, .str b => a == b
  | _, _ => false
theorem eqAt_V {A : Around} {s : Shared} {y x : V} {u v : Value} (ry : RelV y u) (rx : RelV x v) (fy : flatV y = true) (fx : flatV x = true) : SeqAt.EqAt A s u v (eqV y x) := by
  cases y with
  | non =>
    cases ry
    cases x with
    | non => cases rx; exact SeqAt.EqAt.same _
    | bl b => cases rx; exact SeqAt.EqAt.none_bool b
    | int b => obtain ⟨t, rfl⟩ := rx; exact SeqAt.EqAt.none_int b t
    | str b => obtain ⟨t, rfl⟩ := rx; exact SeqAt.EqAt.none_str b t
    | _ => exact absurd (show false = true from fx) Bool.false_ne_true
  | bl a =>
    cases ry
    cases x with
    | non => cases rx; exact SeqAt.EqAt.bool_none a
    | bl b => cases rx; exact SeqAt.EqAt.bool_bool a b
    | int b => obtain ⟨t, rfl⟩ := rx; exact SeqAt.EqAt.bool_int a b t
    | str b => obtain ⟨t, rfl⟩ := rx; exact SeqAt.EqAt.bool_str a b t
    | _ => exact absurd (show false = true from fx) Bool.false_ne_true
  | int a =>
    obtain ⟨t', rfl⟩ := ry
    cases x with
    | non => cases rx; exact SeqAt.EqAt.int_none a t'
    | bl b => cases rx; exact SeqAt.EqAt.int_bool a t' b
    | int b => obtain ⟨t, rfl⟩ := rx; exact SeqAt.EqAt.int_int a t' b t
    | str b => obtain ⟨t, rfl⟩ := rx; exact SeqAt.EqAt.int_str a t' b t
    | _ => exact absurd (show false = true from fx) Bool.false_ne_true
  | str a =>
    obtain ⟨t', rfl⟩ := ry
    cases x with
    | non => cases rx; exact SeqAt.EqAt.str_none a t'
    | bl b => cases rx; exact SeqAt.EqAt.str_bool a t' b
    | int b => obtain ⟨t, rfl⟩ := rx; exact SeqAt.EqAt.str_int a t' b t
    | str b => obtain ⟨t, rfl⟩ := rx; exact SeqAt.EqAt.str_str a t' b t
    | _ => exact absurd (show false = true from fx) Bool.false_ne_true
  | _ => exact absurd (show false = true from fy) Bool.false_ne_true
/-! ### len, list(x), tuple(x) of any list or tuple that is read -/
theorem call_len_seq : CallR X (.builtin "len") (fun xs H Q => ∃ p ys, xs = [.ref p] ∧ (SqL X.K H p ys ∨ SqT X.K H p ys) ∧ Q (.int ys.length) H) := by
  intro pins s σ H xs us Q I r h
  obtain ⟨p, ys, rfl, hq, q⟩ := h
  obtain ⟨u, rfl, rx⟩ := vals1 r
  cases rx
  have hn := line63
  rcases hq with hq | hq
  · obtain ⟨its, r', pl, hz⟩ := I.list hq
    have hlen := r'.length
    exact Calls.call_len_list pl.isList (by simp only [List.size_toArray] <;> omega) ⟨.int ys.length, H, I.tok _, ⟨s.toks + 1, by rw [List.size_toArray, hlen]⟩, q⟩
  · obtain ⟨its, r', pl, hz⟩ := I.tuple hq
    have hlen := r'.length
    exact len_tuple pl (by simp only [List.size_toArray] <;> omega) ⟨.int ys.length, H, I.tok _, ⟨s.toks + 1, by rw [List.size_toArray, hlen]⟩, q⟩
theorem call_list_of : CallR X (.type "list") (fun xs H Q => ∃ p ys, xs = [.ref p] ∧ (SqL X.K H p ys ∨ SqT X.K H p ys) ∧ ∀ l, H l = none → Q (.ref l) (upd H l (.lst ys))) := by
  intro pins s σ H xs us Q I r h
  obtain ⟨p, ys, rfl, hq, q⟩ := h
  obtain ⟨u, rfl, rx⟩ := vals1 r
  cases rx
  have fin : ∀ (its : List Value), Vals ys its → ys.length ≤ sizeLine → ∀ (h' : Heap) (c' : Nat), (∀ b o', s.heap.get? b = some o' → h'.get? b = some o') →
      h'.get? s.heap.objs.size = some { cls := .type "list", dict := none, data := .seq its.toArray c', slots := #[] } → EP X pins σ Q (.ref s.heap.objs.size) { s with heap := h' } := fun its r' hz h' c' kp e =>
    ⟨.ref s.heap.objs.size, _, I.laid (t' := s.toks) kp (Nat.le_refl _) (show ObjOk X.prog X.w _ h' _ (.lst ys) from ⟨hz, its, c', r', e⟩), rfl, q _ (I.hok.fresh (Nat.le_refl _))⟩
  rcases hq with hq | hq
  · obtain ⟨its, r', pl, hz⟩ := I.list hq
    have hlen := r'.length
    obtain ⟨o, ho, hc, n, hd⟩ := pl.isList
    exact call_list_seq p (.inl rfl) ho hc hd (fun h' c' kp e => fin its r' hz h' c' kp e) (by simp only [List.size_toArray] <;> omega)
  · obtain ⟨its, r', pl, hz⟩ := I.tuple hq
    have hlen := r'.length
    obtain ⟨o, ho, hc, n, hd⟩ := pl
    exact call_list_seq p (.inr rfl) ho hc hd (fun h' c' kp e => fin its r' hz h' c' kp e) (by simp only [List.size_toArray] <;> omega)
/-! ### the call of a builtin's method: o.m(..) -/
/-- the value is of that builtin type -/
def tyV (K : PySem.W.Frag) (T : String) (x : V) (H : Hp) : Prop := match x with
  | .str _ => T = "str"
  | .int _ => T = "int"
  | .ref p => (T = "list" ∧ ∃ xs, SqL K H p xs) ∨ (T = "tuple" ∧ ∃ o, K.lookup p = some o ∧ o.cls = .type "tuple" ∧ o.dict = none) ∨
      (T = "dict" ∧ ((∃ kvs, H p = some (.dK kvs)) ∨ ∃ kvs, H p = some (.dT kvs))) ∨ (T = "set" ∧ ∃ S n, H p = some (.set S n))
  | _ => False
theorem tyV_is {pins : List (Addr × Obj)} {σ : St} {H : Hp} {s : Shared} {T : String} {x : V} {v : Value} (I : Inv X pins σ H s) (r : RelV x v) (ty : tyV X.K T x H) :
    s.TypeIs v T ∧ ∀ a, v = .ref a → ∃ ob, s.heap.get? a = some ob ∧ ob.dict = none := by
  cases x with
  | str z =>
    obtain ⟨t, rfl⟩ := r
    cases (show T = "str" from ty)
    exact ⟨typeIs_str s z t, fun _ e => nomatch e⟩
  | int i =>
    obtain ⟨t, rfl⟩ := r
    cases (show T = "int" from ty)
    exact ⟨typeIs_int s i t, fun _ e => nomatch e⟩
  | ref p =>
    cases r
    rcases ty with ⟨rfl, xs, hq⟩ | ⟨rfl, o, hk, hc, hd⟩ | ⟨rfl, hk⟩ | ⟨rfl, S, n, hk⟩
    · obtain ⟨its, _, pl, _⟩ := I.list hq
      refine ⟨pl.isList.typeIs, fun a e => ?_⟩
      cases e
      obtain ⟨o, n, e, c, hd, _⟩ := pl
      exact ⟨o, e, hd⟩
    · refine ⟨⟨o, I.kIn p o hk, hc⟩, fun a e => ?_⟩
      cases e
      exact ⟨o, I.kIn _ o hk, hd⟩
    · have z : ∃ o, s.heap.get? p = some o ∧ o.ExactDict := by
        rcases hk with ⟨kvs, hk⟩ | ⟨kvs, hk⟩
        · obtain ⟨_, _, _, _, o, _, _, e, ex, _⟩ := I.hok p _ hk
          exact ⟨o, e, ex⟩
        · obtain ⟨_, _, _, _, o, _, _, e, ex, _⟩ := I.hok p _ hk
          exact ⟨o, e, ex⟩
      obtain ⟨o, e, ex⟩ := z
      refine ⟨⟨o, e, ex.1⟩, fun a e2 => ?_⟩
      cases e2
      exact ⟨o, e, ex.2.1⟩
    · obtain ⟨o, _, _, _, e, ex, _⟩ := I.hok p _ hk
      refine ⟨⟨o, e, ex.1⟩, fun a e2 => ?_⟩
      cases e2
      exact ⟨o, e, ex.2.1⟩
  | _ => exact False.elim ty
def tBM0 (K : PySem.W.Frag) (T : String) (r : V → List V → Hp → VK → Prop) (to : TE) : TE := fun σ H Q => to σ H fun x H1 => tyV K T x H1 ∧ r x [] H1 Q
def tBM (K : PySem.W.Frag) (T : String) (r : V → List V → Hp → VK → Prop) (to : TE) (t : TA) : TE := fun σ H Q => to σ H fun x H1 => tyV K T x H1 ∧ t σ H1 fun xs H2 => r x xs H2 Q
variable {o e : Expr} {es : List Expr} {to : TE} {t : TA} {name : Str} {apos cpos : Pos} {T id : String} {r : V → List V → Hp → VK → Prop}
theorem pe_bm0 (pa : PlainAttrs T) (slot : Slot T name id) (hty : typeOf (.builtin id) = pure (.type "method_descriptor")) (hm : MtR X id r) (ho : PE X o to)
    (hbase : attributeBase o name X.env (eval o X.env) = eval o X.env := by rfl) (hline : (apos.endLine == cpos.line) = true := by rfl) : PE X (.Call (.Attribute o name apos) [] [] cpos) (tBM0 X.K T r to) := by
  intro pins s σ H Q I h
  refine wpAny_Call_method0_late hbase hline (thn (ho pins s σ H _ I h) fun v s1 ⟨x, H1, I1, r1, ty, q1⟩ => ?_)
  obtain ⟨h1, h2⟩ := tyV_is I1 r1 ty
  exact ⟨T, id, pa, slot, hty, h1, h2, Calls.callWith_builtin rfl (PySem.evalArgs_none (hm pins s1 σ H1 x [] v [] Q I1 r1 .nil q1))⟩
theorem pe_bm (pa : PlainAttrs T) (slot : Slot T name id) (hty : typeOf (.builtin id) = pure (.type "method_descriptor")) (hm : MtR X id r) (ho : PE X o to) (ha : PA X (e :: es) t)
    (hbase : attributeBase o name X.env (eval o X.env) = eval o X.env := by rfl)
    (hfew : ((backTo cpos (starEach (e :: es) X.env)).all (fun x => !x.1) && (backToKw cpos (keywordEach [] X.env)).all (fun x => x.1.isSome)
      && decide ((e :: es).length + ([] : List Keyword).length + (if ([] : List Keyword).isEmpty then 0 else 1) < 30)) = true := by rfl)
    (hline : (apos.endLine == cpos.line) = true := by rfl) (hs : starEach (e :: es) X.env = (false, eval e X.env) :: starEach es X.env := by rfl) (hplain : (backTo cpos (starEach es X.env)).any (·.1) = false := by rfl) :
    PE X (.Call (.Attribute o name apos) (e :: es) [] cpos) (tBM X.K T r to t) := by
  intro pins s σ H Q I h
  refine wpAny_Call_method_late hbase hfew hline rfl (thn (ho pins s σ H _ I h) fun v s1 ⟨x, H1, I1, r1, ty, q1⟩ => ?_)
  obtain ⟨h1, h2⟩ := tyV_is I1 r1 ty
  refine ⟨T, id, pa, slot, hty, h1, h2, ?_⟩
  have hA := ha cpos pins s1 σ H1 _ I1 q1
  rw [hs] at hA ⊢
  refine Calls.callWith_builtin (by show (false || (backTo cpos (starEach es X.env)).any (·.1)) = false; rw [hplain] <;> rfl) (Calls.evalArgs_plain ?_)
  exact thn hA fun us s2 ⟨vs, H2, I2, r2, q2⟩ => hm pins s2 σ H2 x vs v us Q I2 r1 r2 q2
/- xs.append(e), list.index on a module's tuple .. are MtR facts of 06m -/
end
end L2

namespace L2
open PySem PySem.Spec PyProof.Rows

def MtM (X : Cx) (id : String) (r : V → List V → Hp → VK → Prop) : Prop :=
  ∀ (pins : List (Addr × Obj)) (s : Shared) (σ : St) (H : Hp) (x : V) (xs : List V) (v : Value) (us : List Value) (Q : VK), Inv X pins σ H s → RelV x v → Vals xs us → r x xs H Q →
    wpAny (model X.prog X.w) X.A (call (.builtin id) (v :: us)) (EP X pins σ Q) X.xe s

/-! ### lists of values -/
theorem Vals.one : ∀ {x : V} {us : List Value}, Vals [x] us → ∃ u, us = [u] ∧ RelV x u
  | _, _, .cons r .nil => ⟨_, rfl, r⟩
theorem Vals.two {x y : V} {us : List Value} (h : Vals [x, y] us) : ∃ u v, us = [u, v] ∧ RelV x u ∧ RelV y v := by
  cases h with
  | cons r t =>
    cases t with
    | cons q t =>
      cases t
      exact ⟨_, _, rfl, r, q⟩
theorem Vals.zero : ∀ {us : List Value}, Vals [] us → us = []
  | _, .nil => rfl
section
variable {X : Cx} {pins : List (Addr × Obj)} {σ : St} {H : Hp} {s : Shared} {l b : Addr} {xs ys zs : List V}

/-! ### the two steps: a tracked list is rewritten, a new list is laid -/
theorem Inv.lset {its its' : List Value} {n : Nat} {f : Array Value → Array Value} {t' : Nat} (I : Inv X pins σ H s) (hH : H l = some (.lst xs))
    (e : s.heap.get? l = some { cls := .type "list", data := .seq its.toArray n }) (hf : f its.toArray = its'.toArray) (hv : Vals ys its') (hz : ys.length ≤ sizeLine) :
    Inv X pins σ (upd H l (.lst ys)) { s with heap := s.heap.update l (Obj.mapSeq f), toks := t' } := by
  have q := PySem.IsL.update e f
  rw [hf] at q
  refine I.write (x := l) (e := l) (by rw [hH]; exact trivial) (.inl rfl) (fun b' u hb hu => (Heap.get?_update_other s.heap (Obj.mapSeq f) (Ne.symm hb)).trans hu) ⟨_, q⟩ ?_
  exact ⟨hz, its', _, hv, q⟩
theorem Inv.lnew {its : List Value} {t' : Nat} (I : Inv X pins σ H s) (hv : Vals ys its) (hz : ys.length ≤ sizeLine) :
    Inv X pins σ (upd H s.heap.objs.size (.lst ys)) { s with heap := s.heap.push { cls := .type "list", data := .seq its.toArray }, toks := t' } :=
  I.laid (fun _ _ q => Heap.get?_push_of_some _ q) (Nat.le_refl _) ⟨hz, its, 0, hv, Heap.get?_push_size _ rfl⟩
theorem Inv.fresh (I : Inv X pins σ H s) : H s.heap.objs.size = none := I.hok.fresh (Nat.le_refl _)
theorem Inv.lstM (I : Inv X pins σ H s) (hH : H l = some (.lst xs)) : xs.length ≤ sizeLine ∧ ∃ (its : List Value) (n : Nat), Vals xs its ∧ xs.length = its.length ∧ s.heap.get? l = some { cls := .type "list", data := .seq its.toArray n } := by
  obtain ⟨z, its, n, r, e⟩ := I.hok l _ hH
  exact ⟨z, its, n, r, r.length, e⟩

end

section
variable {X : Cx}

/-! ### methods -/
inductive rAppendI (x : V) (vs : List V) (H : Hp) (Q : VK) : Prop | mk (l xs y) (h0 : x = .ref l) (h1 : vs = [y]) (h2 : H l = some (.lst xs)) (h3 : xs.length < sizeLine) (h4 : Q .non (upd H l (.lst (xs ++ [y])))) : rAppendI x vs H Q
def rAppend : V → List V → Hp → VK → Prop := fun x vs H Q => rAppendI x vs H Q
theorem mt_append : MtM X "list.append" rAppend := by
  intro pins s σ H x vs v us Q I rx rv h
  obtain ⟨l, xs, y, rfl, rfl, hH, hz, q⟩ := h
  cases rx
  obtain ⟨u, rfl, ru⟩ := rv.one
  obtain ⟨z, its, n, r, hl, e⟩ := I.lstM hH
  refine call_meets F.slot_list_append ⟨_, e, rfl⟩ F.entry_list_append (F.args_list_append_2 _ _) (PySem.list_append l its.toArray n u (by rw [List.size_toArray]; omega)) ⟨e, ?_⟩
  refine ⟨.non, _, I.lset (its' := its ++ [u]) hH e (by simp) (r.append (.cons ru .nil)) ?_, rfl, q⟩
  rw [List.length_append, List.length_singleton]
  omega

/-! ### list + list, list += list, list * int -/
def rCat : R2 := fun x y H Q => ∃ l b xs zs, x = .ref l ∧ y = .ref b ∧ H l = some (.lst xs) ∧ H b = some (.lst zs) ∧ xs.length + zs.length ≤ sizeLine ∧ ∀ p, H p = none → Q (.ref p) (upd H p (.lst (xs ++ zs)))
theorem op_cat : OpR X (binaryOp .Add) rCat := by
  intro pins s σ H x y v u Q I rx ry h
  obtain ⟨l, b, xs, zs, rfl, rfl, hH, hB, hz, q⟩ := h
  cases rx
  cases ry
  obtain ⟨z, its, n, r, hl, e⟩ := I.lstM hH
  obtain ⟨z2, its2, n2, r2, hl2, e2⟩ := I.lstM hB
  refine PySem.P.add_list e e2 ?_ (by rw [List.size_toArray, List.size_toArray]; omega)
  have ea : its.toArray ++ its2.toArray = (its ++ its2).toArray := by simp
  rw [ea]
  exact ⟨.ref _, _, I.lnew (t' := s.toks) (r.append r2) (by rw [List.length_append]; omega), rfl, q _ I.fresh⟩
/-! ### del xs[i] -/
end

/-! ### xs[a:b] = ys -/
section
variable {prog : Program} {w : World} {A : Around} {E : Value → Shared → Prop} {s : Shared}
end

section
variable {X : Cx}
end
end L2

namespace Att
open PySem PySem.W PySem.Calls PyProof.Rows

/-! ### the script -/
theorem ints_of_wellAll {P : Params} {h : Heap} : ∀ (ns : List Int) (vs : List Value), WellAll P h vs (ns.map WData.int) → IntsAre vs ns := by
  intro ns
  induction ns with
  | nil =>
    intro vs w
    rw [List.map_nil] at w
    cases w
    exact .nil
  | cons n ns ih =>
    intro vs w
    rw [List.map_cons] at w
    cases w with
    | cons a b =>
      cases a
      exact .cons _ _ (ih _ b)

theorem script_of {l : OpenLaw} {n : Nat} (hn : l.most = some n) {P : Params} {h : Heap} {args : List WData} {vals : List Value}
    (hpre : l.row.toRowW.claim.pre args = true) (hwl : WellAll P h vals args) :
    ∃ a vs ns, vals = [Value.ref a] ∧ args = [WData.list (ns.map WData.int)] ∧ h.get? a = some { cls := .type "list", data := .seq vs.toArray } ∧ IntsAre vs ns ∧ ns.length ≤ n := by
  have hsh : WShape.hasAll [] args [.list .int] = true := (pre_splitW hpre).1
  have hc : l.pre.holds [] { args := args } = true := (pre_splitW hpre).2
  obtain ⟨d, r, rfl, h1, h2⟩ := hasAllW_cons hsh
  obtain rfl := hasAllW_nil h2
  obtain ⟨xs, rfl, h3⟩ := hasW_list h1
  obtain ⟨ns, rfl⟩ := items_int h3
  have hlen : ns.length ≤ n := by
    unfold OpenLaw.pre at hc
    have h4 : (WTm.not (.lt (.lit (.int (n : Int))) (.len (.arg 0)))).holds [] { args := [.list (ns.map .int)] } = true := by
      have h4 := (holds_andW hc).1
      rw [hn] at h4
      exact h4
    have h5 := condW_of h4 (w_not (w_lt w_lit (w_len_list (w_arg rfl))))
    rw [List.length_map] at h5
    refine Nat.le_of_not_lt fun q => ?_
    have q' : (n : Int) < ((ns.length : Nat) : Int) := by omega
    first
      | (rw [decide_eq_true q'] at h5; exact absurd h5 (by decide))
      | (simp at h5; omega)
  cases hwl with
  | cons w1 w2 =>
    cases w2
    cases w1 with
    | list ho hall => exact ⟨_, _, ns, rfl, rfl, ho, ints_of_wellAll ns _ hall, hlen⟩

theorem post_true (l : OpenLaw) (args : List WData) : l.row.toRowW.claim.post args (.bool true) args = true :=
  postW_of (r := l.row.toRowW) (X := (true == true))
    (show WShape.has [] (.bool true) .bool = true by first | rfl | decide | simp [WShape.has, WShape.arms, WShape.armsAll])
    (show (WTm.eq .res (.lit (.bool true))).value [] { args := args, res := some (.bool true), after := args } = some (.bool (true == true)) from w_eq_bool (w_res rfl) w_lit) rfl

/-! ### the attachment: holds_open's last premise (the goal 'hc' behind k_head) from a wpAny of the law's body -/
/-- the same from a codeAny of the CALL (for a layer whose function contracts speak of calls) -/
theorem attach_call {l : OpenLaw} {n : Nat} {q : Program} {loose : List Str} {XP : (Str → Option Value) → Heap → Prop} {YP : World → Heap → Prop} {d : DefRec}
    (hn : l.most = some n) (hdf : d.params.defaults = [])
    (call : ∀ (w : World) (s₀ s₁ : Shared) (mg mb : Str → Option Value) (fa : Addr) (o : Obj) (pm cd doc : Value) (a : Addr) (vs : List Value) (ns : List Int),
      Ground q loose [] XP w s₀ mg mb s₁.heap → YP w s₁.heap →
      s₁.heap.get? fa = some o → o.data = .func (docDef d.name d.params d.body d.scope pm cd doc) → s₁.heap.CodeRec cd d.name → mg d.name = some (.ref fa) →
      s₁.heap.get? a = some { cls := .type "list", data := .seq vs.toArray } → IntsAre vs ns → ns.length ≤ n → s₁.gens = #[] →
      codeAny (model l.prog w) callerA (.call (.ref fa) ⟨[.ref a], []⟩) (fun r s' => r = .ok (.ret (.bool true)) ∧ OldK s₁.heap s'.heap ∧ s'.os = s₁.os ∧ AllBare s'.gens) s₁) :
    WalkO q loose XP YP l.row.toRowW d [] (fun f vs => PySem.call f vs) := by
  intro w s₀ s₁ mg mb G Y fa o pm cd doc dV kV ho hd hcd hD hmg hg args vals as hpre hlay hrd hwl hlo
  obtain rfl : dV = .none := Dflts.none hD hdf
  obtain rfl : kV = .none := Dflts.noKw hD
  obtain ⟨a, vs, ns, rfl, rfl, hobj, hints, hlen⟩ := script_of hn hpre hwl
  refine enter_call (codeAny_mono (call w s₀ s₁ mg mb fa o pm cd doc a vs ns G Y ho (fd_plain hd) hcd hmg hobj hints hlen hg) fun r s' hq => ?_)
  obtain ⟨rfl, h2, h3, h4⟩ := hq
  exact ⟨.inl ⟨.bool true, .bool true, [], rfl, fun _ => rfl, .bool true, post_true l _, fun _ => ⟨List.Pairwise.nil, fun _ hm => (nomatch hm)⟩⟩, h2, h3, h4⟩

/-! ### rules over ANY heap (no ledger) from facts about the written part K: the library's own take a ledger (News) for what they write -/
section
variable {prog : Program} {w : World} {A : Around} {E : Value → Shared → Prop} {s : Shared} {K : Frag}

/-! the whole heap as the ledger: makes every rule that writes through a ledger a rule over any heap -/
end
end Att

namespace L2
open PySem PySem.Spec PyProof.Rows

theorem vals_ints : ∀ {vs : List Value} {ns : List Int}, IntsAre vs ns → Vals (ns.map V.int) vs
  | _, _, .nil => .nil
  | _, _, .cons n t h => .cons ⟨t, rfl⟩ (vals_ints h)

/-- nothing is tracked but the script, known to the object (or it is an object of the module) -/
def Only (H : Hp) : Prop := ∀ b, H b = none ∨ ∃ o xs, H b = some (.frz o (.lst xs))

/-- THE HEAD: the law's promise, at the heap behind the top. F, the promise of the law's def, may use that base is part of the heap (so K.In base, base.Ns mainGlobals mg stand in Mod) -/
theorem law_call {P : Program} {w : World} {K : PySem.W.Frag} {mg mb : Str → Option Value} {CX : CXT} {k : Nat} {fa a : Addr} {fd : FuncData} {x : Str} {sp : Sp} {s₁ : Shared} {vs : List Value} {ns : List Int}
    (KX : K.In s₁.heap) (hns : s₁.heap.Ns mainGlobals mg) (hb : s₁.heap.Ns builtinsNs mb) (hbb : ∀ x : Str, x ≠ "__name__" → mb x = bootBuiltins x) (hlim : s₁.heap.NoLimit) (hg : s₁.gens = #[])
    (ha : s₁.heap.get? a = some { cls := .type "list", data := .seq vs.toArray }) (hi : IntsAre vs ns) (hl : ns.length ≤ sizeLine) (hr : Room k callerA)
    (F : ∀ base : Heap, K.In base → base.Ns mainGlobals mg → FnOk P w K mg base CX k fa fd [x] sp) (hbind : ∀ (s : Shared) (u : Value), BindsTo s fd ⟨[u], []⟩ [(x, u)])
    (hsp : ∀ H : Hp, Only H → SqL K H a (ns.map V.int) → sp [.ref a] H (fun v _ => v = .bl true) fun _ _ _ => False)
    (hCX : ∀ H e s', CX [] H s₁ (fun _ _ _ => False) e s' → False) :
    codeAny (model P w) callerA (.call (.ref fa) ⟨[.ref a], []⟩) (fun r s' => r = .ok (.ret (.bool true)) ∧ OldK s₁.heap s'.heap ∧ s'.os = s₁.os ∧ AllBare s'.gens) s₁ := by
  have rv := vals_ints hi
  have lenV := hi.length
  -- from an abstract heap in which nothing but the script may be tracked
  have core : ∀ H : Hp, Only H → SqL K H a (ns.map V.int) → HOk P w H s₁.heap → (∀ b, H b ≠ none → b = a) → (H a ≠ none → K.lookup a = none) →
      codeAny (model P w) callerA (.call (.ref fa) ⟨[.ref a], []⟩) (fun r s' => r = .ok (.ret (.bool true)) ∧ OldK s₁.heap s'.heap ∧ s'.os = s₁.os ∧ AllBare s'.gens) s₁ := by
    intro H hO hS hok hA hK
    have base_of : ∀ {b : Addr} {o : Obj}, s₁.heap.get? b = some o → H b = none → (hidT s₁.heap H).get? b = some o := fun e n => hidT_get e n
    have noA : ∀ {b : Addr} {o : Obj} {es : Array DictEntry} {ep : Nat}, s₁.heap.get? b = some o → o.data = .dict es ep → H b = none := fun {b o es ep} e d => by
      cases q : H b with
      | none => rfl
      | some u =>
        have e' : b = a := hA b (by rw [q]; simp)
        subst e'
        rw [ha] at e; cases e
        have d' : Data.seq vs.toArray _ = Data.dict es ep := d
        cases d'
    have nsK : ∀ {b : Addr} {m : Str → Option Value}, s₁.heap.Ns b m → (hidT s₁.heap H).Ns b m := fun {b m} ⟨o, es, ep, e, d, r⟩ => ⟨o, es, ep, base_of e (noA e d), d, r⟩
    have hKb : K.In (hidT s₁.heap H) := fun b o e => base_of (KX b o e) (by
      cases q : H b with
      | none => rfl
      | some u =>
        have e' : b = a := hA b (by rw [q]; simp)
        subst e'
        rw [hK (by rw [q]; simp)] at e; cases e)
    have hM : Mod K mg (hidT s₁.heap H) := ⟨hKb, nsK hns, ⟨mb, nsK hb, hbb⟩, let ⟨mc, h1, h2⟩ := hlim; ⟨mc, nsK h1, h2⟩⟩
    have e0 : Env0 P w K mg (hidT s₁.heap H) callerA [] s₁ H := ⟨rfl, hM, fun b o e => of_hidT e, Nat.le_of_eq (hidT_size _ _), trivial, fun b hb => absurd (show b ∈ ([] : List Addr) from hb) (by simp), hok, .of_eq hg⟩
    refine codeAny_mono ((F _ hKb (nsK hns)).run callerA [] s₁ H ⟨[.ref a], []⟩ [.ref a] [.ref a] _ _ hr e0 (hbind s₁ (.ref a)) (.cons rfl .nil) (hsp H hO hS)) fun r s' h => ?_
    cases r with
    | error e => exact (hCX H e s' h).elim
    | ok fl =>
      cases fl with
      | next => exact False.elim h
      | brk => exact False.elim h
      | cont => exact False.elim h
      | ret u =>
        obtain ⟨v, H', os, bare, un, hok', r', q⟩ := h
        have q' : v = .bl true := q
        subst q'
        obtain rfl : u = Value.bool true := r'
        refine ⟨rfl, OldK.of_keep fun b o e => ?_, os, bare⟩
        cases q : H b with
        | none => exact un.keep b o e q (by intro z; exact absurd (show b ∈ ([] : List Addr) from z) (by simp)) (by simp)
        | some u =>
          rcases hO b with z | ⟨ob, xs, z⟩
          · rw [q] at z; cases z
          · have z2 := un.frzs b ob _ z
            obtain ⟨e1, _⟩ := hok b _ z
            obtain ⟨e2, _⟩ := hok' b _ z2
            rw [e] at e1; cases e1
            exact e2
  cases hk : K.lookup a with
  | some o =>
    -- the script is one of the module's own objects
    have e := KX a o hk
    rw [ha] at e
    cases e
    refine core (fun _ => none) (fun _ => .inl rfl) (.inr ⟨_, vs.toArray, _, hk, rfl, rfl, rfl, by rw [List.size_toArray, lenV]; exact hl, by simpa using rv⟩) (fun b u z => by have z' : (none : Option HO) = some u := z; cases z') (fun b z => absurd rfl z) fun z => absurd rfl z
  | none =>
    refine core (fun b => if b = a then some (.frz { cls := .type "list", data := .seq vs.toArray } (.lst (ns.map V.int))) else none) (fun b => ?_) (.inl (.inr ⟨{ cls := .type "list", data := .seq vs.toArray }, if_pos rfl⟩)) (fun b u z => ?_) (fun b z => ?_) fun _ => hk
    · by_cases hb : b = a
      · exact .inr ⟨_, _, if_pos hb⟩
      · exact .inl (if_neg hb)
    · by_cases hb : b = a
      · have z' := (if_pos hb).symm.trans z
        cases z'
        subst hb
        exact ⟨ha, by rw [List.length_map]; exact hl, vs, _, rv, ha⟩
      · have z' := (if_neg hb).symm.trans z
        cases z'
    · by_cases hb : b = a
      · exact hb
      · exact absurd (if_neg hb) z
end L2

namespace L2
open PySem PySem.Spec PyProof.Rows

/-- the goal that k_head leaves (case hc), from the law's promise. F gives the function object fd (K's own) once, then the promise over every base -/
theorem walk_of {l : PySem.W.OpenLaw} {n k : Nat} {q : Program} {loose : List Str} {XP : (Str → Option Value) → Heap → Prop} {YP : World → Heap → Prop} {d : DefRec} {K : Params → PySem.W.Frag} {CX : World → CXT} {sp : World → Sp} {x : Str}
    (hn : l.most = some n) (hn2 : n ≤ sizeLine) (hdf : d.params.defaults = []) (hr : Room k callerA)
    (hY : ∀ (w : World) (h : Heap), YP w h → (K w.params).In h)
    (F : ∀ (w : World) (mg : Str → Option Value) (fa : Addr) (h : Heap), (K w.params).In h → h.Ns mainGlobals mg → mg d.name = some (.ref fa) →
      ∃ fd : FuncData, (∀ (s : Shared) (u : Value), BindsTo s fd ⟨[u], []⟩ [(x, u)]) ∧
        ∀ base : Heap, (K w.params).In base → base.Ns mainGlobals mg → FnOk l.prog w (K w.params) mg base (CX w) k fa fd [x] (sp w))
    (hsp : ∀ (w : World) (H : Hp) (a : Addr) (ns : List Int), ns.length ≤ n → Only H → SqL (K w.params) H a (ns.map V.int) → sp w [.ref a] H (fun v _ => v = .bl true) fun _ _ _ => False)
    (hCX : ∀ (w : World) (H : Hp) (s : Shared) (e : Value) (s' : Shared), CX w [] H s (fun _ _ _ => False) e s' → False) :
    PySem.W.WalkO q loose XP YP l.row.toRowW d [] (fun f vs => PySem.call f vs) := by
  refine Att.attach_call hn hdf fun w s₀ s₁ mg mb fa o pm cd doc a vs ns G Y ho hd hcd hmg hobj hints hlen hg => ?_
  have KX := hY w _ Y
  obtain ⟨fd, hb, hF⟩ := F w mg fa _ KX G.T.g hmg
  exact law_call KX G.T.g G.T.b G.T.builtins G.T.nolimit hg hobj hints (Nat.le_trans hlen hn2) hr hF hb (fun H hO hS => hsp w H a ns hlen hO hS) fun H e s' => hCX w H s₁ e s'
end L2

/- THE LAST THEOREM (shape; LID, My.* are yours):
   My.Adr: a structure of the addresses that your layer names (classes, functions); My.Txt K t: a structure (Prop) of the equations over K;
   My.txt_mk : {K} {implicit addresses ..} (e1 : nsIn K mainGlobals "law" = some (some (.ref f))) (e2 : K.lookup f = some ⟨oc, od, .func (fnOf "law" "law" params body scope dV kV doc pm an cdv ct), sl⟩) (e3 : codeIn K cdv "law" = true) .. : ∃ t, My.Txt K t

set_option maxRecDepth 100000 in
set_option maxHeartbeats 0 in
theorem PySem.Challenge.cw_LID_holds : PySem.Challenge.rw_LID.Holds := by
  w_on; o_law; k_head; (case hw => w_witness2)
  k_fill
  refine L2.walk_of (l := PySem.Challenge.rw_LID) (n := 63) (k := 40) (x := "script") (CX := fun w => ..) (sp := fun _ => My.sp_law) rfl (by decide) rfl ⟨rfl, by decide, by decide⟩ (fun w h Y => PySem.W.kIn_of Y) ?F ?S ?C
  case F =>
    intro w mg fa h KX G hmg
    have T : ∃ t, My.Txt (L2.KOf KX) t := by
      dsimp only [L2.KOf]                          -- K must stand as «<heap const> w.params» for k_is
      refine' My.txt_mk ?e1 ?e2 ?e3 ..
      (case e1 => PySem.W.k_is)                    -- in the order: a name -> its address -> its object -> its parts
      (case e2 => PySem.W.k_is)
      ..
    obtain ⟨t, T⟩ := T
    have e0 := hmg.symm.trans (PySem.W.mg_of KX G T.law)
    cases e0                                       -- fa is the law's own address
    exact ⟨_, fun s u => .of_eq rfl, fun base kb nb => My.law_fn T kb nb⟩     -- if «.of_eq rfl» comes too early: refine' ⟨_, ?b, fun base kb nb => My.law_fn T kb nb⟩; exact fun s u => .of_eq rfl
  case S => exact fun w H a ns hl hO hS => ..
  case C => exact ..
(the tactic k_is has no namespace: write k_is) -/

/-! SHORT WORDS over the layer: a def of the text, its body, what a loop and a test want. -/
namespace L2
open PySem PySem.Spec PyProof.Rows

/-! ### the text by places -/
/-- the j-th statement of a class's body -/
def inClass (s : Stmt) (j : Nat) : Stmt := match s with
  | .ClassDef _ _ _ body _ _ _ _ _ _ _ => body.getD j (.Pass ⟨0, 0, 0, 0⟩)
  | _ => .Pass ⟨0, 0, 0, 0⟩
def defArgs (s : Stmt) : Arguments := match s with
  | .FunctionDef _ a _ _ _ _ _ _ _ _ => a
  | _ => { posonlyargs := [], args := [], vararg := none, kwonlyargs := [], kw_defaults := [], kwarg := none, defaults := [] }
def defBody (s : Stmt) : List Stmt := match s with
  | .FunctionDef _ _ b _ _ _ _ _ _ _ => b
  | _ => []
def defScope (s : Stmt) : Scope := match s with
  | .FunctionDef _ _ _ _ _ _ sc _ _ _ => sc
  | _ => { kind := .function, names := [], isGenerator := false, isCoroutine := false }

/-! ### no exception leaves a def -/
abbrev CX0 : CXT := fun _ _ _ _ _ _ => False
abbrev E0 : XK := fun _ _ _ => False
theorem pass0 {X : Cx} : Passes CX0 X E0 := fun _ _ _ _ _ _ _ h => h.elim

/-! ### a def (or method) of the text as it stands behind the top -/
structure Fun (K : PySem.W.Frag) (x qual : Str) (st : Stmt) (f : Addr) (fd : FuncData) : Prop where
  ex : ∃ (oc : Value) (od : Option Addr) (kV doc pm : Value) (an : Option Addr) (cdv ct : Value) (osl : Array (Option Value)),
    fd = PySem.W.fnOf x qual (defArgs st) (defBody st) (defScope st) .none kV doc pm an cdv ct ∧ K.lookup f = some ⟨oc, od, .func fd, osl⟩ ∧ PySem.W.codeIn K cdv qual = true
  kp : PySem.W.keepIn K (.ref f) = true
section
variable {P : Program} {w : World} {K : PySem.W.Frag} {mg : Str → Option Value} {base : Heap}
/-- THE RULE for a def: its body as a term of rules, and the reading of that term -/
theorem Fun.ok {x qual : Str} {st : Stmt} {f : Addr} {fd : FuncData} {N ps : List Str} {k : Nat} {sp : Sp} (F : Fun K x qual st f fd) (S : FnScope N ps (defScope st)) (len : ∀ vs H Q E, sp vs H Q E → vs.length = ps.length)
    (hbody : ∀ (cdv : Value) (A : Around) (outer : List Env) (s : Shared) (H : Hp) (vs : List V) (Q : VK) (E : XK), Room k (A.deeper (envOfC qual (defScope st) s.heap.objs.size f cdv)) → sp vs H Q E →
      ∃ t, PSs (cxOf CX0 P w K mg base N qual (defScope st) f cdv A outer s H E).nox (defBody st) t ∧ t { nx := fun _ H' => Q .non H', rt := Q } (start N vs) H) : FnOk P w K mg base CX0 (k + 1) f fd ps sp := by
  obtain ⟨oc, od, kV, doc, pm, an, cdv, ct, osl, rfl, lk, hcd⟩ := F.ex
  refine fn_of lk hcd S len fun A outer s H vs Q E hr hsp => ?_
  obtain ⟨t, h, q⟩ := hbody cdv A outer s H vs Q E hr hsp
  exact ⟨t, h.nox, q⟩
/-- how its arguments bind (no defaults): h is «fun _ _ _ _ _ _ us hl => match us, hl with | [_, _], _ => rfl», one _ a parameter -/
theorem Fun.binds {x qual : Str} {st : Stmt} {f : Addr} {fd : FuncData} {ps : List Str} (F : Fun K x qual st f fd)
    (h : ∀ (kV doc pm : Value) (an : Option Addr) (cdv ct : Value) (us : List Value), us.length = ps.length → bindArgs (PySem.W.fnOf x qual (defArgs st) (defBody st) (defScope st) .none kV doc pm an cdv ct) ⟨us, []⟩ = pure (ps.zip us)) : Binds K fd ps [] := by
  obtain ⟨oc, od, kV, doc, pm, an, cdv, ct, osl, rfl, lk, hcd⟩ := F.ex
  exact .all (h kV doc pm an cdv ct)
theorem fun_mk {x qual : Str} {st : Stmt} {f : Addr} {oc : Value} {od an : Option Addr} {osl : Array (Option Value)} {kV doc pm cdv ct : Value} (l : K.lookup f = some ⟨oc, od, .func (PySem.W.fnOf x qual (defArgs st) (defBody st) (defScope st) .none kV doc pm an cdv ct), osl⟩)
    (c : PySem.W.codeIn K cdv qual = true) (k : PySem.W.keepIn K (.ref f) = true) : Fun K x qual st f (PySem.W.fnOf x qual (defArgs st) (defBody st) (defScope st) .none kV doc pm an cdv ct) := ⟨⟨oc, od, kV, doc, pm, an, cdv, ct, osl, rfl, l, c⟩, k⟩
end
theorem hu_of {A : Around} {k : Nat} (hr : Room k A) : A.units + 1 < cLine := Nat.lt_of_le_of_lt (Nat.add_le_add_left (by decide : 1 ≤ 64) _) hr.units
/-! ### expressions in short: the name that stands in the i-th slot -/
section
variable {X : Cx}
theorem pv (i : Nat) {x : Str} {pos : Pos} (hN : X.N[i]? = some x := by rfl) (hv : Vis X.env.scope x := by first | exact Or.inl rfl | exact Or.inr (Or.inl rfl) | exact Or.inr (Or.inr rfl)) (hd : (x == ("__debug__" : Str)) = false := by decide)
    (hcd : (x == ("__classdict__" : Str)) = false := by decide) : PE X (.Name x pos) (tVar i) := pe_var hN hv hd hcd
/-- len of a dict -/
theorem call_lenD : CallR X (.builtin "len") (fun xs H Q => ∃ a kvs, xs = [V.ref a] ∧ H a = some (.dK kvs) ∧ Q (.int kvs.length) H) := by
  intro pins s σ H xs us Q I r h
  obtain ⟨a, kvs, rfl, ha, q⟩ := h
  obtain ⟨u, rfl, ru⟩ := vals1 r
  cases ru
  exact d_len I (.inl ha) fun t s' I' => ⟨.int kvs.length, H, I', ⟨t, rfl⟩, q⟩
end

/-! ### tests -/
theorem iteF {A B : Prop} (h : B) : if false = true then A else B := by
  rw [if_neg Bool.false_ne_true]
  exact h
theorem iteT {A B : Prop} (h : A) : if true = true then A else B := by
  rw [if_pos rfl]
  exact h
theorem iteNS {c A B : Prop} [Decidable c] (hc : c) (h : B) : if (!decide c) = true then A else B := by
  rw [decide_eq_true hc]
  exact iteF h

/-! ### heaps -/
/-- all that was tracked is as it was -/
def Same (H H' : Hp) : Prop := ∀ b o, H b = some o → H' b = some o
theorem Same.refl (H : Hp) : Same H H := fun _ _ h => h
theorem Same.trans {H H1 H2 : Hp} (a : Same H H1) (b : Same H1 H2) : Same H H2 := fun c o h => b c o (a c o h)
theorem Same.free {H H' : Hp} (e : Same H H') {l : Addr} (h : H' l = Option.none) : H l = Option.none := by
  cases q : H l with
  | none => rfl
  | some o =>
    rw [e l o q] at h
    cases h
theorem Same.seq {K : PySem.W.Frag} {H H' : Hp} {a : Addr} {xs : List V} (e : Same H H') (h : SqL K H a xs) : SqL K H' a xs := by
  rcases h with (h | ⟨o, h⟩) | h
  · exact .inl (.inl (e _ _ h))
  · exact .inl (.inr ⟨o, e _ _ h⟩)
  · exact .inr h

/-! ### a dict's pairs: keys that differ -/
section
variable {κ : Type} [DecidableEq κ]
end
end L2


set_option linter.all false
set_option maxRecDepth 100000
namespace WS
open PySem

abbrev Ris (xs : Array Nat) : Prop := xs.toList.Pairwise (· < ·)

theorem ris_lt {xs : Array Nat} (h : Ris xs) {i k x y : Nat} (hi : xs[i]? = some x) (hk : xs[k]? = some y) (hik : i < k) : x < y := by
  rw [← Array.getElem?_toList] at hi hk
  obtain ⟨hi', rfl⟩ := List.getElem?_eq_some_iff.mp hi
  obtain ⟨hk', rfl⟩ := List.getElem?_eq_some_iff.mp hk
  exact List.pairwise_iff_getElem.mp h i k hi' hk' hik

theorem below_go {xs : Array Nat} {j : Nat} (hr : Ris xs) : ∀ (fuel lo hi : Nat), hi - lo ≤ fuel → lo ≤ hi → hi ≤ xs.size →
    (∀ i x, xs[i]? = some x → i < lo → x < j) → (∀ i x, xs[i]? = some x → hi ≤ i → j ≤ x) →
    SetTable.below.go xs j fuel lo hi ≤ xs.size ∧ (∀ i x, xs[i]? = some x → i < SetTable.below.go xs j fuel lo hi → x < j) ∧ (∀ i x, xs[i]? = some x → SetTable.below.go xs j fuel lo hi ≤ i → j ≤ x) := by
  intro fuel
  induction fuel with
  | zero =>
    intro lo hi h1 h2 h3 ha hb
    have e : hi = lo := by omega
    subst e
    unfold SetTable.below.go
    exact ⟨h3, ha, hb⟩
  | succ n ih =>
    intro lo hi h1 h2 h3 ha hb
    unfold SetTable.below.go
    by_cases hlt : lo < hi
    · rw [if_pos hlt]
      dsimp only
      have hm : (lo + hi) / 2 < xs.size := by omega
      have hg : xs.getD ((lo + hi) / 2) j = xs[(lo + hi) / 2] := by simp [Array.getD, hm]
      have hs : xs[(lo + hi) / 2]? = some xs[(lo + hi) / 2] := Array.getElem?_eq_getElem hm
      rw [hg]
      by_cases hc : xs[(lo + hi) / 2] < j
      · rw [if_pos hc]
        refine ih _ _ (by omega) (by omega) h3 (fun i x hx hi' => ?_) hb
        rcases Nat.lt_or_ge i ((lo + hi) / 2) with h | h
        · exact Nat.lt_trans (ris_lt hr hx hs h) hc
        · have : i = (lo + hi) / 2 := by omega
          subst this
          rw [hs] at hx; cases hx; exact hc
      · rw [if_neg hc]
        refine ih _ _ (by omega) (by omega) (by omega) ha (fun i x hx hi' => ?_)
        rcases Nat.lt_or_ge ((lo + hi) / 2) i with h | h
        · have := ris_lt hr hs hx h; omega
        · have : i = (lo + hi) / 2 := by omega
          subst this
          rw [hs] at hx; cases hx; omega
    · rw [if_neg hlt]
      have e : hi = lo := by omega
      subst e
      exact ⟨h3, ha, hb⟩

theorem below_spec {xs : Array Nat} {j : Nat} (hr : Ris xs) : SetTable.below xs j ≤ xs.size ∧ (∀ i x, xs[i]? = some x → i < SetTable.below xs j → x < j) ∧ (∀ i x, xs[i]? = some x → SetTable.below xs j ≤ i → j ≤ x) :=
  below_go hr _ 0 xs.size (by omega) (Nat.zero_le _) (Nat.le_refl _) (fun i x _ h => by omega) (fun i x hx h => by
    rw [← Array.getElem?_toList] at hx
    obtain ⟨hi, _⟩ := List.getElem?_eq_some_iff.mp hx
    simp at hi; omega)

theorem below_mem {xs : Array Nat} {j i : Nat} (hr : Ris xs) (h : xs[i]? = some j) : SetTable.below xs j = i := by
  obtain ⟨h1, h2, h3⟩ := below_spec (j := j) hr
  rcases Nat.lt_trichotomy (SetTable.below xs j) i with c | c | c
  · exfalso
    have hlt : SetTable.below xs j < xs.size := by
      rw [← Array.getElem?_toList] at h
      obtain ⟨hi, _⟩ := List.getElem?_eq_some_iff.mp h
      simp at hi; omega
    have hs : xs[SetTable.below xs j]? = some xs[SetTable.below xs j] := Array.getElem?_eq_getElem hlt
    have a := h3 _ _ hs (Nat.le_refl _)
    have b := ris_lt hr hs h c
    omega
  · exact c
  · have := h2 i j h c; omega

/-- where the search for slot j comes to, given that the i-th place is the least that is j at least -/
theorem below_at {xs : Array Nat} {j i : Nat} (hr : Ris xs) (hi : i ≤ xs.size) (h1 : ∀ k x, xs[k]? = some x → k < i → x < j) (h2 : ∀ x, xs[i]? = some x → j ≤ x) : SetTable.below xs j = i := by
  obtain ⟨g1, g2, g3⟩ := below_spec (j := j) hr
  rcases Nat.lt_trichotomy (SetTable.below xs j) i with c | c | c
  · exfalso
    have hlt : SetTable.below xs j < xs.size := by omega
    have hs : xs[SetTable.below xs j]? = some xs[SetTable.below xs j] := Array.getElem?_eq_getElem hlt
    have a := h1 _ _ hs c
    have b := g3 _ _ hs (Nat.le_refl _)
    omega
  · exact c
  · exfalso
    have hlt : i < xs.size := by omega
    have hs : xs[i]? = some xs[i] := Array.getElem?_eq_getElem hlt
    have a := h2 _ hs
    have b := g2 _ _ hs c
    omega

theorem ris_insert {xs : Array Nat} {j : Nat} (hr : Ris xs) (hj : j ∉ xs.toList) : Ris (SetTable.insertAt xs (SetTable.below xs j) j) := by
  obtain ⟨g1, g2, g3⟩ := below_spec (j := j) hr
  unfold Ris
  rw [SetTable.toList_insertAt]
  have hp := List.take_append_drop (SetTable.below xs j) xs.toList
  have hr' : (xs.toList.take (SetTable.below xs j) ++ xs.toList.drop (SetTable.below xs j)).Pairwise (· < ·) := by rw [hp]; exact hr
  obtain ⟨ha, hb, hc⟩ := List.pairwise_append.mp hr'
  refine List.pairwise_append.mpr ⟨ha, List.pairwise_cons.mpr ⟨fun x hx => ?_, hb⟩, fun x hx y hy => ?_⟩
  · obtain ⟨k, hk, rfl⟩ := List.mem_iff_getElem.mp hx
    rw [List.getElem_drop]
    have hk' : SetTable.below xs j + k < xs.size := by simp at hk; omega
    have := g3 (SetTable.below xs j + k) xs[SetTable.below xs j + k] (Array.getElem?_eq_getElem hk') (by omega)
    have hne : xs[SetTable.below xs j + k] ≠ j := fun e => hj (by rw [← e]; exact Array.getElem_mem_toList ..)
    have e2 : xs.toList[SetTable.below xs j + k]'(by simpa using hk') = xs[SetTable.below xs j + k] := by simp
    rw [e2]; omega
  · obtain ⟨k, hk, rfl⟩ := List.mem_iff_getElem.mp hx
    rw [List.getElem_take]
    have hk' : k < SetTable.below xs j := by simp at hk; omega
    have hk2 : k < xs.size := by omega
    have := g2 k xs[k] (Array.getElem?_eq_getElem hk2) hk'
    rcases List.mem_cons.mp hy with rfl | hy
    · simpa using this
    · exact hc _ (by
        have hx2 := hx
        rw [List.getElem_take] at hx2
        exact hx2) _ hy

theorem ris_erase {xs : Array Nat} (hr : Ris xs) (p : Nat) : Ris (SetTable.eraseAt xs p) := by
  unfold Ris
  have e : (SetTable.eraseAt xs p).toList = xs.toList.take p ++ xs.toList.drop (p + 1) := by
    simp [SetTable.eraseAt, List.extract_eq_take_drop, List.take_of_length_le]
  rw [e]
  refine List.Pairwise.sublist ?_ hr
  have h : (xs.toList.take p ++ xs.toList.drop (p + 1)).Sublist (xs.toList.take p ++ xs.toList.drop p) :=
    (List.Sublist.refl _).append (by
      rw [← List.drop_drop]
      exact List.drop_sublist _ _)
  rw [List.take_append_drop] at h
  exact h

theorem ris_range (n : Nat) : Ris (Array.range n) := by
  unfold Ris
  rw [Array.toList_range]
  exact List.pairwise_lt_range

theorem slot_not_live {t : SetTable} {j : Nat} (hr : Ris t.place) (h : ∀ i, t.slot j ≠ .live i) : j ∉ t.place.toList := by
  intro hm
  obtain ⟨i, hi, rfl⟩ := List.mem_iff_getElem.mp hm
  have hi' : i < t.place.size := by simpa using hi
  have hs : t.place[i]? = some t.place[i] := Array.getElem?_eq_getElem hi'
  have hb := below_mem hr hs
  apply h i
  unfold SetTable.slot
  have e : t.place.toList[i] = t.place[i] := by simp
  rw [e, hb]
  dsimp only
  rw [hs]
  simp

theorem probe_go {t : SetTable} {f : Nat → Int} {h : Int} (hne : ∀ i, (f i == h) = false) : ∀ (fuel : Nat) (p : SetTable.Probe) (j : Nat) (d : Option Nat),
    (∀ x, p.dummy = some x → t.slot x = .dummy) → SetTable.probe.go t f h fuel p = some (.empty j d) → t.slot j = .empty ∧ ∀ x, d = some x → t.slot x = .dummy := by
  intro fuel
  induction fuel with
  | zero => intro p j d _ e; simp [SetTable.probe.go] at e
  | succ n ih =>
    intro p j d hd e
    unfold SetTable.probe.go at e
    cases hs : t.slot p.j with
    | empty =>
      rw [hs] at e
      simp at e
      obtain ⟨rfl, rfl⟩ := e
      exact ⟨hs, hd⟩
    | dummy =>
      rw [hs] at e
      refine ih _ _ _ (fun x hx => ?_) e
      unfold SetTable.advance at hx
      split at hx
      · simp at hx; subst hx; exact hs
      · simp at hx; subst hx; exact hs
    | live i =>
      rw [hs] at e
      simp only [hne i, Bool.false_eq_true, if_false] at e
      refine ih _ _ _ (fun x hx => ?_) e
      unfold SetTable.advance at hx
      split at hx
      · exact hd x hx
      · exact hd x hx

theorem freeSlot_free {t : SetTable} {h : Int} {slot : Nat} {b : Bool} (hr : Ris t.place) (e : t.freeSlot h = some (slot, b)) : slot ∉ t.place.toList := by
  refine slot_not_live hr fun i hi => ?_
  unfold SetTable.freeSlot at e
  cases hp : t.probe (fun _ => h + 1) h (t.probeStart h) with
  | none => rw [hp] at e; cases e
  | some m =>
    rw [hp] at e
    cases m with
    | candidate j i n => cases e
    | empty j d =>
      have := probe_go (t := t) (f := fun _ => h + 1) (h := h) (fun i => by simp; omega) _ _ j d (fun x hx => by simp [SetTable.probeStart] at hx) hp
      simp at e
      obtain ⟨rfl, _⟩ := e
      cases d with
      | none => rw [Option.getD_none, this.1] at hi; cases hi
      | some x => rw [Option.getD_some, this.2 x rfl] at hi; cases hi

theorem layNew_ris (t : SetTable) (es : Array (Int × Value)) (h : Int) (x : Value) (hr : Ris t.place) : Ris (layNew t es h x).2.1.place ∧ (layNew t es h x).2.1.led = t.led := by
  unfold layNew
  cases e : t.freeSlot h with
  | none => exact ⟨ris_range _, rfl⟩
  | some p =>
    obtain ⟨slot, b⟩ := p
    dsimp only
    unfold SetTable.orStandIn
    split
    · exact ⟨ris_insert hr (freeSlot_free hr e), rfl⟩
    · exact ⟨ris_range _, rfl⟩

theorem laid_ris {mask finger moves : Nat} {led plain : Bool} {hashes : Array Int} {t : SetTable} {order : Array Nat} (e : SetTable.laid mask finger moves led plain hashes = some (t, order)) : Ris t.place ∧ t.led = led ∧ t.mask = mask ∧ t.plain = plain ∧ t.dummies = #[] := by
  unfold SetTable.laid at e
  cases ho : SetTable.layClean mask hashes with
  | none => rw [ho] at e; cases e
  | some owner =>
    rw [ho] at e
    simp at e
    obtain ⟨rfl, _⟩ := e
    refine ⟨?_, rfl, rfl, rfl, rfl⟩
    show List.Pairwise _ _
    simp only [List.toList_toArray]
    rw [List.pairwise_map, List.pairwise_filterMap]
    refine List.Pairwise.imp ?_ (List.pairwise_lt_range (n := mask + 1))
    intro a a' hlt b hb b' hb'
    simp only [Option.map_eq_some_iff] at hb hb'
    obtain ⟨_, _, rfl⟩ := hb
    obtain ⟨_, _, rfl⟩ := hb'
    exact hlt

theorem relayAll_ris (t : SetTable) (es : Array (Int × Value)) (wanted : Nat) : Ris (relayAll t es wanted).2.1.place ∧ (relayAll t es wanted).2.1.led = t.led := by
  unfold relayAll
  cases e : t.relaid (es.map (·.1)) wanted with
  | none => exact ⟨ris_range _, rfl⟩
  | some p =>
    obtain ⟨t', order⟩ := p
    dsimp only
    split
    · unfold SetTable.relaid at e
      have := laid_ris e
      exact ⟨this.1, this.2.1⟩
    · exact ⟨ris_range _, rfl⟩

/-! ### a clean laying finds room -/
def lf (mask x : Nat) : Nat := (x * 5 + 1) % (mask + 1)
def lit (mask : Nat) : Nat → Nat → Nat
  | 0, x => x
  | n + 1, x => lit mask n (lf mask x)
theorem lit_add (mask : Nat) : ∀ (a b x : Nat), lit mask (a + b) x = lit mask b (lit mask a x)
  | 0, b, x => by simp [lit]
  | a + 1, b, x => by
    have e : a + 1 + b = (a + b) + 1 := by omega
    rw [e]
    show lit mask (a + b) (lf mask x) = lit mask b (lit mask a (lf mask x))
    exact lit_add mask a b _
def orbit (mask : Nat) : Nat → Nat → List Nat
  | 0, _ => []
  | n + 1, x => x :: orbit mask n (lf mask x)
theorem orbit_mem (mask : Nat) : ∀ (n x y : Nat), y ∈ orbit mask n x → ∃ k, k < n ∧ lit mask k x = y
  | 0, _, _, h => by simp [orbit] at h
  | n + 1, x, y, h => by
    rcases List.mem_cons.mp h with rfl | h
    · exact ⟨0, by omega, rfl⟩
    · obtain ⟨k, hk, e⟩ := orbit_mem mask n _ y h
      exact ⟨k + 1, by omega, e⟩
/-- the masks of a table that did not give way, as far as they are met here -/
def masks : List Nat := [7, 15, 31, 63, 127, 255, 511]
def goodMask (mask : Nat) : Bool := (List.range (mask + 1)).all (fun j => (orbit mask (mask + 1) 0).contains j) && (lit mask (mask + 1) 0 == 0)
theorem goodMask_of {mask : Nat} (h : mask ∈ masks) : goodMask mask = true := by
  simp only [masks, List.mem_cons, List.not_mem_nil, or_false] at h
  rcases h with rfl | rfl | rfl | rfl | rfl | rfl | rfl <;> decide +kernel
theorem covers {mask : Nat} (h : mask ∈ masks) {a j : Nat} (ha : a ≤ mask) (hj : j ≤ mask) : ∃ n, n ≤ mask ∧ lit mask n a = j := by
  have g := goodMask_of h
  simp only [goodMask, Bool.and_eq_true, List.all_eq_true, List.mem_range, List.contains_iff_mem, beq_iff_eq] at g
  obtain ⟨g1, g2⟩ := g
  obtain ⟨p, hp, ep⟩ := orbit_mem _ _ _ _ (g1 a (by omega))
  obtain ⟨q, hq, eq⟩ := orbit_mem _ _ _ _ (g1 j (by omega))
  rcases Nat.lt_or_ge q p with c | c
  · refine ⟨mask + 1 - p + q, by omega, ?_⟩
    rw [← ep, ← lit_add, show p + (mask + 1 - p + q) = mask + 1 + q by omega, lit_add, g2]
    exact eq
  · refine ⟨q - p, by omega, ?_⟩
    rw [← ep, ← lit_add, show p + (q - p) = q by omega]
    exact eq

def lseq (mask : Nat) : Nat → Nat × Nat → Nat × Nat
  | 0, x => x
  | n + 1, x => lseq mask n (SetTable.leap mask x.1 x.2)
theorem lseq_perturb (mask : Nat) : ∀ (n i p : Nat), (lseq mask n (i, p)).2 = p / 32 ^ n
  | 0, _, p => by simp [lseq]
  | n + 1, i, p => by
    show (lseq mask n (SetTable.leap mask i p)).2 = _
    rw [show SetTable.leap mask i p = ((i * 5 + 1 + p / 32) % (mask + 1), p / 32) from rfl, lseq_perturb mask n, Nat.div_div_eq_div_mul, Nat.pow_succ, Nat.mul_comm]
theorem lseq_le (mask : Nat) : ∀ (n i p : Nat), i ≤ mask → (lseq mask n (i, p)).1 ≤ mask
  | 0, _, _, h => h
  | n + 1, i, p, _ => by
    show (lseq mask n (SetTable.leap mask i p)).1 ≤ mask
    exact lseq_le mask n _ _ (by
      have := Nat.mod_lt (i * 5 + 1 + p / 32) (show 0 < mask + 1 by omega)
      omega)
theorem lseq_zero (mask : Nat) : ∀ (n i : Nat), lseq mask n (i, 0) = (lit mask n i, 0)
  | 0, _ => rfl
  | n + 1, i => by
    show lseq mask n (SetTable.leap mask i 0) = _
    rw [show SetTable.leap mask i 0 = (lf mask i, 0) by simp [SetTable.leap, lf], lseq_zero mask n]
    rfl
theorem lseq_add (mask : Nat) : ∀ (a b : Nat) (x : Nat × Nat), lseq mask (a + b) x = lseq mask b (lseq mask a x)
  | 0, b, x => by simp [lseq]
  | a + 1, b, x => by
    have e : a + 1 + b = (a + b) + 1 := by omega
    rw [e]
    exact lseq_add mask a b _
theorem free_none {mask : Nat} {owner : Array (Option Nat)} : ∀ (fuel i p : Nat), SetTable.layClean.free mask owner fuel i p = none → ∀ n, n < fuel → (owner.getD (lseq mask n (i, p)).1 (some 0)).isNone = false := by
  intro fuel
  induction fuel with
  | zero => intro i p _ n hn; omega
  | succ f ih =>
    intro i p e n hn
    unfold SetTable.layClean.free at e
    split at e
    · cases e
    · rename_i hf
      cases n with
      | zero =>
        have h0 := List.find?_eq_none.mp hf 0 (by rw [List.mem_range]; unfold SetTable.runEnd; split <;> omega)
        simp only [Nat.add_zero] at h0
        show (owner.getD i (some 0)).isNone = false
        cases hq : (owner.getD i (some 0)).isNone with
        | true => exact absurd hq (by simpa using h0)
        | false => rfl
      | succ n => exact ih _ _ e n (by omega)
theorem free_some {mask : Nat} {owner : Array (Option Nat)} : ∀ (fuel i p j : Nat), SetTable.layClean.free mask owner fuel i p = some j → owner.getD j (some 0) = none := by
  intro fuel
  induction fuel with
  | zero => intro i p j e; cases e
  | succ f ih =>
    intro i p j e
    unfold SetTable.layClean.free at e
    split at e
    · rename_i k hk
      cases e
      have := List.find?_some hk
      simpa using this
    · exact ih _ _ _ e
theorem free_finds {mask : Nat} (h : mask ∈ masks) {owner : Array (Option Nat)} {j : Nat} (hj : j ≤ mask) (hf : owner.getD j (some 0) = none) {i p : Nat} (hi : i ≤ mask) (hp : p < 2 ^ 64) :
    ∃ k, SetTable.layClean.free mask owner (SetTable.turns mask) i p = some k := by
  cases e : SetTable.layClean.free mask owner (SetTable.turns mask) i p with
  | some k => exact ⟨k, rfl⟩
  | none =>
    exfalso
    have hz : (lseq mask 13 (i, p)).2 = 0 := by
      rw [lseq_perturb]
      exact Nat.div_eq_of_lt (Nat.lt_of_lt_of_le hp (by decide))
    obtain ⟨n, hn, en⟩ := covers h (lseq_le mask 13 i p hi) hj
    have h2 := free_none _ _ _ e (13 + n) (by unfold SetTable.turns; omega)
    rw [lseq_add] at h2
    have e2 : lseq mask 13 (i, p) = ((lseq mask 13 (i, p)).1, 0) := by rw [← hz]
    rw [e2, lseq_zero, en, hf] at h2
    cases h2
end WS


set_option linter.all false
set_option maxRecDepth 100000
namespace WS
open PySem

theorem set_perm {k : Nat} : ∀ (l : List (Option Nat)) (j : Nat), l[j]? = some none → ((l.set j (some k)).filterMap id).Perm (k :: l.filterMap id)
  | [], _, h => by simp at h
  | none :: r, 0, _ => by simp
  | some a :: r, 0, h => by simp at h
  | o :: r, j + 1, h => by
    have ih := set_perm (k := k) r j (by simpa using h)
    show (List.filterMap id (o :: r.set j (some k))).Perm (k :: List.filterMap id (o :: r))
    cases o with
    | none => simpa using ih
    | some a =>
      simp only [List.filterMap_cons, id]
      exact (ih.cons a).trans (.swap ..)

theorem all_some {l : List (Option Nat)} (h : ∀ j, j < l.length → l[j]? ≠ some none) : (l.filterMap id).length = l.length := by
  induction l with
  | nil => rfl
  | cons o r ih =>
    have h0 := h 0 (by simp)
    cases o with
    | none => simp at h0
    | some a =>
      simp only [List.filterMap_cons, id, List.length_cons]
      rw [ih fun j hj => by simpa using h (j + 1) (by simpa using hj)]

theorem bits_lt (h : Int) : SetTable.bits h < 2 ^ 64 := by
  unfold SetTable.bits
  have h1 : h % (2 ^ 64 : Int) < 2 ^ 64 := Int.emod_lt_of_pos _ (by decide)
  have h0 : 0 ≤ h % (2 ^ 64 : Int) := Int.emod_nonneg _ (by decide)
  omega

abbrev layStep (mask : Nat) (acc : Option (Array (Option Nat) × Nat)) (h : Int) : Option (Array (Option Nat) × Nat) := do
    let (owner, k) ← acc
    let j ← SetTable.layClean.free mask owner (SetTable.turns mask) (SetTable.bits h % (mask + 1)) (SetTable.bits h)
    pure (owner.setIfInBounds j (some k), k + 1)

theorem lay_fold {mask : Nat} (h : mask ∈ masks) : ∀ (l : List Int) (owner : Array (Option Nat)) (k : Nat), owner.size = mask + 1 → (owner.toList.filterMap id).Perm (List.range k) → k + l.length ≤ mask + 1 →
    ∃ owner', l.foldl (layStep mask) (some (owner, k)) = some (owner', k + l.length) ∧ owner'.size = mask + 1 ∧ (owner'.toList.filterMap id).Perm (List.range (k + l.length))
  | [], owner, k, hs, hp, _ => ⟨owner, by simp, hs, by simpa using hp⟩
  | x :: l, owner, k, hs, hp, hn => by
    have hx : ∃ j, j ≤ mask ∧ owner.getD j (some 0) = none := by
      apply Classical.byContradiction
      intro hc
      have := all_some (l := owner.toList) fun j hj e => hc ⟨j, by simp at hj; omega, by
        rw [Array.getElem?_toList] at e
        simp [Array.getD_eq_getD_getElem?, e]⟩
      rw [hp.length_eq, List.length_range, Array.length_toList, hs] at this
      simp at hn; omega
    obtain ⟨j, hj, hf⟩ := hx
    obtain ⟨q, hq⟩ := free_finds h hj hf (i := SetTable.bits x % (mask + 1)) (p := SetTable.bits x) (by have := Nat.mod_lt (SetTable.bits x) (show 0 < mask + 1 by omega); omega) (bits_lt x)
    have hqn := free_some _ _ _ _ hq
    have hq2 : owner.toList[q]? = some none := by
      rw [Array.getElem?_toList]
      rw [Array.getD_eq_getD_getElem?] at hqn
      cases e : owner[q]? with
      | none => rw [e] at hqn; simp at hqn
      | some o => rw [e] at hqn; simp at hqn; rw [hqn]
    have e1 : layStep mask (some (owner, k)) x = some (owner.setIfInBounds q (some k), k + 1) := by
      show (SetTable.layClean.free mask owner (SetTable.turns mask) (SetTable.bits x % (mask + 1)) (SetTable.bits x)).bind _ = _
      rw [hq]; rfl
    have hl : k + (x :: l).length = (k + 1) + l.length := by simp; omega
    obtain ⟨o', a1, a2, a3⟩ := lay_fold h l (owner.setIfInBounds q (some k)) (k + 1) (by simp [hs]) (by
      rw [Array.toList_setIfInBounds]
      refine (set_perm _ _ hq2).trans ?_
      rw [List.range_succ]
      exact (hp.cons k).trans (List.perm_append_singleton k _).symm) (by omega)
    refine ⟨o', ?_, a2, by rw [hl]; exact a3⟩
    rw [List.foldl_cons, e1, a1, hl]

theorem filterMap_rep (n : Nat) : (List.replicate n (none : Option Nat)).filterMap id = [] := by
  induction n with
  | zero => rfl
  | succ n ih => rw [List.replicate_succ]; simpa using ih

theorem layClean_ok {mask : Nat} (h : mask ∈ masks) (hashes : Array Int) (hn : hashes.size ≤ mask + 1) : ∃ owner, SetTable.layClean mask hashes = some owner ∧ owner.size = mask + 1 ∧ (owner.toList.filterMap id).Perm (List.range hashes.size) := by
  obtain ⟨o, a1, a2, a3⟩ := lay_fold h hashes.toList (Array.replicate (mask + 1) none) 0 (by simp) (by rw [Array.toList_replicate, filterMap_rep]; exact .refl _) (by simpa using hn)
  refine ⟨o, ?_, a2, by simpa using a3⟩
  have e : SetTable.layClean mask hashes = (hashes.foldl (layStep mask) (some (Array.replicate (mask + 1) none, 0))).map (·.1) := rfl
  rw [e, ← Array.foldl_toList, a1]
  rfl

theorem laid_ok {mask finger moves : Nat} {led plain : Bool} (h : mask ∈ masks) (hashes : Array Int) (hn : hashes.size ≤ mask) :
    ∃ t order, SetTable.laid mask finger moves led plain hashes = some (t, order) ∧ order.toList.Perm (List.range hashes.size) ∧ t.fits hashes.size = true := by
  obtain ⟨o, a1, a2, a3⟩ := layClean_ok h hashes (by omega)
  unfold SetTable.laid
  rw [a1]
  have e2 : (((List.range (mask + 1)).filterMap fun j => (o.getD j none).map (j, ·)).map (·.2)) = o.toList.filterMap id := by
    rw [List.map_filterMap, ← filterMap_getElem?_range o, List.filterMap_filterMap, a2]
    congr 1
    funext j
    rw [Array.getD_eq_getD_getElem?]
    cases o[j]? with
    | none => rfl
    | some x => cases x <;> rfl
  refine ⟨_, _, rfl, ?_, ?_⟩
  · show List.Perm (List.toArray _).toList _
    rw [List.toList_toArray, e2]; exact a3
  · have hl : (((List.range (mask + 1)).filterMap fun j => (o.getD j none).map (j, ·)).map (·.1)).length = hashes.size := by
      have := congrArg List.length e2
      rw [List.length_map] at this ⊢
      rw [this, a3.length_eq, List.length_range]
    simp only [SetTable.fits, SetTable.fill, List.size_toArray, hl, Bool.and_eq_true, beq_self_eq_true, true_and, decide_eq_true_eq]
    simpa using hn

theorem sizeAbove_ok {n : Nat} (h : n < 512) : SetTable.sizeAbove n - 1 ∈ masks ∧ n < SetTable.sizeAbove n ∧ SetTable.sizeAbove n ≤ 512 := by
  have key : ∀ n < 512, (masks.contains (SetTable.sizeAbove n - 1) && decide (n < SetTable.sizeAbove n) && decide (SetTable.sizeAbove n ≤ 512)) = true := by decide +kernel
  have := key n h
  simp only [Bool.and_eq_true, List.contains_iff_mem, decide_eq_true_eq] at this
  exact ⟨this.1.1, this.1.2, this.2⟩

/-! ### a set of ints, its members in the order of its entries -/
section
variable (prog : Program) (w : World)
def Els (es : List (Int × Value)) (ks : List Int) : Prop := Paired (fun (e : Int × Value) k => e.1 = hashInt k ∧ ∃ t, e.2 = Value.int k t) es ks
def ledW : Bool := !w.params.followText "set-order"
structure IsSet (h : Heap) (a : Addr) (es : Array (Int × Value)) (ep : Nat) (t : SetTable) (ks : List Int) : Prop where
  ob : h.get? a = some { cls := .type "set", dict := none, data := .set es ep t, slots := #[] }
  els : Els es.toList ks
  nd : ks.Nodup
  sz : es.size < scanBound
  fit : t.fits es.size = true
  led : t.led = ledW w
  ris : Ris t.place
def IntSet (h : Heap) (a : Addr) (ks : List Int) : Prop := ∃ es ep t, IsSet w h a es ep t ks
end
section
variable {prog : Program} {w : World} {A : Around} {E : Value → Shared → Prop} {s : Shared} {h h' : Heap} {a : Addr} {es : Array (Int × Value)} {ep : Nat} {t : SetTable} {ks : List Int}
theorem Els.length {l : List (Int × Value)} (h : Els l ks) : l.length = ks.length := Paired.length h
theorem Els.elems : ∀ {l : List (Int × Value)} {ks : List Int}, Els l ks → ElemsOf (intKind prog w) l
  | _, _, .nil => fun e he => by cases he
  | _, _, .cons (a := e0) (b := k) h t => fun e he => by
    rcases List.mem_cons.mp he with rfl | he
    · obtain ⟨h1, tk, h2⟩ := h
      exact ⟨⟨k, by rw [h2]; simp [intKind, Value.isInt], h1⟩, by rw [h2]; rfl⟩
    · exact Els.elems t e he
theorem Els.get : ∀ {l : List (Int × Value)} {ks : List Int} {i : Nat} {e : Int × Value}, Els l ks → l[i]? = some e → ∃ k, ks[i]? = some k ∧ e.1 = hashInt k ∧ ∃ t, e.2 = Value.int k t
  | _, _, _, _, .nil, h => by simp at h
  | _, _, 0, e, .cons (b := k) h _, he => by simp at he; subst he; exact ⟨k, rfl, h⟩
  | _, _, i + 1, e, .cons _ t, he => by simpa using Els.get (i := i) t (by simpa using he)
theorem Els.perm : ∀ {l l' : List (Int × Value)}, l'.Perm l → ∀ {ks : List Int}, Els l ks → ∃ ks', Els l' ks' ∧ ks'.Perm ks := by
  intro l l' p
  induction p with
  | nil => intro ks h; exact ⟨ks, h, .refl _⟩
  | cons x p ih =>
    intro ks h
    cases h with
    | cons h t => obtain ⟨ks', a, b⟩ := ih t; exact ⟨_ :: ks', .cons h a, b.cons _⟩
  | swap x y l =>
    intro ks h
    cases h with
    | cons h t => cases t with | cons h2 t => exact ⟨_, .cons h2 (.cons h t), .swap ..⟩
  | trans p q ih1 ih2 =>
    intro ks h
    obtain ⟨k1, a1, b1⟩ := ih2 h
    obtain ⟨k2, a2, b2⟩ := ih1 a1
    exact ⟨k2, a2, b2.trans b1⟩
theorem IsSet.lt (x : IsSet w h a es ep t ks) : a < h.objs.size := Heap.lt_size x.ob
theorem IsSet.at' (x : IsSet w h a es ep t ks) (e : ∀ o, h.get? a = some o → h'.get? a = some o) : IsSet w h' a es ep t ks := ⟨e _ x.ob, x.els, x.nd, x.sz, x.fit, x.led, x.ris⟩
theorem IntSet.at' (x : IntSet w h a ks) (e : ∀ o, h.get? a = some o → h'.get? a = some o) : IntSet w h' a ks := let ⟨es, ep, t, y⟩ := x; ⟨es, ep, t, y.at' e⟩
theorem IsSet.len (x : IsSet w h a es ep t ks) : es.size = ks.length := by rw [← Array.length_toList]; exact x.els.length
theorem IsSet.typeIs (x : IsSet w s.heap a es ep t ks) : s.TypeIs (.ref a) "set" := ⟨_, x.ob, rfl⟩

theorem state_of {Q : (Array (Int × Value) × Nat × SetTable) → Shared → Prop} (x : IsSet w s.heap a es ep t ks) (q : Q (es, ep, t) s) : wpAny (model prog w) A (setState a) Q E s := wpAny_setState_of x.ob rfl x.fit q
theorem epoch_of {Q : Nat → Shared → Prop} (x : IsSet w s.heap a es ep t ks) (q : Q ep s) : wpAny (model prog w) A (setEpoch a) Q E s := wpAny_setEpoch_of x.ob rfl x.fit q
theorem entries_of {Q : Array (Int × Value) → Shared → Prop} (x : IsSet w s.heap a es ep t ks) (q : Q es s) : wpAny (model prog w) A (setEntries a) Q E s := wpAny_setEntries_of x.ob rfl x.fit q

theorem find_of {k : Int} {tk : Tok} {Q : Option Nat → Shared → Prop} (x : IsSet w s.heap a es ep t ks) (q0 : k ∉ ks → Q none s) (q1 : ∀ i, ks[i]? = some k → Q (some i) s) :
    wpAny (model prog w) A (setFind a (.int k tk) (hashInt k)) Q E s := by
  have hel : ElemsOf (intKind prog w) es.toList := x.els.elems
  have hkey : (intKind prog w).is k (.int k tk) = true := by simp [intKind, Value.isInt]
  show wpAny _ _ (setFind a (.int k tk) ((intKind prog w).hash k)) _ _ _
  unfold setFind setFindIn
  refine wpAny_bind (state_of x ?_)
  dsimp only
  rw [byScan_of (knd := intKind prog w) (x := Value.int k tk) rfl x.sz hel]
  simp only [↓reduceIte]
  refine wpAny_bind (wpAny_rule ?_)
  refine wpAny_bind (wpAny_setScan_of hkey x.ob rfl x.fit hel ?_)
  cases hr : List.findIdx? (fun e => (intKind prog w).is k e.2) es.toList with
  | none =>
    dsimp only
    refine wpAny_pure (q0 fun hk => ?_)
    obtain ⟨i, hi, hki⟩ := List.mem_iff_getElem.mp hk
    have hi2 : i < es.toList.length := by rw [x.els.length]; exact hi
    obtain ⟨k', e1, _, tk', e2⟩ := x.els.get (List.getElem?_eq_getElem hi2)
    rw [List.getElem?_eq_getElem hi, hki] at e1
    cases e1
    have := List.findIdx?_eq_none_iff.mp hr _ (List.getElem_mem hi2)
    rw [e2] at this
    simp [intKind, Value.isInt] at this
  | some j =>
    dsimp only
    obtain ⟨hj, hpj, _⟩ := List.findIdx?_eq_some_iff_getElem.mp hr
    obtain ⟨k', e1, _, tk', e2⟩ := x.els.get (List.getElem?_eq_getElem hj)
    rw [e2] at hpj
    have : k' = k := by simp [intKind, Value.isInt] at hpj; exact hpj
    subst this
    exact wpAny_pure (q1 _ (by simpa using e1))
end
end WS


set_option linter.all false
set_option maxRecDepth 100000
namespace WS
open PySem
section
variable {prog : Program} {w : World} {A : Around} {E : Value → Shared → Prop} {s : Shared} {h h' : Heap} {a : Addr} {es : Array (Int × Value)} {ep : Nat} {t : SetTable} {ks : List Int}

theorem store_of {es' : Array (Int × Value)} {t' : SetTable} {Q : Unit → Shared → Prop} (x : IsSet w s.heap a es ep t ks) (hz : es'.size < scanBound)
    (q : ∀ h', h'.get? a = some { cls := .type "set", dict := none, data := .set es' (ep + 1) t', slots := #[] } → Heap.SameBut a s.heap h' → Q () { s with heap := h' }) :
    wpAny (model prog w) A (storeSet a es' t') Q E s := by
  refine wpAny_storeSet_of x.ob rfl ?_ (fits_of_scanBound hz)
  refine q _ ?_ (Heap.SameBut.update s.heap a (Obj.putSet es' t'))
  have := Heap.get?_update_self (Obj.putSet es' t') x.ob (by rw [putSet_of es' t' rfl]; rfl)
  rw [putSet_of es' t' rfl] at this
  exact this

theorem nodup_snoc {k : Int} (h : ks.Nodup) (hk : k ∉ ks) : (ks ++ [k]).Nodup := by
  rw [List.nodup_append]
  exact ⟨h, by simp, fun a ha b hb e => by simp at hb; subst hb; subst e; exact hk ha⟩

theorem Els.snoc {l : List (Int × Value)} {k : Int} {tk : Tok} (h : Els l ks) : Els (l ++ [(hashInt k, Value.int k tk)]) (ks ++ [k]) := Paired.snoc h ⟨rfl, tk, rfl⟩

theorem add_of {k : Int} {tk : Tok} {Q : Bool → Shared → Prop} (x : IsSet w s.heap a es ep t ks) (hroom : ks.length + 1 < scanBound)
    (q0 : k ∈ ks → Q false s) (q1 : k ∉ ks → ∀ h' ks', Heap.SameBut a s.heap h' → IntSet w h' a ks' → ks'.Perm (ks ++ [k]) → Q true { s with heap := h' }) :
    wpAny (model prog w) A (setAddHashed a (.int k tk) (hashInt k)) Q E s := by
  have hel : ElemsOf (intKind prog w) es.toList := x.els.elems
  have hkey : (intKind prog w).is k (.int k tk) = true := by simp [intKind, Value.isInt]
  show wpAny _ _ (setAddHashed a (.int k tk) ((intKind prog w).hash k)) _ _ _
  unfold setAddHashed setAddHashedIn
  refine wpAny_holding (wpAny_bind (state_of x ?_))
  dsimp only
  rw [byScan_of (knd := intKind prog w) (x := Value.int k tk) rfl x.sz hel]
  simp only [↓reduceIte]
  unfold setAddByScan
  refine wpAny_bind ?_
  refine wpAny_bind (wpAny_rule ?_)
  refine wpAny_bind (wpAny_setScan_of hkey x.ob rfl x.fit hel ?_)
  cases hr : List.findIdx? (fun e => (intKind prog w).is k e.2) es.toList with
  | some j =>
    dsimp only
    obtain ⟨hj, hpj, _⟩ := List.findIdx?_eq_some_iff_getElem.mp hr
    obtain ⟨k', e1, _, tk', e2⟩ := x.els.get (List.getElem?_eq_getElem hj)
    rw [e2] at hpj
    have : k' = k := by simp [intKind, Value.isInt] at hpj; exact hpj
    subst this
    exact wpAny_pure (wpAny_pure (q0 (List.mem_of_getElem? e1)))
  | none =>
    dsimp only
    have hk : k ∉ ks := fun hk => by
      obtain ⟨i, hi, hki⟩ := List.mem_iff_getElem.mp hk
      have hi2 : i < es.toList.length := by rw [x.els.length]; exact hi
      obtain ⟨k', e1, _, tk', e2⟩ := x.els.get (List.getElem?_eq_getElem hi2)
      rw [List.getElem?_eq_getElem hi, hki] at e1
      cases e1
      have := List.findIdx?_eq_none_iff.mp hr _ (List.getElem_mem hi2)
      rw [e2] at this
      simp [intKind, Value.isInt] at this
    have hgw : ∀ (b : Bool) {s₁ : Shared} {Q' : Unit → Shared → Prop}, Q' () s₁ → wpAny (model prog w) A (match b with | true => rule "set.scan.the-table-gave-way" | false => pure ()) Q' E s₁ :=
      fun b s₁ Q' hq => by cases b <;> first | exact wpAny_pure hq | exact wpAny_rule hq
    have hperm := layNew_perm t es ((intKind prog w).hash k) (.int k tk)
    have hfits := layNew_fits t es ((intKind prog w).hash k) (.int k tk)
    have hris := layNew_ris t es ((intKind prog w).hash k) (.int k tk) x.ris
    generalize hL : layNew t es ((intKind prog w).hash k) (.int k tk) = L at hperm hfits hris ⊢
    obtain ⟨es1, t1, wasDummy, gave⟩ := L
    dsimp only at hperm hfits hris ⊢
    rw [Array.toList_push] at hperm
    obtain ⟨ks1, hE1, hp1⟩ := Els.perm hperm (x.els.snoc (k := k) (tk := tk))
    have hnd1 : ks1.Nodup := hp1.nodup_iff.mpr (nodup_snoc x.nd hk)
    have hsz1 : es1.size = ks.length + 1 := by rw [← Array.length_toList, hE1.length, hp1.length_eq, List.length_append]; rfl
    have hb1 : es1.size < scanBound := by rw [hsz1]; exact hroom
    refine wpAny_bind (hgw _ ?_)
    have hf1 : ∀ (c : Bool), ((if c = true then t1 else { t1 with plain := false }) : SetTable).fits es1.size = true ∧ ((if c = true then t1 else { t1 with plain := false }) : SetTable).led = ledW w ∧ Ris ((if c = true then t1 else { t1 with plain := false }) : SetTable).place := fun c => by
      have hl : t1.led = ledW w := hris.2.trans x.led
      cases c with
      | true => exact ⟨hfits, hl, hris.1⟩
      | false => exact ⟨SetTable.fits_plain_off hfits, hl, hris.1⟩
    have tail : ∀ (t2 : SetTable) (g : Bool → Sem Unit), (∀ (b : Bool) (s₁ : Shared) (Q' : Unit → Shared → Prop), Q' () s₁ → wpAny (model prog w) A (g b) Q' E s₁) → t2.fits es1.size = true → t2.led = ledW w → Ris t2.place →
        wpAny (model prog w) A (do
        storeSet a es1 t2
        if (!wasDummy && t2.tooFull) = true then do
            g (relayAll t2 es1 (SetTable.grown es1.size)).2.2
            storeSet a (relayAll t2 es1 (SetTable.grown es1.size)).1 (relayAll t2 es1 (SetTable.grown es1.size)).2.1
            pure (some true)
          else pure (some true)) (fun r s' => r = some true ∧ Q true s') E s := by
      intro t2 g hg f2 l2 r2
      refine wpAny_bind (store_of x hb1 fun h1 ho1 hs1 => ?_)
      have x1 : IsSet w h1 a es1 (ep + 1) t2 ks1 := ⟨ho1, hE1, hnd1, hb1, f2, l2, r2⟩
      split
      · have hp := relayAll_perm t2 es1 (SetTable.grown es1.size)
        have hfr := relayAll_fits t2 es1 (SetTable.grown es1.size)
        have hrr := relayAll_ris t2 es1 (SetTable.grown es1.size)
        generalize hRl : relayAll t2 es1 (SetTable.grown es1.size) = Rl at hp hfr hrr ⊢
        obtain ⟨es2, t3, gave2⟩ := Rl
        dsimp only at hp hfr hrr ⊢
        obtain ⟨ks2, hE2, hp2⟩ := Els.perm hp hE1
        have hsz2 : es2.size = es1.size := by rw [← Array.length_toList, hp.length_eq, Array.length_toList]
        refine wpAny_bind (hg _ _ _ ?_)
        refine wpAny_bind (store_of (s := { s with heap := h1 }) x1 (by rw [hsz2]; exact hb1) fun h2 ho2 hs2 => ?_)
        exact wpAny_pure ⟨rfl, q1 hk h2 ks2 (hs1.trans hs2) ⟨es2, _, t3, ho2, hE2, hp2.nodup_iff.mpr hnd1, by rw [hsz2]; exact hb1, hfr, hrr.2.trans l2, hrr.1⟩ (hp2.trans hp1)⟩
      · exact wpAny_pure ⟨rfl, q1 hk h1 ks1 hs1 ⟨es1, _, t2, x1⟩ hp1⟩
    split
    · refine wpAny_bind ?_
      rw [hashByValue_scannable 8 (x := Value.int k tk) rfl]
      refine wpAny_pure ?_
      refine wpAny_mono (tail _ _ ?_ (hf1 _).1 (hf1 _).2.1 (hf1 _).2.2) (fun r s' hr' => ?_) fun _ _ e => e
      · intro b s₁ Q' hq; cases b <;> first | exact wpAny_pure hq | exact wpAny_rule hq
      · obtain ⟨rfl, hr'⟩ := hr'
        exact wpAny_pure hr'
    · refine wpAny_bind (wpAny_pure ?_)
      simp only [↓reduceIte]
      refine wpAny_mono (tail t1 _ ?_ (hf1 true).1 (hf1 true).2.1 (hf1 true).2.2) (fun r s' hr' => ?_) fun _ _ e => e
      · intro b s₁ Q' hq; cases b <;> first | exact wpAny_pure hq | exact wpAny_rule hq
      · obtain ⟨rfl, hr'⟩ := hr'
        exact wpAny_pure hr'

theorem fresh_set {led : Bool} (hl : led = ledW w) (ho : h.get? a = some { cls := .type "set", dict := none, data := .set #[] 0 (.fresh 0 0 led), slots := #[] }) : IsSet w h a #[] 0 (.fresh 0 0 led) [] :=
  ⟨ho, .nil, List.nodup_nil, by decide, rfl, hl, List.Pairwise.nil⟩

theorem newSet_of {Q : Value → Shared → Prop}
    (q : (s.heap.push { cls := .type "set", dict := none, data := .set #[] 0 (.fresh 0 0 (ledW w)) }).get? s.heap.objs.size = some { cls := .type "set", dict := none, data := .set #[] 0 (.fresh 0 0 (ledW w)), slots := #[] } →
      Q (.ref s.heap.objs.size) { s with heap := s.heap.push { cls := .type "set", dict := none, data := .set #[] 0 (.fresh 0 0 (ledW w)) } }) :
    wpAny (model prog w) A (newSet (.type "set")) Q E s := by
  unfold newSet setsByText
  refine wpAny_bind (wpAny_bind (wpAny_askSetting (wpAny_pure ?_)))
  dsimp only
  simp only [newObj]
  exact wpAny_bind (wpAny_alloc (wpAny_pure (q (Heap.get?_push_size _ rfl))))

/-! ### walked, where nobody sees the order -/
theorem erase_perm {α : Type} : ∀ {l : List α} {i : Nat} (h : i < l.length), (l[i] :: l.eraseIdx i).Perm l
  | [], _, h => by simp at h
  | x :: r, 0, _ => by simp
  | x :: r, i + 1, h => by
    have ih := erase_perm (l := r) (i := i) (by simpa using h)
    simp only [List.getElem_cons_succ, List.eraseIdx_cons_succ]
    exact (List.Perm.swap ..).trans (ih.cons x)
theorem pick_go {α : Type} (next : Nat → Nat) : ∀ (fuel k : Nat) (left : List α) (out : Array α), left.length = fuel → ((pickOrder.go next fuel k left out).toList).Perm (out.toList ++ left)
  | 0, k, left, out, hl => by
    have : left = [] := List.length_eq_zero_iff.mp hl
    subst this
    simp [pickOrder.go]
  | n + 1, k, left, out, hl => by
    unfold pickOrder.go
    have hlt : next k % left.length < left.length := Nat.mod_lt _ (by omega)
    rw [List.getElem?_eq_getElem hlt]
    dsimp only
    refine (pick_go next n (k + 1) _ _ (by rw [List.length_eraseIdx_of_lt hlt]; omega)).trans ?_
    rw [Array.toList_push, List.append_assoc]
    refine List.Perm.append_left _ ?_
    exact erase_perm hlt
theorem pick_perm {α : Type} (next : Nat → Nat) (xs : Array α) : ((pickOrder next xs).toList).Perm xs.toList := by
  have := pick_go next xs.size 0 xs.toList #[] (by simp)
  simpa [pickOrder] using this


theorem setWalk_of {Q : Array (Int × Value) → Shared → Prop} (x : IsSet w s.heap a es ep t ks) (hc : ledW w = false ∨ t.plain = true ∨ es.size ≤ 1) (q : ∀ es', es'.toList.Perm es.toList → Q es' s) :
    wpAny (model prog w) A (setWalk a) Q E s := by
  unfold setWalk
  refine wpAny_bind (state_of x ?_)
  dsimp only
  refine wpAny_bind ?_
  unfold setsByText
  refine wpAny_bind (wpAny_askSetting (wpAny_pure ?_))
  show wpAny _ _ (if w.params.followText "set-order" = true then _ else _) _ _ _
  cases hb : w.params.followText "set-order" with
  | true =>
    rw [if_pos rfl]
    exact wpAny_bind (wpAny_askSetting (wpAny_pure (q _ (pick_perm _ _))))
  | false =>
    rw [if_neg Bool.false_ne_true]
    have hl : t.led = true := by rw [x.led]; unfold ledW; rw [hb]; rfl
    have hd : (!t.plain && decide (es.size > 1)) = false := by
      rcases hc with c | c | c
      · unfold ledW at c; rw [hb] at c; cases c
      · rw [c]; rfl
      · rw [decide_eq_false (by omega)]; simp
    show wpAny _ _ (if (!t.plain && decide (es.size > 1)) = true then _ else _) _ _ _
    rw [hd, if_neg Bool.false_ne_true]
    show wpAny _ _ ((if (!t.led && decide (es.size > 1)) = true then _ else _) >>= _) _ _ _
    rw [hl]
    simp only [Bool.not_true, Bool.false_and, Bool.false_eq_true, if_false]
    exact wpAny_bind (wpAny_pure (wpAny_pure (q es (.refl _))))
end
end WS


set_option linter.all false
set_option maxRecDepth 100000
namespace WS
open PySem
section
variable {prog : Program} {w : World} {A : Around} {E : Value → Shared → Prop} {s : Shared} {h h' : Heap} {a f : Addr} {es : Array (Int × Value)} {ep : Nat} {t : SetTable} {ks kf : List Int}

theorem forIn_arr {α β : Type} {M : Model} (f : α → β → Sem (ForInStep β)) (I : List α → β → Shared → Prop) (Q : β → Shared → Prop)
    (turn : ∀ x rest b s, I (x :: rest) b s → wpAny M A (f x b) (fun r s' => match r with | .yield b' => I rest b' s' | .done b' => Q b' s') E s)
    (fin : ∀ b s, I [] b s → Q b s) (xs : Array α) (b : β) (h : I xs.toList b s) : wpAny M A (forIn xs b f) Q E s := by
  rw [← Array.forIn_toList]
  exact wpAny_forIn_list f I Q turn fin _ b h
theorem Els.head_int {x : Int × Value} {r : List (Int × Value)} (h : Els (x :: r) ks) : ∃ k kr tk, ks = k :: kr ∧ Els r kr ∧ x = (hashInt k, Value.int k tk) := by
  cases h with
  | cons hx t =>
    obtain ⟨e1, tk, e2⟩ := hx
    exact ⟨_, _, tk, rfl, t, Prod.ext e1 e2⟩

theorem quiet_of {Q : Bool → Shared → Prop} : ∀ (l : List Addr), (∀ b ∈ l, ∃ kb, IntSet w s.heap b kb) → Q true s → wpAny (model prog w) A (setsQuiet l) Q E s := by
  intro l hl q
  unfold setsQuiet
  refine wpAny_bind ?_
  refine wpAny_forIn_list _ (fun rest b s' => s' = s ∧ b = ⟨none, ⟨⟩⟩ ∧ ∀ b ∈ rest, ∃ kb, IntSet w s.heap b kb) _ ?_ ?_ l _ ⟨rfl, rfl, hl⟩
  · rintro x rest b s' ⟨rfl, rfl, hr⟩
    obtain ⟨kb, es, ep, t, y⟩ := hr x List.mem_cons_self
    refine wpAny_bind (entries_of y ?_)
    refine wpAny_bind ?_
    refine forIn_arr _ (fun rest b s1 => s1 = s' ∧ b = ⟨none, ⟨⟩⟩ ∧ ∃ kr, Els rest kr) _ ?_ ?_ es _ ⟨rfl, rfl, _, y.els⟩
    · rintro x2 rest2 b2 s2 ⟨rfl, rfl, kr, hE⟩
      obtain ⟨k, kr', tk, _, hE', rfl⟩ := hE.head_int
      exact wpAny_pure ⟨rfl, rfl, _, hE'⟩
    · rintro b2 s2 ⟨rfl, rfl, _⟩
      exact wpAny_pure ⟨rfl, rfl, fun b hb => hr b (List.mem_cons_of_mem _ hb)⟩
  · rintro b s' ⟨rfl, rfl, _⟩
    exact wpAny_pure q

theorem walkUnseen_some {Q : Array (Int × Value) → Shared → Prop} {others : List Addr} (x : IsSet w s.heap a es ep t ks) (y : IntSet w s.heap f kf) (ho : ∀ b ∈ others, ∃ kb, IntSet w s.heap b kb)
    (q : ∀ es' h', es'.toList.Perm es.toList → Heap.SameBut f s.heap h' → IntSet w h' f kf → Q es' { s with heap := h' }) : wpAny (model prog w) A (setWalkUnseen a others (some f)) Q E s := by
  have q' : ∀ es', es'.toList.Perm es.toList → Q es' s := fun es' hp => q es' s.heap hp (Heap.SameBut.refl f s.heap) y
  unfold setWalkUnseen
  refine wpAny_bind (state_of x ?_)
  dsimp only
  refine wpAny_bind ?_
  unfold setsByText
  refine wpAny_bind (wpAny_askSetting (wpAny_pure ?_))
  show wpAny _ _ (if (w.params.followText "set-order" || (t.led && t.plain) || decide (es.size ≤ 1)) = true then _ else _) _ _ _
  split
  · rename_i hc
    simp only [Bool.or_eq_true, Bool.and_eq_true, decide_eq_true_eq] at hc
    refine setWalk_of x ?_ q'
    rcases hc with (c | c) | c
    · left; unfold ledW; rw [c]; rfl
    · exact .inr (.inl c.2)
    · exact .inr (.inr c)
  · refine wpAny_bind (quiet_of _ (fun b hb => ?_) ?_)
    · rcases List.mem_cons.mp hb with rfl | hb
      · exact ⟨_, _, _, _, x⟩
      · exact ho b hb
    · simp only [Bool.not_true, Bool.false_eq_true, if_false]
      refine wpAny_bind (wpAny_rule ?_)
      obtain ⟨ef, epf, tf, y'⟩ := y
      refine wpAny_bind (state_of y' ?_)
      dsimp only
      split
      · refine wpAny_bind (store_of y' y'.sz fun h1 ho1 hs1 => ?_)
        exact wpAny_pure (q es h1 (.refl _) hs1 ⟨ef, _, _, ho1, y'.els, y'.nd, y'.sz, y'.fit, (by show (tf.led && t.led) = _; rw [y'.led, x.led, Bool.and_self]), y'.ris⟩)
      · exact wpAny_pure (q' es (.refl _))

theorem walkUnseen_none {Q : Array (Int × Value) → Shared → Prop} {others : List Addr} (x : IsSet w s.heap a es ep t ks) (ho : ∀ b ∈ others, ∃ kb, IntSet w s.heap b kb)
    (q' : ∀ es', es'.toList.Perm es.toList → Q es' s) : wpAny (model prog w) A (setWalkUnseen a others none) Q E s := by
  unfold setWalkUnseen
  refine wpAny_bind (state_of x ?_)
  dsimp only
  refine wpAny_bind ?_
  unfold setsByText
  refine wpAny_bind (wpAny_askSetting (wpAny_pure ?_))
  show wpAny _ _ (if (w.params.followText "set-order" || (t.led && t.plain) || decide (es.size ≤ 1)) = true then _ else _) _ _ _
  split
  · rename_i hc
    simp only [Bool.or_eq_true, Bool.and_eq_true, decide_eq_true_eq] at hc
    refine setWalk_of x ?_ q'
    rcases hc with (c | c) | c
    · left; unfold ledW; rw [c]; rfl
    · exact .inr (.inl c.2)
    · exact .inr (.inr c)
  · refine wpAny_bind (quiet_of _ (fun b hb => ?_) ?_)
    · rcases List.mem_cons.mp hb with rfl | hb
      · exact ⟨_, _, _, _, x⟩
      · exact ho b hb
    · simp only [Bool.not_true, Bool.false_eq_true, if_false]
      refine wpAny_bind (wpAny_rule ?_)
      exact wpAny_pure (q' es (.refl _))

theorem sub_set_set : isSubtype (.type "set") (.type "set") = pure true := by rw [isSubtype_type]; kernel_rfl

theorem isAnySet_of {Q : Bool → Shared → Prop} (x : IsSet w s.heap a es ep t ks) (q : Q true s) : wpAny (model prog w) A (Builtin.Frozenset.isAnySet (.ref a)) Q E s := by
  unfold Builtin.Frozenset.isAnySet
  simp only [orM]
  refine wpAny_bind (wpAny_isInstance x.typeIs sub_set_set ?_)
  exact wpAny_pure q
theorem baseOf_of {Q : Value → Shared → Prop} (x : IsSet w s.heap a es ep t ks) (q : Q (.type "set") s) : wpAny (model prog w) A (Builtin.Frozenset.baseOf a) Q E s := by
  unfold Builtin.Frozenset.baseOf
  refine wpAny_bind (wpAny_isInstance x.typeIs sub_set_set ?_)
  exact wpAny_pure q
theorem sizeOf_of {Q : Nat → Shared → Prop} (x : IsSet w s.heap a es ep t ks) (q : Q ks.length s) : wpAny (model prog w) A (Builtin.Frozenset.sizeOf a) Q E s := by
  unfold Builtin.Frozenset.sizeOf
  exact wpAny_bind (entries_of x (wpAny_pure (by rw [x.len]; exact q)))
theorem unchanged_of {id : String} {Q : Unit → Shared → Prop} (x : IsSet w s.heap a es ep t ks) (q : Q () s) : wpAny (model prog w) A (Builtin.Frozenset.unchanged id a ep) Q E s := by
  unfold Builtin.Frozenset.unchanged
  refine wpAny_bind (epoch_of x ?_)
  simp only [bne_self_eq_false, Bool.false_eq_true, if_false]
  exact wpAny_pure q

/-- a loop over a set's members that puts some of them, by p, into another -/
theorem fill_loop {fn : Int × Value → PUnit → Sem (ForInStep PUnit)} {Q : PUnit → Shared → Prop} {es' : Array (Int × Value)} {ks' : List Int} {r : Addr} (p : Int → Bool) (hE : Els es'.toList ks') (hnd : ks'.Nodup)
    (turn : ∀ (k : Int) (tk : Tok) (s1 : Shared) (kr : List Int) (Q1 : ForInStep PUnit → Shared → Prop), k ∈ ks' → Heap.SameBut r s.heap s1.heap → s1 = { s with heap := s1.heap } → IntSet w s1.heap r kr → k ∉ kr → kr.length ≤ ks'.length →
      (p k = false → Q1 (.yield ⟨⟩) s1) → (p k = true → ∀ h' kr', Heap.SameBut r s1.heap h' → IntSet w h' r kr' → kr'.Perm (kr ++ [k]) → Q1 (.yield ⟨⟩) { s1 with heap := h' }) → wpAny (model prog w) A (fn (hashInt k, .int k tk) ⟨⟩) Q1 E s1)
    (h0 : IntSet w s.heap r []) (q : ∀ h' kr, Heap.SameBut r s.heap h' → IntSet w h' r kr → kr.Perm (ks'.filter p) → Q ⟨⟩ { s with heap := h' }) :
    wpAny (model prog w) A (forIn es' ⟨⟩ fn) Q E s := by
  refine forIn_arr _ (fun rest _ s1 => ∃ kt kr krest, ks' = kt ++ krest ∧ Els rest krest ∧ s1 = { s with heap := s1.heap } ∧ Heap.SameBut r s.heap s1.heap ∧ IntSet w s1.heap r kr ∧ kr.Perm (kt.filter p)) _ ?_ ?_ es' _
    ⟨[], [], ks', rfl, hE, rfl, Heap.SameBut.refl _ _, h0, .refl _⟩
  · rintro x rest b s1 ⟨kt, kr, krest, ek, hEr, es1, hsb, hI, hp⟩
    obtain ⟨k, krest', tk, rfl, hEr', rfl⟩ := hEr.head_int
    have hk : k ∈ ks' := by rw [ek]; simp
    have hkt : k ∉ kt := fun hm => by
      rw [ek] at hnd
      exact (List.nodup_append.mp hnd).2.2 k hm k (by simp) rfl
    refine turn k tk s1 kr _ hk hsb es1 hI (fun hm => hkt (List.mem_filter.mp (hp.mem_iff.mp hm)).1) ?_ (fun hf => ?_) (fun ht h' kr' hs' hI' hp' => ?_)
    · rw [hp.length_eq, ek, List.length_append]
      have := List.length_filter_le p kt
      omega
    · exact ⟨kt ++ [k], kr, krest', by rw [ek]; simp, hEr', es1, hsb, hI, by rw [List.filter_append]; simpa [hf] using hp⟩
    · refine ⟨kt ++ [k], kr', krest', by rw [ek]; simp, hEr', by rw [es1], hsb.trans hs', hI', ?_⟩
      rw [List.filter_append]
      simp only [List.filter_cons, ht, List.filter_nil, if_true]
      exact hp'.trans (hp.append_right _)
  · rintro b s1 ⟨kt, kr, krest, ek, hEr, es1, hsb, hI, hp⟩
    cases hEr
    rw [List.append_nil] at ek
    subst ek
    rw [es1]
    exact q _ kr hsb hI hp
end
end WS


set_option linter.all false
set_option maxRecDepth 100000
namespace WS
open PySem
section
variable {prog : Program} {w : World} {A : Around} {E : Value → Shared → Prop} {s : Shared} {h h' : Heap} {a b f : Addr} {es eo : Array (Int × Value)} {ep eq : Nat} {t to : SetTable} {ks ls kf : List Int}

theorem SameBut.fwd (x : Heap.SameBut a h h') {c : Addr} {o : Obj} (hc : c ≠ a) (e : h.get? c = some o) : h'.get? c = some o := by rw [x.2 c hc]; exact e

/-- of both -/
theorem inter_of {id : String} {Q : Value → Shared → Prop} (x : IsSet w s.heap a es ep t ks) (y : IsSet w s.heap b eo eq to ls) (hab : b ≠ a) (hks : ks.length ≤ 1000) (hls : ls.length ≤ 1000)
    (q : ∀ h' kr, (∀ c o, s.heap.get? c = some o → h'.get? c = some o) → IntSet w h' s.heap.objs.size kr → kr.Nodup → (∀ k, k ∈ kr ↔ k ∈ ks ∧ k ∈ ls) → Q (.ref s.heap.objs.size) { s with heap := h' }) :
    wpAny (model prog w) A (Builtin.Frozenset.intersection id a (.ref b)) Q E s := by
  unfold Builtin.Frozenset.intersection
  have hne : (Value.ref b == Value.ref a) = false := by simp [hab]
  rw [hne]
  simp only [Bool.false_eq_true, if_false]
  refine wpAny_bind (baseOf_of x ?_)
  refine wpAny_bind (newSet_of fun hr => ?_)
  generalize hr0 : s.heap.objs.size = r at hr q ⊢
  generalize hh1 : s.heap.push { cls := .type "set", dict := none, data := .set #[] 0 (.fresh 0 0 (ledW w)) } = h1 at hr ⊢
  have up : ∀ c o, s.heap.get? c = some o → h1.get? c = some o := fun c o e => by rw [← hh1]; exact Heap.get?_push_of_some _ e
  have z : IsSet w h1 r #[] 0 (.fresh 0 0 (ledW w)) [] := fresh_set rfl hr
  have x1 : IsSet w h1 a es ep t ks := x.at' fun o e => up _ o e
  have y1 : IsSet w h1 b eo eq to ls := y.at' fun o e => up _ o e
  have har : a ≠ r := by rw [← hr0]; exact Nat.ne_of_lt x.lt
  have hbr : b ≠ r := by rw [← hr0]; exact Nat.ne_of_lt y.lt
  refine wpAny_bind (m := Builtin.Frozenset.addrOf (Value.ref r)) (wpAny_pure ?_)
  refine wpAny_bind (wpAny_holding ?_)
  refine wpAny_bind (isAnySet_of y1 ?_)
  simp only [if_true]
  refine wpAny_bind (m := Builtin.Frozenset.addrOf (Value.ref b)) (wpAny_pure ?_)
  refine wpAny_bind (sizeOf_of y1 ?_)
  refine wpAny_bind (sizeOf_of x1 ?_)
  -- the larger is asked, the other walked
  have main : ∀ (c d : Addr) (ec ed : Array (Int × Value)) (pc pd : Nat) (tc td : SetTable) (kc kd : List Int), IsSet w h1 c ec pc tc kc → IsSet w h1 d ed pd td kd → kd.length ≤ 1000 → c ≠ r → d ≠ r →
      (∀ k, (k ∈ kc ∧ k ∈ kd) ↔ (k ∈ ks ∧ k ∈ ls)) →
      wpAny (model prog w) A (do
        let was ← setEpoch d
        for (h, x) in ← setWalkUnseen d [c, r] (some r) do
          holding [x] do
            if (← setFind c x h).isSome then
              let _ ← setAddHashed r x h
          Builtin.Frozenset.unchanged id d was) (fun _ s' => wpAny (model prog w) A (pure (Value.ref r)) Q E s') E { s with heap := h1 } := by
    intro c d ec ed pc pd tc td kc kd xc xd hkd hcr hdr hk
    refine wpAny_bind (epoch_of (s := { s with heap := h1 }) xd ?_)
    refine wpAny_bind (walkUnseen_some (s := { s with heap := h1 }) xd ⟨_, _, _, z⟩ (fun e he => ?_) fun es' h2 hp hs2 hz2 => ?_)
    · simp only [List.mem_cons, List.not_mem_nil, or_false] at he
      rcases he with rfl | rfl
      · exact ⟨_, _, _, _, xc⟩
      · exact ⟨_, _, _, _, z⟩
    · obtain ⟨kd', hE', hp'⟩ := Els.perm hp xd.els
      refine wpAny_bind ?_
      refine fill_loop (s := { s with heap := h2 }) (fun k => decide (k ∈ kc)) hE' (hp'.nodup_iff.mpr xd.nd) ?_ hz2 ?_
      · rintro k tk s1 kr Q1 hk1 hsb es1 hI hnk hlen q0 q1
        have xc1 : IsSet w s1.heap c ec pc tc kc := xc.at' fun o e => SameBut.fwd (hs2.trans hsb) hcr e
        have xd1 : IsSet w s1.heap d ed pd td kd := xd.at' fun o e => SameBut.fwd (hs2.trans hsb) hdr e
        obtain ⟨er, pr, tr, hI'⟩ := hI
        refine wpAny_bind (wpAny_holding ?_)
        refine wpAny_bind (find_of xc1 (fun hn => ?_) fun i hi => ?_)
        · simp only [Option.isSome_none, Bool.false_eq_true, if_false]
          refine wpAny_pure ?_
          refine wpAny_bind (unchanged_of xd1 (wpAny_pure (q0 ?_)))
          simpa using hn
        · simp only [Option.isSome_some, if_true]
          have hkc : k ∈ kc := List.mem_of_getElem? hi
          refine wpAny_bind (add_of hI' ?_ (fun hm => absurd hm hnk) fun _ h3 kr' hs3 hI3 hp3 => ?_)
          · have h3 := hp'.length_eq
            unfold scanBound
            omega
          · refine wpAny_pure ?_
            refine wpAny_bind (unchanged_of (s := { s1 with heap := h3 }) (xd1.at' fun o e => SameBut.fwd hs3 hdr e) (wpAny_pure (q1 (by simpa using hkc) h3 kr' hs3 hI3 hp3)))
      · intro h3 kr hs3 hI3 hp3
        refine wpAny_pure (wpAny_pure (q h3 kr (fun e o he => ?_) hI3 ?_ fun k => ?_))
        · exact SameBut.fwd (hs2.trans hs3) (by rw [← hr0]; exact Nat.ne_of_lt (Heap.lt_size he)) (up e o he)
        · obtain ⟨_, _, _, v⟩ := hI3; exact v.nd
        · rw [hp3.mem_iff, List.mem_filter, hp'.mem_iff, decide_eq_true_eq, ← hk k]
          exact ⟨fun ⟨u, v⟩ => ⟨v, u⟩, fun ⟨u, v⟩ => ⟨v, u⟩⟩
  by_cases hc : ls.length > ks.length
  · simp only [hc, if_true]
    exact main b a _ _ _ _ _ _ _ _ y1 x1 hks hbr har fun k => And.comm
  · simp only [hc, if_false]
    exact main a b _ _ _ _ _ _ _ _ x1 y1 hls har hbr fun k => Iff.rfl

theorem setRelay_eq (a : Addr) (wanted : Nat) : setRelay a wanted = (do
    let (es, _, t) ← setState a
    if SetTable.sizeAbove wanted > sizeLine then unsupported "set:memory"
    let p ← (match t.relaid (es.map (·.1)) wanted with
      | some (t, order) => (do
        let es' := order.filterMap (es[·]?)
        if es'.size != es.size then unsupported "internal:set-table-lost-an-element"
        pure (es', t))
      | none => unsupported "internal:set-table-without-room")
    storeSet a p.1 p.2) := by
  unfold setRelay
  congr 1
  funext x
  obtain ⟨es, ep, t⟩ := x
  dsimp only
  split
  · rfl
  · cases h : t.relaid (es.map (·.1)) wanted with
    | none => rfl
    | some q => rfl

theorem order_perm {order : Array Nat} {n : Nat} (es : Array (Int × Value)) (hn : n = es.size) (h : order.toList.Perm (List.range n)) : (order.filterMap (es[·]?)).toList.Perm es.toList := by
  subst hn
  rw [Array.toList_filterMap]
  exact (h.filterMap _).trans (by rw [filterMap_getElem?_range])

theorem relay_of {wanted : Nat} {Q : Unit → Shared → Prop} (x : IsSet w s.heap a es ep t ks) (h1 : es.size ≤ wanted) (h2 : wanted < 512)
    (q : ∀ h' es' t' ks', Heap.SameBut a s.heap h' → IsSet w h' a es' (ep + 1) t' ks' → ks'.Perm ks → t'.mask ∈ masks → wanted ≤ t'.mask → Q () { s with heap := h' }) : wpAny (model prog w) A (setRelay a wanted) Q E s := by
  rw [setRelay_eq]
  obtain ⟨m1, m2, m3⟩ := sizeAbove_ok h2
  refine wpAny_bind (state_of x ?_)
  dsimp only
  have hz : ¬ SetTable.sizeAbove wanted > sizeLine := by rw [sizeLine_eq]; omega
  simp only [hz, if_false]
  obtain ⟨t', order, e, hp, hf⟩ := laid_ok (finger := t.finger) (moves := t.movedTo (SetTable.sizeAbove wanted - 1)) (led := t.led) (plain := t.plain) m1 (es.map (·.1)) (by rw [Array.size_map]; omega)
  have er : t.relaid (es.map (·.1)) wanted = some (t', order) := e
  rw [er]
  dsimp only
  rw [Array.size_map] at hp hf
  have hpe := order_perm es rfl hp
  have hsz : (order.filterMap (es[·]?)).size = es.size := by rw [← Array.length_toList, hpe.length_eq, Array.length_toList]
  rw [hsz]
  simp only [bne_self_eq_false, Bool.false_eq_true, if_false]
  refine wpAny_bind (wpAny_bind (wpAny_pure (wpAny_pure ?_)))
  obtain ⟨g1, g2, g3, g4, g5⟩ := laid_ris e
  obtain ⟨ks', hE, hk⟩ := Els.perm hpe x.els
  have hb : (order.filterMap (es[·]?)).size < scanBound := by rw [hsz]; exact x.sz
  refine store_of x hb fun h1' ho hs => ?_
  exact q _ _ t' ks' hs ⟨ho, hE, hk.nodup_iff.mpr x.nd, hb, by rw [hsz]; exact hf, by rw [g2]; exact x.led, g1⟩ hk (by rw [g3]; exact m1) (by rw [g3]; omega)

theorem place_size (x : IsSet w h a es ep t ks) : t.place.size = ks.length ∧ t.fill ≤ t.mask := by
  have := x.fit
  simp only [SetTable.fits, Bool.and_eq_true, beq_iff_eq, decide_eq_true_eq] at this
  exact ⟨this.1.trans x.len, this.2⟩

/-- room is made -/
theorem room_of {more : Nat} {Q : Unit → Shared → Prop} (x : IsSet w s.heap a es ep t ks) (hk : ks.length ≤ 100) (hm : more ≤ 100) (hmask : t.fill = 0 → t.mask ∈ masks)
    (q : ∀ h' es' ep' t' ks', Heap.SameBut a s.heap h' → IsSet w h' a es' ep' t' ks' → ks'.Perm ks → (t'.fill = 0 → t'.mask ∈ masks ∧ more ≤ t'.mask) → Q () { s with heap := h' }) : wpAny (model prog w) A (setRoomFor a more) Q E s := by
  unfold setRoomFor
  refine wpAny_bind (state_of x ?_)
  dsimp only
  obtain ⟨p1, p2⟩ := place_size x
  unfold SetTable.roomFor
  by_cases hc : (t.fill + more) * 5 ≥ t.mask * 3
  · rw [if_pos hc]
    refine relay_of x (by rw [x.len, p1]; omega) (by rw [p1]; omega) fun h' es' t' ks' hs x' hp m1 m2 => ?_
    exact q h' es' _ t' ks' hs x' hp fun _ => ⟨m1, by omega⟩
  · rw [if_neg hc]
    exact wpAny_pure (q s.heap es ep t ks (Heap.SameBut.refl _ _) x (.refl _) fun h0 => ⟨hmask h0, by rw [h0] at hc; omega⟩)

/-- o's members come to a's -/
theorem merge_of {each : Sem Unit} {Q : Unit → Shared → Prop} (x : IsSet w s.heap a es ep t ks) (y : IsSet w s.heap b eo eq to ls) (hab : a ≠ b) (hk : ks.length ≤ 100) (hl : ls.length ≤ 100) (hmask : t.fill = 0 → t.mask ∈ masks)
    (heach : ∀ (s1 : Shared) (Q1 : Unit → Shared → Prop), IsSet w s1.heap b eo eq to ls → Q1 () s1 → wpAny (model prog w) A each Q1 E s1)
    (q0 : ls = [] → Q () s) (q : ls ≠ [] → ∀ h' kr, Heap.SameBut a s.heap h' → IntSet w h' a kr → (∀ k, k ∈ kr ↔ k ∈ ks ∨ k ∈ ls) → Q () { s with heap := h' }) :
    wpAny (model prog w) A (setMerge a b each) Q E s := by
  unfold setMerge
  have hne : (a == b) = false := by simp [hab]
  rw [hne]
  simp only [Bool.false_eq_true, if_false]
  refine wpAny_bind (state_of y ?_)
  dsimp only
  by_cases he : ls = []
  · have : eo.isEmpty = true := by
      have := y.len
      rw [he] at this
      simpa using this
    rw [this]
    simp only [if_true]
    exact wpAny_pure (q0 he)
  · have hee : eo.isEmpty = false := by
      cases hc : eo.isEmpty with
      | false => rfl
      | true =>
        exfalso
        have h0 : eo.size = 0 := by simpa using hc
        rw [y.len] at h0
        exact he (List.length_eq_zero_iff.mp h0)
    rw [hee]
    simp only [Bool.false_eq_true, if_false]
    refine wpAny_bind (room_of x hk (by rw [y.len]; exact hl) hmask fun h1 es1 ep1 t1 ks1 hs1 x1 hp1 hm1 => ?_)
    have y1 : IsSet w h1 b eo eq to ls := y.at' fun o e => SameBut.fwd hs1 (Ne.symm hab) e
    refine wpAny_bind (state_of (s := { s with heap := h1 }) x1 ?_)
    dsimp only
    obtain ⟨p1, p2⟩ := place_size x1
    unfold SetTable.road
    by_cases hf : t1.fill = 0
    · have hks1 : ks1 = [] := by
        have : t1.place.size ≤ t1.fill := by unfold SetTable.fill; omega
        exact List.length_eq_zero_iff.mp (by omega)
      have hks : ks = [] := by
        have := hp1.length_eq
        rw [hks1] at this
        exact List.length_eq_zero_iff.mp this.symm
      rw [hf]
      simp only [bne_self_eq_false, Bool.false_eq_true, if_false]
      split
      · rename_i hroad
        split at hroad
        · refine store_of (s := { s with heap := h1 }) x1 y.sz fun h2 ho2 hs2 => ?_
          refine q he h2 ls (hs1.trans hs2) ⟨eo, _, _, ho2, y.els, y.nd, y.sz, y.fit, ?_, y.ris⟩ fun k => by rw [hks]; simp
          show (t1.led && to.led) = _
          rw [x1.led, y.led, Bool.and_self]
        · cases hroad
      · obtain ⟨m1, m2⟩ := hm1 hf
        obtain ⟨t', order, e, hp, hfit⟩ := laid_ok (finger := t1.finger) (moves := t1.moves) (led := t1.led && to.led) (plain := t1.plain && to.plain) m1 (eo.map (·.1)) (by rw [Array.size_map]; exact m2)
        rw [e]
        rw [Array.size_map] at hp hfit
        have hpe := order_perm eo rfl hp
        have hsz : (order.filterMap (eo[·]?)).size = eo.size := by rw [← Array.length_toList, hpe.length_eq, Array.length_toList]
        obtain ⟨g1, g2, g3, g4, g5⟩ := laid_ris e
        obtain ⟨kr, hE, hkr⟩ := Els.perm hpe y.els
        have hb : (order.filterMap (eo[·]?)).size < scanBound := by rw [hsz]; exact y.sz
        show wpAny _ _ ((do
          let es' := order.filterMap (eo[·]?)
          if es'.size != eo.size then unsupported "internal:set-table-lost-an-element"
          pure (es', t')) >>= fun p => storeSet a p.1 p.2) _ _ _
        dsimp only
        rw [hsz]
        simp only [bne_self_eq_false, Bool.false_eq_true, if_false]
        refine wpAny_bind (wpAny_bind (wpAny_pure (wpAny_pure ?_)))
        refine store_of (s := { s with heap := h1 }) x1 hb fun h2 ho2 hs2 => ?_
        exact q he h2 kr (hs1.trans hs2) ⟨_, _, t', ho2, hE, hkr.nodup_iff.mpr y.nd, hb, by rw [hsz]; exact hfit, by rw [g2, x1.led, y.led, Bool.and_self], g1⟩ fun k => by rw [hks, hkr.mem_iff]; simp
      · rename_i hroad
        split at hroad <;> cases hroad
    · have hf' : (t1.fill != 0) = true := by simpa using hf
      simp only [hf', if_true]
      refine wpAny_bind (walkUnseen_some (s := { s with heap := h1 }) y1 ⟨_, _, _, x1⟩ (fun e he => ?_) fun es' h2 hp2 hs2 hz2 => ?_)
      · simp only [List.mem_cons, List.not_mem_nil, or_false] at he
        subst he
        exact ⟨_, _, _, _, x1⟩
      · obtain ⟨ls', hE', hl'⟩ := Els.perm hp2 y.els
        refine wpAny_bind ?_
        refine forIn_arr _ (fun rest _ s1 => ∃ kt kr krest, ls' = kt ++ krest ∧ Els rest krest ∧ s1 = { s with heap := s1.heap } ∧ Heap.SameBut a h2 s1.heap ∧ IntSet w s1.heap a kr ∧ kr.length ≤ ks1.length + kt.length ∧ (∀ k, k ∈ kr ↔ k ∈ ks1 ∨ k ∈ kt)) _ ?_ ?_ es' _
          ⟨[], ks1, ls', rfl, hE', rfl, Heap.SameBut.refl _ _, hz2, by simp, fun k => by simp⟩
        · rintro u rest _ s1 ⟨kt, kr, krest, ek, hEr, es1', hsb, hI, hlen, hmem⟩
          obtain ⟨k, krest', tk, rfl, hEr', rfl⟩ := hEr.head_int
          have yv : IsSet w s1.heap b eo eq to ls := y1.at' fun o e => SameBut.fwd (hs2.trans hsb) (Ne.symm hab) e
          obtain ⟨er, pr, tr, hI'⟩ := hI
          have hb : kr.length + 1 < scanBound := by
            have h5 := hl'.length_eq
            rw [ek, List.length_append] at h5
            have h6 := hp1.length_eq
            unfold scanBound
            omega
          refine wpAny_bind (wpAny_holding (add_of hI' hb (fun hm => ?_) fun hnm h3 kr' hs3 hI3 hp3 => ?_))
          · refine wpAny_bind (heach _ _ yv ?_)
            refine wpAny_bind (state_of yv ?_)
            simp only [bne_self_eq_false, Bool.false_eq_true, if_false]
            refine wpAny_pure ⟨kt ++ [k], kr, krest', by rw [ek]; simp, hEr', es1', hsb, ⟨_, _, _, hI'⟩, by rw [List.length_append]; omega, fun k2 => ?_⟩
            rw [List.mem_append, List.mem_singleton, hmem k2]
            constructor
            · rintro (c | c)
              · exact .inl c
              · exact .inr (.inl c)
            · rintro (c | c | c)
              · exact .inl c
              · exact .inr c
              · subst c; exact (hmem k2).mp hm
          · have yv3 : IsSet w h3 b eo eq to ls := yv.at' fun o e => SameBut.fwd hs3 (Ne.symm hab) e
            refine wpAny_bind (heach { s1 with heap := h3 } _ yv3 ?_)
            refine wpAny_bind (state_of (s := { s1 with heap := h3 }) yv3 ?_)
            simp only [bne_self_eq_false, Bool.false_eq_true, if_false]
            refine wpAny_pure ⟨kt ++ [k], kr', krest', by rw [ek]; simp, hEr', by rw [es1'], hsb.trans hs3, hI3, by rw [hp3.length_eq, List.length_append, List.length_append]; simp; omega, fun k2 => ?_⟩
            rw [hp3.mem_iff, List.mem_append, List.mem_append, List.mem_singleton, hmem k2, or_assoc]
        · rintro _ s1 ⟨kt, kr, krest, ek, hEr, es1', hsb, hI, hlen, hmem⟩
          cases hEr
          rw [List.append_nil] at ek
          subst ek
          rw [es1']
          refine wpAny_pure (q he s1.heap kr (hs1.trans (hs2.trans hsb)) hI fun k => ?_)
          rw [hmem k, hp1.mem_iff, hl'.mem_iff]

/-- a copy -/
theorem copy_of {Q : Value → Shared → Prop} (x : IsSet w s.heap a es ep t ks) (hk : ks.length ≤ 100)
    (q : ∀ h' er pr tr kr, (∀ c o, s.heap.get? c = some o → h'.get? c = some o) → IsSet w h' s.heap.objs.size er pr tr kr → (tr.fill = 0 → tr.mask ∈ masks) → (∀ k, k ∈ kr ↔ k ∈ ks) → Q (.ref s.heap.objs.size) { s with heap := h' }) :
    wpAny (model prog w) A (Builtin.Frozenset.copyOf a) Q E s := by
  unfold Builtin.Frozenset.copyOf
  refine wpAny_bind (baseOf_of x ?_)
  refine wpAny_bind (newSet_of fun hr => ?_)
  generalize hr0 : s.heap.objs.size = r at hr q ⊢
  generalize hh1 : s.heap.push { cls := .type "set", dict := none, data := .set #[] 0 (.fresh 0 0 (ledW w)) } = h1 at hr ⊢
  have up : ∀ c o, s.heap.get? c = some o → h1.get? c = some o := fun c o e => by rw [← hh1]; exact Heap.get?_push_of_some _ e
  have z : IsSet w h1 r #[] 0 (.fresh 0 0 (ledW w)) [] := fresh_set rfl hr
  have x1 : IsSet w h1 a es ep t ks := x.at' fun o e => up _ o e
  have har : a ≠ r := by rw [← hr0]; exact Nat.ne_of_lt x.lt
  refine wpAny_bind (m := Builtin.Frozenset.addrOf (Value.ref r)) (wpAny_pure ?_)
  refine wpAny_bind (merge_of (s := { s with heap := h1 }) z x1 (Ne.symm har) (by simp) hk (fun _ => (by decide : (7 : Nat) ∈ masks)) (fun s1 Q1 _ q1 => wpAny_pure q1) (fun h0 => ?_) fun h0 h2 kr hs2 hI hm => ?_)
  · refine wpAny_pure (q h1 #[] 0 _ [] up z (fun _ => (by decide : (7 : Nat) ∈ masks)) fun k => ?_)
    rw [h0]
  · obtain ⟨er, pr, tr, hI'⟩ := hI
    refine wpAny_pure (q h2 er pr tr kr (fun c o e => SameBut.fwd hs2 (by rw [← hr0]; exact Nat.ne_of_lt (Heap.lt_size e)) (up c o e)) hI' (fun hf => ?_) fun k => by rw [hm k]; simp)
    exfalso
    obtain ⟨p1, p2⟩ := place_size hI'
    have h3 : kr.length = 0 := by unfold SetTable.fill at hf; omega
    have h4 := List.length_eq_zero_iff.mp h3
    cases hks : ks with
    | nil => exact h0 hks
    | cons k r =>
      have := (hm k).mpr (.inr (by rw [hks]; exact List.mem_cons_self))
      rw [h4] at this
      cases this

theorem length_le_of_subset : ∀ {kr ks : List Int}, kr.Nodup → (∀ k, k ∈ kr → k ∈ ks) → kr.length ≤ ks.length
  | [], _, _, _ => Nat.zero_le _
  | k :: r, ks, h, hs => by
    obtain ⟨h1, h2⟩ := List.nodup_cons.mp h
    have hk : k ∈ ks := hs k List.mem_cons_self
    have := length_le_of_subset (ks := ks.erase k) h2 fun y hy => (List.mem_erase_of_ne (fun e => h1 (by rw [← e]; exact hy))).mpr (hs y (List.mem_cons_of_mem _ hy))
    rw [List.length_erase_of_mem hk] at this
    have hp : 0 < ks.length := List.length_pos_of_mem hk
    simp only [List.length_cons]
    omega

theorem or_eq (a b : Value) : Builtin.«frozenset.__or__» ⟨[a, b], []⟩ = (do
    let (self, other) ← Builtin.Frozenset.slot1 "__or__" ⟨[a, b], []⟩
    let (l, r) := (self, other)
    if !(← Builtin.Frozenset.isAnySet l <&&> Builtin.Frozenset.isAnySet r) then rule "frozenset.__or__.declined"; return ← ret .notImplemented
    let l ← Builtin.Frozenset.addrOf l
    let v ← (do
      let result ← Builtin.Frozenset.copyOf l
      if r != .ref l then
        let ra ← Builtin.Frozenset.addrOf result
        holding [result] (Builtin.Frozenset.updateFrom "frozenset.__or__" ra r)
      return result)
    ret v) := rfl
theorem and_eq (a b : Value) : Builtin.«frozenset.__and__» ⟨[a, b], []⟩ = (do
    let (self, other) ← Builtin.Frozenset.slot1 "__and__" ⟨[a, b], []⟩
    let (l, r) := (self, other)
    if !(← Builtin.Frozenset.isAnySet l <&&> Builtin.Frozenset.isAnySet r) then rule "frozenset.__and__.declined"; return ← ret .notImplemented
    ret (← Builtin.Frozenset.intersection "frozenset.__and__" (← Builtin.Frozenset.addrOf l) r)) := rfl
theorem sub_eq (a b : Value) : Builtin.«frozenset.__sub__» ⟨[a, b], []⟩ = (do
    let (self, other) ← Builtin.Frozenset.slot1 "__sub__" ⟨[a, b], []⟩
    let (l, r) := (self, other)
    if !(← Builtin.Frozenset.isAnySet l <&&> Builtin.Frozenset.isAnySet r) then rule "frozenset.__sub__.declined"; return ← ret .notImplemented
    ret (← Builtin.Frozenset.difference "frozenset.__sub__" (← Builtin.Frozenset.addrOf l) r)) := rfl

/-- of one at least -/
theorem union_of {id : String} {Q : Value → Shared → Prop} (x : IsSet w s.heap a es ep t ks) (y : IsSet w s.heap b eo eq to ls) (hab : b ≠ a) (hk : ks.length ≤ 100) (hl : ls.length ≤ 100)
    (q : ∀ h' kr, (∀ c o, s.heap.get? c = some o → h'.get? c = some o) → IntSet w h' s.heap.objs.size kr → kr.Nodup → (∀ k, k ∈ kr ↔ k ∈ ks ∨ k ∈ ls) → Q (.ref s.heap.objs.size) { s with heap := h' }) :
    wpAny (model prog w) A (do
      let result ← Builtin.Frozenset.copyOf a
      if Value.ref b != .ref a then
        let ra ← Builtin.Frozenset.addrOf result
        holding [result] (Builtin.Frozenset.updateFrom id ra (.ref b))
      return result) Q E s := by
  refine wpAny_bind (copy_of x hk fun h1 er pr tr kr up xr hm hmem => ?_)
  generalize hr0 : s.heap.objs.size = r at xr q ⊢
  have hne : (Value.ref b != Value.ref a) = true := by simp [hab]
  have hbr : r ≠ b := by rw [← hr0]; exact Nat.ne_of_gt y.lt
  have y1 : IsSet w h1 b eo eq to ls := y.at' fun o e => up _ o e
  have hkr : kr.length ≤ 100 := Nat.le_trans (length_le_of_subset xr.nd fun k hk => (hmem k).mp hk) hk
  simp only [hne, if_true]
  refine wpAny_bind (m := Builtin.Frozenset.addrOf (Value.ref r)) (wpAny_pure ?_)
  refine wpAny_bind (wpAny_holding ?_)
  unfold Builtin.Frozenset.updateFrom
  refine wpAny_bind (isAnySet_of (s := { s with heap := h1 }) y1 ?_)
  simp only [if_true]
  refine wpAny_bind (m := Builtin.Frozenset.addrOf (Value.ref b)) (wpAny_pure ?_)
  unfold Builtin.Frozenset.merge
  refine wpAny_bind (epoch_of (s := { s with heap := h1 }) y1 ?_)
  refine merge_of (s := { s with heap := h1 }) xr y1 hbr hkr hl hm (fun s1 Q1 y2 q1 => unchanged_of y2 q1) (fun h0 => ?_) fun h0 h2 kr2 hs2 hI hm2 => ?_
  · refine wpAny_pure (q h1 kr up ⟨_, _, _, xr⟩ xr.nd fun k => ?_)
    rw [hmem k, h0]; simp
  · refine wpAny_pure (q h2 kr2 (fun c o e => SameBut.fwd hs2 (by rw [← hr0]; exact Nat.ne_of_lt (Heap.lt_size e)) (up c o e)) hI ?_ fun k => by rw [hm2 k, hmem k])
    obtain ⟨_, _, _, v⟩ := hI
    exact v.nd

theorem toList_eraseAt {α : Type} (xs : Array α) (p : Nat) : (SetTable.eraseAt xs p).toList = xs.toList.eraseIdx p := by
  rw [List.eraseIdx_eq_take_drop_succ]
  simp [SetTable.eraseAt, List.extract_eq_take_drop, List.take_of_length_le]
theorem Els.erase : ∀ {l : List (Int × Value)} {ks : List Int} (i : Nat), Els l ks → Els (l.eraseIdx i) (ks.eraseIdx i)
  | _, _, _, .nil => .nil
  | _, _, 0, .cons _ t => t
  | _, _, i + 1, .cons h t => .cons h (Els.erase i t)
theorem mem_erase_at {k : Int} {i : Nat} (hnd : ks.Nodup) (hi : ks[i]? = some k) (k2 : Int) : k2 ∈ ks.eraseIdx i ↔ k2 ∈ ks ∧ k2 ≠ k := by
  obtain ⟨h, e⟩ := List.getElem?_eq_some_iff.mp hi
  have hp := erase_perm h
  rw [e] at hp
  have hnd2 := hp.nodup_iff.mpr hnd
  obtain ⟨n1, n2⟩ := List.nodup_cons.mp hnd2
  have hm := hp.mem_iff (a := k2)
  rw [List.mem_cons] at hm
  constructor
  · intro h2
    exact ⟨hm.mp (.inr h2), fun e2 => n1 (by rw [← e2]; exact h2)⟩
  · rintro ⟨h2, h3⟩
    rcases hm.mpr h2 with c | c
    · exact absurd c h3
    · exact c

theorem drop_fits {i : Nat} (hf : t.fits es.size = true) (hi : i < es.size) : (t.drop i).fits (SetTable.eraseAt es i).size = true := by
  have hf' := hf
  simp only [SetTable.fits, Bool.and_eq_true, beq_iff_eq, decide_eq_true_eq] at hf ⊢
  have hi2 : i < t.place.size := by omega
  have e1 : ∀ {α : Type} (xs : Array α), i < xs.size → (SetTable.eraseAt xs i).size = xs.size - 1 := fun xs h => by
    rw [← Array.length_toList, toList_eraseAt, List.length_eraseIdx_of_lt (by simpa using h), Array.length_toList]
  unfold SetTable.drop
  rw [Array.getElem?_eq_getElem hi2]
  have e2 : ∀ (p j : Nat), (SetTable.insertAt t.dummies p j).size = t.dummies.size + 1 := fun p j => by
    rw [← Array.length_toList, (SetTable.insertAt_perm t.dummies p j).length_eq, Array.length_toList, Array.size_push]
  dsimp only
  refine ⟨by rw [e1 _ hi2, e1 _ hi, hf.1], ?_⟩
  unfold SetTable.fill at hf ⊢
  dsimp only
  rw [e1 _ hi2, e2]
  omega

theorem discard_of {k : Int} {tk : Tok} {Q : Bool → Shared → Prop} (x : IsSet w s.heap a es ep t ks) (q0 : k ∉ ks → Q false s)
    (q1 : k ∈ ks → ∀ h' kr, Heap.SameBut a s.heap h' → IntSet w h' a kr → (∀ k2, k2 ∈ kr ↔ k2 ∈ ks ∧ k2 ≠ k) → Q true { s with heap := h' }) :
    wpAny (model prog w) A (setDiscardHashed a (.int k tk) (hashInt k)) Q E s := by
  unfold setDiscardHashed
  refine wpAny_bind (find_of x (fun hn => wpAny_pure (q0 hn)) fun i hi => ?_)
  dsimp only
  refine wpAny_bind (state_of x ?_)
  dsimp only
  have hik : i < ks.length := (List.getElem?_eq_some_iff.mp hi).1
  have hie : i < es.size := by rw [x.len]; exact hik
  have hsz : (SetTable.eraseAt es i).size < scanBound := by
    rw [← Array.length_toList, toList_eraseAt, List.length_eraseIdx_of_lt (by simpa using hie), Array.length_toList]
    have := x.sz
    omega
  refine wpAny_bind (store_of x hsz fun h1 ho hs => ?_)
  refine wpAny_bind (wpAny_point (wpAny_pure ?_))
  refine q1 (List.mem_of_getElem? hi) h1 (ks.eraseIdx i) hs ⟨_, _, _, ho, by rw [toList_eraseAt]; exact x.els.erase i, x.nd.sublist (List.eraseIdx_sublist _ _), hsz, drop_fits x.fit hie, ?_, ?_⟩ (mem_erase_at x.nd hi)
  · unfold SetTable.drop; split <;> exact x.led
  · unfold SetTable.drop
    split
    · exact ris_erase x.ris _
    · exact x.ris

theorem tidy_of {Q : Unit → Shared → Prop} (x : IsSet w s.heap a es ep t ks) (hk : ks.length ≤ 100) (q : ∀ h' kr, Heap.SameBut a s.heap h' → IntSet w h' a kr → kr.Perm ks → Q () { s with heap := h' }) : wpAny (model prog w) A (setTidy a) Q E s := by
  unfold setTidy
  refine wpAny_bind (state_of x ?_)
  dsimp only
  split
  · have hg : SetTable.grown es.size = es.size * 4 := by
      unfold SetTable.grown
      rw [if_neg (by rw [x.len]; omega)]
    rw [hg]
    refine relay_of x (by omega) (by rw [x.len]; omega) fun h' es' t' ks' hs x' hp _ _ => q h' ks' hs ⟨_, _, _, x'⟩ hp
  · exact wpAny_pure (q s.heap ks (Heap.SameBut.refl _ _) ⟨_, _, _, x⟩ (.refl _))

/-- of the first alone -/
theorem diff_of {id : String} {Q : Value → Shared → Prop} (x : IsSet w s.heap a es ep t ks) (y : IsSet w s.heap b eo eq to ls) (hab : b ≠ a) (hks : ks.length ≤ 100) (hls : ls.length ≤ 100)
    (q : ∀ h' kr, (∀ c o, s.heap.get? c = some o → h'.get? c = some o) → IntSet w h' s.heap.objs.size kr → kr.Nodup → (∀ k, k ∈ kr ↔ k ∈ ks ∧ k ∉ ls) → Q (.ref s.heap.objs.size) { s with heap := h' }) :
    wpAny (model prog w) A (Builtin.Frozenset.difference id a (.ref b)) Q E s := by
  unfold Builtin.Frozenset.difference
  refine wpAny_bind (isAnySet_of y ?_)
  simp only [Bool.not_true, Bool.false_eq_true, if_false]
  refine wpAny_bind (m := Builtin.Frozenset.addrOf (Value.ref b)) (wpAny_pure ?_)
  simp only [Bool.false_and, Bool.false_eq_true, if_false, if_true]
  refine wpAny_bind (sizeOf_of y ?_)
  refine wpAny_bind (sizeOf_of x ?_)
  by_cases hc : ks.length / 4 > ls.length
  · simp only [hc, if_true]
    refine wpAny_bind (wpAny_rule ?_)
    refine wpAny_bind (copy_of x hks fun h1 er pr tr kr up xr hm hmem => ?_)
    generalize hr0 : s.heap.objs.size = r at xr q ⊢
    have hbr : b ≠ r := by rw [← hr0]; exact Nat.ne_of_lt y.lt
    have y1 : IsSet w h1 b eo eq to ls := y.at' fun o e => up _ o e
    have hkr : kr.length = ks.length := Nat.le_antisymm (length_le_of_subset xr.nd fun k hk => (hmem k).mp hk) (length_le_of_subset x.nd fun k hk => (hmem k).mpr hk)
    refine wpAny_bind (m := Builtin.Frozenset.addrOf (Value.ref r)) (wpAny_pure ?_)
    refine wpAny_bind (wpAny_holding ?_)
    unfold Builtin.Frozenset.differenceUpdate
    have hne : (Value.ref b == Value.ref r) = false := by simp [hbr]
    rw [hne]
    simp only [Bool.false_eq_true, if_false]
    refine wpAny_bind (isAnySet_of (s := { s with heap := h1 }) y1 ?_)
    simp only [if_true]
    refine wpAny_bind (m := Builtin.Frozenset.addrOf (Value.ref b)) (wpAny_pure ?_)
    refine wpAny_bind (sizeOf_of (s := { s with heap := h1 }) y1 ?_)
    refine wpAny_bind (sizeOf_of (s := { s with heap := h1 }) xr ?_)
    have h8 : ¬ (ls.length / 8 > kr.length) := by omega
    simp only [h8, if_false]
    refine wpAny_bind (epoch_of (s := { s with heap := h1 }) y1 ?_)
    refine wpAny_bind (wpAny_holding ?_)
    refine wpAny_bind (walkUnseen_none (s := { s with heap := h1 }) y1 (fun e he => ?_) fun es' hp2 => ?_)
    · simp only [List.mem_cons, List.not_mem_nil, or_false] at he
      subst he
      exact ⟨_, _, _, _, xr⟩
    · obtain ⟨ls', hE', hl'⟩ := Els.perm hp2 y.els
      refine wpAny_bind ?_
      refine forIn_arr _ (fun rest _ s1 => ∃ kt k2 krest, ls' = kt ++ krest ∧ Els rest krest ∧ s1 = { s with heap := s1.heap } ∧ Heap.SameBut r h1 s1.heap ∧ IntSet w s1.heap r k2 ∧ (∀ k, k ∈ k2 ↔ k ∈ kr ∧ k ∉ kt)) _ ?_ ?_ es' _
        ⟨[], kr, ls', rfl, hE', rfl, Heap.SameBut.refl _ _, ⟨_, _, _, xr⟩, fun k => by simp⟩
      · rintro u rest _ s1 ⟨kt, k2, krest, ek, hEr, es1', hsb, hI, hmem2⟩
        obtain ⟨k, krest', tk, rfl, hEr', rfl⟩ := hEr.head_int
        have yv : IsSet w s1.heap b eo eq to ls := y1.at' fun o e => SameBut.fwd hsb hbr e
        obtain ⟨e2, p2, t2, hI'⟩ := hI
        refine wpAny_bind (wpAny_holding (discard_of hI' (fun hn => ?_) fun hm h3 k3 hs3 hI3 hm3 => ?_))
        · refine wpAny_bind (unchanged_of yv (wpAny_pure ?_))
          refine ⟨kt ++ [k], k2, krest', by rw [ek]; simp, hEr', es1', hsb, ⟨_, _, _, hI'⟩, fun z => ?_⟩
          rw [List.mem_append, List.mem_singleton, hmem2 z]
          constructor
          · rintro ⟨c1, c2⟩
            refine ⟨c1, fun c => c.elim c2 fun c3 => hn ?_⟩
            subst c3
            exact (hmem2 z).mpr ⟨c1, c2⟩
          · rintro ⟨c1, c2⟩
            exact ⟨c1, fun c => c2 (.inl c)⟩
        · refine wpAny_bind (unchanged_of (s := { s1 with heap := h3 }) (yv.at' fun o e => SameBut.fwd hs3 hbr e) (wpAny_pure ?_))
          refine ⟨kt ++ [k], k3, krest', by rw [ek]; simp, hEr', by rw [es1'], hsb.trans hs3, hI3, fun z => ?_⟩
          rw [hm3 z, hmem2 z, List.mem_append, List.mem_singleton, not_or, and_assoc]
      · rintro _ s1 ⟨kt, k2, krest, ek, hEr, es1', hsb, hI, hmem2⟩
        cases hEr
        rw [List.append_nil] at ek
        subst ek
        rw [es1']
        obtain ⟨e2, p2, t2, hI'⟩ := hI
        have hk2 : k2.length ≤ 100 := Nat.le_trans (length_le_of_subset hI'.nd fun k hk => (hmem k).mp ((hmem2 k).mp hk).1) hks
        refine wpAny_pure (tidy_of (s := { s with heap := s1.heap }) hI' hk2 fun h4 k4 hs4 hI4 hp4 => ?_)
        refine wpAny_pure (q h4 k4 (fun c o e => SameBut.fwd (hsb.trans hs4) (by rw [← hr0]; exact Nat.ne_of_lt (Heap.lt_size e)) (up c o e)) hI4 (hp4.nodup_iff.mpr hI'.nd) fun k => ?_)
        rw [hp4.mem_iff, hmem2 k, hmem k, hl'.mem_iff]
  · simp only [hc, if_false]
    refine wpAny_bind (baseOf_of x ?_)
    refine wpAny_bind (newSet_of fun hr => ?_)
    generalize hr0 : s.heap.objs.size = r at hr q ⊢
    generalize hh1 : s.heap.push { cls := .type "set", dict := none, data := .set #[] 0 (.fresh 0 0 (ledW w)) } = h1 at hr ⊢
    have up : ∀ c o, s.heap.get? c = some o → h1.get? c = some o := fun c o e => by rw [← hh1]; exact Heap.get?_push_of_some _ e
    have z : IsSet w h1 r #[] 0 (.fresh 0 0 (ledW w)) [] := fresh_set rfl hr
    have x1 : IsSet w h1 a es ep t ks := x.at' fun o e => up _ o e
    have y1 : IsSet w h1 b eo eq to ls := y.at' fun o e => up _ o e
    have har : a ≠ r := by rw [← hr0]; exact Nat.ne_of_lt x.lt
    have hbr : b ≠ r := by rw [← hr0]; exact Nat.ne_of_lt y.lt
    refine wpAny_bind (m := Builtin.Frozenset.addrOf (Value.ref r)) (wpAny_pure ?_)
    refine wpAny_bind (epoch_of (s := { s with heap := h1 }) x1 ?_)
    refine wpAny_bind (wpAny_holding ?_)
    refine wpAny_bind (walkUnseen_some (s := { s with heap := h1 }) x1 ⟨_, _, _, z⟩ (fun e he => ?_) fun es' h2 hp hs2 hz2 => ?_)
    · simp only [List.mem_cons, List.not_mem_nil, or_false] at he
      rcases he with rfl | rfl
      · exact ⟨_, _, _, _, y1⟩
      · exact ⟨_, _, _, _, z⟩
    · obtain ⟨kd', hE', hp'⟩ := Els.perm hp x.els
      refine wpAny_bind ?_
      refine fill_loop (s := { s with heap := h2 }) (fun k => decide (k ∉ ls)) hE' (hp'.nodup_iff.mpr x.nd) ?_ hz2 ?_
      · rintro k tk s1 kr Q1 hk1 hsb es1 hI hnk hlen q0 q1
        have yc1 : IsSet w s1.heap b eo eq to ls := y1.at' fun o e => SameBut.fwd (hs2.trans hsb) hbr e
        have xd1 : IsSet w s1.heap a es ep t ks := x1.at' fun o e => SameBut.fwd (hs2.trans hsb) har e
        obtain ⟨er, pr, tr, hI'⟩ := hI
        refine wpAny_bind (wpAny_holding ?_)
        refine wpAny_bind (find_of yc1 (fun hn => ?_) fun i hi => ?_)
        · refine wpAny_bind (wpAny_pure ?_)
          simp only [Option.isSome_none, Bool.not_false, if_true]
          refine wpAny_bind (add_of hI' ?_ (fun hm => absurd hm hnk) fun _ h3 kr' hs3 hI3 hp3 => ?_)
          · have h3 := hp'.length_eq
            unfold scanBound
            omega
          · refine wpAny_pure ?_
            refine wpAny_bind (unchanged_of (s := { s1 with heap := h3 }) (xd1.at' fun o e => SameBut.fwd hs3 har e) (wpAny_pure (q1 (by simpa using hn) h3 kr' hs3 hI3 hp3)))
        · refine wpAny_bind (wpAny_pure ?_)
          simp only [Option.isSome_some, Bool.not_true, Bool.false_eq_true, if_false]
          refine wpAny_pure ?_
          refine wpAny_bind (unchanged_of xd1 (wpAny_pure (q0 ?_)))
          have := List.mem_of_getElem? hi
          simpa using this
      · intro h3 kr hs3 hI3 hp3
        refine wpAny_pure (wpAny_pure (q h3 kr (fun e o he => ?_) hI3 ?_ fun k => ?_))
        · exact SameBut.fwd (hs2.trans hs3) (by rw [← hr0]; exact Nat.ne_of_lt (Heap.lt_size he)) (up e o he)
        · obtain ⟨_, _, _, v⟩ := hI3; exact v.nd
        · rw [hp3.mem_iff, List.mem_filter, hp'.mem_iff, decide_eq_true_eq]
end
end WS


set_option linter.all false
set_option maxRecDepth 100000
namespace WS
open PySem
theorem entry_set_and : entryFor table "set.__and__" = some Builtin.«frozenset.__and__» :=
  entryFor_alias (id' := "frozenset.__and__") (by kernel_rfl) rfl (by decide +kernel) (by kernel_rfl)
theorem entry_set_or : entryFor table "set.__or__" = some Builtin.«frozenset.__or__» :=
  entryFor_alias (id' := "frozenset.__or__") (by kernel_rfl) rfl (by decide +kernel) (by kernel_rfl)
theorem entry_set_sub : entryFor table "set.__sub__" = some Builtin.«frozenset.__sub__» :=
  entryFor_alias (id' := "frozenset.__sub__") (by kernel_rfl) rfl (by decide +kernel) (by kernel_rfl)
theorem entry_set_iter : entryFor table "set.__iter__" = some Builtin.«frozenset.__iter__» :=
  entryFor_alias (id' := "frozenset.__iter__") (by kernel_rfl) rfl (by decide +kernel) (by kernel_rfl)
section
variable {prog : Program} {w : World} {A : Around} {E : Value → Shared → Prop} {s : Shared} {h h' : Heap} {a b f : Addr} {es eo : Array (Int × Value)} {ep eq : Nat} {t to : SetTable} {ks ls kf : List Int}

theorem both_any {Q : Bool → Shared → Prop} (x : IsSet w s.heap a es ep t ks) (y : IsSet w s.heap b eo eq to ls) (q : Q true s) :
    wpAny (model prog w) A (Builtin.Frozenset.isAnySet (.ref a) <&&> Builtin.Frozenset.isAnySet (.ref b)) Q E s := by
  simp only [andM]
  refine wpAny_bind (isAnySet_of x ?_)
  exact isAnySet_of y q

theorem op_and_of {Q : Value → Shared → Prop} (x : IsSet w s.heap a es ep t ks) (y : IsSet w s.heap b eo eq to ls) (hab : b ≠ a) (hk : ks.length ≤ 100) (hl : ls.length ≤ 100)
    (q : ∀ h' kr, (∀ c o, s.heap.get? c = some o → h'.get? c = some o) → IntSet w h' s.heap.objs.size kr → kr.Nodup → (∀ k, k ∈ kr ↔ k ∈ ks ∧ k ∈ ls) → Q (.ref s.heap.objs.size) { s with heap := h' }) :
    wpAny (model prog w) A (binaryOp .BitAnd (.ref a) (.ref b)) Q E s := by
  refine wpAny_binaryOp_same (T := "set") (id := "set.__and__") (op := .BitAnd) x.typeIs y.typeIs F.fills_set_and F.slot_set_and ?_
  refine wpAny_call_entry F.slot_set_and x.typeIs entry_set_and ?_ (F.args_set_and_2 _ _)
  rw [and_eq]
  refine wpAny_bind (m := Builtin.Frozenset.slot1 "__and__" _) (wpAny_pure ?_)
  dsimp only
  refine wpAny_bind (both_any x y ?_)
  simp only [Bool.not_true, Bool.false_eq_true, if_false]
  refine wpAny_bind (m := Builtin.Frozenset.addrOf (Value.ref a)) (wpAny_pure ?_)
  refine wpAny_bind (inter_of x y hab (by omega) (by omega) fun h' kr up hI hn hm => ?_)
  exact wpAny_pure ⟨_, rfl, (by intro h; cases h), q h' kr up hI hn hm⟩
theorem op_or_of {Q : Value → Shared → Prop} (x : IsSet w s.heap a es ep t ks) (y : IsSet w s.heap b eo eq to ls) (hab : b ≠ a) (hk : ks.length ≤ 100) (hl : ls.length ≤ 100)
    (q : ∀ h' kr, (∀ c o, s.heap.get? c = some o → h'.get? c = some o) → IntSet w h' s.heap.objs.size kr → kr.Nodup → (∀ k, k ∈ kr ↔ k ∈ ks ∨ k ∈ ls) → Q (.ref s.heap.objs.size) { s with heap := h' }) :
    wpAny (model prog w) A (binaryOp .BitOr (.ref a) (.ref b)) Q E s := by
  refine wpAny_binaryOp_same (T := "set") (id := "set.__or__") (op := .BitOr) x.typeIs y.typeIs F.fills_set_or F.slot_set_or ?_
  refine wpAny_call_entry F.slot_set_or x.typeIs entry_set_or ?_ (F.args_set_or_2 _ _)
  rw [or_eq]
  refine wpAny_bind (m := Builtin.Frozenset.slot1 "__or__" _) (wpAny_pure ?_)
  dsimp only
  refine wpAny_bind (both_any x y ?_)
  simp only [Bool.not_true, Bool.false_eq_true, if_false]
  refine wpAny_bind (m := Builtin.Frozenset.addrOf (Value.ref a)) (wpAny_pure ?_)
  refine wpAny_bind (union_of x y hab hk hl fun h' kr up hI hn hm => ?_)
  exact wpAny_pure ⟨_, rfl, (by intro h; cases h), q h' kr up hI hn hm⟩
theorem op_sub_of {Q : Value → Shared → Prop} (x : IsSet w s.heap a es ep t ks) (y : IsSet w s.heap b eo eq to ls) (hab : b ≠ a) (hk : ks.length ≤ 100) (hl : ls.length ≤ 100)
    (q : ∀ h' kr, (∀ c o, s.heap.get? c = some o → h'.get? c = some o) → IntSet w h' s.heap.objs.size kr → kr.Nodup → (∀ k, k ∈ kr ↔ k ∈ ks ∧ k ∉ ls) → Q (.ref s.heap.objs.size) { s with heap := h' }) :
    wpAny (model prog w) A (binaryOp .Sub (.ref a) (.ref b)) Q E s := by
  refine wpAny_binaryOp_same (T := "set") (id := "set.__sub__") (op := .Sub) x.typeIs y.typeIs F.fills_set_sub F.slot_set_sub ?_
  refine wpAny_call_entry F.slot_set_sub x.typeIs entry_set_sub ?_ (F.args_set_sub_2 _ _)
  rw [sub_eq]
  refine wpAny_bind (m := Builtin.Frozenset.slot1 "__sub__" _) (wpAny_pure ?_)
  dsimp only
  refine wpAny_bind (both_any x y ?_)
  simp only [Bool.not_true, Bool.false_eq_true, if_false]
  refine wpAny_bind (m := Builtin.Frozenset.addrOf (Value.ref a)) (wpAny_pure ?_)
  refine wpAny_bind (diff_of x y hab hk hl fun h' kr up hI hn hm => ?_)
  exact wpAny_pure ⟨_, rfl, (by intro h; cases h), q h' kr up hI hn hm⟩

/-! ### walked by an iterator -/
theorem slot_set_iterator_next : Slot "set_iterator" "__next__" "set_iterator.__next__" :=
  .of (owner := "set_iterator") (n := "__next__") (by rw [typeLookup_type, builtinLookup_eq_fast]; kernel_rfl) (by decide +kernel) (by decide +kernel) (by decide +kernel)
    (by first | exact .inl (by decide +kernel) | exact .inr (by decide +kernel)) (by rw [isSubtype_type]; kernel_rfl)
theorem slot_set_iterator_iter : Slot "set_iterator" "__iter__" "set_iterator.__iter__" :=
  .of (owner := "set_iterator") (n := "__iter__") (by rw [typeLookup_type, builtinLookup_eq_fast]; kernel_rfl) (by decide +kernel) (by decide +kernel) (by decide +kernel)
    (by first | exact .inl (by decide +kernel) | exact .inr (by decide +kernel)) (by rw [isSubtype_type]; kernel_rfl)
theorem entry_set_iterator_next : entryFor table "set_iterator.__next__" = some Builtin.«set_iterator.__next__» := entryFor_of_tree (by kernel_rfl)
theorem entry_set_iterator_iter : entryFor table "set_iterator.__iter__" = some Builtin.«dict_keyiterator.__iter__» :=
  entryFor_alias (id' := "dict_keyiterator.__iter__") (by kernel_rfl) (by first | rfl | decide +kernel | (unfold String.splitOn; simp +decide [String.splitOnAux])) (by decide +kernel) (by kernel_rfl)
theorem args_set_iterator_next_1 (a : Value) : argsOk "set_iterator.__next__" ⟨[a], []⟩ := by unfold argsOk; kernel_rfl
theorem args_set_iterator_iter_1 (a : Value) : argsOk "set_iterator.__iter__" ⟨[a], []⟩ := by unfold argsOk; kernel_rfl
end
end WS


set_option linter.all false
set_option maxRecDepth 100000
namespace WS
open PySem
section
variable {prog : Program} {w : World} {A : Around} {E : Value → Shared → Prop} {s : Shared} {h h' : Heap} {a b f it : Addr} {es eo : Array (Int × Value)} {ep eq : Nat} {t to : SetTable} {ks ls kf : List Int}

abbrev sitObj (vs : Array Value) : Obj := { cls := .type "set_iterator", dict := none, data := .fields vs, slots := #[] }
theorem sit_type {vs : Array Value} (hit : s.heap.get? it = some (sitObj vs)) : s.TypeIs (.ref it) "set_iterator" := ⟨_, hit, rfl⟩

theorem choose_of {M : Model} {src : Source} {n : Nat} {Q : Nat → Shared → Prop} (hn : n ≠ 0) (q : ∀ i d, i < n → Q i { s with drawn := d }) : wpAny M A (choose src n) Q E s := by
  intro Γ p hΓ
  show Sem.wp M Γ (.choose src n .pure) _ _ p s
  rw [Sem.wp_choose]
  exact ⟨hn, q _ _ (Nat.mod_lt _ (by omega))⟩
theorem drawOrder_of {α : Type} {M : Model} : ∀ (n : Nat) (xs : List α) (s : Shared) (Q : List α → Shared → Prop), xs.length = n → (∀ ys d, ys.Perm xs → Q ys { s with drawn := d }) → wpAny M A (drawOrder n xs) Q E s
  | 0, xs, s, Q, hl, q => by
    have : xs = [] := List.length_eq_zero_iff.mp hl
    subst this
    exact wpAny_pure (q [] s.drawn (.refl _))
  | n + 1, [], s, Q, hl, q => by simp at hl
  | n + 1, x :: r, s, Q, hl, q => by
    unfold drawOrder
    refine wpAny_bind (choose_of (by simp) fun i d hi => ?_)
    rw [List.getElem?_eq_getElem hi]
    dsimp only
    refine wpAny_bind (drawOrder_of n _ _ _ (by rw [List.length_eraseIdx_of_lt hi]; omega) fun ys d2 hp => ?_)
    exact wpAny_pure (q _ d2 ((hp.cons _).trans (erase_perm hi)))

theorem next_int_some {slot i nx : Nat} {v : Value} {Q : Option Value → Shared → Prop} (hit : s.heap.get? it = some (sitObj #[.int slot 0, .int i 0, .ref a, .int ks.length 0, .int ep 0])) (x : IsSet w s.heap a es ep t ks)
    (hr : ∀ (A : Around) (E : Value → Shared → Prop) (Q1 : Option (Value × Nat) → Shared → Prop), Q1 (some (v, nx)) s → wpAny (model prog w) A (setNext a slot i ep) Q1 E s)
    (q : ∀ h', h'.get? it = some (sitObj #[.int nx 0, .int (i + 1 : Nat) 0, .ref a, .int ks.length 0, .int ep 0]) → Heap.SameBut it s.heap h' → Q (some v) { s with heap := h' }) :
    wpAny (model prog w) A (pyNext (.ref it)) Q E s := by
  unfold pyNext
  refine wpAny_bind (wpAny_attempt (wpAny_callSpecial?_slot (name := Str.ofString "__next__") (sit_type hit) slot_set_iterator_next
    (wpAny_call_entry slot_set_iterator_next (sit_type hit) entry_set_iterator_next ?_ (args_set_iterator_next_1 _))))
  unfold Builtin.«set_iterator.__next__»
  refine wpAny_bind (m := slotArgs "__next__" 0 _) (wpAny_pure ?_)
  refine wpAny_bind (wpAny_fieldsOf hit rfl ?_)
  dsimp only
  refine wpAny_bind (entries_of x ?_)
  have hsz : ((es.size : Int) != (ks.length : Int)) = false := by rw [x.len]; simp
  rw [hsz]
  simp only [Bool.false_eq_true, if_false]
  refine wpAny_bind (hr _ _ _ ?_)
  dsimp only
  refine wpAny_bind (wpAny_setField_rec hit (by simp) fun h1 hg1 hs1 => ?_)
  refine wpAny_bind (wpAny_setField_rec (s := { s with heap := h1 }) hg1 (by simp) fun h2 hg2 hs2 => ?_)
  refine wpAny_pure ⟨_, rfl, ?_⟩
  refine wpAny_pure (q h2 ?_ (hs1.trans hs2))
  rw [hg2]
  rfl

theorem next_int_none {slot i : Nat} {Q : Option Value → Shared → Prop} (hh : A.handled = none) (hit : s.heap.get? it = some (sitObj #[.int slot 0, .int i 0, .ref a, .int ks.length 0, .int ep 0])) (x : IsSet w s.heap a es ep t ks)
    (hr : ∀ (A : Around) (E : Value → Shared → Prop) (Q1 : Option (Value × Nat) → Shared → Prop), Q1 none s → wpAny (model prog w) A (setNext a slot i ep) Q1 E s)
    (q : ∀ h', Heap.ExtBut it s.heap h' → Q none { s with heap := h' }) :
    wpAny (model prog w) A (pyNext (.ref it)) Q E s := by
  unfold pyNext
  refine wpAny_bind (wpAny_attempt (wpAny_callSpecial?_slot (name := Str.ofString "__next__") (sit_type hit) slot_set_iterator_next
    (wpAny_call_entry slot_set_iterator_next (sit_type hit) entry_set_iterator_next ?_ (args_set_iterator_next_1 _))))
  unfold Builtin.«set_iterator.__next__»
  refine wpAny_bind (m := slotArgs "__next__" 0 _) (wpAny_pure ?_)
  refine wpAny_bind (wpAny_fieldsOf hit rfl ?_)
  dsimp only
  refine wpAny_bind (entries_of x ?_)
  have hsz : ((es.size : Int) != (ks.length : Int)) = false := by rw [x.len]; simp
  rw [hsz]
  simp only [Bool.false_eq_true, if_false]
  refine wpAny_bind (hr _ _ _ ?_)
  dsimp only
  refine wpAny_bind (wpAny_setField_rec hit (by simp) fun h1 hg1 hs1 => ?_)
  show wpAny _ _ (newExc (.type "StopIteration") [] >>= _) _ _ _
  refine wpAny_bind ?_
  simp only [newExc, newTuple]
  refine wpAny_bind (wpAny_newObj_type ?_ (by size_fits))
  refine wpAny_bind (m := firstArgMember _ _) (wpAny_of_eq (a := Value.none) (by first | rfl | (simp only [firstArgMember]; rfl)) ?_)
  refine wpAny_newObj_type ?_ (by size_fits)
  simp only [raiseNew]
  refine wpAny_bind (wpAny_handled ?_)
  rw [show A.in1.handled = none from hh]
  refine wpAny_bind (wpAny_pure (wpAny_throw ?_))
  refine wpAny_bind (wpAny_isInstance (T := "StopIteration") (b := true) ⟨_, Heap.get?_push_size _ rfl, rfl⟩ isSubtype_stop ?_)
  exact wpAny_pure (q _ ((hs1.extBut.push _).push _))

theorem next_tup_some {i j : Nat} {tp : Addr} {e : Int × Value} {ps : Array Value} {ot : Obj} {pn : Nat} {Q : Option Value → Shared → Prop} (hit : s.heap.get? it = some (sitObj #[.ref tp, .int i 0, .ref a, .int ks.length 0, .int ep 0])) (x : IsSet w s.heap a es ep t ks)
    (ht : s.heap.get? tp = some ot) (hd : ot.data = .seq ps pn) (hj : ps[i]? = some (.int j 0)) (he : es[j]? = some e)
    (q : ∀ h', h'.get? it = some (sitObj #[.ref tp, .int (i + 1 : Nat) 0, .ref a, .int ks.length 0, .int ep 0]) → Heap.SameBut it s.heap h' → Q (some e.2) { s with heap := h' }) :
    wpAny (model prog w) A (pyNext (.ref it)) Q E s := by
  unfold pyNext
  refine wpAny_bind (wpAny_attempt (wpAny_callSpecial?_slot (name := Str.ofString "__next__") (sit_type hit) slot_set_iterator_next
    (wpAny_call_entry slot_set_iterator_next (sit_type hit) entry_set_iterator_next ?_ (args_set_iterator_next_1 _))))
  unfold Builtin.«set_iterator.__next__»
  refine wpAny_bind (m := slotArgs "__next__" 0 _) (wpAny_pure ?_)
  refine wpAny_bind (wpAny_fieldsOf hit rfl ?_)
  dsimp only
  refine wpAny_bind (entries_of x ?_)
  have hsz : ((es.size : Int) != (ks.length : Int)) = false := by rw [x.len]; simp
  rw [hsz]
  simp only [Bool.false_eq_true, if_false]
  unfold seqItems?
  dsimp only
  refine wpAny_bind (wpAny_bind (wpAny_load ht ?_))
  rw [hd]
  refine wpAny_pure ?_
  dsimp only
  rw [Int.toNat_natCast, hj]
  dsimp only
  refine wpAny_bind ?_
  unfold setNextDrawn
  refine wpAny_bind (state_of x ?_)
  dsimp only
  rw [Int.toNat_natCast, Int.toNat_natCast]
  simp only [bne_self_eq_false, Bool.false_eq_true, if_false]
  rw [he]
  refine wpAny_pure ?_
  refine wpAny_bind (wpAny_setField_rec hit (by simp) fun h1 hg1 hs1 => ?_)
  refine wpAny_pure ⟨_, rfl, ?_⟩
  refine wpAny_pure (q h1 ?_ hs1)
  rw [hg1]
  rfl

theorem next_tup_none {i : Nat} {tp : Addr} {ps : Array Value} {ot : Obj} {pn : Nat} {Q : Option Value → Shared → Prop} (hh : A.handled = none) (hit : s.heap.get? it = some (sitObj #[.ref tp, .int i 0, .ref a, .int ks.length 0, .int ep 0])) (x : IsSet w s.heap a es ep t ks)
    (ht : s.heap.get? tp = some ot) (hd : ot.data = .seq ps pn) (hj : ps[i]? = none)
    (q : ∀ h', Heap.ExtBut it s.heap h' → Q none { s with heap := h' }) :
    wpAny (model prog w) A (pyNext (.ref it)) Q E s := by
  unfold pyNext
  refine wpAny_bind (wpAny_attempt (wpAny_callSpecial?_slot (name := Str.ofString "__next__") (sit_type hit) slot_set_iterator_next
    (wpAny_call_entry slot_set_iterator_next (sit_type hit) entry_set_iterator_next ?_ (args_set_iterator_next_1 _))))
  unfold Builtin.«set_iterator.__next__»
  refine wpAny_bind (m := slotArgs "__next__" 0 _) (wpAny_pure ?_)
  refine wpAny_bind (wpAny_fieldsOf hit rfl ?_)
  dsimp only
  refine wpAny_bind (entries_of x ?_)
  have hsz : ((es.size : Int) != (ks.length : Int)) = false := by rw [x.len]; simp
  rw [hsz]
  simp only [Bool.false_eq_true, if_false]
  unfold seqItems?
  dsimp only
  refine wpAny_bind (wpAny_bind (wpAny_load ht ?_))
  rw [hd]
  refine wpAny_pure ?_
  dsimp only
  rw [Int.toNat_natCast, hj]
  dsimp only
  refine wpAny_bind (wpAny_setField_rec hit (by simp) fun h1 hg1 hs1 => ?_)
  refine wpAny_bind (wpAny_setField_rec (s := { s with heap := h1 }) hg1 (by simp) fun h2 hg2 hs2 => ?_)
  show wpAny _ _ (newExc (.type "StopIteration") [] >>= _) _ _ _
  refine wpAny_bind ?_
  simp only [newExc, newTuple]
  refine wpAny_bind (wpAny_newObj_type ?_ (by size_fits))
  refine wpAny_bind (m := firstArgMember _ _) (wpAny_of_eq (a := Value.none) (by first | rfl | (simp only [firstArgMember]; rfl)) ?_)
  refine wpAny_newObj_type ?_ (by size_fits)
  simp only [raiseNew]
  refine wpAny_bind (wpAny_handled ?_)
  rw [show A.in1.handled = none from hh]
  refine wpAny_bind (wpAny_pure (wpAny_throw ?_))
  refine wpAny_bind (wpAny_isInstance (T := "StopIteration") (b := true) ⟨_, Heap.get?_push_size _ rfl, rfl⟩ isSubtype_stop ?_)
  exact wpAny_pure (q _ (((hs1.trans hs2).extBut.push _).push _))

theorem pyIter_sit {vs : Array Value} {Q : Value → Shared → Prop} (hit : s.heap.get? it = some (sitObj vs)) (q : Q (.ref it) s) : wpAny (model prog w) A (pyIter (.ref it)) Q E s := by
  refine wpAny_pyIter_slot (sit_type hit) slot_set_iterator_iter (wpAny_call_entry slot_set_iterator_iter (sit_type hit) entry_set_iterator_iter ?_ (args_set_iterator_iter_1 _))
  show wpAny _ _ (ret (.ref it)) _ _ s
  exact wpAny_pure ⟨_, rfl, "set_iterator", _, sit_type hit, slot_set_iterator_next.lookup, q⟩
end
end WS


set_option linter.all false
set_option maxRecDepth 100000
namespace WS
open PySem
section
variable {prog : Program} {w : World} {A : Around} {E : Value → Shared → Prop} {s : Shared} {h h' : Heap} {a b f it : Addr} {es eo : Array (Int × Value)} {ep eq : Nat} {t to : SetTable} {ks ls kf kp : List Int}

def PInt (kp : List Int) (i : Nat) (v : Value) : Prop := ∃ k tk, kp[i]? = some k ∧ v = Value.int k tk

theorem walks_int (slotAt : Nat → Nat) (hne : a ≠ it)
    (hsome : ∀ i, i < ks.length → ∃ k tk, kp[i]? = some k ∧ ∀ (s : Shared) (A : Around) (E : Value → Shared → Prop) (Q1 : Option (Value × Nat) → Shared → Prop), IsSet w s.heap a es ep t ks → Q1 (some (.int k tk, slotAt (i + 1))) s → wpAny (model prog w) A (setNext a (slotAt i) i ep) Q1 E s)
    (hnone : ∀ (s : Shared) (A : Around) (E : Value → Shared → Prop) (Q1 : Option (Value × Nat) → Shared → Prop), IsSet w s.heap a es ep t ks → Q1 none s → wpAny (model prog w) A (setNext a (slotAt ks.length) ks.length ep) Q1 E s) (hh : A.handled = none) :
    Walks prog w A it [it, a] [it] ks.length (PInt kp) (fun i h => h.get? it = some (sitObj #[.int (slotAt i : Nat) 0, .int (i : Nat) 0, .ref a, .int ks.length 0, .int ep 0]) ∧ IsSet w h a es ep t ks) where
  sub := fun b hb => by simp at hb; simp [hb]
  frame := fun _ _ _ st hk => ⟨hk it (by simp) _ st.1, st.2.at' fun o e => hk a (by simp) o e⟩
  item := fun i s Q E hi st hQ => by
    obtain ⟨k, tk, e1, e2⟩ := hsome i hi
    refine next_int_some st.1 st.2 (fun A E Q1 q1 => e2 s A E Q1 st.2 q1) fun h' hg hs => ?_
    exact hQ _ h' s.toks ⟨k, tk, e1, rfl⟩ ⟨hg, st.2.at' fun o e => SameBut.fwd' hs hne e⟩ fun b o hb e => SameBut.fwd' hs (fun h => hb (by simp [h])) e
  done := fun s Q E st hQ => next_int_none hh st.1 st.2 (fun A E Q1 q1 => hnone s A E Q1 st.2 q1) fun h' he => hQ h' s.toks fun b o hb e => he b o (fun h => hb (by simp [h])) e
  self := fun _ _ _ _ st hQ => pyIter_sit st.1 hQ
where
  SameBut.fwd' {a : Addr} {h h' : Heap} (x : Heap.SameBut a h h') {c : Addr} {o : Obj} (hc : c ≠ a) (e : h.get? c = some o) : h'.get? c = some o := by rw [x.2 c hc]; exact e

theorem walks_tup {tp : Addr} {ps : List Nat} (hne : a ≠ it) (hnt : tp ≠ it) (hl : ps.length = ks.length)
    (hget : ∀ (i j : Nat), ps[i]? = some j → ∃ (k : Int) (tk : Tok) (e : Int × Value), kp[i]? = some k ∧ es[j]? = some e ∧ e.2 = Value.int k tk) (hh : A.handled = none) :
    Walks prog w A it [it, a, tp] [it] ks.length (PInt kp) (fun i h => h.get? it = some (sitObj #[.ref tp, .int (i : Nat) 0, .ref a, .int ks.length 0, .int ep 0]) ∧ IsSet w h a es ep t ks ∧
      ∃ ot n, h.get? tp = some ot ∧ ot.data = .seq (ps.map fun (i : Nat) => rawInt i).toArray n) where
  sub := fun b hb => by simp at hb; simp [hb]
  frame := fun _ _ _ st hk => ⟨hk it (by simp) _ st.1, st.2.1.at' fun o e => hk a (by simp) o e, let ⟨ot, n, e1, e2⟩ := st.2.2; ⟨ot, n, hk tp (by simp) ot e1, e2⟩⟩
  item := fun i s Q E hi st hQ => by
    obtain ⟨hit, x, ot, n, e1, e2⟩ := st
    have hi2 : i < ps.length := by omega
    obtain ⟨k, tk, e, g1, g2, g3⟩ := hget i ps[i] (List.getElem?_eq_getElem hi2)
    refine next_tup_some (j := ps[i]) hit x e1 e2 (by simp [hi2, rawInt]) g2 fun h' hg hs => ?_
    exact hQ _ h' s.toks ⟨k, tk, g1, g3⟩ ⟨hg, x.at' fun o e => fwd' hs hne e, ot, n, fwd' hs hnt e1, e2⟩ fun b o hb e => fwd' hs (fun h => hb (by simp [h])) e
  done := fun s Q E st hQ => by
    obtain ⟨hit, x, ot, n, e1, e2⟩ := st
    exact next_tup_none hh hit x e1 e2 (by simp; omega) fun h' he => hQ h' s.toks fun b o hb e => he b o (fun h => hb (by simp [h])) e
  self := fun _ _ _ _ st hQ => pyIter_sit st.1 hQ
where
  fwd' {a : Addr} {h h' : Heap} (x : Heap.SameBut a h h') {c : Addr} {o : Obj} (hc : c ≠ a) (e : h.get? c = some o) : h'.get? c = some o := by rw [x.2 c hc]; exact e

theorem setWalk_text {Q : Array (Int × Value) → Shared → Prop} (x : IsSet w s.heap a es ep t ks) (hb : w.params.followText "set-order" = true) (q : Q (pickOrder (w.params.setOrder a ep) es) s) :
    wpAny (model prog w) A (setWalk a) Q E s := by
  unfold setWalk
  refine wpAny_bind (state_of x ?_)
  dsimp only
  refine wpAny_bind ?_
  unfold setsByText
  refine wpAny_bind (wpAny_askSetting (wpAny_pure ?_))
  show wpAny _ _ (if w.params.followText "set-order" = true then _ else _) _ _ _
  rw [hb, if_pos rfl]
  exact wpAny_bind (wpAny_askSetting (wpAny_pure q))

theorem setNext_text {slot i : Nat} {Q : Option (Value × Nat) → Shared → Prop} (x : IsSet w s.heap a es ep t ks) (hb : w.params.followText "set-order" = true)
    (q : Q (((pickOrder (w.params.setOrder a ep) es)[i]?).map fun e => (e.2, slot)) s) : wpAny (model prog w) A (setNext a slot i ep) Q E s := by
  unfold setNext
  refine wpAny_bind (state_of x ?_)
  dsimp only
  refine wpAny_bind ?_
  unfold setsByText
  refine wpAny_bind (wpAny_askSetting (wpAny_pure ?_))
  show wpAny _ _ (if w.params.followText "set-order" = true then _ else _) _ _ _
  rw [hb, if_pos rfl]
  simp only [bne_self_eq_false, Bool.false_eq_true, if_false]
  exact wpAny_bind (setWalk_text x hb (wpAny_pure q))

def slotAt (t : SetTable) : Nat → Nat
  | 0 => 0
  | i + 1 => t.place.getD i 0 + 1

theorem below_slotAt {i : Nat} (hr : Ris t.place) (hi : i ≤ t.place.size) : SetTable.below t.place (slotAt t i) = i := by
  refine below_at hr hi (fun k x hk hlt => ?_) fun x hx => ?_
  · cases i with
    | zero => omega
    | succ n =>
      have hn : n < t.place.size := by omega
      have hs : t.place[n]? = some t.place[n] := Array.getElem?_eq_getElem hn
      have e : slotAt t (n + 1) = t.place[n] + 1 := by simp [slotAt, Array.getD, hn]
      rw [e]
      rcases Nat.lt_or_ge k n with c | c
      · have := ris_lt hr hk hs c; omega
      · have : k = n := by omega
        subst this
        rw [hs] at hk; cases hk; omega
  · cases i with
    | zero => exact Nat.zero_le _
    | succ n =>
      have hn : n < t.place.size := by omega
      have hs : t.place[n]? = some t.place[n] := Array.getElem?_eq_getElem hn
      have e : slotAt t (n + 1) = t.place[n] + 1 := by simp [slotAt, Array.getD, hn]
      rw [e]
      exact ris_lt hr hs hx (by omega)

theorem setNext_plain {i : Nat} {Q : Option (Value × Nat) → Shared → Prop} (x : IsSet w s.heap a es ep t ks) (hb : w.params.followText "set-order" = false) (hc : t.plain = true ∨ es.size ≤ 1) (hi : i ≤ ks.length)
    (q : Q ((es[i]?).map fun e => (e.2, slotAt t (i + 1))) s) : wpAny (model prog w) A (setNext a (slotAt t i) i ep) Q E s := by
  have hl : t.led = true := by rw [x.led]; unfold ledW; rw [hb]; rfl
  obtain ⟨p1, p2⟩ := place_size x
  unfold setNext
  refine wpAny_bind (state_of x ?_)
  dsimp only
  refine wpAny_bind ?_
  unfold setsByText
  refine wpAny_bind (wpAny_askSetting (wpAny_pure ?_))
  show wpAny _ _ (if w.params.followText "set-order" = true then _ else _) _ _ _
  rw [hb, if_neg Bool.false_ne_true]
  have hd : (!t.plain && decide (es.size > 1)) = false := by
    rcases hc with c | c
    · rw [c]; rfl
    · rw [decide_eq_false (by omega)]; simp
  show wpAny _ _ (if (!t.plain && decide (es.size > 1)) = true then _ else _) _ _ _
  rw [hd, if_neg Bool.false_ne_true]
  show wpAny _ _ ((if (!t.led && !es.isEmpty) = true then _ else _) >>= _) _ _ _
  rw [hl]
  simp only [Bool.not_true, Bool.false_and, Bool.false_eq_true, if_false]
  refine wpAny_bind (wpAny_pure ?_)
  rw [below_slotAt x.ris (by omega)]
  refine wpAny_pure ?_
  rcases Nat.lt_or_ge i ks.length with c | c
  · have h1 : i < es.size := by rw [x.len]; exact c
    have h2 : i < t.place.size := by omega
    rw [Array.getElem?_eq_getElem h1] at q ⊢
    rw [Array.getElem?_eq_getElem h2]
    simp only [Option.map_some, slotAt, Array.getD, h2, dite_true] at q
    exact q
  · have h1 : es[i]? = none := Array.getElem?_eq_none (by rw [x.len]; exact c)
    rw [h1] at q ⊢
    exact q

theorem setDrawn_of {Q : Bool → Shared → Prop} (x : IsSet w s.heap a es ep t ks) (q : Q (!w.params.followText "set-order" && (!t.plain && decide (es.size > 1))) s) : wpAny (model prog w) A (setDrawn a) Q E s := by
  unfold setDrawn
  refine wpAny_bind (state_of x ?_)
  dsimp only
  refine wpAny_bind ?_
  unfold setsByText
  refine wpAny_bind (wpAny_askSetting (wpAny_pure ?_))
  exact wpAny_pure q

theorem kp_of {es' : List (Int × Value)} (hE : Els es' kp) {i : Nat} (hi : i < kp.length) : ∃ k tk e, kp[i]? = some k ∧ es'[i]? = some e ∧ e.2 = Value.int k tk := by
  have h1 : i < es'.length := by rw [hE.length]; exact hi
  obtain ⟨k, e1, _, tk, e2⟩ := hE.get (List.getElem?_eq_getElem h1)
  exact ⟨k, tk, _, e1, List.getElem?_eq_getElem h1, e2⟩

/-- an iterator over a set of ints: it gives them all, in some order -/
theorem iter_of {Q : Value → Shared → Prop} (x : IsSet w s.heap a es ep t ks)
    (q : ∀ h' d I fp (St : Nat → Heap → Prop) kp, kp.Perm ks → (∀ A : Around, A.handled = none → Walks prog w A I fp [I] ks.length (PInt kp) St) → St 0 h' → (∀ c o, s.heap.get? c = some o → h'.get? c = some o) →
      (∀ c ∈ fp, c = a ∨ s.heap.objs.size ≤ c) → s.heap.objs.size ≤ I → Q (.ref I) { s with heap := h', drawn := d }) :
    wpAny (model prog w) A (pyIter (.ref a)) Q E s := by
  refine wpAny_pyIter_slot x.typeIs F.slot_set_iter (wpAny_call_entry F.slot_set_iter x.typeIs entry_set_iter ?_ (F.args_set_iter_1 _))
  unfold Builtin.«frozenset.__iter__»
  refine wpAny_bind (m := Builtin.Frozenset.slot0 "__iter__" _) (wpAny_pure ?_)
  refine wpAny_bind (sizeOf_of x ?_)
  refine wpAny_bind (setDrawn_of x ?_)
  have hna : a < s.heap.objs.size := x.lt
  cases hb : w.params.followText "set-order" with
  | true =>
    simp only [Bool.not_true, Bool.false_and, Bool.false_eq_true, if_false]
    refine wpAny_bind (wpAny_pure ?_)
    refine wpAny_bind (epoch_of x ?_)
    refine wpAny_bind (wpAny_newObj_type (wpAny_pure ⟨_, rfl, "set_iterator", _, ⟨_, Heap.get?_push_size _ rfl, rfl⟩, slot_set_iterator_next.lookup, ?_⟩))
    obtain ⟨kp, hE, hp⟩ := Els.perm (pick_perm (w.params.setOrder a ep) es) x.els
    refine q _ s.drawn _ [s.heap.objs.size, a] _ kp hp (fun A hh => walks_int (es := es) (t := t) (ep := ep) (fun _ => 0) (Nat.ne_of_lt hna) (fun i hi => ?_) (fun s A E Q1 x1 q1 => ?_) hh) ⟨Heap.get?_push_size _ rfl, x.at' fun o e => Heap.get?_push_of_some _ e⟩ (fun c o e => Heap.get?_push_of_some _ e) (fun c hc => ?_) (Nat.le_refl _)
    · obtain ⟨k, tk, e, e1, e2, e3⟩ := kp_of hE (i := i) (by rw [hp.length_eq]; exact hi)
      refine ⟨k, tk, e1, fun s A E Q1 x1 q1 => setNext_text x1 hb ?_⟩
      rw [Array.getElem?_toList] at e2
      rw [e2, Option.map_some, e3]
      exact q1
    · refine setNext_text x1 hb ?_
      have : (pickOrder (w.params.setOrder a ep) es)[ks.length]? = none := by
        rw [← Array.getElem?_toList]
        exact List.getElem?_eq_none (by rw [hE.length, hp.length_eq]; exact Nat.le_refl _)
      rw [this]
      exact q1
    · simp only [List.mem_cons, List.not_mem_nil, or_false] at hc
      rcases hc with rfl | rfl
      · exact .inr (Nat.le_refl _)
      · exact .inl rfl
  | false =>
    cases hd : (!t.plain && decide (es.size > 1)) with
    | false =>
      simp only [Bool.and_false, Bool.false_eq_true, if_false]
      refine wpAny_bind (wpAny_pure ?_)
      refine wpAny_bind (epoch_of x ?_)
      refine wpAny_bind (wpAny_newObj_type (wpAny_pure ⟨_, rfl, "set_iterator", _, ⟨_, Heap.get?_push_size _ rfl, rfl⟩, slot_set_iterator_next.lookup, ?_⟩))
      have hc : t.plain = true ∨ es.size ≤ 1 := by
        cases hpl : t.plain with
        | true => exact .inl rfl
        | false =>
          rw [hpl] at hd
          simp only [Bool.not_false, Bool.true_and, decide_eq_false_iff_not] at hd
          exact .inr (by omega)
      refine q _ s.drawn _ [s.heap.objs.size, a] _ ks (.refl _) (fun A hh => walks_int (es := es) (t := t) (ep := ep) (slotAt t) (Nat.ne_of_lt hna) (fun i hi => ?_) (fun s A E Q1 x1 q1 => ?_) hh) ⟨Heap.get?_push_size _ rfl, x.at' fun o e => Heap.get?_push_of_some _ e⟩ (fun c o e => Heap.get?_push_of_some _ e) (fun c hc => ?_) (Nat.le_refl _)
      · obtain ⟨k, tk, e, e1, e2, e3⟩ := kp_of x.els (i := i) hi
        refine ⟨k, tk, e1, fun s A E Q1 x1 q1 => setNext_plain x1 hb hc (by omega) ?_⟩
        rw [Array.getElem?_toList] at e2
        rw [e2, Option.map_some, e3]
        exact q1
      · refine setNext_plain x1 hb hc (Nat.le_refl _) ?_
        have : es[ks.length]? = none := Array.getElem?_eq_none (by rw [x.len]; exact Nat.le_refl _)
        rw [this]
        exact q1
      · simp only [List.mem_cons, List.not_mem_nil, or_false] at hc
        rcases hc with rfl | rfl
        · exact .inr (Nat.le_refl _)
        · exact .inl rfl
    | true =>
      simp only [Bool.not_false, Bool.and_true, if_true]
      refine wpAny_bind (drawOrder_of ks.length (List.range ks.length) _ _ List.length_range fun ps d hp => ?_)
      unfold newTuple
      refine wpAny_bind (wpAny_newObj_type ?_ (by
        show sizeOk (.seq _)
        have h1 := hp.length_eq
        have h2 := x.sz
        rw [x.len] at h2
        have h3 : scanBound = 4096 := rfl
        first
          | (simp only [sizeOk]; simp; rw [h1]; simp; rw [sizeLine_eq]; omega)
          | (size_fits)))
      refine wpAny_bind (epoch_of (s := { s with heap := s.heap.push _, drawn := d }) (x.at' fun o e => Heap.get?_push_of_some _ e) ?_)
      refine wpAny_bind (wpAny_newObj_type (wpAny_pure ⟨_, rfl, "set_iterator", _, ⟨_, Heap.get?_push_size _ rfl, rfl⟩, slot_set_iterator_next.lookup, ?_⟩))
      generalize hH : s.heap.push { cls := .type "tuple", data := .seq (ps.map fun (i : Nat) => rawInt i).toArray } = h1
      have hs1 : h1.objs.size = s.heap.objs.size + 1 := by rw [← hH, Heap.size_push]
      have up1 : ∀ c o, s.heap.get? c = some o → h1.get? c = some o := fun c o e => by rw [← hH]; exact Heap.get?_push_of_some _ e
      have htp : h1.get? s.heap.objs.size = some { cls := .type "tuple", data := .seq (ps.map fun (i : Nat) => rawInt i).toArray } := by rw [← hH]; exact Heap.get?_push_size _ rfl
      have hkp : ((ps.filterMap fun j => ks[j]?)).Perm ks := by
        refine (hp.filterMap _).trans ?_
        rw [List.filterMap_getElem?_range_length]
      have hget : ∀ (l : List Nat), (∀ j ∈ l, j < ks.length) → (l.filterMap fun j => ks[j]?) = l.map fun j => ks.getD j 0 := by
        intro l
        induction l with
        | nil => intro _; rfl
        | cons j r ih =>
          intro hl
          have hj := hl j List.mem_cons_self
          rw [List.filterMap_cons, List.getElem?_eq_getElem hj, List.map_cons, ih fun z hz => hl z (List.mem_cons_of_mem _ hz)]
          simp [hj]
      have hps : ∀ j ∈ ps, j < ks.length := fun j hj => List.mem_range.mp (hp.mem_iff.mp hj)
      rw [hget ps hps] at hkp
      refine q _ d _ [h1.objs.size, a, s.heap.objs.size] _ _ hkp (fun A hh => walks_tup (es := es) (t := t) (ep := ep) (ps := ps) (by rw [hs1]; exact Nat.ne_of_lt (Nat.lt_succ_of_lt hna)) (by rw [hs1]; exact Nat.ne_of_lt (Nat.lt_succ_self _)) (by rw [hp.length_eq, List.length_range]) (fun i j hij => ?_) hh)
        ⟨Heap.get?_push_size _ rfl, x.at' fun o e => Heap.get?_push_of_some _ (up1 _ o e), _, _, Heap.get?_push_of_some _ htp, rfl⟩ (fun c o e => Heap.get?_push_of_some _ (up1 c o e)) (fun c hc => ?_) (by rw [hs1]; exact Nat.le_succ _)
      · have hj := hps j (List.mem_of_getElem? hij)
        obtain ⟨k, tk, e, e1, e2, e3⟩ := kp_of x.els (i := j) hj
        rw [Array.getElem?_toList] at e2
        refine ⟨k, tk, e, ?_, e2, e3⟩
        rw [List.getElem?_map, hij, Option.map_some]
        have : ks.getD j 0 = k := by simp [List.getD, e1]
        rw [this]
      · simp only [List.mem_cons, List.not_mem_nil, or_false] at hc
        rcases hc with rfl | rfl | rfl
        · right; rw [hs1]; exact Nat.le_succ _
        · exact .inl rfl
        · exact .inr (Nat.le_refl _)
end
end WS


set_option linter.all false
set_option maxRecDepth 100000
namespace WS
open PySem
section
variable {prog : Program} {w : World} {A : Around} {E : Value → Shared → Prop} {s : Shared} {h h' : Heap} {a b f it : Addr} {es eo : Array (Int × Value)} {ep eq : Nat} {t to : SetTable} {ks ls kf kp : List Int}

theorem hint_set {Q : Bool → Shared → Prop} (hT : s.TypeIs (.ref a) "set") (q : Q false s) : wpAny (model prog w) A (Builtin.List.listLengthHint (.ref a)) Q E s := by
  unfold Builtin.List.listLengthHint
  refine wpAny_bind (wpAny_specialOf hT F.slot_set_len.lookup ?_)
  generalize hid : ("set.__len__" : String) = id0
  wp_delta
  rw [show splitId id0 = some ("set", "__len__") from by subst hid; decide +kernel]
  subst hid
  refine wpAny_bind (wpAny_isInstance (T := "set") (b := true) hT sub_set_set ?_)
  refine wpAny_ite ?_
  rw [if_neg (by decide)]
  refine wpAny_ite ?_
  rw [if_pos (by decide +kernel)]
  refine wpAny_bind (wpAny_typeOf hT ?_)
  exact wpAny_pure q

theorem items_ints {acc : Array Value} {n : Nat} (hI : ItemsOf (PInt kp) acc n) (hn : n = kp.length) : Paired (fun (v : Value) (k : Int) => ∃ t, v = Value.int k t) acc.toList kp := by
  subst hn
  have key : ∀ (vs : List Value) (ks : List Int), vs.length = ks.length → (∀ (j : Nat) (v : Value), vs[j]? = some v → ∃ k tk, ks[j]? = some k ∧ v = Value.int k tk) → Paired (fun (v : Value) (k : Int) => ∃ t, v = Value.int k t) vs ks := by
    intro vs
    induction vs with
    | nil =>
      intro ks hl _
      cases ks with
      | nil => exact .nil
      | cons => simp at hl
    | cons v r ih =>
      intro ks hl hj
      cases ks with
      | nil => simp at hl
      | cons k kr =>
        refine .cons ?_ (ih kr (by simpa using hl) fun j u hu => by simpa using hj (j + 1) u (by simpa using hu))
        obtain ⟨k', tk, e1, e2⟩ := hj 0 v rfl
        simp at e1
        subst e1
        exact ⟨tk, e2⟩
  exact key _ _ (by rw [Array.length_toList]; exact hI.1) fun j v hv => hI.2 j v (by rw [← Array.getElem?_toList]; exact hv)

theorem collect_set {Q : List Value → Shared → Prop} (x : IsSet w s.heap a es ep t ks) (hh : A.handled = none)
    (q : ∀ s' vs kp, (∀ c o, s.heap.get? c = some o → s'.heap.get? c = some o) → s.heap.objs.size ≤ s'.heap.objs.size → s'.gens = s.gens → s'.os = s.os → Paired (fun (v : Value) (k : Int) => ∃ t, v = Value.int k t) vs kp → kp.Perm ks → Q vs s') :
    wpAny (model prog w) A (collect (.ref a)) Q E s := by
  have hna : a < s.heap.objs.size := x.lt
  have hn : ks.length ≤ sizeLine := by
    have := x.sz
    rw [x.len] at this
    have h3 : scanBound = 4096 := rfl
    rw [sizeLine_eq]; omega
  unfold collect
  refine wpAny_bind (wpAny_runValue (codeAny_builtin F.entry_proto_collect ?_))
  rw [Around.under_plainId F.plain_proto_collect _]
  show wpAny _ A.in1 (newList [] >>= fun l => again (.builtin "list.__iadd__" ⟨[l, .ref a], []⟩)) _ _ s
  refine wpAny_bind (wpAny_newObj_type ?_)
  refine wpAny_pure ⟨plainId_quiet F.plain_list_iadd _, codeAny_builtin F.entry_list_iadd ?_⟩
  rw [Around.under_plainId F.plain_list_iadd _]
  generalize hS0 : s.heap.objs.size = S
  generalize hH1 : s.heap.push { cls := .type "list", dict := none, data := .seq ([] : List Value).toArray } = h1
  have hs1 : h1.objs.size = S + 1 := by rw [← hH1, Heap.size_push, hS0]
  have up1 : ∀ c o, s.heap.get? c = some o → h1.get? c = some o := fun c o e => by rw [← hH1]; exact Heap.get?_push_of_some _ e
  have hS : h1.get? S = some { cls := .type "list", dict := none, data := .seq ([] : List Value).toArray } := by rw [← hH1, ← hS0]; exact Heap.get?_push_size _ rfl
  have x1 : IsSet w h1 a es ep t ks := x.at' fun o e => up1 _ o e
  have hSa : S ≠ a := by rw [← hS0]; exact Nat.ne_of_gt hna
  show wpAny _ A.in1 (Builtin.List.listExtendWith (.ref S) (.ref a) (.ref S)) _ _ { s with heap := h1 }
  unfold Builtin.List.listExtendWith
  refine wpAny_bind (wpAny_typeOf (T := "set") ⟨_, x1.ob, rfl⟩ ?_)
  have e1 : Builtin.List.listSameRef (.ref S) (.ref a) = false := by simp [Builtin.List.listSameRef, hSa]
  have e2 : (Value.type "set" == Value.type "list") = false := by decide
  have e3 : (Value.type "set" == Value.type "tuple") = false := by decide
  simp only [e1, e2, e3, Bool.or_false, Bool.false_eq_true, if_false]
  refine wpAny_bind (iter_of (s := { s with heap := h1 }) x1 fun h2 d I fp St kp hkp W st0 up2 hfp hI => ?_)
  have hSf : S ∉ fp := fun hm => by
    rcases hfp S hm with c | c
    · exact hSa c
    · rw [hs1] at c; exact absurd c (Nat.not_le.mpr (Nat.lt_succ_self _))
  refine wpAny_bind (wpAny_holding (hint_set ⟨_, up2 _ _ x1.ob, rfl⟩ ?_))
  refine wpAny_ite ?_
  rw [if_pos (by decide +kernel)]
  refine wpAny_bind (wpAny_rule ?_)
  refine wpAny_bind ?_
  show wpAny _ A.in1 (updateSeq S (·.push .none) >>= fun _ => updateSeq S (·.pop)) _ _ _
  have hS2 := up2 S _ hS
  refine wpAny_bind (wpAny_updateSeq hS2 rfl ?_)
  have hS3 := Heap.get?_update_self (Obj.mapSeq (·.push Value.none)) hS2 rfl
  refine wpAny_updateSeq hS3 rfl ?_
  have hS4 := Heap.get?_update_self (Obj.mapSeq (·.pop)) hS3 rfl
  generalize hH4 : (h2.update S (Obj.mapSeq (·.push Value.none))).update S (Obj.mapSeq (·.pop)) = h4 at hS4
  have oth : ∀ c o, c ≠ S → h2.get? c = some o → h4.get? c = some o := fun c o hc e => by
    rw [← hH4]
    exact (Heap.get?_update_other _ _ (Ne.symm hc)).trans ((Heap.get?_update_other _ _ (Ne.symm hc)).trans e)
  have W1 := W A.in1 hh
  refine wpAny_pure ⟨plainId_quiet F.plain_extend_loop _, codeAny_extend_loopS W1.toS hn S hSf (.ref S) ks.length 0 _ _ _ rfl (Nat.zero_le _)
    (W1.frame 0 _ _ st0 fun c hc o e => oth c o (fun h => hSf (h ▸ hc)) e) hS4 (ItemsOf.nil _) fun s' acc' c' hm hS' hacc => ?_⟩
  show wpAny _ A (load S >>= _) _ _ s'
  refine wpAny_bind (wpAny_load hS' ?_)
  refine wpAny_pure (q s' acc'.toList kp (fun c o e => ?_) (by rw [hS0]; exact Nat.le_of_lt (Heap.lt_size hS')) hm.gens hm.os (items_ints hacc (by rw [hkp.length_eq])) hkp)
  have hlt : c < S := by rw [← hS0]; exact Heap.lt_size e
  refine hm.heap c o (fun hb => ?_) (oth c o (Nat.ne_of_lt hlt) (up2 c o (up1 c o e)))
  rcases List.mem_cons.mp hb with r | r
  · exact absurd hlt (r ▸ Nat.lt_irrefl _)
  · rw [List.mem_singleton.mp r] at hlt
    rw [hs1] at hI
    exact absurd (Nat.lt_trans hlt (Nat.lt_succ_self S)) (Nat.not_lt.mpr hI)
end
end WS


set_option linter.all false
set_option maxRecDepth 100000
namespace WS
open PySem PyProof.Rows
section
variable {prog : Program} {w : World} {A : Around} {E : Value → Shared → Prop} {s : Shared} {h h' : Heap} {a b f it : Addr} {es eo : Array (Int × Value)} {ep eq : Nat} {t to : SetTable} {ks ls kf kp : List Int}

theorem ints_of_paired : ∀ {vs : List Value} {ks : List Int}, Paired (fun (v : Value) (k : Int) => ∃ t, v = Value.int k t) vs ks → IntsAre vs ks
  | _, _, .nil => .nil
  | _, _, .cons ⟨t, e⟩ r => by subst e; exact .cons _ _ (ints_of_paired r)

set_option maxHeartbeats 2000000 in
theorem sorted_set {Q : Value → Shared → Prop} (x : IsSet w s.heap a es ep t ks) (hh : A.handled = none) (h64 : ks.length < 64)
    (q : ∀ (s' : Shared) (l : Addr) (vs : List Value) (ns : List Int) (n : Nat), (∀ c o, s.heap.get? c = some o → s'.heap.get? c = some o) → s'.gens = s.gens → s'.os = s.os → s.heap.objs.size ≤ l →
      s'.heap.get? l = some { cls := .type "list", data := .seq vs.toArray n } → IntsAre vs ns → ns.Perm ks → ns.Pairwise (· ≤ ·) → Q (.ref l) s') :
    wpAny (model prog w) A (call (.builtin "sorted") [.ref a]) Q E s := by
  refine Calls.call_function_entry kind_sorted plain_sorted entry_sorted (args_sorted1 _) ?_
  unfold Builtin.«sorted»
  refine wpAny_bind (m := checkCount "sorted" 1 1 _) (wpAny_pure ?_)
  refine wpAny_bind (collect_set (A := A.in1) x hh fun s1 vs kp up hle hg ho hP hp => ?_)
  have hI : IntsAre vs kp := ints_of_paired hP
  have hl64 : vs.length < 64 := by rw [hP.length, hp.length_eq]; exact h64
  refine wpAny_bind (wpAny_newList ?_)
  have hoL : (s1.heap.push (seqObj "list" vs.toArray 0)).get? s1.heap.objs.size = some (seqObj "list" vs.toArray 0) := Heap.get?_push_size _ rfl
  refine wpAny_bind (wpAny_holding (wpAny_call_entry (s := { s1 with heap := s1.heap.push (seqObj "list" vs.toArray 0) }) slot_list_sort ⟨_, hoL, rfl⟩ entry_list_sort (list_sort_tree hoL hI hl64 fun out ns' a1 a2 a3 => ⟨_, rfl, ?_⟩) (args_list_sort _)))
  refine wpAny_pure ⟨_, rfl, ?_⟩
  obtain ⟨e, he⟩ := sortedHeap_at (out := out) hoL
  refine q _ s1.heap.objs.size out.toList ns' e (fun c o hc => ?_) hg ho hle (by rw [Array.toArray_toList]; exact he) a1 (a2.trans hp) a3
  have hlt := Heap.lt_size (up c o hc)
  show (sortedHeap _ _ _ _).get? c = _
  rw [sortedHeap_old (Nat.ne_of_lt hlt) (by rw [size_push']; exact Nat.lt_succ_of_lt hlt)]
  exact Heap.get?_push_of_some _ (up c o hc)

/-! ### set(a list of ints) -/
theorem set_loop {R : Result → Shared → Prop} {I : Addr} {fp wr : List Addr} {G : Array GenState → Array GenState → Prop} {n : Nat} {P : Nat → Value → Prop} {St : Nat → Shared → Prop}
    (W : WalksS prog w A.in1 I fp wr G n P St) (S : Addr) (hSf : S ∉ fp) (ns : List Int) (hval : ∀ i v, P i v → ∃ k tk, ns[i]? = some k ∧ v = .int k tk) (hb : n + 1 < scanBound) :
    ∀ (k i : Nat) (s : Shared) (kr : List Int), n - i = k → i ≤ n → St i s → IntSet w s.heap S kr → kr.length ≤ i → (∀ k', k' ∈ kr ↔ k' ∈ ns.take i) →
      (∀ s' kr', Moved (S :: wr) G s s' → IntSet w s'.heap S kr' → kr'.length ≤ n → (∀ k', k' ∈ kr' ↔ k' ∈ ns.take n) → R (.ok (.ret .none)) s') →
      codeAny (model prog w) A (.builtin "set.update.loop" ⟨[.ref S, .ref I], []⟩) R s := by
  have hSw : S ∉ wr := fun h => hSf (W.sub _ h)
  have hsub : ∀ b ∈ wr, b ∈ S :: wr := fun b hb => List.mem_cons_of_mem _ hb
  intro k
  induction k with
  | zero =>
    intro i s kr hk hi hst hS hl hm hR
    have hin : i = n := by omega
    subst hin
    refine codeAny_builtin F.entry_set_update_loop ?_
    rw [Around.under_plainId F.plain_set_update_loop _]
    show wpAny _ A.in1 (pyNext (.ref I) >>= _) _ _ s
    refine wpAny_bind (W.done s _ _ hst fun s' hmv => ?_)
    show wpAny _ A.in1 (ret Value.none) _ _ s'
    exact wpAny_pure (hR s' kr (hmv.mono hsub) (hS.at' fun o e => hmv.heap S _ hSw e) hl hm)
  | succ k ih =>
    intro i s kr hk hi hst hS hl hm hR
    have hlt : i < n := by omega
    refine codeAny_builtin F.entry_set_update_loop ?_
    rw [Around.under_plainId F.plain_set_update_loop _]
    show wpAny _ A.in1 (pyNext (.ref I) >>= _) _ _ s
    refine wpAny_bind (W.item i s _ _ hlt hst fun v s' hP hst' hmv => ?_)
    obtain ⟨kk, t, hkk, rfl⟩ := hval i v hP
    obtain ⟨es, ep, tb, x⟩ := hS.at' (h' := s'.heap) fun o e => hmv.heap S _ hSw e
    have htake : ns.take (i + 1) = ns.take i ++ [kk] := by rw [List.take_add_one, hkk]; rfl
    show wpAny _ A.in1 (holding [Value.int kk t] (setAdd S (.int kk t)) >>= _) _ _ s'
    refine wpAny_bind (wpAny_holding ?_)
    unfold setAdd
    refine wpAny_holding ?_
    refine wpAny_bind ((intKind prog w).pyHash (k := kk) (v := .int kk t) (by simp [intKind, Value.isInt]) ?_)
    have hroom : kr.length + 1 < scanBound := by omega
    refine add_of (s := { s' with toks := s'.toks + 1 }) x hroom (fun hin => ?_) fun hnin h' ks' hsb hS2 hp2 => ?_
    · refine wpAny_pure ⟨plainId_quiet F.plain_set_update_loop _, ih (i + 1) _ kr (by omega) hlt (W.frame _ s' _ _ hst' (Nat.le_succ _) fun b hb o e => e) ⟨_, _, _, x⟩ (by omega) (fun k' => ?_) fun s'' kr'' hm'' hS'' h1 h2 => ?_⟩
      · rw [htake, List.mem_append, List.mem_singleton, ← hm k']
        exact ⟨.inl, fun c => c.elim id fun c => c ▸ hin⟩
      · exact hR s'' kr'' (Moved.trans W.gtrans ((hmv.mono hsub).then_heap (Nat.le_succ _) fun b o hb e => e) hm'') hS'' h1 h2
    · refine wpAny_pure ⟨plainId_quiet F.plain_set_update_loop _, ih (i + 1) _ ks' (by omega) hlt (W.frame _ s' _ _ hst' (Nat.le_succ _) fun b hb o e => ?_) hS2 (by rw [hp2.length_eq, List.length_append]; simp; omega) (fun k' => ?_) fun s'' kr'' hm'' hS'' h1 h2 => ?_⟩
      · rw [hsb.2 b (fun h : b = S => hSf (by rw [← h]; exact hb))]; exact e
      · rw [hp2.mem_iff, htake, List.mem_append, List.mem_append, hm k']
      · refine hR s'' kr'' (Moved.trans W.gtrans ((hmv.mono hsub).then_heap (Nat.le_succ _) fun b o hb e => ?_) hm'') hS'' h1 h2
        rw [hsb.2 b (fun h : b = S => hb (by rw [h]; exact List.mem_cons_self))]; exact e

/-- the new set, with what its table says -/
theorem set_made (v : Value) {Q₁ : Value → Shared → Prop}
    (q : Q₁ (.ref s.heap.objs.size) { s with heap := s.heap.push { cls := .type "set", dict := none, data := .set #[] 0 (.fresh 0 0 (ledW w)) } }) :
    codeAny (model prog w) A (.call (.builtin "set.__new__") ⟨[.type "set", v], []⟩) (wants Q₁ E) s := by
  refine codeAny_of_tree ?_
  show wpAny _ A.in1 (checkBuiltinCall "set.__new__" ⟨[.type "set", v], []⟩ >>= fun _ => again (.builtin "set.__new__" ⟨[.type "set", v], []⟩)) _ _ s
  refine wpAny_bind (wpAny_of_eq (F.newCall_set_1 v) (wpAny_pure ⟨plainId_quiet F.plain_set_new _, codeAny_builtin F.entry_set_new ?_⟩))
  rw [Around.under_plainId F.plain_set_new _]
  unfold Builtin.«set.__new__» Builtin.Frozenset.newClass
  have hsub := sub_set_set
  obtain ⟨hp, g, d, tk, os⟩ := s
  dsimp only
  wp_walk
  refine wpAny_askSetting (wpAny_pure ?_)
  dsimp only
  simp only [newObj]
  refine wpAny_bind (wpAny_alloc (wpAny_pure ?_))
  exact wpAny_pure q

set_option maxHeartbeats 4000000 in
theorem call_set {l : Addr} {vs : List Value} {ns : List Int} {Q : Value → Shared → Prop}
    (hh : A.handled = none) (hl : s.heap.IsList l vs.toArray) (hi : IntsAre vs ns) (hb : vs.length ≤ 1000)
    (q : ∀ (h' : Heap) (tk : Nat) (kr : List Int), IntSet w h' s.heap.objs.size kr → kr.length ≤ ns.length → (∀ k, k ∈ kr ↔ k ∈ ns) → (∀ c o, s.heap.get? c = some o → h'.get? c = some o) → Q (.ref s.heap.objs.size) { s with heap := h', toks := tk }) :
    wpAny (model prog w) A (call (.type "set") [.ref l]) Q E s := by
  obtain ⟨c, tl, hmro⟩ := F.called_set.mro
  have hmade := F.called_set.made
  have hsub := F.called_set.sub
  have hlen : vs.length = ns.length := IntsAre.length hi
  refine wpAny_call (codeAny_of_tree ?_)
  show wpAny _ _ (callAny (.type "set") _) _ _ _
  refine wpAny_pure ⟨Code.quiet_builtin _ (by decide +kernel), codeAny_builtin F.entry_type_call ?_⟩
  rw [Around.under_plain (weight_type_call_type "set" [.ref l] []) rfl]
  have h1 := F.called_set.notType
  have h2 := F.called_set.canCreate
  have hct := F.typeCall_set_1 (.ref l)
  repeat (any_goals (first | assumption | wp_step))
  refine codeAny_mono (set_made (.ref l) (E := E) (Q₁ := fun obj s₁ => obj = .ref s.heap.objs.size ∧ s₁ = { s with heap := s.heap.push { cls := .type "set", dict := none, data := .set #[] 0 (.fresh 0 0 (ledW w)) } }) ⟨rfl, rfl⟩) fun r s₁ hr => ?_
  cases r with
  | error e => exact hr
  | ok fl =>
    cases fl with
    | ret obj =>
      obtain ⟨rfl, rfl⟩ := hr
      generalize hH : s.heap.push { cls := .type "set", dict := none, data := .set #[] 0 (.fresh 0 0 (ledW w)) } = h1
      have hg : h1.get? s.heap.objs.size = some { cls := .type "set", dict := none, data := .set #[] 0 (.fresh 0 0 (ledW w)) } := by rw [← hH]; exact Heap.get?_push_size _ rfl
      have up1 : ∀ c o, s.heap.get? c = some o → h1.get? c = some o := fun c o e => by rw [← hH]; exact Heap.get?_push_of_some _ e
      have hsz : h1.objs.size = s.heap.objs.size + 1 := by rw [← hH, Heap.size_push]
      have hT : Shared.TypeIs { s with heap := h1 } (.ref s.heap.objs.size) "set" := ⟨_, hg, rfl⟩
      have hli := F.called_set.init.lookup
      have hbi := F.called_set.init.bind (.ref s.heap.objs.size)
      repeat (any_goals (first | assumption | wp_step))
      refine codeAny_mono (codeAny_call_builtin (R := wants (fun r s₂ => r = .none ∧ ∃ h' tk kr, s₂ = { s with heap := h', toks := tk } ∧
          IntSet w h' s.heap.objs.size kr ∧ kr.length ≤ ns.length ∧ (∀ k, k ∈ kr ↔ k ∈ ns) ∧ (∀ c o, s.heap.get? c = some o → h'.get? c = some o)) E) F.called_set.init.plain F.entry_set_init (check_set_init_1 hT ?_)) fun r₂ s₂ hr₂ => ?_
      · obtain ⟨ol, hol, hcl, nl, hdl⟩ := hl
        obtain ⟨ocls, odict, odata, oslots⟩ := ol
        simp only at hcl hdl
        subst hcl; subst hdl
        have hol' : h1.get? l = some { cls := .type "list", dict := odict, data := .seq vs.toArray nl, slots := oslots } := up1 _ _ hol
        have hsls := F.sub_list_set
        have hslf := F.sub_list_frozenset
        have hne : (Value.type "list" == Value.type "dict") = false := by decide
        have hl1 : h1.IsList l vs.toArray := ⟨_, hol', rfl, nl, rfl⟩
        unfold Builtin.«set.__init__» noKeywords Builtin.Frozenset.updateFrom
        generalize hPI : pyIter = PI
        wp_walk
        subst hPI
        refine wpAny_pyIter_list hl1 ?_
        refine wpAny_bind (wpAny_runValue ?_)
        have hlS : l < s.heap.objs.size := Heap.lt_size hol
        have hh3 : A.in1.in1.in1.handled = none := by simp [hh]
        have hneI : l ≠ h1.objs.size := by rw [hsz]; exact Nat.ne_of_lt (Nat.lt_succ_of_lt hlS)
        have hSf : s.heap.objs.size ∉ [h1.objs.size, l] := by
          rw [hsz]
          simp only [List.mem_cons, List.mem_singleton, List.not_mem_nil, or_false, not_or]
          exact ⟨Nat.ne_of_lt (Nat.lt_succ_self _), Nat.ne_of_gt hlS⟩
        have hval : ∀ (i : Nat) (v : Value), vs.toArray[i]? = some v → ∃ k tk, ns[i]? = some k ∧ v = .int k tk := fun i v hv => by
          rw [List.getElem?_toArray] at hv
          clear q hb hlen hol hol' hl1
          induction hi generalizing i with
          | nil => simp at hv
          | cons n t _ ih =>
            cases i with
            | zero => simp at hv; exact ⟨n, t, rfl, hv.symm⟩
            | succ i => simpa using ih i (by simpa using hv)
        have hn0 : vs.toArray.size = vs.length := List.size_toArray
        refine set_loop (Walks.list hh3 _ l hneI vs.toArray).toS s.heap.objs.size hSf ns hval (by rw [hn0]; unfold scanBound; omega) (vs.toArray.size - 0) 0 _ [] (by omega) (Nat.zero_le _)
          ⟨⟨_, Heap.get?_push_size _ rfl, rfl, rfl⟩, (hl1.push _)⟩ ⟨_, _, _, fresh_set rfl (Heap.get?_push_of_some _ hg)⟩ (Nat.le_refl _) (fun k' => by simp) ?_
        intro s' kr hm hS' hlk hmem
        obtain ⟨h', g', d', tk', os'⟩ := s'
        have eg : g' = s.gens := hm.gens
        have ed : d' = s.drawn := hm.drawn
        have eo : os' = s.os := hm.os
        subst eg; subst ed; subst eo
        show wpAny _ _ _ _ _ _
        refine wpAny_pure ?_
        show wpAny _ _ (ret Value.none) _ _ _
        rw [hn0] at hlk hmem
        refine wpAny_pure ⟨rfl, h', tk', kr, rfl, hS', by omega, fun k => by rw [hmem k, List.take_of_length_le (by omega)], fun b o e => ?_⟩
        have hb0 := Heap.lt_size e
        refine hm.heap b o ?_ (Heap.get?_push_of_some _ (up1 b o e))
        simp only [List.mem_cons, List.mem_singleton, List.not_mem_nil, or_false, not_or]
        exact ⟨Nat.ne_of_lt hb0, by rw [hsz]; exact Nat.ne_of_lt (Nat.lt_succ_of_lt hb0)⟩
      · cases r₂ with
        | error e => exact hr₂
        | ok fl₂ =>
          cases fl₂ with
          | ret r =>
            obtain ⟨rfl, h', tk, kr, rfl, hS', h3, h4, hk'⟩ := hr₂
            repeat (any_goals (first | assumption | wp_step))
            exact q _ _ _ hS' h3 h4 hk'
          | _ => exact hr₂.elim
    | _ => exact hr.elim
end
end WS


set_option linter.all false
set_option maxRecDepth 100000
namespace WT
open PySem PyProof.Rows
open WS

section
variable (prog : Program) (w : World)
def Els (es : List (Int × Value)) (ks : List Str) : Prop := Paired (fun (e : Int × Value) k => e.1 = hashStr w k ∧ ∃ t, e.2 = Value.str k t) es ks
structure IsSet (h : Heap) (a : Addr) (es : Array (Int × Value)) (ep : Nat) (t : SetTable) (ks : List Str) : Prop where
  ob : h.get? a = some { cls := .type "set", dict := none, data := .set es ep t, slots := #[] }
  els : Els w es.toList ks
  nd : ks.Nodup
  sz : es.size < scanBound
  fit : t.fits es.size = true
  led : t.led = ledW w
  ris : Ris t.place
def StrSet (h : Heap) (a : Addr) (ks : List Str) : Prop := ∃ es ep t, IsSet w h a es ep t ks
end
section
variable {prog : Program} {w : World} {A : Around} {E : Value → Shared → Prop} {s : Shared} {h h' : Heap} {a b f it : Addr} {es eo : Array (Int × Value)} {ep eq : Nat} {t to : SetTable} {ks ls kf kp : List Str}
theorem Els.length {l : List (Int × Value)} (h : Els w l ks) : l.length = ks.length := Paired.length h
theorem Els.elems : ∀ {l : List (Int × Value)} {ks : List Str}, Els w l ks → ElemsOf (PySem.strKind prog w) l
  | _, _, .nil => fun e he => by cases he
  | _, _, .cons (a := e0) (b := k) h t => fun e he => by
    rcases List.mem_cons.mp he with rfl | he
    · obtain ⟨h1, tk, h2⟩ := h
      exact ⟨⟨k, by rw [h2]; simp [PySem.strKind, Value.isStrOf], h1⟩, by rw [h2]; rfl⟩
    · exact Els.elems t e he
theorem Els.get : ∀ {l : List (Int × Value)} {ks : List Str} {i : Nat} {e : Int × Value}, Els w l ks → l[i]? = some e → ∃ k, ks[i]? = some k ∧ e.1 = hashStr w k ∧ ∃ t, e.2 = Value.str k t
  | _, _, _, _, .nil, h => by simp at h
  | _, _, 0, e, .cons (b := k) h _, he => by simp at he; subst he; exact ⟨k, rfl, h⟩
  | _, _, i + 1, e, .cons _ t, he => by simpa using Els.get (i := i) t (by simpa using he)
theorem Els.perm : ∀ {l l' : List (Int × Value)}, l'.Perm l → ∀ {ks : List Str}, Els w l ks → ∃ ks', Els w l' ks' ∧ ks'.Perm ks := by
  intro l l' p
  induction p with
  | nil => intro ks h; exact ⟨ks, h, .refl _⟩
  | cons x p ih =>
    intro ks h
    cases h with
    | cons h t => obtain ⟨ks', a, b⟩ := ih t; exact ⟨_ :: ks', .cons h a, b.cons _⟩
  | swap x y l =>
    intro ks h
    cases h with
    | cons h t => cases t with | cons h2 t => exact ⟨_, .cons h2 (.cons h t), .swap ..⟩
  | trans p q ih1 ih2 =>
    intro ks h
    obtain ⟨k1, a1, b1⟩ := ih2 h
    obtain ⟨k2, a2, b2⟩ := ih1 a1
    exact ⟨k2, a2, b2.trans b1⟩
theorem IsSet.lt (x : IsSet w h a es ep t ks) : a < h.objs.size := Heap.lt_size x.ob
theorem IsSet.at' (x : IsSet w h a es ep t ks) (e : ∀ o, h.get? a = some o → h'.get? a = some o) : IsSet w h' a es ep t ks := ⟨e _ x.ob, x.els, x.nd, x.sz, x.fit, x.led, x.ris⟩
theorem StrSet.at' (x : StrSet w h a ks) (e : ∀ o, h.get? a = some o → h'.get? a = some o) : StrSet w h' a ks := let ⟨es, ep, t, y⟩ := x; ⟨es, ep, t, y.at' e⟩
theorem IsSet.len (x : IsSet w h a es ep t ks) : es.size = ks.length := by rw [← Array.length_toList]; exact x.els.length
theorem IsSet.typeIs (x : IsSet w s.heap a es ep t ks) : s.TypeIs (.ref a) "set" := ⟨_, x.ob, rfl⟩
theorem state_of {Q : (Array (Int × Value) × Nat × SetTable) → Shared → Prop} (x : IsSet w s.heap a es ep t ks) (q : Q (es, ep, t) s) : wpAny (model prog w) A (setState a) Q E s := wpAny_setState_of x.ob rfl x.fit q
theorem epoch_of {Q : Nat → Shared → Prop} (x : IsSet w s.heap a es ep t ks) (q : Q ep s) : wpAny (model prog w) A (setEpoch a) Q E s := wpAny_setEpoch_of x.ob rfl x.fit q
theorem entries_of {Q : Array (Int × Value) → Shared → Prop} (x : IsSet w s.heap a es ep t ks) (q : Q es s) : wpAny (model prog w) A (setEntries a) Q E s := wpAny_setEntries_of x.ob rfl x.fit q
theorem store_of {es' : Array (Int × Value)} {t' : SetTable} {Q : Unit → Shared → Prop} (x : IsSet w s.heap a es ep t ks) (hz : es'.size < scanBound)
    (q : ∀ h', h'.get? a = some { cls := .type "set", dict := none, data := .set es' (ep + 1) t', slots := #[] } → Heap.SameBut a s.heap h' → Q () { s with heap := h' }) :
    wpAny (model prog w) A (storeSet a es' t') Q E s := by
  refine wpAny_storeSet_of x.ob rfl ?_ (fits_of_scanBound hz)
  refine q _ ?_ (Heap.SameBut.update s.heap a (Obj.putSet es' t'))
  have := Heap.get?_update_self (Obj.putSet es' t') x.ob (by rw [putSet_of es' t' rfl]; rfl)
  rw [putSet_of es' t' rfl] at this
  exact this
theorem nodup_snoc {k : Str} (h : ks.Nodup) (hk : k ∉ ks) : (ks ++ [k]).Nodup := by
  rw [List.nodup_append]
  exact ⟨h, by simp, fun a ha b hb e => by simp at hb; subst hb; subst e; exact hk ha⟩
theorem Els.snoc {l : List (Int × Value)} {k : Str} {tk : Tok} (h : Els w l ks) : Els w (l ++ [(hashStr w k, Value.str k tk)]) (ks ++ [k]) := Paired.snoc h ⟨rfl, tk, rfl⟩
theorem add_of {k : Str} {tk : Tok} {Q : Bool → Shared → Prop} (x : IsSet w s.heap a es ep t ks) (hroom : ks.length + 1 < scanBound)
    (q0 : k ∈ ks → Q false s) (q1 : k ∉ ks → ∀ h' ks', Heap.SameBut a s.heap h' → StrSet w h' a ks' → ks'.Perm (ks ++ [k]) → Q true { s with heap := h' }) :
    wpAny (model prog w) A (setAddHashed a (.str k tk) (hashStr w k)) Q E s := by
  have hel : ElemsOf (PySem.strKind prog w) es.toList := x.els.elems
  have hkey : (PySem.strKind prog w).is k (.str k tk) = true := by simp [PySem.strKind, Value.isStrOf]
  show wpAny _ _ (setAddHashed a (.str k tk) ((PySem.strKind prog w).hash k)) _ _ _
  unfold setAddHashed setAddHashedIn
  refine wpAny_holding (wpAny_bind (state_of x ?_))
  dsimp only
  rw [byScan_of (knd := PySem.strKind prog w) (x := Value.str k tk) rfl x.sz hel]
  simp only [↓reduceIte]
  unfold setAddByScan
  refine wpAny_bind ?_
  refine wpAny_bind (wpAny_rule ?_)
  refine wpAny_bind (wpAny_setScan_of hkey x.ob rfl x.fit hel ?_)
  cases hr : List.findIdx? (fun e => (PySem.strKind prog w).is k e.2) es.toList with
  | some j =>
    dsimp only
    obtain ⟨hj, hpj, _⟩ := List.findIdx?_eq_some_iff_getElem.mp hr
    obtain ⟨k', e1, _, tk', e2⟩ := x.els.get (List.getElem?_eq_getElem hj)
    rw [e2] at hpj
    have : k' = k := by simp [PySem.strKind, Value.isStrOf] at hpj; exact hpj
    subst this
    exact wpAny_pure (wpAny_pure (q0 (List.mem_of_getElem? e1)))
  | none =>
    dsimp only
    have hk : k ∉ ks := fun hk => by
      obtain ⟨i, hi, hki⟩ := List.mem_iff_getElem.mp hk
      have hi2 : i < es.toList.length := by rw [x.els.length]; exact hi
      obtain ⟨k', e1, _, tk', e2⟩ := x.els.get (List.getElem?_eq_getElem hi2)
      rw [List.getElem?_eq_getElem hi, hki] at e1
      cases e1
      have := List.findIdx?_eq_none_iff.mp hr _ (List.getElem_mem hi2)
      rw [e2] at this
      simp [PySem.strKind, Value.isStrOf] at this
    have hgw : ∀ (b : Bool) {s₁ : Shared} {Q' : Unit → Shared → Prop}, Q' () s₁ → wpAny (model prog w) A (match b with | true => rule "set.scan.the-table-gave-way" | false => pure ()) Q' E s₁ :=
      fun b s₁ Q' hq => by cases b <;> first | exact wpAny_pure hq | exact wpAny_rule hq
    have hperm := layNew_perm t es ((PySem.strKind prog w).hash k) (.str k tk)
    have hfits := layNew_fits t es ((PySem.strKind prog w).hash k) (.str k tk)
    have hris := layNew_ris t es ((PySem.strKind prog w).hash k) (.str k tk) x.ris
    generalize hL : layNew t es ((PySem.strKind prog w).hash k) (.str k tk) = L at hperm hfits hris ⊢
    obtain ⟨es1, t1, wasDummy, gave⟩ := L
    dsimp only at hperm hfits hris ⊢
    rw [Array.toList_push] at hperm
    obtain ⟨ks1, hE1, hp1⟩ := Els.perm hperm (x.els.snoc (k := k) (tk := tk))
    have hnd1 : ks1.Nodup := hp1.nodup_iff.mpr (nodup_snoc x.nd hk)
    have hsz1 : es1.size = ks.length + 1 := by rw [← Array.length_toList, hE1.length, hp1.length_eq, List.length_append]; rfl
    have hb1 : es1.size < scanBound := by rw [hsz1]; exact hroom
    refine wpAny_bind (hgw _ ?_)
    have hf1 : ∀ (c : Bool), ((if c = true then t1 else { t1 with plain := false }) : SetTable).fits es1.size = true ∧ ((if c = true then t1 else { t1 with plain := false }) : SetTable).led = ledW w ∧ Ris ((if c = true then t1 else { t1 with plain := false }) : SetTable).place := fun c => by
      have hl : t1.led = ledW w := hris.2.trans x.led
      cases c with
      | true => exact ⟨hfits, hl, hris.1⟩
      | false => exact ⟨SetTable.fits_plain_off hfits, hl, hris.1⟩
    have tail : ∀ (t2 : SetTable) (g : Bool → Sem Unit), (∀ (b : Bool) (s₁ : Shared) (Q' : Unit → Shared → Prop), Q' () s₁ → wpAny (model prog w) A (g b) Q' E s₁) → t2.fits es1.size = true → t2.led = ledW w → Ris t2.place →
        wpAny (model prog w) A (do
        storeSet a es1 t2
        if (!wasDummy && t2.tooFull) = true then do
            g (relayAll t2 es1 (SetTable.grown es1.size)).2.2
            storeSet a (relayAll t2 es1 (SetTable.grown es1.size)).1 (relayAll t2 es1 (SetTable.grown es1.size)).2.1
            pure (some true)
          else pure (some true)) (fun r s' => r = some true ∧ Q true s') E s := by
      intro t2 g hg f2 l2 r2
      refine wpAny_bind (store_of x hb1 fun h1 ho1 hs1 => ?_)
      have x1 : IsSet w h1 a es1 (ep + 1) t2 ks1 := ⟨ho1, hE1, hnd1, hb1, f2, l2, r2⟩
      split
      · have hp := relayAll_perm t2 es1 (SetTable.grown es1.size)
        have hfr := relayAll_fits t2 es1 (SetTable.grown es1.size)
        have hrr := relayAll_ris t2 es1 (SetTable.grown es1.size)
        generalize hRl : relayAll t2 es1 (SetTable.grown es1.size) = Rl at hp hfr hrr ⊢
        obtain ⟨es2, t3, gave2⟩ := Rl
        dsimp only at hp hfr hrr ⊢
        obtain ⟨ks2, hE2, hp2⟩ := Els.perm hp hE1
        have hsz2 : es2.size = es1.size := by rw [← Array.length_toList, hp.length_eq, Array.length_toList]
        refine wpAny_bind (hg _ _ _ ?_)
        refine wpAny_bind (store_of (s := { s with heap := h1 }) x1 (by rw [hsz2]; exact hb1) fun h2 ho2 hs2 => ?_)
        exact wpAny_pure ⟨rfl, q1 hk h2 ks2 (hs1.trans hs2) ⟨es2, _, t3, ho2, hE2, hp2.nodup_iff.mpr hnd1, by rw [hsz2]; exact hb1, hfr, hrr.2.trans l2, hrr.1⟩ (hp2.trans hp1)⟩
      · exact wpAny_pure ⟨rfl, q1 hk h1 ks1 hs1 ⟨es1, _, t2, x1⟩ hp1⟩
    split
    · refine wpAny_bind ?_
      rw [hashByValue_scannable 8 (x := Value.str k tk) rfl]
      refine wpAny_pure ?_
      refine wpAny_mono (tail _ _ ?_ (hf1 _).1 (hf1 _).2.1 (hf1 _).2.2) (fun r s' hr' => ?_) fun _ _ e => e
      · intro b s₁ Q' hq; cases b <;> first | exact wpAny_pure hq | exact wpAny_rule hq
      · obtain ⟨rfl, hr'⟩ := hr'
        exact wpAny_pure hr'
    · refine wpAny_bind (wpAny_pure ?_)
      simp only [↓reduceIte]
      refine wpAny_mono (tail t1 _ ?_ (hf1 true).1 (hf1 true).2.1 (hf1 true).2.2) (fun r s' hr' => ?_) fun _ _ e => e
      · intro b s₁ Q' hq; cases b <;> first | exact wpAny_pure hq | exact wpAny_rule hq
      · obtain ⟨rfl, hr'⟩ := hr'
        exact wpAny_pure hr'
theorem fresh_set {led : Bool} (hl : led = ledW w) (ho : h.get? a = some { cls := .type "set", dict := none, data := .set #[] 0 (.fresh 0 0 led), slots := #[] }) : IsSet w h a #[] 0 (.fresh 0 0 led) [] :=
  ⟨ho, .nil, List.nodup_nil, by decide, rfl, hl, List.Pairwise.nil⟩
theorem sizeOf_of {Q : Nat → Shared → Prop} (x : IsSet w s.heap a es ep t ks) (q : Q ks.length s) : wpAny (model prog w) A (Builtin.Frozenset.sizeOf a) Q E s := by
  unfold Builtin.Frozenset.sizeOf
  exact wpAny_bind (entries_of x (wpAny_pure (by rw [x.len]; exact q)))
theorem place_size (x : IsSet w h a es ep t ks) : t.place.size = ks.length ∧ t.fill ≤ t.mask := by
  have := x.fit
  simp only [SetTable.fits, Bool.and_eq_true, beq_iff_eq, decide_eq_true_eq] at this
  exact ⟨this.1.trans x.len, this.2⟩
theorem next_int_some {slot i nx : Nat} {v : Value} {Q : Option Value → Shared → Prop} (hit : s.heap.get? it = some (sitObj #[.int slot 0, .int i 0, .ref a, .int ks.length 0, .int ep 0])) (x : IsSet w s.heap a es ep t ks)
    (hr : ∀ (A : Around) (E : Value → Shared → Prop) (Q1 : Option (Value × Nat) → Shared → Prop), Q1 (some (v, nx)) s → wpAny (model prog w) A (setNext a slot i ep) Q1 E s)
    (q : ∀ h', h'.get? it = some (sitObj #[.int nx 0, .int (i + 1 : Nat) 0, .ref a, .int ks.length 0, .int ep 0]) → Heap.SameBut it s.heap h' → Q (some v) { s with heap := h' }) :
    wpAny (model prog w) A (pyNext (.ref it)) Q E s := by
  unfold pyNext
  refine wpAny_bind (wpAny_attempt (wpAny_callSpecial?_slot (name := Str.ofString "__next__") (sit_type hit) slot_set_iterator_next
    (wpAny_call_entry slot_set_iterator_next (sit_type hit) entry_set_iterator_next ?_ (args_set_iterator_next_1 _))))
  unfold Builtin.«set_iterator.__next__»
  refine wpAny_bind (m := slotArgs "__next__" 0 _) (wpAny_pure ?_)
  refine wpAny_bind (wpAny_fieldsOf hit rfl ?_)
  dsimp only
  refine wpAny_bind (entries_of x ?_)
  have hsz : ((es.size : Int) != (ks.length : Int)) = false := by rw [x.len]; simp
  rw [hsz]
  simp only [Bool.false_eq_true, if_false]
  refine wpAny_bind (hr _ _ _ ?_)
  dsimp only
  refine wpAny_bind (wpAny_setField_rec hit (by simp) fun h1 hg1 hs1 => ?_)
  refine wpAny_bind (wpAny_setField_rec (s := { s with heap := h1 }) hg1 (by simp) fun h2 hg2 hs2 => ?_)
  refine wpAny_pure ⟨_, rfl, ?_⟩
  refine wpAny_pure (q h2 ?_ (hs1.trans hs2))
  rw [hg2]
  rfl
theorem next_int_none {slot i : Nat} {Q : Option Value → Shared → Prop} (hh : A.handled = none) (hit : s.heap.get? it = some (sitObj #[.int slot 0, .int i 0, .ref a, .int ks.length 0, .int ep 0])) (x : IsSet w s.heap a es ep t ks)
    (hr : ∀ (A : Around) (E : Value → Shared → Prop) (Q1 : Option (Value × Nat) → Shared → Prop), Q1 none s → wpAny (model prog w) A (setNext a slot i ep) Q1 E s)
    (q : ∀ h', Heap.ExtBut it s.heap h' → Q none { s with heap := h' }) :
    wpAny (model prog w) A (pyNext (.ref it)) Q E s := by
  unfold pyNext
  refine wpAny_bind (wpAny_attempt (wpAny_callSpecial?_slot (name := Str.ofString "__next__") (sit_type hit) slot_set_iterator_next
    (wpAny_call_entry slot_set_iterator_next (sit_type hit) entry_set_iterator_next ?_ (args_set_iterator_next_1 _))))
  unfold Builtin.«set_iterator.__next__»
  refine wpAny_bind (m := slotArgs "__next__" 0 _) (wpAny_pure ?_)
  refine wpAny_bind (wpAny_fieldsOf hit rfl ?_)
  dsimp only
  refine wpAny_bind (entries_of x ?_)
  have hsz : ((es.size : Int) != (ks.length : Int)) = false := by rw [x.len]; simp
  rw [hsz]
  simp only [Bool.false_eq_true, if_false]
  refine wpAny_bind (hr _ _ _ ?_)
  dsimp only
  refine wpAny_bind (wpAny_setField_rec hit (by simp) fun h1 hg1 hs1 => ?_)
  show wpAny _ _ (newExc (.type "StopIteration") [] >>= _) _ _ _
  refine wpAny_bind ?_
  simp only [newExc, newTuple]
  refine wpAny_bind (wpAny_newObj_type ?_ (by size_fits))
  refine wpAny_bind (m := firstArgMember _ _) (wpAny_of_eq (a := Value.none) (by first | rfl | (simp only [firstArgMember]; rfl)) ?_)
  refine wpAny_newObj_type ?_ (by size_fits)
  simp only [raiseNew]
  refine wpAny_bind (wpAny_handled ?_)
  rw [show A.in1.handled = none from hh]
  refine wpAny_bind (wpAny_pure (wpAny_throw ?_))
  refine wpAny_bind (wpAny_isInstance (T := "StopIteration") (b := true) ⟨_, Heap.get?_push_size _ rfl, rfl⟩ isSubtype_stop ?_)
  exact wpAny_pure (q _ ((hs1.extBut.push _).push _))
theorem next_tup_some {i j : Nat} {tp : Addr} {e : Int × Value} {ps : Array Value} {ot : Obj} {pn : Nat} {Q : Option Value → Shared → Prop} (hit : s.heap.get? it = some (sitObj #[.ref tp, .int i 0, .ref a, .int ks.length 0, .int ep 0])) (x : IsSet w s.heap a es ep t ks)
    (ht : s.heap.get? tp = some ot) (hd : ot.data = .seq ps pn) (hj : ps[i]? = some (.int j 0)) (he : es[j]? = some e)
    (q : ∀ h', h'.get? it = some (sitObj #[.ref tp, .int (i + 1 : Nat) 0, .ref a, .int ks.length 0, .int ep 0]) → Heap.SameBut it s.heap h' → Q (some e.2) { s with heap := h' }) :
    wpAny (model prog w) A (pyNext (.ref it)) Q E s := by
  unfold pyNext
  refine wpAny_bind (wpAny_attempt (wpAny_callSpecial?_slot (name := Str.ofString "__next__") (sit_type hit) slot_set_iterator_next
    (wpAny_call_entry slot_set_iterator_next (sit_type hit) entry_set_iterator_next ?_ (args_set_iterator_next_1 _))))
  unfold Builtin.«set_iterator.__next__»
  refine wpAny_bind (m := slotArgs "__next__" 0 _) (wpAny_pure ?_)
  refine wpAny_bind (wpAny_fieldsOf hit rfl ?_)
  dsimp only
  refine wpAny_bind (entries_of x ?_)
  have hsz : ((es.size : Int) != (ks.length : Int)) = false := by rw [x.len]; simp
  rw [hsz]
  simp only [Bool.false_eq_true, if_false]
  unfold seqItems?
  dsimp only
  refine wpAny_bind (wpAny_bind (wpAny_load ht ?_))
  rw [hd]
  refine wpAny_pure ?_
  dsimp only
  rw [Int.toNat_natCast, hj]
  dsimp only
  refine wpAny_bind ?_
  unfold setNextDrawn
  refine wpAny_bind (state_of x ?_)
  dsimp only
  rw [Int.toNat_natCast, Int.toNat_natCast]
  simp only [bne_self_eq_false, Bool.false_eq_true, if_false]
  rw [he]
  refine wpAny_pure ?_
  refine wpAny_bind (wpAny_setField_rec hit (by simp) fun h1 hg1 hs1 => ?_)
  refine wpAny_pure ⟨_, rfl, ?_⟩
  refine wpAny_pure (q h1 ?_ hs1)
  rw [hg1]
  rfl
theorem next_tup_none {i : Nat} {tp : Addr} {ps : Array Value} {ot : Obj} {pn : Nat} {Q : Option Value → Shared → Prop} (hh : A.handled = none) (hit : s.heap.get? it = some (sitObj #[.ref tp, .int i 0, .ref a, .int ks.length 0, .int ep 0])) (x : IsSet w s.heap a es ep t ks)
    (ht : s.heap.get? tp = some ot) (hd : ot.data = .seq ps pn) (hj : ps[i]? = none)
    (q : ∀ h', Heap.ExtBut it s.heap h' → Q none { s with heap := h' }) :
    wpAny (model prog w) A (pyNext (.ref it)) Q E s := by
  unfold pyNext
  refine wpAny_bind (wpAny_attempt (wpAny_callSpecial?_slot (name := Str.ofString "__next__") (sit_type hit) slot_set_iterator_next
    (wpAny_call_entry slot_set_iterator_next (sit_type hit) entry_set_iterator_next ?_ (args_set_iterator_next_1 _))))
  unfold Builtin.«set_iterator.__next__»
  refine wpAny_bind (m := slotArgs "__next__" 0 _) (wpAny_pure ?_)
  refine wpAny_bind (wpAny_fieldsOf hit rfl ?_)
  dsimp only
  refine wpAny_bind (entries_of x ?_)
  have hsz : ((es.size : Int) != (ks.length : Int)) = false := by rw [x.len]; simp
  rw [hsz]
  simp only [Bool.false_eq_true, if_false]
  unfold seqItems?
  dsimp only
  refine wpAny_bind (wpAny_bind (wpAny_load ht ?_))
  rw [hd]
  refine wpAny_pure ?_
  dsimp only
  rw [Int.toNat_natCast, hj]
  dsimp only
  refine wpAny_bind (wpAny_setField_rec hit (by simp) fun h1 hg1 hs1 => ?_)
  refine wpAny_bind (wpAny_setField_rec (s := { s with heap := h1 }) hg1 (by simp) fun h2 hg2 hs2 => ?_)
  show wpAny _ _ (newExc (.type "StopIteration") [] >>= _) _ _ _
  refine wpAny_bind ?_
  simp only [newExc, newTuple]
  refine wpAny_bind (wpAny_newObj_type ?_ (by size_fits))
  refine wpAny_bind (m := firstArgMember _ _) (wpAny_of_eq (a := Value.none) (by first | rfl | (simp only [firstArgMember]; rfl)) ?_)
  refine wpAny_newObj_type ?_ (by size_fits)
  simp only [raiseNew]
  refine wpAny_bind (wpAny_handled ?_)
  rw [show A.in1.handled = none from hh]
  refine wpAny_bind (wpAny_pure (wpAny_throw ?_))
  refine wpAny_bind (wpAny_isInstance (T := "StopIteration") (b := true) ⟨_, Heap.get?_push_size _ rfl, rfl⟩ isSubtype_stop ?_)
  exact wpAny_pure (q _ (((hs1.trans hs2).extBut.push _).push _))
def PStr (kp : List Str) (i : Nat) (v : Value) : Prop := ∃ k tk, kp[i]? = some k ∧ v = Value.str k tk
theorem walks_int (slotAt : Nat → Nat) (hne : a ≠ it)
    (hsome : ∀ i, i < ks.length → ∃ k tk, kp[i]? = some k ∧ ∀ (s : Shared) (A : Around) (E : Value → Shared → Prop) (Q1 : Option (Value × Nat) → Shared → Prop), IsSet w s.heap a es ep t ks → Q1 (some (.str k tk, slotAt (i + 1))) s → wpAny (model prog w) A (setNext a (slotAt i) i ep) Q1 E s)
    (hnone : ∀ (s : Shared) (A : Around) (E : Value → Shared → Prop) (Q1 : Option (Value × Nat) → Shared → Prop), IsSet w s.heap a es ep t ks → Q1 none s → wpAny (model prog w) A (setNext a (slotAt ks.length) ks.length ep) Q1 E s) (hh : A.handled = none) :
    Walks prog w A it [it, a] [it] ks.length (PStr kp) (fun i h => h.get? it = some (sitObj #[.int (slotAt i : Nat) 0, .int (i : Nat) 0, .ref a, .int ks.length 0, .int ep 0]) ∧ IsSet w h a es ep t ks) where
  sub := fun b hb => by simp at hb; simp [hb]
  frame := fun _ _ _ st hk => ⟨hk it (by simp) _ st.1, st.2.at' fun o e => hk a (by simp) o e⟩
  item := fun i s Q E hi st hQ => by
    obtain ⟨k, tk, e1, e2⟩ := hsome i hi
    refine next_int_some st.1 st.2 (fun A E Q1 q1 => e2 s A E Q1 st.2 q1) fun h' hg hs => ?_
    exact hQ _ h' s.toks ⟨k, tk, e1, rfl⟩ ⟨hg, st.2.at' fun o e => SameBut.fwd' hs hne e⟩ fun b o hb e => SameBut.fwd' hs (fun h => hb (by simp [h])) e
  done := fun s Q E st hQ => next_int_none hh st.1 st.2 (fun A E Q1 q1 => hnone s A E Q1 st.2 q1) fun h' he => hQ h' s.toks fun b o hb e => he b o (fun h => hb (by simp [h])) e
  self := fun _ _ _ _ st hQ => pyIter_sit st.1 hQ
where
  SameBut.fwd' {a : Addr} {h h' : Heap} (x : Heap.SameBut a h h') {c : Addr} {o : Obj} (hc : c ≠ a) (e : h.get? c = some o) : h'.get? c = some o := by rw [x.2 c hc]; exact e
theorem walks_tup {tp : Addr} {ps : List Nat} (hne : a ≠ it) (hnt : tp ≠ it) (hl : ps.length = ks.length)
    (hget : ∀ (i j : Nat), ps[i]? = some j → ∃ (k : Str) (tk : Tok) (e : Int × Value), kp[i]? = some k ∧ es[j]? = some e ∧ e.2 = Value.str k tk) (hh : A.handled = none) :
    Walks prog w A it [it, a, tp] [it] ks.length (PStr kp) (fun i h => h.get? it = some (sitObj #[.ref tp, .int (i : Nat) 0, .ref a, .int ks.length 0, .int ep 0]) ∧ IsSet w h a es ep t ks ∧
      ∃ ot n, h.get? tp = some ot ∧ ot.data = .seq (ps.map fun (i : Nat) => rawInt i).toArray n) where
  sub := fun b hb => by simp at hb; simp [hb]
  frame := fun _ _ _ st hk => ⟨hk it (by simp) _ st.1, st.2.1.at' fun o e => hk a (by simp) o e, let ⟨ot, n, e1, e2⟩ := st.2.2; ⟨ot, n, hk tp (by simp) ot e1, e2⟩⟩
  item := fun i s Q E hi st hQ => by
    obtain ⟨hit, x, ot, n, e1, e2⟩ := st
    have hi2 : i < ps.length := by omega
    obtain ⟨k, tk, e, g1, g2, g3⟩ := hget i ps[i] (List.getElem?_eq_getElem hi2)
    refine next_tup_some (j := ps[i]) hit x e1 e2 (by simp [hi2, rawInt]) g2 fun h' hg hs => ?_
    exact hQ _ h' s.toks ⟨k, tk, g1, g3⟩ ⟨hg, x.at' fun o e => fwd' hs hne e, ot, n, fwd' hs hnt e1, e2⟩ fun b o hb e => fwd' hs (fun h => hb (by simp [h])) e
  done := fun s Q E st hQ => by
    obtain ⟨hit, x, ot, n, e1, e2⟩ := st
    exact next_tup_none hh hit x e1 e2 (by simp; omega) fun h' he => hQ h' s.toks fun b o hb e => he b o (fun h => hb (by simp [h])) e
  self := fun _ _ _ _ st hQ => pyIter_sit st.1 hQ
where
  fwd' {a : Addr} {h h' : Heap} (x : Heap.SameBut a h h') {c : Addr} {o : Obj} (hc : c ≠ a) (e : h.get? c = some o) : h'.get? c = some o := by rw [x.2 c hc]; exact e
theorem setWalk_text {Q : Array (Int × Value) → Shared → Prop} (x : IsSet w s.heap a es ep t ks) (hb : w.params.followText "set-order" = true) (q : Q (pickOrder (w.params.setOrder a ep) es) s) :
    wpAny (model prog w) A (setWalk a) Q E s := by
  unfold setWalk
  refine wpAny_bind (state_of x ?_)
  dsimp only
  refine wpAny_bind ?_
  unfold setsByText
  refine wpAny_bind (wpAny_askSetting (wpAny_pure ?_))
  show wpAny _ _ (if w.params.followText "set-order" = true then _ else _) _ _ _
  rw [hb, if_pos rfl]
  exact wpAny_bind (wpAny_askSetting (wpAny_pure q))
theorem setNext_text {slot i : Nat} {Q : Option (Value × Nat) → Shared → Prop} (x : IsSet w s.heap a es ep t ks) (hb : w.params.followText "set-order" = true)
    (q : Q (((pickOrder (w.params.setOrder a ep) es)[i]?).map fun e => (e.2, slot)) s) : wpAny (model prog w) A (setNext a slot i ep) Q E s := by
  unfold setNext
  refine wpAny_bind (state_of x ?_)
  dsimp only
  refine wpAny_bind ?_
  unfold setsByText
  refine wpAny_bind (wpAny_askSetting (wpAny_pure ?_))
  show wpAny _ _ (if w.params.followText "set-order" = true then _ else _) _ _ _
  rw [hb, if_pos rfl]
  simp only [bne_self_eq_false, Bool.false_eq_true, if_false]
  exact wpAny_bind (setWalk_text x hb (wpAny_pure q))
theorem setNext_plain {i : Nat} {Q : Option (Value × Nat) → Shared → Prop} (x : IsSet w s.heap a es ep t ks) (hb : w.params.followText "set-order" = false) (hc : t.plain = true ∨ es.size ≤ 1) (hi : i ≤ ks.length)
    (q : Q ((es[i]?).map fun e => (e.2, WS.slotAt t (i + 1))) s) : wpAny (model prog w) A (setNext a (WS.slotAt t i) i ep) Q E s := by
  have hl : t.led = true := by rw [x.led]; unfold ledW; rw [hb]; rfl
  obtain ⟨p1, p2⟩ := place_size x
  unfold setNext
  refine wpAny_bind (state_of x ?_)
  dsimp only
  refine wpAny_bind ?_
  unfold setsByText
  refine wpAny_bind (wpAny_askSetting (wpAny_pure ?_))
  show wpAny _ _ (if w.params.followText "set-order" = true then _ else _) _ _ _
  rw [hb, if_neg Bool.false_ne_true]
  have hd : (!t.plain && decide (es.size > 1)) = false := by
    rcases hc with c | c
    · rw [c]; rfl
    · rw [decide_eq_false (by omega)]; simp
  show wpAny _ _ (if (!t.plain && decide (es.size > 1)) = true then _ else _) _ _ _
  rw [hd, if_neg Bool.false_ne_true]
  show wpAny _ _ ((if (!t.led && !es.isEmpty) = true then _ else _) >>= _) _ _ _
  rw [hl]
  simp only [Bool.not_true, Bool.false_and, Bool.false_eq_true, if_false]
  refine wpAny_bind (wpAny_pure ?_)
  rw [below_slotAt x.ris (by omega)]
  refine wpAny_pure ?_
  rcases Nat.lt_or_ge i ks.length with c | c
  · have h1 : i < es.size := by rw [x.len]; exact c
    have h2 : i < t.place.size := by omega
    rw [Array.getElem?_eq_getElem h1] at q ⊢
    rw [Array.getElem?_eq_getElem h2]
    simp only [Option.map_some, WS.slotAt, Array.getD, h2, dite_true] at q
    exact q
  · have h1 : es[i]? = none := Array.getElem?_eq_none (by rw [x.len]; exact c)
    rw [h1] at q ⊢
    exact q
theorem setDrawn_of {Q : Bool → Shared → Prop} (x : IsSet w s.heap a es ep t ks) (q : Q (!w.params.followText "set-order" && (!t.plain && decide (es.size > 1))) s) : wpAny (model prog w) A (setDrawn a) Q E s := by
  unfold setDrawn
  refine wpAny_bind (state_of x ?_)
  dsimp only
  refine wpAny_bind ?_
  unfold setsByText
  refine wpAny_bind (wpAny_askSetting (wpAny_pure ?_))
  exact wpAny_pure q
theorem kp_of {es' : List (Int × Value)} (hE : Els w es' kp) {i : Nat} (hi : i < kp.length) : ∃ k tk e, kp[i]? = some k ∧ es'[i]? = some e ∧ e.2 = Value.str k tk := by
  have h1 : i < es'.length := by rw [hE.length]; exact hi
  obtain ⟨k, e1, _, tk, e2⟩ := hE.get (List.getElem?_eq_getElem h1)
  exact ⟨k, tk, _, e1, List.getElem?_eq_getElem h1, e2⟩
/-- an iterator over a set of ints: it gives them all, in some order -/
theorem iter_of {Q : Value → Shared → Prop} (x : IsSet w s.heap a es ep t ks)
    (q : ∀ h' d I fp (St : Nat → Heap → Prop) kp, kp.Perm ks → (∀ A : Around, A.handled = none → Walks prog w A I fp [I] ks.length (PStr kp) St) → St 0 h' → (∀ c o, s.heap.get? c = some o → h'.get? c = some o) →
      (∀ c ∈ fp, c = a ∨ s.heap.objs.size ≤ c) → s.heap.objs.size ≤ I → Q (.ref I) { s with heap := h', drawn := d }) :
    wpAny (model prog w) A (pyIter (.ref a)) Q E s := by
  refine wpAny_pyIter_slot x.typeIs F.slot_set_iter (wpAny_call_entry F.slot_set_iter x.typeIs entry_set_iter ?_ (F.args_set_iter_1 _))
  unfold Builtin.«frozenset.__iter__»
  refine wpAny_bind (m := Builtin.Frozenset.slot0 "__iter__" _) (wpAny_pure ?_)
  refine wpAny_bind (sizeOf_of x ?_)
  refine wpAny_bind (setDrawn_of x ?_)
  have hna : a < s.heap.objs.size := x.lt
  cases hb : w.params.followText "set-order" with
  | true =>
    simp only [Bool.not_true, Bool.false_and, Bool.false_eq_true, if_false]
    refine wpAny_bind (wpAny_pure ?_)
    refine wpAny_bind (epoch_of x ?_)
    refine wpAny_bind (wpAny_newObj_type (wpAny_pure ⟨_, rfl, "set_iterator", _, ⟨_, Heap.get?_push_size _ rfl, rfl⟩, slot_set_iterator_next.lookup, ?_⟩))
    obtain ⟨kp, hE, hp⟩ := Els.perm (pick_perm (w.params.setOrder a ep) es) x.els
    refine q _ s.drawn _ [s.heap.objs.size, a] _ kp hp (fun A hh => walks_int (es := es) (t := t) (ep := ep) (fun _ => 0) (Nat.ne_of_lt hna) (fun i hi => ?_) (fun s A E Q1 x1 q1 => ?_) hh) ⟨Heap.get?_push_size _ rfl, x.at' fun o e => Heap.get?_push_of_some _ e⟩ (fun c o e => Heap.get?_push_of_some _ e) (fun c hc => ?_) (Nat.le_refl _)
    · obtain ⟨k, tk, e, e1, e2, e3⟩ := kp_of hE (i := i) (by rw [hp.length_eq]; exact hi)
      refine ⟨k, tk, e1, fun s A E Q1 x1 q1 => setNext_text x1 hb ?_⟩
      rw [Array.getElem?_toList] at e2
      rw [e2, Option.map_some, e3]
      exact q1
    · refine setNext_text x1 hb ?_
      have : (pickOrder (w.params.setOrder a ep) es)[ks.length]? = none := by
        rw [← Array.getElem?_toList]
        exact List.getElem?_eq_none (by rw [hE.length, hp.length_eq]; exact Nat.le_refl _)
      rw [this]
      exact q1
    · simp only [List.mem_cons, List.not_mem_nil, or_false] at hc
      rcases hc with rfl | rfl
      · exact .inr (Nat.le_refl _)
      · exact .inl rfl
  | false =>
    cases hd : (!t.plain && decide (es.size > 1)) with
    | false =>
      simp only [Bool.and_false, Bool.false_eq_true, if_false]
      refine wpAny_bind (wpAny_pure ?_)
      refine wpAny_bind (epoch_of x ?_)
      refine wpAny_bind (wpAny_newObj_type (wpAny_pure ⟨_, rfl, "set_iterator", _, ⟨_, Heap.get?_push_size _ rfl, rfl⟩, slot_set_iterator_next.lookup, ?_⟩))
      have hc : t.plain = true ∨ es.size ≤ 1 := by
        cases hpl : t.plain with
        | true => exact .inl rfl
        | false =>
          rw [hpl] at hd
          simp only [Bool.not_false, Bool.true_and, decide_eq_false_iff_not] at hd
          exact .inr (by omega)
      refine q _ s.drawn _ [s.heap.objs.size, a] _ ks (.refl _) (fun A hh => walks_int (es := es) (t := t) (ep := ep) (WS.slotAt t) (Nat.ne_of_lt hna) (fun i hi => ?_) (fun s A E Q1 x1 q1 => ?_) hh) ⟨Heap.get?_push_size _ rfl, x.at' fun o e => Heap.get?_push_of_some _ e⟩ (fun c o e => Heap.get?_push_of_some _ e) (fun c hc => ?_) (Nat.le_refl _)
      · obtain ⟨k, tk, e, e1, e2, e3⟩ := kp_of x.els (i := i) hi
        refine ⟨k, tk, e1, fun s A E Q1 x1 q1 => setNext_plain x1 hb hc (by omega) ?_⟩
        rw [Array.getElem?_toList] at e2
        rw [e2, Option.map_some, e3]
        exact q1
      · refine setNext_plain x1 hb hc (Nat.le_refl _) ?_
        have : es[ks.length]? = none := Array.getElem?_eq_none (by rw [x.len]; exact Nat.le_refl _)
        rw [this]
        exact q1
      · simp only [List.mem_cons, List.not_mem_nil, or_false] at hc
        rcases hc with rfl | rfl
        · exact .inr (Nat.le_refl _)
        · exact .inl rfl
    | true =>
      simp only [Bool.not_false, Bool.and_true, if_true]
      refine wpAny_bind (drawOrder_of ks.length (List.range ks.length) _ _ List.length_range fun ps d hp => ?_)
      unfold newTuple
      refine wpAny_bind (wpAny_newObj_type ?_ (by
        show sizeOk (.seq _)
        have h1 := hp.length_eq
        have h2 := x.sz
        rw [x.len] at h2
        have h3 : scanBound = 4096 := rfl
        first
          | (simp only [sizeOk]; simp; rw [h1]; simp; rw [sizeLine_eq]; omega)
          | (size_fits)))
      refine wpAny_bind (epoch_of (s := { s with heap := s.heap.push _, drawn := d }) (x.at' fun o e => Heap.get?_push_of_some _ e) ?_)
      refine wpAny_bind (wpAny_newObj_type (wpAny_pure ⟨_, rfl, "set_iterator", _, ⟨_, Heap.get?_push_size _ rfl, rfl⟩, slot_set_iterator_next.lookup, ?_⟩))
      generalize hH : s.heap.push { cls := .type "tuple", data := .seq (ps.map fun (i : Nat) => rawInt i).toArray } = h1
      have hs1 : h1.objs.size = s.heap.objs.size + 1 := by rw [← hH, Heap.size_push]
      have up1 : ∀ c o, s.heap.get? c = some o → h1.get? c = some o := fun c o e => by rw [← hH]; exact Heap.get?_push_of_some _ e
      have htp : h1.get? s.heap.objs.size = some { cls := .type "tuple", data := .seq (ps.map fun (i : Nat) => rawInt i).toArray } := by rw [← hH]; exact Heap.get?_push_size _ rfl
      have hkp : ((ps.filterMap fun j => ks[j]?)).Perm ks := by
        refine (hp.filterMap _).trans ?_
        rw [List.filterMap_getElem?_range_length]
      have hget : ∀ (l : List Nat), (∀ j ∈ l, j < ks.length) → (l.filterMap fun j => ks[j]?) = l.map fun j => ks.getD j Str.empty := by
        intro l
        induction l with
        | nil => intro _; rfl
        | cons j r ih =>
          intro hl
          have hj := hl j List.mem_cons_self
          rw [List.filterMap_cons, List.getElem?_eq_getElem hj, List.map_cons, ih fun z hz => hl z (List.mem_cons_of_mem _ hz)]
          simp [hj]
      have hps : ∀ j ∈ ps, j < ks.length := fun j hj => List.mem_range.mp (hp.mem_iff.mp hj)
      rw [hget ps hps] at hkp
      refine q _ d _ [h1.objs.size, a, s.heap.objs.size] _ _ hkp (fun A hh => walks_tup (es := es) (t := t) (ep := ep) (ps := ps) (by rw [hs1]; exact Nat.ne_of_lt (Nat.lt_succ_of_lt hna)) (by rw [hs1]; exact Nat.ne_of_lt (Nat.lt_succ_self _)) (by rw [hp.length_eq, List.length_range]) (fun i j hij => ?_) hh)
        ⟨Heap.get?_push_size _ rfl, x.at' fun o e => Heap.get?_push_of_some _ (up1 _ o e), _, _, Heap.get?_push_of_some _ htp, rfl⟩ (fun c o e => Heap.get?_push_of_some _ (up1 c o e)) (fun c hc => ?_) (by rw [hs1]; exact Nat.le_succ _)
      · have hj := hps j (List.mem_of_getElem? hij)
        obtain ⟨k, tk, e, e1, e2, e3⟩ := kp_of x.els (i := j) hj
        rw [Array.getElem?_toList] at e2
        refine ⟨k, tk, e, ?_, e2, e3⟩
        rw [List.getElem?_map, hij, Option.map_some]
        have : ks.getD j Str.empty = k := by simp [List.getD, e1]
        rw [this]
      · simp only [List.mem_cons, List.not_mem_nil, or_false] at hc
        rcases hc with rfl | rfl | rfl
        · right; rw [hs1]; exact Nat.le_succ _
        · exact .inl rfl
        · exact .inr (Nat.le_refl _)
theorem items_ints {acc : Array Value} {n : Nat} (hI : ItemsOf (PStr kp) acc n) (hn : n = kp.length) : Paired (fun (v : Value) (k : Str) => ∃ t, v = Value.str k t) acc.toList kp := by
  subst hn
  have key : ∀ (vs : List Value) (ks : List Str), vs.length = ks.length → (∀ (j : Nat) (v : Value), vs[j]? = some v → ∃ k tk, ks[j]? = some k ∧ v = Value.str k tk) → Paired (fun (v : Value) (k : Str) => ∃ t, v = Value.str k t) vs ks := by
    intro vs
    induction vs with
    | nil =>
      intro ks hl _
      cases ks with
      | nil => exact .nil
      | cons => simp at hl
    | cons v r ih =>
      intro ks hl hj
      cases ks with
      | nil => simp at hl
      | cons k kr =>
        refine .cons ?_ (ih kr (by simpa using hl) fun j u hu => by simpa using hj (j + 1) u (by simpa using hu))
        obtain ⟨k', tk, e1, e2⟩ := hj 0 v rfl
        simp at e1
        subst e1
        exact ⟨tk, e2⟩
  exact key _ _ (by rw [Array.length_toList]; exact hI.1) fun j v hv => hI.2 j v (by rw [← Array.getElem?_toList]; exact hv)
theorem collect_set {Q : List Value → Shared → Prop} (x : IsSet w s.heap a es ep t ks) (hh : A.handled = none)
    (q : ∀ s' vs kp, (∀ c o, s.heap.get? c = some o → s'.heap.get? c = some o) → s.heap.objs.size ≤ s'.heap.objs.size → s'.gens = s.gens → s'.os = s.os → Paired (fun (v : Value) (k : Str) => ∃ t, v = Value.str k t) vs kp → kp.Perm ks → Q vs s') :
    wpAny (model prog w) A (collect (.ref a)) Q E s := by
  have hna : a < s.heap.objs.size := x.lt
  have hn : ks.length ≤ sizeLine := by
    have := x.sz
    rw [x.len] at this
    have h3 : scanBound = 4096 := rfl
    rw [sizeLine_eq]; omega
  unfold collect
  refine wpAny_bind (wpAny_runValue (codeAny_builtin F.entry_proto_collect ?_))
  rw [Around.under_plainId F.plain_proto_collect _]
  show wpAny _ A.in1 (newList [] >>= fun l => again (.builtin "list.__iadd__" ⟨[l, .ref a], []⟩)) _ _ s
  refine wpAny_bind (wpAny_newObj_type ?_)
  refine wpAny_pure ⟨plainId_quiet F.plain_list_iadd _, codeAny_builtin F.entry_list_iadd ?_⟩
  rw [Around.under_plainId F.plain_list_iadd _]
  generalize hS0 : s.heap.objs.size = S
  generalize hH1 : s.heap.push { cls := .type "list", dict := none, data := .seq ([] : List Value).toArray } = h1
  have hs1 : h1.objs.size = S + 1 := by rw [← hH1, Heap.size_push, hS0]
  have up1 : ∀ c o, s.heap.get? c = some o → h1.get? c = some o := fun c o e => by rw [← hH1]; exact Heap.get?_push_of_some _ e
  have hS : h1.get? S = some { cls := .type "list", dict := none, data := .seq ([] : List Value).toArray } := by rw [← hH1, ← hS0]; exact Heap.get?_push_size _ rfl
  have x1 : IsSet w h1 a es ep t ks := x.at' fun o e => up1 _ o e
  have hSa : S ≠ a := by rw [← hS0]; exact Nat.ne_of_gt hna
  show wpAny _ A.in1 (Builtin.List.listExtendWith (.ref S) (.ref a) (.ref S)) _ _ { s with heap := h1 }
  unfold Builtin.List.listExtendWith
  refine wpAny_bind (wpAny_typeOf (T := "set") ⟨_, x1.ob, rfl⟩ ?_)
  have e1 : Builtin.List.listSameRef (.ref S) (.ref a) = false := by simp [Builtin.List.listSameRef, hSa]
  have e2 : (Value.type "set" == Value.type "list") = false := by decide
  have e3 : (Value.type "set" == Value.type "tuple") = false := by decide
  simp only [e1, e2, e3, Bool.or_false, Bool.false_eq_true, if_false]
  refine wpAny_bind (iter_of (s := { s with heap := h1 }) x1 fun h2 d I fp St kp hkp W st0 up2 hfp hI => ?_)
  have hSf : S ∉ fp := fun hm => by
    rcases hfp S hm with c | c
    · exact hSa c
    · rw [hs1] at c; exact absurd c (Nat.not_le.mpr (Nat.lt_succ_self _))
  refine wpAny_bind (wpAny_holding (hint_set ⟨_, up2 _ _ x1.ob, rfl⟩ ?_))
  refine wpAny_ite ?_
  rw [if_pos (by decide +kernel)]
  refine wpAny_bind (wpAny_rule ?_)
  refine wpAny_bind ?_
  show wpAny _ A.in1 (updateSeq S (·.push .none) >>= fun _ => updateSeq S (·.pop)) _ _ _
  have hS2 := up2 S _ hS
  refine wpAny_bind (wpAny_updateSeq hS2 rfl ?_)
  have hS3 := Heap.get?_update_self (Obj.mapSeq (·.push Value.none)) hS2 rfl
  refine wpAny_updateSeq hS3 rfl ?_
  have hS4 := Heap.get?_update_self (Obj.mapSeq (·.pop)) hS3 rfl
  generalize hH4 : (h2.update S (Obj.mapSeq (·.push Value.none))).update S (Obj.mapSeq (·.pop)) = h4 at hS4
  have oth : ∀ c o, c ≠ S → h2.get? c = some o → h4.get? c = some o := fun c o hc e => by
    rw [← hH4]
    exact (Heap.get?_update_other _ _ (Ne.symm hc)).trans ((Heap.get?_update_other _ _ (Ne.symm hc)).trans e)
  have W1 := W A.in1 hh
  refine wpAny_pure ⟨plainId_quiet F.plain_extend_loop _, codeAny_extend_loopS W1.toS hn S hSf (.ref S) ks.length 0 _ _ _ rfl (Nat.zero_le _)
    (W1.frame 0 _ _ st0 fun c hc o e => oth c o (fun h => hSf (h ▸ hc)) e) hS4 (ItemsOf.nil _) fun s' acc' c' hm hS' hacc => ?_⟩
  show wpAny _ A (load S >>= _) _ _ s'
  refine wpAny_bind (wpAny_load hS' ?_)
  refine wpAny_pure (q s' acc'.toList kp (fun c o e => ?_) (by rw [hS0]; exact Nat.le_of_lt (Heap.lt_size hS')) hm.gens hm.os (items_ints hacc (by rw [hkp.length_eq])) hkp)
  have hlt : c < S := by rw [← hS0]; exact Heap.lt_size e
  refine hm.heap c o (fun hb => ?_) (oth c o (Nat.ne_of_lt hlt) (up2 c o (up1 c o e)))
  rcases List.mem_cons.mp hb with r | r
  · exact absurd hlt (r ▸ Nat.lt_irrefl _)
  · rw [List.mem_singleton.mp r] at hlt
    rw [hs1] at hI
    exact absurd (Nat.lt_trans hlt (Nat.lt_succ_self S)) (Nat.not_lt.mpr hI)
theorem ints_of_paired : ∀ {vs : List Value} {ks : List Str}, Paired (fun (v : Value) (k : Str) => ∃ t, v = Value.str k t) vs ks → StrsAre vs ks
  | _, _, .nil => .nil
  | _, _, .cons ⟨t, e⟩ r => by subst e; exact .cons _ _ (ints_of_paired r)
set_option maxHeartbeats 2000000 in
theorem sorted_set {Q : Value → Shared → Prop} (x : IsSet w s.heap a es ep t ks) (hh : A.handled = none) (h64 : ks.length < 64)
    (q : ∀ (s' : Shared) (l : Addr) (vs : List Value) (ns : List Str) (n : Nat), (∀ c o, s.heap.get? c = some o → s'.heap.get? c = some o) → s'.gens = s.gens → s'.os = s.os → s.heap.objs.size ≤ l →
      s'.heap.get? l = some { cls := .type "list", data := .seq vs.toArray n } → StrsAre vs ns → ns.Perm ks → sortedS ns = true → Q (.ref l) s') :
    wpAny (model prog w) A (call (.builtin "sorted") [.ref a]) Q E s := by
  refine Calls.call_function_entry kind_sorted plain_sorted entry_sorted (args_sorted1 _) ?_
  unfold Builtin.«sorted»
  refine wpAny_bind (m := checkCount "sorted" 1 1 _) (wpAny_pure ?_)
  refine wpAny_bind (collect_set (A := A.in1) x hh fun s1 vs kp up hle hg ho hP hp => ?_)
  have hI : StrsAre vs kp := ints_of_paired hP
  have hl64 : vs.length < 64 := by rw [hP.length, hp.length_eq]; exact h64
  refine wpAny_bind (wpAny_newList ?_)
  have hoL : (s1.heap.push (seqObj "list" vs.toArray 0)).get? s1.heap.objs.size = some (seqObj "list" vs.toArray 0) := Heap.get?_push_size _ rfl
  refine wpAny_bind (wpAny_holding (wpAny_call_entry (s := { s1 with heap := s1.heap.push (seqObj "list" vs.toArray 0) }) slot_list_sort ⟨_, hoL, rfl⟩ entry_list_sort (list_sort_treeK strKind_oneLt hoL hI.keysOf (fun v₁ v₂ rest e => keyKind_strs (by rw [← e]; exact hI)) hl64 fun st' hp' hs' => ⟨_, rfl, ?_⟩) (args_list_sort _)))
  obtain ⟨ns', a1, a2, a3⟩ := sorted_out_str hI hp' hs'
  generalize (arrOf st').map (·.2) = out at a1 ⊢
  refine wpAny_pure ⟨_, rfl, ?_⟩
  obtain ⟨e, he⟩ := sortedHeap_at (out := out) hoL
  refine q _ s1.heap.objs.size out.toList ns' e (fun c o hc => ?_) hg ho hle (by rw [Array.toArray_toList]; exact he) a1 (a2.trans hp) a3
  have hlt := Heap.lt_size (up c o hc)
  show (sortedHeap _ _ _ _).get? c = _
  rw [sortedHeap_old (Nat.ne_of_lt hlt) (by rw [size_push']; exact Nat.lt_succ_of_lt hlt)]
  exact Heap.get?_push_of_some _ (up c o hc)
/-! ### set(a list of ints) -/
theorem set_loop {R : Result → Shared → Prop} {I : Addr} {fp wr : List Addr} {G : Array GenState → Array GenState → Prop} {n : Nat} {P : Nat → Value → Prop} {St : Nat → Shared → Prop}
    (W : WalksS prog w A.in1 I fp wr G n P St) (S : Addr) (hSf : S ∉ fp) (ns : List Str) (hval : ∀ i v, P i v → ∃ k tk, ns[i]? = some k ∧ v = .str k tk) (hb : n + 1 < scanBound) :
    ∀ (k i : Nat) (s : Shared) (kr : List Str), n - i = k → i ≤ n → St i s → StrSet w s.heap S kr → kr.length ≤ i → (∀ k', k' ∈ kr ↔ k' ∈ ns.take i) →
      (∀ s' kr', Moved (S :: wr) G s s' → StrSet w s'.heap S kr' → kr'.length ≤ n → (∀ k', k' ∈ kr' ↔ k' ∈ ns.take n) → R (.ok (.ret .none)) s') →
      codeAny (model prog w) A (.builtin "set.update.loop" ⟨[.ref S, .ref I], []⟩) R s := by
  have hSw : S ∉ wr := fun h => hSf (W.sub _ h)
  have hsub : ∀ b ∈ wr, b ∈ S :: wr := fun b hb => List.mem_cons_of_mem _ hb
  intro k
  induction k with
  | zero =>
    intro i s kr hk hi hst hS hl hm hR
    have hin : i = n := by omega
    subst hin
    refine codeAny_builtin F.entry_set_update_loop ?_
    rw [Around.under_plainId F.plain_set_update_loop _]
    show wpAny _ A.in1 (pyNext (.ref I) >>= _) _ _ s
    refine wpAny_bind (W.done s _ _ hst fun s' hmv => ?_)
    show wpAny _ A.in1 (ret Value.none) _ _ s'
    exact wpAny_pure (hR s' kr (hmv.mono hsub) (hS.at' fun o e => hmv.heap S _ hSw e) hl hm)
  | succ k ih =>
    intro i s kr hk hi hst hS hl hm hR
    have hlt : i < n := by omega
    refine codeAny_builtin F.entry_set_update_loop ?_
    rw [Around.under_plainId F.plain_set_update_loop _]
    show wpAny _ A.in1 (pyNext (.ref I) >>= _) _ _ s
    refine wpAny_bind (W.item i s _ _ hlt hst fun v s' hP hst' hmv => ?_)
    obtain ⟨kk, t, hkk, rfl⟩ := hval i v hP
    obtain ⟨es, ep, tb, x⟩ := hS.at' (h' := s'.heap) fun o e => hmv.heap S _ hSw e
    have htake : ns.take (i + 1) = ns.take i ++ [kk] := by rw [List.take_add_one, hkk]; rfl
    show wpAny _ A.in1 (holding [Value.str kk t] (setAdd S (.str kk t)) >>= _) _ _ s'
    refine wpAny_bind (wpAny_holding ?_)
    unfold setAdd
    refine wpAny_holding ?_
    refine wpAny_bind ((PySem.strKind prog w).pyHash (k := kk) (v := .str kk t) (by simp [PySem.strKind, Value.isStrOf]) ?_)
    have hroom : kr.length + 1 < scanBound := by omega
    refine add_of (s := { s' with toks := s'.toks + 1 }) x hroom (fun hin => ?_) fun hnin h' ks' hsb hS2 hp2 => ?_
    · refine wpAny_pure ⟨plainId_quiet F.plain_set_update_loop _, ih (i + 1) _ kr (by omega) hlt (W.frame _ s' _ _ hst' (Nat.le_succ _) fun b hb o e => e) ⟨_, _, _, x⟩ (by omega) (fun k' => ?_) fun s'' kr'' hm'' hS'' h1 h2 => ?_⟩
      · rw [htake, List.mem_append, List.mem_singleton, ← hm k']
        exact ⟨.inl, fun c => c.elim id fun c => c ▸ hin⟩
      · exact hR s'' kr'' (Moved.trans W.gtrans ((hmv.mono hsub).then_heap (Nat.le_succ _) fun b o hb e => e) hm'') hS'' h1 h2
    · refine wpAny_pure ⟨plainId_quiet F.plain_set_update_loop _, ih (i + 1) _ ks' (by omega) hlt (W.frame _ s' _ _ hst' (Nat.le_succ _) fun b hb o e => ?_) hS2 (by rw [hp2.length_eq, List.length_append]; simp; omega) (fun k' => ?_) fun s'' kr'' hm'' hS'' h1 h2 => ?_⟩
      · rw [hsb.2 b (fun h : b = S => hSf (by rw [← h]; exact hb))]; exact e
      · rw [hp2.mem_iff, htake, List.mem_append, List.mem_append, hm k']
      · refine hR s'' kr'' (Moved.trans W.gtrans ((hmv.mono hsub).then_heap (Nat.le_succ _) fun b o hb e => ?_) hm'') hS'' h1 h2
        rw [hsb.2 b (fun h : b = S => hb (by rw [h]; exact List.mem_cons_self))]; exact e
set_option maxHeartbeats 4000000 in
theorem call_set {l : Addr} {vs : List Value} {ns : List Str} {Q : Value → Shared → Prop}
    (hh : A.handled = none) (hl : s.heap.IsList l vs.toArray) (hi : StrsAre vs ns) (hb : vs.length ≤ 1000)
    (q : ∀ (h' : Heap) (tk : Nat) (kr : List Str), StrSet w h' s.heap.objs.size kr → kr.length ≤ ns.length → (∀ k, k ∈ kr ↔ k ∈ ns) → (∀ c o, s.heap.get? c = some o → h'.get? c = some o) → Q (.ref s.heap.objs.size) { s with heap := h', toks := tk }) :
    wpAny (model prog w) A (call (.type "set") [.ref l]) Q E s := by
  obtain ⟨c, tl, hmro⟩ := F.called_set.mro
  have hmade := F.called_set.made
  have hsub := F.called_set.sub
  have hlen : vs.length = ns.length := StrsAre.length hi
  refine wpAny_call (codeAny_of_tree ?_)
  show wpAny _ _ (callAny (.type "set") _) _ _ _
  refine wpAny_pure ⟨Code.quiet_builtin _ (by decide +kernel), codeAny_builtin F.entry_type_call ?_⟩
  rw [Around.under_plain (weight_type_call_type "set" [.ref l] []) rfl]
  have h1 := F.called_set.notType
  have h2 := F.called_set.canCreate
  have hct := F.typeCall_set_1 (.ref l)
  repeat (any_goals (first | assumption | wp_step))
  refine codeAny_mono (set_made (.ref l) (E := E) (Q₁ := fun obj s₁ => obj = .ref s.heap.objs.size ∧ s₁ = { s with heap := s.heap.push { cls := .type "set", dict := none, data := .set #[] 0 (.fresh 0 0 (ledW w)) } }) ⟨rfl, rfl⟩) fun r s₁ hr => ?_
  cases r with
  | error e => exact hr
  | ok fl =>
    cases fl with
    | ret obj =>
      obtain ⟨rfl, rfl⟩ := hr
      generalize hH : s.heap.push { cls := .type "set", dict := none, data := .set #[] 0 (.fresh 0 0 (ledW w)) } = h1
      have hg : h1.get? s.heap.objs.size = some { cls := .type "set", dict := none, data := .set #[] 0 (.fresh 0 0 (ledW w)) } := by rw [← hH]; exact Heap.get?_push_size _ rfl
      have up1 : ∀ c o, s.heap.get? c = some o → h1.get? c = some o := fun c o e => by rw [← hH]; exact Heap.get?_push_of_some _ e
      have hsz : h1.objs.size = s.heap.objs.size + 1 := by rw [← hH, Heap.size_push]
      have hT : Shared.TypeIs { s with heap := h1 } (.ref s.heap.objs.size) "set" := ⟨_, hg, rfl⟩
      have hli := F.called_set.init.lookup
      have hbi := F.called_set.init.bind (.ref s.heap.objs.size)
      repeat (any_goals (first | assumption | wp_step))
      refine codeAny_mono (codeAny_call_builtin (R := wants (fun r s₂ => r = .none ∧ ∃ h' tk kr, s₂ = { s with heap := h', toks := tk } ∧
          StrSet w h' s.heap.objs.size kr ∧ kr.length ≤ ns.length ∧ (∀ k, k ∈ kr ↔ k ∈ ns) ∧ (∀ c o, s.heap.get? c = some o → h'.get? c = some o)) E) F.called_set.init.plain F.entry_set_init (check_set_init_1 hT ?_)) fun r₂ s₂ hr₂ => ?_
      · obtain ⟨ol, hol, hcl, nl, hdl⟩ := hl
        obtain ⟨ocls, odict, odata, oslots⟩ := ol
        simp only at hcl hdl
        subst hcl; subst hdl
        have hol' : h1.get? l = some { cls := .type "list", dict := odict, data := .seq vs.toArray nl, slots := oslots } := up1 _ _ hol
        have hsls := F.sub_list_set
        have hslf := F.sub_list_frozenset
        have hne : (Value.type "list" == Value.type "dict") = false := by decide
        have hl1 : h1.IsList l vs.toArray := ⟨_, hol', rfl, nl, rfl⟩
        unfold Builtin.«set.__init__» noKeywords Builtin.Frozenset.updateFrom
        generalize hPI : pyIter = PI
        wp_walk
        subst hPI
        refine wpAny_pyIter_list hl1 ?_
        refine wpAny_bind (wpAny_runValue ?_)
        have hlS : l < s.heap.objs.size := Heap.lt_size hol
        have hh3 : A.in1.in1.in1.handled = none := by simp [hh]
        have hneI : l ≠ h1.objs.size := by rw [hsz]; exact Nat.ne_of_lt (Nat.lt_succ_of_lt hlS)
        have hSf : s.heap.objs.size ∉ [h1.objs.size, l] := by
          rw [hsz]
          simp only [List.mem_cons, List.mem_singleton, List.not_mem_nil, or_false, not_or]
          exact ⟨Nat.ne_of_lt (Nat.lt_succ_self _), Nat.ne_of_gt hlS⟩
        have hval : ∀ (i : Nat) (v : Value), vs.toArray[i]? = some v → ∃ k tk, ns[i]? = some k ∧ v = .str k tk := fun i v hv => by
          rw [List.getElem?_toArray] at hv
          clear q hb hlen hol hol' hl1
          induction hi generalizing i with
          | nil => simp at hv
          | cons n t _ ih =>
            cases i with
            | zero => simp at hv; exact ⟨n, t, rfl, hv.symm⟩
            | succ i => simpa using ih i (by simpa using hv)
        have hn0 : vs.toArray.size = vs.length := List.size_toArray
        refine set_loop (Walks.list hh3 _ l hneI vs.toArray).toS s.heap.objs.size hSf ns hval (by rw [hn0]; unfold scanBound; omega) (vs.toArray.size - 0) 0 _ [] (by omega) (Nat.zero_le _)
          ⟨⟨_, Heap.get?_push_size _ rfl, rfl, rfl⟩, (hl1.push _)⟩ ⟨_, _, _, fresh_set rfl (Heap.get?_push_of_some _ hg)⟩ (Nat.le_refl _) (fun k' => by simp) ?_
        intro s' kr hm hS' hlk hmem
        obtain ⟨h', g', d', tk', os'⟩ := s'
        have eg : g' = s.gens := hm.gens
        have ed : d' = s.drawn := hm.drawn
        have eo : os' = s.os := hm.os
        subst eg; subst ed; subst eo
        show wpAny _ _ _ _ _ _
        refine wpAny_pure ?_
        show wpAny _ _ (ret Value.none) _ _ _
        rw [hn0] at hlk hmem
        refine wpAny_pure ⟨rfl, h', tk', kr, rfl, hS', by omega, fun k => by rw [hmem k, List.take_of_length_le (by omega)], fun b o e => ?_⟩
        have hb0 := Heap.lt_size e
        refine hm.heap b o ?_ (Heap.get?_push_of_some _ (up1 b o e))
        simp only [List.mem_cons, List.mem_singleton, List.not_mem_nil, or_false, not_or]
        exact ⟨Nat.ne_of_lt hb0, by rw [hsz]; exact Nat.ne_of_lt (Nat.lt_succ_of_lt hb0)⟩
      · cases r₂ with
        | error e => exact hr₂
        | ok fl₂ =>
          cases fl₂ with
          | ret r =>
            obtain ⟨rfl, h', tk, kr, rfl, hS', h3, h4, hk'⟩ := hr₂
            repeat (any_goals (first | assumption | wp_step))
            exact q _ _ _ hS' h3 h4 hk'
          | _ => exact hr₂.elim
    | _ => exact hr.elim
end
end WT


set_option linter.all false
set_option maxRecDepth 100000
namespace L2
open PySem PySem.Spec PyProof.Rows WS

/-! ### sets of ints: tracked by their members -/
/-- the set at a has the members ks, each once -/
def SetO (w : World) (a : Addr) (ks : List Int) : HO := .ext fun h => IntSet w h a ks
section
variable {X : Cx}
theorem Inv.set {pins : List (Addr × Obj)} {σ : St} {H : Hp} {s : Shared} {a : Addr} {ks : List Int} (I : Inv X pins σ H s) (h : H a = some (SetO X.w a ks)) : IntSet X.w s.heap a ks := (I.hok a _ h).1
theorem setO_ok {P : Program} {w : World} {H : Hp} {h : Heap} {a : Addr} {ks : List Int} (x : IntSet w h a ks) : ObjOk P w H h a (SetO w a ks) := by
  refine ⟨x, ?_, fun h1 h2 p k => p.at' fun o e => k o e⟩
  obtain ⟨es, ep, t, y⟩ := x
  exact ⟨_, y.ob⟩
theorem ints_of_vals : ∀ {ns : List Int} {its : List Value}, Vals (ns.map V.int) its → IntsAre its ns
  | [], _, .nil => .nil
  | n :: ns, _, .cons ⟨t, e⟩ r => by subst e; exact .cons n t (ints_of_vals r)
/-- a state in which all objects are kept and one is new, whatever was drawn -/
theorem Inv.laid2 {pins : List (Addr × Obj)} {σ : St} {H : Hp} {s s' : Shared} {a : Addr} {o : HO} (I : Inv X pins σ H s) (k : ∀ b u, s.heap.get? b = some u → s'.heap.get? b = some u) (hg : s'.gens = s.gens) (ho : s'.os = s.os) (hp : s.heap.objs.size ≤ a)
    (new : ObjOk X.prog X.w (upd H a o) s'.heap a o) : Inv X pins σ (upd H a o) s' :=
  I.call' ho (ch := []) (Un.laid k hp (I.hok.fresh hp)) (I.hok.laid k hp new) (by rw [hg]; exact I.bare) fun _ z => nomatch z

/-- set(a list of ints) -/
inductive rSetOfI (K : PySem.W.Frag) (w : World) (xs : List V) (H : Hp) (Q : VK) : Prop | mk (p : Addr) (ns : List Int) (h0 : xs = [.ref p]) (h1 : SqL K H p (ns.map V.int)) (h2 : ns.length ≤ 1000) (h3 : ∀ (l : Addr) (ks : List Int), H l = none → ks.length ≤ ns.length → (∀ k, k ∈ ks ↔ k ∈ ns) → Q (.ref l) (upd H l (SetO w l ks))) : rSetOfI K w xs H Q
def rSetOf (K : PySem.W.Frag) (w : World) : List V → Hp → VK → Prop := fun xs H Q => rSetOfI K w xs H Q
theorem call_setOf (hc : X.calm = true) : CallR X (.type "set") (rSetOf X.K X.w) := by
  intro pins s σ H xs us Q I r h
  obtain ⟨p, ns, rfl, hq, hn, q⟩ := h
  obtain ⟨u, rfl, rx⟩ := vals1 r
  cases rx
  obtain ⟨its, rv, pl, hz⟩ := I.list hq
  have hI := ints_of_vals rv
  have hlen := rv.length
  rw [List.length_map] at hlen
  refine call_set (I.ok.hd hc) pl.isList hI (by omega) fun h' tk kr hS hl hm up => ?_
  exact ⟨.ref _, _, I.laid2 (s' := { s with heap := h', toks := tk }) up rfl rfl (Nat.le_refl _) (setO_ok hS), rfl, q _ kr (I.hok.fresh (Nat.le_refl _)) hl hm⟩

inductive rSetOpI (w : World) (f : Int → List Int → List Int → Prop) (x : V) (y : V) (H : Hp) (Q : VK) : Prop | mk (p q : Addr) (ks ls : List Int) (h0 : x = .ref p) (h1 : y = .ref q) (h2 : q ≠ p) (h3 : H p = some (SetO w p ks)) (h4 : H q = some (SetO w q ls)) (h5 : ks.length ≤ 100) (h6 : ls.length ≤ 100) (h7 : ∀ (r : Addr) (kr : List Int), H r = none → kr.Nodup → (∀ k, k ∈ kr ↔ f k ks ls) → Q (.ref r) (upd H r (SetO w r kr))) : rSetOpI w f x y H Q
def rSetOp (w : World) (f : Int → List Int → List Int → Prop) : R2 := fun x y H Q => rSetOpI w f x y H Q
theorem op_setAnd : OpR X (binaryOp .BitAnd) (rSetOp X.w fun k ks ls => k ∈ ks ∧ k ∈ ls) := by
  intro pins s σ H x y v u Q I rx ry h
  obtain ⟨p, q, ks, ls, rfl, rfl, hne, hp, hq, l1, l2, q'⟩ := h
  cases rx; cases ry
  obtain ⟨e1, p1, t1, x1⟩ := I.set hp
  obtain ⟨e2, p2, t2, x2⟩ := I.set hq
  refine op_and_of x1 x2 hne l1 l2 fun h' kr up hS hn hm => ?_
  exact ⟨.ref _, _, I.laid2 (s' := { s with heap := h' }) up rfl rfl (Nat.le_refl _) (setO_ok hS), rfl, q' _ kr (I.hok.fresh (Nat.le_refl _)) hn hm⟩
theorem op_setOr : OpR X (binaryOp .BitOr) (rSetOp X.w fun k ks ls => k ∈ ks ∨ k ∈ ls) := by
  intro pins s σ H x y v u Q I rx ry h
  obtain ⟨p, q, ks, ls, rfl, rfl, hne, hp, hq, l1, l2, q'⟩ := h
  cases rx; cases ry
  obtain ⟨e1, p1, t1, x1⟩ := I.set hp
  obtain ⟨e2, p2, t2, x2⟩ := I.set hq
  refine op_or_of x1 x2 hne l1 l2 fun h' kr up hS hn hm => ?_
  exact ⟨.ref _, _, I.laid2 (s' := { s with heap := h' }) up rfl rfl (Nat.le_refl _) (setO_ok hS), rfl, q' _ kr (I.hok.fresh (Nat.le_refl _)) hn hm⟩
theorem op_setSub : OpR X (binaryOp .Sub) (rSetOp X.w fun k ks ls => k ∈ ks ∧ k ∉ ls) := by
  intro pins s σ H x y v u Q I rx ry h
  obtain ⟨p, q, ks, ls, rfl, rfl, hne, hp, hq, l1, l2, q'⟩ := h
  cases rx; cases ry
  obtain ⟨e1, p1, t1, x1⟩ := I.set hp
  obtain ⟨e2, p2, t2, x2⟩ := I.set hq
  refine op_sub_of x1 x2 hne l1 l2 fun h' kr up hS hn hm => ?_
  exact ⟨.ref _, _, I.laid2 (s' := { s with heap := h' }) up rfl rfl (Nat.le_refl _) (setO_ok hS), rfl, q' _ kr (I.hok.fresh (Nat.le_refl _)) hn hm⟩

/-- sorted(a set of ints) -/
inductive rSortedI (w : World) (xs : List V) (H : Hp) (Q : VK) : Prop | mk (p : Addr) (ks : List Int) (h0 : xs = [.ref p]) (h1 : H p = some (SetO w p ks)) (h2 : ks.Nodup) (h3 : ks.length < 64) (h4 : ∀ (l : Addr) (ns : List Int), H l = none → ns.Perm ks → ns.Pairwise (· < ·) → Q (.ref l) (upd H l (.lst (ns.map V.int)))) : rSortedI w xs H Q
def rSorted (w : World) : List V → Hp → VK → Prop := fun xs H Q => rSortedI w xs H Q
theorem lt_of_le_nodup : ∀ {ns : List Int}, ns.Nodup → ns.Pairwise (· ≤ ·) → ns.Pairwise (· < ·)
  | [], _, _ => .nil
  | n :: ns, hd, hp => by
    obtain ⟨h1, h2⟩ := List.nodup_cons.mp hd
    obtain ⟨h3, h4⟩ := List.pairwise_cons.mp hp
    exact List.pairwise_cons.mpr ⟨fun m hm => by
      have := h3 m hm
      have hne : n ≠ m := fun e => h1 (e ▸ hm)
      omega, lt_of_le_nodup h2 h4⟩
theorem call_sortedSet (hc : X.calm = true) : CallR X (.builtin "sorted") (rSorted X.w) := by
  intro pins s σ H xs us Q I r h
  obtain ⟨p, ks, rfl, hp, hnd, h64, q⟩ := h
  obtain ⟨u, rfl, rx⟩ := vals1 r
  cases rx
  obtain ⟨e1, p1, t1, x1⟩ := I.set hp
  refine sorted_set x1 (I.ok.hd hc) h64 fun s' l vs ns n up hg ho hl hoL hI hpm hpw => ?_
  have hv : Vals (ns.map V.int) vs := vals_ints hI
  have hlen : (ns.map V.int).length ≤ sizeLine := by rw [List.length_map, hpm.length_eq, sizeLine_eq]; omega
  exact ⟨.ref l, _, I.laid2 up hg ho hl (show ObjOk X.prog X.w _ s'.heap l (.lst (ns.map V.int)) from ⟨hlen, vs, n, hv, hoL⟩), rfl, q l ns (I.hok.fresh hl) hpm (lt_of_le_nodup (hpm.nodup_iff.mpr hnd) hpw)⟩
end
end L2


set_option linter.all false
set_option maxRecDepth 100000
namespace L2
open PySem PySem.Spec PyProof.Rows WS

/-! ### a comprehension over one name -/
/-- its block's context -/
def compCx (X : Cx) (s : Shared) (H : Hp) (pins : List (Addr × Obj)) (scope : Scope) (cl : List (Str × Addr)) (C : Addr) (N : List Str) (fp : List Addr) : Cx :=
  { X with N := N, s₀ := s, H₀ := H, env := compEnvC scope cl C X.env, outer := X.stack, stack := X.stack, ex := fp, fn := fun _ => false, pn := X.pn ++ pins }

/-- what is asked of the block's names: x its own, M the frame's, in their slots, those that the block does not see under other names -/
structure CompOk (X : Cx) (scope : Scope) (x : Str) (M : List Str) : Prop where
  kind : scope.kind = .function
  nocell : ∀ y ∈ scope.names, y.2 ≠ .cell
  names : ∀ y ∈ scope.names, y.2 = .local → scope.names.lookup y.1 = some .local
  own : scope.names.lookup x = some .local
  free : ∀ y ∈ scope.names, y.2 = .free → X.env.kindOf y.1 = some .cell ∨ X.env.kindOf y.1 = some .free
  len : M.length = X.N.length
  seen : ∀ (i : Nat) (y : Str), M[i]? = some y → scope.names.lookup y ≠ some .local ∧ scope.names.lookup y ≠ some .cell ∧ (scope.names.lookup y = some .free → X.N[i]? = some y)
  nd : (M ++ [x]).Nodup

theorem lookup_mem {α : Type} {y : Str} {k : α} : ∀ {l : List (Str × α)}, l.lookup y = some k → (y, k) ∈ l
  | [], h => by simp at h
  | (n, j) :: r, h => by
    rw [List.lookup_cons] at h
    cases hq : y == n with
    | true =>
      rw [hq] at h
      have e : y = n := by simpa using hq
      cases h
      rw [e]; exact List.mem_cons_self
    | false => rw [hq] at h; exact List.mem_cons_of_mem _ (lookup_mem h)

theorem lookup_relabel (env : Env) (y : Str) : ∀ (l : List (Str × NameKind)), (l.map fun (n, k) => if (k == NameKind.free && env.scope.kind == .function && env.kindOf n == some .cell) then (n, NameKind.cell) else (n, k)).lookup y =
    (l.lookup y).map fun k => if (k == NameKind.free && env.scope.kind == .function && env.kindOf y == some .cell) then NameKind.cell else k
  | [] => rfl
  | (n, k) :: r => by
    have ih := lookup_relabel env y r
    show List.lookup y ((if (k == NameKind.free && env.scope.kind == .function && env.kindOf n == some .cell) = true then (n, NameKind.cell) else (n, k)) :: _) = Option.map _ (List.lookup y ((n, k) :: r))
    cases hq : y == n with
    | true =>
      have e : y = n := by simpa using hq
      subst e
      have e2 : List.lookup y ((y, k) :: r) = some k := by rw [List.lookup_cons, hq]
      rw [e2, Option.map_some]
      cases hb : (k == NameKind.free && env.scope.kind == .function && env.kindOf y == some .cell) with
      | true => simp only [if_true, List.lookup_cons, hq]
      | false => simp only [Bool.false_eq_true, if_false, List.lookup_cons, hq]
    | false =>
      have e2 : List.lookup y ((n, k) :: r) = List.lookup y r := by rw [List.lookup_cons, hq]
      rw [e2, ← ih]
      cases hb : (k == NameKind.free && env.scope.kind == .function && env.kindOf n == some .cell) with
      | true => simp only [if_true, List.lookup_cons, hq]
      | false => simp only [Bool.false_eq_true, if_false, List.lookup_cons, hq]

/-- the cells that the block takes over -/
theorem closure_of {env : Env} : ∀ (l : List (Str × NameKind)) (acc : List (Str × Addr)), (∀ y ∈ l, y.2 = .free → ∃ c, env.cells.lookup y.1 = some c) →
    (∀ y c, acc.lookup y = some c → env.cells.lookup y = some c) →
    ∃ cl : List (Str × Addr), (forIn l acc fun (x : Str × NameKind) cs => if (x.2 == NameKind.free) = true then (do let c ← cellOf env x.1; pure (ForInStep.yield ((x.1, c) :: cs))) else pure (ForInStep.yield cs) : Sem (List (Str × Addr))) = pure cl ∧
      (∀ y c, cl.lookup y = some c → env.cells.lookup y = some c) ∧ (∀ y, (y, NameKind.free) ∈ l ∨ (∃ c, acc.lookup y = some c) → ∃ c, cl.lookup y = some c)
  | [], acc, _, h2 => ⟨acc, rfl, h2, fun y h => by rcases h with h | h; cases h; exact h⟩
  | (n, k) :: r, acc, h1, h2 => by
    by_cases hk : k = .free
    · subst hk
      obtain ⟨c, hc⟩ := h1 (n, .free) List.mem_cons_self rfl
      obtain ⟨cl, e, a1, a2⟩ := closure_of r ((n, c) :: acc) (fun y hy => h1 y (List.mem_cons_of_mem _ hy)) (fun y d hd => by
        rw [List.lookup_cons] at hd
        cases hq : y == n with
        | true =>
          rw [hq] at hd
          have e : y = n := by simpa using hq
          cases hd
          rw [e]; exact hc
        | false => rw [hq] at hd; exact h2 y d hd)
      refine ⟨cl, ?_, a1, fun y h => a2 y ?_⟩
      · rw [List.forIn_cons]
        have ec : cellOf env n = pure c := by unfold cellOf; rw [hc]
        simp only [beq_self_eq_true, if_true, ec, pure_bind]
        exact e
      · rcases h with h | ⟨d, h⟩
        · rcases List.mem_cons.mp h with h | h
          · cases h
            exact .inr ⟨c, by rw [List.lookup_cons]; simp⟩
          · exact .inl h
        · refine .inr ?_
          rw [List.lookup_cons]
          cases hq : y == n with
          | true => exact ⟨c, rfl⟩
          | false => exact ⟨d, h⟩
    · obtain ⟨cl, e, a1, a2⟩ := closure_of r acc (fun y hy => h1 y (List.mem_cons_of_mem _ hy)) h2
      refine ⟨cl, ?_, a1, fun y h => a2 y ?_⟩
      · rw [List.forIn_cons]
        have hb : (k == NameKind.free) = false := by simpa using hk
        simp only [hb, Bool.false_eq_true, if_false, pure_bind]
        exact e
      · rcases h with h | h
        · rcases List.mem_cons.mp h with h | h
          · cases h; exact absurd rfl hk
          · exact .inl h
        · exact .inr h

/-- the tests of a comprehension -/
def PIfs (X : Cx) (ifs : List Expr) (t : TT) : Prop :=
  ∀ (pins : List (Addr × Obj)) (s : Shared) (σ : St) (H : Hp) (Q : Bool → Hp → Prop), Inv X pins σ H s → t σ H Q →
    wpAny (model X.prog X.w) X.A (forIn ifs true fun c r => if r = true then do let ok ← isTrue c X.env (eval c X.env); pure (ForInStep.yield ok) else pure (ForInStep.yield r)) (TP X pins σ Q) X.xe s
def tTrue : TT := fun _ H Q => Q true H
theorem pifs_nil {X : Cx} : PIfs X [] tTrue := fun _ _ _ H _ I h => wpAny_tests_nil ⟨H, I, h⟩
theorem pifs_one {X : Cx} {c : Expr} {t : TT} (h : PT X c t) : PIfs X [c] t := fun pins s σ H Q I ht => wpAny_tests_one (h pins s σ H Q I ht)

def tComp (wi : TI) (tt : TT) (te : TE) (fin : St → Hp → List V → Prop) : St → Hp → Prop := fun σ H => wi σ H fun J H1 => ∃ W : Nat → Nat → List V → Hp → Prop, (∃ m, W 0 m [] H1) ∧ ∀ i m vs H, W i m vs H →
  (J.stop i H ∧ vs.length ≤ sizeLine ∧ fin σ H vs) ∨
  (J.go i H ∧ vs.length < sizeLine ∧ ∀ x H', J.yld i H x H' → tt (σ ++ [some x]) H' fun b H2 => if b = true then te (σ ++ [some x]) H2 fun v H3 => ∃ m', m' < m ∧ W (i + 1) m' (vs ++ [v]) H3 else ∃ m', m' < m ∧ W (i + 1) m' vs H2)

section
variable {X : Cx} {scope : Scope} {x : Str} {M : List Str}
theorem compCx_ok {pins : List (Addr × Obj)} {σ : St} {H : Hp} {s : Shared} {fp : List Addr} {cl : List (Str × Addr)} {C : Addr} (I : Inv X pins σ H s) (O : CompOk X scope x M) (hf : ∀ b ∈ fp, FpOk X pins H b) (hfl : ∀ b ∈ fp, b < s.heap.objs.size)
    (hcl : ∀ y c, cl.lookup y = some c → X.env.cells.lookup y = some c) (hfr : ∀ y, (y, NameKind.free) ∈ scope.names → ∃ c, cl.lookup y = some c) (hC : s.heap.objs.size ≤ C) : (compCx X s H pins scope cl C (M ++ [x]) fp).Ok where
  mod := I.ok.mod
  kind := O.kind
  glob := I.ok.glob
  blt := I.ok.blt
  above := hC
  inj := fun y z c e1 e2 => I.ok.inj y z c (hcl y c e1) (hcl z c e2)
  has := fun y hk => by
    have hk' : (scope.names.map fun (n, k) => if (k == NameKind.free && X.env.scope.kind == .function && X.env.kindOf n == some .cell) then (n, NameKind.cell) else (n, k)).lookup y = some .cell ∨
        (scope.names.map fun (n, k) => if (k == NameKind.free && X.env.scope.kind == .function && X.env.kindOf n == some .cell) then (n, NameKind.cell) else (n, k)).lookup y = some .free := hk
    rw [lookup_relabel] at hk'
    cases hl : scope.names.lookup y with
    | none => rw [hl] at hk'; simp at hk'
    | some k =>
      rw [hl] at hk'
      have hm := lookup_mem hl
      by_cases hkf : k = .free
      · subst hkf; exact hfr y hm
      · exfalso
        have hb : (k == NameKind.free) = false := by simpa using hkf
        simp only [Option.map_some, hb, Bool.false_and, Bool.false_eq_true, if_false, Option.some.injEq] at hk'
        rcases hk' with r | r
        · exact O.nocell _ hm r
        · exact hkf r
  cab := fun y c hfn => by cases hfn
  hd := I.ok.hd
  frames := I.ok.frames
  stk := .inl rfl
  exf := fun b hb => ⟨Nat.ne_of_lt (Nat.lt_of_lt_of_le (hfl b hb) hC), fun y c e => (hf b hb).2.2.2.2.1 y c (hcl y c e)⟩
  bs := I.bs
  bsz := Nat.le_trans I.ok.bsz I.sz
  noex := fun b o e hb => by
    rcases (hf b hb).2.2.2.1 with z | z
    · exact I.ok.noex b o e z
    · exact absurd (Nat.lt_of_lt_of_le (Heap.lt_size (I.ok.bs b o e).1) z) (Nat.lt_irrefl _)
  exfs := fun b hb hs => by
    rcases List.mem_cons.mp (I.stkSub b hs) with z | z
    · exact (hf b hb).2.1 z
    · exact (hf b hb).2.2.1 z
  funs := I.stack
  frf := I.stkFree


theorem plain_of {h : Heap} {D : Addr} {ys : Array Value} {n : Nat} (e : h.get? D = some { cls := .type "list", dict := none, data := .seq ys n, slots := #[] }) : h.PlainList D ys := ⟨n, e⟩

theorem comp_block {elt iter : Expr} {px pos : Pos} {ifs : List Expr} {pins : List (Addr × Obj)} {σ : St} {H : Hp} {s : Shared} {J : It} {fp : List Addr} {it : Addr} {tn : Nat → Heap → Prop} {cl : List (Str × Addr)} {tt : TT} {te : TE}
    {RR : Value → Addr → Result → Shared → Prop} {E : Value → Shared → Prop} {fin : Hp → List V → Prop} (hx0 : ∀ e s, ¬ X.xe e s) (hc : X.calm = true) (O : CompOk X scope x M)
    (ht : ∀ s H pins cl C fp, PIfs (compCx X s H pins scope cl C (M ++ [x]) fp) ifs tt) (he : ∀ s H pins cl C fp, PE (compCx X s H pins scope cl C (M ++ [x]) fp) elt te)
    (I : Inv X pins σ H s) (T : Turn X.prog X.w X.K (.Name x px) J fp it tn) (st : tn 0 s.heap) (hf : ∀ b ∈ fp, FpOk X pins H b)
    (hcl : ∀ y c, cl.lookup y = some c → X.env.cells.lookup y = some c) (hfr : ∀ y, (y, NameKind.free) ∈ scope.names → ∃ c, cl.lookup y = some c)
    (hW : ∃ W : Nat → Nat → List V → Hp → Prop, (∃ m, W 0 m [] H) ∧ ∀ i m vs H, W i m vs H →
      (J.stop i H ∧ vs.length ≤ sizeLine ∧ fin H vs) ∨
      (J.go i H ∧ vs.length < sizeLine ∧ ∀ x H', J.yld i H x H' → tt (σ ++ [some x]) H' fun b H2 => if b = true then te (σ ++ [some x]) H2 fun v H3 => ∃ m', m' < m ∧ W (i + 1) m' (vs ++ [v]) H3 else ∃ m', m' < m ∧ W (i + 1) m' vs H2))
    (hRR : ∀ (D C : Addr) (s' : Shared) (vs : List V) (H' : Hp), H' D = none → (∃ m, s'.heap.Ns C m) → Inv X pins σ (upd H' D (.lst vs)) s' → FpOk X pins (upd H' D (.lst vs)) C → fin H' vs → RR (.ref D) C (.ok .next) s') :
    wpAny (model X.prog X.w) X.A (newList []) (fun acc s₃ => wpAny (model X.prog X.w) X.A (newFunctionEnv scope X.env.globals cl [] X.env.qual none .none (some X.env)) (fun cenv s₄ =>
      codeAny (model X.prog X.w) X.A (.compStart (.ListComp elt [⟨.Name x px, iter, ifs, 0⟩] scope pos) 0 (.ref it) acc { cenv with scope := relabel scope X.env }) (RR acc cenv.locals) s₄) E s₃) E s := by
  obtain ⟨W, ⟨m0, w0⟩, step⟩ := hW
  refine wpAny_newObj_type (wpAny_newFunctionEnv O.nocell (by intro y hy; simp at hy) (fun h₁ hns₁ hsb₁ => ?_) O.kind)
  dsimp only at hns₁ hsb₁ ⊢
  generalize hD : s.heap.objs.size = D at *
  generalize hH2 : s.heap.push { cls := .type "list", dict := none, data := .seq ([] : List Value).toArray } = H2 at hns₁ hsb₁ ⊢
  have hC0 : H2.objs.size = D + 1 := by rw [← hH2, Heap.size_push, hD]
  generalize hC : H2.objs.size = C at *
  have hDC : D ≠ C := by rw [hC0]; exact Nat.ne_of_lt (Nat.lt_succ_self _)
  have hCs : s.heap.objs.size ≤ C := by rw [hD, hC0]; exact Nat.le_succ _
  have old : ∀ b o, s.heap.get? b = some o → h₁.get? b = some o := fun b o e => by
    have hb : b < D := by rw [← hD]; exact Heap.lt_size e
    refine hsb₁.extBut b o (by rw [hC0]; exact Nat.ne_of_lt (Nat.lt_succ_of_lt hb)) (Heap.get?_push_of_some _ ?_)
    rw [← hH2]; exact Heap.get?_push_of_some _ e
  have hacc : h₁.get? D = some { cls := .type "list", dict := none, data := .seq #[] 0, slots := #[] } := by
    refine hsb₁.extBut D _ hDC (Heap.get?_push_of_some _ ?_)
    rw [← hH2, ← hD]; exact Heap.get?_push_size _ rfl
  have hfl : ∀ b ∈ fp, b < s.heap.objs.size := fun b hb => by
    obtain ⟨o, e, _⟩ := T.obj 0 _ st b hb
    exact Heap.lt_size e
  have hDfp : ∀ b ∈ fp, D ≠ b := fun b hb z => by have := hfl b hb; rw [hD, z] at this; exact Nat.lt_irrefl _ this
  have ok' : (compCx X s H pins scope cl C (M ++ [x]) fp).Ok := compCx_ok I O hf hfl hcl hfr hCs
  have fresh : ∀ a, s.heap.objs.size ≤ a → H a = none := fun a ha => I.hok.fresh ha
  have pinfs : ∀ p ∈ X.pn ++ pins, p.1 ∉ frs X.stack := fun p hp hb => by
    obtain ⟨_, _, n1, n2, _⟩ := I.pin p hp
    rcases List.mem_cons.mp (I.stkSub p.1 hb) with z | z
    · exact n1 z
    · exact n2 z
  -- the block's first state
  have I0 : Inv (compCx X s H pins scope cl C (M ++ [x]) fp) [] (σ ++ [none]) H { s with heap := h₁, toks := s.toks + ([] : List (Str × Value)).length } := by
    refine ⟨ok', rfl, I.bare, Un.kept old, ⟨_, hns₁, fun i y v e1 e2 e3 => ?_⟩, fun y c e => ?_, fresh C hCs, fun y c e => I.freeC y c (hcl y c e), fun p hp => ?_, I.hok.kept old, ?_⟩
    · have e1' : (M ++ [x])[i]? = some y := e1
      have hi : i < M.length := by
        rcases Nat.lt_or_ge i M.length with h | h
        · exact h
        · exfalso
          rw [List.getElem?_append_right (by rw [I.len, ← O.len]; exact h)] at e2
          cases hk : i - σ.length with
          | zero => rw [hk] at e2; simp at e2
          | succ k => rw [hk] at e2; simp at e2
      rw [List.getElem?_append_left hi] at e1'
      rw [List.getElem?_append_left (by rw [I.len, ← O.len]; exact hi)] at e2
      obtain ⟨s1, s2, s3⟩ := O.seen i y e1'
      have hv : (scope.names.map fun (n, k) => if (k == NameKind.free && X.env.scope.kind == .function && X.env.kindOf n == some .cell) then (n, NameKind.cell) else (n, k)).lookup y = some .local ∨
          (scope.names.map fun (n, k) => if (k == NameKind.free && X.env.scope.kind == .function && X.env.kindOf n == some .cell) then (n, NameKind.cell) else (n, k)).lookup y = some .cell ∨
          (scope.names.map fun (n, k) => if (k == NameKind.free && X.env.scope.kind == .function && X.env.kindOf n == some .cell) then (n, NameKind.cell) else (n, k)).lookup y = some .free := e3
      have hkind : (compCx X s H pins scope cl C (M ++ [x]) fp).env.kindOf y = some .cell ∨ (compCx X s H pins scope cl C (M ++ [x]) fp).env.kindOf y = some .free ∧ True := by
        show (scope.names.map fun (n, k) => if (k == NameKind.free && X.env.scope.kind == .function && X.env.kindOf n == some .cell) then (n, NameKind.cell) else (n, k)).lookup y = some .cell ∨
          (scope.names.map fun (n, k) => if (k == NameKind.free && X.env.scope.kind == .function && X.env.kindOf n == some .cell) then (n, NameKind.cell) else (n, k)).lookup y = some .free ∧ True
        rcases hv with z | z | z
        · exfalso
          rw [lookup_relabel] at z
          cases hl : scope.names.lookup y with
          | none => rw [hl] at z; simp at z
          | some k =>
            rw [hl] at z
            simp only [Option.map_some, Option.some.injEq] at z
            split at z
            · cases z
            · exact s1 (by rw [hl, z])
        · exact .inl z
        · exact .inr ⟨z, trivial⟩
      have hfree : scope.names.lookup y = some .free := by
        rw [lookup_relabel] at hv
        cases hl : scope.names.lookup y with
        | none => rw [hl] at hv; simp at hv
        | some k =>
          by_cases hkf : k = .free
          · rw [hkf]
          · exfalso
            have hb : (k == NameKind.free) = false := by simpa using hkf
            rw [hl] at hv
            simp only [Option.map_some, hb, Bool.false_and, Bool.false_eq_true, if_false, Option.some.injEq] at hv
            rcases hv with z | z | z
            · exact s1 (by rw [hl, z])
            · exact s2 (by rw [hl, z])
            · exact hkf z
      have hN := s3 hfree
      have hmem := lookup_mem hfree
      have hk := O.free _ hmem rfl
      obtain ⟨m, hn, hl⟩ := I.loc
      obtain ⟨u, r, lk⟩ := hl i y v hN e2 (.inr hk)
      rcases lk with ⟨l1, _⟩ | ⟨_, c, ec, hcell⟩
      · exfalso
        rw [l1] at hk
        rcases hk with z | z <;> cases z
      · obtain ⟨c', ec'⟩ := hfr y hmem
        have := hcl y c' ec'
        rw [ec] at this
        cases this
        refine ⟨u, r, .inr ⟨?_, c, ec', ?_⟩⟩
        · rcases hkind with z | z
          · exact .inl z
          · exact .inr z.1
        · obtain ⟨o, ho, hd⟩ := hcell
          exact ⟨o, old _ o ho, hd⟩
    · obtain ⟨v, o, ho, hd⟩ := I.cell y c (hcl y c e)
      exact ⟨v, o, old _ o ho, hd⟩
    · have hp' : p ∈ X.pn ++ pins := by simpa [compCx] using hp
      obtain ⟨p1, p2, p3, p4, p5⟩ := I.pin p hp'
      exact ⟨old _ _ p1, p2, Nat.ne_of_lt (Nat.lt_of_lt_of_le (Heap.lt_size p1) hCs), pinfs p hp', p5⟩
    · show (σ ++ [none]).length = (M ++ [x]).length
      rw [List.length_append, List.length_append, I.len, O.len]
      rfl
  have lastIx : ∀ v : V, (M ++ [x])[M.length]? = some x := fun _ => by simp
  have hsetl : ∀ (q : Option V) (v : V), (σ ++ [q]).set M.length (some v) = σ ++ [some v] := fun q v => by
    have e : M.length = σ.length := O.len.trans I.len.symm
    rw [e, List.set_append_right _ _ (Nat.le_refl _)]
    simp
  have stat : ∀ {H' : Hp} {n : Nat} {ys : Array Value}, (∀ b ∈ fp, H' b = none) → ∀ b ∈ fp, FpOk (compCx X s H pins scope cl C (M ++ [x]) fp) [(D, { cls := .type "list", dict := none, data := .seq ys n, slots := #[] })] H' b := fun hn b hb => by
    obtain ⟨f0, f1, f2, f3, f4, f5⟩ := hf b hb
    refine ⟨hn b hb, Nat.ne_of_lt (Nat.lt_of_lt_of_le (hfl b hb) hCs), fun hs => ?_, .inl hb, fun y c e => f4 y c (hcl y c e), fun p hp => ?_⟩
    · rcases List.mem_cons.mp (I.stkSub b hs) with z | z
      · exact f1 z
      · exact f2 z
    · rcases List.mem_append.mp hp with z | z
      · exact f5 p z
      · rw [List.mem_singleton.mp z]; exact hDfp b hb
  have locne : ∀ {b : Addr}, b < C → b ≠ C := fun h => Nat.ne_of_lt h
  have DltC : D < C := by rw [hC0]; exact Nat.lt_succ_self _
  have Dnofs : D ∉ frs X.stack := fun hb => by
    rcases List.mem_cons.mp (I.stkSub D hb) with z | z
    · exact absurd (by rw [← z]; exact Nat.le_of_eq hD) (Nat.not_le.mpr I.lt)
    · exact I.nofs (Nat.le_of_eq hD) z
  have pinD : ∀ {σ' : St} {H' : Hp} {s' : Shared} {ys : Array Value} {n : Nat}, Inv (compCx X s H pins scope cl C (M ++ [x]) fp) [] σ' H' s' → H' D = none → s'.heap.get? D = some { cls := .type "list", dict := none, data := .seq ys n, slots := #[] } →
      Inv (compCx X s H pins scope cl C (M ++ [x]) fp) [(D, { cls := .type "list", dict := none, data := .seq ys n, slots := #[] })] σ' H' s' := fun {σ' H' s' ys n} I' hn e =>
    I'.pins_of fun p hp => by
      have : p = (D, { cls := .type "list", dict := none, data := .seq ys n, slots := #[] }) := List.mem_singleton.mp hp
      subst this
      exact ⟨e, hn, locne DltC, Dnofs, fun v z => by cases z⟩
  have unD : ∀ {pl : List (Addr × Obj)} {σ' : St} {H' : Hp} {s' : Shared}, Inv (compCx X s H pins scope cl C (M ++ [x]) fp) pl σ' H' s' → Inv (compCx X s H pins scope cl C (M ++ [x]) fp) [] σ' H' s' := fun I' => I'.pins_of fun p hp => by cases hp
  have loop : ∀ s₃ : Shared, s₃ = { s with heap := h₁, toks := s.toks + ([] : List (Str × Value)).length } →
      codeAny (model X.prog X.w) X.A (.compLoop (.ListComp elt [⟨.Name x px, iter, ifs, 0⟩] scope pos) 0 (.ref it) (.ref D) (compEnvC scope cl C X.env)) (RR (.ref D) C) s₃ := by
    rintro s₃ rfl
    refine codeAny_compLoop_tests
      (fun n s' => ∃ i vs H' q ys c, Inv (compCx X s H pins scope cl C (M ++ [x]) fp) [] (σ ++ [q]) H' s' ∧ tn i s'.heap ∧ (∀ b ∈ fp, H' b = none) ∧ H' D = none ∧ Vals vs ys ∧ s'.heap.get? D = some { cls := .type "list", dict := none, data := .seq ys.toArray c, slots := #[] } ∧ W i n vs H') ?_ m0
      ⟨0, [], H, none, [], 0, I0, T.keep _ _ _ st fun b _ o e => old b o e, fun b hb => (hf b hb).1, fresh D (Nat.le_of_eq hD), .nil, hacc, w0⟩
    rintro n s3 ⟨i, vs, H3, q, ys, c, I3, st3, fr3, hD3, hv3, hl3, w3⟩
    have I3' := pinD I3 hD3 hl3
    rcases step i n vs H3 w3 with ⟨stop, hsz, qn⟩ | ⟨go, hsz, turn⟩
    · refine wpAny_mono (T.done (compCx X s H pins scope cl C (M ++ [x]) fp) rfl rfl rfl hc i _ s3 (σ ++ [q]) H3 X.xe I3' (stat fr3) st3 stop) (fun r s4 hr => ?_) fun e s' z => absurd z (hx0 e s')
      obtain ⟨rfl, I4⟩ := hr
      have e4 := (I4.pin _ (List.mem_append_right _ (List.mem_singleton.mpr rfl))).1
      have I4' := unD I4
      obtain ⟨mC, hnC, _⟩ := I4'.loc
      have hHD : ∀ b u, H3 b = some u → b ≠ D := fun b u e z => by rw [z, hD3] at e; cases e
      have u0 := I4'.base
      refine hRR D C s4 vs H3 hD3 ⟨mC, hnC⟩ ?_ ?_ qn
      · refine I.call' I4'.os (ch := fp) ⟨u0.keep, u0.slot, fun b o e nn hb => ?_, u0.there, fun b xs e => ?_, fun b o u e => ?_, fun b ps e => ?_⟩ (fun b u e => ?_) I4'.bare fun b hb => ?_
        · have hb' : b ≠ D := by rw [← hD]; exact Nat.ne_of_lt (Heap.lt_size e)
          rw [upd_ne hb']; exact u0.free b o e nn hb
        · have := u0.tups b xs e
          rw [upd_ne (hHD b _ this)]; exact this
        · have := u0.frzs b o u e
          rw [upd_ne (hHD b _ this)]; exact this
        · obtain ⟨more, this⟩ := u0.tbls b ps e
          exact ⟨more, by rw [upd_ne (hHD b _ this)]; exact this⟩
        · by_cases hb : b = D
          · subst hb
            rw [upd_same] at e
            cases e
            exact ⟨hsz, ys, c, hv3, e4⟩
          · rw [upd_ne hb] at e
            exact (I4'.hok b u e).stay (fun _ _ _ z => z) (fun d z => by rw [upd_ne (hHD d _ z)]; exact z) fun d xs z => by rw [upd_ne (hHD d _ z)]; exact z
        · obtain ⟨f0, f1, f2, f3, f4, f5⟩ := hf b hb
          exact ⟨f3, f1, f4, f5⟩
      · refine I.fpOk hCs ?_
        rw [upd_ne (Ne.symm hDC)]
        exact I4'.free
    · refine wpAny_mono (T.item (compCx X s H pins scope cl C (M ++ [x]) fp) rfl rfl rfl hc i _ s3 (σ ++ [q]) H3 X.xe I3' (stat fr3) st3 go) (fun r s4 hr => ?_) fun e s' z => absurd z (hx0 e s')
      obtain ⟨u, rfl, h4⟩ := hr
      dsimp only
      have hasg : assign (.Name x px) (compEnvC scope cl C X.env) u = (letOwnedTupleGo (.Name x px) (.ref it) u >>= fun _ => assign (.Name x px) (compEnvC scope cl C X.env) u) := rfl
      rw [hasg]
      refine wpAny_bind (wpAny_mono h4 (fun _ s5 h5 => ?_) fun e s' z => absurd z (hx0 e s'))
      obtain ⟨v, H5, I5, r5, y5, st5, fr5⟩ := h5
      have I5' := I5.pinned (stat fr5) (T.obj _ _ st5)
      have hg := pg_name (X := compCx X s H pins scope cl C (M ++ [x]) fp) (pos := px) (i := M.length) (x := x) O.nd (lastIx v) (.inl (lookup_relabel_local O.own)) (.inr (lookup_relabel_local O.own))
      refine wpAny_mono (hg _ s5 (σ ++ [q]) H5 v u (fun σ' H' => σ' = σ ++ [some v] ∧ H' = H5) I5' r5 ⟨hsetl q v, rfl⟩) (fun _ s6 h6 => ?_) fun e s' z => absurd z (hx0 e s')
      obtain ⟨σ6, H6, I6, rfl, rfl⟩ := h6
      refine wpAny_mono (ht s H pins cl C fp _ s6 _ H6 _ I6 (turn v H6 y5)) (fun ok s7 h7 => ?_) fun e s' z => absurd z (hx0 e s')
      obtain ⟨H7, I7, q7⟩ := h7
      have back : ∀ {s8 : Shared} {H8 : Hp}, Inv (compCx X s H pins scope cl C (M ++ [x]) fp) ([(D, { cls := .type "list", dict := none, data := .seq ys.toArray c, slots := #[] })] ++ pinsAt fp s5.heap) (σ ++ [some v]) H8 s8 →
          tn (i + 1) s8.heap ∧ (∀ b ∈ fp, H8 b = none) ∧ H8 D = none ∧ s8.heap.get? D = some { cls := .type "list", dict := none, data := .seq ys.toArray c, slots := #[] } := fun {s8 H8} I8 => by
        have pd := I8.pin _ (List.mem_append_right _ (List.mem_append_left _ (List.mem_singleton.mpr rfl)))
        refine ⟨T.keep _ _ _ st5 fun b hb o e => (I8.pin (b, o) (List.mem_append_right _ (List.mem_append_right _ (mem_pinsAt hb e)))).1, fun b hb => ?_, pd.2.1, pd.1⟩
        obtain ⟨o, e, d⟩ := T.obj _ _ st5 b hb
        exact (I8.pin (b, o) (List.mem_append_right _ (List.mem_append_right _ (mem_pinsAt hb e)))).2.1
      cases ok with
      | false =>
        rw [if_neg Bool.false_ne_true] at q7 ⊢
        obtain ⟨m', hm', w7⟩ := q7
        obtain ⟨b1, b2, b3, b4⟩ := back I7
        exact ⟨m', hm', i + 1, vs, H7, some v, ys, c, unD I7, b1, b2, b3, hv3, b4, w7⟩
      | true =>
        rw [if_pos rfl] at q7 ⊢
        refine wpAny_mono (he s H pins cl C fp _ s7 _ H7 _ I7 q7) (fun u8 s8 h8 => ?_) fun e s' z => absurd z (hx0 e s')
        obtain ⟨v8, H8, I8, r8, m', hm', w8⟩ := h8
        obtain ⟨b1, b2, b3, b4⟩ := back I8
        have hysz : ys.toArray.size ≤ sizeLine := by rw [List.size_toArray, ← hv3.length]; omega
        refine wpAny_list_append_plain (hsz := hysz) (plain_of b4) fun h9 hl9 hs9 => ?_
        obtain ⟨c9, e9⟩ := hl9
        have I9 : Inv (compCx X s H pins scope cl C (M ++ [x]) fp) [] (σ ++ [some v]) H8 { s8 with heap := h9 } := by
          refine (unD I8).turned (t' := s8.toks) (it := D) (fun b o hb e => hs9.extBut b o hb e) b3 (locne DltC) (.inr (Nat.le_of_eq hD)) (fun y c' e z => ?_) fun p hp => ?_
          · obtain ⟨v', hcell⟩ := I.cell y c' (hcl y c' e)
            have hlt := hcell.lt
            rw [z, ← hD] at hlt
            exact Nat.lt_irrefl _ hlt
          · have hp' : p ∈ X.pn ++ pins := by simpa [compCx] using hp
            have hlt := Heap.lt_size (I.pin p hp').1
            rw [hD] at hlt
            exact Nat.ne_of_lt hlt
        refine ⟨m', hm', i + 1, vs ++ [v8], H8, some v, ys ++ [u8], c9, I9, T.keep _ _ _ b1 fun b hb o e => hs9.extBut b o (Ne.symm (hDfp b hb)) e, b2, b3, hv3.append (.cons r8 .nil), ?_, w8⟩
        show h9.get? D = _
        rw [e9]
        simp
  exact codeAny_compStart_list (loop _ rfl) (T.self _ 0 _ _ _ (T.keep _ _ _ st fun b _ o e => old b o e) (loop _ rfl))
end
end L2


set_option linter.all false
set_option maxRecDepth 100000
namespace L2
open PySem PySem.Spec PyProof.Rows WS
section
variable {X : Cx} {scope : Scope} {x : Str} {M : List Str} {elt iter : Expr} {px pos : Pos} {ifs : List Expr} {wi : TI} {tt : TT} {te : TE}

theorem closure_ex {pins : List (Addr × Obj)} {σ : St} {H : Hp} {s : Shared} (I : Inv X pins σ H s) (O : CompOk X scope x M) :
    ∃ cl : List (Str × Addr), closureFor scope X.env = pure cl ∧ (∀ y c, cl.lookup y = some c → X.env.cells.lookup y = some c) ∧ (∀ y, (y, NameKind.free) ∈ scope.names → ∃ c, cl.lookup y = some c) := by
  obtain ⟨cl, e, a1, a2⟩ := closure_of (env := X.env) scope.names [] (fun y hy hk => I.ok.has y.1 (O.free y hy hk)) (fun y c h => by simp at h)
  refine ⟨cl, ?_, a1, fun y hy => a2 y (.inl hy)⟩
  have e2 : closureFor scope X.env = (forIn scope.names [] fun (x : Str × NameKind) cs => if (x.2 == NameKind.free) = true then (do let c ← cellOf X.env x.1; pure (ForInStep.yield ((x.1, c) :: cs))) else pure (ForInStep.yield cs) : Sem (List (Str × Addr))) >>= fun r => pure r := rfl
  rw [e2, e]
  rfl

/-- [elt for x in iter if ..] -/
theorem pe_comp (hx0 : ∀ e s, ¬ X.xe e s) (hc : X.calm = true) (O : CompOk X scope x M) (hi : PI X (.Name x px) iter wi)
    (ht : ∀ s H pins cl C fp, PIfs (compCx X s H pins scope cl C (M ++ [x]) fp) ifs tt) (he : ∀ s H pins cl C fp, PE (compCx X s H pins scope cl C (M ++ [x]) fp) elt te)
    (hs : ∀ v, foldedSetIterable iter X.env v = pure v := by intro _; rfl) :
    PE X (.ListComp elt [⟨.Name x px, iter, ifs, 0⟩] scope pos) (fun σ H Q => tComp wi tt te (fun _ H vs => ∀ D, H D = none → Q (.ref D) (upd H D (.lst vs))) σ H) := by
  intro pins s σ H Q I h
  obtain ⟨cl, e, hcl, hfr⟩ := closure_ex I O
  rw [eval_ListComp]
  refine wpAny_comprehension_free (use := none) rfl hs e O.kind O.names (thn (hi pins s σ H _ I h) fun v s1 h1 => thn h1 fun itv s2 h2 => ?_)
  obtain ⟨it, fp, tn, J, H2, rfl, I2, T, st2, f2, hW⟩ := h2
  refine comp_block (RR := fun acc C => compPost (model X.prog X.w) X.A X.xe none (EP X pins σ Q) acc C) (fin := fun H vs => ∀ D, H D = none → Q (.ref D) (upd H D (.lst vs))) hx0 hc O ht he I2 T st2 f2 hcl hfr hW ?_
  rintro D C s' vs H' hD ⟨m, hn⟩ I' F hfin
  obtain ⟨f0, f1, f2, f3, f4, f5⟩ := F
  refine ⟨m, hn, fun h' hs' => ⟨.ref D, _, I'.turned (t' := s'.toks) (fun b o hb e => hs'.extBut b o hb e) f0 f1 f3 f4 f5, rfl, hfin D hD⟩⟩

/-- y = [elt for x in iter if ..], y a plain local -/
theorem ps_comp {i : Nat} {y : Str} {py spos : Pos} (hx0 : ∀ e s, ¬ X.xe e s) (hc : X.calm = true) (O : CompOk X scope x M) (hi : PI X (.Name x px) iter wi)
    (ht : ∀ s H pins cl C fp, PIfs (compCx X s H pins scope cl C (M ++ [x]) fp) ifs tt) (he : ∀ s H pins cl C fp, PE (compCx X s H pins scope cl C (M ++ [x]) fp) elt te)
    (hN : X.N.Nodup) (hix : X.N[i]? = some y) (hy : X.env.scope.names.lookup y = some .local)
    (hsw : swapsWith (.ListComp elt [⟨.Name x px, iter, ifs, 0⟩] scope pos) (some (.Name y py)) spos.line X.env = pure true := by rfl)
    (hs : ∀ v, foldedSetIterable iter X.env v = pure v := by intro _; rfl) :
    PS X (.Assign [.Name y py] (.ListComp elt [⟨.Name x px, iter, ifs, 0⟩] scope pos) spos) (fun D σ H => tComp wi tt te (fun σ H vs => ∀ p, H p = none → D.nx (σ.set i (some (.ref p))) (upd H p (.lst vs))) σ H) := by
  intro pins s σ H D I h
  obtain ⟨cl, e, hcl, hfr⟩ := closure_ex I O
  rw [exec_Assign_Name_used _ _ _ _ hsw]
  refine wpAny_bind (wpAny_standAt (wpAny_bind ?_))
  show wpAny _ _ (comprehension (.ListComp elt [⟨.Name x px, iter, ifs, 0⟩] scope pos) scope X.env _ (newList []) false (eval iter X.env) (some (assign (.Name y py) X.env)) >>= fun _ => pure ()) _ _ s
  refine wpAny_bind (wpAny_mono (wpAny_comprehension_free (use := some (assign (.Name y py) X.env)) (Q := fun _ s' => SP X pins D .next s') rfl hs e O.kind O.names
    (thn (hi pins s σ H _ I h) fun v s1 h1 => thn h1 fun itv s2 h2 => ?_)) (fun _ s' hq => wpAny_pure (wpAny_pure hq)) fun _ _ e => e)
  obtain ⟨it, fp, tn, J, H2, rfl, I2, T, st2, f2, hW⟩ := h2
  refine comp_block (RR := fun acc C => compPost (model X.prog X.w) X.A X.xe (some (assign (.Name y py) X.env)) (fun _ s' => SP X pins D .next s') acc C) (fin := fun H vs => ∀ p, H p = none → D.nx (σ.set i (some (.ref p))) (upd H p (.lst vs))) hx0 hc O ht he I2 T st2 f2 hcl hfr hW ?_
  rintro p C s' vs H' hp ⟨m, hn⟩ I' F hfin
  obtain ⟨f0, f1, f2, f3, f4, f5⟩ := F
  show wpAny _ _ (assign (.Name y py) X.env (.ref p)) _ _ _
  refine wpAny_assign_Name (store_ok2 I' hN hix (.inl hy) (v := .ref p) rfl (fun s'' I'' hsame => ?_) (.inr hy))
  obtain ⟨a, hsb, ha⟩ := hsame
  have hCa : C ≠ a := by
    rcases ha with z | z
    · rw [z]; exact f1
    · exact fun q => f4 y a z q.symm
  refine ⟨m, hn.sameBut hsb hCa, fun h' hs' => ⟨σ.set i (some (.ref p)), _, I''.turned (t' := s''.toks) (fun b o hb e => hs'.extBut b o hb e) f0 f1 f3 f4 f5, hfin p hp⟩⟩
end

/-! ### the forms one uses -/
/-- over a list, the heap left as it is: g says what a member gives -/
theorem comp_list {K : PySem.W.Frag} {a : Addr} {xs : List V} {tt : TT} {te : TE} {fin : Hp → List V → Prop} {σ : St} {H : Hp} (g : V → Option V) (hl : SqL K H a xs) (hz : xs.length ≤ sizeLine)
    (hs : ∀ (x : V), x ∈ xs → ∀ (Qt : V → Hp → Prop) (Qf : Hp → Prop), (∀ v, g x = some v → Qt v H) → (g x = none → Qf H) → tt (σ ++ [some x]) H fun b H2 => if b = true then te (σ ++ [some x]) H2 Qt else Qf H2)
    (hd : fin H (xs.filterMap g)) :
    ∃ W : Nat → Nat → List V → Hp → Prop, (∃ m, W 0 m [] H) ∧ ∀ i m vs H, W i m vs H →
      ((Itl K a).stop i H ∧ vs.length ≤ sizeLine ∧ fin H vs) ∨
      ((Itl K a).go i H ∧ vs.length < sizeLine ∧ ∀ x H', (Itl K a).yld i H x H' → tt (σ ++ [some x]) H' fun b H2 => if b = true then te (σ ++ [some x]) H2 fun v H3 => ∃ m', m' < m ∧ W (i + 1) m' (vs ++ [v]) H3 else ∃ m', m' < m ∧ W (i + 1) m' vs H2) := by
  refine ⟨fun i m vs H' => H' = H ∧ i ≤ xs.length ∧ m = xs.length - i ∧ vs = (xs.take i).filterMap g, ⟨xs.length, rfl, Nat.zero_le _, by simp, by simp⟩, ?_⟩
  rintro i m vs H' ⟨rfl, hi, rfl, rfl⟩
  have hle : ((xs.take i).filterMap g).length ≤ i := Nat.le_trans (List.length_filterMap_le _ _) (by rw [List.length_take]; exact Nat.min_le_left _ _)
  by_cases hlt : i < xs.length
  · refine .inr ⟨⟨xs, xs[i], hl, by simp [hlt]⟩, by omega, fun x H1 y => ?_⟩
    obtain ⟨rfl, y⟩ := y
    have hx := y xs hl
    have htk : xs.take (i + 1) = xs.take i ++ [x] := by rw [List.take_add_one, hx]; rfl
    refine hs x (List.mem_of_getElem? hx) _ _ (fun v hv => ⟨xs.length - (i + 1), by omega, rfl, by omega, rfl, ?_⟩) (fun hv => ⟨xs.length - (i + 1), by omega, rfl, by omega, rfl, ?_⟩)
    · rw [htk, List.filterMap_append]; simp [hv]
    · rw [htk, List.filterMap_append]; simp [hv]
  · have e : i = xs.length := by omega
    subst e
    refine .inl ⟨⟨xs, hl, Nat.le_refl _⟩, by omega, ?_⟩
    rw [List.take_length]
    exact hd
/-- over lo, lo + 1, .. -/
theorem comp_range {lo : Int} {n : Nat} {tt : TT} {te : TE} {fin : Hp → List V → Prop} {σ : St} {H : Hp} (g : Int → Option V) (hz : n ≤ sizeLine)
    (hs : ∀ (i : Nat), i < n → ∀ (Qt : V → Hp → Prop) (Qf : Hp → Prop), (∀ v, g (lo + i) = some v → Qt v H) → (g (lo + i) = none → Qf H) → tt (σ ++ [some (.int (lo + i))]) H fun b H2 => if b = true then te (σ ++ [some (.int (lo + i))]) H2 Qt else Qf H2)
    (hd : fin H ((List.range n).filterMap fun i => g (lo + (i : Nat)))) :
    ∃ W : Nat → Nat → List V → Hp → Prop, (∃ m, W 0 m [] H) ∧ ∀ i m vs H, W i m vs H →
      ((Itr lo n).stop i H ∧ vs.length ≤ sizeLine ∧ fin H vs) ∨
      ((Itr lo n).go i H ∧ vs.length < sizeLine ∧ ∀ x H', (Itr lo n).yld i H x H' → tt (σ ++ [some x]) H' fun b H2 => if b = true then te (σ ++ [some x]) H2 fun v H3 => ∃ m', m' < m ∧ W (i + 1) m' (vs ++ [v]) H3 else ∃ m', m' < m ∧ W (i + 1) m' vs H2) := by
  refine ⟨fun i m vs H' => H' = H ∧ i ≤ n ∧ m = n - i ∧ vs = (List.range i).filterMap fun i => g (lo + (i : Nat)), ⟨n, rfl, Nat.zero_le _, by simp, by simp⟩, ?_⟩
  rintro i m vs H' ⟨rfl, hi, rfl, rfl⟩
  have hle : ((List.range i).filterMap fun i => g (lo + (i : Nat))).length ≤ i := Nat.le_trans (List.length_filterMap_le _ _) (by rw [List.length_range]; exact Nat.le_refl _)
  by_cases hlt : i < n
  · refine .inr ⟨hlt, by omega, fun x H1 y => ?_⟩
    obtain ⟨rfl, rfl⟩ := y
    refine hs i hlt _ _ (fun v hv => ⟨n - (i + 1), by omega, rfl, by omega, rfl, ?_⟩) (fun hv => ⟨n - (i + 1), by omega, rfl, by omega, rfl, ?_⟩)
    · rw [List.range_succ, List.filterMap_append]; simp [hv]
    · rw [List.range_succ, List.filterMap_append]; simp [hv]
  · have e : i = n := by omega
    subst e
    exact .inl ⟨Nat.le_refl _, by omega, hd⟩
end L2


set_option linter.all false
set_option maxRecDepth 100000
namespace L2
open PySem PySem.Spec PyProof.Rows WS
theorem kit_ii {K : PySem.W.Frag} : PySem.W.kitOne K (.type "int") (.type "int") = some true := by
  unfold PySem.W.kitOne
  kernel_rfl
theorem kit_ib {K : PySem.W.Frag} : PySem.W.kitOne K (.type "int") (.type "bool") = some false := by kernel_rfl
theorem kit_ll {K : PySem.W.Frag} : PySem.W.kitOne K (.type "list") (.type "list") = some true := by kernel_rfl
theorem kit_ss {K : PySem.W.Frag} : PySem.W.kitOne K (.type "str") (.type "str") = some true := by kernel_rfl
section
variable {X : Cx}
/-- isinstance(x, c), c a built-in type -/
inductive rIsiI (K : PySem.W.Frag) (xs : List V) (H : Hp) (Q : VK) : Prop | mk (x : V) (n : String) (t : Value) (b : Bool) (h0 : xs = [x, .ty n]) (h1 : TyOf K H x t) (h2 : PySem.W.kitOne K t (.type n) = some b) (h3 : Q (.bl b) H) : rIsiI K xs H Q
def rIsi (K : PySem.W.Frag) : List V → Hp → VK → Prop := fun xs H Q => rIsiI K xs H Q
theorem call_isi : CallR X (.builtin "isinstance") (rIsi X.K) := by
  intro pins s σ H xs us Q I r h
  obtain ⟨x, n, t, b, rfl, ty, e, q⟩ := h
  obtain ⟨u, v, rfl, r1, r2⟩ := Vals.two r
  cases r2
  exact isinst_ok I r1 ty e fun tk => ⟨.bl b, H, I.tok tk, rfl, q⟩
end
end L2
namespace L2
open PySem PySem.Spec PyProof.Rows WS
/-- what a comprehension asks of the names, as a look -/
def compChk (sc scope : Scope) (x : Str) (N M : List Str) : Bool :=
  (scope.kind == .function) && scope.names.all (fun y => y.2 != .cell) && scope.names.all (fun y => y.2 != .local || scope.names.lookup y.1 == some .local) && (scope.names.lookup x == some .local) &&
  scope.names.all (fun y => y.2 != .free || (sc.names.lookup y.1 == some .cell || sc.names.lookup y.1 == some .free)) && (M.length == N.length) &&
  (List.range M.length).all (fun i => match M[i]? with
    | some y => (scope.names.lookup y != some .local) && (scope.names.lookup y != some .cell) && (scope.names.lookup y != some .free || N[i]? == some y)
    | none => true) && decide ((M ++ [x]).Nodup)
theorem compOk_of {X : Cx} {sc scope : Scope} {x : Str} {N M : List Str} (hX : X.env.scope = sc) (hN : X.N = N) (h : compChk sc scope x N M = true) : CompOk X scope x M := by
  subst hX hN
  simp only [compChk, Bool.and_eq_true, List.all_eq_true, Bool.or_eq_true, bne_iff_ne, beq_iff_eq, decide_eq_true_eq, ne_eq] at h
  obtain ⟨⟨⟨⟨⟨⟨⟨h1, h2⟩, h3⟩, h4⟩, h5⟩, h6⟩, h7⟩, h8⟩ := h
  refine ⟨h1, h2, fun y hy hk => (h3 y hy).resolve_left fun z => z hk, h4, fun y hy hk => (h5 y hy).resolve_left fun z => z hk, h6, fun i y e => ?_, h8⟩
  have hi : i < M.length := (List.getElem?_eq_some_iff.mp e).1
  have := h7 i (List.mem_range.mpr hi)
  rw [e] at this
  simp only [Bool.and_eq_true, Bool.or_eq_true, bne_iff_ne, beq_iff_eq, ne_eq] at this
  exact ⟨this.1.1, this.1.2, fun hf => this.2.resolve_left fun z => z hf⟩

/-! ### ints in lists -/
theorem flat_ints (ns : List Int) : (ns.map V.int).all flatV = true := by
  rw [List.all_map]
  exact List.all_eq_true.mpr fun n _ => rfl
end L2


set_option linter.all false
set_option maxRecDepth 100000
namespace L2
open PySem PySem.Spec PyProof.Rows WS

/-! ### for a, b in enumerate(a list) -/
/-- the pairs (i, x): each a new tuple -/
def Ite (K : PySem.W.Frag) (a : Addr) : It :=
  ⟨fun i H => ∃ xs x, SqL K H a xs ∧ xs[i]? = some x, fun i H v H' => ∃ (T : Addr) (x : V), v = .ref T ∧ H T = none ∧ H' = upd H T (.tup [.int i, x]) ∧ ∀ xs, SqL K H a xs → xs[i]? = some x, fun i H => ∃ xs, SqL K H a xs ∧ xs.length = i⟩
theorem enum_step {X : Cx} {pins : List (Addr × Obj)} {σ : St} {H : Hp} {s s2 : Shared} {e it T : Addr} {xs : List V} {its : List Value} (I : Inv X pins σ H s) (he : FpOk X pins H e) (hi : FpOk X pins H it) (hT : s.heap.objs.size ≤ T)
    (hk : ∀ b o, b ≠ e → b ≠ it → s.heap.get? b = some o → s2.heap.get? b = some o) (hg : s2.gens = s.gens) (ho : s2.os = s.os) (hv : Vals xs its) (hz : xs.length ≤ 10) (ht : IsTup s2.heap T its.toArray) : Inv X pins σ (upd H T (.tup xs)) s2 := by
  have hHT : H T = none := I.hok.fresh hT
  have ne1 : ∀ b u, H b = some u → b ≠ e := fun b u q z => by rw [z, he.1] at q; cases q
  have ne2 : ∀ b u, H b = some u → b ≠ it := fun b u q z => by rw [z, hi.1] at q; cases q
  have hz' : xs.length ≤ sizeLine := by rw [sizeLine_eq]; omega
  refine I.call' ho (ch := [e, it]) ⟨fun b o q n _ hx => ?_, fun b o q n _ hx => ?_, fun b o q n hx => ?_, fun b o q hx => ?_, fun b ys q => ?_, fun b o u q => ?_, fun b ps q => ⟨#[], ?_⟩⟩ (fun b u q => ?_) (by rw [hg]; exact I.bare) fun b hb => ?_
  · exact hk b o (fun z => hx (by simp [z])) (fun z => hx (by simp [z])) q
  · exact ⟨o.slots, hk b o (fun z => hx (by simp [z])) (fun z => hx (by simp [z])) q⟩
  · rw [upd_ne (Nat.ne_of_lt (Nat.lt_of_lt_of_le (Heap.lt_size q) hT))]; exact n
  · exact ⟨o, hk b o (fun z => hx (by simp [z])) (fun z => hx (by simp [z])) q⟩
  · rw [upd_ne (ne_of_none q hHT)]; exact q
  · rw [upd_ne (ne_of_none q hHT)]; exact q
  · rw [upd_ne (ne_of_none q hHT), q]; simp
  · by_cases hb : b = T
    · subst hb
      rw [upd_same] at q
      cases q
      exact ⟨hz', its, hv, ht⟩
    · rw [upd_ne hb] at q
      refine (I.hok b u q).stay (fun c v hc z => hk c v ?_ ?_ z) (fun d z => by rw [upd_ne (ne_of_none z hHT)]; exact z) fun d ys z => by rw [upd_ne (ne_of_none z hHT)]; exact z
      · rcases hc with r | r
        · rw [r]; exact ne1 b u q
        · exact ne1 c _ r
      · rcases hc with r | r
        · rw [r]; exact ne2 b u q
        · exact ne2 c _ r
  · rcases List.mem_cons.mp hb with r | r
    · rw [r]; exact ⟨he.2.2.2.1, he.2.1, he.2.2.2.2.1, he.2.2.2.2.2⟩
    · rw [List.mem_singleton.mp r]; exact ⟨hi.2.2.2.1, hi.2.1, hi.2.2.2.2.1, hi.2.2.2.2.2⟩

theorem turn_enum {P : Program} {w : World} {K : PySem.W.Frag} {es : List Expr} {k : Nat} {tp : Pos} (a e it : Addr) (hei : e ≠ it) : Turn P w K (.Tuple es k tp) (Ite K a) [e, it] e (fun i h => (∃ old, IsEnum h e it i old) ∧ h.IsListIter it a i) where
  mem := by simp
  obj := fun i h st b hb => by
    obtain ⟨⟨old, he⟩, o, ho, hc, hd⟩ := st
    rcases List.mem_cons.mp hb with r | r
    · subst r; exact ⟨_, he, fun v z => by cases z⟩
    · rw [List.mem_singleton.mp r]; exact ⟨o, ho, fun v z => by rw [hd] at z; cases z⟩
  keep := fun i h h' st kk => ⟨let ⟨old, he⟩ := st.1; ⟨old, kk e (by simp) _ he⟩, st.2.at fun o q => kk it (by simp) o q⟩
  item := by
    intro X hP hw hK hc i pins s σ H E I hf st hg
    subst hP hw hK
    obtain ⟨xs, x, hq, hx⟩ := hg
    obtain ⟨its, rv, p, hz⟩ := I.list hq
    obtain ⟨u, hu, ru⟩ := rv.get hx
    obtain ⟨⟨old, he⟩, hit⟩ := st
    have hL := p.isList
    have hae : a ≠ e := fun z => by
      obtain ⟨o, ho, hcl, _⟩ := hL
      rw [z, he] at ho; cases ho; exact absurd hcl (by decide : ¬ (Value.type "enumerate" = Value.type "list"))
    have hai : a ≠ it := fun z => by
      obtain ⟨o, ho, hcl, _⟩ := hL
      obtain ⟨o2, ho2, hcl2, _⟩ := hit
      rw [z, ho2] at ho; cases ho
      rw [hcl2] at hcl; exact absurd hcl (by decide)
    have hil : i < its.toArray.size := by rw [List.size_toArray]; exact (List.getElem?_eq_some_iff.mp hu).1
    refine wpAny_pyNext_enum_itemD (Draws.list (A := X.A.in1) (I.ok.hd hc) it a hai its.toArray) he ⟨hit, hL⟩ hil hei (by
      simp only [List.mem_cons, List.not_mem_nil, or_false, not_or]
      exact ⟨hei, Ne.symm hae⟩) fun y h' tk hP ho st' hT hsz hk => ?_
    have hy : y = u := by
      have e1 : its.toArray[i]? = some y := hP
      rw [List.getElem?_toArray, hu] at e1
      exact (Option.some.inj e1).symm
    subst hy
    have helt : e < s.heap.objs.size := Heap.lt_size he
    refine ⟨_, rfl, wpAny_letOwnedTupleGo_enum ho fun h'' he'' hs'' => ?_⟩
    have hTe : s.heap.objs.size ≠ e := Nat.ne_of_gt helt
    have hk2 : ∀ b o, b ≠ e → b ≠ it → s.heap.get? b = some o → h''.get? b = some o := fun b o h1 h2 q => hs''.extBut b o h1 (hk b o h1 h2 q)
    refine ⟨.ref s.heap.objs.size, upd H s.heap.objs.size (.tup [.int i, x]), enum_step I (hf e (by simp)) (hf it (by simp)) (Nat.le_refl _) hk2 rfl rfl (its := [.int i tk, y]) (.cons ⟨tk, rfl⟩ (.cons ru .nil)) (Nat.le_of_ble_eq_true rfl) ?_, rfl, ⟨_, x, rfl, I.hok.fresh (Nat.le_refl _), rfl, fun ys hy => by rw [I.list_inj hy hq]; exact hx⟩, ⟨⟨y, ?_⟩, st'.1.at fun o q => hs''.extBut it o (Ne.symm hei) q⟩, fun b hb => ?_⟩
    · exact ⟨_, hs''.extBut _ _ hTe hT, rfl, _, rfl⟩
    · have e2 : ((i + 1 : Nat) : Int) = (i : Int) + 1 := by omega
      show IsEnum h'' e it ((i + 1 : Nat) : Int) y
      rw [e2]; exact he''
    · have hbs : b < s.heap.objs.size := by
        rcases List.mem_cons.mp hb with r | r
        · rw [r]; exact helt
        · rw [List.mem_singleton.mp r]; obtain ⟨o, ho, _⟩ := hit; exact Heap.lt_size ho
      rw [upd_ne (Nat.ne_of_lt hbs)]
      exact (hf b hb).1
  done := by
    intro X hP hw hK hc i pins s σ H E I hf st hg
    subst hP hw hK
    obtain ⟨xs, hq, hx⟩ := hg
    obtain ⟨its, rv, p, hz⟩ := I.list hq
    obtain ⟨⟨old, he⟩, hit⟩ := st
    have hL := p.isList
    have hai : a ≠ it := fun z => by
      obtain ⟨o, ho, hcl, _⟩ := hL
      obtain ⟨o2, ho2, hcl2, _⟩ := hit
      rw [z, ho2] at ho; cases ho
      rw [hcl2] at hcl; exact absurd hcl (by decide)
    obtain ⟨f0, f1, f2, f3, f4, f5⟩ := hf it (by simp)
    have hn : its.toArray.size = i := by rw [List.size_toArray, ← rv.length, hx]
    refine wpAny_pyNext_enum_endD (Draws.list (A := X.A.in1) (I.ok.hd hc) it a hai its.toArray) he ⟨hn ▸ hit, hL⟩ fun h' eb => ?_
    exact ⟨rfl, I.turned (t' := s.toks) (fun b o hb q => eb b o hb q) f0 f1 f3 f4 f5⟩
  self := fun _ _ _ _ _ st h => by obtain ⟨⟨old, he⟩, _⟩ := st; exact wpAny_pyIter_enum he h

section
variable {X : Cx}
def iEnum (K : PySem.W.Frag) (tl : TA) : TI := fun σ H R => tl σ H fun vs H1 => ∃ a, vs = [.ref a] ∧ (∃ xs, SqL K H1 a xs) ∧ R (Ite K a) H1
theorem pi_enum {es : List Expr} {k : Nat} {tp : Pos} {l : Expr} {tl : TA} {p pos : Pos} (hg : Gl X "enumerate") (hm : X.mg "enumerate" = none) (ha : PA X [l] tl) (he : starEach [l] X.env = (false, eval l X.env) :: starEach [] X.env := by rfl)
    (hpl : (backTo pos (starEach ([] : List Expr) X.env)).any (·.1) = false := by rfl) : PI X (.Tuple es k tp) (.Call (.Name "enumerate" p) [l] [] pos) (iEnum X.K tl) := by
  intro pins s σ H R I h
  refine wpAny_Call_Name_kw (ld_blt I hg hm boot_enumerate ?_)
  refine PyProof.Rows.callWith_type1 (thn (ha pos pins s σ H _ I h) fun us s1 ⟨vs, H1, I1, r1, q1⟩ => ?_) he hpl
  obtain ⟨a, rfl, ⟨xs, hq⟩, q⟩ := q1
  obtain ⟨u, rfl, rx⟩ := vals1 r1
  cases rx
  obtain ⟨its, rv, pl, hz⟩ := I1.list hq
  refine call_enumerate_list pl.isList fun h' he' hit hsz hk => ?_
  have hei : s1.heap.objs.size + 1 ≠ s1.heap.objs.size := Nat.succ_ne_self _
  have I2 : Inv X pins σ H1 { s1 with heap := h' } := I1.kept (t' := s1.toks) hk
  refine wpAny_pyIter_enum he' ⟨_, [s1.heap.objs.size + 1, s1.heap.objs.size], _, _, H1, rfl, I2, turn_enum a _ _ hei, ⟨⟨_, he'⟩, hit⟩, fun b hb => ?_, q⟩
  have hb' : s1.heap.objs.size ≤ b := by
    rcases List.mem_cons.mp hb with r | r
    · rw [r]; exact Nat.le_succ _
    · rw [List.mem_singleton.mp r]; exact Nat.le_refl _
  exact I1.fpOk hb' (I1.hok.fresh hb')
end
/-- over a list that the body leaves as it is -/
theorem for_enum {K : PySem.W.Frag} {a : Addr} {xs : List V} {g : TG} {tb : TS} {D : Ends} {σ : St} {H : Hp} (Pv : Nat → St → Hp → Prop) (h0 : Pv 0 σ H) (hl : ∀ i σ H, i ≤ xs.length → Pv i σ H → SqL K H a xs)
    (hs : ∀ i x σ H T, xs[i]? = some x → Pv i σ H → H T = none → g (.ref T) σ (upd H T (.tup [.int i, x])) fun σ2 H2 => tb { D with nx := Pv (i + 1), ct := Pv (i + 1), bk := D.nx } σ2 H2) (hd : ∀ σ H, Pv xs.length σ H → D.nx σ H) :
    ∃ W : Nat → Nat → St → Hp → Prop, (∃ m, W 0 m σ H) ∧ ∀ i m σ H, W i m σ H →
      ((Ite K a).stop i H ∧ D.nx σ H) ∨ ((Ite K a).go i H ∧ ∃ N : St → Hp → Prop, (∀ σ' H', N σ' H' → ∃ m', m' < m ∧ W (i + 1) m' σ' H') ∧ ∀ x H', (Ite K a).yld i H x H' → g x σ H' fun σ2 H2 => tb { D with nx := N, ct := N, bk := D.nx } σ2 H2) := by
  refine ⟨fun i m σ H => m = xs.length - i ∧ i ≤ xs.length ∧ Pv i σ H, ⟨xs.length, by simp, Nat.zero_le _, h0⟩, ?_⟩
  rintro i m σ H ⟨rfl, hi, p⟩
  have q := hl i σ H hi p
  by_cases hlt : i < xs.length
  · refine .inr ⟨⟨xs, xs[i], q, by simp [hlt]⟩, Pv (i + 1), fun σ' H' p' => ⟨xs.length - (i + 1), by omega, rfl, hlt, p'⟩, fun v H' y => ?_⟩
    obtain ⟨T, x, rfl, hT, rfl, y⟩ := y
    exact hs i x σ H T (y xs q) p hT
  · have e : i = xs.length := by omega
    subst e
    exact .inl ⟨⟨xs, q, rfl⟩, hd σ H p⟩
end L2


set_option linter.all false
set_option maxRecDepth 100000
namespace L2
open PySem PySem.Spec PyProof.Rows WS PySem.Builtin PySem.Builtin.Str

/-! ### signs and texts -/
section
variable {X : Cx}
theorem op_le_str : OpR X (compareOp .LtE) (fun x y H Q => ∃ i j, x = .str i ∧ y = .str j ∧ Q (.bl (!decide (j.cps.toList < i.cps.toList))) H) := by
  intro pins s σ H x y v u Q I rx ry h
  obtain ⟨i, j, rfl, rfl, q⟩ := h
  obtain ⟨t, rfl⟩ := rx
  obtain ⟨t', rfl⟩ := ry
  exact PySem.P.le_str ⟨.bl _, H, I, rfl, q⟩
/-- x[lo:hi] of a text -/
def rSlS : V → Option Int → Option Int → Hp → VK → Prop := fun x lo hi H Q => ∃ z, x = .str z ∧ z.length ≤ sizeLine ∧ Q (.str (Txt.slice z lo hi)) H
theorem isSlice_of {h : Heap} {a : Addr} {vl vu : Value} {lo hi : Option Int} (hs : h.IsSliceOf a vl vu .none) (pl : IsPart vl lo) (pu : IsPart vu hi) :
    ∃ l u : Option (Int × Tok), h.IsSlice a l u none ∧ l.map (·.1) = lo ∧ u.map (·.1) = hi := by
  obtain ⟨o, e, hc, hd⟩ := hs
  cases pl with
  | none =>
    cases pu with
    | none => exact ⟨none, none, ⟨o, e, hc, hd⟩, rfl, rfl⟩
    | int j t => exact ⟨none, some (j, t), ⟨o, e, hc, hd⟩, rfl, rfl⟩
  | int i t =>
    cases pu with
    | none => exact ⟨some (i, t), none, ⟨o, e, hc, hd⟩, rfl, rfl⟩
    | int j t' => exact ⟨some (i, t), some (j, t'), ⟨o, e, hc, hd⟩, rfl, rfl⟩
theorem sl_str : SlR X rSlS := by
  intro pins s σ H x v vl vu lo hi sl Q I rx hs pl pu h
  obtain ⟨z, rfl, hz, q⟩ := h
  obtain ⟨t, rfl⟩ := rx
  obtain ⟨l, u, hsl, rfl, rfl⟩ := isSlice_of hs pl pu
  refine ⟨"str", _, slot_str_getitem.lookup, typeIs_str s z t, ?_⟩
  refine wpAny_getItem_str_slice hsl (by decide) ?_
  unfold sliceMade
  exact post_val_or_str ⟨Nat.le_trans (Txt.slice_le z _ _) hz, fun t' k => ⟨.str _, H, I.tok _, ⟨_, rfl⟩, q⟩⟩
theorem slice_nat {z : Str} {a b : Nat} (hab : a ≤ b) (hb : b ≤ z.length) : Txt.slice z (some (a : Int)) (some (b : Int)) = ⟨((z.cps.toList.take b).drop a).toArray⟩ := by
  have e := StrLaws.sliced_plain z hab hb
  have hl : (strSliceIndices (some (a : Int)) (some (b : Int)) 1 z.length).length = b - a := by rw [StrLaws.strSliceIndices_plain hab hb]; simp
  have hd : (z.cps.toList.take b).drop a = (z.cps.toList.drop a).take (b - a) := by rw [List.drop_take]
  unfold Txt.slice
  rw [e, hd, hl]
  split
  · rename_i h
    have h' : b - a = z.length := by simpa using h
    have ha : a = 0 := by omega
    have hb' : b = z.length := by omega
    subst ha hb'
    refine Str.ext' (Array.toList_inj.mp ?_)
    show z.cps.toList = (z.cps.toList.drop 0).take (z.length - 0)
    rw [List.drop_zero, List.take_of_length_le (by simp [Str.length])]
  · rfl
theorem vals_strs : ∀ {xs : List Str} {us : List Value}, Vals (xs.map V.str) us → StrsAre us xs
  | [], _, .nil => .nil
  | x :: r, _, .cons rx rs => by
    obtain ⟨t, rfl⟩ := (show ∃ t, _ = Value.str x t from rx)
    exact .cons _ _ (vals_strs rs)
theorem vals_from : ∀ (k : Nat) (ys : List Str), Vals (ys.map V.str) (strsFrom k ys)
  | _, [] => .nil
  | k, y :: r => .cons ⟨k, rfl⟩ (vals_from (k + 1) r)
/-- x.split() -/
theorem mt_split : MtR X "str.split" (fun x xs H Q => ∃ z, x = .str z ∧ xs = [] ∧ z.length + 2 ≤ sizeLine ∧ ∀ p, H p = none → Q (.ref p) (upd H p (.lst ((Txt.words z).map V.str)))) := by
  intro pins s σ H x xs v us Q I rx r h
  obtain ⟨z, rfl, rfl, hz, q⟩ := h
  obtain ⟨t, rfl⟩ := rx
  have e := Vals.zero r
  subst e
  have hn : (spaceWords z (z.length + 1)).length ≤ sizeLine := by
    have e1 := (StrLaws.sw_weight z).1
    have e2 := StrLaws.len_le_wsum (spaceWords z (z.length + 1))
    omega
  refine call_meets F.slot_str_split (typeIs_str _ _ _) F.entry_str_split (F.args_str_split_1 _) (meets_str_split_space z t (by omega) hn) ?_
  cases hw : spaceWords z (z.length + 1) == [(0, z.length)]
  · simp only [Bool.false_eq_true, if_false]
    have ew : Txt.words z = wordsOf z := if_neg (ne_true_of_eq_false hw)
    refine ⟨.ref s.heap.objs.size, _, I.laid (o := .lst ((Txt.words z).map V.str)) (fun b ob q => Heap.get?_push_of_some _ q) (Nat.le_refl _) ?_, rfl, q _ (I.hok.fresh (Nat.le_refl _))⟩
    refine ⟨?_, _, 0, ?_, Heap.get?_push_size _ rfl⟩
    · rw [List.length_map, ew]; unfold wordsOf; rw [List.length_map]; exact hn
    · rw [ew]; exact vals_from _ _
  · simp only [if_true]
    have ew : Txt.words z = [z] := if_pos hw
    refine ⟨.ref s.heap.objs.size, _, I.laid (t' := s.toks) (o := .lst ((Txt.words z).map V.str)) (fun b ob q => Heap.get?_push_of_some _ q) (Nat.le_refl _) ?_, rfl, q _ (I.hok.fresh (Nat.le_refl _))⟩
    rw [ew]
    exact ⟨by show 1 ≤ sizeLine; omega, _, 0, .cons ⟨t, rfl⟩ .nil, Heap.get?_push_size _ rfl⟩
end

/-! ### for c in a text -/
def Its (z : Str) : It := ⟨fun i _ => i < z.cps.size, fun i H x H' => H' = H ∧ ∃ c, z.cps[i]? = some c ∧ x = .str ⟨#[c]⟩, fun i _ => i = z.cps.size⟩
theorem walk_str {P : Program} {w : World} {A : Around} (hh : A.handled = none) (it : Addr) (z : Str) (t : Tok) : Walks P w A it [it] [it] z.cps.size (SignAt z) (fun i h => h.IsStrIter it (strIterType z) z t i) := by
  cases ha : z.cps.all (· < 128)
  · have e : strIterType z = "str_iterator" := by simp [strIterType, ha]
    rw [e]; exact Walks.strWide hh it z t
  · have e : strIterType z = "str_ascii_iterator" := by simp [strIterType, ha]
    rw [e]; exact Walks.strAscii hh it z t
theorem draw_str {P : Program} {w : World} {A : Around} (hh : A.handled = none) (it : Addr) (z : Str) (t : Tok) : Draws P w A it [it] z.cps.size (fun i v => ∃ c u, z.cps[i]? = some c ∧ v = .str ⟨#[c]⟩ u) (fun i h => h.IsStrIter it (strIterType z) z t i) := by
  cases ha : z.cps.all (· < 128)
  · have e : strIterType z = "str_iterator" := by simp [strIterType, ha]
    rw [e]; exact Draws.strWide hh it z t
  · have e : strIterType z = "str_ascii_iterator" := by simp [strIterType, ha]
    rw [e]; exact Draws.strAscii hh it z t
theorem strTy_plain (z : Str) : ["enumerate", "zip", "dict_itemiterator", "dict_reverseitemiterator", "odict_iterator", "itertools.zip_longest", "itertools.pairwise"].contains (strIterType z) = false := by
  unfold strIterType
  split <;> decide
theorem turn_str {P : Program} {w : World} {K : PySem.W.Frag} {tg : Expr} (z : Str) (t : Tok) (it : Addr) : Turn P w K tg (Its z) [it] it (fun i h => h.IsStrIter it (strIterType z) z t i) where
  mem := by simp
  obj := fun i h st b hb => by
    have e : b = it := by simpa using hb
    subst e
    obtain ⟨o, e, c, d⟩ := st
    exact ⟨o, e, fun v z => by rw [d] at z; cases z⟩
  keep := fun i h h' st k => let ⟨o, e, r⟩ := st; ⟨o, k it (by simp) o e, r⟩
  item := by
    intro X hP hw hK hc i pins s σ H E I hf st hg
    subst hP hw hK
    obtain ⟨f0, f1, f2, f3, f4, f5⟩ := hf it (by simp)
    have W := walk_str (P := X.prog) (w := X.w) (I.ok.hd hc) it z t
    refine W.item i s _ _ hg st fun v h' tk hv st' kk => ?_
    obtain ⟨c, u, hc', rfl⟩ := hv
    have I1 : Inv X pins σ H { s with heap := h', toks := tk } := I.turned (fun b o hb e => kk b o (by simpa using hb) e) f0 f1 f3 f4 f5
    obtain ⟨o, e, cc, d⟩ := id st'
    exact ⟨_, rfl, go_of (s := { s with heap := h', toks := tk }) e cc d (strTy_plain z) ⟨.str ⟨#[c]⟩, H, I1, ⟨u, rfl⟩, ⟨rfl, c, hc', rfl⟩, st', fun b hb => (hf b hb).1⟩⟩
  done := by
    intro X hP hw hK hc i pins s σ H E I hf st hg
    subst hP hw hK
    obtain ⟨f0, f1, f2, f3, f4, f5⟩ := hf it (by simp)
    have W := walk_str (P := X.prog) (w := X.w) (I.ok.hd hc) it z t
    have hg' : i = z.cps.size := hg
    subst hg'
    exact W.done s _ _ st fun h' tk eb => ⟨rfl, I.turned (fun b o hb e => eb b o (by simpa using hb) e) f0 f1 f3 f4 f5⟩
  self := fun A i s Q E st h => by
    cases ha : z.cps.all (· < 128)
    · have e : strIterType z = "str_iterator" := by simp [strIterType, ha]
      rw [e] at st; exact wpAny_pyIter_striter_wide st h
    · have e : strIterType z = "str_ascii_iterator" := by simp [strIterType, ha]
      rw [e] at st; exact wpAny_pyIter_striter_ascii st h
section
variable {X : Cx} {tg : Expr}
def iStr (tl : TE) : TI := fun σ H R => tl σ H fun x H1 => ∃ z, x = .str z ∧ R (Its z) H1
theorem pi_str {l : Expr} {tl : TE} (hl : PE X l tl) : PI X tg l (iStr tl) := by
  intro pins s σ H R I h
  refine thn (hl pins s σ H _ I h) fun v s1 ⟨x, H1, I1, r1, q1⟩ => ?_
  obtain ⟨z, rfl, q⟩ := q1
  obtain ⟨t, rfl⟩ := r1
  refine wpAny_pyIter_strU ?_
  refine ⟨s1.heap.objs.size, [s1.heap.objs.size], _, _, H1, rfl, I1.kept (t' := s1.toks) fun b o e => Heap.get?_push_of_some _ e, turn_str z t _, ⟨_, Heap.get?_push_size _ rfl, rfl, rfl⟩, fun b hb => ?_, q⟩
  have e : b = s1.heap.objs.size := by simpa using hb
  subst e
  exact I1.fpOk (Nat.le_refl _) (I1.hok.fresh (Nat.le_refl _))
end
theorem for_str {z : Str} {g : TG} {tb : TS} {D : Ends} {σ : St} {H : Hp} (Pv : Nat → St → Hp → Prop) (h0 : Pv 0 σ H)
    (hs : ∀ i c σ H, z.cps.toList[i]? = some c → Pv i σ H → g (.str ⟨#[c]⟩) σ H fun σ2 H2 => tb { D with nx := Pv (i + 1), ct := Pv (i + 1), bk := D.nx } σ2 H2) (hd : ∀ σ H, Pv z.cps.toList.length σ H → D.nx σ H) :
    ∃ W : Nat → Nat → St → Hp → Prop, (∃ m, W 0 m σ H) ∧ ∀ i m σ H, W i m σ H →
      ((Its z).stop i H ∧ D.nx σ H) ∨ ((Its z).go i H ∧ ∃ N : St → Hp → Prop, (∀ σ' H', N σ' H' → ∃ m', m' < m ∧ W (i + 1) m' σ' H') ∧ ∀ x H', (Its z).yld i H x H' → g x σ H' fun σ2 H2 => tb { D with nx := N, ct := N, bk := D.nx } σ2 H2) := by
  have hlen : z.cps.toList.length = z.cps.size := by simp
  refine ⟨fun i m σ H => m = z.cps.size - i ∧ i ≤ z.cps.size ∧ Pv i σ H, ⟨z.cps.size, by simp, Nat.zero_le _, h0⟩, ?_⟩
  rintro i m σ H ⟨rfl, hi, p⟩
  by_cases hlt : i < z.cps.size
  · refine .inr ⟨hlt, Pv (i + 1), fun σ' H' p' => ⟨z.cps.size - (i + 1), by omega, rfl, hlt, p'⟩, fun v H' y => ?_⟩
    obtain ⟨rfl, c, hc, rfl⟩ := y
    exact hs i c σ H' (by simpa using hc) p
  · have e : i = z.cps.size := by omega
    subst e
    exact .inl ⟨rfl, hd σ H (by rw [hlen]; exact p)⟩

/-! ### for i, c in enumerate(a text) -/
def Itz (z : Str) : It :=
  ⟨fun i _ => i < z.cps.size, fun i H v H' => ∃ (T : Addr) (c : Nat), v = .ref T ∧ H T = none ∧ H' = upd H T (.tup [.int i, .str ⟨#[c]⟩]) ∧ z.cps[i]? = some c, fun i _ => i = z.cps.size⟩
theorem turn_enumStr {P : Program} {w : World} {K : PySem.W.Frag} {es : List Expr} {k : Nat} {tp : Pos} (z : Str) (t : Tok) (e it : Addr) (hei : e ≠ it) : Turn P w K (.Tuple es k tp) (Itz z) [e, it] e (fun i h => (∃ old, IsEnum h e it i old) ∧ h.IsStrIter it (strIterType z) z t i) where
  mem := by simp
  obj := fun i h st b hb => by
    obtain ⟨⟨old, he⟩, o, ho, hc, hd⟩ := st
    rcases List.mem_cons.mp hb with r | r
    · subst r; exact ⟨_, he, fun v z => by cases z⟩
    · rw [List.mem_singleton.mp r]; exact ⟨o, ho, fun v z => by rw [hd] at z; cases z⟩
  keep := fun i h h' st kk => ⟨let ⟨old, he⟩ := st.1; ⟨old, kk e (by simp) _ he⟩, let ⟨o, ho, r⟩ := st.2; ⟨o, kk it (by simp) o ho, r⟩⟩
  item := by
    intro X hP hw hK hc i pins s σ H E I hf st hg
    subst hP hw hK
    obtain ⟨⟨old, he⟩, hit⟩ := st
    refine wpAny_pyNext_enum_itemD (draw_str (A := X.A.in1) (I.ok.hd hc) it z t) he hit hg hei (by
      simp only [List.mem_cons, List.not_mem_nil, or_false]
      exact hei) fun y h' tk hP ho st' hT hsz hk => ?_
    obtain ⟨c, u, hc', rfl⟩ := hP
    have helt : e < s.heap.objs.size := Heap.lt_size he
    refine ⟨_, rfl, wpAny_letOwnedTupleGo_enum ho fun h'' he'' hs'' => ?_⟩
    have hTe : s.heap.objs.size ≠ e := Nat.ne_of_gt helt
    have hk2 : ∀ b o, b ≠ e → b ≠ it → s.heap.get? b = some o → h''.get? b = some o := fun b o h1 h2 q => hs''.extBut b o h1 (hk b o h1 h2 q)
    refine ⟨.ref s.heap.objs.size, upd H s.heap.objs.size (.tup [.int i, .str ⟨#[c]⟩]), enum_step I (hf e (by simp)) (hf it (by simp)) (Nat.le_refl _) hk2 rfl rfl (its := [.int i tk, .str ⟨#[c]⟩ u]) (.cons ⟨tk, rfl⟩ (.cons ⟨u, rfl⟩ .nil)) (Nat.le_of_ble_eq_true rfl) ?_, rfl, ⟨_, c, rfl, I.hok.fresh (Nat.le_refl _), rfl, hc'⟩, ⟨⟨.str ⟨#[c]⟩ u, ?_⟩, st'.extBut hs''.extBut (Ne.symm hei)⟩, fun b hb => ?_⟩
    · exact ⟨_, hs''.extBut _ _ hTe hT, rfl, _, rfl⟩
    · have e2 : ((i + 1 : Nat) : Int) = (i : Int) + 1 := by omega
      show IsEnum h'' e it ((i + 1 : Nat) : Int) _
      rw [e2]; exact he''
    · have hbs : b < s.heap.objs.size := by
        rcases List.mem_cons.mp hb with r | r
        · rw [r]; exact helt
        · rw [List.mem_singleton.mp r]; obtain ⟨o, ho, _⟩ := hit; exact Heap.lt_size ho
      rw [upd_ne (Nat.ne_of_lt hbs)]
      exact (hf b hb).1
  done := by
    intro X hP hw hK hc i pins s σ H E I hf st hg
    subst hP hw hK
    obtain ⟨⟨old, he⟩, hit⟩ := st
    obtain ⟨f0, f1, f2, f3, f4, f5⟩ := hf it (by simp)
    have hg' : i = z.cps.size := hg
    subst hg'
    refine wpAny_pyNext_enum_endD (draw_str (A := X.A.in1) (I.ok.hd hc) it z t) he hit fun h' eb => ?_
    exact ⟨rfl, I.turned (t' := s.toks) (fun b o hb q => eb b o hb q) f0 f1 f3 f4 f5⟩
  self := fun _ _ _ _ _ st h => by obtain ⟨⟨old, he⟩, _⟩ := st; exact wpAny_pyIter_enum he h
section
variable {X : Cx}
def iEnumStr (tl : TA) : TI := fun σ H R => tl σ H fun vs H1 => ∃ z, vs = [.str z] ∧ R (Itz z) H1
theorem pi_enumStr {es : List Expr} {k : Nat} {tp : Pos} {l : Expr} {tl : TA} {p pos : Pos} (hg : Gl X "enumerate") (hm : X.mg "enumerate" = none) (ha : PA X [l] tl) (he : starEach [l] X.env = (false, eval l X.env) :: starEach [] X.env := by rfl)
    (hpl : (backTo pos (starEach ([] : List Expr) X.env)).any (·.1) = false := by rfl) : PI X (.Tuple es k tp) (.Call (.Name "enumerate" p) [l] [] pos) (iEnumStr tl) := by
  intro pins s σ H R I h
  refine wpAny_Call_Name_kw (ld_blt I hg hm boot_enumerate ?_)
  refine PyProof.Rows.callWith_type1 (thn (ha pos pins s σ H _ I h) fun us s1 ⟨vs, H1, I1, r1, q1⟩ => ?_) he hpl
  obtain ⟨z, rfl, q⟩ := q1
  obtain ⟨u, rfl, rx⟩ := vals1 r1
  obtain ⟨t, rfl⟩ := rx
  refine call_enumerate_str fun h' he' hit hsz hk => ?_
  have hei : s1.heap.objs.size + 1 ≠ s1.heap.objs.size := Nat.succ_ne_self _
  have I2 : Inv X pins σ H1 { s1 with heap := h' } := I1.kept (t' := s1.toks) hk
  refine wpAny_pyIter_enum he' ⟨_, [s1.heap.objs.size + 1, s1.heap.objs.size], _, _, H1, rfl, I2, turn_enumStr z t _ _ hei, ⟨⟨_, he'⟩, hit⟩, fun b hb => ?_, q⟩
  have hb' : s1.heap.objs.size ≤ b := by
    rcases List.mem_cons.mp hb with r | r
    · rw [r]; exact Nat.le_succ _
    · rw [List.mem_singleton.mp r]; exact Nat.le_refl _
  exact I1.fpOk hb' (I1.hok.fresh hb')
end
theorem for_enumStr {z : Str} {g : TG} {tb : TS} {D : Ends} {σ : St} {H : Hp} (Pv : Nat → St → Hp → Prop) (h0 : Pv 0 σ H)
    (hs : ∀ i c σ H T, z.cps.toList[i]? = some c → Pv i σ H → H T = none → g (.ref T) σ (upd H T (.tup [.int i, .str ⟨#[c]⟩])) fun σ2 H2 => tb { D with nx := Pv (i + 1), ct := Pv (i + 1), bk := D.nx } σ2 H2) (hd : ∀ σ H, Pv z.cps.toList.length σ H → D.nx σ H) :
    ∃ W : Nat → Nat → St → Hp → Prop, (∃ m, W 0 m σ H) ∧ ∀ i m σ H, W i m σ H →
      ((Itz z).stop i H ∧ D.nx σ H) ∨ ((Itz z).go i H ∧ ∃ N : St → Hp → Prop, (∀ σ' H', N σ' H' → ∃ m', m' < m ∧ W (i + 1) m' σ' H') ∧ ∀ x H', (Itz z).yld i H x H' → g x σ H' fun σ2 H2 => tb { D with nx := N, ct := N, bk := D.nx } σ2 H2) := by
  have hlen : z.cps.toList.length = z.cps.size := by simp
  refine ⟨fun i m σ H => m = z.cps.size - i ∧ i ≤ z.cps.size ∧ Pv i σ H, ⟨z.cps.size, by simp, Nat.zero_le _, h0⟩, ?_⟩
  rintro i m σ H ⟨rfl, hi, p⟩
  by_cases hlt : i < z.cps.size
  · refine .inr ⟨hlt, Pv (i + 1), fun σ' H' p' => ⟨z.cps.size - (i + 1), by omega, rfl, hlt, p'⟩, fun v H' y => ?_⟩
    obtain ⟨T, c, rfl, hT, rfl, hc⟩ := y
    exact hs i c σ H T (by simpa using hc) p hT
  · have e : i = z.cps.size := by omega
    subst e
    exact .inl ⟨rfl, hd σ H (by rw [hlen]; exact p)⟩
end L2


set_option linter.all false
set_option maxRecDepth 100000
namespace L2
open PySem PySem.Spec PyProof.Rows WS

/-! ### == and != of lists of flat items -/
def eqVs : List V → List V → Bool
  | [], [] => true
  | x :: xs, y :: ys => eqV x y && eqVs xs ys
  | _, _ => false
theorem eqVs_len : ∀ {xs ys : List V}, xs.length ≠ ys.length → eqVs xs ys = false
  | [], [], h => absurd rfl h
  | [], _ :: _, _ => rfl
  | _ :: _, [], _ => rfl
  | x :: xs, y :: ys, h => by
    have : eqVs xs ys = false := eqVs_len fun e => h (by simp [e])
    show (eqV x y && eqVs xs ys) = false
    rw [this, Bool.and_false]
theorem eqVs_all : ∀ {xs ys : List V}, xs.length = ys.length → eqVs xs ys = (List.range xs.length).all fun j => match xs[j]?, ys[j]? with | some x, some y => eqV x y | _, _ => false
  | [], [], _ => rfl
  | x :: xs, y :: ys, h => by
    have e := eqVs_all (xs := xs) (ys := ys) (by simpa using h)
    show (eqV x y && eqVs xs ys) = _
    rw [e, List.length_cons, List.range_succ_eq_map, List.all_cons, List.all_map]
    rfl
theorem flat_strs (xs : List Str) : (xs.map V.str).all flatV = true := by
  rw [List.all_map]; exact List.all_eq_true.mpr fun _ _ => rfl
theorem eqVs_nil {xs : List V} : eqVs xs [] = xs.isEmpty := by cases xs <;> rfl
theorem eqV_refl : ∀ {x : V}, flatV x = true → eqV x x = true
  | .non, _ => rfl
  | .bl a, _ => by simp [eqV]
  | .int a, _ => by simp [eqV]
  | .str a, _ => by simp [eqV]
theorem eqVs_refl : ∀ {xs : List V}, xs.all flatV = true → eqVs xs xs = true
  | [], _ => rfl
  | x :: r, h => by
    rw [List.all_cons, Bool.and_eq_true] at h
    show (eqV x x && eqVs r r) = true
    rw [eqV_refl h.1, eqVs_refl h.2]; rfl
theorem get_of {α : Type} {l : List α} {j : Nat} (h : j < l.length) : l[j]? = some l[j] := List.getElem?_eq_getElem h
section
variable {X : Cx}
theorem flat_at {xs : List V} (h : xs.all flatV = true) {j : Nat} (hj : j < xs.length) : flatV xs[j] = true := List.all_eq_true.mp h _ (List.getElem_mem hj)
theorem items_eqAt {A : Around} {s : Shared} {xs ys : List V} {us ws : List Value} (r : Vals xs us) (r' : Vals ys ws) (f : xs.all flatV = true) (f' : ys.all flatV = true) (hl : xs.length = ys.length) :
    ∀ j (h1 : j < us.toArray.size) (h2 : j < ws.toArray.size), SeqAt.EqAt A s us.toArray[j] ws.toArray[j] (match xs[j]?, ys[j]? with | some x, some y => eqV x y | _, _ => false) := by
  intro j h1 h2
  have h1' : j < us.length := by simpa using h1
  have h2' : j < ws.length := by simpa using h2
  have h3 : j < xs.length := by rw [r.length]; exact h1'
  have h4 : j < ys.length := by rw [r'.length]; exact h2'
  obtain ⟨u, hu, ru⟩ := r.get (get_of h3)
  obtain ⟨w, hw, rw'⟩ := r'.get (get_of h4)
  rw [get_of h3, get_of h4]
  have e1 : us.toArray[j] = u := by
    rw [List.getElem?_eq_getElem h1'] at hu
    simpa using hu
  have e2 : ws.toArray[j] = w := by
    rw [List.getElem?_eq_getElem h2'] at hw
    simpa using hw
  rw [e1, e2]
  exact eqAt_V ru rw' (flat_at f h3) (flat_at f' h4)
/-- a == b, a != b of two lists of flat items -/
inductive rEqLI (K : PySem.W.Frag) (neg : Bool) (x : V) (y : V) (H : Hp) (Q : VK) : Prop | mk (a b xs ys) (h0 : x = .ref a) (h1 : y = .ref b) (h2 : SqL K H a xs) (h3 : SqL K H b ys) (h4 : xs.all flatV = true) (h5 : ys.all flatV = true) (h6 : Q (.bl (if neg then !eqVs xs ys else eqVs xs ys)) H) : rEqLI K neg x y H Q
def rEqL (K : PySem.W.Frag) (neg : Bool) : R2 := fun x y H Q => rEqLI K neg x y H Q
theorem op_eqL (hu : X.A.units + 1 < cLine) : OpR X (compareOp .Eq) (rEqL X.K false) := by
  intro pins s σ H x y v u Q I rx ry h
  obtain ⟨a, b, xs, ys, rfl, rfl, ha, hb, f, f', q⟩ := h
  cases rx
  cases ry
  obtain ⟨its, r, pl, hz⟩ := I.list ha
  obtain ⟨its2, r', pl', hz'⟩ := I.list hb
  by_cases hl : xs.length = ys.length
  · refine SeqAt.eq_listAt pl.isList pl'.isList (by rw [List.size_toArray, List.size_toArray, ← r.length, ← r'.length]; exact hl) (Nat.lt_of_succ_lt hu) (items_eqAt r r' f f' hl) ⟨.bl _, H, I, rfl, ?_⟩
    rw [List.size_toArray, ← r.length, ← eqVs_all hl]
    exact q
  · refine SeqAt.eq_list_lengthsAt pl.isList pl'.isList (by rw [List.size_toArray, List.size_toArray, ← r.length, ← r'.length]; simpa using hl) (Nat.lt_of_succ_lt hu) ⟨.bl _, H, I, rfl, ?_⟩
    rw [eqVs_len hl] at q
    exact q
theorem op_neL (hu : X.A.units + 1 < cLine) : OpR X (compareOp .NotEq) (rEqL X.K true) := by
  intro pins s σ H x y v u Q I rx ry h
  obtain ⟨a, b, xs, ys, rfl, rfl, ha, hb, f, f', q⟩ := h
  cases rx
  cases ry
  obtain ⟨its, r, pl, hz⟩ := I.list ha
  obtain ⟨its2, r', pl', hz'⟩ := I.list hb
  by_cases hl : xs.length = ys.length
  · refine SeqAt.RcNeAt.lists pl.isList pl'.isList (by rw [List.size_toArray, List.size_toArray, ← r.length, ← r'.length]; exact hl) (Nat.lt_of_succ_lt hu) (items_eqAt r r' f f' hl) _ _ _ _ ⟨.bl _, H, I, rfl, ?_⟩
    rw [List.size_toArray, ← r.length, ← eqVs_all hl]
    exact q
  · refine SeqAt.RcNeAt.lists_lengths pl.isList pl'.isList (by rw [List.size_toArray, List.size_toArray, ← r.length, ← r'.length]; simpa using hl) (Nat.lt_of_succ_lt hu) _ _ _ _ ⟨.bl _, H, I, rfl, ?_⟩
    rw [eqVs_len hl] at q
    exact q
theorem op_ge_str : OpR X (compareOp .GtE) (fun x y H Q => ∃ i j, x = .str i ∧ y = .str j ∧ Q (.bl (!decide (i.cps.toList < j.cps.toList))) H) := by
  intro pins s σ H x y v u Q I rx ry h
  obtain ⟨i, j, rfl, rfl, q⟩ := h
  obtain ⟨t, rfl⟩ := rx
  obtain ⟨t', rfl⟩ := ry
  exact PySem.P.ge_str ⟨.bl _, H, I, rfl, q⟩
/-- sum(a list of ints) -/
theorem call_sum (hc : X.calm = true) : CallR X (.builtin "sum") (fun xs H Q => ∃ (p : Addr) (ns : List Int), xs = [.ref p] ∧ SqL X.K H p (ns.map V.int) ∧ Q (.int ns.sum) H) := by
  intro pins s σ H xs us Q I r h
  obtain ⟨p, ns, rfl, hp, q⟩ := h
  obtain ⟨u, rfl, rx⟩ := vals1 r
  cases rx
  obtain ⟨its, r', pl, hz⟩ := I.list hp
  have hi : IntsAre its ns := intsAre_of r'
  obtain ⟨xs, hx⟩ := hi.allInts.items
  have hl' : s.heap.IsList p (intItems xs) := hx ▸ pl.isList
  refine sum_intListG (I.ok.hd hc) hl' fun h' tk t' hk => ?_
  have e1 : ns = xs.toList.map (·.1) := by
    rw [← nums_intItems, ← hx]
    exact (show numsOf its.toArray.toList = ns from hi.numsOf).symm
  have e2 : preSum (numAt xs) xs.size = ns.sum := by
    rw [preSum_eq, List.take_of_length_le (by simp), e1]
  rw [e2]
  exact ⟨.int ns.sum, H, I.kept hk, ⟨_, rfl⟩, q⟩
/-! ### isinstance(x, (list, tuple)) -/
theorem kit_tt {K : PySem.W.Frag} : PySem.W.kitOne K (.type "tuple") (.type "tuple") = some true := by kernel_rfl
/-! ### list(d) -/
theorem vals_keys {P : Program} {w : World} : ∀ {ks : List Key} {vs : List Value}, vs.length = ks.length → (∀ (j : Nat) v, vs[j]? = some v → ∃ k, ks[j]? = some k ∧ (mixKind P w).is k v = true) → Vals (ks.map kV) vs
  | [], [], _, _ => .nil
  | k :: ks, v :: vs, hl, h => by
    obtain ⟨k', e, hk⟩ := h 0 v rfl
    cases (show some k = some k' from e)
    refine .cons ?_ (vals_keys (by simpa using hl) fun j v hv => h (j + 1) v hv)
    rcases keyIs_shape hk with ⟨i, t, rfl, rfl⟩ | ⟨x, t, rfl, rfl⟩
    · exact ⟨t, rfl⟩
    · exact ⟨t, rfl⟩
theorem call_listD (hc : X.calm = true) : CallR X (.type "list") (fun xs H Q => ∃ (p : Addr) (kvs : List (Key × V)), xs = [.ref p] ∧ H p = some (.dK kvs) ∧ ∀ l, H l = none → Q (.ref l) (upd H l (.lst (kvs.map fun kv => kV kv.1)))) := by
  intro pins s σ H xs us Q I r h
  obtain ⟨p, kvs, rfl, hp, q⟩ := h
  obtain ⟨u, rfl, rx⟩ := vals1 r
  cases rx
  obtain ⟨hz, lo, vs, rel, dd⟩ := dk_of I.hok hp
  obtain ⟨ep, hat⟩ := dd.dictAt
  have hlen := rel.length
  refine PySem.W.kdl_call (PySem.W.kdl_dict (knd := mixKind X.prog X.w) (kvs := vs) (ep := ep) lo) (I.ok.hd hc) hat (by omega) fun h' tk acc c hk hD hacc => ?_
  refine ⟨.ref s.heap.objs.size, _, I.laid (t' := tk) (o := .lst (kvs.map fun kv => kV kv.1)) hk (Nat.le_refl _) ?_, rfl, q _ (I.hok.fresh (Nat.le_refl _))⟩
  refine ⟨by rw [List.length_map]; exact hz, acc.toList, c, ?_, ?_⟩
  · have e : kvs.map (fun kv => kV kv.1) = (vs.map (·.1)).map kV := by rw [← rel.keys, List.map_map]; rfl
    rw [e]
    refine vals_keys (P := X.prog) (w := X.w) (by rw [Array.length_toList, List.length_map]; exact hacc.1) fun j v hv => ?_
    obtain ⟨k, x, hx, hk⟩ := hacc.2 j v (by rw [← Array.getElem?_toList]; exact hv)
    exact ⟨k, by rw [List.getElem?_map, hx]; rfl, hk⟩
  · first | exact hD | (rw [Array.toArray_toList]; exact hD)
end
end L2


set_option linter.all false
set_option maxRecDepth 100000
namespace L2
open PySem PySem.Spec PyProof.Rows WS
/-! ### displays of constants -/
def cOf : Expr → Option V
  | .Constant (.str x) _ _ => some (.str x)
  | .Constant (.int n) _ _ => some (.int n)
  | _ => none
def csOf : List Expr → Option (List V)
  | [] => some []
  | e :: r => match cOf e, csOf r with
    | some v, some vs => some (v :: vs)
    | _, _ => none
section
variable {X : Cx}
theorem pa_cs : ∀ {es : List Expr} {vs : List V}, csOf es = some vs → PA X es (fun _ H Q => Q vs H)
  | [], vs, h => by
    cases (show some [] = some vs from h)
    exact pa_nil
  | e :: r, vs, h => by
    unfold csOf at h
    cases h1 : cOf e with
    | none => rw [h1] at h; cases h
    | some v =>
      cases h2 : csOf r with
      | none => rw [h1, h2] at h; cases h
      | some ws =>
        rw [h1, h2] at h
        cases h
        have ih := pa_cs h2
        have key : PE X e (tC v) ∧ starEach (e :: r) X.env = (false, eval e X.env) :: starEach r X.env := by
          cases e with
          | Constant c j p =>
            cases c with
            | str x => cases (show some (V.str x) = some v from h1); exact ⟨pe_str, rfl⟩
            | int n => cases (show some (V.int n) = some v from h1); exact ⟨pe_int, rfl⟩
            | _ => cases (show none = some v from h1)
          | _ => cases (show none = some v from h1)
        exact pa_cons key.1 ih key.2
def tCs (vs : List V) : TE := fun _ H Q => ∀ p, H p = none → Q (.ref p) (upd H p (.lst vs))
theorem pe_cs {es : List Expr} {pos : Pos} (vs : List V) (h : csOf es = some vs) (hz : vs.length ≤ sizeLine := by decide +kernel) : PE X (.List es pos) (tCs vs) := by
  intro pins s σ H Q I q
  exact pe_lst (pa_cs h) pins s σ H Q I ⟨hz, q⟩
end
end L2


set_option linter.all false
set_option maxRecDepth 100000
namespace L2
open PySem PySem.Spec PyProof.Rows

/-! ### the order of texts -/
def ltS (a b : Str) : Prop := a.cps.toList < b.cps.toList
theorem ltS_trans {a b c : Str} (h : ltS a b) (k : ltS b c) : ltS a c := List.lt_trans h k
theorem ltS_irrefl (a : Str) : ¬ ltS a a := List.lt_irrefl _
theorem str_ext {a b : Str} (h : a.cps.toList = b.cps.toList) : a = b := Str.ext' (by
  have e : a.cps.toList.toArray = b.cps.toList.toArray := by rw [h]
  simpa using e)
theorem ltS_tri (a b : Str) : ltS a b ∨ a = b ∨ ltS b a := by
  by_cases h1 : ltS a b
  · exact .inl h1
  by_cases h2 : ltS b a
  · exact .inr (.inr h2)
  · exact .inr (.inl (str_ext (List.le_antisymm (List.not_lt.mp h2) (List.not_lt.mp h1))))
theorem rising_lt : ∀ {p : Str} {l : List Str}, risingS p l = true → (p :: l).Nodup → (p :: l).Pairwise ltS
  | p, [], _, _ => by simp
  | p, x :: r, h, hn => by
    have h' : (!ltCps x.cps.toList p.cps.toList && risingS x r) = true := h
    rw [Bool.and_eq_true] at h'
    obtain ⟨h1, h2⟩ := h'
    obtain ⟨n1, n2⟩ := List.nodup_cons.mp hn
    have ih := rising_lt h2 n2
    have hpx : ltS p x := by
      rw [ltCps_eq] at h1
      rcases ltS_tri p x with c | c | c
      · exact c
      · exact absurd (c ▸ List.mem_cons_self) n1
      · rw [decide_eq_true (show x.cps.toList < p.cps.toList from c)] at h1; cases h1
    refine List.pairwise_cons.mpr ⟨fun y hy => ?_, ih⟩
    rcases List.mem_cons.mp hy with rfl | hy
    · exact hpx
    · exact ltS_trans hpx ((List.pairwise_cons.mp ih).1 y hy)
theorem sorted_lt {l : List Str} (h : sortedS l = true) (hn : l.Nodup) : l.Pairwise ltS := by
  cases l with
  | nil => exact .nil
  | cons x r => exact rising_lt h hn

section
variable {X : Cx}
/-! ### sets of texts -/
/-- the set at a has the members ks, each once -/
def SetS (w : World) (a : Addr) (ks : List Str) : HO := .ext fun h => WT.StrSet w h a ks
theorem Inv.setS {pins : List (Addr × Obj)} {σ : St} {H : Hp} {s : Shared} {a : Addr} {ks : List Str} (I : Inv X pins σ H s) (h : H a = some (SetS X.w a ks)) : WT.StrSet X.w s.heap a ks := (I.hok a _ h).1
theorem setS_ok {P : Program} {w : World} {H : Hp} {h : Heap} {a : Addr} {ks : List Str} (x : WT.StrSet w h a ks) : ObjOk P w H h a (SetS w a ks) := by
  refine ⟨x, ?_, fun h1 h2 p k => p.at' fun o e => k o e⟩
  obtain ⟨es, ep, t, y⟩ := x
  exact ⟨_, y.ob⟩
/-- set(a list of texts) -/
inductive rSetOfSI (K : PySem.W.Frag) (w : World) (xs : List V) (H : Hp) (Q : VK) : Prop | mk (p : Addr) (ns : List Str) (h0 : xs = [.ref p]) (h1 : SqL K H p (ns.map V.str)) (h2 : ns.length ≤ 1000) (h3 : ∀ (l : Addr) (ks : List Str), H l = none → ks.length ≤ ns.length → (∀ k, k ∈ ks ↔ k ∈ ns) → Q (.ref l) (upd H l (SetS w l ks))) : rSetOfSI K w xs H Q
def rSetOfS (K : PySem.W.Frag) (w : World) : List V → Hp → VK → Prop := fun xs H Q => rSetOfSI K w xs H Q
theorem call_setOfS (hc : X.calm = true) : CallR X (.type "set") (rSetOfS X.K X.w) := by
  intro pins s σ H xs us Q I r h
  obtain ⟨p, ns, rfl, hq, hn, q⟩ := h
  obtain ⟨u, rfl, rx⟩ := vals1 r
  cases rx
  obtain ⟨its, rv, pl, hz⟩ := I.list hq
  have hI := vals_strs rv
  have hlen := rv.length
  rw [List.length_map] at hlen
  refine WT.call_set (I.ok.hd hc) pl.isList hI (by omega) fun h' tk kr hS hl hm up => ?_
  exact ⟨.ref _, _, I.laid2 (s' := { s with heap := h', toks := tk }) up rfl rfl (Nat.le_refl _) (setS_ok hS), rfl, q _ kr (I.hok.fresh (Nat.le_refl _)) hl hm⟩
theorem vals_of_strs : ∀ {ns : List Str} {its : List Value}, StrsAre its ns → Vals (ns.map V.str) its
  | _, _, .nil => .nil
  | _, _, .cons x t r => .cons ⟨t, rfl⟩ (vals_of_strs r)
/-- sorted(a set of texts) -/
inductive rSortedSI (w : World) (xs : List V) (H : Hp) (Q : VK) : Prop | mk (p : Addr) (ks : List Str) (h0 : xs = [.ref p]) (h1 : H p = some (SetS w p ks)) (h2 : ks.length < 64) (h3 : ∀ (l : Addr) (ns : List Str), H l = none → ns.Perm ks → ns.Pairwise ltS → Q (.ref l) (upd H l (.lst (ns.map V.str)))) : rSortedSI w xs H Q
def rSortedS (w : World) : List V → Hp → VK → Prop := fun xs H Q => rSortedSI w xs H Q
theorem call_sortedSetS (hc : X.calm = true) : CallR X (.builtin "sorted") (rSortedS X.w) := by
  intro pins s σ H xs us Q I r h
  obtain ⟨p, ks, rfl, hp, h64, q⟩ := h
  obtain ⟨u, rfl, rx⟩ := vals1 r
  cases rx
  obtain ⟨e1, p1, t1, x1⟩ := I.setS hp
  refine WT.sorted_set x1 (I.ok.hd hc) h64 fun s' l vs ns n up hg ho hl hoL hI hpm hpw => ?_
  have hlen : (ns.map V.str).length ≤ sizeLine := by rw [List.length_map, hpm.length_eq, sizeLine_eq]; omega
  exact ⟨.ref l, _, I.laid2 up hg ho hl (show ObjOk X.prog X.w _ s'.heap l (.lst (ns.map V.str)) from ⟨hlen, vs, n, vals_of_strs hI, hoL⟩), rfl, q l ns (I.hok.fresh hl) hpm (sorted_lt hpw (hpm.nodup_iff.mpr x1.nd))⟩

/-! ### sorted(a dict) -/
theorem ints_keys {P : Program} {w : World} : ∀ {ks : List Int} {vs : List Value}, vs.length = ks.length → (∀ (j : Nat) v, vs[j]? = some v → ∃ k, (ks.map Sum.inl : List Key)[j]? = some k ∧ (mixKind P w).is k v = true) → IntsAre vs ks
  | [], [], _, _ => .nil
  | k :: ks, v :: vs, hl, h => by
    obtain ⟨k', e, hk⟩ := h 0 v rfl
    cases (show some (Sum.inl k) = some k' from e)
    rcases keyIs_shape (show keyIs (Sum.inl k) v = true from hk) with ⟨i, t, e1, rfl⟩ | ⟨x, t, e1, rfl⟩
    · cases e1
      exact .cons _ _ (ints_keys (P := P) (w := w) (by simpa using hl) fun j v hv => h (j + 1) v hv)
    · cases e1
theorem strs_keys {P : Program} {w : World} : ∀ {ks : List Str} {vs : List Value}, vs.length = ks.length → (∀ (j : Nat) v, vs[j]? = some v → ∃ k, (ks.map Sum.inr : List Key)[j]? = some k ∧ (mixKind P w).is k v = true) → StrsAre vs ks
  | [], [], _, _ => .nil
  | k :: ks, v :: vs, hl, h => by
    obtain ⟨k', e, hk⟩ := h 0 v rfl
    cases (show some (Sum.inr k) = some k' from e)
    rcases keyIs_shape (show keyIs (Sum.inr k) v = true from hk) with ⟨i, t, e1, rfl⟩ | ⟨x, t, e1, rfl⟩
    · cases e1
    · cases e1
      exact .cons _ _ (strs_keys (P := P) (w := w) (by simpa using hl) fun j v hv => h (j + 1) v hv)
/-- the keys of a dict, gathered in a new list, ahead of its sort -/
theorem sorted_dict_head {P : Program} {w : World} {A : Around} {E : Value → Shared → Prop} {s : Shared} {d : Addr} {vs : List (Key × Value)} {Q : Value → Shared → Prop} (lo : (d == sysModules) = false) (dd : s.heap.DictOf (mixKind P w) d vs) (hh : A.handled = none) (hn : vs.length ≤ sizeLine)
    (q : ∀ (h1 : Heap) (tk : Nat) (us : List Value), (∀ b o, s.heap.get? b = some o → h1.get? b = some o) → us.length = vs.length → (∀ (j : Nat) v, us[j]? = some v → ∃ k, (vs.map (·.1))[j]? = some k ∧ (mixKind P w).is k v = true) →
      wpAny (model P w) A.in1.in1 (Builtin.«list.sort» ⟨[.ref h1.objs.size], []⟩) (fun f s' => f = .done (.ret .none) ∧ Q (.ref h1.objs.size) s') E { s with heap := h1.push (seqObj "list" us.toArray 0), toks := tk }) :
    wpAny (model P w) A (call (.builtin "sorted") [.ref d]) Q E s := by
  obtain ⟨ep, hat⟩ := dd.dictAt
  refine Calls.call_function_entry kind_sorted plain_sorted entry_sorted (args_sorted1 _) ?_
  unfold Builtin.«sorted»
  refine wpAny_bind (m := checkCount "sorted" 1 1 _) (wpAny_pure ?_)
  refine wpAny_bind (PySem.W.kdu_collect (A := A.in1) (PySem.W.kdl_dict (knd := mixKind P w) (kvs := vs) (ep := ep) lo) hh hat hn fun h1 tk acc hk hacc => ?_)
  have hl : acc.toList.length = vs.length := by rw [Array.length_toList]; exact hacc.1
  refine wpAny_bind (wpAny_newList ?_ (by rw [hl]; exact hn))
  have hoL : (h1.push (seqObj "list" acc.toList.toArray 0)).get? h1.objs.size = some (seqObj "list" acc.toList.toArray 0) := Heap.get?_push_size _ rfl
  refine wpAny_bind (wpAny_holding (wpAny_call_entry (s := { s with heap := h1.push (seqObj "list" acc.toList.toArray 0), toks := tk }) slot_list_sort ⟨_, hoL, rfl⟩ entry_list_sort ?_ (args_list_sort _)))
  refine wpAny_mono (q h1 tk acc.toList hk hl fun j v hv => ?_) (fun f s' hf => ?_) fun _ _ e => e
  · obtain ⟨k, x, hx, hkk⟩ := hacc.2 j v (by rw [← Array.getElem?_toList]; exact hv)
    exact ⟨k, by rw [List.getElem?_map, hx]; rfl, hkk⟩
  · obtain ⟨rfl, hq⟩ := hf
    exact ⟨_, rfl, wpAny_pure ⟨_, rfl, hq⟩⟩
/-- sorted(a dict whose keys are ints) -/
inductive rSortedDII (xs : List V) (H : Hp) (Q : VK) : Prop | mk (p : Addr) (kvs : List (Key × V)) (ks : List Int) (h0 : xs = [.ref p]) (h1 : H p = some (.dK kvs)) (h2 : kvs.map (·.1) = ks.map Sum.inl) (h3 : ks.Nodup) (h4 : ks.length < 64) (h5 : ∀ (l : Addr) (ns : List Int), H l = none → ns.Perm ks → ns.Pairwise (· < ·) → Q (.ref l) (upd H l (.lst (ns.map V.int)))) : rSortedDII xs H Q
def rSortedDI : List V → Hp → VK → Prop := fun xs H Q => rSortedDII xs H Q
theorem sorted_up {h0 h1 : Heap} {us : List Value} {out : Array Value} (up : ∀ b o, h0.get? b = some o → h1.get? b = some o) : ∀ c o, h0.get? c = some o → (sortedHeap (h1.push (seqObj "list" us.toArray 0)) h1.objs.size us out).get? c = some o := fun c o hc => by
  have hlt := Heap.lt_size (up c o hc)
  rw [sortedHeap_old (Nat.ne_of_lt hlt) (by rw [size_push']; exact Nat.lt_succ_of_lt hlt)]
  exact Heap.get?_push_of_some _ (up c o hc)
theorem Un.laid3 {fs ex : List Addr} {H : Hp} {h h' : Heap} {a : Addr} {o : HO} (k : ∀ b u, h.get? b = some u → h'.get? b = some u) (hb : ∀ b u, h.get? b = some u → b ≠ a) (hn : H a = none) : Un fs ex H (upd H a o) h h' :=
  ⟨fun b u q _ _ _ => k b u q, fun b u q _ _ _ => ⟨u.slots, k b u q⟩, fun b u q n _ => by rw [upd_ne (hb b u q)]; exact n, fun b u q _ => ⟨u, k b u q⟩,
    fun b xs q => by rw [upd_ne (ne_of_none q hn)]; exact q, fun b u xs q => by rw [upd_ne (ne_of_none q hn)]; exact q, fun b ps q => ⟨#[], by rw [upd_ne (ne_of_none q hn), q]; simp⟩⟩
theorem HOk.laid3 {P : Program} {w : World} {H : Hp} {h h' : Heap} {a : Addr} {o : HO} (x : HOk P w H h) (k : ∀ b u, h.get? b = some u → h'.get? b = some u) (hn : H a = none) (new : ObjOk P w (upd H a o) h' a o) : HOk P w (upd H a o) h' := fun b u e => by
  by_cases hb : b = a
  · subst hb
    rw [upd_same] at e
    cases e
    exact new
  · rw [upd_ne hb] at e
    exact (x b u e).stay (fun c v _ q => k c v q) (fun c q => by rw [upd_ne (ne_of_none q hn)]; exact q) fun c xs q => by rw [upd_ne (ne_of_none q hn)]; exact q
theorem Inv.laid3 {pins : List (Addr × Obj)} {σ : St} {H : Hp} {s s' : Shared} {a : Addr} {o : HO} (I : Inv X pins σ H s) (k : ∀ b u, s.heap.get? b = some u → s'.heap.get? b = some u) (hg : s'.gens = s.gens) (ho : s'.os = s.os) (hb : ∀ b u, s.heap.get? b = some u → b ≠ a) (hn : H a = none)
    (new : ObjOk X.prog X.w (upd H a o) s'.heap a o) : Inv X pins σ (upd H a o) s' :=
  I.call' ho (ch := []) (Un.laid3 k hb hn) (I.hok.laid3 k hn new) (by rw [hg]; exact I.bare) fun _ z => nomatch z
theorem ObjOk.there {P : Program} {w : World} {H : Hp} {h : Heap} {a : Addr} {o : HO} (x : ObjOk P w H h a o) : ∃ u, h.get? a = some u := by
  cases o with
  | lst xs => obtain ⟨_, _, _, _, e⟩ := x; exact ⟨_, e⟩
  | tup xs => obtain ⟨_, _, _, p⟩ := x; obtain ⟨o, ho, _⟩ := p; exact ⟨o, ho⟩
  | dK kvs => obtain ⟨_, _, _, _, o, _, _, e, _⟩ := x; exact ⟨_, e⟩
  | dT kvs => obtain ⟨_, _, _, _, o, _, _, e, _⟩ := x; exact ⟨_, e⟩
  | set S n => obtain ⟨o, _, _, _, e, _⟩ := x; exact ⟨_, e⟩
  | ins C dx fs => obtain ⟨_, _, _, e, _⟩ := x; exact ⟨_, e⟩
  | own y => exact x
  | xd fs => obtain ⟨_, ⟨_, _, _, e, _⟩, _⟩ := x; exact ⟨_, e⟩
  | rng lo hi => obtain ⟨_, _, _, e⟩ := x; exact ⟨_, e⟩
  | frz ob u => obtain ⟨e, _⟩ := x; exact ⟨_, e⟩
  | tbl ps => exact ⟨_, show h.get? a = some _ from x⟩
  | met f y => exact ⟨_, show h.get? a = some _ from x⟩
  | ext φ => exact x.2.1
theorem HOk.free_of {P : Program} {w : World} {H : Hp} {h h1 : Heap} (x : HOk P w H h) (up : ∀ b o, h.get? b = some o → h1.get? b = some o) (hl : ∀ b o, H b = some o → ∃ u, h.get? b = some u) : H h1.objs.size = none := by
  cases e : H h1.objs.size with
  | none => rfl
  | some o =>
    obtain ⟨u, hu⟩ := hl _ _ e
    exact absurd (Heap.lt_size (up _ _ hu)) (Nat.lt_irrefl _)
theorem call_sortedDI (hc : X.calm = true) : CallR X (.builtin "sorted") rSortedDI := by
  intro pins s σ H xs us Q I r h
  obtain ⟨p, kvs, ks, rfl, hp, hk, hnd, h64, q⟩ := h
  obtain ⟨u, rfl, rx⟩ := vals1 r
  cases rx
  obtain ⟨hz, lo, vs, rel, dd⟩ := dk_of I.hok hp
  have hlen := rel.length
  have hkl : kvs.length = ks.length := by have := congrArg List.length hk; simpa using this
  refine sorted_dict_head lo dd (I.ok.hd hc) (by omega) fun h1 tk us up hul hus => ?_
  have hne : ∀ b u, s.heap.get? b = some u → b ≠ h1.objs.size := fun b u e => Nat.ne_of_lt (Heap.lt_size (up b u e))
  have hfr : H h1.objs.size = none := I.hok.free_of up fun b o e => (I.hok b o e).there
  have hI : IntsAre us ks := ints_keys (P := X.prog) (w := X.w) (by omega) (by rw [← hk, rel.keys]; exact hus)
  have hoL : (h1.push (seqObj "list" us.toArray 0)).get? h1.objs.size = some (seqObj "list" us.toArray 0) := Heap.get?_push_size _ rfl
  refine list_sort_tree (s := { s with heap := h1.push (seqObj "list" us.toArray 0), toks := tk }) hoL hI (by omega) fun out ns' a1 a2 a3 => ⟨rfl, ?_⟩
  obtain ⟨e, he⟩ := sortedHeap_at (out := out) hoL
  have hv : Vals (ns'.map V.int) out.toList := vals_ints a1
  have hsl : (ns'.map V.int).length ≤ sizeLine := by rw [List.length_map, a2.length_eq, sizeLine_eq]; omega
  refine ⟨.ref h1.objs.size, _, I.laid3 (sorted_up up) rfl rfl hne hfr (show ObjOk X.prog X.w _ _ _ (.lst (ns'.map V.int)) from ⟨hsl, out.toList, e, hv, by rw [Array.toArray_toList]; exact he⟩), rfl, q _ ns' hfr a2 (lt_of_le_nodup (a2.nodup_iff.mpr hnd) a3)⟩
/-- sorted(a dict whose keys are texts) -/
inductive rSortedDSI (xs : List V) (H : Hp) (Q : VK) : Prop | mk (p : Addr) (kvs : List (Key × V)) (ks : List Str) (h0 : xs = [.ref p]) (h1 : H p = some (.dK kvs)) (h2 : kvs.map (·.1) = ks.map Sum.inr) (h3 : ks.Nodup) (h4 : ks.length < 64) (h5 : ∀ (l : Addr) (ns : List Str), H l = none → ns.Perm ks → ns.Pairwise ltS → Q (.ref l) (upd H l (.lst (ns.map V.str)))) : rSortedDSI xs H Q
def rSortedDS : List V → Hp → VK → Prop := fun xs H Q => rSortedDSI xs H Q
theorem call_sortedDS (hc : X.calm = true) : CallR X (.builtin "sorted") rSortedDS := by
  intro pins s σ H xs us Q I r h
  obtain ⟨p, kvs, ks, rfl, hp, hk, hnd, h64, q⟩ := h
  obtain ⟨u, rfl, rx⟩ := vals1 r
  cases rx
  obtain ⟨hz, lo, vs, rel, dd⟩ := dk_of I.hok hp
  have hlen := rel.length
  have hkl : kvs.length = ks.length := by have := congrArg List.length hk; simpa using this
  refine sorted_dict_head lo dd (I.ok.hd hc) (by omega) fun h1 tk us up hul hus => ?_
  have hne : ∀ b u, s.heap.get? b = some u → b ≠ h1.objs.size := fun b u e => Nat.ne_of_lt (Heap.lt_size (up b u e))
  have hfr : H h1.objs.size = none := I.hok.free_of up fun b o e => (I.hok b o e).there
  have hI : StrsAre us ks := strs_keys (P := X.prog) (w := X.w) (by omega) (by rw [← hk, rel.keys]; exact hus)
  have hoL : (h1.push (seqObj "list" us.toArray 0)).get? h1.objs.size = some (seqObj "list" us.toArray 0) := Heap.get?_push_size _ rfl
  refine list_sort_treeK (s := { s with heap := h1.push (seqObj "list" us.toArray 0), toks := tk }) strKind_oneLt hoL hI.keysOf (fun v₁ v₂ rest e => keyKind_strs (by rw [← e]; exact hI)) (by omega) fun st' hp' hs' => ⟨rfl, ?_⟩
  obtain ⟨ns', a1, a2, a3⟩ := sorted_out_str hI hp' hs'
  generalize (arrOf st').map (·.2) = out at a1 ⊢
  obtain ⟨e, he⟩ := sortedHeap_at (out := out) hoL
  have hsl : (ns'.map V.str).length ≤ sizeLine := by rw [List.length_map, a2.length_eq, sizeLine_eq]; omega
  refine ⟨.ref h1.objs.size, _, I.laid3 (sorted_up up) rfl rfl hne hfr (show ObjOk X.prog X.w _ _ _ (.lst (ns'.map V.str)) from ⟨hsl, out.toList, e, vals_of_strs a1, by rw [Array.toArray_toList]; exact he⟩), rfl, q _ ns' hfr a2 (sorted_lt a3 (a2.nodup_iff.mpr hnd))⟩

/-! ### d.setdefault(k, x) -/
theorem d_setdef {pins : List (Addr × Obj)} {σ : St} {H : Hp} {s : Shared} {a : Addr} {k : Key} {kvs : List (Key × V)} {u r : Value} {d : V} {A : Around} {E : Value → Shared → Prop} {Q : Value → Shared → Prop} (I : Inv X pins σ H s) (e : H a = some (.dK kvs)) (ry : RelV (kV k) u) (rd : RelV d r) (hl : kvs.length < sizeLine)
    (h1 : ∀ v, valV kvs k = some v → ∀ w' s', Inv X pins σ H s' → RelV v w' → Q w' s') (h2 : valV kvs k = none → ∀ s', Inv X pins σ (upd H a (.dK (putK kvs k d))) s' → Q r s') :
    wpAny (model X.prog X.w) A (call (.builtin "dict.setdefault") [.ref a, u, r]) Q E s := by
  obtain ⟨z, hd, vs, rel, dd⟩ := dk_of I.hok e
  refine call_meetsIn PySem.F.slot_dict_setdefault dd.typeIs PySem.F.entry_dict_setdefault (PySem.F.args_dict_setdefault_3 _ _ _) (kt_meets_setdefault (mixKind X.prog X.w) a (kV_is ry) hd r) ⟨vs, dd, by rw [← rel.length]; exact z, fun v hv => ?_, fun hn h' dd' hs => ?_⟩
  · have rv := rel.val k
    rw [hv] at rv
    cases l : valV kvs k with
    | none => rw [l] at rv; exact rv.elim
    | some v' => rw [l] at rv; exact h1 v' l _ _ (I.tok _) rv
  · have rv := rel.val k
    rw [hn] at rv
    cases l : valV kvs k with
    | some v' => rw [l] at rv; exact rv.elim
    | none =>
      have he : ∃ q, h'.get? a = some q := let ⟨q, _, _, hq, _⟩ := dd'; ⟨q, hq⟩
      have hz : (putK kvs k d).length ≤ sizeLine := by have := length_putK kvs k d; omega
      exact h2 l _ (d_write I (by rw [e]; exact True.intro) hs he (dk_new hz hd (rel.put k rd) dd'))
def tDSetD (td ty tx : TE) : TE := fun σ H Q => td σ H fun x H1 => ∃ a, x = .ref a ∧ IsD H1 a ∧ ty σ H1 fun y H2 => tx σ H2 fun z H3 => ∃ kvs k, H3 a = some (.dK kvs) ∧ y = kV k ∧ kvs.length < sizeLine ∧
  (∀ v, valV kvs k = some v → Q v H3) ∧ (valV kvs k = none → Q z (upd H3 a (.dK (putK kvs k z))))
theorem pe_dsetd {o e f : Expr} {apos cpos : Pos} {td ty tx : TE} (ho : PE X o td) (he : PE X e ty) (hf : PE X f tx) (m : M2 X o "setdefault" apos e f cpos) : PE X (.Call (.Attribute o "setdefault" apos) [e, f] [] cpos) (tDSetD td ty tx) := by
  intro pins s σ H Q I h
  refine wpAny_Call_method m.base m.few m.line PySem.F.plainAttrs_dict PySem.F.slot_dict_setdefault PySem.F.type_dict_setdefault (thn (ho pins s σ H _ I h) fun u s1 ⟨x, H1, I1, rx, a, ex, d, q1⟩ => ?_)
  subst ex
  obtain rfl : u = Value.ref a := rx
  obtain ⟨t1, t2, _⟩ := isD_at I1 d
  refine ⟨t1, t2, ?_⟩
  rw [m.trees]
  refine Calls.callWith_builtin rfl (Calls.evalArgs_plain (Calls.spliced_cons (thn (he pins s1 σ H1 _ I1 q1) fun iv s2 ⟨y, H2, I2, ry, q2⟩ =>
    Calls.spliced_cons (thn (hf pins s2 σ H2 _ I2 q2) fun fv s3 ⟨z, H3, I3, rz, kvs, k, ea, ey, hl, q3, q4⟩ => Calls.spliced_nil ?_))))
  subst ey
  exact d_setdef I3 ea ry rz hl (fun v l w' s4 I4 rw' => ⟨v, H3, I4, rw', q3 v l⟩) fun l s4 I4 => ⟨z, _, I4, rz, q4 l⟩
end
end L2


set_option linter.all false
set_option maxRecDepth 100000
namespace L2
open PySem PySem.Spec PyProof.Rows WS
/-! ### sorted(set(a) op set(b)), as one expression -/
/-- a call of a merging def: two rows of ints, one new rising row of those that meet f; all else stays -/
def spMerge (K : PySem.W.Frag) (f : Int → List Int → List Int → Prop) : Sp := fun vs H Q _ => ∃ (a b : Addr) (ns ms : List Int), vs = [.ref a, .ref b] ∧ SqL K H a (ns.map V.int) ∧ SqL K H b (ms.map V.int) ∧ ns.length ≤ 100 ∧ ms.length ≤ 100 ∧
  (∀ kr : List Int, kr.Nodup → (∀ k ∈ kr, f k ns ms) → kr.length < 64) ∧
  ∀ (l : Addr) (rs : List Int) (H' : Hp), H l = none → Same H H' → H' l = some (.lst (rs.map V.int)) → rs.Pairwise (· < ·) → (∀ k, k ∈ rs ↔ f k ns ms) → Q (.ref l) H'
section
variable {X : Cx} {a b : Expr} {ta tb : TE} {op : Operator} {f : Int → List Int → List Int → Prop}
theorem same_upd {H : Hp} {l : Addr} {o : HO} (h : H l = none) : Same H (upd H l o) := fun b u e => by rw [upd_ne (ne_of_none e h)]; exact e
/-- the reading of sorted(set(x) op set(y)), x and y in the slots 0 and 1 -/
theorem read_merge {K : PySem.W.Frag} {w : World} {H : Hp} {p q : Addr} {ns ms : List Int} {Q : VK} {σ : St} (h0 : σ[0]? = some (some (.ref p))) (h1 : σ[1]? = some (some (.ref q))) (hp : SqL K H p (ns.map V.int)) (hq : SqL K H q (ms.map V.int)) (n1 : ns.length ≤ 100) (n2 : ms.length ≤ 100)
    (hcong : ∀ k ks ls, (∀ k, k ∈ ks ↔ k ∈ ns) → (∀ k, k ∈ ls ↔ k ∈ ms) → (f k ks ls ↔ f k ns ms)) (hlen : ∀ kr : List Int, kr.Nodup → (∀ k ∈ kr, f k ns ms) → kr.length < 64)
    (hQ : ∀ (l : Addr) (rs : List Int) (H' : Hp), H l = none → Same H H' → H' l = some (.lst (rs.map V.int)) → rs.Pairwise (· < ·) → (∀ k, k ∈ rs ↔ f k ns ms) → Q (.ref l) H') :
    tCB (rSorted w) (tCons (tOp (rSetOp w f) (tCB (rSetOf K w) (tCons (tVar 0) tNil)) (tCB (rSetOf K w) (tCons (tVar 1) tNil))) tNil) σ H Q := by
  refine ⟨_, h0, p, ns, rfl, hp, by omega, fun l1 ks hl1 hk1 hm1 => ?_⟩
  have s1 : Same H (upd H l1 (SetO w l1 ks)) := same_upd hl1
  refine ⟨_, h1, q, ms, rfl, s1.seq hq, by omega, fun l2 ls hl2 hk2 hm2 => ?_⟩
  have s2 : Same _ (upd (upd H l1 (SetO w l1 ks)) l2 (SetO w l2 ls)) := same_upd hl2
  have hne : l1 ≠ l2 := ne_of_none upd_same hl2
  refine ⟨l1, l2, ks, ls, rfl, rfl, Ne.symm hne, by rw [upd_ne hne, upd_same], upd_same, by omega, by omega, fun r kr hr hnd hm => ?_⟩
  have s3 : Same _ (upd (upd (upd H l1 (SetO w l1 ks)) l2 (SetO w l2 ls)) r (SetO w r kr)) := same_upd hr
  have hfk : ∀ k, k ∈ kr ↔ f k ns ms := fun k => (hm k).trans (hcong k ks ls hm1 hm2)
  refine ⟨r, kr, rfl, upd_same, hnd, hlen kr hnd fun k hk => (hfk k).mp hk, fun l rs hl hp' hpw => ?_⟩
  have s4 : Same _ (upd (upd (upd (upd H l1 (SetO w l1 ks)) l2 (SetO w l2 ls)) r (SetO w r kr)) l (.lst (rs.map V.int))) := same_upd hl
  have sA := s1.trans (s2.trans s3)
  exact hQ l rs _ (sA.free hl) (sA.trans s4) upd_same hpw fun k => by rw [hp'.mem_iff, hfk k]
end
end L2


set_option linter.all false
set_option maxRecDepth 100000
namespace L2
open PySem PySem.Spec PyProof.Rows
/-- a comprehension over a list by an invariant: i turns, the values so far, the heap -/
theorem comp_listI {K : PySem.W.Frag} {a : Addr} {xs : List V} {te : TE} {fin : Hp → List V → Prop} {σ : St} {H : Hp} (Iv : Nat → List V → Hp → Prop) (hz : xs.length ≤ sizeLine) (h0 : Iv 0 [] H)
    (hl : ∀ i vs H1, Iv i vs H1 → SqL K H1 a xs)
    (hs : ∀ (i : Nat) (x : V) (vs : List V) (H1 : Hp), xs[i]? = some x → vs.length = i → Iv i vs H1 → ∀ Q : V → Hp → Prop, (∀ v H2, Iv (i + 1) (vs ++ [v]) H2 → Q v H2) → te (σ ++ [some x]) H1 Q)
    (hd : ∀ vs H1, vs.length = xs.length → Iv xs.length vs H1 → fin H1 vs) :
    ∃ W : Nat → Nat → List V → Hp → Prop, (∃ m, W 0 m [] H) ∧ ∀ i m vs H, W i m vs H →
      ((Itl K a).stop i H ∧ vs.length ≤ sizeLine ∧ fin H vs) ∨
      ((Itl K a).go i H ∧ vs.length < sizeLine ∧ ∀ x H', (Itl K a).yld i H x H' → tTrue (σ ++ [some x]) H' fun b H2 => if b = true then te (σ ++ [some x]) H2 fun v H3 => ∃ m', m' < m ∧ W (i + 1) m' (vs ++ [v]) H3 else ∃ m', m' < m ∧ W (i + 1) m' vs H2) := by
  refine ⟨fun i m vs H1 => Iv i vs H1 ∧ i ≤ xs.length ∧ m = xs.length - i ∧ vs.length = i, ⟨xs.length, h0, Nat.zero_le _, by simp, rfl⟩, ?_⟩
  rintro i m vs H1 ⟨hi, hle, rfl, hvl⟩
  have hq := hl i vs H1 hi
  by_cases hlt : i < xs.length
  · refine .inr ⟨⟨xs, xs[i], hq, by simp [hlt]⟩, by omega, fun x H2 y => ?_⟩
    obtain ⟨rfl, y⟩ := y
    unfold tTrue
    dsimp only
    rw [if_pos rfl]
    refine hs i x vs H2 (y xs hq) hvl hi _ fun v H3 h3 => ?_
    exact ⟨xs.length - (i + 1), by omega, h3, hlt, rfl, by rw [List.length_append]; simp; omega⟩
  · have e : i = xs.length := by omega
    subst e
    exact .inl ⟨⟨xs, hq, Nat.le_refl _⟩, by omega, hd vs H1 hvl hi⟩
theorem len_sub {α : Type} [DecidableEq α] : ∀ {xs ys : List α}, xs.Nodup → (∀ x, x ∈ xs → x ∈ ys) → xs.length ≤ ys.length
  | [], ys, _, _ => Nat.zero_le _
  | x :: xs, ys, hn, h => by
    obtain ⟨h1, h2⟩ := List.nodup_cons.mp hn
    have hx := h x List.mem_cons_self
    have := len_sub (xs := xs) (ys := ys.erase x) h2 fun z hz => (List.mem_erase_of_ne (show z ≠ x from fun e => h1 (e ▸ hz))).mpr (h z (List.mem_cons_of_mem _ hz))
    rw [List.length_erase_of_mem hx] at this
    have := List.length_pos_of_mem hx
    rw [List.length_cons]
    omega
end L2


set_option linter.all false
set_option maxRecDepth 100000
namespace L2
open PySem PySem.Spec PyProof.Rows
/-! loops without a break: what stands behind the loop is hidden from its body -/
end L2
namespace L2
open PySem PySem.Spec PyProof.Rows
/-! what stands behind a statement, hidden while the statement is read -/
theorem seq_hide {t u : TS} {nx : St → Hp → Prop} {rt : VK} {bk ct : St → Hp → Prop} {σ : St} {H : Hp} (h : ∀ N b c : St → Hp → Prop, N = u ⟨nx, rt, bk, ct⟩ → t ⟨N, rt, b, c⟩ σ H) : tSeq t u ⟨nx, rt, bk, ct⟩ σ H := by
  have e : (fun σ H => False : St → Hp → Prop) = fun σ H => False := rfl
  exact h _ _ _ rfl
end L2
namespace L2
open PySem PySem.Spec PyProof.Rows
theorem noxK {CX : CXT} {P : Program} {w : World} {K : PySem.W.Frag} {mg : Str → Option Value} {base : Heap} {N : List Str} {qual : Str} {scope : Scope} {f : Addr} {cd : Value} {A : Around} {outer : List Env} {s : Shared} {H : Hp} {E : XK} : (cxOf CX P w K mg base N qual scope f cd A outer s H E).nox.K = K := rfl
end L2
namespace L2
open PySem PySem.Spec PyProof.Rows
theorem if_hideD {c : TT} {t u : TS} {D : Ends} {σ : St} {H : Hp} (h : ∀ x y : St → Hp → Prop, x = t D → y = u D → c σ H fun b H1 => if b = true then x σ H1 else y σ H1) : tIfS c t u D σ H := h _ _ rfl rfl
end L2


set_option linter.all false
set_option maxRecDepth 100000
namespace DM
open PySem L2 PyProof.Rows WS

/-! ### words of a line -/
def isL (c : Nat) : Bool := decide (97 ≤ c) && decide (c ≤ 122)
def pl (c : Nat) : Nat := if isL c = true then c else 32
/-- the words ahead, and the run at the end -/
def scF (st : List Str × Str) (cs : List Nat) : List Str × Str := cs.foldl (fun st c => KWd.step st (pl c)) st
def sc (cs : List Nat) : List Str × Str := scF ([], Str.empty) cs
theorem sc_snoc (cs : List Nat) (c : Nat) : sc (cs ++ [c]) = KWd.step (sc cs) (pl c) := by
  unfold sc scF
  rw [List.foldl_append]
  rfl
theorem space_pl {c : Nat} : Unicode.isSpace (pl c) = !isL c := by
  unfold pl
  cases h : isL c with
  | false => rfl
  | true =>
    rw [if_pos rfl]
    have h' : 97 ≤ c ∧ c ≤ 122 := by simpa [isL] using h
    have : ∀ d : Fin 26, Unicode.isSpace (97 + d.val) = false := by decide +kernel
    have e := this ⟨c - 97, by omega⟩
    have e2 : 97 + (c - 97) = c := by omega
    simp only [e2] at e
    rw [e]; rfl
theorem step_letter {c : Nat} {st : List Str × Str} (h : isL c = true) : KWd.step st (pl c) = (st.1, st.2 ++ ⟨#[c]⟩) := by
  unfold KWd.step
  rw [space_pl, h]
  have e : pl c = c := by unfold pl; rw [if_pos h]
  rw [e]; rfl
theorem step_blank {c : Nat} {st : List Str × Str} (h : isL c = false) : KWd.step st (pl c) = if st.2.length = 0 then st else (st.1 ++ [st.2], Str.empty) := by
  unfold KWd.step
  rw [space_pl, h]
  rfl
/-- the list of the words -/
def wds (cs : List Nat) : List Str := KWd.fin (sc cs)
theorem words_plain (cs : List Nat) : PySem.Txt.words ⟨(cs.map pl).toArray⟩ = wds cs := by
  rw [KWd.words_scan]
  unfold wds KWd.scan sc scF
  show KWd.fin ((cs.map pl).foldl KWd.step _) = _
  rw [List.foldl_map]
theorem wds_blank (cs : List Nat) : (sc (cs ++ [32])).1 = wds cs := by
  rw [sc_snoc, step_blank (by decide)]
  unfold wds KWd.fin
  split <;> rfl
/-- how many words, the run at the end among them -/
def mu (st : List Str × Str) : Nat := st.1.length + (if st.2.length = 0 then 0 else 1)
theorem fin_mu (st : List Str × Str) : (KWd.fin st).length = mu st := by
  unfold KWd.fin mu
  split <;> simp
theorem mu_blank {c : Nat} {st : List Str × Str} (h : isL c = false) : mu (KWd.step st (pl c)) = mu st ∧ (KWd.step st (pl c)).2.length = 0 := by
  rw [step_blank h]
  unfold mu
  split
  · rename_i h2
    exact ⟨rfl, h2⟩
  · rename_i h2
    have e0 : Str.empty.length = 0 := rfl
    refine ⟨?_, e0⟩
    show (st.1 ++ [st.2]).length + (if Str.empty.length = 0 then 0 else 1) = _
    rw [List.length_append, if_pos e0]
    simp
theorem str_snoc_len (x : Str) (c : Nat) : (x ++ (⟨#[c]⟩ : Str)).length = x.length + 1 := by
  show (x ++ (⟨#[c]⟩ : Str)).cps.size = _
  rw [Str.cps_append, Array.size_append]
  rfl
theorem mu_letter {c : Nat} {st : List Str × Str} (h : isL c = true) : mu (KWd.step st (pl c)) = st.1.length + 1 ∧ (KWd.step st (pl c)).2.length ≠ 0 := by
  rw [step_letter h]
  have e := str_snoc_len st.2 c
  unfold mu
  dsimp only
  rw [e]
  exact ⟨by rw [if_neg (by omega)], by omega⟩
theorem mu_blanks : ∀ {cs : List Nat} {st : List Str × Str}, (∀ c ∈ cs, isL c = false) → mu (scF st cs) = mu st
  | [], _, _ => rfl
  | c :: r, st, h => by
    show mu (scF (KWd.step st (pl c)) r) = _
    rw [mu_blanks fun d hd => h d (List.mem_cons_of_mem _ hd), (mu_blank (h c List.mem_cons_self)).1]
theorem mu_run : ∀ {cs : List Nat} {st : List Str × Str}, st.2.length ≠ 0 → (∀ c ∈ cs, isL c = true) → mu (scF st cs) = mu st
  | [], _, _, _ => rfl
  | c :: r, st, h0, h => by
    obtain ⟨e1, e2⟩ := mu_letter (st := st) (h c List.mem_cons_self)
    show mu (scF (KWd.step st (pl c)) r) = _
    rw [mu_run e2 fun d hd => h d (List.mem_cons_of_mem _ hd), e1]
    unfold mu
    rw [if_neg h0]
theorem mu_word {cs : List Nat} {st : List Str × Str} (h : ∀ c ∈ cs, isL c = true) : mu (scF st cs) ≤ mu st + 1 := by
  cases cs with
  | nil => exact Nat.le_succ _
  | cons c r =>
    obtain ⟨e1, e2⟩ := mu_letter (st := st) (h c List.mem_cons_self)
    show mu (scF (KWd.step st (pl c)) r) ≤ _
    rw [mu_run e2 fun d hd => h d (List.mem_cons_of_mem _ hd), e1]
    unfold mu
    omega
theorem scF_append (st : List Str × Str) (a b : List Nat) : scF st (a ++ b) = scF (scF st a) b := List.foldl_append
theorem sc_le (cs : List Nat) : (sc cs).1.length ≤ cs.length := by
  have : ∀ (cs : List Nat) (st : List Str × Str), mu (scF st cs) ≤ mu st + cs.length := by
    intro cs
    induction cs with
    | nil => intro st; exact Nat.le_refl _
    | cons c r ih =>
      intro st
      show mu (scF (KWd.step st (pl c)) r) ≤ _
      have h1 := ih (KWd.step st (pl c))
      have h2 : mu (KWd.step st (pl c)) ≤ mu st + 1 := by
        cases hc : isL c with
        | true => rw [(mu_letter hc).1]; unfold mu; omega
        | false => rw [(mu_blank hc).1]; omega
      rw [List.length_cons]; omega
  have h := this cs ([], Str.empty)
  have e0 : mu ([], Str.empty) = 0 := rfl
  have h2 : (sc cs).1.length ≤ mu (sc cs) := Nat.le_add_right _ _
  unfold sc at h2 ⊢
  omega
theorem letter_in : ∀ c : Fin 128, (!(Builtin.Str.occurrences ("abcdefghijklmnopqrstuvwxyz" : Str) ⟨#[c.val]⟩ 0 ("abcdefghijklmnopqrstuvwxyz" : Str).length 1).isEmpty) = isL c.val := by decide +kernel
theorem le_a (c : Nat) : (!decide ((⟨#[c]⟩ : Str).cps.toList < ("a" : Str).cps.toList)) = decide (97 ≤ c) := by
  show (!decide ([c] < [97])) = _
  rw [StrLaws.lt_cons_cons, StrLaws.lt_nil_nil, Bool.and_false, Bool.or_false]
  rw [Bool.eq_iff_iff]; simp
theorem le_z (c : Nat) : (!decide (("z" : Str).cps.toList < (⟨#[c]⟩ : Str).cps.toList)) = decide (c ≤ 122) := by
  show (!decide ([122] < [c])) = _
  rw [StrLaws.lt_cons_cons, StrLaws.lt_nil_nil, Bool.and_false, Bool.or_false]
  rw [Bool.eq_iff_iff]; simp
def linesWords (z : Str) : List Str := wds z.cps.toList

/-! ### what a script makes -/
def pick {α : Type} [Inhabited α] (l : List α) (i : Int) : α := l.getD i.toNat default
theorem pick_at {α : Type} [Inhabited α] {l : List α} {i : Int} (h0 : 0 ≤ i) (h1 : i < l.length) : atI l i = some (pick l i) := by
  obtain ⟨j, rfl⟩ : ∃ j : Nat, i = j := ⟨i.toNat, by omega⟩
  have hj : j < l.length := by omega
  refine atI_nat ?_
  simp [pick, List.getD, List.getElem?_eq_getElem hj]
theorem pick_mem {α : Type} [Inhabited α] {l : List α} {i : Int} (h0 : 0 ≤ i) (h1 : i < l.length) : pick l i ∈ l := by
  obtain ⟨j, rfl⟩ : ∃ j : Nat, i = j := ⟨i.toNat, by omega⟩
  have hj : j < l.length := by omega
  have : pick l (j : Int) = l[j] := by simp [pick, List.getD, List.getElem?_eq_getElem hj]
  rw [this]; exact List.getElem_mem hj
theorem atI_map {α β : Type} {l : List α} {i : Int} {x : α} (f : α → β) (h : atI l i = some x) : atI (l.map f) i = some (f x) := by
  unfold atI at h ⊢
  rw [List.length_map]
  cases e : ixN l.length i with
  | none => rw [e] at h; cases h
  | some j =>
    rw [e] at h
    show (l.map f)[j]? = _
    rw [List.getElem?_map, show l[j]? = some x from h]
    rfl
abbrev far : Str := "abcdefghijklmnopqrst"
abbrev abc : Str := "abcdefghijklmnopqrstuvwxyz"
abbrev xy : List Str := ["x", "y"]
abbrev zab : List Str := ["", "z", "ab", "qu"]
abbrev wrd : List Str := ["a", "b", "ab", "c", "a", "b", "", "B"]
abbrev hd3 : List Str := ["", " ", "X"]
abbrev sep : List Str := [" ", ", ", " ", "-", "  ", "A", "9", "{", "'"]
def farW (j : Int) (k : Int) : Str := PySem.Txt.slice far none (some j) ++ pick xy k ++ PySem.Txt.slice far (some (j + 1)) none
def abcW (j : Int) (k : Int) : Str := (⟨#[pick abc.cps.toList j]⟩ : Str) ++ pick zab k
def wordBy (s : Int) : Str := if s % 23 = 9 then farW (s / 23 % 20) (s / 460 % 2) else if s % 7 = 5 then abcW (s / 56 % 26) (s / 8 % 4) else pick wrd (s % 8)
def goodW (w : Str) : Bool := decide (w.length ≤ 20) && (w.cps.toList.all isL || w == "B")
theorem mod_nat (s : Int) {m : Int} (hm : 0 < m) : ∃ j : Nat, s % m = j ∧ (j : Int) < m := ⟨(s % m).toNat, by have := Int.emod_nonneg s (show m ≠ 0 by omega); omega, by have := Int.emod_nonneg s (show m ≠ 0 by omega); have := Int.emod_lt_of_pos s hm; omega⟩
theorem good_far : ∀ (j : Fin 20) (k : Fin 2), goodW (farW (j.val : Int) (k.val : Int)) = true := by decide +kernel
theorem good_abc : ∀ (j : Fin 26) (k : Fin 4), goodW (abcW (j.val : Int) (k.val : Int)) = true := by decide +kernel
theorem good_wrd : ∀ (k : Fin 8), goodW (pick wrd (k.val : Int)) = true := by decide +kernel
theorem good_word (s : Int) : goodW (wordBy s) = true := by
  unfold wordBy
  split
  · obtain ⟨j, ej, hj⟩ := mod_nat (s / 23) (m := 20) (by decide)
    obtain ⟨k, ek, hk⟩ := mod_nat (s / 460) (m := 2) (by decide)
    rw [ej, ek]
    exact good_far ⟨j, by omega⟩ ⟨k, by omega⟩
  · split
    · obtain ⟨j, ej, hj⟩ := mod_nat (s / 56) (m := 26) (by decide)
      obtain ⟨k, ek, hk⟩ := mod_nat (s / 8) (m := 4) (by decide)
      rw [ej, ek]
      exact good_abc ⟨j, by omega⟩ ⟨k, by omega⟩
    · obtain ⟨k, ek, hk⟩ := mod_nat s (m := 8) (by decide)
      rw [ek]
      exact good_wrd ⟨k, by omega⟩
theorem word_len (s : Int) : (wordBy s).length ≤ 20 := by
  have := good_word s
  unfold goodW at this
  rw [Bool.and_eq_true, decide_eq_true_eq] at this
  exact this.1
theorem word_signs (s : Int) : (∀ c ∈ (wordBy s).cps.toList, isL c = true) ∨ wordBy s = "B" := by
  have := good_word s
  unfold goodW at this
  rw [Bool.and_eq_true, Bool.or_eq_true, List.all_eq_true, beq_iff_eq] at this
  exact this.2
/-- the left over and the line ahead of turn i -/
def lineAt (s : Int) : Nat → Int × Str
  | 0 => (s / 3, pick hd3 (s / 6 % 3))
  | i + 1 => ((lineAt s i).1 / 5 + 3 * (i : Int) + s, (lineAt s i).2 ++ wordBy ((lineAt s i).1 % 7 + 56 * ((lineAt s i).1 / 63)) ++ pick sep ((lineAt s i).1 / 7 % 9))
def b2 (b : Bool) : Int := if b then 1 else 0
def manyBy (s : Int) : Int := pick [s % 6, 9, 20] (b2 (decide (s % 16 = 9)) + b2 (decide (s % 32 = 9)))
def lineBy (s : Int) : Str := (lineAt s (manyBy s).toNat).2
theorem b2_le (b : Bool) : 0 ≤ b2 b ∧ b2 b ≤ 1 := by cases b <;> exact ⟨by decide, by decide⟩
theorem many_le (s : Int) : 0 ≤ manyBy s ∧ manyBy s ≤ 20 := by
  have h1 := b2_le (decide (s % 16 = 9))
  have h2 := b2_le (decide (s % 32 = 9))
  unfold manyBy
  have hm := pick_mem (l := [s % 6, 9, 20]) (i := b2 (decide (s % 16 = 9)) + b2 (decide (s % 32 = 9))) (by omega) (by show _ < (3 : Int); omega)
  have g0 : 0 ≤ s % 6 := Int.emod_nonneg _ (by decide)
  have g1 : s % 6 < 6 := Int.emod_lt_of_pos _ (by decide)
  rcases List.mem_cons.mp hm with e | e
  · rw [e]; omega
  · rcases List.mem_cons.mp e with e | e
    · rw [e]; omega
    · rw [List.mem_singleton.mp e]; omega
def goodS (w : Str) : Bool := decide (w.length ≤ 2) && w.cps.toList.all fun c => decide (c < 128) && !isL c
theorem good_hd (s : Int) : goodS (pick hd3 (s % 3)) = true := by
  obtain ⟨k, ek, hk⟩ := mod_nat s (m := 3) (by decide)
  rw [ek]
  exact (show ∀ k : Fin 3, goodS (pick hd3 (k.val : Int)) = true by decide +kernel) ⟨k, by omega⟩
theorem good_sep (s : Int) : goodS (pick sep (s % 9)) = true := by
  obtain ⟨k, ek, hk⟩ := mod_nat s (m := 9) (by decide)
  rw [ek]
  exact (show ∀ k : Fin 9, goodS (pick sep (k.val : Int)) = true by decide +kernel) ⟨k, by omega⟩
theorem goodS_len {w : Str} (h : goodS w = true) : w.length ≤ 2 := by
  unfold goodS at h
  rw [Bool.and_eq_true, decide_eq_true_eq] at h
  exact h.1
theorem goodS_sign {w : Str} (h : goodS w = true) : ∀ c ∈ w.cps.toList, c < 128 ∧ isL c = false := by
  unfold goodS at h
  rw [Bool.and_eq_true, List.all_eq_true] at h
  intro c hc
  have := h.2 c hc
  rw [Bool.and_eq_true, decide_eq_true_eq, Bool.not_eq_true'] at this
  exact this
theorem app_len (x y : Str) : (x ++ y).length = x.length + y.length := by
  show (x ++ y).cps.size = _
  rw [Str.cps_append, Array.size_append]; rfl
theorem app_list (x y : Str) : (x ++ y).cps.toList = x.cps.toList ++ y.cps.toList := by rw [Str.cps_append, Array.toList_append]
theorem word_asc (s : Int) : ∀ c ∈ (wordBy s).cps.toList, c < 128 := by
  rcases word_signs s with h | h
  · intro c hc
    have := h c hc
    have h' : 97 ≤ c ∧ c ≤ 122 := by simpa [isL] using this
    omega
  · rw [h]
    intro c hc
    have : c = 66 := by simpa using (show c ∈ [66] from hc)
    omega
theorem line_ok (s : Int) : ∀ i, (lineAt s i).2.length ≤ 2 + 22 * i ∧ (∀ c ∈ (lineAt s i).2.cps.toList, c < 128) ∧ mu (sc (lineAt s i).2.cps.toList) ≤ i
  | 0 => by
    have h := good_hd (s / 6)
    refine ⟨show (pick hd3 (s / 6 % 3)).length ≤ 2 from goodS_len h, fun c hc => (goodS_sign h c hc).1, ?_⟩
    show mu (scF ([], Str.empty) (pick hd3 (s / 6 % 3)).cps.toList) ≤ 0
    rw [mu_blanks fun c hc => (goodS_sign h c hc).2]
    exact Nat.le_refl _
  | i + 1 => by
    obtain ⟨h1, h2, h3⟩ := line_ok s i
    have hs := good_sep ((lineAt s i).1 / 7)
    have hw := word_len ((lineAt s i).1 % 7 + 56 * ((lineAt s i).1 / 63))
    have ha := word_asc ((lineAt s i).1 % 7 + 56 * ((lineAt s i).1 / 63))
    have hg := word_signs ((lineAt s i).1 % 7 + 56 * ((lineAt s i).1 / 63))
    show ((lineAt s i).2 ++ wordBy ((lineAt s i).1 % 7 + 56 * ((lineAt s i).1 / 63)) ++ pick sep ((lineAt s i).1 / 7 % 9)).length ≤ _ ∧ (∀ c ∈ ((lineAt s i).2 ++ wordBy ((lineAt s i).1 % 7 + 56 * ((lineAt s i).1 / 63)) ++ pick sep ((lineAt s i).1 / 7 % 9)).cps.toList, c < 128) ∧ mu (sc ((lineAt s i).2 ++ wordBy ((lineAt s i).1 % 7 + 56 * ((lineAt s i).1 / 63)) ++ pick sep ((lineAt s i).1 / 7 % 9)).cps.toList) ≤ i + 1
    generalize wordBy ((lineAt s i).1 % 7 + 56 * ((lineAt s i).1 / 63)) = wd at *
    generalize pick sep ((lineAt s i).1 / 7 % 9) = sp at *
    have hsl := goodS_len hs
    refine ⟨by rw [app_len, app_len]; omega, ?_, ?_⟩
    · intro c hc
      rw [app_list, app_list, List.mem_append, List.mem_append] at hc
      rcases hc with (hc | hc) | hc
      · exact h2 c hc
      · exact ha c hc
      · exact (goodS_sign hs c hc).1
    · rw [app_list, app_list]
      unfold sc at h3 ⊢
      rw [scF_append, scF_append, mu_blanks fun c hc => (goodS_sign hs c hc).2]
      rcases hg with hg | hg
      · have := mu_word (st := scF ([], Str.empty) (lineAt s i).2.cps.toList) hg
        omega
      · rw [hg, mu_blanks (cs := ("B" : Str).cps.toList) (by decide)]
        omega
theorem line_len (s : Int) : (lineBy s).length ≤ 500 := by
  have h := (line_ok s (manyBy s).toNat).1
  have := many_le s
  unfold lineBy
  omega
theorem line_asc (s : Int) : ∀ c ∈ (lineBy s).cps.toList, c < 128 := (line_ok s (manyBy s).toNat).2.1
theorem line_words (s : Int) : (linesWords (lineBy s)).length ≤ 20 := by
  have h := (line_ok s (manyBy s).toNat).2.2
  have := many_le s
  unfold linesWords wds
  rw [fin_mu]
  unfold lineBy
  omega
end DM


set_option linter.all false
set_option maxRecDepth 100000
namespace DM
open PySem L2 PyProof.Rows WS

/-! ### questions and deeds -/
inductive Qu where
  | word (w : Str)
  | near (v w : Str) (many : Int)
  | row (ws : List Str)
  | and (q r : Qu)
  | or (q r : Qu)
  | not (q : Qu)
  deriving Inhabited
inductive Deed where
  | put (line : Str)
  | strike (n : Int)
  | ask (q : Qu)
def Qu.depth : Qu → Nat
  | .word _ => 0
  | .near _ _ _ => 0
  | .row _ => 0
  | .and q r => max q.depth r.depth + 1
  | .or q r => max q.depth r.depth + 1
  | .not q => q.depth + 1
/-- xs[lo:hi] -/
def cut {α : Type} (xs : List α) (lo hi : Option Int) : List α := (xs.drop (HT.sIx xs.length 0 lo)).take (HT.sIx xs.length xs.length hi - HT.sIx xs.length 0 lo)
theorem cutV_map {α : Type} (f : α → V) (xs : List α) (lo hi : Option Int) : cutV (xs.map f) lo hi = (cut xs lo hi).map f := by
  unfold cutV cut
  rw [List.length_map, ← List.map_drop, ← List.map_take]
theorem cut_len {α : Type} (xs : List α) (lo hi : Option Int) : (cut xs lo hi).length ≤ xs.length := by
  unfold cut
  rw [List.length_take, List.length_drop]
  omega
/-! ### how they lie in the heap -/
inductive Dat where
  | str (x : Str)
  | int (n : Int)
  | tup (d : Dat)
  | lst (d : Dat)
  | nil
  | cons (h t : Dat)
mutual
def RD (H : Hp) : Dat → V → Prop
  | .str x, v => v = .str x
  | .int n, v => v = .int n
  | .tup d, v => ∃ a vs, v = .ref a ∧ H a = some (.tup vs) ∧ RDs H d vs
  | .lst d, v => ∃ a vs, v = .ref a ∧ H a = some (.lst vs) ∧ RDs H d vs
  | .nil, _ => False
  | .cons _ _, _ => False
def RDs (H : Hp) : Dat → List V → Prop
  | .nil, vs => vs = []
  | .cons h t, vs => ∃ v r, vs = v :: r ∧ RD H h v ∧ RDs H t r
  | .str _, _ => False
  | .int _, _ => False
  | .tup _, _ => False
  | .lst _, _ => False
end
mutual
theorem RD.same {H H' : Hp} (e : Same H H') : ∀ {d : Dat} {v : V}, RD H d v → RD H' d v
  | .str x, v, h => by simpa [RD] using h
  | .int n, v, h => by simpa [RD] using h
  | .tup d, v, h => by
    simp only [RD] at h ⊢
    obtain ⟨a, vs, h1, h2, h3⟩ := h
    exact ⟨a, vs, h1, e _ _ h2, RDs.same e h3⟩
  | .lst d, v, h => by
    simp only [RD] at h ⊢
    obtain ⟨a, vs, h1, h2, h3⟩ := h
    exact ⟨a, vs, h1, e _ _ h2, RDs.same e h3⟩
  | .nil, _, h => by simp [RD] at h
  | .cons _ _, _, h => by simp [RD] at h
theorem RDs.same {H H' : Hp} (e : Same H H') : ∀ {d : Dat} {vs : List V}, RDs H d vs → RDs H' d vs
  | .nil, vs, h => by simpa [RDs] using h
  | .cons h t, vs, hh => by
    simp only [RDs] at hh ⊢
    obtain ⟨v, r, h1, h2, h3⟩ := hh
    exact ⟨v, r, h1, RD.same e h2, RDs.same e h3⟩
  | .str _, _, h => by simp [RDs] at h
  | .int _, _, h => by simp [RDs] at h
  | .tup _, _, h => by simp [RDs] at h
  | .lst _, _, h => by simp [RDs] at h
end
def Dat.of : List Dat → Dat
  | [] => .nil
  | d :: r => .cons d (Dat.of r)
def quD : Qu → Dat
  | .word w => .tup (.of [.str "word", .str w])
  | .near v w m => .tup (.of [.str "near", .str v, .str w, .int m])
  | .row ws => .tup (.of [.str "row", .lst (.of (ws.map .str))])
  | .and q r => .tup (.of [.str "and", quD q, quD r])
  | .or q r => .tup (.of [.str "or", quD q, quD r])
  | .not q => .tup (.of [.str "not", quD q])
def deD : Deed → Dat
  | .put l => .tup (.of [.str "put", .str l])
  | .strike n => .tup (.of [.str "strike", .int n])
  | .ask q => .tup (.of [.str "ask", quD q])
abbrev RQ (H : Hp) (q : Qu) (v : V) : Prop := RD H (quD q) v
abbrev RE (H : Hp) (d : Deed) (v : V) : Prop := RD H (deD d) v
theorem rds_strs {H : Hp} : ∀ {ws : List Str} {vs : List V}, RDs H (.of (ws.map .str)) vs ↔ vs = ws.map V.str
  | [], vs => by simp [Dat.of, RDs]
  | w :: r, vs => by
    simp only [List.map_cons, Dat.of, RDs, RD]
    constructor
    · rintro ⟨v, s, rfl, rfl, h⟩
      rw [rds_strs.mp h]
    · rintro rfl
      exact ⟨_, _, rfl, rfl, rds_strs.mpr rfl⟩
theorem rq_word {H : Hp} {w : Str} {v : V} : RQ H (.word w) v ↔ ∃ a, v = .ref a ∧ H a = some (.tup [.str "word", .str w]) := by
  simp only [RQ, quD, Dat.of, RD, RDs]
  constructor
  · rintro ⟨a, vs, rfl, h, _, _, rfl, rfl, _, _, rfl, rfl, rfl⟩; exact ⟨a, rfl, h⟩
  · rintro ⟨a, rfl, h⟩; exact ⟨a, _, rfl, h, _, _, rfl, rfl, _, _, rfl, rfl, rfl⟩
theorem rq_near {H : Hp} {x w : Str} {m : Int} {v : V} : RQ H (.near x w m) v ↔ ∃ a, v = .ref a ∧ H a = some (.tup [.str "near", .str x, .str w, .int m]) := by
  simp only [RQ, quD, Dat.of, RD, RDs]
  constructor
  · rintro ⟨a, vs, rfl, h, _, _, rfl, rfl, _, _, rfl, rfl, _, _, rfl, rfl, _, _, rfl, rfl, rfl⟩; exact ⟨a, rfl, h⟩
  · rintro ⟨a, rfl, h⟩; exact ⟨a, _, rfl, h, _, _, rfl, rfl, _, _, rfl, rfl, _, _, rfl, rfl, _, _, rfl, rfl, rfl⟩
theorem rq_row {H : Hp} {ws : List Str} {v : V} : RQ H (.row ws) v ↔ ∃ a b, v = .ref a ∧ H a = some (.tup [.str "row", .ref b]) ∧ H b = some (.lst (ws.map V.str)) := by
  simp only [RQ, quD, Dat.of, RD, RDs]
  constructor
  · rintro ⟨a, vs, rfl, h, _, _, rfl, rfl, _, _, rfl, ⟨b, us, rfl, hb, hu⟩, rfl⟩
    rw [rds_strs] at hu
    subst hu
    exact ⟨a, b, rfl, h, hb⟩
  · rintro ⟨a, b, rfl, h, hb⟩; exact ⟨a, _, rfl, h, _, _, rfl, rfl, _, _, rfl, ⟨b, _, rfl, hb, rds_strs.mpr rfl⟩, rfl⟩
theorem rq_not {H : Hp} {q : Qu} {v : V} : RQ H (.not q) v ↔ ∃ a x, v = .ref a ∧ H a = some (.tup [.str "not", x]) ∧ RQ H q x := by
  simp only [RQ, quD, Dat.of, RD, RDs]
  constructor
  · rintro ⟨a, vs, rfl, h, _, _, rfl, rfl, x, _, rfl, hx, rfl⟩; exact ⟨a, x, rfl, h, hx⟩
  · rintro ⟨a, x, rfl, h, hx⟩; exact ⟨a, _, rfl, h, _, _, rfl, rfl, x, _, rfl, hx, rfl⟩
theorem rq_and {H : Hp} {q r : Qu} {v : V} : RQ H (.and q r) v ↔ ∃ a x y, v = .ref a ∧ H a = some (.tup [.str "and", x, y]) ∧ RQ H q x ∧ RQ H r y := by
  simp only [RQ, quD, Dat.of, RD, RDs]
  constructor
  · rintro ⟨a, vs, rfl, h, _, _, rfl, rfl, x, _, rfl, hx, y, _, rfl, hy, rfl⟩; exact ⟨a, x, y, rfl, h, hx, hy⟩
  · rintro ⟨a, x, y, rfl, h, hx, hy⟩; exact ⟨a, _, rfl, h, _, _, rfl, rfl, x, _, rfl, hx, y, _, rfl, hy, rfl⟩
theorem rq_or {H : Hp} {q r : Qu} {v : V} : RQ H (.or q r) v ↔ ∃ a x y, v = .ref a ∧ H a = some (.tup [.str "or", x, y]) ∧ RQ H q x ∧ RQ H r y := by
  simp only [RQ, quD, Dat.of, RD, RDs]
  constructor
  · rintro ⟨a, vs, rfl, h, _, _, rfl, rfl, x, _, rfl, hx, y, _, rfl, hy, rfl⟩; exact ⟨a, x, y, rfl, h, hx, hy⟩
  · rintro ⟨a, x, y, rfl, h, hx, hy⟩; exact ⟨a, _, rfl, h, _, _, rfl, rfl, x, _, rfl, hx, y, _, rfl, hy, rfl⟩
theorem re_put {H : Hp} {l : Str} {v : V} : RE H (.put l) v ↔ ∃ a, v = .ref a ∧ H a = some (.tup [.str "put", .str l]) := by
  simp only [RE, deD, Dat.of, RD, RDs]
  constructor
  · rintro ⟨a, vs, rfl, h, _, _, rfl, rfl, _, _, rfl, rfl, rfl⟩; exact ⟨a, rfl, h⟩
  · rintro ⟨a, rfl, h⟩; exact ⟨a, _, rfl, h, _, _, rfl, rfl, _, _, rfl, rfl, rfl⟩
theorem re_strike {H : Hp} {n : Int} {v : V} : RE H (.strike n) v ↔ ∃ a, v = .ref a ∧ H a = some (.tup [.str "strike", .int n]) := by
  simp only [RE, deD, Dat.of, RD, RDs]
  constructor
  · rintro ⟨a, vs, rfl, h, _, _, rfl, rfl, _, _, rfl, rfl, rfl⟩; exact ⟨a, rfl, h⟩
  · rintro ⟨a, rfl, h⟩; exact ⟨a, _, rfl, h, _, _, rfl, rfl, _, _, rfl, rfl, rfl⟩
theorem re_ask {H : Hp} {q : Qu} {v : V} : RE H (.ask q) v ↔ ∃ a x, v = .ref a ∧ H a = some (.tup [.str "ask", x]) ∧ RQ H q x := by
  simp only [RE, RQ, deD, Dat.of, RD, RDs]
  constructor
  · rintro ⟨a, vs, rfl, h, _, _, rfl, rfl, x, _, rfl, hx, rfl⟩; exact ⟨a, x, rfl, h, hx⟩
  · rintro ⟨a, x, rfl, h, hx⟩; exact ⟨a, _, rfl, h, _, _, rfl, rfl, x, _, rfl, hx, rfl⟩
/-- a list of deeds -/
abbrev REs (H : Hp) (ds : List Deed) (vs : List V) : Prop := RDs H (.of (ds.map deD)) vs
theorem res_len {H : Hp} : ∀ {ds : List Deed} {vs : List V}, REs H ds vs → vs.length = ds.length
  | [], vs, h => by simp only [REs, List.map_nil, Dat.of, RDs] at h; rw [h]; rfl
  | d :: r, vs, h => by
    simp only [REs, List.map_cons, Dat.of, RDs] at h
    obtain ⟨v, s, rfl, _, h2⟩ := h
    rw [List.length_cons, List.length_cons, res_len (ds := r) h2]
theorem res_get {H : Hp} : ∀ {ds : List Deed} {vs : List V} {i : Nat} {d : Deed}, REs H ds vs → ds[i]? = some d → ∃ v, vs[i]? = some v ∧ RE H d v
  | [], vs, i, d, _, h => by simp at h
  | d :: r, vs, i, d', h, e => by
    simp only [REs, List.map_cons, Dat.of, RDs] at h
    obtain ⟨v, s, rfl, h1, h2⟩ := h
    cases i with
    | zero =>
      have : d = d' := by simpa using e
      subst this
      exact ⟨v, rfl, h1⟩
    | succ i => exact res_get (ds := r) (i := i) h2 (by simpa using e)
theorem res_snoc {H : Hp} {d : Deed} {v : V} (hv : RE H d v) : ∀ {ds : List Deed} {vs : List V}, REs H ds vs → REs H (ds ++ [d]) (vs ++ [v])
  | [], vs, h => by
    simp only [REs, List.map_nil, Dat.of, RDs] at h
    subst h
    simp only [REs, List.nil_append, List.map_cons, List.map_nil, Dat.of, RDs]
    exact ⟨v, [], rfl, hv, rfl⟩
  | d' :: r, vs, h => by
    simp only [REs, List.map_cons, Dat.of, RDs] at h
    obtain ⟨u, s, rfl, h1, h2⟩ := h
    simp only [REs, List.cons_append, List.map_cons, Dat.of, RDs]
    exact ⟨u, s ++ [v], rfl, h1, res_snoc hv h2⟩
theorem res_nil {H : Hp} : REs H [] [] := by simp [REs, Dat.of, RDs]

/-! ### parts of a heap -/
/-- without l -/
def off (l : Addr) (H : Hp) : Hp := fun b => if b = l then none else H b
theorem off_same {H H' : Hp} {l : Addr} (e : Same H H') : Same (off l H) (off l H') := fun b o h => by
  unfold off at h ⊢
  by_cases hb : b = l
  · rw [if_pos hb] at h; cases h
  · rw [if_neg hb] at h ⊢; exact e b o h
theorem off_le {H : Hp} {l : Addr} : Same (off l H) H := fun b o h => by
  unfold off at h
  by_cases hb : b = l
  · rw [if_pos hb] at h; cases h
  · rw [if_neg hb] at h; exact h
theorem off_upd {H : Hp} {l : Addr} {o : HO} : off l (upd H l o) = off l H := by
  funext b
  unfold off
  by_cases hb : b = l
  · rw [if_pos hb, if_pos hb]
  · rw [if_neg hb, if_neg hb, upd_ne hb]
theorem off_get {H : Hp} {l b : Addr} {o : HO} (hb : b ≠ l) (h : H b = some o) : off l H b = some o := by
  unfold off; rw [if_neg hb]; exact h
/-- what is new -/
def frh (H H' : Hp) : Hp := fun b => if H b = none then H' b else none
theorem frh_get {H H' : Hp} {b : Addr} {o : HO} (h : H b = none) (e : H' b = some o) : frh H H' b = some o := by
  unfold frh; rw [if_pos h]; exact e
theorem frh_le {H H' : Hp} : Same (frh H H') H' := fun b o h => by
  unfold frh at h
  by_cases hb : H b = none
  · rw [if_pos hb] at h; exact h
  · rw [if_neg hb] at h; cases h
theorem frh_off {H H' : Hp} {l : Addr} {u : HO} (hl : H l = some u) : Same (frh H H') (off l H') := fun b o h => by
  refine off_get (fun e => ?_) (frh_le b o h)
  unfold frh at h
  rw [e, hl] at h
  cases h
theorem newU {H U : Hp} {p : Addr} {o : HO} (h : upd H p o = U) (hp : H p = none) : Same H U ∧ U p = some o := by subst h; exact ⟨same_upd hp, upd_same⟩

/-! ### what a seed makes -/
def pow30 : Int := 10 ^ (30 : Int).toNat
def oneBy (s : Int) : Qu := .word (wordBy s)
def manyQ (s : Int) : Int := pick [0, 1, 2, pow30, 3] (s % 5)
def twoBy (s : Int) : Qu := .near (wordBy (s / 2)) (wordBy (s / 7 + 1)) (manyQ s)
def wordsBy (s : Int) : List Str := cut [wordBy (s / 3), wordBy (s / 5 + 1), wordBy (s / 4)] none (some (1 + s / 11 % 3))
def threeBy (s : Int) : Qu := .row (wordsBy s)
def menuBy (s : Int) : List Qu := [oneBy s, twoBy s, threeBy s, .not (oneBy s), twoBy s, threeBy s, .and (oneBy s) (.not (threeBy s)), .or (twoBy s) (threeBy s), .and (twoBy s) (.or (oneBy s) (threeBy s)), .not (.and (oneBy s) (twoBy s))]
def quBy (s : Int) : Qu := pick (menuBy s) (s / 13 % 10)
/-- made, came, said ahead of turn i -/
structure DS where
  made : List Deed
  came : Nat
  said : List Str
def turnOf (c : Int) (i : Nat) : Int := (c + 3 * (i : Int)) % 8
def seedOf (c : Int) (i : Nat) : Int := c / 8 % 1000 + 7 * (i : Int)
def strikeOf (seed : Int) (came : Nat) : Int := if seed % 19 = 3 then 1000000000000 else seed % ((came : Int) + 2) - 1
def saidRow (seed : Int) (said : List Str) : List Str := cut said (some (seed / 9 % (said.length : Int))) (some (seed / 9 % (said.length : Int) + 2 + seed / 11 % 5))
def dStep (t seed : Int) (d : DS) : DS :=
  if t < 4 then ⟨d.made ++ [.put (lineBy seed)], d.came + 1, linesWords (lineBy seed)⟩
  else if t = 4 then ⟨d.made ++ [.strike (strikeOf seed d.came)], d.came, d.said⟩
  else if seed % 9 = 4 ∧ d.said ≠ [] then ⟨d.made ++ [.ask (.row (saidRow seed d.said))], d.came, d.said⟩
  else ⟨d.made ++ [.ask (quBy seed)], d.came, d.said⟩
def dAt (cs : List Int) : Nat → DS
  | 0 => ⟨[], 0, []⟩
  | i + 1 => dStep (turnOf (cs.getD i 0) i) (seedOf (cs.getD i 0) i) (dAt cs i)
def deedsBy (cs : List Int) : List Deed := (dAt cs cs.length).made

/-! ### what is asked of it -/
/-- the lines kept: numbers rising, their words -/
abbrev Kept := List (Nat × List Str)
def kAfter (kp : Kept) (came : Nat) : Deed → Kept
  | .put l => kp ++ [(came, linesWords l)]
  | .strike n => kp.filter fun p => decide ((p.1 : Int) ≠ n)
  | .ask _ => kp
def cAfter (came : Nat) : Deed → Nat
  | .put _ => came + 1
  | _ => came
inductive Ans where
  | num (n : Nat)
  | yes (b : Bool)
  | found (ns : List Nat)
/-- the shelf ahead of deed i -/
def shAt (ds : List Deed) : Nat → Kept × Nat
  | 0 => ([], 0)
  | i + 1 => match ds[i]? with
    | some d => (kAfter (shAt ds i).1 (shAt ds i).2 d, cAfter (shAt ds i).2 d)
    | none => shAt ds i
/-- what the deeds keep to -/
def OkQ : Qu → Prop
  | .word _ => True
  | .near _ _ _ => True
  | .row ws => ws ≠ [] ∧ ws.length ≤ 20 ∧ True
  | .and q r => OkQ q ∧ OkQ r
  | .or q r => OkQ q ∧ OkQ r
  | .not q => OkQ q
def OkE : Deed → Prop
  | .put l => l.length ≤ 500 ∧ (∀ c ∈ l.cps.toList, c < 128) ∧ (linesWords l).length ≤ 20
  | .strike _ => True
  | .ask q => OkQ q ∧ q.depth ≤ 5
def OkDs (ds : List Deed) : Prop := (∀ d ∈ ds, OkE d) ∧ ds.length ≤ 71 ∧ (shAt ds ds.length).2 ≤ 63
end DM


set_option linter.all false
set_option maxRecDepth 100000
namespace DM
open PySem L2 PyProof.Rows

/-! ### rising lists -/
theorem rise_ext : ∀ {xs ys : List Int}, xs.Pairwise (· < ·) → ys.Pairwise (· < ·) → (∀ k, k ∈ xs ↔ k ∈ ys) → xs = ys
  | [], [], _, _, _ => rfl
  | [], y :: ys, _, _, h => absurd ((h y).mpr List.mem_cons_self) (by simp)
  | x :: xs, [], _, _, h => absurd ((h x).mp List.mem_cons_self) (by simp)
  | x :: xs, y :: ys, hx, hy, h => by
    obtain ⟨x1, x2⟩ := List.pairwise_cons.mp hx
    obtain ⟨y1, y2⟩ := List.pairwise_cons.mp hy
    have e : x = y := by
      rcases List.mem_cons.mp ((h x).mp List.mem_cons_self) with c | c
      · exact c
      · rcases List.mem_cons.mp ((h y).mpr List.mem_cons_self) with d | d
        · exact d.symm
        · have a := y1 x c
          have b := x1 y d
          omega
    subst e
    congr 1
    refine rise_ext x2 y2 fun k => ?_
    constructor
    · intro hk
      rcases List.mem_cons.mp ((h k).mp (List.mem_cons_of_mem _ hk)) with c | c
      · have := x1 k hk; omega
      · exact c
    · intro hk
      rcases List.mem_cons.mp ((h k).mpr (List.mem_cons_of_mem _ hk)) with c | c
      · have := y1 k hk; omega
      · exact c

/-! ### the places of a word in a line -/
def plN (x : Str) (ws : List Str) : List Nat := (List.range ws.length).filter fun i => decide (ws[i]? = some x)
def plOf (x : Str) (ws : List Str) : List Int := (plN x ws).map fun (i : Nat) => (i : Int)
theorem plN_mem {x : Str} {ws : List Str} {i : Nat} : i ∈ plN x ws ↔ ws[i]? = some x := by
  unfold plN
  rw [List.mem_filter, List.mem_range, decide_eq_true_eq]
  exact ⟨fun h => h.2, fun h => ⟨(List.getElem?_eq_some_iff.mp h).1, h⟩⟩
theorem plOf_mem {x : Str} {ws : List Str} {n : Int} : n ∈ plOf x ws ↔ ∃ i : Nat, n = (i : Int) ∧ ws[i]? = some x := by
  unfold plOf
  rw [List.mem_map]
  constructor
  · rintro ⟨i, hi, rfl⟩; exact ⟨i, rfl, plN_mem.mp hi⟩
  · rintro ⟨i, rfl, hi⟩; exact ⟨i, plN_mem.mpr hi, rfl⟩
theorem plN_rise (x : Str) (ws : List Str) : (plN x ws).Pairwise (· < ·) := List.Pairwise.filter _ List.pairwise_lt_range
theorem plOf_rise (x : Str) (ws : List Str) : (plOf x ws).Pairwise (· < ·) := by
  unfold plOf
  rw [List.pairwise_map]
  exact (plN_rise x ws).imp fun h => by omega
theorem plOf_len (x : Str) (ws : List Str) : (plOf x ws).length ≤ ws.length := by
  unfold plOf plN
  rw [List.length_map]
  exact Nat.le_trans (List.length_filter_le _ _) (by rw [List.length_range]; exact Nat.le_refl _)
theorem plN_snoc (x y : Str) (ws : List Str) : plN x (ws ++ [y]) = plN x ws ++ (if y = x then [ws.length] else []) := by
  unfold plN
  rw [List.length_append, List.length_singleton, List.range_succ, List.filter_append]
  congr 1
  · refine List.filter_congr fun i hi => ?_
    rw [List.getElem?_append_left (List.mem_range.mp hi)]
  · rw [List.filter_cons, List.filter_nil]
    simp only [List.getElem?_concat_length, Option.some.injEq, decide_eq_true_eq]
theorem plOf_snoc (x y : Str) (ws : List Str) : plOf x (ws ++ [y]) = plOf x ws ++ (if y = x then [(ws.length : Int)] else []) := by
  unfold plOf
  rw [plN_snoc, List.map_append]
  split <;> rfl
theorem plOf_none {x : Str} {ws : List Str} (h : x ∉ ws) : plOf x ws = [] := by
  rw [List.eq_nil_iff_forall_not_mem]
  intro n hn
  obtain ⟨i, _, hi⟩ := plOf_mem.mp hn
  exact h (List.mem_of_getElem? hi)
theorem plOf_some {x : Str} {ws : List Str} (h : x ∈ ws) : plOf x ws ≠ [] := by
  obtain ⟨i, hi, e⟩ := List.mem_iff_getElem.mp h
  intro z
  have : (i : Int) ∈ plOf x ws := plOf_mem.mpr ⟨i, rfl, by rw [List.getElem?_eq_getElem hi, e]⟩
  rw [z] at this
  cases this

/-! ### the lines in which a word stands -/
def numsOf (kp : Kept) : List Int := kp.map fun e => (e.1 : Int)
def linOf (kp : Kept) (x : Str) : List Int := numsOf (kp.filter fun e => decide (x ∈ e.2))
def wordsAt (kp : Kept) (n : Int) : List Str := ((kp.find? fun e => decide ((e.1 : Int) = n)).map (·.2)).getD []
def plcOf (kp : Kept) (x : Str) (n : Int) : List Int := plOf x (wordsAt kp n)
/-- numbers rise, and are below g -/
def Rise (kp : Kept) (g : Nat) : Prop := kp.Pairwise (fun a b => a.1 < b.1) ∧ ∀ e ∈ kp, e.1 < g ∧ e.2.length ≤ 20
theorem nums_rise {kp : Kept} (h : kp.Pairwise fun a b => a.1 < b.1) : (numsOf kp).Pairwise (· < ·) := by
  unfold numsOf
  rw [List.pairwise_map]
  exact h.imp fun h => by omega
theorem Rise.nums {kp : Kept} {g : Nat} (h : Rise kp g) : (numsOf kp).Pairwise (· < ·) := nums_rise h.1
theorem Rise.filter {kp : Kept} {g : Nat} (h : Rise kp g) (f : Nat × List Str → Bool) : Rise (kp.filter f) g := ⟨h.1.filter _, fun e he => h.2 e (List.mem_filter.mp he).1⟩
theorem Rise.lin {kp : Kept} {g : Nat} (h : Rise kp g) (x : Str) : (linOf kp x).Pairwise (· < ·) := (h.filter _).nums
theorem nodup_lt {xs : List Int} (h : xs.Pairwise (· < ·)) : xs.Nodup := h.imp fun h => by omega
theorem nums_mem {kp : Kept} {n : Int} : n ∈ numsOf kp ↔ ∃ e ∈ kp, (e.1 : Int) = n := by
  unfold numsOf
  rw [List.mem_map]
theorem lin_mem {kp : Kept} {x : Str} {n : Int} : n ∈ linOf kp x ↔ ∃ e ∈ kp, (e.1 : Int) = n ∧ x ∈ e.2 := by
  unfold linOf
  rw [nums_mem]
  constructor
  · rintro ⟨e, he, h⟩
    obtain ⟨h1, h2⟩ := List.mem_filter.mp he
    exact ⟨e, h1, h, of_decide_eq_true h2⟩
  · rintro ⟨e, he, h, hx⟩
    exact ⟨e, List.mem_filter.mpr ⟨he, decide_eq_true hx⟩, h⟩
theorem rise_eq : ∀ {kp : Kept}, kp.Pairwise (fun a b => a.1 < b.1) → ∀ {e e' : Nat × List Str}, e ∈ kp → e' ∈ kp → e.1 = e'.1 → e = e'
  | [], _, _, _, h, _, _ => by cases h
  | a :: kp, hp, e, e', h, h', q => by
    obtain ⟨h1, h2⟩ := List.pairwise_cons.mp hp
    rcases List.mem_cons.mp h with rfl | c
    · rcases List.mem_cons.mp h' with rfl | c'
      · rfl
      · have := h1 _ c'; omega
    · rcases List.mem_cons.mp h' with rfl | c'
      · have := h1 _ c; omega
      · exact rise_eq h2 c c' q
theorem wordsAt_of {kp : Kept} (hp : kp.Pairwise fun a b => a.1 < b.1) {e : Nat × List Str} (he : e ∈ kp) : wordsAt kp (e.1 : Int) = e.2 := by
  unfold wordsAt
  cases q : kp.find? fun e' => decide ((e'.1 : Int) = (e.1 : Int)) with
  | none =>
    have := List.find?_eq_none.mp q e he
    simp at this
  | some e' =>
    have h1 := List.find?_some q
    have h2 := List.mem_of_find?_eq_some q
    have h3 : e'.1 = e.1 := by have := of_decide_eq_true h1; omega
    rw [rise_eq hp h2 he h3]
    rfl
theorem wordsAt_none {kp : Kept} {n : Int} (h : n ∉ numsOf kp) : wordsAt kp n = [] := by
  unfold wordsAt
  rw [List.find?_eq_none.mpr]
  · rfl
  · intro e he
    simp only [decide_eq_true_eq]
    exact fun q => h (nums_mem.mpr ⟨e, he, q⟩)
theorem lin_words {kp : Kept} {g : Nat} (hr : Rise kp g) {x : Str} {n : Int} : n ∈ linOf kp x ↔ x ∈ wordsAt kp n := by
  rw [lin_mem]
  constructor
  · rintro ⟨e, he, rfl, hx⟩
    rw [wordsAt_of hr.1 he]
    exact hx
  · intro h
    by_cases hn : n ∈ numsOf kp
    · obtain ⟨e, he, rfl⟩ := nums_mem.mp hn
      rw [wordsAt_of hr.1 he] at h
      exact ⟨e, he, rfl, h⟩
    · rw [wordsAt_none hn] at h
      cases h
theorem Rise.snoc {kp : Kept} {g : Nat} (hr : Rise kp g) {ws : List Str} (hw : ws.length ≤ 20) : Rise (kp ++ [(g, ws)]) (g + 1) := by
  refine ⟨List.pairwise_append.mpr ⟨hr.1, List.pairwise_singleton _ _, fun a ha b hb => ?_⟩, fun e he => ?_⟩
  · rw [List.mem_singleton.mp hb]
    exact (hr.2 a ha).1
  · rcases List.mem_append.mp he with h | h
    · have := hr.2 e h; exact ⟨by omega, this.2⟩
    · rw [List.mem_singleton.mp h]
      exact ⟨Nat.lt_succ_self _, hw⟩
theorem Rise.not {kp : Kept} {g : Nat} (hr : Rise kp g) : ((g : Nat) : Int) ∉ numsOf kp := fun h => by
  obtain ⟨e, he, q⟩ := nums_mem.mp h
  have := (hr.2 e he).1
  omega
theorem Rise.len {kp : Kept} {g : Nat} (hr : Rise kp g) : kp.length ≤ g := by
  have h := len_sub (xs := numsOf kp) (ys := (List.range g).map fun (i : Nat) => (i : Int)) (nodup_lt hr.nums) fun n hn => by
    obtain ⟨e, he, rfl⟩ := nums_mem.mp hn
    exact List.mem_map.mpr ⟨e.1, List.mem_range.mpr (hr.2 e he).1, rfl⟩
  rw [List.length_map, List.length_range] at h
  unfold numsOf at h
  rw [List.length_map] at h
  exact h
theorem nums_len (kp : Kept) : (numsOf kp).length = kp.length := List.length_map ..
theorem lin_len {kp : Kept} {g : Nat} (hr : Rise kp g) (x : Str) : (linOf kp x).length ≤ g := by
  unfold linOf
  rw [nums_len]
  exact Nat.le_trans (List.length_filter_le _ _) hr.len
/-- all words of the lines kept -/
def allW (kp : Kept) : List Str := kp.flatMap (·.2)
theorem allW_len : ∀ {kp : Kept} {g : Nat}, (∀ e ∈ kp, e.1 < g ∧ e.2.length ≤ 20) → (allW kp).length ≤ 20 * kp.length
  | [], _, _ => Nat.le_refl _
  | e :: kp, g, h => by
    have h1 := allW_len (kp := kp) (g := g) fun e' he' => h e' (List.mem_cons_of_mem _ he')
    have h2 := (h e List.mem_cons_self).2
    show (e.2 ++ allW kp).length ≤ 20 * (kp.length + 1)
    rw [List.length_append]
    omega
theorem lin_all {kp : Kept} {x : Str} (h : linOf kp x ≠ []) : x ∈ allW kp := by
  obtain ⟨n, hn⟩ := List.exists_mem_of_ne_nil _ h
  obtain ⟨e, he, _, hx⟩ := lin_mem.mp hn
  exact List.mem_flatMap.mpr ⟨e, he, hx⟩
theorem lin_snoc (kp : Kept) (g : Nat) (ws : List Str) (x : Str) : linOf (kp ++ [(g, ws)]) x = linOf kp x ++ (if x ∈ ws then [(g : Int)] else []) := by
  unfold linOf numsOf
  rw [List.filter_append, List.map_append]
  congr 1
  by_cases h : x ∈ ws
  · simp [h]
  · simp [h]
theorem words_snoc {kp : Kept} {g : Nat} (hr : Rise kp g) {ws : List Str} (hw : ws.length ≤ 20) (n : Int) : wordsAt (kp ++ [(g, ws)]) n = if n = (g : Int) then ws else wordsAt kp n := by
  have hr' := hr.snoc hw
  by_cases h : n = (g : Int)
  · rw [if_pos h, h]
    exact wordsAt_of hr'.1 (e := (g, ws)) (by simp)
  · rw [if_neg h]
    unfold wordsAt
    rw [List.find?_append]
    cases kp.find? fun e => decide ((e.1 : Int) = n) with
    | some e => rfl
    | none => simp [Ne.symm h]
theorem lin_strike (kp : Kept) (n : Int) (x : Str) : linOf (kp.filter fun p => decide ((p.1 : Int) ≠ n)) x = (linOf kp x).filter fun m => decide (m ≠ n) := by
  unfold linOf numsOf
  rw [List.filter_map, List.filter_filter, List.filter_filter]
  congr 1
  refine List.filter_congr fun e _ => ?_
  simp only [Function.comp, Bool.and_comm]
theorem words_strike (kp : Kept) {n m : Int} (h : m ≠ n) : wordsAt (kp.filter fun p => decide ((p.1 : Int) ≠ n)) m = wordsAt kp m := by
  unfold wordsAt
  rw [List.find?_filter]
  congr 2
  congr 1
  funext e
  by_cases q : (e.1 : Int) = m
  · simp [q, h]
  · simp [q]

/-! ### what the program finds -/
def fol (os ts : List Int) (m : Int) : Bool := ts.any fun b => os.any fun a => decide (a < b ∧ b - a ≤ m)
def inRow (rows : List (List Int)) : Bool := (rows.headD []).any fun n => (List.range rows.length).all fun (j : Nat) => decide ((n + (j : Int)) ∈ rows.getD j [])
/-- how the program sees whether a line meets a question -/
def pmeets : Qu → List Str → Bool
  | .word w, ws => decide (w ∈ ws)
  | .near v w m, ws => decide (v ∈ ws) && decide (w ∈ ws) && (fol (plOf v ws) (plOf w ws) m || fol (plOf w ws) (plOf v ws) m)
  | .row rs, ws => rs.all (fun r => decide (r ∈ ws)) && inRow (rs.map fun r => plOf r ws)
  | .and q r, ws => pmeets q ws && pmeets r ws
  | .or q r, ws => pmeets q ws || pmeets r ws
  | .not q, ws => !pmeets q ws
def pfound (kp : Kept) (q : Qu) : List Int := numsOf (kp.filter fun e => pmeets q e.2)
theorem pfound_mem {kp : Kept} {q : Qu} {n : Int} : n ∈ pfound kp q ↔ ∃ e ∈ kp, (e.1 : Int) = n ∧ pmeets q e.2 = true := by
  unfold pfound
  rw [nums_mem]
  constructor
  · rintro ⟨e, he, h⟩
    obtain ⟨h1, h2⟩ := List.mem_filter.mp he
    exact ⟨e, h1, h, h2⟩
  · rintro ⟨e, he, h, hx⟩
    exact ⟨e, List.mem_filter.mpr ⟨he, hx⟩, h⟩
end DM


set_option linter.all false
set_option maxRecDepth 100000
namespace DM
open PySem L2 PyProof.Rows
/-! ### the words that a seed's line may have -/
theorem scF_word : ∀ {cs : List Nat} {l : List Str} {x : Str}, (∀ c ∈ cs, isL c = true) → scF (l, x) cs = (l, x ++ ⟨cs.toArray⟩)
  | [], l, x, _ => by
    have e : x ++ (⟨([] : List Nat).toArray⟩ : Str) = x := Str.ext' (by rw [Str.cps_append]; simp)
    rw [e]
    rfl
  | c :: cs, l, x, h => by
    show scF (KWd.step (l, x) (pl c)) cs = _
    rw [step_letter (h c List.mem_cons_self), scF_word fun c' hc => h c' (List.mem_cons_of_mem _ hc)]
    congr 1
    refine Str.ext' ?_
    rw [Str.cps_append, Str.cps_append, Str.cps_append]
    simp
theorem scF_blank0 : ∀ {cs : List Nat} {l : List Str}, (∀ c ∈ cs, isL c = false) → scF (l, Str.empty) cs = (l, Str.empty)
  | [], l, _ => rfl
  | c :: cs, l, h => by
    show scF (KWd.step (l, Str.empty) (pl c)) cs = _
    rw [step_blank (h c List.mem_cons_self)]
    show scF (if Str.empty.length = 0 then (l, Str.empty) else (l ++ [Str.empty], Str.empty)) cs = _
    rw [if_pos (show Str.empty.length = 0 from rfl)]
    exact scF_blank0 fun c' hc => h c' (List.mem_cons_of_mem _ hc)
theorem scF_blank : ∀ {cs : List Nat} {l : List Str} {x : Str}, cs ≠ [] → (∀ c ∈ cs, isL c = false) → scF (l, x) cs = (if x.length = 0 then l else l ++ [x], Str.empty)
  | [], l, x, hn, _ => absurd rfl hn
  | c :: cs, l, x, _, h => by
    show scF (KWd.step (l, x) (pl c)) cs = _
    rw [step_blank (h c List.mem_cons_self)]
    show scF (if x.length = 0 then (l, x) else (l ++ [x], Str.empty)) cs = _
    by_cases h0 : x.length = 0
    · have ex : x = Str.empty := Str.ext' (by
        have : x.cps.size = 0 := h0
        rw [Array.eq_empty_of_size_eq_zero this]
        rfl)
      rw [if_pos h0, if_pos h0, ex]
      exact scF_blank0 fun c' hc => h c' (List.mem_cons_of_mem _ hc)
    · rw [if_neg h0, if_neg h0]
      exact scF_blank0 fun c' hc => h c' (List.mem_cons_of_mem _ hc)
def univ : List Str := List.map Str.ofString ["a", "axcdefghijklmnopqrst", "b", "abcdyfghijklmnopqrst", "ab", "abcdefgxijklmnopqrst", "abcyefghijklmnopqrst", "c", "abcdefxhijklmnopqrst", "abcdefghiyklmnopqrst", "bqu", "cab", "dz", "e", "abcdefghijklxnopqrst", "gab", "hz", "i", "jqu", "kab", "lz", "m", "nqu", "oab", "pz", "q", "rqu", "sab", "tz", "u", "vqu", "wab", "xz", "y", "zqu", "aab", "bz", "abcdefghyjklmnopqrst", "dqu", "eab", "", "abcdefghijkxmnopqrst"]
theorem univ_all : ∀ (r : Fin 7) (q : Fin 31), univ.any (fun u => u == wordBy ((r.val : Int) + 56 * (q.val : Int))) = true := by decide +kernel
theorem univ_word {n : Int} (h0 : 0 ≤ n) (h1 : n ≤ 1950) : wordBy (n % 7 + 56 * (n / 63)) ∈ univ := by
  have a1 := Int.emod_nonneg n (show (7 : Int) ≠ 0 by decide)
  have a2 := Int.emod_lt_of_pos n (show (0 : Int) < 7 by decide)
  have h := univ_all ⟨(n % 7).toNat, by omega⟩ ⟨(n / 63).toNat, by omega⟩
  have e1 : (((n % 7).toNat : Nat) : Int) = n % 7 := by omega
  have e2 : (((n / 63).toNat : Nat) : Int) = n / 63 := by omega
  dsimp only at h
  rw [e1, e2] at h
  obtain ⟨u, hu, e⟩ := List.any_eq_true.mp h
  rw [← beq_iff_eq.mp e]
  exact hu
theorem sep_ne : ∀ k : Fin 9, (pick sep (k.val : Int)).cps.toList ≠ [] := by decide +kernel
theorem line_univ {s : Int} (h0 : 0 ≤ s) (h1 : s ≤ 1433) : ∀ i, i ≤ 20 → 0 ≤ (lineAt s i).1 ∧ (lineAt s i).1 ≤ 1950 ∧ (sc (lineAt s i).2.cps.toList).2 = Str.empty ∧ ∀ x ∈ (sc (lineAt s i).2.cps.toList).1, x ∈ univ
  | 0, _ => by
    show 0 ≤ s / 3 ∧ s / 3 ≤ 1950 ∧ (sc (pick hd3 (s / 6 % 3)).cps.toList).2 = Str.empty ∧ ∀ x ∈ (sc (pick hd3 (s / 6 % 3)).cps.toList).1, x ∈ univ
    have e := scF_blank0 (l := []) fun c hc => (goodS_sign (good_hd (s / 6)) c hc).2
    unfold sc
    rw [e]
    exact ⟨by omega, by omega, rfl, fun x hx => by cases hx⟩
  | i + 1, hi => by
    obtain ⟨b0, b1, b2, b3⟩ := line_univ h0 h1 i (by omega)
    show 0 ≤ (lineAt s i).1 / 5 + 3 * (i : Int) + s ∧ (lineAt s i).1 / 5 + 3 * (i : Int) + s ≤ 1950 ∧ _
    refine ⟨by omega, by omega, ?_⟩
    have hu := univ_word b0 b1
    have hw := word_signs ((lineAt s i).1 % 7 + 56 * ((lineAt s i).1 / 63))
    show (sc ((lineAt s i).2 ++ wordBy ((lineAt s i).1 % 7 + 56 * ((lineAt s i).1 / 63)) ++ pick sep ((lineAt s i).1 / 7 % 9)).cps.toList).2 = Str.empty ∧ ∀ x ∈ (sc ((lineAt s i).2 ++ wordBy ((lineAt s i).1 % 7 + 56 * ((lineAt s i).1 / 63)) ++ pick sep ((lineAt s i).1 / 7 % 9)).cps.toList).1, x ∈ univ
    have hs := fun c hc => (goodS_sign (good_sep ((lineAt s i).1 / 7)) c hc).2
    have hn : (pick sep ((lineAt s i).1 / 7 % 9)).cps.toList ≠ [] := by
      obtain ⟨j, ej, hj⟩ := mod_nat ((lineAt s i).1 / 7) (m := 9) (by decide)
      rw [ej]
      exact sep_ne ⟨j, by omega⟩
    generalize wordBy ((lineAt s i).1 % 7 + 56 * ((lineAt s i).1 / 63)) = y at hu hw ⊢
    generalize pick sep ((lineAt s i).1 / 7 % 9) = z at hs hn ⊢
    generalize (lineAt s i).2 = ln at b2 b3 ⊢
    rw [app_list, app_list]
    unfold sc at b2 b3 ⊢
    rw [scF_append, scF_append]
    have e0 : scF ([], Str.empty) ln.cps.toList = ((scF ([], Str.empty) ln.cps.toList).1, Str.empty) := Prod.ext rfl b2
    rw [e0]
    rcases hw with hw | hw
    · rw [scF_word hw, scF_blank hn hs]
      refine ⟨rfl, fun x hx => ?_⟩
      have ey : Str.empty ++ (⟨y.cps.toList.toArray⟩ : Str) = y := Str.ext' (by
        rw [Str.cps_append]
        simp [Str.empty])
      rw [ey] at hx
      by_cases hy : y.length = 0
      · rw [if_pos hy] at hx
        exact b3 x hx
      · rw [if_neg hy] at hx
        rcases List.mem_append.mp hx with h | h
        · exact b3 x h
        · rw [List.mem_singleton.mp h]; exact hu
    · have hB : ∀ c ∈ y.cps.toList, isL c = false := by rw [hw]; decide +kernel
      rw [scF_blank0 hB, scF_blank0 hs]
      exact ⟨rfl, b3⟩
theorem words_univ {s : Int} (h0 : 0 ≤ s) (h1 : s ≤ 1433) : ∀ x ∈ linesWords (lineBy s), x ∈ univ := by
  have hm := many_le s
  obtain ⟨_, _, h2, h3⟩ := line_univ h0 h1 (manyBy s).toNat (by omega)
  intro x hx
  have e : linesWords (lineBy s) = (sc (lineAt s (manyBy s).toNat).2.cps.toList).1 := by
    show KWd.fin (sc (lineAt s (manyBy s).toNat).2.cps.toList) = _
    unfold KWd.fin
    rw [h2]
    rfl
  rw [e] at hx
  exact h3 x hx

/-! ### what the deeds keep to -/
theorem made_len (cs : List Int) : ∀ i, (dAt cs i).made.length = i
  | 0 => rfl
  | i + 1 => by
    show (dStep _ _ (dAt cs i)).made.length = i + 1
    unfold dStep
    split
    · simp [made_len cs i]
    · split
      · simp [made_len cs i]
      · split <;> simp [made_len cs i]
theorem said_len (cs : List Int) : ∀ i, (dAt cs i).said.length ≤ 20
  | 0 => by show 0 ≤ 20; omega
  | i + 1 => by
    have := said_len cs i
    show (dStep _ _ (dAt cs i)).said.length ≤ 20
    unfold dStep
    split
    · exact line_words _
    · split
      · exact this
      · split <;> exact this
theorem cut_ne {said : List Str} (h : said ≠ []) (s : Int) : saidRow s said ≠ [] := by
  unfold saidRow cut
  have hp : 0 < said.length := List.length_pos_iff.mpr h
  obtain ⟨j, ej, hj⟩ := mod_nat (s / 9) (m := (said.length : Int)) (by omega)
  obtain ⟨k, ek, hk⟩ := mod_nat (s / 11) (m := 5) (by decide)
  rw [ej, ek]
  have e1 : (j : Int) + 2 + (k : Int) = ((j + 2 + k : Nat) : Int) := by omega
  rw [e1, HT.sIx_nat, HT.sIx_nat]
  intro z
  have := congrArg List.length z
  rw [List.length_take, List.length_drop, List.length_nil] at this
  omega
theorem wordsBy_ok (s : Int) : wordsBy s ≠ [] ∧ (wordsBy s).length ≤ 20 := by
  unfold wordsBy
  obtain ⟨k, ek, hk⟩ := mod_nat (s / 11) (m := 3) (by decide)
  have e1 : 1 + s / 11 % 3 = ((1 + k : Nat) : Int) := by omega
  rw [e1]
  constructor
  · unfold cut
    rw [HT.sIx_nat]
    intro z
    have := congrArg List.length z
    rw [List.length_take, List.length_drop, List.length_nil] at this
    have e2 : HT.sIx [wordBy (s / 3), wordBy (s / 5 + 1), wordBy (s / 4)].length 0 none = 0 := rfl
    rw [e2] at this
    simp at this
  · have := cut_len [wordBy (s / 3), wordBy (s / 5 + 1), wordBy (s / 4)] none (some ((1 + k : Nat) : Int))
    rw [show [wordBy (s / 3), wordBy (s / 5 + 1), wordBy (s / 4)].length = 3 from rfl] at this
    omega
theorem quBy_ok (s : Int) : OkQ (quBy s) ∧ (quBy s).depth ≤ 5 := by
  have h3 : OkQ (threeBy s) := ⟨(wordsBy_ok s).1, (wordsBy_ok s).2, trivial⟩
  have hall : ∀ q ∈ menuBy s, OkQ q ∧ q.depth ≤ 5 := by
    intro q hq
    simp only [menuBy, List.mem_cons, List.not_mem_nil, or_false] at hq
    rcases hq with rfl | rfl | rfl | rfl | rfl | rfl | rfl | rfl | rfl | rfl <;>
      simp [OkQ, Qu.depth, oneBy, twoBy, threeBy] <;> first | exact ⟨(wordsBy_ok s).1, (wordsBy_ok s).2⟩ | trivial
  refine hall _ (pick_mem ?_ ?_)
  · exact Int.emod_nonneg _ (by decide)
  · have := Int.emod_lt_of_pos (s / 13) (show (0 : Int) < 10 by decide)
    show _ < ((10 : Nat) : Int)
    omega
theorem made_mem {cs : List Int} : ∀ {i : Nat} {d : Deed}, d ∈ (dAt cs i).made → ∃ j, j < i ∧ ((d = .put (lineBy (seedOf (cs.getD j 0) j))) ∨ (∃ n, d = .strike n) ∨ ∃ q, d = .ask q ∧ OkQ q ∧ q.depth ≤ 5)
  | 0, d, h => by cases h
  | i + 1, d, h => by
    have hs : d ∈ (dStep (turnOf (cs.getD i 0) i) (seedOf (cs.getD i 0) i) (dAt cs i)).made := h
    have old : d ∈ (dAt cs i).made → ∃ j, j < i + 1 ∧ ((d = .put (lineBy (seedOf (cs.getD j 0) j))) ∨ (∃ n, d = .strike n) ∨ ∃ q, d = .ask q ∧ OkQ q ∧ q.depth ≤ 5) := fun h => by
      obtain ⟨j, hj, q⟩ := made_mem h
      exact ⟨j, by omega, q⟩
    unfold dStep at hs
    split at hs
    · rcases List.mem_append.mp hs with h | h
      · exact old h
      · exact ⟨i, by omega, .inl (List.mem_singleton.mp h)⟩
    · split at hs
      · rcases List.mem_append.mp hs with h | h
        · exact old h
        · exact ⟨i, by omega, .inr (.inl ⟨_, List.mem_singleton.mp h⟩)⟩
      · split at hs
        · rename_i hc
          rcases List.mem_append.mp hs with h | h
          · exact old h
          · refine ⟨i, by omega, .inr (.inr ⟨_, List.mem_singleton.mp h, ⟨cut_ne hc.2 _, ?_, trivial⟩, ?_⟩)⟩
            · exact Nat.le_trans (cut_len _ _ _) (said_len cs i)
            · show 0 ≤ 5; omega
        · rcases List.mem_append.mp hs with h | h
          · exact old h
          · exact ⟨i, by omega, .inr (.inr ⟨_, List.mem_singleton.mp h, quBy_ok _⟩)⟩
theorem seed_bound {c : Int} {i : Nat} (h : i ≤ 62) : 0 ≤ seedOf c i ∧ seedOf c i ≤ 1433 := by
  unfold seedOf
  have a := Int.emod_nonneg (c / 8) (show (1000 : Int) ≠ 0 by decide)
  have b := Int.emod_lt_of_pos (c / 8) (show (0 : Int) < 1000 by decide)
  omega
theorem sh_cnt (ds : List Deed) : ∀ i, (shAt ds i).2 ≤ i
  | 0 => Nat.le_refl _
  | i + 1 => by
    have := sh_cnt ds i
    show (match ds[i]? with | some d => (kAfter (shAt ds i).1 (shAt ds i).2 d, cAfter (shAt ds i).2 d) | none => shAt ds i).2 ≤ i + 1
    cases ds[i]? with
    | none => show (shAt ds i).2 ≤ i + 1; omega
    | some d => cases d <;> simp [cAfter] <;> omega
theorem made_ok {cs : List Int} (h : cs.length ≤ 63) : OkDs (deedsBy cs) := by
  have hl : (deedsBy cs).length = cs.length := made_len cs cs.length
  refine ⟨fun d hd => ?_, by omega, ?_⟩
  · obtain ⟨j, hj, q⟩ := made_mem hd
    rcases q with rfl | ⟨n, rfl⟩ | ⟨q, rfl, h1, h2⟩
    · exact ⟨line_len _, line_asc _, line_words _⟩
    · trivial
    · exact ⟨h1, h2⟩
  · have := sh_cnt (deedsBy cs) (deedsBy cs).length
    omega
theorem kept_univ {cs : List Int} (h : cs.length ≤ 63) : ∀ i, ∀ e ∈ (shAt (deedsBy cs) i).1, ∀ x ∈ e.2, x ∈ univ
  | 0, e, he => by cases he
  | i + 1, e, he => by
    have ih := kept_univ h i
    have he' : e ∈ (match (deedsBy cs)[i]? with | some d => (kAfter (shAt (deedsBy cs) i).1 (shAt (deedsBy cs) i).2 d, cAfter (shAt (deedsBy cs) i).2 d) | none => shAt (deedsBy cs) i).1 := he
    cases q : (deedsBy cs)[i]? with
    | none => rw [q] at he'; exact ih e he'
    | some d =>
      rw [q] at he'
      have hd : d ∈ deedsBy cs := List.mem_of_getElem? q
      cases d with
      | put l =>
        rcases List.mem_append.mp he' with h1 | h1
        · exact ih e h1
        · rw [List.mem_singleton.mp h1]
          obtain ⟨j, hj, hq⟩ := made_mem hd
          rcases hq with hq | ⟨n, hq⟩ | ⟨_, hq, _⟩
          · cases hq
            have hb := seed_bound (c := cs.getD j 0) (i := j) (by omega)
            exact words_univ hb.1 hb.2
          · cases hq
          · cases hq
      | strike n => exact ih e (List.mem_filter.mp he').1
      | ask q => exact ih e he'
theorem few_words {cs : List Int} (h : cs.length ≤ 63) (i : Nat) (xs : List Str) (hn : xs.Nodup) (hx : ∀ x, x ∈ xs → x ∈ allW (shAt (deedsBy cs) i).1) : xs.length < 64 := by
  have := len_sub (ys := univ) hn fun x hxx => by
    obtain ⟨e, he, h1⟩ := List.mem_flatMap.mp (hx x hxx)
    exact kept_univ h i e he x h1
  have : univ.length = 42 := by decide +kernel
  omega
end DM


set_option linter.all false
set_option maxRecDepth 100000
namespace DM
open PySem L2 PyProof.Rows

/-! ### dicts by keys and addresses -/
def kM {α : Type} (f : α → Key) (ks : List α) (A : α → Addr) : List (Key × V) := ks.map fun k => (f k, V.ref (A k))
section
variable {α : Type} [DecidableEq α] {f : α → Key} {ks : List α} {A : α → Addr} {y : α} {d : Addr}
theorem kM_len : (kM f ks A).length = ks.length := List.length_map ..
theorem kM_keys : (kM f ks A).map (·.1) = ks.map f := by unfold kM; rw [List.map_map]; rfl
theorem val_kM (hf : ∀ a b, f a = f b → a = b) : valV (kM f ks A) (f y) = if y ∈ ks then some (.ref (A y)) else none := by
  induction ks with
  | nil => rfl
  | cons k ks ih =>
    show valV ((f k, V.ref (A k)) :: kM f ks A) (f y) = _
    by_cases e : k = y
    · subst e
      rw [valV_pos rfl, if_pos List.mem_cons_self]
    · rw [valV_neg (fun q => e (hf _ _ q)), ih]
      by_cases h : y ∈ ks
      · rw [if_pos h, if_pos (List.mem_cons_of_mem _ h)]
      · rw [if_neg h, if_neg (fun q => (List.mem_cons.mp q).elim (fun z => e z.symm) h)]
def setA (A : α → Addr) (y : α) (d : Addr) : α → Addr := fun x => if x = y then d else A x
theorem setA_same : setA A y d y = d := if_pos rfl
theorem setA_ne {x : α} (h : x ≠ y) : setA A y d x = A x := if_neg h
theorem kM_congr {B : α → Addr} (h : ∀ x ∈ ks, A x = B x) : kM f ks A = kM f ks B := List.map_congr_left fun x hx => by rw [h x hx]
theorem put_kM (hf : ∀ a b, f a = f b → a = b) (h : y ∉ ks) : putK (kM f ks A) (f y) (.ref d) = kM f (ks ++ [y]) (setA A y d) := by
  rw [putK_new _ (by rw [val_kM hf, if_neg h])]
  have e : kM f (ks ++ [y]) (setA A y d) = kM f ks (setA A y d) ++ [(f y, V.ref (setA A y d y))] := by
    unfold kM
    rw [List.map_append]
    rfl
  rw [e, setA_same, kM_congr (A := A) (B := setA A y d) fun x hx => (setA_ne (show x ≠ y from fun q => h (q ▸ hx))).symm]
theorem drop_kM (hf : ∀ a b, f a = f b → a = b) : dropK (kM f ks A) (f y) = kM f (ks.filter fun k => decide (k ≠ y)) A := by
  unfold dropK kM
  rw [List.filter_map]
  congr 1
  refine List.filter_congr fun k _ => ?_
  show decide (f k ≠ f y) = _
  by_cases h : k = y
  · subst h; simp
  · have : f k ≠ f y := fun q => h (hf _ _ q)
    simp [h, this]
end
theorem inl_inj : ∀ a b : Int, (Sum.inl a : Key) = Sum.inl b → a = b := fun _ _ h => Sum.inl.inj h
theorem inr_inj : ∀ a b : Str, (Sum.inr a : Key) = Sum.inr b → a = b := fun _ _ h => Sum.inr.inj h

/-! ### the index of a shelf, in the heap -/
structure PlAt (Hr H : Hp) (dp : Addr) (ws : List Str) (WA : Str → Addr) (LA : Str → Int → Addr) (lin : Str → List Int) (plc : Str → Int → List Int) : Prop where
  s : Same Hr H
  hp : H dp = some (.dK (kM Sum.inr ws WA))
  nd : ws.Nodup
  mem : ∀ x, lin x ≠ [] → x ∈ ws
  hd : ∀ x, x ∈ ws → H (WA x) = some (.dK (kM Sum.inl (lin x) (LA x)))
  hl : ∀ x, x ∈ ws → ∀ n, n ∈ lin x → H (LA x n) = some (.lst ((plc x n).map V.int))
  w0 : ∀ x, x ∈ ws → WA x ≠ dp
  wi : ∀ x y, x ∈ ws → y ∈ ws → WA x = WA y → x = y
  li : ∀ x y, x ∈ ws → y ∈ ws → ∀ n m, n ∈ lin x → m ∈ lin y → LA x n = LA y m → x = y ∧ n = m
  f0 : Hr dp = none
  f1 : ∀ x, x ∈ ws → Hr (WA x) = none
  f2 : ∀ x, x ∈ ws → ∀ n, n ∈ lin x → Hr (LA x n) = none
section
variable {Hr H H' : Hp} {dp a d0 l0 : Addr} {ws : List Str} {WA : Str → Addr} {LA : Str → Int → Addr} {lin : Str → List Int} {plc : Str → Int → List Int} {o o' : HO} {y : Str} {g : Int}
theorem PlAt.same (S : PlAt Hr H dp ws WA LA lin plc) (e : Same H H') : PlAt Hr H' dp ws WA LA lin plc :=
  ⟨S.s.trans e, e _ _ S.hp, S.nd, S.mem, fun x hx => e _ _ (S.hd x hx), fun x hx n hn => e _ _ (S.hl x hx n hn), S.w0, S.wi, S.li, S.f0, S.f1, S.f2⟩
theorem PlAt.congr {lin' : Str → List Int} {plc' : Str → Int → List Int} (S : PlAt Hr H dp ws WA LA lin plc) (e1 : ∀ x, lin x = lin' x) (e2 : ∀ x n, n ∈ lin x → plc x n = plc' x n) : PlAt Hr H dp ws WA LA lin' plc' := by
  have : lin = lin' := funext e1
  subst this
  exact ⟨S.s, S.hp, S.nd, S.mem, S.hd, fun x hx n hn => by rw [← e2 x n hn]; exact S.hl x hx n hn, S.w0, S.wi, S.li, S.f0, S.f1, S.f2⟩
theorem PlAt.upd (S : PlAt Hr H dp ws WA LA lin plc) (ha : Hr a = some o) : PlAt (upd Hr a o') (upd H a o') dp ws WA LA lin plc := by
  have n0 : dp ≠ a := (ne_of_none ha S.f0).symm
  have n1 : ∀ x, x ∈ ws → WA x ≠ a := fun x hx => (ne_of_none ha (S.f1 x hx)).symm
  have n2 : ∀ x, x ∈ ws → ∀ n, n ∈ lin x → LA x n ≠ a := fun x hx n hn => (ne_of_none ha (S.f2 x hx n hn)).symm
  refine ⟨fun b u h => ?_, by rw [upd_ne n0]; exact S.hp, S.nd, S.mem, fun x hx => by rw [upd_ne (n1 x hx)]; exact S.hd x hx, fun x hx n hn => by rw [upd_ne (n2 x hx n hn)]; exact S.hl x hx n hn, S.w0, S.wi, S.li, by rw [upd_ne n0]; exact S.f0, fun x hx => by rw [upd_ne (n1 x hx)]; exact S.f1 x hx, fun x hx n hn => by rw [upd_ne (n2 x hx n hn)]; exact S.f2 x hx n hn⟩
  by_cases hb : b = a
  · subst hb
    rw [upd_same] at h ⊢
    exact h
  · rw [upd_ne hb] at h ⊢
    exact S.s b u h
theorem PlAt.grow (S : PlAt Hr H dp ws WA LA lin plc) (e : Same H H') (hn : H a = none) (ha : H' a = some o) : PlAt (L2.upd Hr a o) H' dp ws WA LA lin plc := by
  have S' := S.same e
  have n0 : dp ≠ a := ne_of_none S.hp hn
  have n1 : ∀ x, x ∈ ws → WA x ≠ a := fun x hx => ne_of_none (S.hd x hx) hn
  have n2 : ∀ x, x ∈ ws → ∀ n, n ∈ lin x → LA x n ≠ a := fun x hx n hn' => ne_of_none (S.hl x hx n hn') hn
  refine ⟨fun b u h => ?_, S'.hp, S.nd, S.mem, S'.hd, S'.hl, S.w0, S.wi, S.li, by rw [upd_ne n0]; exact S.f0, fun x hx => by rw [upd_ne (n1 x hx)]; exact S.f1 x hx, fun x hx n hn => by rw [upd_ne (n2 x hx n hn)]; exact S.f2 x hx n hn⟩
  by_cases hb : b = a
  · subst hb
    rw [upd_same] at h
    rw [ha]
    exact h
  · rw [upd_ne hb] at h
    exact S'.s b u h
theorem PlAt.free (S : PlAt Hr H dp ws WA LA lin plc) (hn : H d0 = none) : Hr d0 = none := S.s.free hn
/-- a write at an address that Hr does not know -/
theorem same_off (s : Same Hr H) (hn : Hr a = none) : Same Hr (L2.upd H a o) := fun b u h => by
  rw [upd_ne (ne_of_none h hn)]
  exact s b u h
/-- a word more, in no line yet -/
theorem PlAt.word (S : PlAt Hr H dp ws WA LA lin plc) (hy : y ∉ ws) (hn : H d0 = none) :
    PlAt Hr (L2.upd (L2.upd H d0 (.dK [])) dp (.dK (kM Sum.inr (ws ++ [y]) (setA WA y d0)))) dp (ws ++ [y]) (setA WA y d0) LA lin plc := by
  have ly : lin y = [] := Classical.byContradiction fun h => hy (S.mem y h)
  have n0 : dp ≠ d0 := ne_of_none S.hp hn
  have xy : ∀ x, x ∈ ws → x ≠ y := fun x hx e => hy (e ▸ hx)
  have n1 : ∀ x, x ∈ ws → WA x ≠ d0 := fun x hx => ne_of_none (S.hd x hx) hn
  have n2 : ∀ x, x ∈ ws → ∀ n, n ∈ lin x → LA x n ≠ d0 := fun x hx n hn' => ne_of_none (S.hl x hx n hn') hn
  have n3 : ∀ x, x ∈ ws → ∀ n, n ∈ lin x → LA x n ≠ dp := fun x hx n hn' => ne_of (S.hl x hx n hn') S.hp (by intro z; cases z)
  have cs : ∀ {x}, x ∈ ws ++ [y] → x ∈ ws ∨ x = y := fun hx => (List.mem_append.mp hx).imp id List.mem_singleton.mp
  refine ⟨same_off (same_off S.s (S.free hn)) S.f0, upd_same, ?_, fun x h => List.mem_append_left _ (S.mem x h), fun x hx => ?_, fun x hx n hn' => ?_, fun x hx => ?_, fun x z hx hz e => ?_, fun x z hx hz n m h1 h2 e => ?_, S.f0, fun x hx => ?_, fun x hx n h => ?_⟩
  · exact List.nodup_append.mpr ⟨S.nd, by simp, fun a ha b hb e => hy (by rw [← List.mem_singleton.mp hb, ← e]; exact ha)⟩
  · rcases cs hx with h | h
    · rw [setA_ne (xy x h), upd_ne (S.w0 x h), upd_ne (n1 x h)]
      exact S.hd x h
    · subst h
      rw [setA_same, upd_ne n0.symm, upd_same, ly]
      rfl
  · rcases cs hx with h | h
    · rw [upd_ne (n3 x h n hn'), upd_ne (n2 x h n hn')]
      exact S.hl x h n hn'
    · subst h; rw [ly] at hn'; cases hn'
  · rcases cs hx with h | h
    · rw [setA_ne (xy x h)]; exact S.w0 x h
    · subst h; rw [setA_same]; exact n0.symm
  · rcases cs hx with h | h
    · rcases cs hz with k | k
      · rw [setA_ne (xy x h), setA_ne (xy z k)] at e
        exact S.wi x z h k e
      · subst k
        rw [setA_ne (xy x h), setA_same] at e
        exact absurd e (n1 x h)
    · subst h
      rcases cs hz with k | k
      · rw [setA_same, setA_ne (xy z k)] at e
        exact absurd e.symm (n1 z k)
      · exact k.symm
  · rcases cs hx with h | h
    · rcases cs hz with k | k
      · exact S.li x z h k n m h1 h2 e
      · subst k; rw [ly] at h2; cases h2
    · subst h; rw [ly] at h1; cases h1
  · rcases cs hx with h | h
    · rw [setA_ne (xy x h)]; exact S.f1 x h
    · subst h; rw [setA_same]; exact S.free hn
  · rcases cs hx with k | k
    · exact S.f2 x k n h
    · subst k; rw [ly] at h; cases h
def setL (LA : Str → Int → Addr) (y : Str) (g : Int) (l : Addr) : Str → Int → Addr := fun x n => if x = y ∧ n = g then l else LA x n
def setN (lin : Str → List Int) (y : Str) (v : List Int) : Str → List Int := fun x => if x = y then v else lin x
def setP (plc : Str → Int → List Int) (y : Str) (g : Int) (v : List Int) : Str → Int → List Int := fun x n => if x = y ∧ n = g then v else plc x n
/-- a line more for a word, no place yet -/
theorem PlAt.line (S : PlAt Hr H dp ws WA LA lin plc) (hy : y ∈ ws) (hg : g ∉ lin y) (hn : H l0 = none) :
    PlAt Hr (L2.upd (L2.upd H l0 (.lst [])) (WA y) (.dK (kM Sum.inl (lin y ++ [g]) (setA (LA y) g l0)))) dp ws WA (setL LA y g l0) (setN lin y (lin y ++ [g])) (setP plc y g []) := by
  have n0 : dp ≠ l0 := ne_of_none S.hp hn
  have n1 : ∀ x, x ∈ ws → WA x ≠ l0 := fun x hx => ne_of_none (S.hd x hx) hn
  have n2 : ∀ x, x ∈ ws → ∀ n, n ∈ lin x → LA x n ≠ l0 := fun x hx n hn' => ne_of_none (S.hl x hx n hn') hn
  have n3 : ∀ x, x ∈ ws → ∀ n, n ∈ lin x → LA x n ≠ WA y := fun x hx n hn' => ne_of (S.hl x hx n hn') (S.hd y hy) (by intro z; cases z)
  have eL : setL LA y g l0 y = setA (LA y) g l0 := by
    funext n
    unfold setL setA
    simp
  have eL' : ∀ x, x ≠ y → setL LA y g l0 x = LA x := fun x hx => by
    funext n
    unfold setL
    rw [if_neg (fun z => hx z.1)]
  have eN : setN lin y (lin y ++ [g]) y = lin y ++ [g] := if_pos rfl
  have eN' : ∀ x, x ≠ y → setN lin y (lin y ++ [g]) x = lin x := fun x hx => if_neg hx
  have cs : ∀ {x n}, n ∈ setN lin y (lin y ++ [g]) x → n ∈ lin x ∧ setL LA y g l0 x n = LA x n ∧ setP plc y g [] x n = plc x n ∨ x = y ∧ n = g ∧ setL LA y g l0 x n = l0 ∧ setP plc y g [] x n = [] := fun {x n} h => by
    by_cases e : x = y ∧ n = g
    · obtain ⟨rfl, rfl⟩ := e
      exact .inr ⟨rfl, rfl, if_pos ⟨rfl, rfl⟩, if_pos ⟨rfl, rfl⟩⟩
    · refine .inl ⟨?_, if_neg e, if_neg e⟩
      by_cases q : x = y
      · subst q
        rw [eN] at h
        rcases List.mem_append.mp h with k | k
        · exact k
        · exact absurd ⟨rfl, List.mem_singleton.mp k⟩ e
      · rw [eN' x q] at h; exact h
  refine ⟨same_off (same_off S.s (S.free hn)) (S.f1 y hy), by rw [upd_ne (S.w0 y hy).symm, upd_ne n0]; exact S.hp, S.nd, fun x h => ?_, fun x hx => ?_, fun x hx n hn' => ?_, S.w0, S.wi, fun x z hx hz n m h1 h2 e => ?_, S.f0, S.f1, fun x hx n h => ?_⟩
  · by_cases q : x = y
    · subst q; exact hy
    · rw [eN' x q] at h; exact S.mem x h
  · by_cases q : x = y
    · subst q; rw [upd_same, eN, eL]
    · have hw : WA x ≠ WA y := fun e => q (S.wi x y hx hy e)
      rw [upd_ne hw, upd_ne (n1 x hx), eN' x q, eL' x q]
      exact S.hd x hx
  · rcases cs hn' with ⟨h1, h2, h3⟩ | ⟨rfl, rfl, h2, h3⟩
    · rw [h2, h3, upd_ne (n3 x hx n h1), upd_ne (n2 x hx n h1)]
      exact S.hl x hx n h1
    · rw [h2, h3, upd_ne (n1 x hx).symm, upd_same]
      rfl
  · rcases cs h1 with ⟨a1, a2, _⟩ | ⟨rfl, rfl, a2, _⟩
    · rcases cs h2 with ⟨b1, b2, _⟩ | ⟨rfl, rfl, b2, _⟩
      · rw [a2, b2] at e; exact S.li x z hx hz n m a1 b1 e
      · rw [a2, b2] at e; exact absurd e (n2 x hx n a1)
    · rcases cs h2 with ⟨b1, b2, _⟩ | ⟨rfl, rfl, b2, _⟩
      · rw [a2, b2] at e; exact absurd e.symm (n2 z hz m b1)
      · exact ⟨rfl, rfl⟩
  · rcases cs h with ⟨a1, a2, _⟩ | ⟨rfl, rfl, a2, _⟩
    · rw [a2]; exact S.f2 x hx n a1
    · rw [a2]; exact S.free hn
/-- other places of a word in a line -/
theorem PlAt.place (S : PlAt Hr H dp ws WA LA lin plc) (hy : y ∈ ws) (hg : g ∈ lin y) (v : List Int) :
    PlAt Hr (L2.upd H (LA y g) (.lst (v.map V.int))) dp ws WA LA lin (setP plc y g v) := by
  have hL := S.hl y hy g hg
  refine ⟨same_off S.s (S.f2 y hy g hg), by rw [upd_ne (ne_of S.hp hL (by intro z; cases z))]; exact S.hp, S.nd, S.mem, fun x hx => by rw [upd_ne (ne_of (S.hd x hx) hL (by intro z; cases z))]; exact S.hd x hx, fun x hx n hn => ?_, S.w0, S.wi, S.li, S.f0, S.f1, S.f2⟩
  by_cases e : x = y ∧ n = g
  · obtain ⟨rfl, rfl⟩ := e
    rw [upd_same, show setP plc x n v x n = v from if_pos ⟨rfl, rfl⟩]
  · rw [upd_ne (fun q => e (S.li x y hx hy n g hn hg q)), show setP plc y g v x n = plc x n from if_neg e]
    exact S.hl x hx n hn
/-- fewer lines for a word -/
theorem PlAt.unline {ls : List Int} (S : PlAt Hr H dp ws WA LA lin plc) (hy : y ∈ ws) (hs : ∀ n, n ∈ ls → n ∈ lin y) :
    PlAt Hr (L2.upd H (WA y) (.dK (kM Sum.inl ls (LA y)))) dp ws WA LA (setN lin y ls) plc := by
  have hW := S.hd y hy
  have eN : setN lin y ls y = ls := if_pos rfl
  have eN' : ∀ x, x ≠ y → setN lin y ls x = lin x := fun x hx => if_neg hx
  have sub : ∀ {x n}, n ∈ setN lin y ls x → n ∈ lin x := fun {x n} h => by
    by_cases q : x = y
    · subst q; rw [eN] at h; exact hs n h
    · rw [eN' x q] at h; exact h
  refine ⟨same_off S.s (S.f1 y hy), by rw [upd_ne (S.w0 y hy).symm]; exact S.hp, S.nd, fun x h => ?_, fun x hx => ?_, fun x hx n hn => ?_, S.w0, S.wi, fun x z hx hz n m h1 h2 e => S.li x z hx hz n m (sub h1) (sub h2) e, S.f0, S.f1, fun x hx n h => S.f2 x hx n (sub h)⟩
  · by_cases q : x = y
    · subst q; exact hy
    · rw [eN' x q] at h; exact S.mem x h
  · by_cases q : x = y
    · subst q; rw [upd_same, eN]
    · rw [upd_ne (fun e => q (S.wi x y hx hy e)), eN' x q]
      exact S.hd x hx
  · have h1 := S.hl x hx n (sub hn)
    rw [upd_ne (ne_of h1 hW (by intro z; cases z))]
    exact h1
/-- a word fewer -/
theorem PlAt.unword (S : PlAt Hr H dp ws WA LA lin plc) (hy : lin y = []) :
    PlAt Hr (L2.upd H dp (.dK (kM Sum.inr (ws.filter fun x => decide (x ≠ y)) WA))) dp (ws.filter fun x => decide (x ≠ y)) WA LA lin plc := by
  have sub : ∀ {x}, x ∈ ws.filter (fun x => decide (x ≠ y)) → x ∈ ws := fun h => (List.mem_filter.mp h).1
  refine ⟨same_off S.s S.f0, upd_same, S.nd.filter _, fun x h => List.mem_filter.mpr ⟨S.mem x h, decide_eq_true fun e => h (by rw [e]; exact hy)⟩, fun x hx => by rw [upd_ne (S.w0 x (sub hx))]; exact S.hd x (sub hx), fun x hx n hn => ?_, fun x hx => S.w0 x (sub hx), fun x z hx hz e => S.wi x z (sub hx) (sub hz) e, fun x z hx hz n m h1 h2 e => S.li x z (sub hx) (sub hz) n m h1 h2 e, S.f0, fun x hx => S.f1 x (sub hx), fun x hx n h => S.f2 x (sub hx) n h⟩
  have h1 := S.hl x (sub hx) n hn
  rw [upd_ne (ne_of h1 S.hp (by intro z; cases z))]
  exact h1
end

/-! ### a shelf in the heap -/
theorem nKG : ¬ (("given" : Str) = "kept") := by decide +kernel
theorem nPG : ¬ (("given" : Str) = "places") := by decide +kernel
theorem nPK : ¬ (("kept" : Str) = "places") := by decide +kernel
def flds (g : Nat) (dk dp : Addr) : List (Str × V) := [("given", V.int g), ("kept", V.ref dk), ("places", V.ref dp)]
theorem fl_g (g : Nat) (dk dp : Addr) : (flds g dk dp).lookup ("given" : Str) = some (.int g) := by
  unfold flds; rw [List.lookup_cons_self]
theorem fl_k (g : Nat) (dk dp : Addr) : (flds g dk dp).lookup ("kept" : Str) = some (.ref dk) := by
  have h1 : (("kept" : Str) == "given") = false := beq_eq_false_iff_ne.mpr (Ne.symm nKG)
  unfold flds
  rw [List.lookup_cons, h1]
  exact List.lookup_cons_self
theorem fl_p (g : Nat) (dk dp : Addr) : (flds g dk dp).lookup ("places" : Str) = some (.ref dp) := by
  have h1 : (("places" : Str) == "given") = false := beq_eq_false_iff_ne.mpr (Ne.symm nPG)
  have h2 : (("places" : Str) == "kept") = false := beq_eq_false_iff_ne.mpr (Ne.symm nPK)
  unfold flds
  rw [List.lookup_cons, h1]
  show List.lookup _ (_ :: _) = _
  rw [List.lookup_cons, h2]
  exact List.lookup_cons_self
theorem fl_no (g : Nat) (dk dp : Addr) {m : Str} (h1 : (m == "given") = false) (h2 : (m == "kept") = false) (h3 : (m == "places") = false) : (flds g dk dp).lookup m = none := by
  unfold flds
  rw [List.lookup_cons, h1]
  show List.lookup _ (_ :: _) = _
  rw [List.lookup_cons, h2]
  show List.lookup _ (_ :: _) = _
  rw [List.lookup_cons, h3]
  rfl
theorem fl_put (g h : Nat) (dk dp : Addr) : putF "given" (.int (h : Int)) (flds g dk dp) = flds h dk dp := by
  unfold flds
  show (if ("given" : Str) = "given" then _ else _) = _
  rw [if_pos rfl]
theorem fl_two (dk : Addr) : putF "kept" (.ref dk) (putF "given" (.int 0) []) = ([("given", V.int 0), ("kept", V.ref dk)] : List (Str × V)) := by
  show (if ("given" : Str) = "kept" then _ else (("given" : Str), V.int 0) :: putF "kept" (V.ref dk) []) = _
  rw [if_neg nKG]
  rfl
theorem fl_mk (dk dp : Addr) : putF "places" (.ref dp) (putF "kept" (.ref dk) (putF "given" (.int 0) [])) = flds 0 dk dp := by
  have e1 : putF "given" (.int 0) [] = ([("given", V.int 0)] : List (Str × V)) := rfl
  have e2 : putF "kept" (.ref dk) ([("given", V.int 0)] : List (Str × V)) = ([("given", V.int 0), ("kept", V.ref dk)] : List (Str × V)) := by
    show (if ("given" : Str) = "kept" then _ else (("given" : Str), V.int 0) :: putF "kept" (V.ref dk) []) = _
    rw [if_neg nKG]
    rfl
  rw [e1, e2]
  show (if ("given" : Str) = "places" then _ else (("given" : Str), V.int 0) :: (if ("kept" : Str) = "places" then _ else (("kept" : Str), V.ref dk) :: putF "places" (V.ref dp) [])) = _
  rw [if_neg nPG, if_neg nPK]
  rfl
/-- the parts of a shelf at p: H0 is what stands beside it -/
structure Sh (C : Addr) (H0 Hr H : Hp) (p : Addr) (g : Nat) (kp : Kept) (dx dk dp : Addr) (ws : List Str) (KA : Int → Addr) (WA : Str → Addr) (LA : Str → Int → Addr) : Prop where
  pl : PlAt Hr H dp ws WA LA (linOf kp) (plcOf kp)
  full : ∀ x, x ∈ ws → linOf kp x ≠ []
  ob : Hr p = some (.ins C dx (flds g dk dp))
  n1 : H0 p = none
  kd : Hr dk = some (.dK (kM Sum.inl (numsOf kp) KA))
  n2 : H0 dk = none
  kl : ∀ e, e ∈ kp → Hr (KA (e.1 : Int)) = some (.lst (e.2.map V.str))
  s : Same H0 Hr
  ri : Rise kp g
def ShelfAt (C : Addr) (H0 H : Hp) (p : Addr) (g : Nat) (kp : Kept) : Prop := ∃ Hr dx dk dp ws KA WA LA, Sh C H0 Hr H p g kp dx dk dp ws KA WA LA
section
variable {C : Addr} {H0 Hr H H' : Hp} {p a dx dk dp : Addr} {g : Nat} {kp : Kept} {ws : List Str} {KA : Int → Addr} {WA : Str → Addr} {LA : Str → Int → Addr} {o : HO}
theorem Sh.same (S : Sh C H0 Hr H p g kp dx dk dp ws KA WA LA) (e : Same H H') : Sh C H0 Hr H' p g kp dx dk dp ws KA WA LA := ⟨S.pl.same e, S.full, S.ob, S.n1, S.kd, S.n2, S.kl, S.s, S.ri⟩
theorem ShelfAt.same (S : ShelfAt C H0 H p g kp) (e : Same H H') : ShelfAt C H0 H' p g kp := by
  obtain ⟨Hr, dx, dk, dp, ws, KA, WA, LA, S⟩ := S
  exact ⟨Hr, dx, dk, dp, ws, KA, WA, LA, S.same e⟩
theorem ShelfAt.beside (S : ShelfAt C H0 H p g kp) : Same H0 H := by
  obtain ⟨Hr, dx, dk, dp, ws, KA, WA, LA, S⟩ := S
  exact S.s.trans S.pl.s
theorem ShelfAt.rise (S : ShelfAt C H0 H p g kp) : Rise kp g := by
  obtain ⟨Hr, dx, dk, dp, ws, KA, WA, LA, S⟩ := S
  exact S.ri
theorem ShelfAt.grow (S : ShelfAt C H0 H p g kp) (e : Same H H') (hn : H a = none) (ha : H' a = some o) : ShelfAt C (upd H0 a o) H' p g kp := by
  obtain ⟨Hr, dx, dk, dp, ws, KA, WA, LA, S⟩ := S
  have fr : Hr a = none := S.pl.s.free hn
  have np : p ≠ a := ne_of_none S.ob fr
  have nk : dk ≠ a := ne_of_none S.kd fr
  have nl : ∀ e, e ∈ kp → KA (e.1 : Int) ≠ a := fun e he => ne_of_none (S.kl e he) fr
  refine ⟨upd Hr a o, dx, dk, dp, ws, KA, WA, LA, S.pl.grow e hn ha, S.full, by rw [upd_ne np]; exact S.ob, by rw [upd_ne np]; exact S.n1, by rw [upd_ne nk]; exact S.kd, by rw [upd_ne nk]; exact S.n2, fun e he => by rw [upd_ne (nl e he)]; exact S.kl e he, fun b u h => ?_, S.ri⟩
  by_cases hb : b = a
  · subst hb; rw [upd_same] at h ⊢; exact h
  · rw [upd_ne hb] at h ⊢; exact S.s b u h
theorem Sh.obH (S : Sh C H0 Hr H p g kp dx dk dp ws KA WA LA) : H p = some (.ins C dx (flds g dk dp)) := S.pl.s _ _ S.ob
theorem Sh.kdH (S : Sh C H0 Hr H p g kp dx dk dp ws KA WA LA) : H dk = some (.dK (kM Sum.inl (numsOf kp) KA)) := S.pl.s _ _ S.kd
/-- an empty shelf -/
theorem Sh.new (s0 : Same H0 Hr) (hp : Hr p = some (.ins C dx (flds 0 dk dp))) (n1 : H0 p = none) (hk : Hr dk = some (.dK [])) (n2 : H0 dk = none) (s1 : Same Hr H) (hd : H dp = some (.dK [])) (f0 : Hr dp = none) : ShelfAt C H0 H p 0 [] := by
  refine ⟨Hr, dx, dk, dp, [], fun _ => 0, fun _ => 0, fun _ _ => 0, ⟨s1, hd, List.nodup_nil, fun x h => absurd rfl h, fun x hx => (by cases hx), fun x hx => (by cases hx), fun x hx => (by cases hx), fun x y hx => (by cases hx), fun x y hx => (by cases hx), f0, fun x hx => (by cases hx), fun x hx => (by cases hx)⟩, fun x hx => (by cases hx), hp, n1, hk, n2, fun e he => (by cases he), s0, ⟨.nil, fun e he => (by cases he)⟩⟩
end
end DM


set_option linter.all false
set_option maxRecDepth 100000
set_option maxHeartbeats 4000000
namespace K5
open PySem L2 PyProof.Rows WS DM
def top (i : Nat) : Stmt := PySem.Challenge.pw_wordfinder_k05_whole_index.main.body.getD i (.Pass ⟨0, 0, 0, 0⟩)
abbrev sBoth : Stmt := top 1
abbrev sEither : Stmt := top 2
abbrev sFirst : Stmt := top 3
abbrev sLet : Stmt := top 5
abbrev sWds : Stmt := top 6
abbrev sFol : Stmt := top 7
abbrev sNear : Stmt := top 8
abbrev sRow : Stmt := top 9
abbrev sCls : Stmt := top 11
abbrev sFNear : Stmt := top 12
abbrev sFRow : Stmt := top 13
abbrev sFBy : Stmt := top 14
abbrev sAnsTo : Stmt := top 16
abbrev sDay : Stmt := top 17
structure Txt (mg : Str → Option Value) : Prop where
  len : mg "len" = none
  srt : mg "sorted" = none
  set : mg "set" = none
  isi : mg "isinstance" = none
  int : mg "int" = none
  bool : mg "bool" = none
  list : mg "list" = none
  str : mg "str" = none
  tup : mg "tuple" = none
  rng : mg "range" = none
  enum : mg "enumerate" = none
  abs : mg "abs" = none
  sum : mg "sum" = none

theorem pw_get {os : List Int} (h : os.Pairwise (· < ·)) {i j : Nat} (hi : i < os.length) (hj : j < os.length) (hij : i < j) : os[i] < os[j] := List.pairwise_iff_getElem.mp h i j hi hj hij
/-- the nearest of the smaller ones decides -/
theorem fol_at {os : List Int} (h : os.Pairwise (· < ·)) {n : Nat} {b m : Int} (hn : n ≤ os.length) (h1 : ∀ i (hi : i < os.length), i < n → os[i] < b) (h2 : ∀ i (hi : i < os.length), n ≤ i → b ≤ os[i]) :
    (os.any fun a => decide (a < b ∧ b - a ≤ m)) = decide (0 < n ∧ ∃ (h : n - 1 < os.length), b - os[n - 1] ≤ m) := by
  rw [Bool.eq_iff_iff, decide_eq_true_eq, List.any_eq_true]
  constructor
  · rintro ⟨a, ha, hd⟩
    obtain ⟨hab, hm⟩ := of_decide_eq_true hd
    obtain ⟨i, hi, rfl⟩ := List.mem_iff_getElem.mp ha
    have hin : i < n := by
      rcases Nat.lt_or_ge i n with c | c
      · exact c
      · have := h2 i hi c; omega
    refine ⟨by omega, by omega, ?_⟩
    rcases Nat.lt_or_ge i (n - 1) with c | c
    · have := pw_get h hi (show n - 1 < os.length by omega) c
      omega
    · have e : n - 1 = i := by omega
      simp only [e]; exact hm
  · rintro ⟨hp, hl, hm⟩
    exact ⟨os[n - 1], List.getElem_mem hl, decide_eq_true ⟨h1 (n - 1) hl (by omega), hm⟩⟩
theorem fol_take {os ts : List Int} {m : Int} {i : Nat} (hi : i < ts.length) : fol os (ts.take (i + 1)) m = (fol os (ts.take i) m || os.any fun a => decide (a < ts[i] ∧ ts[i] - a ≤ m)) := by
  unfold fol
  rw [List.take_add_one, List.getElem?_eq_getElem hi, List.any_append]
  simp


section
variable {P : Program} {w : World} {K : PySem.W.Frag} {mg : Str → Option Value} {base : Heap}

theorem scB : FnScope ["ones", "others"] ["ones", "others"] (defScope sBoth) := ⟨rfl, rfl, rfl, by decide +kernel, rfl, by decide +kernel, by decide +kernel⟩
theorem ok_both {f : Addr} {fd : FuncData} (F : Fun K "in_both" "in_both" sBoth f fd) (T : Txt mg) : FnOk P w K mg base CX0 1 f fd ["ones", "others"] (spMerge K fun k ns ms => k ∈ ns ∧ k ∈ ms) := by
  refine F.ok scB (fun vs H Q E h => ?_) (fun cdv A outer s H vs Q E hr h => ?_)
  · obtain ⟨a, b, ns, ms, rfl, _⟩ := h
    rfl
  · obtain ⟨a, b, ns, ms, rfl, h1, h2, n1, n2, hl, k⟩ := h
    refine ⟨_, pss_one (ps_ret (pe_callB (call_sortedSet rfl) (by rfl) T.srt boot_sorted (pa_cons (pe_op op_setAnd (pe_callTy (call_setOf rfl) (by rfl) T.set PyProof.Rows.boot_set (pa_cons (pv 0) pa_nil)) (pe_callTy (call_setOf rfl) (by rfl) T.set PyProof.Rows.boot_set (pa_cons (pv 1) pa_nil))) pa_nil))), ?_⟩
    try dsimp only [noxK]
    exact read_merge rfl rfl h1 h2 n1 n2 (fun k ks ls a1 a2 => by rw [a1, a2]) hl k

theorem scE : FnScope ["ones", "others"] ["ones", "others"] (defScope sEither) := ⟨rfl, rfl, rfl, by decide +kernel, rfl, by decide +kernel, by decide +kernel⟩
theorem ok_either {f : Addr} {fd : FuncData} (F : Fun K "in_either" "in_either" sEither f fd) (T : Txt mg) : FnOk P w K mg base CX0 1 f fd ["ones", "others"] (spMerge K fun k ns ms => k ∈ ns ∨ k ∈ ms) := by
  refine F.ok scE (fun vs H Q E h => ?_) (fun cdv A outer s H vs Q E hr h => ?_)
  · obtain ⟨a, b, ns, ms, rfl, _⟩ := h
    rfl
  · obtain ⟨a, b, ns, ms, rfl, h1, h2, n1, n2, hl, k⟩ := h
    refine ⟨_, pss_one (ps_ret (pe_callB (call_sortedSet rfl) (by rfl) T.srt boot_sorted (pa_cons (pe_op op_setOr (pe_callTy (call_setOf rfl) (by rfl) T.set PyProof.Rows.boot_set (pa_cons (pv 0) pa_nil)) (pe_callTy (call_setOf rfl) (by rfl) T.set PyProof.Rows.boot_set (pa_cons (pv 1) pa_nil))) pa_nil))), ?_⟩
    try dsimp only [noxK]
    exact read_merge rfl rfl h1 h2 n1 n2 (fun k ks ls a1 a2 => by rw [a1, a2]) hl k
theorem scFi : FnScope ["ones", "others"] ["ones", "others"] (defScope sFirst) := ⟨rfl, rfl, rfl, by decide +kernel, rfl, by decide +kernel, by decide +kernel⟩
theorem ok_first {f : Addr} {fd : FuncData} (F : Fun K "in_first" "in_first" sFirst f fd) (T : Txt mg) : FnOk P w K mg base CX0 1 f fd ["ones", "others"] (spMerge K fun k ns ms => k ∈ ns ∧ k ∉ ms) := by
  refine F.ok scFi (fun vs H Q E h => ?_) (fun cdv A outer s H vs Q E hr h => ?_)
  · obtain ⟨a, b, ns, ms, rfl, _⟩ := h
    rfl
  · obtain ⟨a, b, ns, ms, rfl, h1, h2, n1, n2, hl, k⟩ := h
    refine ⟨_, pss_one (ps_ret (pe_callB (call_sortedSet rfl) (by rfl) T.srt boot_sorted (pa_cons (pe_op op_setSub (pe_callTy (call_setOf rfl) (by rfl) T.set PyProof.Rows.boot_set (pa_cons (pv 0) pa_nil)) (pe_callTy (call_setOf rfl) (by rfl) T.set PyProof.Rows.boot_set (pa_cons (pv 1) pa_nil))) pa_nil))), ?_⟩
    try dsimp only [noxK]
    exact read_merge rfl rfl h1 h2 n1 n2 (fun k ks ls a1 a2 => by rw [a1, a2]) hl k


theorem iteT' {c : Bool} {A B : Prop} (e : c = true) (h : A) : if c = true then A else B := by rw [e]; exact iteT h
theorem iteF' {c : Bool} {A B : Prop} (e : c = false) (h : B) : if c = true then A else B := by rw [e]; exact iteF h
/-- the test behind the inner loop -/
def tLast (K : PySem.W.Frag) : TS := tIfS (tAnd (tTest (tOp (rI0 fun i j => .bl (decide (j < i))) (tVar 3) (tC (.int 0)))) (tTest (tOp (rI0 fun i j => .bl (decide (i ≤ j))) (tOp (rI0 fun i j => .int (i - j)) (tVar 4) (tOp (rIxL K) (tVar 0) (tOp (rI0 fun i j => .int (i - j)) (tVar 3) (tC (.int 1))))) (tVar 2)))) (tRet (tC (.bl true))) tNext
theorem last_ok {D : Ends} {H : Hp} {a b : Addr} {os : List Int} {n : Nat} {x m : Int} (hA : SqL K H a (os.map V.int)) (po : os.Pairwise (· < ·)) (hn : n ≤ os.length) (h1 : ∀ i (hi : i < os.length), i < n → os[i] < x) (h2 : ∀ i (hi : i < os.length), n ≤ i → x ≤ os[i])
    (qt : (os.any fun a => decide (a < x ∧ x - a ≤ m)) = true → D.rt (.bl true) H) (qf : (os.any fun a => decide (a < x ∧ x - a ≤ m)) = false → D.nx [some (.ref a), some (.ref b), some (.int m), some (.int n), some (.int x)] H) :
    tLast K D [some (.ref a), some (.ref b), some (.int m), some (.int n), some (.int x)] H := by
  have e := fol_at (m := m) po hn h1 h2
  refine ⟨_, rfl, _, _, rfl, rfl, _, rfl, ?_⟩
  by_cases c1 : 0 < n
  · have hl : n - 1 < os.length := by omega
    have ei : (n : Int) - 1 = ((n - 1 : Nat) : Int) := by omega
    refine iteT' (decide_eq_true (by omega)) ⟨_, rfl, _, rfl, _, rfl, _, _, rfl, rfl, a, _, _, _, rfl, rfl, hA, (by rw [ei]; exact atI_nat (j := n - 1) (v := V.int os[n - 1]) (by simp [hl])), _, _, rfl, rfl, _, rfl, _, _, rfl, rfl, _, rfl, ?_⟩
    by_cases c2 : x - os[n - 1] ≤ m
    · exact iteT' (decide_eq_true c2) (qt (by rw [e]; exact decide_eq_true ⟨c1, hl, c2⟩))
    · exact iteF' (decide_eq_false c2) (qf (by rw [e]; exact decide_eq_false fun z => c2 z.2.2))
  · exact iteF' (decide_eq_false (by omega)) (iteF (qf (by rw [e]; exact decide_eq_false fun z => c1 z.1)))
/-- follow_closely -/
def spFol (K : PySem.W.Frag) : Sp := fun vs H Q _ => ∃ (a b : Addr) (os ts : List Int) (m : Int), vs = [.ref a, .ref b, .int m] ∧ SqL K H a (os.map V.int) ∧ SqL K H b (ts.map V.int) ∧ os.Pairwise (· < ·) ∧ ts.Pairwise (· < ·) ∧ Q (.bl (fol os ts m)) H
theorem scF : FnScope ["ones", "others", "many", "smaller", "other"] ["ones", "others", "many"] (defScope sFol) := ⟨rfl, rfl, rfl, by decide +kernel, rfl, by decide +kernel, by decide +kernel⟩
theorem ok_fol {f : Addr} {fd : FuncData} (F : Fun K "follow_closely" "follow_closely" sFol f fd) (T : Txt mg) : FnOk P w K mg base CX0 1 f fd ["ones", "others", "many"] (spFol K) := by
  refine F.ok scF (fun vs H Q E h => ?_) (fun cdv A outer s H vs Q E hr h => ?_)
  · obtain ⟨a, b, os, ts, m, rfl, _⟩ := h
    rfl
  · obtain ⟨a, b, os, ts, m, rfl, hA, hB, po, pt, k⟩ := h
    refine ⟨_, pss_cons (ps_set (i := 3) scF.nd rfl (Or.inl rfl) pe_int)
      (pss_cons (ps_for PassesOwn.never rfl (pi_list (pv 1)) (pg_name (i := 4) scF.nd rfl (Or.inl rfl))
        (pss_cons (ps_while PassesOwn.never (PW.pt (pw_and (pt_cmpR op_lt (pv 3) (pe_callB call_len_seq (by rfl) T.len PySem.boot_len (pa_cons (pv 0) pa_nil)) (nomark _)) (pw_and1 (pt_cmpR op_lt (pe_ix ix_list (pv 0) (pv 3) fun _ _ => rfl) (pv 4) (nomark _)))))
          (pss_one (ps_set (i := 3) scF.nd rfl (Or.inl rfl) (pe_op op_add (pv 3) pe_int))))
        (pss_one (ps_if (PW.pt (pw_and (pt_cmpR op_gt (pv 3) pe_int (nomark _)) (pw_and1 (pt_cmpR op_le (pe_op op_sub (pv 4) (pe_ix ix_list (pv 0) (pe_op op_sub (pv 3) pe_int) fun _ _ => rfl)) (pv 2) (nomark _))))) (pss_one (ps_ret pe_bl)) pss_nil))))
      (pss_one (ps_ret pe_bl))), ?_⟩
    try dsimp only [noxK]
    refine ⟨_, rfl, b, rfl, ⟨_, hB⟩, for_list (K := K) (a := b) (xs := ts.map V.int) (fun i σ H2 => ∃ (n : Nat) (v : Option V), σ = [some (.ref a), some (.ref b), some (.int m), some (.int n), v] ∧ H2 = H ∧ n ≤ os.length ∧ (∀ j (hj : j < os.length), j < n → ∀ (hi : i < ts.length), os[j] < ts[i]) ∧ fol os (ts.take i) m = false)
      ⟨0, none, rfl, rfl, Nat.zero_le _, fun j hj h => absurd h (Nat.not_lt_zero _), rfl⟩ (fun i σ H2 _ ⟨_, _, _, e, _⟩ => e ▸ hB) ?_ ?_⟩
    · rintro i y σ H2 hi ⟨n, v, rfl, rfl, hn, hlt, hf⟩
      have hil : i < ts.length := by have := (List.getElem?_eq_some_iff.mp hi).1; simpa using this
      have hy : y = V.int ts[i] := by simpa [hil] using hi.symm
      subst hy
      -- while
      refine ⟨fun m' σ H2' => ∃ n' : Nat, m' = os.length - n' ∧ σ = [some (.ref a), some (.ref b), some (.int m), some (.int n'), some (.int ts[i])] ∧ H2' = H2 ∧ n' ≤ os.length ∧ ∀ j (hj : j < os.length), j < n' → os[j] < ts[i], ⟨_, n, rfl, rfl, rfl, hn, fun j hj h => hlt j hj h hil⟩, ?_⟩
      rintro m' σ H3 ⟨n', rfl, rfl, rfl, hn', hlt'⟩
      refine ⟨_, rfl, _, rfl, a, _, rfl, .inl hA, _, _, rfl, rfl, _, rfl, ?_⟩
      rw [List.length_map]
      have behind : ∀ D : Ends, (∀ j (hj : j < os.length), n' ≤ j → ts[i] ≤ os[j]) → D.rt = Q → D.nx = (fun σ H2 => ∃ (n : Nat) (v : Option V), σ = [some (.ref a), some (.ref b), some (.int m), some (.int n), v] ∧ H2 = H3 ∧ n ≤ os.length ∧ (∀ j (hj : j < os.length), j < n → ∀ (hi : i + 1 < ts.length), os[j] < ts[i + 1]) ∧ fol os (ts.take (i + 1)) m = false) →
          tLast K D [some (.ref a), some (.ref b), some (.int m), some (.int n'), some (.int ts[i])] H3 := fun D hge e1 e2 => by
        refine last_ok hA po hn' hlt' hge (fun ht => ?_) fun ht => ?_
        · rw [e1]
          have : fol os ts m = true := by
            unfold fol
            rw [List.any_eq_true]
            exact ⟨ts[i], List.getElem_mem hil, ht⟩
          rw [this] at k
          exact k
        · rw [e2]
          refine ⟨n', _, rfl, rfl, hn', fun j hj h hi' => ?_, by rw [fol_take hil, hf, ht]; rfl⟩
          have h3 := hlt' j hj h
          have h4 := pw_get pt hil hi' (by omega)
          omega
      by_cases c1 : n' < os.length
      · refine iteT' (decide_eq_true (by omega)) ⟨_, rfl, _, rfl, a, _, _, _, rfl, rfl, hA, atI_nat (j := n') (v := V.int os[n']) (by simp [c1]), _, rfl, _, _, rfl, rfl, _, rfl, ?_⟩
        by_cases c2 : os[n'] < ts[i]
        · refine iteT' (decide_eq_true c2) ⟨fun σ' H' => ∃ n2 : Nat, n2 = n' + 1 ∧ σ' = [some (.ref a), some (.ref b), some (.int m), some (.int n2), some (.int ts[i])] ∧ H' = H3, fun σ' H' hN => ?_, ?_⟩
          · obtain ⟨n2, rfl, rfl, rfl⟩ := hN
            refine ⟨os.length - (n' + 1), by omega, n' + 1, rfl, rfl, rfl, by omega, fun j hj h => ?_⟩
            rcases Nat.lt_or_ge j n' with c | c
            · exact hlt' j hj c
            · have : j = n' := by omega
              subst this; exact c2
          · exact ⟨_, rfl, _, _, rfl, rfl, n' + 1, rfl, rfl, rfl⟩
        · refine iteF' (decide_eq_false c2) (behind _ (fun j hj h => ?_) rfl rfl)
          rcases Nat.lt_or_ge n' j with c | c
          · have := pw_get po c1 hj c; omega
          · have : j = n' := by omega
            subst this; omega
      · exact iteF' (decide_eq_false (by omega)) (iteF (behind _ (fun j hj h => absurd hj (by omega)) rfl rfl))
    · rintro σ H2 ⟨n, v, rfl, rfl, hn, hlt, hf⟩
      rw [List.length_map, List.take_length] at hf
      rw [hf] at k
      exact k

/-- are_near -/
def spNear (K : PySem.W.Frag) : Sp := fun vs H Q _ => ∃ (a b : Addr) (os ts : List Int) (m : Int), vs = [.ref a, .ref b, .int m] ∧ SqL K H a (os.map V.int) ∧ SqL K H b (ts.map V.int) ∧ os.Pairwise (· < ·) ∧ ts.Pairwise (· < ·) ∧ Q (.bl (fol os ts m || fol ts os m)) H
theorem scN : FnScope ["ones", "others", "many"] ["ones", "others", "many"] (defScope sNear) := ⟨rfl, rfl, rfl, by decide +kernel, rfl, by decide +kernel, by decide +kernel⟩
theorem ok_near {f fF : Addr} {fd fdF : FuncData} (F : Fun K "are_near" "are_near" sNear f fd) (T : Txt mg) (FF : Fun K "follow_closely" "follow_closely" sFol fF fdF) (bF : Binds K fdF ["ones", "others", "many"] []) (mF : mg "follow_closely" = some (.ref fF)) :
    FnOk P w K mg base CX0 2 f fd ["ones", "others", "many"] (spNear K) := by
  have GF : FnOk P w K mg base CX0 1 fF fdF ["ones", "others", "many"] (spFol K) := ok_fol FF T
  refine F.ok scN (fun vs H Q E h => ?_) (fun cdv A outer s H vs Q E hr h => ?_)
  · obtain ⟨a, b, os, ts, m, rfl, _⟩ := h
    rfl
  · obtain ⟨a, b, os, ts, m, rfl, hA, hB, po, pt, k⟩ := h
    refine ⟨_, pss_one (ps_ret (pe_or (pe_call GF hr rfl mF FF.kp bF .nil pass0 (pa_cons (pv 0) (pa_cons (pv 1) (pa_cons (pv 2) pa_nil)))) (pe_one (pe_call GF hr rfl mF FF.kp bF .nil pass0 (pa_cons (pv 1) (pa_cons (pv 0) (pa_cons (pv 2) pa_nil))))))), ?_⟩
    try dsimp only [noxK]
    refine ⟨_, rfl, _, rfl, _, rfl, a, b, os, ts, m, rfl, hA, hB, po, pt, _, rfl, ?_⟩
    cases hf : fol os ts m with
    | true =>
      rw [hf] at k
      exact iteT k
    | false =>
      rw [hf] at k
      exact iteF ⟨_, rfl, _, rfl, _, rfl, b, a, ts, os, m, rfl, hB, hA, pt, po, k⟩


/-- rows of ints at the addresses rs -/
def Rows (K : PySem.W.Frag) (H : Hp) (rs : List Addr) (rows : List (List Int)) : Prop := rs.length = rows.length ∧ ∀ (j : Nat) (r : Addr) (row : List Int), rs[j]? = some r → rows[j]? = some row → SqL K H r (row.map V.int)
/-- are_in_row -/
def spRow (K : PySem.W.Frag) : Sp := fun vs H Q _ => ∃ (a : Addr) (rs : List Addr) (rows : List (List Int)), vs = [.ref a] ∧ SqL K H a (rs.map V.ref) ∧ Rows K H rs rows ∧ 0 < rows.length ∧ (∀ row ∈ rows, row.length ≤ 63) ∧ rows.length ≤ 100 ∧ ∀ H', Same H H' → Q (.bl (inRow rows)) H'
abbrev NR : List Str := ["rows", "starts", "step", "row"]
theorem scRw : FnScope NR ["rows"] (defScope sRow) := ⟨rfl, rfl, rfl, by decide +kernel, rfl, by decide +kernel, by decide +kernel⟩
def subI (i : Nat) : V → Option V
  | .int k => some (.int (k - i))
  | _ => none
theorem subI_map (i : Nat) : ∀ (l : List Int), (l.map V.int).filterMap (subI i) = (l.map fun k => k - (i : Int)).map V.int
  | [] => rfl
  | k :: r => by
    rw [List.map_cons, List.filterMap_cons, List.map_cons, List.map_cons, subI_map i r]
    rfl
theorem ok_row {f fB : Addr} {fd fdB : FuncData} (F : Fun K "are_in_row" "are_in_row" sRow f fd) (T : Txt mg) (FB : Fun K "in_both" "in_both" sBoth fB fdB) (bB : Binds K fdB ["ones", "others"] []) (mB : mg "in_both" = some (.ref fB)) :
    FnOk P w K mg base CX0 2 f fd ["rows"] (spRow K) := by
  have GB : FnOk P w K mg base CX0 1 fB fdB ["ones", "others"] _ := ok_both FB T
  refine F.ok scRw (fun vs H Q E h => ?_) (fun cdv A outer s H vs Q E hr h => ?_)
  · obtain ⟨a, rs, rows, rfl, _⟩ := h
    rfl
  · obtain ⟨a, rs, rows, rfl, hA, hR, h0, hz, hrl, k⟩ := h
    refine ⟨_, pss_cons (ps_if (pt_cmpR op_eq (pe_callB call_len_seq (by rfl) T.len PySem.boot_len (pa_cons (pv 0) pa_nil)) pe_int (nomark _)) (pss_one (ps_ret pe_bl)) pss_nil)
      (pss_cons (ps_set (i := 1) scRw.nd rfl (Or.inl rfl) (pe_ix ix_list (pv 0) pe_int fun _ _ => rfl))
      (pss_cons (ps_for PassesOwn.never rfl (pi_enum (by rfl) T.enum (pa_cons (pv 0) pa_nil)) (pg_tup rfl (pgs_cons (pg_name (i := 2) scRw.nd rfl (Or.inr rfl)) (pgs_cons (pg_name (i := 3) scRw.nd rfl (Or.inl rfl)) pgs_nil)))
        (pss_one (ps_set (i := 1) scRw.nd rfl (Or.inl rfl) (pe_call GB hr rfl mB FB.kp bB .nil pass0 (pa_cons (pv 1) (pa_cons (pe_comp (fun _ _ h => h) rfl (compOk_of (sc := defScope sRow) (N := NR) (M := NR) rfl rfl (by decide +kernel)) (pi_list (pv 3))
          (fun _ _ _ _ _ _ => pifs_nil) (fun _ _ _ _ _ _ => pe_op op_sub (pv 4) (pv 2))) pa_nil))))))
      (pss_one (ps_ret (pe_cmpR op_gt (pe_callB call_len_seq (by rfl) T.len PySem.boot_len (pa_cons (pv 1) pa_nil)) pe_int (nomark _)))))), ?_⟩
    try dsimp only [noxK]
    refine ⟨_, rfl, a, _, rfl, .inl hA, rfl, _, rfl, ?_⟩
    rw [decide_eq_false (fun z => by
      have e := V.int.inj z
      have e2 := hR.1
      rw [List.length_map] at e
      omega)]
    refine iteF ?_
    obtain ⟨r0, rt, rfl⟩ : ∃ r0 rt, rs = r0 :: rt := by
      cases rs with
      | nil => have := hR.1; simp at this; omega
      | cons x y => exact ⟨x, y, rfl⟩
    obtain ⟨w0, wt, rfl⟩ : ∃ w0 wt, rows = w0 :: wt := by
      cases rows with
      | nil => simp at h0
      | cons x y => exact ⟨x, y, rfl⟩
    refine ⟨_, rfl, a, _, _, _, rfl, rfl, hA, atI_nat (j := 0) (v := V.ref r0) rfl, ?_⟩
    -- the loop
    refine ⟨_, rfl, a, rfl, ⟨_, hA⟩, for_enum (K := K) (a := a) (xs := (r0 :: rt).map V.ref) (fun i σ H2 => ∃ (p : Addr) (ss : List Int) (u v : Option V), σ = [some (.ref a), some (.ref p), u, v] ∧ Same H H2 ∧ SqL K H2 p (ss.map V.int) ∧ ss.length ≤ 63 ∧
        ∀ n, n ∈ ss ↔ n ∈ w0 ∧ ∀ j : Nat, j < i → n + (j : Int) ∈ (w0 :: wt).getD j [])
      ⟨r0, w0, none, none, rfl, Same.refl H, hR.2 0 r0 w0 rfl rfl, hz w0 List.mem_cons_self, fun n => ⟨fun h => ⟨h, fun j hj => absurd hj (Nat.not_lt_zero _)⟩, fun h => h.1⟩⟩ (fun i σ H2 _ ⟨_, _, _, _, _, s2, _⟩ => s2.seq hA) ?_ ?_⟩
    · rintro i x σ H2 t hi ⟨p, ss, u, v, rfl, s2, hp, hl, hm⟩ ht
      have hil : i < (r0 :: rt).length := by have := (List.getElem?_eq_some_iff.mp hi).1; simpa using this
      have hx : x = V.ref (r0 :: rt)[i] := by
        rw [List.getElem?_map, List.getElem?_eq_getElem hil] at hi
        exact (Option.some.inj hi).symm
      subst hx
      have hiw : i < (w0 :: wt).length := by rw [← hR.1]; exact hil
      have s3 : Same H2 (upd H2 t (.tup [.int i, .ref (r0 :: rt)[i]])) := same_upd ht
      have hrow : SqL K H2 (r0 :: rt)[i] ((w0 :: wt)[i].map V.int) := s2.seq (hR.2 i _ _ (List.getElem?_eq_getElem hil) (List.getElem?_eq_getElem hiw))
      have hrz : (w0 :: wt)[i].length ≤ 63 := hz _ (List.getElem_mem hiw)
      refine ⟨t, _, rfl, SqT.of upd_same, rfl, _, _, rfl, _, _, rfl, rfl, ?_⟩
      refine ⟨_, rfl, _, rfl, _, rfl, ⟨_, s3.seq hrow⟩, ?_⟩
      dsimp only
      refine comp_list (K := K) (xs := (w0 :: wt)[i].map V.int) (subI i) (s3.seq hrow) (by rw [List.length_map, sizeLine_eq]; omega) (fun y hy Qt Qf q1 q2 => ?_) fun q hq => ?_
      · obtain ⟨k0, _, rfl⟩ := List.mem_map.mp hy
        exact iteT (B := Qf (upd H2 t (.tup [.int i, .ref (r0 :: rt)[i]]))) ⟨_, rfl, _, rfl, _, _, rfl, rfl, q1 _ rfl⟩
      rw [subI_map]
      have s4 := same_upd (o := .lst (((w0 :: wt)[i].map fun k => k - (i : Int)).map V.int)) hq
      refine ⟨p, q, ss, (w0 :: wt)[i].map fun k => k - (i : Int), rfl, s4.seq (s3.seq hp), SqL.of upd_same, by omega, by rw [List.length_map]; omega, fun kr hn hk => ?_, fun l rs' H5 hl5 s5 h5 pw5 m5 => ?_⟩
      · have := length_le_of_subset hn fun k hk' => (hk k hk').1
        omega
      · refine ⟨l, rs', _, _, rfl, s2.trans (s3.trans (s4.trans s5)), SqL.of h5, ?_, fun n => ?_⟩
        · have := length_le_of_subset (kr := rs') (ks := ss) (pw5.imp fun h e => by omega) fun k hk => ((m5 k).mp hk).1
          omega
        · rw [m5 n]
          dsimp only
          rw [hm n, List.mem_map]
          constructor
          · rintro ⟨⟨c1, c2⟩, y, hy, e⟩
            refine ⟨c1, fun j hj => ?_⟩
            rcases Nat.lt_or_ge j i with c | c
            · exact c2 j c
            · have : j = i := by omega
              subst this
              have e2 : n + (j : Int) = y := by omega
              rw [e2]
              simpa [List.getD, List.getElem?_eq_getElem hiw] using hy
          · rintro ⟨c1, c2⟩
            refine ⟨⟨c1, fun j hj => c2 j (by omega)⟩, n + (i : Int), ?_, by omega⟩
            have := c2 i (by omega)
            simpa [List.getD, List.getElem?_eq_getElem hiw] using this
    · rintro σ H2 ⟨p, ss, u, v, rfl, s2, hp, hl, hm⟩
      refine ⟨_, rfl, p, _, rfl, .inl hp, _, _, rfl, rfl, ?_⟩
      rw [List.length_map]
      have e : inRow (w0 :: wt) = decide ((0 : Int) < (ss.length : Int)) := by
        rw [Bool.eq_iff_iff, decide_eq_true_eq]
        unfold inRow
        rw [List.any_eq_true]
        rw [List.length_map, hR.1] at hm
        constructor
        · rintro ⟨n, hn, hall⟩
          have : n ∈ ss := (hm n).mpr ⟨hn, fun j hj => of_decide_eq_true (List.all_eq_true.mp hall j (List.mem_range.mpr hj))⟩
          have := List.length_pos_of_mem this
          omega
        · intro hpos
          obtain ⟨n, hn⟩ := List.exists_mem_of_length_pos (show 0 < ss.length by omega)
          obtain ⟨c1, c2⟩ := (hm n).mp hn
          exact ⟨n, c1, List.all_eq_true.mpr fun j hj => decide_eq_true (c2 j (List.mem_range.mp hj))⟩
      have := k H2 s2
      rw [e] at this
      exact this


/-- is_letter -/
def spLet : Sp := fun vs H Q _ => ∃ c : Nat, vs = [.str ⟨#[c]⟩] ∧ Q (.bl (isL c)) H
theorem scLet : FnScope ["sign"] ["sign"] (defScope sLet) := ⟨rfl, rfl, rfl, by decide +kernel, rfl, by decide +kernel, by decide +kernel⟩
theorem ok_let {f : Addr} {fd : FuncData} (F : Fun K "is_letter" "is_letter" sLet f fd) : FnOk P w K mg base CX0 1 f fd ["sign"] spLet := by
  refine F.ok scLet (fun vs H Q E h => ?_) (fun cdv A outer s H vs Q E hr h => ?_)
  · obtain ⟨c, rfl, _⟩ := h
    rfl
  · obtain ⟨c, rfl, k⟩ := h
    refine ⟨_, pss_one (ps_ret (pe_chain op_le_str op_le_str pe_str (pv 0) pe_str)), ?_⟩
    try dsimp only [noxK]
    refine ⟨_, rfl, _, _, rfl, rfl, _, rfl, ?_⟩
    rw [le_a]
    unfold isL at k
    cases h : decide (97 ≤ c) with
    | false =>
      rw [h] at k
      exact iteF k
    | true =>
      rw [h, Bool.true_and, ← le_z] at k
      exact iteT ⟨_, _, rfl, rfl, k⟩

/-- words_of -/
def spWds (K : PySem.W.Frag) : Sp := fun vs H Q _ => ∃ z : Str, vs = [.str z] ∧ z.length ≤ 1000 ∧ ∀ (l : Addr) (H' : Hp), H l = none → Same H H' → H' l = some (.lst ((wds z.cps.toList).map V.str)) → Q (.ref l) H'
abbrev NW : List Str := ["line", "words", "start", "at", "sign"]
theorem scWd : FnScope NW ["line"] (defScope sWds) := ⟨rfl, rfl, rfl, by decide +kernel, rfl, by decide +kernel, by decide +kernel⟩
theorem ok_wds {f fL : Addr} {fd fdL : FuncData} (F : Fun K "words_of" "words_of" sWds f fd) (T : Txt mg) (FL : Fun K "is_letter" "is_letter" sLet fL fdL) (bL : Binds K fdL ["sign"] []) (mL : mg "is_letter" = some (.ref fL)) :
    FnOk P w K mg base CX0 2 f fd ["line"] (spWds K) := by
  have GL : FnOk P w K mg base CX0 1 fL fdL ["sign"] spLet := ok_let FL
  refine F.ok scWd (fun vs H Q E h => ?_) (fun cdv A outer s H vs Q E hr h => ?_)
  · obtain ⟨z, rfl, _⟩ := h
    rfl
  · obtain ⟨z, rfl, hz, k⟩ := h
    refine ⟨_, pss_cons (ps_set (i := 1) scWd.nd rfl (Or.inl rfl) (pe_lst pa_nil))
      (pss_cons (ps_set (i := 2) scWd.nd rfl (Or.inl rfl) pe_int)
      (pss_cons (ps_for PassesOwn.never rfl (pi_enumStr (by rfl) T.enum (pa_cons (pe_op op_add_str (pv 0) pe_str) pa_nil)) (pg_tup rfl (pgs_cons (pg_name (i := 3) scWd.nd rfl (Or.inl rfl)) (pgs_cons (pg_name (i := 4) scWd.nd rfl (Or.inl rfl)) pgs_nil)))
        (pss_one (ps_if (pt_not (pt_val (pe_call GL hr rfl mL FL.kp bL .nil pass0 (pa_cons (pv 4) pa_nil))))
          (pss_cons (ps_if (pt_cmpR op_lt (pv 2) (pv 3) (nomark _)) (pss_one (ps_expr (pe_bm PySem.F.plainAttrs_list PySem.slot_list_append PySem.F.type_list_append mt_append (pv 1) (pa_cons (pe_slice sl_str (pv 0) (po_some (pv 2)) (po_some (pv 3))) pa_nil)))) pss_nil)
          (pss_one (ps_set (i := 2) scWd.nd rfl (Or.inl rfl) (pe_op op_add (pv 3) pe_int)))) pss_nil)))
      (pss_one (ps_ret (pv 1))))), ?_⟩
    try dsimp only [noxK]
    refine ⟨by simp, fun l hl => ?_⟩
    have s1 : Same H (upd H l (.lst [])) := same_upd hl
    have hz1 : z.cps.toList.length = z.length := by simp [Str.length]
    refine ⟨_, rfl, _, _, rfl, rfl, by rw [sizeLine_eq]; show z.length + 1 ≤ _; omega, _, rfl, ?_⟩
    have hcs : (z ++ (" " : Str)).cps.toList = z.cps.toList ++ [32] := by rw [Str.cps_append, Array.toList_append]; rfl
    refine for_enumStr (z := z ++ (" " : Str)) (fun i σ H2 => ∃ (st : Nat) (u v : Option V), σ = [some (.str z), some (.ref l), some (.int st), u, v] ∧ Same H H2 ∧ H2 l = some (.lst ((sc ((z.cps.toList ++ [32]).take i)).1.map V.str)) ∧ st ≤ i ∧ (sc ((z.cps.toList ++ [32]).take i)).2 = ⟨(((z.cps.toList ++ [32]).take i).drop st).toArray⟩)
      ⟨0, none, none, rfl, s1, upd_same, Nat.le_refl 0, rfl⟩ ?_ ?_
    · rintro i c σ H2 t hi ⟨st, u, v, rfl, s2, hl2, hst, hrun⟩ ht
      rw [hcs] at hi
      have hil : i < (z.cps.toList ++ [32]).length := (List.getElem?_eq_some_iff.mp hi).1
      have hil' : i ≤ z.length := by rw [List.length_append, hz1] at hil; simp at hil; omega
      have htk : (z.cps.toList ++ [32]).take (i + 1) = (z.cps.toList ++ [32]).take i ++ [c] := by rw [List.take_add_one, hi]; rfl
      have hlen : ((z.cps.toList ++ [32]).take i).length = i := by rw [List.length_take]; omega
      have s3 : Same H2 (upd H2 t (.tup [.int i, .str ⟨#[c]⟩])) := same_upd ht
      have hl3 := s3 _ _ hl2
      refine ⟨t, _, rfl, SqT.of upd_same, rfl, _, _, rfl, _, _, rfl, rfl, ?_⟩
      generalize upd H2 t (.tup [.int i, .str ⟨#[c]⟩]) = H3 at s3 hl3 ⊢
      refine ⟨_, rfl, c, rfl, _, rfl, ?_⟩
      rw [htk, sc_snoc]
      cases hL : isL c with
      | true =>
        refine iteF ⟨st, _, _, rfl, s2.trans s3, ?_, by omega, ?_⟩
        · rw [step_letter hL]; exact hl3
        · rw [step_letter hL, hrun, List.drop_append_of_le_length (by omega)]
          refine Str.ext' ?_
          rw [Str.cps_append]
          simp
      | false =>
        refine iteT ⟨_, rfl, _, rfl, _, _, rfl, rfl, _, rfl, ?_⟩
        rw [step_blank hL]
        by_cases c1 : st < i
        · have hsl : PySem.Txt.slice z (some (st : Int)) (some (i : Int)) = (sc ((z.cps.toList ++ [32]).take i)).2 := by
            rw [slice_nat (by omega) hil', hrun, List.take_append_of_le_length (by omega)]
          have hne : (sc ((z.cps.toList ++ [32]).take i)).2.length ≠ 0 := by
            rw [hrun]
            show (((z.cps.toList ++ [32]).take i).drop st).toArray.size ≠ 0
            rw [List.size_toArray, List.length_drop, hlen]; omega
          rw [decide_eq_true (show ((st : Int) < (i : Int)) by omega)]
          refine iteT ⟨_, rfl, .inl ⟨rfl, _, SqL.of hl3⟩, _, rfl, _, rfl, _, rfl, _, rfl, _, rfl, z, rfl, by rw [sizeLine_eq]; omega, l, _, _, rfl, rfl, hl3, ?_, ?_⟩
          · rw [List.length_map, sizeLine_eq]
            have := sc_le ((z.cps.toList ++ [32]).take i)
            rw [hlen] at this; omega
          · refine ⟨_, rfl, _, _, rfl, rfl, i + 1, _, _, rfl, ?_, ?_, by omega, ?_⟩
            · intro b o e
              rw [upd_ne (ne_of_none e hl)]
              exact s3 b o (s2 b o e)
            · rw [upd_same, hsl, if_neg hne]
              simp
            · rw [if_neg hne]
              rw [List.drop_of_length_le (by rw [List.length_append, hlen]; simp)]
              rfl
        · have he : st = i := by omega
          subst he
          have h0 : (sc ((z.cps.toList ++ [32]).take st)).2.length = 0 := by
            rw [hrun]
            show (((z.cps.toList ++ [32]).take st).drop st).toArray.size = 0
            rw [List.size_toArray, List.length_drop, hlen]; omega
          rw [decide_eq_false (show ¬ ((st : Int) < (st : Int)) by omega)]
          refine iteF ⟨_, rfl, _, _, rfl, rfl, st + 1, _, _, rfl, s2.trans s3, ?_, by omega, ?_⟩
          · rw [if_pos h0]; exact hl3
          · rw [if_pos h0, hrun]
            rw [List.drop_of_length_le (by rw [hlen]; omega), List.drop_of_length_le (by rw [List.length_append, hlen]; simp)]
    · rintro σ H2 ⟨st, u, v, rfl, s2, hl2, _, _⟩
      rw [hcs, List.take_length, wds_blank] at hl2
      exact ⟨_, rfl, k l H2 hl s2 hl2⟩

end
end K5


set_option linter.all false
set_option maxRecDepth 100000
set_option maxHeartbeats 4000000
namespace K5
open PySem L2 PyProof.Rows WS DM
abbrev sInit : Stmt := inClass sCls 0
abbrev sPut : Stmt := inClass sCls 1
abbrev sStr : Stmt := inClass sCls 2
abbrev sNums : Stmt := inClass sCls 3
abbrev sNW : Stmt := inClass sCls 4
abbrev sPI : Stmt := inClass sCls 5
abbrev sLW : Stmt := inClass sCls 6
abbrev sIx : Stmt := inClass sCls 7
structure TxtC (K : PySem.W.Frag) (mg : Str → Option Value) (C : Addr) : Prop where
  cl : Cls K C
  nG : NoAttr K C "given"
  nK : NoAttr K C "kept"
  nP : NoAttr K C "places"
  mgC : mg "Shelf" = some (.ref C)
theorem iteI {a b : Int} {A B : Prop} (hT : a = b → A) (hF : a ≠ b → B) : if decide (V.int a = V.int b) = true then A else B := by
  by_cases h : a = b
  · subst h; rw [decide_eq_true rfl]; exact iteT (hT rfl)
  · rw [decide_eq_false (fun z => h (by cases z; rfl))]; exact iteF (hF h)
theorem iteS {a b : Str} {A B : Prop} (hT : a = b → A) (hF : a ≠ b → B) : if decide (V.str a = V.str b) = true then A else B := by
  by_cases h : a = b
  · subst h; rw [decide_eq_true rfl]; exact iteT (hT rfl)
  · rw [decide_eq_false (fun z => h (by cases z; rfl))]; exact iteF (hF h)
theorem iteB {c : Bool} {A B : Prop} (hT : c = true → A) (hF : c = false → B) : if c = true then A else B := by
  cases c with
  | true => exact iteT (hT rfl)
  | false => exact iteF (hF rfl)
section
variable {P : Program} {w : World} {K : PySem.W.Frag} {mg : Str → Option Value} {base : Heap}

/-- Shelf.__init__ -/
def spInit (C : Addr) : Sp := fun vs H Q _ => ∃ (p dx : Addr), vs = [.ref p] ∧ H p = some (.ins C dx []) ∧ ∀ (H' : Hp), (∀ H0 : Hp, Same H0 H → H0 p = none → ShelfAt C H0 H' p 0 []) → Q .non H'
theorem scI : FnScope ["self"] ["self"] (defScope sInit) := ⟨rfl, rfl, rfl, by decide +kernel, rfl, by decide +kernel, by decide +kernel⟩
theorem ok_init {f C : Addr} {fd : FuncData} (F : Fun K "__init__" "Shelf.__init__" sInit f fd) (T : TxtC K mg C) : FnOk P w K mg base CX0 1 f fd ["self"] (spInit C) := by
  refine F.ok scI (fun vs H Q E h => ?_) (fun cdv A outer s H vs Q E hr h => ?_)
  · obtain ⟨p, dx, rfl, _⟩ := h
    rfl
  · obtain ⟨p, dx, rfl, hp, k⟩ := h
    refine ⟨_, pss_cons (ps_fld (pv 0) pe_int rfl) (pss_cons (ps_fld (pv 0) pe_dnewK rfl) (pss_one (ps_fld (pv 0) pe_dnewK rfl))), ?_⟩
    try dsimp only [noxK]
    refine ⟨_, rfl, p, C, dx, [], rfl, hp, T.cl, T.nG, (by show 0 < 1000; decide), ?_⟩
    intro dk hdk
    have n1 : p ≠ dk := ne_of_none upd_same hdk
    refine ⟨_, rfl, p, C, dx, _, rfl, (by rw [upd_ne n1, upd_same]), T.cl, T.nK, (by show 1 < 1000; decide), ?_⟩
    intro dp hdp
    have n2 : p ≠ dp := ne_of_none upd_same hdp
    have n3 : dk ≠ dp := by
      refine ne_of_none (o := .dK []) ?_ hdp
      rw [upd_ne n1.symm, upd_same]
    refine ⟨_, rfl, p, C, dx, _, rfl, (by rw [upd_ne n2, upd_same]), T.cl, T.nP, (by have := (fl_two dk); rw [this]; show 2 < 1000; decide), ?_⟩
    refine k _ fun H0 s0 n0 => ?_
    have hk0 : H0 dk = none := by
      rw [upd_ne n1.symm] at hdk
      exact s0.free hdk
    have hp0 : H0 dp = none := by
      rw [upd_ne n2.symm, upd_ne n3.symm, upd_ne n2.symm] at hdp
      exact s0.free hdp
    refine Sh.new (dx := dx) (dk := dk) (dp := dp) (Hr := upd (upd H0 p (.ins C dx (flds 0 dk dp))) dk (.dK [])) (fun b o e => ?_) (by rw [upd_ne n1, upd_same]) n0 upd_same hk0 (fun b o e => ?_) (by rw [upd_ne n2.symm, upd_same]) (by rw [upd_ne n3.symm, upd_ne n2.symm]; exact hp0)
    · rw [upd_ne (ne_of_none e hk0), upd_ne (ne_of_none e n0)]
      exact e
    · by_cases b1 : b = dk
      · subst b1
        rw [upd_same] at e
        rw [upd_ne n1.symm, upd_ne n3, upd_ne n1.symm, upd_same]
        exact e
      · rw [upd_ne b1] at e
        by_cases b2 : b = p
        · subst b2
          rw [upd_same] at e ⊢
          rw [fl_mk]
          exact e
        · rw [upd_ne b2] at e
          rw [upd_ne b2, upd_ne (ne_of_none e hp0), upd_ne b2, upd_ne b1, upd_ne b2]
          exact s0 b o e

/-- lines.setdefault(number, []).append(place) -/
theorem touch_ok {D : Ends} {R H : Hp} {dp lw p : Addr} {ws : List Str} {WA : Str → Addr} {LA : Str → Int → Addr} {lin : Str → List Int} {plc : Str → Int → List Int} {line x : Str} {g : Int} {i : Int}
    (S : PlAt R H dp ws WA LA lin plc) (hx : x ∈ ws) (hb : (lin x).length ≤ 1000) (hbp : g ∈ lin x → (plc x g).length ≤ 1000)
    (q : ∀ H' LA', PlAt R H' dp ws WA LA' (setN lin x (if g ∈ lin x then lin x else lin x ++ [g])) (setP plc x g ((if g ∈ lin x then plc x g else []) ++ [i])) → D.nx [some (.ref p), some (.str line), some (.int g), some (.ref lw), some (.int i), some (.str x), some (.ref (WA x))] H') :
    tDrop (tBM K "list" rAppend (tDSetD (tVar 6) (tVar 2) (tLst tNil)) (tCons (tVar 4) tNil)) D [some (.ref p), some (.str line), some (.int g), some (.ref lw), some (.int i), some (.str x), some (.ref (WA x))] H := by
  refine ⟨_, rfl, WA x, rfl, .inl ⟨_, Rd.of (S.hd x hx)⟩, _, rfl, by simp, fun l0 hl0 => ⟨kM Sum.inl (lin x) (LA x), Sum.inl g, ?_, rfl, ?_, fun v hv => ?_, fun hv => ?_⟩⟩
  · rw [upd_ne (ne_of_none (S.hd x hx) hl0)]
    exact S.hd x hx
  · rw [kM_len, sizeLine_eq]; omega
  · rw [val_kM inl_inj] at hv
    by_cases hg : g ∈ lin x
    · rw [if_pos hg] at hv
      cases hv
      have S1 := S.same (same_upd (o := .lst []) hl0)
      have hL := S1.hl x hx g hg
      refine ⟨.inl ⟨rfl, _, SqL.of hL⟩, _, rfl, LA x g, _, _, rfl, rfl, hL, by rw [List.length_map, sizeLine_eq]; have := hbp hg; omega, ?_⟩
      have e : (plc x g).map V.int ++ [V.int i] = (plc x g ++ [i]).map V.int := by rw [List.map_append]; rfl
      rw [e]
      refine q _ LA ?_
      rw [if_pos hg, if_pos hg]
      refine (S1.place hx hg (plc x g ++ [i])).congr (fun z => ?_) fun _ _ _ => rfl
      unfold setN
      split
      · rename_i h; rw [h]
      · rfl
    · rw [if_neg hg] at hv; cases hv
  · rw [val_kM inl_inj] at hv
    have hg : g ∉ lin x := fun hg => by rw [if_pos hg] at hv; cases hv
    have S2 := S.line hx hg hl0
    rw [put_kM inl_inj hg]
    have hg2 : g ∈ setN lin x (lin x ++ [g]) x := by
      rw [show setN lin x (lin x ++ [g]) x = lin x ++ [g] from if_pos rfl]
      simp
    have eL : setL LA x g l0 x g = l0 := if_pos ⟨rfl, rfl⟩
    have hL := S2.hl x hx g hg2
    rw [eL, show setP plc x g [] x g = [] from if_pos ⟨rfl, rfl⟩] at hL
    have S3 := S2.place hx hg2 [i]
    rw [eL] at S3
    refine ⟨.inl ⟨rfl, _, SqL.of hL⟩, _, rfl, l0, _, _, rfl, rfl, hL, by show 0 < sizeLine; rw [sizeLine_eq]; decide, ?_⟩
    refine q _ _ (S3.congr (fun z => by rw [if_neg hg]) fun z n _ => ?_)
    rw [if_neg hg]
    unfold setP
    split <;> rfl
/-- Shelf.put -/
def spPut (C : Addr) : Sp := fun vs H Q _ => ∃ (p : Addr) (H0 : Hp) (g : Nat) (kp : DM.Kept) (line : Str), vs = [.ref p, .str line] ∧ ShelfAt C H0 H p g kp ∧ line.length ≤ 1000 ∧ g ≤ 100 ∧ (linesWords line).length ≤ 20 ∧
  ∀ H', ShelfAt C H0 H' p (g + 1) (kp ++ [(g, linesWords line)]) → Q (.int (g : Int)) H'
abbrev NP : List Str := ["self", "line", "number", "words", "place", "word", "lines"]
theorem scP : FnScope NP ["self", "line"] (defScope sPut) := ⟨rfl, rfl, rfl, by decide +kernel, rfl, by decide +kernel, by decide +kernel⟩
/-- what stands at the loop's head in put -/
def PutP (R : Hp) (p : Addr) (line : Str) (g : Nat) (lw dp : Addr) (kp : DM.Kept) : Nat → L2.St → Hp → Prop := fun i σ H4 => ∃ (ws : List Str) (WA : Str → Addr) (LA : Str → Int → Addr) (lin : Str → List Int) (plc : Str → Int → List Int) (u v z : Option V), σ = [some (.ref p), some (.str line), some (.int (g : Int)), some (.ref lw), u, v, z] ∧ PlAt R H4 dp ws WA LA lin plc ∧
  (∀ x, lin x = linOf kp x ++ (if x ∈ (linesWords line).take i then [(g : Int)] else [])) ∧ (∀ x n, n ∈ lin x → plc x n = if n = (g : Int) then plOf x ((linesWords line).take i) else plcOf kp x n) ∧ ∀ x, x ∈ ws → lin x ≠ []
theorem put_turn {R H' : Hp} {p lw dp : Addr} {line x : Str} {g i : Nat} {kp : DM.Kept} {lin : Str → List Int} {plc : Str → Int → List Int} {ws ws' : List Str} {WA' : Str → Addr} {LA' : Str → Int → Addr} (hlx : ∀ x, ((g : Nat) : Int) ∉ linOf kp x) (htk : (linesWords line).take (i + 1) = (linesWords line).take i ++ [x]) (htl : ((linesWords line).take i).length = i)
    (eL : ∀ x, lin x = linOf kp x ++ (if x ∈ (linesWords line).take i then [(g : Int)] else [])) (eP : ∀ x n, n ∈ lin x → plc x n = if n = (g : Int) then plOf x ((linesWords line).take i) else plcOf kp x n) (full : ∀ x, x ∈ ws → lin x ≠ [])
    (hws : ∀ z, z ∈ ws' → z ∈ ws ∨ z = x) (P6 : PlAt R H' dp ws' WA' LA' (setN lin x (if (g : Int) ∈ lin x then lin x else lin x ++ [(g : Int)])) (setP plc x (g : Int) ((if (g : Int) ∈ lin x then plc x (g : Int) else []) ++ [(i : Int)]))) :
    PutP R p line g lw dp kp (i + 1) [some (.ref p), some (.str line), some (.int (g : Int)), some (.ref lw), some (.int (i : Int)), some (.str x), some (.ref (WA' x))] H' := by
  have gin : (g : Int) ∈ lin x ↔ x ∈ (linesWords line).take i := by
    rw [eL x, List.mem_append]
    constructor
    · rintro (h | h)
      · exact absurd h (hlx x)
      · by_cases h4 : x ∈ (linesWords line).take i
        · exact h4
        · rw [if_neg h4] at h; cases h
    · intro h
      rw [if_pos h]
      exact .inr List.mem_cons_self
  refine ⟨ws', WA', LA', _, _, _, _, _, rfl, P6, fun z => ?_, fun z n hn => ?_, fun z hz => ?_⟩
  · rw [htk]
    by_cases hz : z = x
    · subst hz
      rw [show setN lin z _ z = _ from if_pos rfl, if_pos (show z ∈ (linesWords line).take i ++ [z] by simp)]
      by_cases h4 : z ∈ (linesWords line).take i
      · rw [if_pos (gin.mpr h4), eL z, if_pos h4]
      · rw [if_neg (fun h => h4 (gin.mp h)), eL z, if_neg h4, List.append_nil]
    · rw [show setN lin x _ z = lin z from if_neg hz, eL z]
      have : (z ∈ (linesWords line).take i ++ [x]) ↔ z ∈ (linesWords line).take i := by simp [hz]
      simp only [this]
  · rw [htk]
    by_cases hz : z = x ∧ n = (g : Int)
    · obtain ⟨rfl, rfl⟩ := hz
      rw [show setP plc z (g : Int) _ z (g : Int) = _ from if_pos ⟨rfl, rfl⟩, if_pos rfl, plOf_snoc, if_pos rfl, htl]
      by_cases h4 : z ∈ (linesWords line).take i
      · rw [if_pos (gin.mpr h4), eP z _ (gin.mpr h4), if_pos rfl]
      · rw [if_neg (fun h => h4 (gin.mp h)), plOf_none h4]
    · rw [show setP plc x (g : Int) _ z n = plc z n from if_neg hz]
      have hn' : n ∈ lin z := by
        by_cases hzx : z = x
        · subst hzx
          rw [show setN lin z _ z = _ from if_pos rfl] at hn
          split at hn
          · exact hn
          · rcases List.mem_append.mp hn with h | h
            · exact h
            · exact absurd ⟨rfl, List.mem_singleton.mp h⟩ hz
        · rw [show setN lin x _ z = lin z from if_neg hzx] at hn
          exact hn
      rw [eP z n hn']
      by_cases hng : n = (g : Int)
      · rw [if_pos hng, if_pos hng, plOf_snoc, if_neg (fun e => hz ⟨e.symm, hng⟩), List.append_nil]
      · rw [if_neg hng, if_neg hng]
  · by_cases hzx : z = x
    · subst hzx
      rw [show setN lin z _ z = _ from if_pos rfl]
      split
      · rename_i h
        exact fun e => by rw [e] at h; cases h
      · simp
    · rw [show setN lin x _ z = lin z from if_neg hzx]
      rcases hws z hz with h | h
      · exact full z h
      · exact absurd h hzx
theorem ok_put {f fW C : Addr} {fd dW : FuncData} (F : Fun K "put" "Shelf.put" sPut f fd) (T : Txt mg) (TC : TxtC K mg C) (GW : FnOk P w K mg base CX0 2 fW dW ["line"] (spWds K)) (FW : Fun K "words_of" "words_of" sWds fW dW) (bW : Binds K dW ["line"] []) (mW : mg "words_of" = some (.ref fW)) :
    FnOk P w K mg base CX0 3 f fd ["self", "line"] (spPut C) := by
  refine F.ok scP (fun vs H Q E h => ?_) (fun cdv A outer s H vs Q E hr h => ?_)
  · obtain ⟨p, H0, g, kp, line, rfl, _⟩ := h
    rfl
  · obtain ⟨p, H0, g, kp, line, rfl, ⟨Hr, dx, dk, dp, ws, KA, WA, LA, S⟩, hln, hg, hwl, k⟩ := h
    have hu := hu_of hr
    refine ⟨_, pss_cons (ps_set (i := 2) scP.nd rfl (Or.inl rfl) (pe_fld (pv 0) rfl))
      (pss_cons (ps_fld (pv 0) (pe_op op_add (pv 2) pe_int) rfl)
      (pss_cons (ps_set (i := 3) scP.nd rfl (Or.inl rfl) (pe_call GW hr rfl mW FW.kp bW .nil pass0 (pa_cons (pv 1) pa_nil)))
      (pss_cons (ps_dput hu (pe_fld (pv 0) rfl) (pv 2) (pv 3) rfl)
      (pss_cons (ps_for PassesOwn.never rfl (pi_enum (by rfl) T.enum (pa_cons (pv 3) pa_nil)) (pg_tup rfl (pgs_cons (pg_name (i := 4) scP.nd rfl (Or.inl rfl)) (pgs_cons (pg_name (i := 5) scP.nd rfl (Or.inl rfl)) pgs_nil)))
        (pss_cons (ps_set (i := 6) scP.nd rfl (Or.inl rfl) (pe_dsetd (pe_fld (pv 0) rfl) (pv 5) pe_dnewK ⟨rfl, rfl, rfl, rfl⟩))
        (pss_one (ps_expr (pe_bm PySem.F.plainAttrs_list PySem.slot_list_append PySem.F.type_list_append mt_append (pe_dsetd (pv 6) (pv 2) (pe_lst pa_nil) ⟨rfl, rfl, rfl, rfl⟩) (pa_cons (pv 4) pa_nil))))))
      (pss_one (ps_ret (pv 2))))))), ?_⟩
    try dsimp only [noxK]
    refine ⟨_, rfl, p, C, dx, _, _, rfl, S.obH, TC.cl, TC.nG, fl_g _ _ _, ?_⟩
    refine ⟨_, rfl, _, _, rfl, rfl, _, rfl, p, C, dx, _, rfl, S.obH, TC.cl, TC.nG, (by show 3 < 1000; decide), ?_⟩
    have e1 : putF "given" (V.int ((g : Int) + 1)) (flds g dk dp) = flds (g + 1) dk dp := fl_put g (g + 1) dk dp
    rw [e1]
    have P1 := S.pl.upd (o' := .ins C dx (flds (g + 1) dk dp)) S.ob
    have np0 : H0 p = none := S.n1
    have nkp : dk ≠ p := ne_of S.kd S.ob (by intro z; cases z)
    -- words = words_of(line)
    refine ⟨_, rfl, line, rfl, hln, fun lw H2 hlw s2 hw2 => ?_⟩
    change H2 lw = some (.lst ((linesWords line).map V.str)) at hw2
    have P2 := P1.grow s2 hlw hw2
    have nlp : p ≠ lw := ne_of_none upd_same hlw
    have r1 : upd Hr p (.ins C dx (flds (g + 1) dk dp)) lw = none := P1.s.free hlw
    have kd1 : upd Hr p (.ins C dx (flds (g + 1) dk dp)) dk = some (.dK (kM Sum.inl (numsOf kp) KA)) := by rw [upd_ne nkp]; exact S.kd
    have nlk : dk ≠ lw := ne_of_none kd1 r1
    have kd2 : upd (upd Hr p (.ins C dx (flds (g + 1) dk dp))) lw (.lst ((linesWords line).map V.str)) dk = some (.dK (kM Sum.inl (numsOf kp) KA)) := by rw [upd_ne nlk]; exact kd1
    have ob2 : upd (upd Hr p (.ins C dx (flds (g + 1) dk dp))) lw (.lst ((linesWords line).map V.str)) p = some (.ins C dx (flds (g + 1) dk dp)) := by rw [upd_ne nlp, upd_same]
    -- self.kept[number] = words
    refine ⟨_, rfl, _, rfl, p, C, dx, _, _, rfl, P2.s _ _ ob2, TC.cl, TC.nK, fl_k _ _ _, _, rfl, dk, _, rfl, DPut.k (k := Sum.inl (g : Int)) (P2.s _ _ kd2) (by rw [kM_len, nums_len, sizeLine_eq]; have := S.ri.len; omega), ?_⟩
    have hgn : ((g : Nat) : Int) ∉ numsOf kp := S.ri.not
    rw [put_kM inl_inj hgn]
    have P3 := P2.upd (o' := .dK (kM Sum.inl (numsOf kp ++ [(g : Int)]) (setA KA (g : Int) lw))) kd2
    have kl2 : ∀ e, e ∈ kp → upd (upd (upd Hr p (.ins C dx (flds (g + 1) dk dp))) lw (.lst ((linesWords line).map V.str))) dk (.dK (kM Sum.inl (numsOf kp ++ [(g : Int)]) (setA KA (g : Int) lw))) (KA (e.1 : Int)) = some (.lst (e.2.map V.str)) := fun e he => by
      have h1 := S.kl e he
      have a1 : KA (e.1 : Int) ≠ p := ne_of h1 S.ob (by intro z; cases z)
      have a2 : KA (e.1 : Int) ≠ dk := ne_of h1 S.kd (by intro z; cases z)
      have a3 : KA (e.1 : Int) ≠ lw := ne_of_none (show upd Hr p (.ins C dx (flds (g + 1) dk dp)) (KA (e.1 : Int)) = some _ by rw [upd_ne a1]; exact h1) r1
      rw [upd_ne a2, upd_ne a3, upd_ne a1]
      exact h1
    have lw3 : upd (upd (upd Hr p (.ins C dx (flds (g + 1) dk dp))) lw (.lst ((linesWords line).map V.str))) dk (.dK (kM Sum.inl (numsOf kp ++ [(g : Int)]) (setA KA (g : Int) lw))) lw = some (.lst ((linesWords line).map V.str)) := by
      rw [upd_ne nlk.symm, upd_same]
    have ob3 : upd (upd (upd Hr p (.ins C dx (flds (g + 1) dk dp))) lw (.lst ((linesWords line).map V.str))) dk (.dK (kM Sum.inl (numsOf kp ++ [(g : Int)]) (setA KA (g : Int) lw))) p = some (.ins C dx (flds (g + 1) dk dp)) := by
      rw [upd_ne nkp.symm]; exact ob2
    have s03 : Same H0 (upd (upd (upd Hr p (.ins C dx (flds (g + 1) dk dp))) lw (.lst ((linesWords line).map V.str))) dk (.dK (kM Sum.inl (numsOf kp ++ [(g : Int)]) (setA KA (g : Int) lw)))) := fun b o e => by
      have h1 := S.s b o e
      have a1 : b ≠ p := ne_of_none e S.n1
      rw [upd_ne (ne_of_none e S.n2), upd_ne (ne_of_none (show upd Hr p (.ins C dx (flds (g + 1) dk dp)) b = some o by rw [upd_ne a1]; exact h1) r1), upd_ne a1]
      exact h1
    have kd3 : upd (upd (upd Hr p (.ins C dx (flds (g + 1) dk dp))) lw (.lst ((linesWords line).map V.str))) dk (.dK (kM Sum.inl (numsOf kp ++ [(g : Int)]) (setA KA (g : Int) lw))) dk = some (.dK (kM Sum.inl (numsOf kp ++ [(g : Int)]) (setA KA (g : Int) lw))) := upd_same
    generalize upd (upd (upd Hr p (.ins C dx (flds (g + 1) dk dp))) lw (.lst ((linesWords line).map V.str))) dk (.dK (kM Sum.inl (numsOf kp ++ [(g : Int)]) (setA KA (g : Int) lw))) = R at P3 kl2 lw3 ob3 s03 kd3
    generalize upd H2 dk (.dK (kM Sum.inl (numsOf kp ++ [(g : Int)]) (setA KA (g : Int) lw))) = H3 at P3 ⊢
    clear P1 P2 kd1 kd2 r1 s2 hw2 hlw ob2
    have hlx : ∀ x, ((g : Nat) : Int) ∉ linOf kp x := fun x h => hgn (by
      obtain ⟨e, he, q, _⟩ := lin_mem.mp h
      exact nums_mem.mpr ⟨e, he, q⟩)
    -- the loop
    refine ⟨_, rfl, lw, rfl, ⟨_, SqL.of (P3.s _ _ lw3)⟩, for_enum (K := K) (a := lw) (xs := (linesWords line).map V.str)
      (PutP R p line g lw dp kp)
      ⟨ws, WA, LA, linOf kp, plcOf kp, none, none, none, rfl, P3, fun x => by simp, fun x n hn => by rw [if_neg (fun e => hlx x (by rw [← e]; exact hn))], S.full⟩
      (fun i σ H4 _ ⟨_, _, _, _, _, _, _, _, _, Pq, _⟩ => SqL.of (Pq.s _ _ lw3)) ?_ ?_⟩
    · rintro i y σ H4 t hi ⟨ws, WA, LA, lin, plc, u, v, z, rfl, P4, eL, eP, full⟩ ht
      have hil : i < (linesWords line).length := by have := (List.getElem?_eq_some_iff.mp hi).1; simpa using this
      have hy : y = V.str (linesWords line)[i] := by
        rw [List.getElem?_map, List.getElem?_eq_getElem hil] at hi
        exact (Option.some.inj hi).symm
      subst hy
      have htk : (linesWords line).take (i + 1) = (linesWords line).take i ++ [(linesWords line)[i]] := by rw [List.take_add_one, List.getElem?_eq_getElem hil]; rfl
      have htl : ((linesWords line).take i).length = i := by rw [List.length_take]; omega
      have htm : ∀ x, x ∈ (linesWords line).take i → x ∈ linesWords line := fun x h => List.mem_of_mem_take h
      generalize hxw : (linesWords line)[i] = x at htk ⊢
      have P5 := P4.same (same_upd (o := .tup [.int i, .str x]) ht)
      have hwx : x ∈ linesWords line := by rw [← hxw]; exact List.getElem_mem hil
      refine ⟨t, _, rfl, SqT.of upd_same, rfl, _, _, rfl, _, _, rfl, rfl, ?_⟩
      generalize upd H4 t (.tup [.int i, .str x]) = H5 at P5 ⊢
      have wsb : ws.length ≤ 3000 := by
        have h1 := len_sub (xs := ws) (ys := allW kp ++ linesWords line) P5.nd fun x hx => by
          have h2 := full x hx
          rw [eL x] at h2
          by_cases h3 : linOf kp x = []
          · rw [h3, List.nil_append] at h2
            by_cases h4 : x ∈ (linesWords line).take i
            · exact List.mem_append_right _ (htm x h4)
            · rw [if_neg h4] at h2; exact absurd rfl h2
          · exact List.mem_append_left _ (lin_all h3)
        have h5 := allW_len (kp := kp) S.ri.2
        have h6 := S.ri.len
        rw [List.length_append] at h1
        omega
      have linb : (lin x).length ≤ 1000 := by
        have h1 := lin_len S.ri x
        rw [eL x, List.length_append]
        split <;> simp <;> omega
      have plcb : (g : Int) ∈ lin x → (plc x (g : Int)).length ≤ 1000 := fun h => by
        rw [eP x _ h, if_pos rfl]
        have := plOf_len x ((linesWords line).take i)
        omega
      refine ⟨_, rfl, p, C, dx, _, _, rfl, P5.s _ _ ob3, TC.cl, TC.nP, fl_p _ _ _, dp, rfl, .inl ⟨_, Rd.of P5.hp⟩, _, rfl, fun d0 hd0 => ⟨kM Sum.inr ws WA, Sum.inr x, ?_, rfl, by rw [kM_len, sizeLine_eq]; omega, fun v hv => ?_, fun hv => ?_⟩⟩
      · rw [upd_ne (ne_of_none P5.hp hd0)]
        exact P5.hp
      · rw [val_kM inr_inj] at hv
        by_cases hx : x ∈ ws
        · rw [if_pos hx] at hv
          cases hv
          exact touch_ok (P5.same (same_upd hd0)) hx linb plcb fun H' LA' P6 => put_turn hlx htk htl eL eP full (fun z hz => .inl hz) P6
        · rw [if_neg hx] at hv; cases hv
      · rw [val_kM inr_inj] at hv
        have hx : x ∉ ws := fun hx => by rw [if_pos hx] at hv; cases hv
        rw [put_kM inr_inj hx]
        have P6 := P5.word hx hd0
        have e2 : (V.ref d0) = V.ref (setA WA x d0 x) := by rw [setA_same]
        rw [e2]
        exact touch_ok P6 (by simp) linb plcb fun H' LA' P7 => put_turn hlx htk htl eL eP full (fun z hz => (List.mem_append.mp hz).imp id List.mem_singleton.mp) P7
    · rintro σ H4 ⟨ws, WA, LA, lin, plc, u, v, z, rfl, P4, eL, eP, full⟩
      refine ⟨_, rfl, k H4 ?_⟩
      rw [List.length_map, List.take_length] at eL eP
      have hri := S.ri.snoc hwl
      refine ⟨R, dx, dk, dp, ws, setA KA (g : Int) lw, WA, LA, P4.congr (fun x => by rw [eL x, lin_snoc]) (fun x n hn => ?_), fun x hx => ?_, ob3, S.n1, ?_, S.n2, fun e he => ?_, s03, hri⟩
      · rw [eP x n hn]
        unfold plcOf
        rw [words_snoc S.ri hwl]
        split <;> rfl
      · rw [lin_snoc, ← eL x]
        exact full x hx
      · rw [kd3]
        unfold DM.numsOf
        rw [List.map_append]
        rfl
      · rcases List.mem_append.mp he with h | h
        · have h1 := (S.ri.2 e h).1
          rw [setA_ne (show (e.1 : Int) ≠ (g : Int) by omega)]
          exact kl2 e h
        · rw [List.mem_singleton.mp h, setA_same]
          exact lw3
end
end K5


set_option linter.all false
set_option maxRecDepth 100000
set_option maxHeartbeats 4000000
namespace K5
open PySem L2 PyProof.Rows WS DM
section
variable {P : Program} {w : World} {K : PySem.W.Frag} {mg : Str → Option Value} {base : Heap}

/-- Shelf.strike -/
def spStr (C : Addr) : Sp := fun vs H Q _ => ∃ (p : Addr) (H0 : Hp) (g : Nat) (kp : DM.Kept) (n : Int), vs = [.ref p, .int n] ∧ ShelfAt C H0 H p g kp ∧ g ≤ 100 ∧
  ∀ H', ShelfAt C H0 H' p g (kp.filter fun e => decide ((e.1 : Int) ≠ n)) → Q (.bl (kp.any fun e => decide ((e.1 : Int) = n))) H'
abbrev NS : List Str := ["self", "number", "words", "word", "lines"]
theorem scS : FnScope NS ["self", "number"] (defScope sStr) := ⟨rfl, rfl, rfl, by decide +kernel, rfl, by decide +kernel, by decide +kernel⟩
theorem ok_str {f C : Addr} {fd : FuncData} (F : Fun K "strike" "Shelf.strike" sStr f fd) (T : Txt mg) (TC : TxtC K mg C) : FnOk P w K mg base CX0 1 f fd ["self", "number"] (spStr C) := by
  refine F.ok scS (fun vs H Q E h => ?_) (fun cdv A outer s H vs Q E hr h => ?_)
  · obtain ⟨p, H0, g, kp, n, rfl, _⟩ := h
    rfl
  · obtain ⟨p, H0, g, kp, n, rfl, ⟨Hr, dx, dk, dp, ws, KA, WA, LA, S⟩, hg, k⟩ := h
    have hu := hu_of hr
    refine ⟨_, pss_cons (ps_if (pt_cmp (pc_dnotin hu (pv 1) (pe_fld (pv 0) rfl))) (pss_one (ps_ret pe_bl)) pss_nil)
      (pss_cons (ps_set (i := 2) scS.nd rfl (Or.inl rfl) (pe_dpop1 (pe_fld (pv 0) rfl) (pv 1) ⟨rfl, rfl, rfl, rfl⟩))
      (pss_cons (ps_for PassesOwn.never rfl (pi_list (pe_callB (call_sortedSetS rfl) (by rfl) T.srt boot_sorted (pa_cons (pe_callTy (call_setOfS rfl) (by rfl) T.set PyProof.Rows.boot_set (pa_cons (pv 2) pa_nil)) pa_nil))) (pg_name (i := 3) scS.nd rfl (Or.inl rfl))
        (pss_cons (ps_set (i := 4) scS.nd rfl (Or.inl rfl) (pe_dget hu (pe_fld (pv 0) rfl) (pv 3) (fun _ _ => rfl)))
        (pss_cons (ps_expr (pe_dpop1 (pv 4) (pv 1) ⟨rfl, rfl, rfl, rfl⟩))
        (pss_one (ps_if (pt_cmpR op_eq (pe_callB call_lenD (by rfl) T.len PySem.boot_len (pa_cons (pv 4) pa_nil)) pe_int (nomark _)) (pss_one (ps_expr (pe_dpop1 (pe_fld (pv 0) rfl) (pv 3) ⟨rfl, rfl, rfl, rfl⟩))) pss_nil)))))
      (pss_one (ps_ret pe_bl)))), ?_⟩
    try dsimp only [noxK]
    refine ⟨_, rfl, _, rfl, p, C, dx, _, _, rfl, S.obH, TC.cl, TC.nK, fl_k _ _ _, dk, _, rfl, DGet.k (k := Sum.inl n) S.kdH, _, rfl, ?_⟩
    rw [val_kM inl_inj]
    by_cases hn : n ∈ numsOf kp
    · rw [if_pos hn]
      refine iteF ?_
      obtain ⟨e, he, rfl⟩ := nums_mem.mp hn
      have hk1 : (kp.any fun e' => decide ((e'.1 : Int) = (e.1 : Int))) = true := List.any_eq_true.mpr ⟨e, he, decide_eq_true rfl⟩
      rw [hk1] at k
      -- words = self.kept.pop(number)
      refine ⟨_, rfl, p, C, dx, _, _, rfl, S.obH, TC.cl, TC.nK, fl_k _ _ _, dk, rfl, .inl ⟨_, Rd.of S.kdH⟩, _, rfl, kM Sum.inl (numsOf kp) KA, Sum.inl (e.1 : Int), _, S.kdH, rfl, (by rw [val_kM inl_inj, if_pos hn]), ?_⟩
      rw [drop_kM inl_inj]
      have P1 := S.pl.upd (o' := .dK (kM Sum.inl ((numsOf kp).filter fun m => decide (m ≠ (e.1 : Int))) KA)) S.kd
      have nk : ∀ e', e' ∈ kp → KA (e'.1 : Int) ≠ dk := fun e' he' => ne_of (S.kl e' he') S.kd (by intro z; cases z)
      have npk : p ≠ dk := ne_of S.ob S.kd (by intro z; cases z)
      have kl1 : ∀ e', e' ∈ kp → upd Hr dk (.dK (kM Sum.inl ((numsOf kp).filter fun m => decide (m ≠ (e.1 : Int))) KA)) (KA (e'.1 : Int)) = some (.lst (e'.2.map V.str)) := fun e' he' => by rw [upd_ne (nk e' he')]; exact S.kl e' he'
      have ob1 : upd Hr dk (.dK (kM Sum.inl ((numsOf kp).filter fun m => decide (m ≠ (e.1 : Int))) KA)) p = some (.ins C dx (flds g dk dp)) := by rw [upd_ne npk]; exact S.ob
      have kd1 : upd Hr dk (.dK (kM Sum.inl ((numsOf kp).filter fun m => decide (m ≠ (e.1 : Int))) KA)) dk = some (.dK (kM Sum.inl ((numsOf kp).filter fun m => decide (m ≠ (e.1 : Int))) KA)) := upd_same
      have s01 : Same H0 (upd Hr dk (.dK (kM Sum.inl ((numsOf kp).filter fun m => decide (m ≠ (e.1 : Int))) KA))) := fun b o q => by rw [upd_ne (ne_of_none q S.n2)]; exact S.s b o q
      generalize upd Hr dk (.dK (kM Sum.inl ((numsOf kp).filter fun m => decide (m ≠ (e.1 : Int))) KA)) = R1 at P1 kl1 ob1 kd1 s01
      generalize upd H dk (.dK (kM Sum.inl ((numsOf kp).filter fun m => decide (m ≠ (e.1 : Int))) KA)) = H1 at P1 ⊢
      have hwl := (S.ri.2 e he).2
      -- sorted(set(words))
      refine ⟨_, rfl, KA (e.1 : Int), e.2, rfl, SqL.of (P1.s _ _ (kl1 e he)), by omega, fun sa ks hsa hks hkm => ?_⟩
      refine ⟨sa, ks, rfl, upd_same, by omega, fun ls ss hls hpm hpw => ?_⟩
      have sA := same_upd (o := SetS w sa ks) hsa
      have sB := same_upd (o := .lst (ss.map V.str)) hls
      have P3 := P1.grow (sA.trans sB) (sA.free hls) upd_same
      have r1 : R1 ls = none := P1.s.free (sA.free hls)
      have kl3 : ∀ e', e' ∈ kp → upd R1 ls (.lst (ss.map V.str)) (KA (e'.1 : Int)) = some (.lst (e'.2.map V.str)) := fun e' he' => by rw [upd_ne (ne_of_none (kl1 e' he') r1)]; exact kl1 e' he'
      have ob3 : upd R1 ls (.lst (ss.map V.str)) p = some (.ins C dx (flds g dk dp)) := by rw [upd_ne (ne_of_none ob1 r1)]; exact ob1
      have kd3 : upd R1 ls (.lst (ss.map V.str)) dk = some (.dK (kM Sum.inl ((numsOf kp).filter fun m => decide (m ≠ (e.1 : Int))) KA)) := by rw [upd_ne (ne_of_none kd1 r1)]; exact kd1
      have s03 : Same H0 (upd R1 ls (.lst (ss.map V.str))) := fun b o q => by rw [upd_ne (ne_of_none (s01 b o q) r1)]; exact s01 b o q
      have ls3 : upd R1 ls (.lst (ss.map V.str)) ls = some (.lst (ss.map V.str)) := upd_same
      generalize upd R1 ls (.lst (ss.map V.str)) = R at P3 kl3 ob3 kd3 s03 ls3
      generalize upd (upd H1 sa (SetS w sa ks)) ls (.lst (ss.map V.str)) = H3 at P3 ⊢
      have ssm : ∀ x, x ∈ ss ↔ x ∈ e.2 := fun x => by rw [hpm.mem_iff, hkm x]
      have ssn : ss.Nodup := hpw.imp fun h z => by rw [z] at h; exact ltS_irrefl _ h
      clear P1 kl1 ob1 kd1 s01 r1 sA sB hls hsa
      refine ⟨ls, rfl, ⟨_, SqL.of (P3.s _ _ ls3)⟩, for_list (K := K) (a := ls) (xs := ss.map V.str)
        (fun i σ H4 => ∃ (ws : List Str) (lin : Str → List Int) (u v : Option V), σ = [some (.ref p), some (.int (e.1 : Int)), some (.ref (KA (e.1 : Int))), u, v] ∧ PlAt R H4 dp ws WA LA lin (plcOf kp) ∧
          (∀ x, lin x = if x ∈ ss.take i then (linOf kp x).filter fun m => decide (m ≠ (e.1 : Int)) else linOf kp x) ∧ ∀ x, x ∈ ws → lin x ≠ [])
        ⟨ws, linOf kp, none, none, rfl, P3, fun x => by simp, S.full⟩ (fun i σ H4 _ ⟨_, _, _, _, _, Pq, _⟩ => SqL.of (Pq.s _ _ ls3)) ?_ ?_⟩
      · rintro i y σ H4 hi ⟨ws, lin, u, v, rfl, P4, eL, full⟩
        have hil : i < ss.length := by have := (List.getElem?_eq_some_iff.mp hi).1; simpa using this
        have hy : y = V.str ss[i] := by
          rw [List.getElem?_map, List.getElem?_eq_getElem hil] at hi
          exact (Option.some.inj hi).symm
        subst hy
        have htk : ss.take (i + 1) = ss.take i ++ [ss[i]] := by rw [List.take_add_one, List.getElem?_eq_getElem hil]; rfl
        have hni : ss[i] ∉ ss.take i := fun h => by
          obtain ⟨j, hj, q⟩ := List.mem_iff_getElem.mp h
          rw [List.length_take] at hj
          rw [List.getElem_take] at q
          have := (List.getElem_inj (h₀ := by omega) (h₁ := hil) ssn).mp q
          omega
        have hxe : ss[i] ∈ e.2 := (ssm _).mp (List.getElem_mem hil)
        generalize ss[i] = x at htk hni hxe ⊢
        have lx : lin x = linOf kp x := by rw [eL x, if_neg hni]
        have nin : (e.1 : Int) ∈ lin x := by rw [lx]; exact lin_mem.mpr ⟨e, he, rfl, hxe⟩
        have hxw : x ∈ ws := P4.mem x fun z => by rw [z] at nin; cases nin
        -- lines = self.places[word]
        refine ⟨_, rfl, p, C, dx, _, _, rfl, P4.s _ _ ob3, TC.cl, TC.nP, fl_p _ _ _, _, rfl, dp, V.ref (WA x), rfl, (by
          have h := DGet.k (k := Sum.inr x) P4.hp
          rw [val_kM inr_inj, if_pos hxw] at h
          exact h), ?_⟩
        -- lines.pop(number)
        refine ⟨_, rfl, WA x, rfl, .inl ⟨_, Rd.of (P4.hd x hxw)⟩, _, rfl, kM Sum.inl (lin x) (LA x), Sum.inl (e.1 : Int), _, P4.hd x hxw, rfl, (by rw [val_kM inl_inj, if_pos nin]), ?_⟩
        rw [drop_kM inl_inj]
        have P5 := P4.unline (y := x) (ls := (lin x).filter fun m => decide (m ≠ (e.1 : Int))) hxw fun m hm => (List.mem_filter.mp hm).1
        have hd5 := P5.hd x hxw
        rw [show setN lin x ((lin x).filter fun m => decide (m ≠ (e.1 : Int))) x = (lin x).filter fun m => decide (m ≠ (e.1 : Int)) from if_pos rfl] at hd5
        have eL5 : ∀ z, setN lin x ((lin x).filter fun m => decide (m ≠ (e.1 : Int))) z = if z ∈ ss.take (i + 1) then (linOf kp z).filter fun m => decide (m ≠ (e.1 : Int)) else linOf kp z := fun z => by
          rw [htk]
          by_cases hz : z = x
          · subst hz
            rw [show setN lin z _ z = _ from if_pos rfl, if_pos (by simp), lx]
          · rw [show setN lin x _ z = lin z from if_neg hz, eL z]
            have : (z ∈ ss.take i ++ [x]) ↔ z ∈ ss.take i := by simp [hz]
            simp only [this]
        have full5 : ∀ z, z ∈ ws → z ≠ x → setN lin x ((lin x).filter fun m => decide (m ≠ (e.1 : Int))) z ≠ [] := fun z hz hzx => by
          rw [show setN lin x _ z = lin z from if_neg hzx]
          exact full z hz
        have lin5 : setN lin x ((lin x).filter fun m => decide (m ≠ (e.1 : Int))) x = (lin x).filter fun m => decide (m ≠ (e.1 : Int)) := if_pos rfl
        generalize setN lin x ((lin x).filter fun m => decide (m ≠ (e.1 : Int))) = lin' at P5 eL5 full5 lin5
        generalize upd H4 (WA x) (.dK (kM Sum.inl ((lin x).filter fun m => decide (m ≠ (e.1 : Int))) (LA x))) = H5 at P5 hd5 ⊢
        -- if len(lines) == 0
        refine ⟨_, rfl, WA x, _, rfl, hd5, rfl, _, rfl, ?_⟩
        rw [kM_len, ← lin5]
        refine iteI (fun h0 => ?_) (fun h0 => ?_)
        · have l0 : lin' x = [] := List.length_eq_zero_iff.mp (by omega)
          have P6 := P5.unword l0
          refine ⟨_, rfl, p, C, dx, _, _, rfl, P5.s _ _ ob3, TC.cl, TC.nP, fl_p _ _ _, dp, rfl, .inl ⟨_, Rd.of P5.hp⟩, _, rfl, kM Sum.inr ws WA, Sum.inr x, _, P5.hp, rfl, (by rw [val_kM inr_inj, if_pos hxw]), ?_⟩
          rw [drop_kM inr_inj]
          exact ⟨_, lin', _, _, rfl, P6, eL5, fun z hz => full5 z (List.mem_filter.mp hz).1 (of_decide_eq_true (List.mem_filter.mp hz).2)⟩
        · refine ⟨ws, lin', _, _, rfl, P5, eL5, fun z hz => ?_⟩
          by_cases hzx : z = x
          · subst hzx
            exact fun q => h0 (by rw [q]; rfl)
          · exact full5 z hz hzx
      · rintro σ H4 ⟨ws, lin, u, v, rfl, P4, eL, full⟩
        refine k H4 ?_
        rw [List.length_map, List.take_length] at eL
        have eL2 : ∀ x, lin x = linOf (kp.filter fun e' => decide ((e'.1 : Int) ≠ (e.1 : Int))) x := fun x => by
          rw [eL x, lin_strike]
          by_cases hx : x ∈ ss
          · rw [if_pos hx]
          · rw [if_neg hx]
            refine (List.filter_eq_self.mpr fun m hm => ?_).symm
            rw [decide_eq_true_eq]
            intro q
            rw [q, lin_words S.ri, wordsAt_of S.ri.1 he] at hm
            exact hx ((ssm x).mpr hm)
        refine ⟨R, dx, dk, dp, ws, KA, WA, LA, P4.congr eL2 (fun x m hm => ?_), fun x hx => ?_, ob3, S.n1, ?_, S.n2, fun e' he' => kl3 e' (List.mem_filter.mp he').1, s03, S.ri.filter _⟩
        · unfold plcOf
          rw [words_strike kp]
          intro q
          rw [eL2 x, lin_strike] at hm
          exact of_decide_eq_true (List.mem_filter.mp hm).2 q
        · rw [← eL2 x]; exact full x hx
        · rw [kd3]
          unfold DM.numsOf
          rw [List.filter_map]
          rfl
    · rw [if_neg hn]
      refine iteT ?_
      have hk1 : (kp.any fun e => decide ((e.1 : Int) = n)) = false := by
        rw [List.any_eq_false]
        intro e he q
        exact hn (nums_mem.mpr ⟨e, he, of_decide_eq_true q⟩)
      rw [hk1] at k
      refine k H ?_
      have e1 : (kp.filter fun e => decide ((e.1 : Int) ≠ n)) = kp := List.filter_eq_self.mpr fun e he => decide_eq_true fun q => hn (nums_mem.mpr ⟨e, he, q⟩)
      rw [e1]
      exact ⟨Hr, dx, dk, dp, ws, KA, WA, LA, S⟩

/-- Shelf.numbers -/
def spNums (C : Addr) : Sp := fun vs H Q _ => ∃ (p : Addr) (H0 : Hp) (g : Nat) (kp : DM.Kept), vs = [.ref p] ∧ ShelfAt C H0 H p g kp ∧ g < 64 ∧
  ∀ (l : Addr) (H' : Hp), H l = none → Same H H' → H' l = some (.lst ((numsOf kp).map V.int)) → Q (.ref l) H'
theorem scNu : FnScope ["self"] ["self"] (defScope sNums) := ⟨rfl, rfl, rfl, by decide +kernel, rfl, by decide +kernel, by decide +kernel⟩
theorem ok_nums {f C : Addr} {fd : FuncData} (F : Fun K "numbers" "Shelf.numbers" sNums f fd) (T : Txt mg) (TC : TxtC K mg C) : FnOk P w K mg base CX0 1 f fd ["self"] (spNums C) := by
  refine F.ok scNu (fun vs H Q E h => ?_) (fun cdv A outer s H vs Q E hr h => ?_)
  · obtain ⟨p, H0, g, kp, rfl, _⟩ := h
    rfl
  · obtain ⟨p, H0, g, kp, rfl, ⟨Hr, dx, dk, dp, ws, KA, WA, LA, S⟩, hg, k⟩ := h
    refine ⟨_, pss_one (ps_ret (pe_callB (call_sortedDI rfl) (by rfl) T.srt boot_sorted (pa_cons (pe_fld (pv 0) rfl) pa_nil))), ?_⟩
    try dsimp only [noxK]
    refine ⟨_, rfl, p, C, dx, _, _, rfl, S.obH, TC.cl, TC.nK, fl_k _ _ _, dk, _, numsOf kp, rfl, S.kdH, kM_keys, nodup_lt S.ri.nums, by rw [nums_len]; have := S.ri.len; omega, fun l ns hl hp hpw => ?_⟩
    have e : ns = numsOf kp := rise_ext hpw S.ri.nums fun n => hp.mem_iff
    subst e
    exact k l _ hl (same_upd hl) upd_same

/-- Shelf.numbers_with -/
def withAll (kp : DM.Kept) (xs : List Str) : DM.Kept := kp.filter fun e => xs.all fun x => decide (x ∈ e.2)
def spNW (K : PySem.W.Frag) (C : Addr) : Sp := fun vs H Q _ => ∃ (p a : Addr) (H0 : Hp) (g : Nat) (kp : DM.Kept) (xs : List Str), vs = [.ref p, .ref a] ∧ ShelfAt C H0 H p g kp ∧ SqL K H a (xs.map V.str) ∧ g < 64 ∧
  ∀ (l : Addr) (H' : Hp), H l = none → Same H H' → H' l = some (.lst ((numsOf (withAll kp xs)).map V.int)) → Q (.ref l) H'
abbrev NN : List Str := ["self", "words", "numbers", "word"]
theorem scNW : FnScope NN ["self", "words"] (defScope sNW) := ⟨rfl, rfl, rfl, by decide +kernel, rfl, by decide +kernel, by decide +kernel⟩
theorem withAll_take {kp : DM.Kept} {xs : List Str} {i : Nat} (hi : i < xs.length) : withAll kp (xs.take (i + 1)) = (withAll kp (xs.take i)).filter fun e => decide (xs[i] ∈ e.2) := by
  unfold withAll
  rw [List.filter_filter, List.take_add_one, List.getElem?_eq_getElem hi]
  refine List.filter_congr fun e _ => ?_
  rw [List.all_append]
  simp [Bool.and_comm]
theorem ok_nw {f fN fB C : Addr} {fd dN dB : FuncData} (F : Fun K "numbers_with" "Shelf.numbers_with" sNW f fd) (T : Txt mg) (TC : TxtC K mg C) (FN : Fun K "numbers" "Shelf.numbers" sNums fN dN) (bN : Binds K dN ["self"] []) (mN : Meth K C "numbers" fN)
    (FB : Fun K "in_both" "in_both" sBoth fB dB) (bB : Binds K dB ["ones", "others"] []) (mB : mg "in_both" = some (.ref fB)) : FnOk P w K mg base CX0 2 f fd ["self", "words"] (spNW K C) := by
  have GN : FnOk P w K mg base CX0 1 fN dN ["self"] (spNums C) := ok_nums FN T TC
  have GB : FnOk P w K mg base CX0 1 fB dB ["ones", "others"] _ := ok_both FB T
  refine F.ok scNW (fun vs H Q E h => ?_) (fun cdv A outer s H vs Q E hr h => ?_)
  · obtain ⟨p, a, H0, g, kp, xs, rfl, _⟩ := h
    rfl
  · obtain ⟨p, a, H0, g, kp, xs, rfl, S0, hA, hg, k⟩ := h
    have hu := hu_of hr
    refine ⟨_, pss_cons (ps_set (i := 2) scNW.nd rfl (Or.inl rfl) (pe_meth0 (pv 0) TC.cl mN GN hr bN .nil pass0))
      (pss_cons (ps_for PassesOwn.never rfl (pi_list (pv 1)) (pg_name (i := 3) scNW.nd rfl (Or.inl rfl))
        (pss_one (ps_set (i := 2) scNW.nd rfl (Or.inl rfl) (pe_call GB hr rfl mB FB.kp bB .nil pass0 (pa_cons (pv 2) (pa_cons (pe_callB (call_sortedDI rfl) (by rfl) T.srt boot_sorted (pa_cons (pe_dget2 hu (pe_fld (pv 0) rfl) (pv 3) pe_dnewK ⟨rfl, rfl, rfl, rfl⟩) pa_nil)) pa_nil))))))
      (pss_one (ps_ret (pv 2)))), ?_⟩
    try dsimp only [noxK]
    have hri := S0.rise
    obtain ⟨Hr, dx, dk, dp, ws, KA, WA, LA, S⟩ := id S0
    refine ⟨_, rfl, p, dx, _, rfl, S.obH, fl_no _ _ _ (by decide +kernel) (by decide +kernel) (by decide +kernel), p, H0, g, kp, rfl, S0, hg, fun l1 H1 hl1 s1 h1 => ?_⟩
    refine ⟨_, rfl, a, rfl, ⟨_, s1.seq hA⟩, for_list (K := K) (a := a) (xs := xs.map V.str) (fun i σ H2 => ∃ (l : Addr) (v : Option V), σ = [some (.ref p), some (.ref a), some (.ref l), v] ∧ H l = none ∧ Same H H2 ∧ H2 l = some (.lst ((numsOf (withAll kp (xs.take i))).map V.int)))
      ⟨l1, none, rfl, hl1, s1, by rw [h1, show withAll kp (xs.take 0) = kp from List.filter_eq_self.mpr fun _ _ => rfl]⟩ (fun i σ H2 _ ⟨_, _, _, _, s2, _⟩ => s2.seq hA) ?_ ?_⟩
    · rintro i y σ H2 hi ⟨l, v, rfl, hl, s2, h2⟩
      have hil : i < xs.length := by have := (List.getElem?_eq_some_iff.mp hi).1; simpa using this
      have hy : y = V.str xs[i] := by
        rw [List.getElem?_map, List.getElem?_eq_getElem hil] at hi
        exact (Option.some.inj hi).symm
      subst hy
      have P2 := S.pl.same s2
      have hwl : (numsOf (withAll kp (xs.take i))).length < 64 := by
        rw [nums_len]
        have h3 : (withAll kp (xs.take i)).length ≤ kp.length := List.length_filter_le _ _
        have := hri.len
        omega
      have hll : (linOf kp xs[i]).length < 64 := by have := lin_len hri xs[i]; omega
      refine ⟨_, rfl, _, rfl, p, C, dx, _, _, rfl, P2.s _ _ S.ob, TC.cl, TC.nP, fl_p _ _ _, dp, rfl, .inl ⟨_, Rd.of P2.hp⟩, _, rfl, fun d0 hd0 => ⟨_, DGet.k (k := Sum.inr xs[i]) (by rw [upd_ne (ne_of_none P2.hp hd0)]; exact P2.hp), ?_⟩⟩
      have s3 := same_upd (o := .dK []) hd0
      obtain ⟨q, hq1, hq2⟩ : ∃ q : Addr, (valV (kM Sum.inr ws WA) (Sum.inr xs[i])).getD (V.ref d0) = V.ref q ∧ ∃ kvs, upd H2 d0 (.dK []) q = some (.dK kvs) ∧ kvs.map (·.1) = (linOf kp xs[i]).map Sum.inl := by
        rw [val_kM inr_inj]
        by_cases hx : xs[i] ∈ ws
        · rw [if_pos hx]
          exact ⟨WA xs[i], rfl, _, (P2.same s3).hd _ hx, kM_keys⟩
        · rw [if_neg hx]
          have : linOf kp xs[i] = [] := Classical.byContradiction fun h => hx (P2.mem _ h)
          rw [this]
          exact ⟨d0, rfl, [], upd_same, rfl⟩
      obtain ⟨kvs, hq2, hq3⟩ := hq2
      refine ⟨q, kvs, linOf kp xs[i], by rw [hq1], hq2, hq3, nodup_lt (hri.lin _), hll, fun l4 ns hl4 hp4 hpw4 => ?_⟩
      have e4 : ns = linOf kp xs[i] := rise_ext hpw4 (hri.lin _) fun n => hp4.mem_iff
      subst e4
      have s4 := same_upd (o := .lst ((linOf kp xs[i]).map V.int)) hl4
      have s24 := s2.trans (s3.trans s4)
      refine ⟨l, l4, numsOf (withAll kp (xs.take i)), linOf kp xs[i], rfl, SqL.of ((s3.trans s4) _ _ h2), SqL.of upd_same, by omega, by omega, fun kr hn hk => ?_, fun l5 rs H5 hl5 s5 h5 pw5 m5 => ?_⟩
      · have := len_sub hn fun k' hk' => (hk k' hk').2
        omega
      · have e5 : rs = numsOf (withAll kp (xs.take (i + 1))) := by
          refine rise_ext pw5 (nums_rise ((hri.filter _).1)) fun n => ?_
          rw [m5 n, withAll_take hil]
          dsimp only
          rw [nums_mem, nums_mem, lin_mem]
          constructor
          · rintro ⟨⟨e, he, rfl⟩, e', he', q', hx'⟩
            have : e' = e := rise_eq hri.1 he' (List.mem_filter.mp he).1 (by omega)
            subst this
            exact ⟨e', List.mem_filter.mpr ⟨he, decide_eq_true hx'⟩, rfl⟩
          · rintro ⟨e, he, rfl⟩
            obtain ⟨h6, h7⟩ := List.mem_filter.mp he
            exact ⟨⟨e, h6, rfl⟩, e, (List.mem_filter.mp h6).1, rfl, of_decide_eq_true h7⟩
        subst e5
        exact ⟨l5, _, rfl, s24.free hl5, s24.trans s5, h5⟩
    · rintro σ H2 ⟨l, v, rfl, hl, s2, h2⟩
      rw [List.length_map, List.take_length] at h2
      exact ⟨_, rfl, k l H2 hl s2 h2⟩

/-- Shelf.places_in -/
def spPI (C : Addr) : Sp := fun vs H Q _ => ∃ (p : Addr) (H0 : Hp) (g : Nat) (kp : DM.Kept) (n : Int) (x : Str), vs = [.ref p, .int n, .str x] ∧ ShelfAt C H0 H p g kp ∧ n ∈ linOf kp x ∧
  ∀ (l : Addr) (H' : Hp), H l = none → Same H H' → H' l = some (.lst ((plcOf kp x n).map V.int)) → Q (.ref l) H'
theorem scPI : FnScope ["self", "number", "word"] ["self", "number", "word"] (defScope sPI) := ⟨rfl, rfl, rfl, by decide +kernel, rfl, by decide +kernel, by decide +kernel⟩
theorem ok_pi {f C : Addr} {fd : FuncData} (F : Fun K "places_in" "Shelf.places_in" sPI f fd) (T : Txt mg) (TC : TxtC K mg C) : FnOk P w K mg base CX0 1 f fd ["self", "number", "word"] (spPI C) := by
  refine F.ok scPI (fun vs H Q E h => ?_) (fun cdv A outer s H vs Q E hr h => ?_)
  · obtain ⟨p, H0, g, kp, n, x, rfl, _⟩ := h
    rfl
  · obtain ⟨p, H0, g, kp, n, x, rfl, ⟨Hr, dx, dk, dp, ws, KA, WA, LA, S⟩, hn, k⟩ := h
    have hu := hu_of hr
    refine ⟨_, pss_one (ps_ret (pe_callTy call_list_of (by rfl) T.list PyProof.Rows.boot_list (pa_cons (pe_dget hu (pe_dget hu (pe_fld (pv 0) rfl) (pv 2) (fun _ _ => rfl)) (pv 1) (fun _ _ => rfl)) pa_nil))), ?_⟩
    try dsimp only [noxK]
    have hx : x ∈ ws := S.pl.mem x fun z => by rw [z] at hn; cases hn
    refine ⟨_, rfl, p, C, dx, _, _, rfl, S.obH, TC.cl, TC.nP, fl_p _ _ _, _, rfl, dp, V.ref (WA x), rfl, (by
      have h := DGet.k (k := Sum.inr x) S.pl.hp
      rw [val_kM inr_inj, if_pos hx] at h
      exact h), _, rfl, WA x, V.ref (LA x n), rfl, (by
      have h := DGet.k (k := Sum.inl n) (S.pl.hd x hx)
      rw [val_kM inl_inj, if_pos hn] at h
      exact h), LA x n, _, rfl, .inl (SqL.of (S.pl.hl x hx n hn)), fun l hl => ?_⟩
    exact k l _ hl (same_upd hl) upd_same
end
end K5


set_option linter.all false
set_option maxRecDepth 100000
set_option maxHeartbeats 4000000
namespace K5
open PySem L2 PyProof.Rows WS DM
section
variable {P : Program} {w : World} {K : PySem.W.Frag} {mg : Str → Option Value} {base : Heap}

/-- the numbers of the lines kept that meet f, of those in wa -/
theorem nums_at {kp : DM.Kept} {i : Nat} (h : i < kp.length) : ((numsOf kp).map V.int)[i]? = some (V.int (kp[i].1 : Int)) := by
  unfold DM.numsOf
  rw [List.map_map, List.getElem?_map, List.getElem?_eq_getElem h]
  rfl
theorem filter_take {kp : DM.Kept} {i : Nat} (f : Nat × List Str → Bool) (h : i < kp.length) : (kp.take (i + 1)).filter f = (kp.take i).filter f ++ (if f kp[i] = true then [kp[i]] else []) := by
  rw [List.take_add_one, List.getElem?_eq_getElem h, List.filter_append]
  congr 1
  show [kp[i]].filter f = _
  rw [List.filter_cons, List.filter_nil]
theorem nums_snoc (kp : DM.Kept) (e : Nat × List Str) : (numsOf kp).map V.int ++ [V.int (e.1 : Int)] = (numsOf (kp ++ [e])).map V.int := by
  unfold DM.numsOf
  rw [List.map_append, List.map_append]
  rfl
theorem plc_of {kp : DM.Kept} {g : Nat} (hr : Rise kp g) {e : Nat × List Str} (he : e ∈ kp) (x : Str) : plcOf kp x (e.1 : Int) = plOf x e.2 := by
  unfold plcOf
  rw [wordsAt_of hr.1 he]

/-- found_near -/
def spFN (C : Addr) : Sp := fun vs H Q _ => ∃ (p : Addr) (H0 : Hp) (g : Nat) (kp : DM.Kept) (v z : Str) (m : Int), vs = [.ref p, .str v, .str z, .int m] ∧ ShelfAt C H0 H p g kp ∧ g < 64 ∧
  ∀ (l : Addr) (H' : Hp), H l = none → Same H H' → H' l = some (.lst ((pfound kp (.near v z m)).map V.int)) → Q (.ref l) H'
abbrev NFN : List Str := ["shelf", "one", "other", "many", "found", "number"]
theorem scFN : FnScope NFN ["shelf", "one", "other", "many"] (defScope sFNear) := ⟨rfl, rfl, rfl, by decide +kernel, rfl, by decide +kernel, by decide +kernel⟩
theorem ok_fn {f fW fP fN C : Addr} {fd dW dP dN : FuncData} (F : Fun K "found_near" "found_near" sFNear f fd) (TC : TxtC K mg C)
    (GW : FnOk P w K mg base CX0 2 fW dW ["self", "words"] (spNW K C)) (bW : Binds K dW ["self", "words"] []) (mW : Meth K C "numbers_with" fW)
    (GP : FnOk P w K mg base CX0 1 fP dP ["self", "number", "word"] (spPI C)) (bP : Binds K dP ["self", "number", "word"] []) (mP : Meth K C "places_in" fP)
    (GN : FnOk P w K mg base CX0 2 fN dN ["ones", "others", "many"] (spNear K)) (FN : Fun K "are_near" "are_near" sNear fN dN) (bN : Binds K dN ["ones", "others", "many"] []) (mN : mg "are_near" = some (.ref fN)) :
    FnOk P w K mg base CX0 3 f fd ["shelf", "one", "other", "many"] (spFN C) := by
  refine F.ok scFN (fun vs H Q E h => ?_) (fun cdv A outer s H vs Q E hr h => ?_)
  · obtain ⟨p, H0, g, kp, v, z, m, rfl, _⟩ := h
    rfl
  · obtain ⟨p, H0, g, kp, v, z, m, rfl, S0, hg, k⟩ := h
    have hr1 : Room 1 _ := hr.mono (by decide)
    refine ⟨_, pss_cons (ps_set (i := 4) scFN.nd rfl (Or.inl rfl) (pe_lst pa_nil))
      (pss_cons (ps_for PassesOwn.never rfl (pi_list (pe_meth (pv 0) TC.cl mW GW hr bW .nil pass0 (pa_cons (pe_lst (pa_cons (pv 1) (pa_cons (pv 2) pa_nil))) pa_nil))) (pg_name (i := 5) scFN.nd rfl (Or.inl rfl))
        (pss_one (ps_if (pt_val (pe_call GN hr rfl mN FN.kp bN .nil pass0 (pa_cons (pe_meth (pv 0) TC.cl mP GP hr1 bP .nil pass0 (pa_cons (pv 5) (pa_cons (pv 1) pa_nil))) (pa_cons (pe_meth (pv 0) TC.cl mP GP hr1 bP .nil pass0 (pa_cons (pv 5) (pa_cons (pv 2) pa_nil))) (pa_cons (pv 3) pa_nil)))))
          (pss_one (ps_expr (pe_bm PySem.F.plainAttrs_list PySem.slot_list_append PySem.F.type_list_append mt_append (pv 4) (pa_cons (pv 5) pa_nil)))) pss_nil)))
      (pss_one (ps_ret (pv 4)))), ?_⟩
    try dsimp only [noxK]
    have hri := S0.rise
    obtain ⟨Hr, dx, dk, dp, ws, KA, WA, LA, S⟩ := id S0
    refine ⟨by simp, fun lf hlf => ?_⟩
    have s1 := same_upd (o := .lst []) hlf
    have ob : ∀ {H1 : Hp}, Same H H1 → H1 p = some (.ins C dx (flds g dk dp)) := fun h => h _ _ S.obH
    refine ⟨_, rfl, p, dx, _, rfl, ob s1, fl_no _ _ _ (by decide +kernel) (by decide +kernel) (by decide +kernel), _, rfl, _, rfl, (by show (2 : Nat) ≤ sizeLine; decide +kernel), fun la hla => ?_⟩
    have s2 := s1.trans (same_upd (o := .lst [.str v, .str z]) hla)
    refine ⟨p, la, H0, g, kp, [v, z], rfl, S0.same s2, SqL.of upd_same, hg, fun ln H2 hln s3 h3 => ?_⟩
    have s13 : Same (upd H lf (.lst [])) H2 := (same_upd hla).trans s3
    have nln : H ln = none := s2.free hln
    have nlf : lf ≠ ln := ne_of_none (show upd (upd H lf (.lst [])) la (.lst [.str v, .str z]) lf = some (.lst []) from (same_upd hla) _ _ upd_same) hln
    have hwl : (withAll kp [v, z]).length ≤ 63 := by
      have h4 : (withAll kp [v, z]).length ≤ kp.length := List.length_filter_le _ _
      have := hri.len
      omega
    have sH2 : Same H H2 := s2.trans s3
    have lnH := h3
    -- the rest by what stands beside the list that is made
    refine ⟨ln, rfl, ⟨_, SqL.of h3⟩, for_list (K := K) (a := ln) (xs := (numsOf (withAll kp [v, z])).map V.int) (fun i σ H4 => ∃ u, σ = [some (.ref p), some (.str v), some (.str z), some (.int m), some (.ref lf), u] ∧ Same H H4 ∧ H4 ln = some (.lst ((numsOf (withAll kp [v, z])).map V.int)) ∧
        H4 lf = some (.lst ((numsOf (((withAll kp [v, z]).take i).filter fun e => fol (plOf v e.2) (plOf z e.2) m || fol (plOf z e.2) (plOf v e.2) m)).map V.int)))
      ⟨none, rfl, sH2, h3, s13 _ _ upd_same⟩ (fun i σ H4 _ ⟨_, _, _, h, _⟩ => SqL.of h) ?_ ?_⟩
    · rintro i y σ H4 hi ⟨u, rfl, s4, hn4, hf4⟩
      have hil : i < (withAll kp [v, z]).length := by have := (List.getElem?_eq_some_iff.mp hi).1; rw [List.length_map, nums_len] at this; exact this
      rw [nums_at hil] at hi
      cases hi
      have heW : (withAll kp [v, z])[i] ∈ withAll kp [v, z] := List.getElem_mem hil
      rw [filter_take _ hil]
      generalize (withAll kp [v, z])[i] = e at heW ⊢
      obtain ⟨he, hall⟩ := List.mem_filter.mp heW
      have hv : v ∈ e.2 := of_decide_eq_true (List.all_eq_true.mp hall v (by simp))
      have hz : z ∈ e.2 := of_decide_eq_true (List.all_eq_true.mp hall z (by simp))
      refine ⟨_, rfl, p, dx, _, rfl, ob s4, fl_no _ _ _ (by decide +kernel) (by decide +kernel) (by decide +kernel), _, rfl, _, rfl, p, H0, g, kp, (e.1 : Int), v, rfl, S0.same s4, lin_mem.mpr ⟨e, he, rfl, hv⟩, fun l5 H5 hl5 s5 h5 => ?_⟩
      refine ⟨_, rfl, p, dx, _, rfl, ob (s4.trans s5), fl_no _ _ _ (by decide +kernel) (by decide +kernel) (by decide +kernel), _, rfl, _, rfl, p, H0, g, kp, (e.1 : Int), z, rfl, S0.same (s4.trans s5), lin_mem.mpr ⟨e, he, rfl, hz⟩, fun l6 H6 hl6 s6 h6 => ?_⟩
      rw [plc_of hri he] at h5 h6
      refine ⟨_, rfl, l5, l6, _, _, m, rfl, SqL.of (s6 _ _ h5), SqL.of h6, plOf_rise _ _, plOf_rise _ _, _, rfl, ?_⟩
      have s46 := s5.trans s6
      refine iteB (fun hb => ?_) (fun hb => ?_)
      · rw [if_pos hb]
        refine ⟨_, rfl, .inl ⟨rfl, _, SqL.of (s46 _ _ hf4)⟩, _, rfl, lf, _, _, rfl, rfl, s46 _ _ hf4, ?_, ?_⟩
        · rw [List.length_map, nums_len, sizeLine_eq]
          have h7 : (((withAll kp [v, z]).take i).filter fun e => fol (plOf v e.2) (plOf z e.2) m || fol (plOf z e.2) (plOf v e.2) m).length ≤ _ := List.length_filter_le _ _
          rw [List.length_take] at h7
          omega
        · refine ⟨_, rfl, fun b o q => ?_, ?_, ?_⟩
          · rw [upd_ne (ne_of_none q hlf)]
            exact s46 b o (s4 b o q)
          · rw [upd_ne nlf.symm]
            exact s46 _ _ hn4
          · rw [upd_same, nums_snoc]
      · rw [if_neg (by rw [hb]; exact Bool.false_ne_true), List.append_nil]
        exact ⟨_, rfl, s4.trans s46, s46 _ _ hn4, s46 _ _ hf4⟩
    · rintro σ H4 ⟨u, rfl, s4, hn4, hf4⟩
      rw [List.length_map, nums_len, List.take_length] at hf4
      refine ⟨_, rfl, k lf H4 hlf s4 ?_⟩
      rw [hf4]
      unfold pfound withAll
      rw [List.filter_filter]
      congr 4
      refine List.filter_congr fun e _ => ?_
      simp only [pmeets, List.all_cons, List.all_nil, Bool.and_true]
      rw [Bool.and_comm]

/-- found_in_row -/
def spFR (K : PySem.W.Frag) (C : Addr) : Sp := fun vs H Q _ => ∃ (p a : Addr) (H0 : Hp) (g : Nat) (kp : DM.Kept) (rs : List Str), vs = [.ref p, .ref a] ∧ ShelfAt C H0 H p g kp ∧ SqL K H a (rs.map V.str) ∧ rs ≠ [] ∧ rs.length ≤ 100 ∧ g < 64 ∧
  ∀ (l : Addr) (H' : Hp), H l = none → Same H H' → H' l = some (.lst ((pfound kp (.row rs)).map V.int)) → Q (.ref l) H'
abbrev NFR : List Str := ["shelf", "words", "found", "number"]
theorem scFR : FnScope NFR ["shelf", "words"] (defScope sFRow) := ⟨rfl, rfl, rfl, by decide +kernel, rfl, by decide +kernel, by decide +kernel⟩
theorem ok_fr {f fW fP fN C : Addr} {fd dW dP dN : FuncData} (F : Fun K "found_in_row" "found_in_row" sFRow f fd) (TC : TxtC K mg C)
    (GW : FnOk P w K mg base CX0 2 fW dW ["self", "words"] (spNW K C)) (bW : Binds K dW ["self", "words"] []) (mW : Meth K C "numbers_with" fW)
    (GP : FnOk P w K mg base CX0 1 fP dP ["self", "number", "word"] (spPI C)) (bP : Binds K dP ["self", "number", "word"] []) (mP : Meth K C "places_in" fP)
    (GN : FnOk P w K mg base CX0 2 fN dN ["rows"] (spRow K)) (FN : Fun K "are_in_row" "are_in_row" sRow fN dN) (bN : Binds K dN ["rows"] []) (mN : mg "are_in_row" = some (.ref fN)) :
    FnOk P w K mg base CX0 3 f fd ["shelf", "words"] (spFR K C) := by
  refine F.ok scFR (fun vs H Q E h => ?_) (fun cdv A outer s H vs Q E hr h => ?_)
  · obtain ⟨p, a, H0, g, kp, rs, rfl, _⟩ := h
    rfl
  · obtain ⟨p, a, H0, g, kp, rs, rfl, S0, hA, hne, hrl, hg, k⟩ := h
    have hr1 : Room 1 _ := hr.mono (by decide)
    refine ⟨_, pss_cons (ps_set (i := 2) scFR.nd rfl (Or.inl rfl) (pe_lst pa_nil))
      (pss_cons (ps_for PassesOwn.never rfl (pi_list (pe_meth (pv 0) TC.cl mW GW hr bW .nil pass0 (pa_cons (pv 1) pa_nil))) (pg_name (i := 3) scFR.nd rfl (Or.inr rfl))
        (pss_one (ps_if (pt_val (pe_call GN hr rfl mN FN.kp bN .nil pass0 (pa_cons (pe_comp (fun _ _ h => h) rfl (compOk_of (sc := defScope sFRow) (N := NFR) (M := NFR) rfl rfl (by decide +kernel)) (pi_list (pv 1))
          (fun _ _ _ _ _ _ => pifs_nil) (fun _ _ _ _ _ _ => pe_meth (pv 0) TC.cl mP GP hr1 bP .nil pass0 (pa_cons (pv 3) (pa_cons (pv 4) pa_nil)))) pa_nil)))
          (pss_one (ps_expr (pe_bm PySem.F.plainAttrs_list PySem.slot_list_append PySem.F.type_list_append mt_append (pv 2) (pa_cons (pv 3) pa_nil)))) pss_nil)))
      (pss_one (ps_ret (pv 2)))), ?_⟩
    try dsimp only [noxK]
    have hri := S0.rise
    obtain ⟨Hr, dx, dk, dp, ws, KA, WA, LA, S⟩ := id S0
    refine ⟨by simp, fun lf hlf => ?_⟩
    have s1 := same_upd (o := .lst []) hlf
    have ob : ∀ {H1 : Hp}, Same H H1 → H1 p = some (.ins C dx (flds g dk dp)) := fun h => h _ _ S.obH
    refine ⟨_, rfl, p, dx, _, rfl, ob s1, fl_no _ _ _ (by decide +kernel) (by decide +kernel) (by decide +kernel), _, rfl, ?_⟩
    refine ⟨p, a, H0, g, kp, rs, rfl, S0.same s1, s1.seq hA, hg, fun ln H2 hln s3 h3 => ?_⟩
    have nlf : lf ≠ ln := ne_of_none upd_same hln
    have hwl : (withAll kp rs).length ≤ 63 := by
      have h4 : (withAll kp rs).length ≤ kp.length := List.length_filter_le _ _
      have := hri.len
      omega
    have sH2 : Same H H2 := s1.trans s3
    refine ⟨ln, rfl, ⟨_, SqL.of h3⟩, for_list (K := K) (a := ln) (xs := (numsOf (withAll kp rs)).map V.int) (fun i σ H4 => ∃ u, σ = [some (.ref p), some (.ref a), some (.ref lf), u] ∧ Same H H4 ∧ H4 ln = some (.lst ((numsOf (withAll kp rs)).map V.int)) ∧
        H4 lf = some (.lst ((numsOf (((withAll kp rs).take i).filter fun e => inRow (rs.map fun r => plOf r e.2))).map V.int)))
      ⟨none, rfl, sH2, h3, s3 _ _ upd_same⟩ (fun i σ H4 _ ⟨_, _, _, h, _⟩ => SqL.of h) ?_ ?_⟩
    · rintro i y σ H4 hi ⟨u, rfl, s4, hn4, hf4⟩
      have hil : i < (withAll kp rs).length := by have := (List.getElem?_eq_some_iff.mp hi).1; rw [List.length_map, nums_len] at this; exact this
      rw [nums_at hil] at hi
      cases hi
      have heW : (withAll kp rs)[i] ∈ withAll kp rs := List.getElem_mem hil
      rw [filter_take _ hil]
      generalize (withAll kp rs)[i] = e at heW ⊢
      obtain ⟨he, hall⟩ := List.mem_filter.mp heW
      have hin : ∀ x, x ∈ rs → x ∈ e.2 := fun x hx => of_decide_eq_true (List.all_eq_true.mp hall x hx)
      refine ⟨_, rfl, a, rfl, ⟨_, s4.seq hA⟩, ?_⟩
      dsimp only
      refine comp_listI (K := K) (xs := rs.map V.str) (fun j vs H5 => ∃ as : List Addr, vs = as.map V.ref ∧ as.length = j ∧ Same H4 H5 ∧ ∀ (t : Nat) (r : Addr) (x : Str), as[t]? = some r → rs[t]? = some x → H5 r = some (.lst ((plOf x e.2).map V.int)))
        (by rw [List.length_map, sizeLine_eq]; omega) ⟨[], rfl, rfl, Same.refl _, fun t r x h => by simp at h⟩ (fun j vs H5 ⟨_, _, _, s5, _⟩ => s5.seq (s4.seq hA)) (fun j x vs H5 hj hvl ⟨as, e1, e2, s5, h5⟩ Q' q' => ?_) (fun vs H5 hvl ⟨as, e1, e2, s5, h5⟩ => ?_)
      · have hjl : j < rs.length := by have := (List.getElem?_eq_some_iff.mp hj).1; simpa using this
        have hx : x = V.str rs[j] := by
          rw [List.getElem?_map, List.getElem?_eq_getElem hjl] at hj
          exact (Option.some.inj hj).symm
        subst hx
        refine ⟨_, rfl, p, dx, _, rfl, ob (s4.trans s5), fl_no _ _ _ (by decide +kernel) (by decide +kernel) (by decide +kernel), _, rfl, _, rfl, p, H0, g, kp, (e.1 : Int), rs[j], rfl, S0.same (s4.trans s5), lin_mem.mpr ⟨e, he, rfl, hin _ (List.getElem_mem hjl)⟩, fun l6 H6 hl6 s6 h6 => ?_⟩
        rw [plc_of hri he] at h6
        refine q' _ _ ⟨as ++ [l6], by rw [e1, List.map_append]; rfl, by rw [List.length_append, e2]; rfl, s5.trans s6, fun t r x' ht hx' => ?_⟩
        rcases Nat.lt_or_ge t as.length with c | c
        · rw [List.getElem?_append_left c] at ht
          exact s6 _ _ (h5 t r x' ht hx')
        · have : t = as.length := by
            have := (List.getElem?_eq_some_iff.mp ht).1
            rw [List.length_append] at this
            simp at this
            omega
          subst this
          rw [List.getElem?_concat_length] at ht
          cases ht
          rw [e2, List.getElem?_eq_getElem hjl] at hx'
          cases hx'
          exact h6
      · rw [List.length_map] at hvl e2
        refine fun lq hlq => ?_
        have s6 := same_upd (o := .lst vs) hlq
        have s46 := s5.trans s6
        refine ⟨lq, as, rs.map fun r => plOf r e.2, rfl, by rw [← e1]; exact SqL.of upd_same, ⟨by rw [e2, List.length_map], fun t r row ht hrow => ?_⟩, ?_, fun row hrow => ?_, by rw [List.length_map]; exact hrl, fun H7 s7 => ⟨_, rfl, ?_⟩⟩
        · rw [List.getElem?_map] at hrow
          cases q : rs[t]? with
          | none => rw [q] at hrow; cases hrow
          | some x =>
            rw [q] at hrow
            cases hrow
            exact SqL.of (s6 _ _ (h5 t r x ht q))
        · rw [List.length_map]
          exact List.length_pos_iff.mpr hne
        · obtain ⟨x, _, rfl⟩ := List.mem_map.mp hrow
          have h8 := plOf_len x e.2
          have h9 := (hri.2 e he).2
          omega
        · have s47 := s46.trans s7
          refine iteB (fun hb => ?_) (fun hb => ?_)
          · rw [if_pos hb]
            refine ⟨_, rfl, .inl ⟨rfl, _, SqL.of (s47 _ _ hf4)⟩, _, rfl, lf, _, _, rfl, rfl, s47 _ _ hf4, ?_, ?_⟩
            · rw [List.length_map, nums_len, sizeLine_eq]
              have h7 : (((withAll kp rs).take i).filter fun e => inRow (rs.map fun r => plOf r e.2)).length ≤ _ := List.length_filter_le _ _
              rw [List.length_take] at h7
              omega
            · refine ⟨_, rfl, fun b o q => ?_, ?_, ?_⟩
              · rw [upd_ne (ne_of_none q hlf)]
                exact s47 b o (s4 b o q)
              · rw [upd_ne nlf.symm]
                exact s47 _ _ hn4
              · rw [upd_same, nums_snoc]
          · rw [if_neg (by rw [hb]; exact Bool.false_ne_true), List.append_nil]
            exact ⟨_, rfl, s4.trans s47, s47 _ _ hn4, s47 _ _ hf4⟩
    · rintro σ H4 ⟨u, rfl, s4, hn4, hf4⟩
      rw [List.length_map, nums_len, List.take_length] at hf4
      refine ⟨_, rfl, k lf H4 hlf s4 ?_⟩
      rw [hf4]
      unfold pfound withAll
      rw [List.filter_filter]
      congr 4
      refine List.filter_congr fun e _ => ?_
      simp only [pmeets]
      rw [Bool.and_comm]
end
end K5


set_option linter.all false
set_option maxRecDepth 100000
set_option maxHeartbeats 4000000
namespace K5
open PySem L2 PyProof.Rows WS DM
theorem iteY {v : V} {A B : Prop} (h : A) : if decide (v = v) = true then A else B := by rw [decide_eq_true rfl]; exact iteT h
theorem iteN {a b : Str} {A B : Prop} (hab : a ≠ b) (h : B) : if decide (V.str a = V.str b) = true then A else B := by
  rw [decide_eq_false (fun z => hab (by cases z; rfl))]
  exact iteF h
theorem pf_len {kp : DM.Kept} {g : Nat} (hr : Rise kp g) (q : Qu) : (pfound kp q).length ≤ g := by
  unfold pfound
  rw [nums_len]
  exact Nat.le_trans (List.length_filter_le _ _) hr.len
theorem pf_rise {kp : DM.Kept} {g : Nat} (hr : Rise kp g) (q : Qu) : (pfound kp q).Pairwise (· < ·) := (hr.filter _).nums
theorem pf_sub {kp : DM.Kept} {q : Qu} {n : Int} (h : n ∈ pfound kp q) : n ∈ numsOf kp := by
  obtain ⟨e, he, h1, _⟩ := pfound_mem.mp h
  exact nums_mem.mpr ⟨e, he, h1⟩
theorem pf_word (kp : DM.Kept) (x : Str) : numsOf (withAll kp [x]) = pfound kp (.word x) := by
  unfold withAll pfound
  congr 1
  refine List.filter_congr fun e _ => ?_
  simp [pmeets]
theorem pf_and {kp : DM.Kept} {g : Nat} (hr : Rise kp g) {q r : Qu} {n : Int} : n ∈ pfound kp (.and q r) ↔ n ∈ pfound kp q ∧ n ∈ pfound kp r := by
  rw [pfound_mem, pfound_mem, pfound_mem]
  constructor
  · rintro ⟨e, he, h1, h2⟩
    simp only [pmeets, Bool.and_eq_true] at h2
    exact ⟨⟨e, he, h1, h2.1⟩, e, he, h1, h2.2⟩
  · rintro ⟨⟨e, he, h1, h2⟩, e', he', h1', h2'⟩
    have : e' = e := rise_eq hr.1 he' he (by omega)
    subst this
    exact ⟨e', he, h1, by simp only [pmeets, Bool.and_eq_true]; exact ⟨h2, h2'⟩⟩
theorem pf_or {kp : DM.Kept} {q r : Qu} {n : Int} : n ∈ pfound kp (.or q r) ↔ n ∈ pfound kp q ∨ n ∈ pfound kp r := by
  rw [pfound_mem, pfound_mem, pfound_mem]
  constructor
  · rintro ⟨e, he, h1, h2⟩
    simp only [pmeets, Bool.or_eq_true] at h2
    exact h2.imp (fun h => ⟨e, he, h1, h⟩) fun h => ⟨e, he, h1, h⟩
  · rintro (⟨e, he, h1, h2⟩ | ⟨e, he, h1, h2⟩)
    · exact ⟨e, he, h1, by simp only [pmeets, Bool.or_eq_true]; exact .inl h2⟩
    · exact ⟨e, he, h1, by simp only [pmeets, Bool.or_eq_true]; exact .inr h2⟩
theorem pf_not {kp : DM.Kept} {g : Nat} (hr : Rise kp g) {q : Qu} {n : Int} : n ∈ pfound kp (.not q) ↔ n ∈ numsOf kp ∧ n ∉ pfound kp q := by
  rw [pfound_mem, pfound_mem, nums_mem]
  constructor
  · rintro ⟨e, he, h1, h2⟩
    refine ⟨⟨e, he, h1⟩, ?_⟩
    rintro ⟨e', he', h1', h2'⟩
    have : e' = e := rise_eq hr.1 he' he (by omega)
    subst this
    simp only [pmeets, h2'] at h2
    cases h2
  · rintro ⟨⟨e, he, h1⟩, h2⟩
    refine ⟨e, he, h1, ?_⟩
    simp only [pmeets]
    cases h : pmeets q e.2 with
    | false => rfl
    | true => exact absurd ⟨e, he, h1, h⟩ h2
section
variable {P : Program} {w : World} {K : PySem.W.Frag} {mg : Str → Option Value} {base : Heap}

/-- found_by, of questions that lie less than n deep -/
def spFB (C : Addr) (n : Nat) : Sp := fun vs H Q _ => ∃ (p : Addr) (v : V) (H0 : Hp) (g : Nat) (kp : DM.Kept) (q : Qu), vs = [.ref p, v] ∧ ShelfAt C H0 H p g kp ∧ RQ H q v ∧ OkQ q ∧ q.depth < n ∧ g < 64 ∧
  ∀ (l : Addr) (H' : Hp), H l = none → Same H H' → H' l = some (.lst ((pfound kp q).map V.int)) → Q (.ref l) H'
abbrev NFB : List Str := ["shelf", "question", "kind"]
theorem scFB : FnScope NFB ["shelf", "question"] (defScope sFBy) := ⟨rfl, rfl, rfl, by decide +kernel, rfl, by decide +kernel, by decide +kernel⟩
theorem ok_fb {f fN fW fA fR fB fE fF C : Addr} {fd dN dW dA dR dB dE dF : FuncData} (F : Fun K "found_by" "found_by" sFBy f fd) (bF : Binds K fd ["shelf", "question"] []) (mF : mg "found_by" = some (.ref f)) (TC : TxtC K mg C)
    (GN : FnOk P w K mg base CX0 1 fN dN ["self"] (spNums C)) (bN : Binds K dN ["self"] []) (mN : Meth K C "numbers" fN)
    (GW : FnOk P w K mg base CX0 2 fW dW ["self", "words"] (spNW K C)) (bW : Binds K dW ["self", "words"] []) (mW : Meth K C "numbers_with" fW)
    (GA : FnOk P w K mg base CX0 3 fA dA ["shelf", "one", "other", "many"] (spFN C)) (FA : Fun K "found_near" "found_near" sFNear fA dA) (bA : Binds K dA ["shelf", "one", "other", "many"] []) (mA : mg "found_near" = some (.ref fA))
    (GR : FnOk P w K mg base CX0 3 fR dR ["shelf", "words"] (spFR K C)) (FR : Fun K "found_in_row" "found_in_row" sFRow fR dR) (bR : Binds K dR ["shelf", "words"] []) (mR : mg "found_in_row" = some (.ref fR))
    (GB : FnOk P w K mg base CX0 1 fB dB ["ones", "others"] (spMerge K fun k ns ms => k ∈ ns ∧ k ∈ ms)) (FB : Fun K "in_both" "in_both" sBoth fB dB) (bB : Binds K dB ["ones", "others"] []) (mB : mg "in_both" = some (.ref fB))
    (GE : FnOk P w K mg base CX0 1 fE dE ["ones", "others"] (spMerge K fun k ns ms => k ∈ ns ∨ k ∈ ms)) (FE : Fun K "in_either" "in_either" sEither fE dE) (bE : Binds K dE ["ones", "others"] []) (mE : mg "in_either" = some (.ref fE))
    (GF : FnOk P w K mg base CX0 1 fF dF ["ones", "others"] (spMerge K fun k ns ms => k ∈ ns ∧ k ∉ ms)) (FF : Fun K "in_first" "in_first" sFirst fF dF) (bFF : Binds K dF ["ones", "others"] []) (mFF : mg "in_first" = some (.ref fF)) :
    ∀ n : Nat, FnOk P w K mg base CX0 (4 + n) f fd ["shelf", "question"] (spFB C n)
  | 0 => by
    refine F.ok scFB (fun vs H Q E h => ?_) (fun cdv A outer s H vs Q E hr h => ?_)
    · obtain ⟨p, v, H0, g, kp, q, rfl, _⟩ := h
      rfl
    · obtain ⟨p, v, H0, g, kp, q, rfl, _, _, _, hd, _⟩ := h
      exact absurd hd (Nat.not_lt_zero _)
  | n + 1 => by
    have GI : FnOk P w K mg base CX0 (4 + n) f fd ["shelf", "question"] (spFB C n) := ok_fb F bF mF TC GN bN mN GW bW mW GA FA bA mA GR FR bR mR GB FB bB mB GE FE bE mE GF FF bFF mFF n
    refine F.ok scFB (fun vs H Q E h => ?_) (fun cdv A outer s H vs Q E hr h => ?_)
    · obtain ⟨p, v, H0, g, kp, q, rfl, _⟩ := h
      rfl
    · obtain ⟨p, v, H0, g, kp, q, rfl, S0, hq, hok, hdep, hg, k⟩ := h
      have hr1 : Room 1 _ := hr.mono (show 1 ≤ 4 + n by omega)
      have hr2 : Room 2 _ := hr.mono (show 2 ≤ 4 + n by omega)
      have hr3 : Room 3 _ := hr.mono (show 3 ≤ 4 + n by omega)
      refine ⟨_, pss_cons (ps_set (i := 2) scFB.nd rfl (Or.inl rfl) (pe_ix ix_tup (pv 1) pe_int fun _ _ => rfl))
        (pss_cons (ps_if (pt_cmpR op_eq (pv 2) pe_str (nomark _)) (pss_one (ps_ret (pe_meth (pv 0) TC.cl mW GW hr2 bW .nil pass0 (pa_cons (pe_lst (pa_cons (pe_ix ix_tup (pv 1) pe_int fun _ _ => rfl) pa_nil)) pa_nil)))) pss_nil)
        (pss_cons (ps_if (pt_cmpR op_eq (pv 2) pe_str (nomark _)) (pss_one (ps_ret (pe_call GA hr3 rfl mA FA.kp bA .nil pass0 (pa_cons (pv 0) (pa_cons (pe_ix ix_tup (pv 1) pe_int fun _ _ => rfl) (pa_cons (pe_ix ix_tup (pv 1) pe_int fun _ _ => rfl) (pa_cons (pe_ix ix_tup (pv 1) pe_int fun _ _ => rfl) pa_nil))))))) pss_nil)
        (pss_cons (ps_if (pt_cmpR op_eq (pv 2) pe_str (nomark _)) (pss_one (ps_ret (pe_call GR hr3 rfl mR FR.kp bR .nil pass0 (pa_cons (pv 0) (pa_cons (pe_ix ix_tup (pv 1) pe_int fun _ _ => rfl) pa_nil))))) pss_nil)
        (pss_cons (ps_if (pt_cmpR op_eq (pv 2) pe_str (nomark _)) (pss_one (ps_ret (pe_call GB hr1 rfl mB FB.kp bB .nil pass0 (pa_cons (pe_call GI hr rfl mF F.kp bF .nil pass0 (pa_cons (pv 0) (pa_cons (pe_ix ix_tup (pv 1) pe_int fun _ _ => rfl) pa_nil))) (pa_cons (pe_call GI hr rfl mF F.kp bF .nil pass0 (pa_cons (pv 0) (pa_cons (pe_ix ix_tup (pv 1) pe_int fun _ _ => rfl) pa_nil))) pa_nil))))) pss_nil)
        (pss_cons (ps_if (pt_cmpR op_eq (pv 2) pe_str (nomark _)) (pss_one (ps_ret (pe_call GE hr1 rfl mE FE.kp bE .nil pass0 (pa_cons (pe_call GI hr rfl mF F.kp bF .nil pass0 (pa_cons (pv 0) (pa_cons (pe_ix ix_tup (pv 1) pe_int fun _ _ => rfl) pa_nil))) (pa_cons (pe_call GI hr rfl mF F.kp bF .nil pass0 (pa_cons (pv 0) (pa_cons (pe_ix ix_tup (pv 1) pe_int fun _ _ => rfl) pa_nil))) pa_nil))))) pss_nil)
        (pss_one (ps_ret (pe_call GF hr1 rfl mFF FF.kp bFF .nil pass0 (pa_cons (pe_meth0 (pv 0) TC.cl mN GN hr1 bN .nil pass0) (pa_cons (pe_call GI hr rfl mF F.kp bF .nil pass0 (pa_cons (pv 0) (pa_cons (pe_ix ix_tup (pv 1) pe_int fun _ _ => rfl) pa_nil))) pa_nil))))))))))  , ?_⟩
      try dsimp only [noxK]
      have hri := S0.rise
      have ob : ∃ dx dk dp, ∀ {H1 : Hp}, Same H H1 → H1 p = some (.ins C dx (flds g dk dp)) := by
        obtain ⟨Hr, dx, dk, dp, ws, KA, WA, LA, S⟩ := id S0
        exact ⟨dx, dk, dp, fun h => h _ _ S.obH⟩
      obtain ⟨dx, dk, dp, ob⟩ := ob
      have pl := fun q => pf_len hri q
      cases q with
      | word x =>
        obtain ⟨a, rfl, ha⟩ := rq_word.mp hq
        refine ⟨_, rfl, a, _, _, _, rfl, rfl, SqT.of ha, atI_nat (j := 0) rfl, ?_⟩
        refine ⟨_, rfl, rfl, _, rfl, iteY ?_⟩
        refine ⟨_, rfl, p, dx, _, rfl, ob (Same.refl _), fl_no _ _ _ (by decide +kernel) (by decide +kernel) (by decide +kernel), _, rfl, a, _, _, _, rfl, rfl, SqT.of ha, atI_nat (j := 1) rfl, (by show (1 : Nat) ≤ sizeLine; decide +kernel), fun la hla => ?_⟩
        have s1 := same_upd (o := .lst [.str x]) hla
        refine ⟨p, la, H0, g, kp, [x], rfl, S0.same s1, SqL.of upd_same, hg, fun l H' hl s2 h2 => ?_⟩
        rw [pf_word] at h2
        exact k l H' (s1.free hl) (s1.trans s2) h2
      | near x y m =>
        obtain ⟨a, rfl, ha⟩ := rq_near.mp hq
        refine ⟨_, rfl, a, _, _, _, rfl, rfl, SqT.of ha, atI_nat (j := 0) rfl, ?_⟩
        refine ⟨_, rfl, rfl, _, rfl, iteN (by decide +kernel) ?_⟩
        refine ⟨_, rfl, rfl, _, rfl, iteY ?_⟩
        refine ⟨_, rfl, _, rfl, a, _, _, _, rfl, rfl, SqT.of ha, atI_nat (j := 1) rfl, _, rfl, a, _, _, _, rfl, rfl, SqT.of ha, atI_nat (j := 2) rfl, _, rfl, a, _, _, _, rfl, rfl, SqT.of ha, atI_nat (j := 3) rfl, ?_⟩
        exact ⟨p, H0, g, kp, x, y, m, rfl, S0, hg, k⟩
      | row rs =>
        obtain ⟨a, b, rfl, ha, hb⟩ := rq_row.mp hq
        obtain ⟨r1, r2, _⟩ := hok
        refine ⟨_, rfl, a, _, _, _, rfl, rfl, SqT.of ha, atI_nat (j := 0) rfl, ?_⟩
        refine ⟨_, rfl, rfl, _, rfl, iteN (by decide +kernel) ?_⟩
        refine ⟨_, rfl, rfl, _, rfl, iteN (by decide +kernel) ?_⟩
        refine ⟨_, rfl, rfl, _, rfl, iteY ?_⟩
        refine ⟨_, rfl, _, rfl, a, _, _, _, rfl, rfl, SqT.of ha, atI_nat (j := 1) rfl, ?_⟩
        exact ⟨p, b, H0, g, kp, rs, rfl, S0, SqL.of hb, r1, by omega, hg, k⟩
      | and q r =>
        obtain ⟨a, x, y, rfl, ha, hx, hy⟩ := rq_and.mp hq
        obtain ⟨o1, o2⟩ := hok
        have d1 : q.depth < n := by simp only [Qu.depth] at hdep; omega
        have d2 : r.depth < n := by simp only [Qu.depth] at hdep; omega
        refine ⟨_, rfl, a, _, _, _, rfl, rfl, SqT.of ha, atI_nat (j := 0) rfl, ?_⟩
        refine ⟨_, rfl, rfl, _, rfl, iteN (by decide +kernel) ?_⟩
        refine ⟨_, rfl, rfl, _, rfl, iteN (by decide +kernel) ?_⟩
        refine ⟨_, rfl, rfl, _, rfl, iteN (by decide +kernel) ?_⟩
        refine ⟨_, rfl, rfl, _, rfl, iteY ?_⟩
        refine ⟨_, rfl, _, rfl, a, _, _, _, rfl, rfl, SqT.of ha, atI_nat (j := 1) rfl, p, x, H0, g, kp, q, rfl, S0, hx, o1, d1, hg, fun l1 H1 hl1 s1 h1 => ?_⟩
        refine ⟨_, rfl, _, rfl, a, _, _, _, rfl, rfl, SqT.of (s1 _ _ ha), atI_nat (j := 2) rfl, p, y, H0, g, kp, r, rfl, S0.same s1, RD.same s1 hy, o2, d2, hg, fun l2 H2 hl2 s2 h2 => ?_⟩
        refine ⟨l1, l2, pfound kp q, pfound kp r, rfl, SqL.of (s2 _ _ h1), SqL.of h2, by have := pl q; omega, by have := pl r; omega, fun kr hn hk => ?_, fun l rs H3 hl s3 h3 pw m3 => ?_⟩
        · have := len_sub hn fun k' hk' => (hk k' hk').1
          have := pl q
          omega
        · have e : rs = pfound kp (.and q r) := rise_ext pw (pf_rise hri _) fun n => by rw [m3 n, pf_and hri]
          subst e
          exact k l H3 ((s1.trans s2).free hl) (s1.trans (s2.trans s3)) h3
      | or q r =>
        obtain ⟨a, x, y, rfl, ha, hx, hy⟩ := rq_or.mp hq
        obtain ⟨o1, o2⟩ := hok
        have d1 : q.depth < n := by simp only [Qu.depth] at hdep; omega
        have d2 : r.depth < n := by simp only [Qu.depth] at hdep; omega
        refine ⟨_, rfl, a, _, _, _, rfl, rfl, SqT.of ha, atI_nat (j := 0) rfl, ?_⟩
        refine ⟨_, rfl, rfl, _, rfl, iteN (by decide +kernel) ?_⟩
        refine ⟨_, rfl, rfl, _, rfl, iteN (by decide +kernel) ?_⟩
        refine ⟨_, rfl, rfl, _, rfl, iteN (by decide +kernel) ?_⟩
        refine ⟨_, rfl, rfl, _, rfl, iteN (by decide +kernel) ?_⟩
        refine ⟨_, rfl, rfl, _, rfl, iteY ?_⟩
        refine ⟨_, rfl, _, rfl, a, _, _, _, rfl, rfl, SqT.of ha, atI_nat (j := 1) rfl, p, x, H0, g, kp, q, rfl, S0, hx, o1, d1, hg, fun l1 H1 hl1 s1 h1 => ?_⟩
        refine ⟨_, rfl, _, rfl, a, _, _, _, rfl, rfl, SqT.of (s1 _ _ ha), atI_nat (j := 2) rfl, p, y, H0, g, kp, r, rfl, S0.same s1, RD.same s1 hy, o2, d2, hg, fun l2 H2 hl2 s2 h2 => ?_⟩
        refine ⟨l1, l2, pfound kp q, pfound kp r, rfl, SqL.of (s2 _ _ h1), SqL.of h2, by have := pl q; omega, by have := pl r; omega, fun kr hn hk => ?_, fun l rs H3 hl s3 h3 pw m3 => ?_⟩
        · have h5 := len_sub (ys := numsOf kp) hn fun k' hk' => (hk k' hk').elim pf_sub pf_sub
          rw [nums_len] at h5
          have := hri.len
          omega
        · have e : rs = pfound kp (.or q r) := rise_ext pw (pf_rise hri _) fun n => by rw [m3 n, pf_or]
          subst e
          exact k l H3 ((s1.trans s2).free hl) (s1.trans (s2.trans s3)) h3
      | not q =>
        obtain ⟨a, x, rfl, ha, hx⟩ := rq_not.mp hq
        have d1 : q.depth < n := by simp only [Qu.depth] at hdep; omega
        refine ⟨_, rfl, a, _, _, _, rfl, rfl, SqT.of ha, atI_nat (j := 0) rfl, ?_⟩
        refine ⟨_, rfl, rfl, _, rfl, iteN (by decide +kernel) ?_⟩
        refine ⟨_, rfl, rfl, _, rfl, iteN (by decide +kernel) ?_⟩
        refine ⟨_, rfl, rfl, _, rfl, iteN (by decide +kernel) ?_⟩
        refine ⟨_, rfl, rfl, _, rfl, iteN (by decide +kernel) ?_⟩
        refine ⟨_, rfl, rfl, _, rfl, iteN (by decide +kernel) ?_⟩
        refine ⟨_, rfl, p, dx, _, rfl, ob (Same.refl _), fl_no _ _ _ (by decide +kernel) (by decide +kernel) (by decide +kernel), p, H0, g, kp, rfl, S0, hg, fun l1 H1 hl1 s1 h1 => ?_⟩
        refine ⟨_, rfl, _, rfl, a, _, _, _, rfl, rfl, SqT.of (s1 _ _ ha), atI_nat (j := 1) rfl, p, x, H0, g, kp, q, rfl, S0.same s1, RD.same s1 hx, hok, d1, hg, fun l2 H2 hl2 s2 h2 => ?_⟩
        have h6 : (numsOf kp).length ≤ g := by rw [nums_len]; exact hri.len
        refine ⟨l1, l2, numsOf kp, pfound kp q, rfl, SqL.of (s2 _ _ h1), SqL.of h2, by omega, by have := pl q; omega, fun kr hn hk => ?_, fun l rs H3 hl s3 h3 pw m3 => ?_⟩
        · have := len_sub hn fun k' hk' => (hk k' hk').1
          omega
        · have e : rs = pfound kp (.not q) := rise_ext pw (pf_rise hri _) fun n => by rw [m3 n, pf_not hri]
          subst e
          exact k l H3 ((s1.trans s2).free hl) (s1.trans (s2.trans s3)) h3

/-- what answers a deed -/
def RAp (H : Hp) (kp : DM.Kept) (g : Nat) : Deed → V → Prop
  | .put _, v => v = .int (g : Int)
  | .strike n, v => v = .bl (kp.any fun e => decide ((e.1 : Int) = n))
  | .ask q, v => ∃ a, v = .ref a ∧ H a = some (.lst ((pfound kp q).map V.int))
/-- answer_to -/
def spAT (C : Addr) : Sp := fun vs H Q _ => ∃ (p : Addr) (v : V) (H0 : Hp) (g : Nat) (kp : DM.Kept) (d : Deed), vs = [.ref p, v] ∧ ShelfAt C H0 H p g kp ∧ RE H d v ∧ OkE d ∧ g < 64 ∧
  ∀ (v' : V) (H0' H' : Hp), Same H0 H0' → ShelfAt C H0' H' p (cAfter g d) (kAfter kp g d) → RAp H0' kp g d v' → Q v' H'
abbrev NAT : List Str := ["shelf", "deed", "kind"]
theorem scAT : FnScope NAT ["shelf", "deed"] (defScope sAnsTo) := ⟨rfl, rfl, rfl, by decide +kernel, rfl, by decide +kernel, by decide +kernel⟩
theorem ok_at {f fP fS fB C : Addr} {fd dP dS dB : FuncData} (F : Fun K "answer_to" "answer_to" sAnsTo f fd) (TC : TxtC K mg C)
    (GP : FnOk P w K mg base CX0 3 fP dP ["self", "line"] (spPut C)) (bP : Binds K dP ["self", "line"] []) (mP : Meth K C "put" fP)
    (GS : FnOk P w K mg base CX0 1 fS dS ["self", "number"] (spStr C)) (bS : Binds K dS ["self", "number"] []) (mS : Meth K C "strike" fS)
    (GB : FnOk P w K mg base CX0 10 fB dB ["shelf", "question"] (spFB C 6)) (FB : Fun K "found_by" "found_by" sFBy fB dB) (bB : Binds K dB ["shelf", "question"] []) (mB : mg "found_by" = some (.ref fB)) :
    FnOk P w K mg base CX0 11 f fd ["shelf", "deed"] (spAT C) := by
  refine F.ok scAT (fun vs H Q E h => ?_) (fun cdv A outer s H vs Q E hr h => ?_)
  · obtain ⟨p, v, H0, g, kp, d, rfl, _⟩ := h
    rfl
  · obtain ⟨p, v, H0, g, kp, d, rfl, S0, hd, hok, hg, k⟩ := h
    have hr1 : Room 1 _ := hr.mono (by decide)
    have hr3 : Room 3 _ := hr.mono (by decide)
    refine ⟨_, pss_cons (ps_set (i := 2) scAT.nd rfl (Or.inl rfl) (pe_ix ix_tup (pv 1) pe_int fun _ _ => rfl))
      (pss_cons (ps_if (pt_cmpR op_eq (pv 2) pe_str (nomark _)) (pss_one (ps_ret (pe_meth (pv 0) TC.cl mP GP hr3 bP .nil pass0 (pa_cons (pe_ix ix_tup (pv 1) pe_int fun _ _ => rfl) pa_nil)))) pss_nil)
      (pss_cons (ps_if (pt_cmpR op_eq (pv 2) pe_str (nomark _)) (pss_one (ps_ret (pe_meth (pv 0) TC.cl mS GS hr1 bS .nil pass0 (pa_cons (pe_ix ix_tup (pv 1) pe_int fun _ _ => rfl) pa_nil)))) pss_nil)
      (pss_one (ps_ret (pe_call GB hr rfl mB FB.kp bB .nil pass0 (pa_cons (pv 0) (pa_cons (pe_ix ix_tup (pv 1) pe_int fun _ _ => rfl) pa_nil))))))), ?_⟩
    try dsimp only [noxK]
    obtain ⟨Hr, dx, dk, dp, ws, KA, WA, LA, S⟩ := id S0
    cases d with
    | put l =>
      obtain ⟨a, rfl, ha⟩ := re_put.mp hd
      obtain ⟨h1, _, h2⟩ := hok
      refine ⟨_, rfl, a, _, _, _, rfl, rfl, SqT.of ha, atI_nat (j := 0) rfl, ?_⟩
      refine ⟨_, rfl, rfl, _, rfl, iteY ?_⟩
      exact ⟨_, rfl, p, dx, _, rfl, S.obH, fl_no _ _ _ (by decide +kernel) (by decide +kernel) (by decide +kernel), _, rfl, a, _, _, _, rfl, rfl, SqT.of ha, atI_nat (j := 1) rfl, p, H0, g, kp, l, rfl, S0, by omega, by omega, h2, fun H' S' => k _ H0 H' (Same.refl _) S' rfl⟩
    | strike n =>
      obtain ⟨a, rfl, ha⟩ := re_strike.mp hd
      refine ⟨_, rfl, a, _, _, _, rfl, rfl, SqT.of ha, atI_nat (j := 0) rfl, ?_⟩
      refine ⟨_, rfl, rfl, _, rfl, iteN (by decide +kernel) ?_⟩
      refine ⟨_, rfl, rfl, _, rfl, iteY ?_⟩
      exact ⟨_, rfl, p, dx, _, rfl, S.obH, fl_no _ _ _ (by decide +kernel) (by decide +kernel) (by decide +kernel), _, rfl, a, _, _, _, rfl, rfl, SqT.of ha, atI_nat (j := 1) rfl, p, H0, g, kp, n, rfl, S0, by omega, fun H' S' => k _ H0 H' (Same.refl _) S' rfl⟩
    | ask q =>
      obtain ⟨a, x, rfl, ha, hx⟩ := re_ask.mp hd
      obtain ⟨h1, h2⟩ := hok
      refine ⟨_, rfl, a, _, _, _, rfl, rfl, SqT.of ha, atI_nat (j := 0) rfl, ?_⟩
      refine ⟨_, rfl, rfl, _, rfl, iteN (by decide +kernel) ?_⟩
      refine ⟨_, rfl, rfl, _, rfl, iteN (by decide +kernel) ?_⟩
      refine ⟨_, rfl, _, rfl, a, _, _, _, rfl, rfl, SqT.of ha, atI_nat (j := 1) rfl, p, x, H0, g, kp, q, rfl, S0, hx, h1, by omega, hg, fun l H' hl s' h' => ?_⟩
      have n0 : H0 l = none := S0.beside.free hl
      exact k _ (upd H0 l (.lst ((pfound kp q).map V.int))) H' (same_upd n0) (S0.grow s' hl h') ⟨l, rfl, upd_same⟩
end
end K5


set_option linter.all false
set_option maxRecDepth 100000
set_option maxHeartbeats 4000000
namespace K5
open PySem L2 PyProof.Rows WS DM
/-! ### the index, as data -/
def intsD (ns : List Int) : Dat := .lst (.of (ns.map .int))
def lineD (kp : DM.Kept) (x : Str) (n : Int) : Dat := .tup (.of [.int n, intsD (plcOf kp x n)])
def wordD (kp : DM.Kept) (x : Str) : Dat := .tup (.of [.str x, .lst (.of ((linOf kp x).map (lineD kp x)))])
theorem rds_snoc {H : Hp} {d : Dat} {v : V} (hv : RD H d v) : ∀ {ds : List Dat} {vs : List V}, RDs H (.of ds) vs → RDs H (.of (ds ++ [d])) (vs ++ [v])
  | [], vs, h => by
    simp only [Dat.of, RDs] at h
    subst h
    simp only [List.nil_append, Dat.of, RDs]
    exact ⟨v, [], rfl, hv, rfl⟩
  | d' :: r, vs, h => by
    simp only [Dat.of, RDs] at h
    obtain ⟨u, s, rfl, h1, h2⟩ := h
    simp only [List.cons_append, Dat.of, RDs]
    exact ⟨u, s ++ [v], rfl, h1, rds_snoc hv h2⟩
theorem rds_nil {H : Hp} : RDs H (.of []) [] := by simp [Dat.of, RDs]
theorem rds_ints {H : Hp} : ∀ {ns : List Int} {vs : List V}, RDs H (.of (ns.map .int)) vs ↔ vs = ns.map V.int
  | [], vs => by simp [Dat.of, RDs]
  | w :: r, vs => by
    simp only [List.map_cons, Dat.of, RDs, RD]
    constructor
    · rintro ⟨v, s, rfl, rfl, h⟩
      rw [rds_ints.mp h]
    · rintro rfl
      exact ⟨_, _, rfl, rfl, rds_ints.mpr rfl⟩
theorem rd_ints {H : Hp} {ns : List Int} {v : V} : RD H (intsD ns) v ↔ ∃ a, v = .ref a ∧ H a = some (.lst (ns.map V.int)) := by
  simp only [intsD, RD]
  constructor
  · rintro ⟨a, vs, rfl, h, hr⟩
    rw [rds_ints] at hr
    subst hr
    exact ⟨a, rfl, h⟩
  · rintro ⟨a, rfl, h⟩
    exact ⟨a, _, rfl, h, rds_ints.mpr rfl⟩
theorem rd_line {H : Hp} {kp : DM.Kept} {x : Str} {n : Int} {v : V} : RD H (lineD kp x n) v ↔ ∃ a b, v = .ref a ∧ H a = some (.tup [.int n, .ref b]) ∧ H b = some (.lst ((plcOf kp x n).map V.int)) := by
  simp only [lineD, Dat.of, RD, RDs, rd_ints]
  constructor
  · rintro ⟨a, vs, rfl, h, _, _, rfl, rfl, _, _, rfl, ⟨b, rfl, hb⟩, rfl⟩
    exact ⟨a, b, rfl, h, hb⟩
  · rintro ⟨a, b, rfl, h, hb⟩
    exact ⟨a, _, rfl, h, _, _, rfl, rfl, _, _, rfl, ⟨b, rfl, hb⟩, rfl⟩
theorem rd_word {H : Hp} {kp : DM.Kept} {x : Str} {v : V} : RD H (wordD kp x) v ↔ ∃ a b vs, v = .ref a ∧ H a = some (.tup [.str x, .ref b]) ∧ H b = some (.lst vs) ∧ RDs H (.of ((linOf kp x).map (lineD kp x))) vs := by
  simp only [wordD, Dat.of, RD, RDs]
  constructor
  · rintro ⟨a, vs, rfl, h, _, _, rfl, rfl, _, _, rfl, ⟨b, us, rfl, hb, hu⟩, rfl⟩
    exact ⟨a, b, us, rfl, h, hb, hu⟩
  · rintro ⟨a, b, us, rfl, h, hb, hu⟩
    exact ⟨a, _, rfl, h, _, _, rfl, rfl, _, _, rfl, ⟨b, us, rfl, hb, hu⟩, rfl⟩
theorem rds_len {H : Hp} : ∀ {ds : List Dat} {vs : List V}, RDs H (.of ds) vs → vs.length = ds.length
  | [], vs, h => by simp only [Dat.of, RDs] at h; rw [h]; rfl
  | d :: r, vs, h => by
    simp only [Dat.of, RDs] at h
    obtain ⟨v, s, rfl, _, h2⟩ := h
    rw [List.length_cons, List.length_cons, rds_len (ds := r) h2]
theorem rds_get {H : Hp} : ∀ {ds : List Dat} {vs : List V} {i : Nat} {d : Dat}, RDs H (.of ds) vs → ds[i]? = some d → ∃ v, vs[i]? = some v ∧ RD H d v
  | [], vs, i, d, _, h => by simp at h
  | d :: r, vs, i, d', h, e => by
    simp only [Dat.of, RDs] at h
    obtain ⟨v, s, rfl, h1, h2⟩ := h
    cases i with
    | zero =>
      have : d = d' := by simpa using e
      subst this
      exact ⟨v, rfl, h1⟩
    | succ i => exact rds_get (ds := r) (i := i) h2 (by simpa using e)
theorem map_take_snoc {α β : Type} (f : α → β) {l : List α} {i : Nat} (h : i < l.length) : (l.take (i + 1)).map f = (l.take i).map f ++ [f l[i]] := by
  rw [List.take_add_one, List.getElem?_eq_getElem h, List.map_append]
  rfl
/-- the index of the lines kept, at l -/
def RIx (H : Hp) (kp : DM.Kept) (l : Addr) : Prop := ∃ (xs : List Str) (vs : List V), H l = some (.lst vs) ∧ xs.Pairwise ltS ∧ (∀ x, x ∈ xs ↔ linOf kp x ≠ []) ∧ RDs H (.of (xs.map (wordD kp))) vs
section
variable {P : Program} {w : World} {K : PySem.W.Frag} {mg : Str → Option Value} {base : Heap}

/-- Shelf.lines_with -/
def spLW (C : Addr) : Sp := fun vs H Q _ => ∃ (p : Addr) (H0 : Hp) (g : Nat) (kp : DM.Kept) (x : Str), vs = [.ref p, .str x] ∧ ShelfAt C H0 H p g kp ∧ g < 64 ∧
  ∀ (l : Addr) (us : List V) (H' : Hp), H l = none → Same H H' → H' l = some (.lst us) → RDs H' (.of ((linOf kp x).map (lineD kp x))) us → Q (.ref l) H'
abbrev NLW : List Str := ["self", "word"]
theorem scLW : FnScope NLW ["self", "word"] (defScope sLW) := ⟨rfl, rfl, rfl, by decide +kernel, rfl, by decide +kernel, by decide +kernel⟩
theorem ok_lw {f fW fP C : Addr} {fd dW dP : FuncData} (F : Fun K "lines_with" "Shelf.lines_with" sLW f fd) (TC : TxtC K mg C)
    (GW : FnOk P w K mg base CX0 2 fW dW ["self", "words"] (spNW K C)) (bW : Binds K dW ["self", "words"] []) (mW : Meth K C "numbers_with" fW)
    (GP : FnOk P w K mg base CX0 1 fP dP ["self", "number", "word"] (spPI C)) (bP : Binds K dP ["self", "number", "word"] []) (mP : Meth K C "places_in" fP) :
    FnOk P w K mg base CX0 3 f fd ["self", "word"] (spLW C) := by
  refine F.ok scLW (fun vs H Q E h => ?_) (fun cdv A outer s H vs Q E hr h => ?_)
  · obtain ⟨p, H0, g, kp, x, rfl, _⟩ := h
    rfl
  · obtain ⟨p, H0, g, kp, x, rfl, S0, hg, k⟩ := h
    have hr1 : Room 1 _ := hr.mono (by decide)
    refine ⟨_, pss_one (ps_ret (pe_comp (fun _ _ h => h) rfl (compOk_of (sc := defScope sLW) (N := NLW) (M := NLW) rfl rfl (by decide +kernel)) (pi_list (pe_meth (pv 0) TC.cl mW GW hr bW .nil pass0 (pa_cons (pe_lst (pa_cons (pv 1) pa_nil)) pa_nil)))
      (fun _ _ _ _ _ _ => pifs_nil) (fun _ _ _ _ _ _ => pe_tup (pa_cons (pv 2) (pa_cons (pe_meth (pv 0) TC.cl mP GP hr1 bP .nil pass0 (pa_cons (pv 2) (pa_cons (pv 1) pa_nil))) pa_nil))))), ?_⟩
    try dsimp only [noxK]
    have hri := S0.rise
    obtain ⟨Hr, dx, dk, dp, ws, KA, WA, LA, S⟩ := id S0
    have ob : ∀ {H1 : Hp}, Same H H1 → H1 p = some (.ins C dx (flds g dk dp)) := fun h => h _ _ S.obH
    refine ⟨_, rfl, p, dx, _, rfl, ob (Same.refl _), fl_no _ _ _ (by decide +kernel) (by decide +kernel) (by decide +kernel), _, rfl, (by show (1 : Nat) ≤ sizeLine; decide +kernel), fun la hla => ?_⟩
    have s1 := same_upd (o := .lst [.str x]) hla
    refine ⟨p, la, H0, g, kp, [x], rfl, S0.same s1, SqL.of upd_same, hg, fun ln H2 hln s2 h2 => ?_⟩
    have s12 := s1.trans s2
    have e0 : numsOf (withAll kp [x]) = linOf kp x := by
      unfold withAll linOf
      congr 1
      refine List.filter_congr fun e _ => ?_
      simp
    rw [e0] at h2
    refine ⟨ln, rfl, ⟨_, SqL.of h2⟩, ?_⟩
    dsimp only
    have hll := lin_len hri x
    refine comp_listI (K := K) (xs := (linOf kp x).map V.int) (fun j vs H5 => Same H H5 ∧ H5 ln = some (.lst ((linOf kp x).map V.int)) ∧ RDs H5 (.of (((linOf kp x).take j).map (lineD kp x))) vs)
      (by rw [List.length_map, sizeLine_eq]; omega) ⟨s12, h2, rds_nil⟩ (fun j vs H5 ⟨_, h, _⟩ => SqL.of h) (fun j y vs H5 hj hvl ⟨s5, h5, r5⟩ Q' q' => ?_) (fun vs H5 hvl ⟨s5, h5, r5⟩ => ?_)
    · have hjl : j < (linOf kp x).length := by have := (List.getElem?_eq_some_iff.mp hj).1; simpa using this
      have hy : y = V.int (linOf kp x)[j] := by
        rw [List.getElem?_map, List.getElem?_eq_getElem hjl] at hj
        exact (Option.some.inj hj).symm
      subst hy
      refine ⟨_, rfl, _, rfl, p, dx, _, rfl, ob s5, fl_no _ _ _ (by decide +kernel) (by decide +kernel) (by decide +kernel), _, rfl, _, rfl, p, H0, g, kp, (linOf kp x)[j], x, rfl, S0.same s5, List.getElem_mem hjl, fun l6 H6 hl6 s6 h6 => ?_⟩
      refine ⟨(by show (2 : Nat) ≤ sizeLine; decide +kernel), fun t ht => q' _ _ ?_⟩
      have s7 := same_upd (o := .tup [.int (linOf kp x)[j], .ref l6]) ht
      refine ⟨s5.trans (s6.trans s7), (s6.trans s7) _ _ h5, ?_⟩
      rw [map_take_snoc _ hjl]
      exact rds_snoc (rd_line.mpr ⟨t, l6, rfl, upd_same, s7 _ _ h6⟩) (RDs.same (s6.trans s7) r5)
    · rw [List.length_map, List.take_length] at r5
      refine fun l hl => ?_
      have s6 := same_upd (o := .lst vs) hl
      exact k l vs _ (s5.free hl) (s5.trans s6) upd_same (RDs.same s6 r5)

/-- Shelf.index_by_word -/
def spIx (C : Addr) : Sp := fun vs H Q _ => ∃ (p : Addr) (H0 : Hp) (g : Nat) (kp : DM.Kept), vs = [.ref p] ∧ ShelfAt C H0 H p g kp ∧ g < 64 ∧ (∀ xs : List Str, xs.Nodup → (∀ x, x ∈ xs → x ∈ allW kp) → xs.length < 64) ∧
  ∀ (l : Addr) (H' : Hp), H l = none → Same H H' → RIx H' kp l → Q (.ref l) H'
abbrev NIx : List Str := ["self"]
theorem scIx : FnScope NIx ["self"] (defScope sIx) := ⟨rfl, rfl, rfl, by decide +kernel, rfl, by decide +kernel, by decide +kernel⟩
theorem ok_ix {f fL C : Addr} {fd dL : FuncData} (F : Fun K "index_by_word" "Shelf.index_by_word" sIx f fd) (T : Txt mg) (TC : TxtC K mg C)
    (GL : FnOk P w K mg base CX0 3 fL dL ["self", "word"] (spLW C)) (bL : Binds K dL ["self", "word"] []) (mL : Meth K C "lines_with" fL) :
    FnOk P w K mg base CX0 4 f fd ["self"] (spIx C) := by
  refine F.ok scIx (fun vs H Q E h => ?_) (fun cdv A outer s H vs Q E hr h => ?_)
  · obtain ⟨p, H0, g, kp, rfl, _⟩ := h
    rfl
  · obtain ⟨p, H0, g, kp, rfl, S0, hg, hfew, k⟩ := h
    refine ⟨_, pss_one (ps_ret (pe_comp (fun _ _ h => h) rfl (compOk_of (sc := defScope sIx) (N := NIx) (M := NIx) rfl rfl (by decide +kernel)) (pi_list (pe_callB (call_sortedDS rfl) (by rfl) T.srt boot_sorted (pa_cons (pe_fld (pv 0) rfl) pa_nil)))
      (fun _ _ _ _ _ _ => pifs_nil) (fun _ _ _ _ _ _ => pe_tup (pa_cons (pv 1) (pa_cons (pe_meth (pv 0) TC.cl mL GL hr bL .nil pass0 (pa_cons (pv 1) pa_nil)) pa_nil))))), ?_⟩
    try dsimp only [noxK]
    have hri := S0.rise
    obtain ⟨Hr, dx, dk, dp, ws, KA, WA, LA, S⟩ := id S0
    have ob : ∀ {H1 : Hp}, Same H H1 → H1 p = some (.ins C dx (flds g dk dp)) := fun h => h _ _ S.obH
    have hw64 : ws.length < 64 := hfew ws S.pl.nd fun x hx => lin_all (S.full x hx)
    refine ⟨_, rfl, p, C, dx, _, _, rfl, S.obH, TC.cl, TC.nP, fl_p _ _ _, dp, _, ws, rfl, S.pl.hp, kM_keys, S.pl.nd, hw64, fun ln ns hln hpm hpw => ?_⟩
    have s2 := same_upd (o := .lst (ns.map V.str)) hln
    refine ⟨ln, rfl, ⟨_, SqL.of upd_same⟩, ?_⟩
    dsimp only
    have hnl : ns.length < 64 := by rw [hpm.length_eq]; exact hw64
    refine comp_listI (K := K) (xs := ns.map V.str) (fun j vs H5 => Same H H5 ∧ H5 ln = some (.lst (ns.map V.str)) ∧ RDs H5 (.of ((ns.take j).map (wordD kp))) vs)
      (by rw [List.length_map, sizeLine_eq]; omega) ⟨s2, upd_same, rds_nil⟩ (fun j vs H5 ⟨_, h, _⟩ => SqL.of h) (fun j y vs H5 hj hvl ⟨s5, h5, r5⟩ Q' q' => ?_) (fun vs H5 hvl ⟨s5, h5, r5⟩ => ?_)
    · have hjl : j < ns.length := by have := (List.getElem?_eq_some_iff.mp hj).1; simpa using this
      have hy : y = V.str ns[j] := by
        rw [List.getElem?_map, List.getElem?_eq_getElem hjl] at hj
        exact (Option.some.inj hj).symm
      subst hy
      refine ⟨_, rfl, _, rfl, p, dx, _, rfl, ob s5, fl_no _ _ _ (by decide +kernel) (by decide +kernel) (by decide +kernel), _, rfl, p, H0, g, kp, ns[j], rfl, S0.same s5, hg, fun l6 us H6 hl6 s6 h6 r6 => ?_⟩
      refine ⟨(by show (2 : Nat) ≤ sizeLine; decide +kernel), fun t ht => q' _ _ ?_⟩
      have s7 := same_upd (o := .tup [.str ns[j], .ref l6]) ht
      refine ⟨s5.trans (s6.trans s7), (s6.trans s7) _ _ h5, ?_⟩
      rw [map_take_snoc _ hjl]
      exact rds_snoc (rd_word.mpr ⟨t, l6, us, rfl, upd_same, s7 _ _ h6, RDs.same s7 r6⟩) (RDs.same (s6.trans s7) r5)
    · rw [List.length_map, List.take_length] at r5
      refine fun l hl => ?_
      have s6 := same_upd (o := .lst vs) hl
      refine k l _ (s5.free hl) (s5.trans s6) ⟨ns, vs, upd_same, hpw, fun x => ?_, RDs.same s6 r5⟩
      rw [hpm.mem_iff]
      exact ⟨S.full x, S.pl.mem x⟩

/-- index_behind -/
def spIB (K : PySem.W.Frag) : Sp := fun vs H Q _ => ∃ (a : Addr) (us : List V) (ds : List Deed), vs = [.ref a] ∧ H a = some (.lst us) ∧ REs H ds us ∧ OkDs ds ∧ (∀ xs : List Str, xs.Nodup → (∀ x, x ∈ xs → x ∈ allW (shAt ds ds.length).1) → xs.length < 64) ∧
  ∀ (l : Addr) (H' : Hp), H l = none → Same H H' → RIx H' (shAt ds ds.length).1 l → Q (.ref l) H'
abbrev NIB : List Str := ["deeds", "shelf", "deed"]
theorem scIB : FnScope NIB ["deeds"] (defScope sDay) := ⟨rfl, rfl, rfl, by decide +kernel, rfl, by decide +kernel, by decide +kernel⟩
theorem sh_mono (ds : List Deed) : ∀ i, (shAt ds i).2 ≤ (shAt ds (i + 1)).2 := fun i => by
  show _ ≤ (match ds[i]? with | some d => (kAfter (shAt ds i).1 (shAt ds i).2 d, cAfter (shAt ds i).2 d) | none => shAt ds i).2
  cases ds[i]? with
  | none => exact Nat.le_refl _
  | some d => cases d <;> simp [cAfter]
theorem sh_le (ds : List Deed) (i : Nat) : ∀ j, (shAt ds i).2 ≤ (shAt ds (i + j)).2
  | 0 => Nat.le_refl _
  | j + 1 => Nat.le_trans (sh_le ds i j) (sh_mono ds (i + j))
theorem sh_step {ds : List Deed} {i : Nat} {d : Deed} (h : ds[i]? = some d) : shAt ds (i + 1) = (kAfter (shAt ds i).1 (shAt ds i).2 d, cAfter (shAt ds i).2 d) := by
  show (match ds[i]? with | some d => (kAfter (shAt ds i).1 (shAt ds i).2 d, cAfter (shAt ds i).2 d) | none => shAt ds i) = _
  rw [h]
theorem ok_ib {f fI fA fX C : Addr} {fd dI dA dX : FuncData} (F : Fun K "index_behind" "index_behind" sDay f fd) (TC : TxtC K mg C) (M : Mk K C fI)
    (GI : FnOk P w K mg base CX0 1 fI dI ["self"] (spInit C)) (bI : Binds K dI ["self"] [])
    (GA : FnOk P w K mg base CX0 11 fA dA ["shelf", "deed"] (spAT C)) (FA : Fun K "answer_to" "answer_to" sAnsTo fA dA) (bA : Binds K dA ["shelf", "deed"] []) (mA : mg "answer_to" = some (.ref fA))
    (GX : FnOk P w K mg base CX0 4 fX dX ["self"] (spIx C)) (bX : Binds K dX ["self"] []) (mX : Meth K C "index_by_word" fX) :
    FnOk P w K mg base CX0 12 f fd ["deeds"] (spIB K) := by
  refine F.ok scIB (fun vs H Q E h => ?_) (fun cdv A outer s H vs Q E hr h => ?_)
  · obtain ⟨a, us, ds, rfl, _⟩ := h
    rfl
  · obtain ⟨a, us, ds, rfl, ha, hds, ⟨hok, hlen, hcnt⟩, hfew, k⟩ := h
    have hr2 : Room 2 _ := hr.mono (by decide)
    have hr4 : Room 4 _ := hr.mono (by decide)
    refine ⟨_, pss_cons (ps_set (i := 1) scIB.nd rfl (Or.inl rfl) (pe_make0 M GI hr2 rfl TC.mgC bI .nil pass0))
      (pss_cons (ps_for PassesOwn.never rfl (pi_list (pv 0)) (pg_name (i := 2) scIB.nd rfl (Or.inl rfl))
        (pss_one (ps_expr (pe_call GA hr rfl mA FA.kp bA .nil pass0 (pa_cons (pv 1) (pa_cons (pv 2) pa_nil))))))
      (pss_one (ps_ret (pe_meth0 (pv 1) TC.cl mX GX hr4 bX .nil pass0)))), ?_⟩
    try dsimp only [noxK]
    intro p dx np ndx nex
    refine ⟨p, dx, rfl, upd_same, fun H1 h1 => ⟨rfl, ?_⟩⟩
    have s0 : Same H (upd (upd H dx (.own p)) p (.ins C dx [])) := fun b o e => by
      rw [upd_ne (ne_of_none e np), upd_ne (ne_of_none e ndx)]
      exact e
    have S1 := h1 H s0 np
    have hul := res_len hds
    refine ⟨_, rfl, a, rfl, ⟨_, SqL.of (S1.beside _ _ ha)⟩, for_list (K := K) (a := a) (xs := us) (fun i σ H2 => ∃ (H0 : Hp) (v : Option V), σ = [some (.ref a), some (.ref p), v] ∧ Same H H0 ∧ ShelfAt C H0 H2 p (shAt ds i).2 (shAt ds i).1)
      ⟨H, none, rfl, Same.refl _, S1⟩ (fun i σ H2 _ ⟨_, _, _, s2, S2⟩ => SqL.of (S2.beside _ _ (s2 _ _ ha))) ?_ ?_⟩
    · rintro i y σ H2 hi ⟨H0, v, rfl, s2, S2⟩
      have hil : i < ds.length := by have := (List.getElem?_eq_some_iff.mp hi).1; omega
      obtain ⟨v', hv', rv⟩ := res_get hds (List.getElem?_eq_getElem hil)
      rw [hi] at hv'
      cases hv'
      have hc : (shAt ds i).2 < 64 := by
        have h5 := sh_le ds i (ds.length - i)
        rw [show i + (ds.length - i) = ds.length by omega] at h5
        omega
      refine ⟨_, rfl, _, rfl, p, y, H0, (shAt ds i).2, (shAt ds i).1, ds[i], rfl, S2, RD.same (s2.trans S2.beside) rv, hok _ (List.getElem_mem hil), hc, fun v' H0' H' s0' S' _ => ?_⟩
      rw [sh_step (List.getElem?_eq_getElem hil)]
      exact ⟨H0', _, rfl, s2.trans s0', S'⟩
    · rintro σ H2 ⟨H0, v, rfl, s2, S2⟩
      rw [hul] at S2
      obtain ⟨Hr, dx', dk, dp, ws, KA, WA, LA, S⟩ := id S2
      refine ⟨_, rfl, p, dx', _, rfl, S.obH, fl_no _ _ _ (by decide +kernel) (by decide +kernel) (by decide +kernel), p, H0, _, _, rfl, S2, by omega, hfew, fun l H' hl s' r' => ?_⟩
      exact k l H' ((s2.trans S2.beside).free hl) (s2.trans (S2.beside.trans s')) r'
end
end K5


set_option linter.all false
set_option maxRecDepth 100000
set_option maxHeartbeats 4000000
namespace K5
open PySem L2 PyProof.Rows WS DM
abbrev sSpl : Stmt := top 20
abbrev sWord : Stmt := top 21
abbrev sLine : Stmt := top 22
abbrev sQue : Stmt := top 23
abbrev sDeeds : Stmt := top 24
abbrev sAfter : Stmt := top 25
section
variable {P : Program} {w : World} {K : PySem.W.Frag} {mg : Str → Option Value} {base : Heap}

/-- _law_word_by -/
def spWord : Sp := fun vs H Q _ => ∃ s : Int, vs = [.int s] ∧ ∀ H', Same H H' → Q (.str (wordBy s)) H'
theorem scWord : FnScope ["_law_seed", "_law_far", "_law_spot"] ["_law_seed"] (defScope sWord) := ⟨rfl, rfl, rfl, by decide +kernel, rfl, by decide +kernel, by decide +kernel⟩
theorem ok_word {f : Addr} {fd : FuncData} (F : Fun K "_law_word_by" "_law_word_by" sWord f fd) : FnOk P w K mg base CX0 1 f fd ["_law_seed"] spWord := by
  refine F.ok scWord (fun vs H Q E h => ?_) (fun cdv A outer s H vs Q E hr h => ?_)
  · obtain ⟨n, rfl, _⟩ := h
    rfl
  · obtain ⟨n, rfl, k⟩ := h
    refine ⟨_, pss_cons (ps_if (pt_cmpR op_eq (pe_op op_mod (pv 0) pe_int) pe_int (nomark _))
        (pss_cons (ps_set (i := 1) scWord.nd rfl (Or.inl rfl) pe_str)
        (pss_cons (ps_set (i := 2) scWord.nd rfl (Or.inl rfl) (pe_op op_mod (pe_op op_fdiv (pv 0) pe_int) pe_int))
        (pss_one (ps_ret (pe_op op_add_str (pe_op op_add_str (pe_slice sl_str (pv 1) po_none (po_some (pv 2))) (@pe_ix _ _ _ _ _ _ _ ix_list (@pe_cs _ _ _ (xy.map V.str) rfl (by decide +kernel)) (pe_op op_mod (pe_op op_fdiv (pv 0) pe_int) pe_int) fun _ _ => rfl)) (pe_slice sl_str (pv 1) (po_some (pe_op op_add (pv 2) pe_int)) po_none)))))) pss_nil)
      (pss_cons (ps_if (pt_cmpR op_eq (pe_op op_mod (pv 0) pe_int) pe_int (nomark _))
        (pss_one (ps_ret (pe_op op_add_str (pe_ix ix_str pe_str (pe_op op_mod (pe_op op_fdiv (pv 0) pe_int) pe_int) fun _ _ => rfl) (@pe_ix _ _ _ _ _ _ _ ix_list (@pe_cs _ _ _ (zab.map V.str) rfl (by decide +kernel)) (pe_op op_mod (pe_op op_fdiv (pv 0) pe_int) pe_int) fun _ _ => rfl)))) pss_nil)
      (@pss_one _ _ _ (@ps_ret _ _ _ _ (@pe_ix _ _ _ _ _ _ _ ix_list (@pe_cs _ _ _ (wrd.map V.str) rfl (by decide +kernel)) (pe_op op_mod (pv 0) pe_int) fun _ _ => rfl)))), ?_⟩
    try dsimp only [noxK]
    refine ⟨_, rfl, _, _, rfl, rfl, (by show (0 : Int) < 23; decide), rfl, _, rfl, ?_⟩
    refine iteI (fun h1 => ?_) (fun h1 => ?_)
    · refine ⟨_, rfl, _, _, rfl, rfl, ⟨by decide, by decide⟩, _, _, rfl, rfl, (by show (0 : Int) < 20; decide), ?_⟩
      have hx : ∀ k : Fin 2, (pick xy (k.val : Int)).length ≤ 1 := by decide +kernel
      obtain ⟨j, ej, hj⟩ := mod_nat (n / 23) (m := 20) (by decide)
      obtain ⟨l, el, hl⟩ := mod_nat (n / 460) (m := 2) (by decide)
      have hxl : (pick xy (l : Int)).length ≤ 1 := hx ⟨l, by omega⟩
      have e : wordBy n = farW (j : Int) (l : Int) := by unfold wordBy; rw [if_pos h1, ej, el]
      rw [e] at k
      refine ⟨_, rfl, _, rfl, _, rfl, _, rfl, by decide +kernel, fun p hp => ?_⟩
      refine ⟨_, rfl, _, _, rfl, rfl, ⟨by decide, by decide⟩, _, _, rfl, rfl, (by show (0 : Int) < 2; decide), p, _, _, _, rfl, rfl, SqL.of upd_same, (by
        show atI (xy.map V.str) (n / 460 % 2) = _
        rw [el]; exact atI_map V.str (pick_at (by omega) (by show (l : Int) < 2; omega))), ?_⟩
      have s1 : (PySem.Txt.slice ("abcdefghijklmnopqrst" : Str) none (some (n / 23 % 20))).length ≤ 20 := PySem.Txt.slice_le _ _ _
      have s2 : (PySem.Txt.slice ("abcdefghijklmnopqrst" : Str) (some (n / 23 % 20 + 1)) none).length ≤ 20 := PySem.Txt.slice_le _ _ _
      refine ⟨_, _, rfl, rfl, by rw [sizeLine_eq]; omega, _, rfl, _, rfl, _, _, rfl, rfl, _, rfl, _, rfl, by decide +kernel, _, _, rfl, rfl, by rw [sizeLine_eq, app_len]; omega, ?_⟩
      rw [ej]
      exact k _ (same_upd hp)
    · refine ⟨_, rfl, _, _, rfl, rfl, (by show (0 : Int) < 7; decide), rfl, _, rfl, ?_⟩
      refine iteI (fun h2 => ?_) (fun h2 => ?_)
      · have hx : ∀ k : Fin 4, (pick zab (k.val : Int)).length ≤ 2 := by decide +kernel
        obtain ⟨j, ej, hj⟩ := mod_nat (n / 56) (m := 26) (by decide)
        obtain ⟨l, el, hl⟩ := mod_nat (n / 8) (m := 4) (by decide)
        have hxl : (pick zab (l : Int)).length ≤ 2 := hx ⟨l, by omega⟩
        have e26 : abc.cps.toList.length = 26 := by decide +kernel
        have e : wordBy n = abcW (j : Int) (l : Int) := by unfold wordBy; rw [if_neg h1, if_pos h2, ej, el]
        rw [e] at k
        refine ⟨_, rfl, _, _, rfl, rfl, ⟨by decide, by decide⟩, _, _, rfl, rfl, (by show (0 : Int) < 26; decide), _, _, _, rfl, rfl, by decide +kernel, (by
          show atI abc.cps.toList (n / 56 % 26) = _
          rw [ej]; exact pick_at (by omega) (by rw [e26]; omega)), fun p hp => ?_⟩
        refine ⟨_, rfl, _, _, rfl, rfl, ⟨by decide, by decide⟩, _, _, rfl, rfl, (by show (0 : Int) < 4; decide), p, _, _, _, rfl, rfl, SqL.of upd_same, (by
          show atI (zab.map V.str) (n / 8 % 4) = _
          rw [el]; exact atI_map V.str (pick_at (by omega) (by show (l : Int) < 4; omega))), _, _, rfl, rfl, by rw [sizeLine_eq]; show 1 + _ ≤ _; omega, ?_⟩
        exact k _ (same_upd hp)
      · obtain ⟨l, el, hl⟩ := mod_nat n (m := 8) (by decide)
        have e : wordBy n = pick wrd (l : Int) := by unfold wordBy; rw [if_neg h1, if_neg h2, el]
        rw [e] at k
        intro p hp
        refine ⟨_, rfl, _, _, rfl, rfl, (by show (0 : Int) < 8; decide), p, _, _, _, rfl, rfl, SqL.of upd_same, (by
          show atI (wrd.map V.str) (n % 8) = _
          rw [el]; exact atI_map V.str (pick_at (by omega) (by show (l : Int) < 8; omega))), ?_⟩
        exact k _ (same_upd hp)
theorem dVI (a b : Int) : decide (V.int a = V.int b) = decide (a = b) := by
  by_cases h : a = b
  · subst h; simp
  · rw [decide_eq_false h, decide_eq_false fun z => h (by cases z; rfl)]

/-- _law_line_by -/
def spLine : Sp := fun vs H Q _ => ∃ s : Int, vs = [.int s] ∧ ∀ H', Same H H' → Q (.str (lineBy s)) H'
theorem scLine : FnScope ["_law_seed", "_law_line", "_law_left", "_law_many", "_law_k"] ["_law_seed"] (defScope sLine) := ⟨rfl, rfl, rfl, by decide +kernel, rfl, by decide +kernel, by decide +kernel⟩
theorem ok_line {f fW : Addr} {fd dW : FuncData} (F : Fun K "_law_line_by" "_law_line_by" sLine f fd) (T : Txt mg) (FW : Fun K "_law_word_by" "_law_word_by" sWord fW dW) (bW : Binds K dW ["_law_seed"] []) (mW : mg "_law_word_by" = some (.ref fW)) : FnOk P w K mg base CX0 2 f fd ["_law_seed"] spLine := by
  have GW : FnOk P w K mg base CX0 1 fW dW ["_law_seed"] spWord := ok_word FW
  refine F.ok scLine (fun vs H Q E h => ?_) (fun cdv A outer s H vs Q E hr h => ?_)
  · obtain ⟨n, rfl, _⟩ := h
    rfl
  · obtain ⟨n, rfl, k⟩ := h
    refine ⟨_, pss_cons (ps_set (i := 1) scLine.nd rfl (Or.inl rfl) (@pe_ix _ _ _ _ _ _ _ ix_list (@pe_cs _ _ _ (hd3.map V.str) rfl (by decide +kernel)) (pe_op op_mod (pe_op op_fdiv (pv 0) pe_int) pe_int) fun _ _ => rfl))
      (pss_cons (ps_set (i := 2) scLine.nd rfl (Or.inl rfl) (pe_op op_fdiv (pv 0) pe_int))
      (pss_cons (ps_set (i := 3) scLine.nd rfl (Or.inl rfl) (pe_ix ix_list (pe_lst (pa_cons (pe_op op_mod (pv 0) pe_int) (pa_cons pe_int (pa_cons pe_int pa_nil))))
        (pe_op op_add (pe_callTy call_int1 (by rfl) T.int PyProof.Rows.boot_int (pa_cons (pe_cmpR op_eq (pe_op op_mod (pv 0) pe_int) pe_int (nomark _)) pa_nil)) (pe_callTy call_int1 (by rfl) T.int PyProof.Rows.boot_int (pa_cons (pe_cmpR op_eq (pe_op op_mod (pv 0) pe_int) pe_int (nomark _)) pa_nil))) fun _ _ => rfl))
      (pss_cons (ps_for PassesOwn.never rfl (pi_range1 (by rfl) T.rng (pa_cons (pv 3) pa_nil)) (pg_name (i := 4) scLine.nd rfl (Or.inl rfl))
        (pss_cons (ps_set (i := 1) scLine.nd rfl (Or.inl rfl) (pe_op op_add_str (pv 1) (pe_call GW hr rfl mW FW.kp bW .nil pass0 (pa_cons (pe_op op_add (pe_op op_mod (pv 2) pe_int) (pe_op op_mul pe_int (pe_op op_fdiv (pv 2) pe_int))) pa_nil))))
        (pss_cons (ps_set (i := 1) scLine.nd rfl (Or.inl rfl) (pe_op op_add_str (pv 1) (@pe_ix _ _ _ _ _ _ _ ix_list (@pe_cs _ _ _ (sep.map V.str) rfl (by decide +kernel)) (pe_op op_mod (pe_op op_fdiv (pv 2) pe_int) pe_int) fun _ _ => rfl)))
        (pss_one (ps_set (i := 2) scLine.nd rfl (Or.inl rfl) (pe_op op_add (pe_op op_add (pe_op op_fdiv (pv 2) pe_int) (pe_op op_mul pe_int (pv 4))) (pv 0)))))))
      (pss_one (ps_ret (pv 1)))))), ?_⟩
    try dsimp only [noxK]
    intro p1 hp1
    obtain ⟨j, ej, hj⟩ := mod_nat (n / 6) (m := 3) (by decide)
    refine ⟨_, rfl, _, _, rfl, rfl, ⟨by decide, by decide⟩, _, _, rfl, rfl, (by show (0 : Int) < 3; decide), p1, _, _, _, rfl, rfl, SqL.of upd_same, (by
      show atI (hd3.map V.str) (n / 6 % 3) = _
      exact atI_map V.str (pick_at (by omega) (by show _ < (3 : Int); omega))), ?_⟩
    refine ⟨_, rfl, _, _, rfl, rfl, ⟨by decide, by decide⟩, ?_⟩
    refine ⟨_, rfl, _, _, rfl, rfl, (by show (0 : Int) < 6; decide), (by show (3 : Nat) ≤ sizeLine; decide +kernel), fun p2 hp2 => ?_⟩
    have hS := (same_upd hp1).trans (same_upd (o := .lst [V.int (n % 6), V.int 9, V.int 20]) hp2)
    refine ⟨_, rfl, _, _, rfl, rfl, (by show (0 : Int) < 16; decide), rfl, .inr ⟨_, rfl, ?_⟩⟩
    refine ⟨_, rfl, _, _, rfl, rfl, (by show (0 : Int) < 32; decide), rfl, .inr ⟨_, rfl, ?_⟩⟩
    refine ⟨_, _, rfl, rfl, p2, _, _, V.int (manyBy n), rfl, rfl, SqL.of upd_same, (by
      have h1 := b2_le (decide (n % 16 = 9))
      have h2 := b2_le (decide (n % 32 = 9))
      try dsimp only
      rw [dVI, dVI]
      show atI ([n % 6, 9, 20].map V.int) (b2 (decide (n % 16 = 9)) + b2 (decide (n % 32 = 9))) = _
      exact atI_map V.int (pick_at (by omega) (by show _ < (3 : Int); omega))), ?_⟩
    have hm := many_le n
    -- the loop
    refine ⟨_, rfl, _, rfl, by omega, by omega, ?_⟩
    refine for_range (fun i σ H2 => ∃ v, σ = [some (.int n), some (.str (lineAt n i).2), some (.int (lineAt n i).1), some (.int (manyBy n)), v] ∧ Same H H2) ⟨none, rfl, hS⟩ ?_ ?_
    · rintro i σ H2 hi ⟨v, rfl, s2⟩
      rw [Int.zero_add]
      have hlen := (line_ok n i).1
      have hwl := word_len ((lineAt n i).1 % 7 + 56 * ((lineAt n i).1 / 63))
      have hsl := goodS_len (good_sep ((lineAt n i).1 / 7))
      refine ⟨_, rfl, _, rfl, _, _, rfl, rfl, (by show (0 : Int) < 7; decide), _, rfl, _, _, rfl, rfl, ⟨by decide, by decide⟩, _, _, rfl, rfl, .inl ⟨by decide, by decide⟩, _, _, rfl, rfl, _, rfl, fun H3 s3 => ?_⟩
      refine ⟨_, _, rfl, rfl, by rw [sizeLine_eq]; omega, ?_⟩
      refine ⟨_, rfl, fun p3 hp3 => ?_⟩
      refine ⟨_, rfl, _, _, rfl, rfl, ⟨by decide, by decide⟩, _, _, rfl, rfl, (by show (0 : Int) < 9; decide), p3, _, _, _, rfl, rfl, SqL.of upd_same, (by
        have g0 : 0 ≤ (lineAt n i).1 / 7 % 9 := Int.emod_nonneg _ (by decide)
        have g1 : (lineAt n i).1 / 7 % 9 < 9 := Int.emod_lt_of_pos _ (by decide)
        show atI (sep.map V.str) ((lineAt n i).1 / 7 % 9) = _
        exact atI_map V.str (pick_at g0 g1)), _, _, rfl, rfl, by rw [sizeLine_eq, app_len]; omega, ?_⟩
      refine ⟨_, rfl, _, _, rfl, rfl, ⟨by decide, by decide⟩, _, rfl, _, _, rfl, rfl, .inl ⟨by decide, by decide⟩, _, _, rfl, rfl, _, rfl, _, _, rfl, rfl, ?_⟩
      exact ⟨_, rfl, s2.trans (s3.trans (same_upd hp3))⟩
    · rintro σ H2 ⟨v, rfl, s2⟩
      exact ⟨_, rfl, k H2 s2⟩
theorem sz (n : Nat) (h : n ≤ 100 := by decide) : n ≤ sizeLine := by rw [sizeLine_eq]; omega

/-- _law_question_by -/
def spQue : Sp := fun vs H Q _ => ∃ s : Int, vs = [.int s] ∧ ∀ v H', Same H H' → RQ (frh H H') (quBy s) v → Q v H'
theorem scQue : FnScope ["_law_seed", "_law_one", "_law_many", "_law_two", "_law_words", "_law_three", "_law_menu"] ["_law_seed"] (defScope sQue) := ⟨rfl, rfl, rfl, by decide +kernel, rfl, by decide +kernel, by decide +kernel⟩
theorem ok_que {f fW : Addr} {fd dW : FuncData} (F : Fun K "_law_question_by" "_law_question_by" sQue f fd) (FW : Fun K "_law_word_by" "_law_word_by" sWord fW dW) (bW : Binds K dW ["_law_seed"] []) (mW : mg "_law_word_by" = some (.ref fW)) : FnOk P w K mg base CX0 2 f fd ["_law_seed"] spQue := by
  have GW : FnOk P w K mg base CX0 1 fW dW ["_law_seed"] spWord := ok_word FW
  refine F.ok scQue (fun vs H Q E h => ?_) (fun cdv A outer s H vs Q E hr h => ?_)
  · obtain ⟨n, rfl, _⟩ := h
    rfl
  · obtain ⟨n, rfl, k⟩ := h
    refine ⟨_, pss_cons (ps_set (i := 1) scQue.nd rfl (Or.inl rfl) (pe_tup (pa_cons pe_str (pa_cons (pe_call GW hr rfl mW FW.kp bW .nil pass0 (pa_cons (pv 0) pa_nil)) pa_nil))))
      (@pss_cons _ _ _ _ _ (@ps_set _ _ 2 _ _ _ _ scQue.nd rfl (Or.inl rfl) (@pe_ix _ _ _ _ _ _ _ ix_list (@pe_lst _ _ _ _ (pa_cons pe_int (pa_cons pe_int (pa_cons pe_int (pa_cons (pe_op op_pow pe_int pe_int) (pa_cons pe_int pa_nil)))))) (pe_op op_mod (pv 0) pe_int) fun _ _ => rfl) rfl (Or.inl rfl))
      (pss_cons (ps_set (i := 3) scQue.nd rfl (Or.inl rfl) (pe_tup (pa_cons pe_str (pa_cons (pe_call GW hr rfl mW FW.kp bW .nil pass0 (pa_cons (pe_op op_fdiv (pv 0) pe_int) pa_nil)) (pa_cons (pe_call GW hr rfl mW FW.kp bW .nil pass0 (pa_cons (pe_op op_add (pe_op op_fdiv (pv 0) pe_int) pe_int) pa_nil)) (pa_cons (pv 2) pa_nil))))))
      (pss_cons (ps_set (i := 4) scQue.nd rfl (Or.inl rfl) (pe_lst (pa_cons (pe_call GW hr rfl mW FW.kp bW .nil pass0 (pa_cons (pe_op op_fdiv (pv 0) pe_int) pa_nil)) (pa_cons (pe_call GW hr rfl mW FW.kp bW .nil pass0 (pa_cons (pe_op op_add (pe_op op_fdiv (pv 0) pe_int) pe_int) pa_nil)) (pa_cons (pe_call GW hr rfl mW FW.kp bW .nil pass0 (pa_cons (pe_op op_fdiv (pv 0) pe_int) pa_nil)) pa_nil)))))
      (pss_cons (ps_set (i := 5) scQue.nd rfl (Or.inl rfl) (pe_tup (pa_cons pe_str (pa_cons (pe_slice sl_list (pv 4) po_none (po_some (pe_op op_add pe_int (pe_op op_mod (pe_op op_fdiv (pv 0) pe_int) pe_int)))) pa_nil))))
      (pss_cons (ps_set (i := 6) scQue.nd rfl (Or.inl rfl) (pe_lst (pa_cons (pv 1) (pa_cons (pv 3) (pa_cons (pv 5) (pa_cons (pe_tup (pa_cons pe_str (pa_cons (pv 1) pa_nil))) (pa_cons (pv 3) (pa_cons (pv 5) pa_nil))))))))
      (pss_cons (ps_set (i := 6) scQue.nd rfl (Or.inl rfl) (pe_op op_cat (pv 6) (pe_lst (pa_cons (pe_tup (pa_cons pe_str (pa_cons (pv 1) (pa_cons (pe_tup (pa_cons pe_str (pa_cons (pv 5) pa_nil))) pa_nil)))) (pa_cons (pe_tup (pa_cons pe_str (pa_cons (pv 3) (pa_cons (pv 5) pa_nil)))) pa_nil)))))
      (pss_cons (ps_set (i := 6) scQue.nd rfl (Or.inl rfl) (pe_op op_cat (pv 6) (pe_lst (pa_cons (pe_tup (pa_cons pe_str (pa_cons (pv 3) (pa_cons (pe_tup (pa_cons pe_str (pa_cons (pv 1) (pa_cons (pv 5) pa_nil)))) pa_nil)))) (pa_cons (pe_tup (pa_cons pe_str (pa_cons (pe_tup (pa_cons pe_str (pa_cons (pv 1) (pa_cons (pv 3) pa_nil)))) pa_nil))) pa_nil)))))
      (pss_one (ps_ret (pe_ix ix_list (pv 6) (pe_op op_mod (pe_op op_fdiv (pv 0) pe_int) pe_int) fun _ _ => rfl)))))))))), ?_⟩
    try dsimp only [noxK]
    -- one
    refine seq_hide fun N b c eN => ?_
    have S : Same H H := Same.refl H
    refine ⟨_, rfl, n, rfl, fun H1 s1 => ⟨sz 2, fun p1 hp1 => ?_⟩⟩
    replace S := S.trans s1
    generalize hU : upd _ p1 _ = U1
    obtain ⟨aU1, eU1⟩ := newU hU hp1
    have fU1 := S.free hp1
    clear hU
    replace S := S.trans aU1
    -- many
    show N _ _
    subst eN
    refine seq_hide fun N b c eN => ?_
    refine ⟨_, _, rfl, rfl, ⟨by decide, by decide, by decide⟩, sz 5, fun p2 hp2 => ?_⟩
    generalize hU : upd _ p2 _ = U2
    obtain ⟨aU2, eU2⟩ := newU hU hp2
    have fU2 := S.free hp2
    clear hU
    replace S := S.trans aU2
    obtain ⟨j5, ej5, hj5⟩ := mod_nat n (m := 5) (by decide)
    refine ⟨_, rfl, _, _, rfl, rfl, (by show (0 : Int) < 5; decide), p2, _, _, V.int (manyQ n), rfl, rfl, SqL.of eU2, (by
      show atI ([0, 1, 2, pow30, 3].map V.int) (n % 5) = _
      exact atI_map V.int (pick_at (by omega) (by show _ < (5 : Int); omega))), ?_⟩
    clear eU2
    -- two
    show N _ _
    subst eN
    refine seq_hide fun N b c eN => ?_
    refine ⟨_, rfl, _, _, rfl, rfl, ⟨by decide, by decide⟩, _, rfl, fun H3 s3 => ?_⟩
    replace S := S.trans s3
    refine ⟨_, rfl, _, _, rfl, rfl, ⟨by decide, by decide⟩, _, _, rfl, rfl, _, rfl, fun H4 s4 => ?_⟩
    replace S := S.trans s4
    refine ⟨_, rfl, sz 4, fun p5 hp5 => ?_⟩
    generalize hU : upd _ p5 _ = U5
    obtain ⟨aU5, eU5⟩ := newU hU hp5
    have fU5 := S.free hp5
    clear hU
    replace S := S.trans aU5
    -- words
    show N _ _
    subst eN
    refine seq_hide fun N b c eN => ?_
    refine ⟨_, rfl, _, _, rfl, rfl, ⟨by decide, by decide⟩, _, rfl, fun H6 s6 => ?_⟩
    replace S := S.trans s6
    refine ⟨_, rfl, _, _, rfl, rfl, ⟨by decide, by decide⟩, _, _, rfl, rfl, _, rfl, fun H7 s7 => ?_⟩
    replace S := S.trans s7
    refine ⟨_, rfl, _, _, rfl, rfl, ⟨by decide, by decide⟩, _, rfl, fun H8 s8 => ⟨sz 3, fun p9 hp9 => ?_⟩⟩
    replace S := S.trans s8
    generalize hU : upd _ p9 _ = U9
    obtain ⟨aU9, eU9⟩ := newU hU hp9
    have fU9 := S.free hp9
    clear hU
    replace S := S.trans aU9
    -- three
    show N _ _
    subst eN
    refine seq_hide fun N b c eN => ?_
    refine ⟨_, rfl, _, rfl, _, _, rfl, rfl, ⟨by decide, by decide⟩, _, _, rfl, rfl, (by show (0 : Int) < 3; decide), _, _, rfl, rfl, _, rfl, p9, [wordBy (n / 3), wordBy (n / 5 + 1), wordBy (n / 4)].map V.str, rfl, SqL.of eU9, fun p10 hp10 => ⟨sz 2, fun p11 hp11 => ?_⟩⟩
    clear eU9
    revert hp11
    rw [cutV_map V.str]
    generalize hU : upd _ p10 _ = U10
    obtain ⟨aU10, eU10⟩ := newU hU hp10
    have fU10 := S.free hp10
    clear hU
    replace S := S.trans aU10
    intro hp11
    generalize hU : upd _ p11 _ = U11
    obtain ⟨aU11, eU11⟩ := newU hU hp11
    have fU11 := S.free hp11
    clear hU
    replace S := S.trans aU11
    -- menu
    show N _ _
    subst eN
    refine seq_hide fun N b c eN => ?_
    refine ⟨_, rfl, _, rfl, _, rfl, _, rfl, sz 2, fun p12 hp12 => ?_⟩
    generalize hU : upd _ p12 _ = U12
    obtain ⟨aU12, eU12⟩ := newU hU hp12
    have fU12 := S.free hp12
    clear hU
    replace S := S.trans aU12
    refine ⟨_, rfl, _, rfl, sz 6, fun p13 hp13 => ?_⟩
    generalize hU : upd _ p13 _ = U13
    obtain ⟨aU13, eU13⟩ := newU hU hp13
    have fU13 := S.free hp13
    clear hU
    replace S := S.trans aU13
    -- two more
    show N _ _
    subst eN
    refine seq_hide fun N b c eN => ?_
    refine ⟨_, rfl, _, rfl, _, rfl, sz 2, fun p14 hp14 => ?_⟩
    generalize hU : upd _ p14 _ = U14
    obtain ⟨aU14, eU14⟩ := newU hU hp14
    have fU14 := S.free hp14
    clear hU
    replace S := S.trans aU14
    refine ⟨sz 3, fun p15 hp15 => ?_⟩
    generalize hU : upd _ p15 _ = U15
    obtain ⟨aU15, eU15⟩ := newU hU hp15
    have fU15 := S.free hp15
    clear hU
    replace S := S.trans aU15
    refine ⟨_, rfl, _, rfl, sz 3, fun p16 hp16 => ?_⟩
    generalize hU : upd _ p16 _ = U16
    obtain ⟨aU16, eU16⟩ := newU hU hp16
    have fU16 := S.free hp16
    clear hU
    replace S := S.trans aU16
    refine ⟨sz 2, fun p17 hp17 => ?_⟩
    generalize hU : upd _ p17 _ = U17
    obtain ⟨aU17, eU17⟩ := newU hU hp17
    have fU17 := S.free hp17
    clear hU
    replace S := S.trans aU17
    refine ⟨p13, p17, _, _, rfl, rfl, (aU14.trans (aU15.trans (aU16.trans aU17))) _ _ eU13, eU17, sz 8, fun p18 hp18 => ?_⟩
    clear eU13 eU17
    generalize hU : upd _ p18 _ = U18
    obtain ⟨aU18, eU18⟩ := newU hU hp18
    have fU18 := S.free hp18
    clear hU
    replace S := S.trans aU18
    -- and two
    show N _ _
    subst eN
    refine seq_hide fun N b c eN => ?_
    refine ⟨_, rfl, _, rfl, _, rfl, _, rfl, sz 3, fun p19 hp19 => ?_⟩
    generalize hU : upd _ p19 _ = U19
    obtain ⟨aU19, eU19⟩ := newU hU hp19
    have fU19 := S.free hp19
    clear hU
    replace S := S.trans aU19
    refine ⟨sz 3, fun p20 hp20 => ?_⟩
    generalize hU : upd _ p20 _ = U20
    obtain ⟨aU20, eU20⟩ := newU hU hp20
    have fU20 := S.free hp20
    clear hU
    replace S := S.trans aU20
    refine ⟨_, rfl, _, rfl, sz 3, fun p21 hp21 => ?_⟩
    generalize hU : upd _ p21 _ = U21
    obtain ⟨aU21, eU21⟩ := newU hU hp21
    have fU21 := S.free hp21
    clear hU
    replace S := S.trans aU21
    refine ⟨sz 2, fun p22 hp22 => ?_⟩
    generalize hU : upd _ p22 _ = U22
    obtain ⟨aU22, eU22⟩ := newU hU hp22
    have fU22 := S.free hp22
    clear hU
    replace S := S.trans aU22
    refine ⟨sz 2, fun p23 hp23 => ?_⟩
    generalize hU : upd _ p23 _ = U23
    obtain ⟨aU23, eU23⟩ := newU hU hp23
    have fU23 := S.free hp23
    clear hU
    replace S := S.trans aU23
    refine ⟨p18, p23, _, _, rfl, rfl, (aU19.trans (aU20.trans (aU21.trans (aU22.trans aU23)))) _ _ eU18, eU23, sz 10, fun p24 hp24 => ?_⟩
    generalize hU : upd _ p24 _ = U24
    obtain ⟨aU24, eU24⟩ := newU hU hp24
    have fU24 := S.free hp24
    clear hU
    replace S := S.trans aU24
    have t23 := aU24
    have t22 := aU23.trans t23
    have t21 := aU22.trans t22
    have t20 := aU21.trans t21
    have t19 := aU20.trans t20
    have t18 := aU19.trans t19
    have t17 := aU18.trans t18
    have t16 := aU17.trans t17
    have t15 := aU16.trans t16
    have t14 := aU15.trans t15
    have t13 := aU14.trans t14
    have t12 := aU13.trans t13
    have t11 := aU12.trans t12
    have t10 := aU11.trans t11
    have t9 := aU10.trans t10
    have t5 := s6.trans (s7.trans (s8.trans (aU9.trans t9)))
    have t1 := aU2.trans (s3.trans (s4.trans (aU5.trans t5)))
    have r1 : RQ (frh H U24) (oneBy n) (.ref p1) := rq_word.mpr ⟨p1, rfl, frh_get fU1 (t1 _ _ eU1)⟩
    have r2 : RQ (frh H U24) (twoBy n) (.ref p5) := rq_near.mpr ⟨p5, rfl, frh_get fU5 (t5 _ _ eU5)⟩
    have r3 : RQ (frh H U24) (threeBy n) (.ref p11) := rq_row.mpr ⟨p11, p10, rfl, frh_get fU11 (t11 _ _ eU11), frh_get fU10 (t10 _ _ eU10)⟩
    have r4 : RQ (frh H U24) (.not (oneBy n)) (.ref p12) := rq_not.mpr ⟨p12, _, rfl, frh_get fU12 (t12 _ _ eU12), r1⟩
    have r14 : RQ (frh H U24) (.not (threeBy n)) (.ref p14) := rq_not.mpr ⟨p14, _, rfl, frh_get fU14 (t14 _ _ eU14), r3⟩
    have r15 : RQ (frh H U24) (.and (oneBy n) (.not (threeBy n))) (.ref p15) := rq_and.mpr ⟨p15, _, _, rfl, frh_get fU15 (t15 _ _ eU15), r1, r14⟩
    have r16 : RQ (frh H U24) (.or (twoBy n) (threeBy n)) (.ref p16) := rq_or.mpr ⟨p16, _, _, rfl, frh_get fU16 (t16 _ _ eU16), r2, r3⟩
    have r19 : RQ (frh H U24) (.or (oneBy n) (threeBy n)) (.ref p19) := rq_or.mpr ⟨p19, _, _, rfl, frh_get fU19 (t19 _ _ eU19), r1, r3⟩
    have r20 : RQ (frh H U24) (.and (twoBy n) (.or (oneBy n) (threeBy n))) (.ref p20) := rq_and.mpr ⟨p20, _, _, rfl, frh_get fU20 (t20 _ _ eU20), r2, r19⟩
    have r21 : RQ (frh H U24) (.and (oneBy n) (twoBy n)) (.ref p21) := rq_and.mpr ⟨p21, _, _, rfl, frh_get fU21 (t21 _ _ eU21), r1, r2⟩
    have r22 : RQ (frh H U24) (.not (.and (oneBy n) (twoBy n))) (.ref p22) := rq_not.mpr ⟨p22, _, rfl, frh_get fU22 (t22 _ _ eU22), r21⟩
    obtain ⟨j, ej, hj⟩ := mod_nat (n / 13) (m := 10) (by decide)
    have key : ∃ v, atI ([V.ref p1, V.ref p5, V.ref p11, V.ref p12, V.ref p5, V.ref p11] ++ [V.ref p15, V.ref p16] ++ [V.ref p20, V.ref p22]) (n / 13 % 10) = some v ∧ RQ (frh H U24) (quBy n) v := by
      unfold quBy
      rw [ej]
      have : j = 0 ∨ j = 1 ∨ j = 2 ∨ j = 3 ∨ j = 4 ∨ j = 5 ∨ j = 6 ∨ j = 7 ∨ j = 8 ∨ j = 9 := by omega
      rcases this with rfl | rfl | rfl | rfl | rfl | rfl | rfl | rfl | rfl | rfl
      · exact ⟨_, rfl, r1⟩
      · exact ⟨_, rfl, r2⟩
      · exact ⟨_, rfl, r3⟩
      · exact ⟨_, rfl, r4⟩
      · exact ⟨_, rfl, r2⟩
      · exact ⟨_, rfl, r3⟩
      · exact ⟨_, rfl, r15⟩
      · exact ⟨_, rfl, r16⟩
      · exact ⟨_, rfl, r20⟩
      · exact ⟨_, rfl, r22⟩
    obtain ⟨v, hv, rv⟩ := key
    show N _ _
    subst eN
    refine ⟨_, rfl, _, rfl, _, _, rfl, rfl, ⟨by decide, by decide⟩, _, _, rfl, rfl, (by show (0 : Int) < 10; decide), p24, _, _, v, rfl, rfl, SqL.of eU24, hv, ?_⟩
    exact k v U24 S rv
/-- _law_split -/
def spSpl (K : PySem.W.Frag) : Sp := fun vs H Q _ => ∃ z : Str, vs = [.str z] ∧ z.length ≤ 1000 ∧ (∀ c ∈ z.cps.toList, c < 128) ∧ ∀ (l : Addr), H l = none → Q (.ref l) (upd H l (.lst ((wds z.cps.toList).map V.str)))
theorem scSpl : FnScope ["_law_line", "_law_plain", "_law_sign"] ["_law_line"] (defScope sSpl) := ⟨rfl, rfl, rfl, by decide +kernel, rfl, by decide +kernel, by decide +kernel⟩
theorem ok_spl {f : Addr} {fd : FuncData} (F : Fun K "_law_split" "_law_split" sSpl f fd) : FnOk P w K mg base CX0 1 f fd ["_law_line"] (spSpl K) := by
  refine F.ok scSpl (fun vs H Q E h => ?_) (fun cdv A outer s H vs Q E hr h => ?_)
  · obtain ⟨z, rfl, _⟩ := h
    rfl
  · obtain ⟨z, rfl, hz, hc, k⟩ := h
    refine ⟨_, pss_cons (ps_set (i := 1) scSpl.nd rfl (Or.inl rfl) pe_str)
      (pss_cons (ps_for PassesOwn.never rfl (pi_str (pv 0)) (pg_name (i := 2) scSpl.nd rfl (Or.inl rfl))
        (pss_one (ps_if (pt_cmpR op_in_str (pv 2) pe_str (by with_unfolding_all rfl))
          (pss_one (ps_set (i := 1) scSpl.nd rfl (Or.inl rfl) (pe_op op_add_str (pv 1) (pv 2))))
          (pss_one (ps_set (i := 1) scSpl.nd rfl (Or.inl rfl) (pe_op op_add_str (pv 1) pe_str))))))
      (pss_one (ps_ret (pe_bm0 PySem.F.plainAttrs_str PySem.F.slot_str_split PySem.F.type_str_split mt_split (pv 1))))), ?_⟩
    try dsimp only [noxK]
    have hz1 : z.cps.toList.length = z.length := by simp [Str.length]
    refine ⟨_, rfl, z, rfl, ?_⟩
    refine for_str (z := z) (fun i σ H2 => ∃ (v : Option V), σ = [some (.str z), some (.str ⟨((z.cps.toList.take i).map pl).toArray⟩), v] ∧ H2 = H)
      ⟨none, rfl, rfl⟩ ?_ ?_
    · rintro i c σ H2 hi ⟨v, rfl, rfl⟩
      have hil : i < z.cps.toList.length := (List.getElem?_eq_some_iff.mp hi).1
      have htk : z.cps.toList.take (i + 1) = z.cps.toList.take i ++ [c] := by rw [List.take_add_one, hi]; rfl
      have hlt : c < 128 := hc c (List.mem_of_getElem? hi)
      have hlen : (⟨((z.cps.toList.take i).map pl).toArray⟩ : Str).length ≤ 1000 := by
        show ((z.cps.toList.take i).map pl).toArray.size ≤ 1000
        rw [List.size_toArray, List.length_map, List.length_take]; omega
      refine ⟨_, rfl, _, _, rfl, rfl, _, rfl, ?_⟩
      have el := letter_in ⟨c, hlt⟩
      dsimp only at el
      rw [el]
      cases hL : isL c with
      | true =>
        refine iteT ⟨_, rfl, _, rfl, _, _, rfl, rfl, (by rw [sizeLine_eq]; show _ + 1 ≤ _; omega), some (.str ⟨#[c]⟩), ?_, rfl⟩
        have e : pl c = c := by unfold pl; rw [if_pos hL]
        rw [htk, List.map_append]
        have e2 : (⟨((z.cps.toList.take i).map pl).toArray⟩ : Str) ++ (⟨#[c]⟩ : Str) = ⟨((z.cps.toList.take i).map pl ++ [c].map pl).toArray⟩ := by
          refine Str.ext' ?_
          rw [Str.cps_append]
          simp [e]
        rw [← e2]
        rfl
      | false =>
        refine iteF ⟨_, rfl, _, _, rfl, rfl, (by rw [sizeLine_eq]; show _ + 1 ≤ _; omega), some (.str ⟨#[c]⟩), ?_, rfl⟩
        have e : pl c = 32 := by unfold pl; rw [if_neg (by rw [hL]; decide)]
        rw [htk, List.map_append]
        have e2 : (⟨((z.cps.toList.take i).map pl).toArray⟩ : Str) ++ (" " : Str) = ⟨((z.cps.toList.take i).map pl ++ [c].map pl).toArray⟩ := by
          refine Str.ext' ?_
          rw [Str.cps_append]
          simp [e]
          rfl
        rw [← e2]
        rfl
    · rintro σ H2 ⟨v, rfl, rfl⟩
      rw [List.take_length]
      refine ⟨_, rfl, rfl, _, rfl, rfl, ?_, ?_⟩
      · show ((z.cps.toList).map pl).toArray.size + 2 ≤ sizeLine
        rw [List.size_toArray, List.length_map, sizeLine_eq]; omega
      · rw [words_plain]; exact k

end
end K5


set_option linter.all false
set_option maxRecDepth 100000
set_option maxHeartbeats 4000000
namespace K5
open PySem L2 PyProof.Rows WS DM
theorem made_snoc {H2 H3 : Hp} {l : Addr} {o : HO} {ds : List Deed} {d : Deed} {vs : List V} {v : V} (h : REs (off l H2) ds vs) (e : Same H2 H3) (hv : RE (off l H3) d v) : REs (off l (upd H3 l o)) (ds ++ [d]) (vs ++ [v]) := by
  rw [off_upd]
  exact res_snoc hv (RDs.same (off_same e) h)
theorem dAt_len (cs : List Int) : ∀ i, (dAt cs i).made.length = i
  | 0 => rfl
  | i + 1 => by
    show (dStep _ _ (dAt cs i)).made.length = i + 1
    unfold dStep
    split
    · simp [dAt_len cs i]
    · split
      · simp [dAt_len cs i]
      · split <;> simp [dAt_len cs i]
theorem dAt_came (cs : List Int) : ∀ i, (dAt cs i).came ≤ i
  | 0 => Nat.le_refl _
  | i + 1 => by
    have := dAt_came cs i
    show (dStep _ _ (dAt cs i)).came ≤ i + 1
    unfold dStep
    split
    · show (dAt cs i).came + 1 ≤ i + 1; omega
    · split
      · show (dAt cs i).came ≤ i + 1; omega
      · split <;> (show (dAt cs i).came ≤ i + 1; omega)
theorem dAt_said (cs : List Int) : ∀ i, (dAt cs i).said.length ≤ 20
  | 0 => by show 0 ≤ 20; omega
  | i + 1 => by
    have := dAt_said cs i
    show (dStep _ _ (dAt cs i)).said.length ≤ 20
    unfold dStep
    split
    · exact line_words _
    · split
      · exact this
      · split <;> exact this
section
variable {P : Program} {w : World} {K : PySem.W.Frag} {mg : Str → Option Value} {base : Heap}
/-- _law_deeds -/
def spDeeds (K : PySem.W.Frag) : Sp := fun vs H Q _ => ∃ (a : Addr) (cs : List Int), vs = [.ref a] ∧ SqL K H a (cs.map V.int) ∧ cs.length ≤ 1000 ∧
  ∀ (l : Addr) (us : List V) (H' : Hp), H l = none → Same H H' → H' l = some (.lst us) → REs (off l H') (deedsBy cs) us → Q (.ref l) H'
abbrev ND : List Str := ["_law_cells", "_law_made", "_law_came", "_law_said", "_law_k", "_law_turn", "_law_seed", "_law_number", "_law_spot"]
theorem scD : FnScope ND ["_law_cells"] (defScope sDeeds) := ⟨rfl, rfl, rfl, by decide +kernel, rfl, by decide +kernel, by decide +kernel⟩
/-- what stands at the loop's head -/
def DsP (H : Hp) (a l : Addr) (d : DS) : L2.St → Hp → Prop := fun σ H2 => ∃ (l3 : Addr) (us : List V) (u1 u2 u3 u4 u5 : Option V), σ = [some (.ref a), some (.ref l), some (.int (d.came : Int)), some (.ref l3), u1, u2, u3, u4, u5] ∧ Same H H2 ∧ l3 ≠ l ∧
  H2 l = some (.lst us) ∧ H2 l3 = some (.lst (d.said.map V.str)) ∧ REs (off l H2) d.made us
theorem ok_deeds {f fL fQ fS : Addr} {fd dL dQ dS : FuncData} (F : Fun K "_law_deeds" "_law_deeds" sDeeds f fd) (T : Txt mg)
    (GL : FnOk P w K mg base CX0 2 fL dL ["_law_seed"] spLine) (FL : Fun K "_law_line_by" "_law_line_by" sLine fL dL) (bL : Binds K dL ["_law_seed"] []) (mL : mg "_law_line_by" = some (.ref fL))
    (GQ : FnOk P w K mg base CX0 2 fQ dQ ["_law_seed"] spQue) (FQ : Fun K "_law_question_by" "_law_question_by" sQue fQ dQ) (bQ : Binds K dQ ["_law_seed"] []) (mQ : mg "_law_question_by" = some (.ref fQ))
    (GS : FnOk P w K mg base CX0 1 fS dS ["_law_line"] (spSpl K)) (FS : Fun K "_law_split" "_law_split" sSpl fS dS) (bS : Binds K dS ["_law_line"] []) (mS : mg "_law_split" = some (.ref fS)) :
    FnOk P w K mg base CX0 3 f fd ["_law_cells"] (spDeeds K) := by
  refine F.ok scD (fun vs H Q E h => ?_) (fun cdv A outer s H vs Q E hr h => ?_)
  · obtain ⟨a, cs, rfl, _⟩ := h
    rfl
  · obtain ⟨a, cs, rfl, hA, hn, k⟩ := h
    have hu := hu_of hr
    have hr1 : Room 1 _ := hr.mono (by decide)
    refine ⟨_, pss_cons (ps_set (i := 1) scD.nd rfl (Or.inl rfl) (pe_lst pa_nil))
      (pss_cons (ps_set (i := 2) scD.nd rfl (Or.inl rfl) pe_int)
      (pss_cons (ps_set (i := 3) scD.nd rfl (Or.inl rfl) (pe_lst pa_nil))
      (pss_cons (ps_for PassesOwn.never rfl (pi_range1 (by rfl) T.rng (pa_cons (pe_callB call_len_seq (by rfl) T.len PySem.boot_len (pa_cons (pv 0) pa_nil)) pa_nil)) (pg_name (i := 4) scD.nd rfl (Or.inl rfl))
        (pss_cons (ps_set (i := 5) scD.nd rfl (Or.inl rfl) (pe_op op_mod (pe_op op_add (pe_ix ix_list (pv 0) (pv 4) fun _ _ => rfl) (pe_op op_mul pe_int (pv 4))) pe_int))
        (pss_cons (ps_set (i := 6) scD.nd rfl (Or.inl rfl) (pe_op op_add (pe_op op_mod (pe_op op_fdiv (pe_ix ix_list (pv 0) (pv 4) fun _ _ => rfl) pe_int) pe_int) (pe_op op_mul pe_int (pv 4))))
        (pss_one (ps_if (pt_cmpR op_lt (pv 5) pe_int (nomark _))
          (pss_cons (ps_expr (pe_bm PySem.F.plainAttrs_list PySem.slot_list_append PySem.F.type_list_append mt_append (pv 1) (pa_cons (pe_tup (pa_cons pe_str (pa_cons (pe_call GL hr rfl mL FL.kp bL .nil pass0 (pa_cons (pv 6) pa_nil)) pa_nil))) pa_nil)))
          (pss_cons (ps_set (i := 3) scD.nd rfl (Or.inl rfl) (pe_call GS hr1 rfl mS FS.kp bS .nil pass0 (pa_cons (pe_ix ix_tup (pe_ix ix_list (pv 1) (pe_un un_neg pe_int) fun _ _ => rfl) pe_int fun _ _ => rfl) pa_nil)))
          (pss_one (ps_set (i := 2) scD.nd rfl (Or.inl rfl) (pe_op op_add (pv 2) pe_int)))))
          (pss_one (ps_if (pt_cmpR op_eq (pv 5) pe_int (nomark _))
            (pss_cons (ps_set (i := 7) scD.nd rfl (Or.inl rfl) (pe_op op_sub (pe_op op_mod (pv 6) (pe_op op_add (pv 2) pe_int)) pe_int))
            (pss_cons (ps_if (pt_cmpR op_eq (pe_op op_mod (pv 6) pe_int) pe_int (nomark _)) (pss_one (ps_set (i := 7) scD.nd rfl (Or.inl rfl) pe_int)) pss_nil)
            (pss_one (ps_expr (pe_bm PySem.F.plainAttrs_list PySem.slot_list_append PySem.F.type_list_append mt_append (pv 1) (pa_cons (pe_tup (pa_cons pe_str (pa_cons (pv 7) pa_nil))) pa_nil))))))
            (pss_one (ps_if (PW.pt (pw_and (pt_cmpR op_eq (pe_op op_mod (pv 6) pe_int) pe_int (nomark _)) (pw_and1 (pt_cmpR (op_neL hu) (pv 3) (pe_lst pa_nil) (nomark _)))))
              (pss_cons (ps_set (i := 8) scD.nd rfl (Or.inl rfl) (pe_op op_mod (pe_op op_fdiv (pv 6) pe_int) (pe_callB call_len_seq (by rfl) T.len PySem.boot_len (pa_cons (pv 3) pa_nil))))
              (pss_one (ps_expr (pe_bm PySem.F.plainAttrs_list PySem.slot_list_append PySem.F.type_list_append mt_append (pv 1) (pa_cons (pe_tup (pa_cons pe_str (pa_cons (pe_tup (pa_cons pe_str (pa_cons (pe_slice sl_list (pv 3) (po_some (pv 8)) (po_some (pe_op op_add (pe_op op_add (pv 8) pe_int) (pe_op op_mod (pe_op op_fdiv (pv 6) pe_int) pe_int)))) pa_nil))) pa_nil))) pa_nil)))))
              (pss_one (ps_expr (pe_bm PySem.F.plainAttrs_list PySem.slot_list_append PySem.F.type_list_append mt_append (pv 1) (pa_cons (pe_tup (pa_cons pe_str (pa_cons (pe_call GQ hr rfl mQ FQ.kp bQ .nil pass0 (pa_cons (pv 6) pa_nil)) pa_nil))) pa_nil)))))))))))))
      (pss_one (ps_ret (pv 1)))))), ?_⟩
    try dsimp only [noxK]
    refine seq_hide fun N b c eN => ?_
    refine ⟨by simp, fun l hl => ?_⟩
    show N _ _
    subst eN
    refine seq_hide fun N b c eN => ?_
    show N _ _
    subst eN
    refine seq_hide fun N b c eN => ?_
    have s1 := same_upd (o := .lst []) hl
    refine ⟨by simp, fun l3 hl3 => ?_⟩
    have s2 := same_upd (o := .lst []) hl3
    have n13 : l ≠ l3 := ne_of_none upd_same hl3
    show N _ _
    subst eN
    refine seq_hide fun N b c eN => ?_
    refine ⟨_, rfl, a, _, rfl, .inl ((s1.trans s2).seq hA), _, rfl, by rw [List.length_map]; omega, by rw [List.length_map]; omega, ?_⟩
    rw [List.length_map]
    refine for_range (fun i => DsP H a l (dAt cs i))
      ⟨l3, [], none, none, none, none, none, rfl, s1.trans s2, n13.symm, by rw [upd_ne n13, upd_same], upd_same, res_nil⟩ ?_ ?_
    · rintro i σ H2 hi ⟨l3, us, u1, u2, u3, u4, u5, rfl, s3, hne, hl2, h32, hm⟩
      rw [Int.zero_add]
      have hil : i < cs.length := by omega
      have hc : (cs.map V.int)[i]? = some (V.int (cs.getD i 0)) := by rw [List.getElem?_map, List.getElem?_eq_getElem hil]; simp [List.getD, hil]
      have hul : us.length = i := by rw [res_len hm, dAt_len]
      have hsl := dAt_said cs i
      have hcm := dAt_came cs i
      have hA2 := s3.seq hA
      have ed : dAt cs (i + 1) = dStep (turnOf (cs.getD i 0) i) (seedOf (cs.getD i 0) i) (dAt cs i) := rfl
      rw [ed]
      clear ed
      refine seq_hide fun N b c eN => ?_
      refine ⟨_, rfl, _, rfl, a, _, _, _, rfl, rfl, hA2, atI_nat hc, _, rfl, _, _, rfl, rfl, .inl ⟨by decide, by decide⟩, _, _, rfl, rfl, _, _, rfl, rfl, (by show (0 : Int) < 8; decide), ?_⟩
      show N _ _
      subst eN
      refine seq_hide fun N b c eN => ?_
      refine ⟨_, rfl, _, rfl, a, _, _, _, rfl, rfl, hA2, atI_nat hc, _, _, rfl, rfl, ⟨by decide, by decide⟩, _, _, rfl, rfl, (by show (0 : Int) < 1000; decide), _, rfl, _, _, rfl, rfl, .inl ⟨by decide, by decide⟩, _, _, rfl, rfl, ?_⟩
      show N _ _
      subst eN
      have et : (cs.getD i 0 + 3 * (i : Int)) % 8 = turnOf (cs.getD i 0) i := rfl
      have es : cs.getD i 0 / 8 % 1000 + 7 * (i : Int) = seedOf (cs.getD i 0) i := rfl
      dsimp only
      rw [et, es]
      generalize turnOf (cs.getD i 0) i = t
      generalize seedOf (cs.getD i 0) i = sd
      generalize dAt cs i = d at hm h32 hsl hcm ⊢
      obtain ⟨made, came, said⟩ := d
      dsimp only at hm h32 hsl hcm ⊢
      have usz : us.length < sizeLine := by rw [sizeLine_eq]; omega
      refine if_hideD fun x y ex ey => ?_
      refine ⟨_, rfl, _, _, rfl, rfl, _, rfl, ?_⟩
      by_cases c1 : t < 4
      · rw [decide_eq_true c1]
        refine iteT ?_
        subst ex
        have ed : dStep t sd ⟨made, came, said⟩ = ⟨made ++ [.put (lineBy sd)], came + 1, linesWords (lineBy sd)⟩ := by unfold dStep; rw [if_pos c1]
        rw [ed]
        refine seq_hide fun N b c eN => ?_
        refine ⟨_, rfl, .inl ⟨rfl, _, SqL.of hl2⟩, _, rfl, sd, rfl, fun H3 s4 => ⟨sz 2, fun p hp => ?_⟩⟩
        have s5 := same_upd (o := .tup [.str "put", .str (lineBy sd)]) hp
        have npl : p ≠ l := (ne_of_none (s4 _ _ hl2) hp).symm
        have hl3 := (s4.trans s5) _ _ hl2
        refine ⟨l, us, _, rfl, rfl, hl3, usz, ?_⟩
        have hm' := made_snoc (o := .lst (us ++ [.ref p])) (d := .put (lineBy sd)) (v := .ref p) hm (s4.trans s5) (re_put.mpr ⟨p, rfl, off_get npl upd_same⟩)
        have s6 : Same H (upd (upd H3 p (.tup [.str "put", .str (lineBy sd)])) l (.lst (us ++ [.ref p]))) := fun b o e => by
          rw [upd_ne (ne_of_none e hl)]
          exact (s3.trans (s4.trans s5)) b o e
        have hp6 : upd (upd H3 p (.tup [.str "put", .str (lineBy sd)])) l (.lst (us ++ [.ref p])) p = some (.tup [.str "put", .str (lineBy sd)]) := by rw [upd_ne npl, upd_same]
        have hl6 : upd (upd H3 p (.tup [.str "put", .str (lineBy sd)])) l (.lst (us ++ [.ref p])) l = some (.lst (us ++ [.ref p])) := upd_same
        generalize upd (upd H3 p (.tup [.str "put", .str (lineBy sd)])) l (.lst (us ++ [.ref p])) = H4 at hm' s6 hp6 hl6 ⊢
        show N _ _
        subst eN
        refine ⟨_, rfl, _, rfl, l, _, _, _, rfl, rfl, SqL.of hl6, atI_last _ _, p, _, _, _, rfl, rfl, SqT.of hp6, atI_nat (j := 1) rfl, lineBy sd, rfl, by have := line_len sd; omega, line_asc sd, fun q hq => ?_⟩
        have s7 := same_upd (o := .lst ((wds (lineBy sd).cps.toList).map V.str)) hq
        exact ⟨_, rfl, _, _, rfl, rfl, q, _, _, _, _, _, _, rfl, s6.trans s7, (ne_of_none hl6 hq).symm, s7 _ _ hl6, upd_same, RDs.same (off_same s7) hm'⟩
      · rw [decide_eq_false c1]
        refine iteF ?_
        subst ey
        refine if_hideD fun x y ex ey => ?_
        refine ⟨_, rfl, rfl, _, rfl, ?_⟩
        refine iteI (fun c2 => ?_) (fun c2 => ?_)
        · have ed : dStep t sd ⟨made, came, said⟩ = ⟨made ++ [.strike (strikeOf sd came)], came, said⟩ := by unfold dStep; rw [if_neg c1, if_pos c2]
          subst ex
          rw [ed]
          refine seq_hide fun N b c eN => ?_
          refine ⟨_, rfl, _, rfl, _, _, rfl, rfl, _, _, rfl, rfl, (by show (0 : Int) < (came : Int) + 2; omega), _, _, rfl, rfl, ?_⟩
          -- the number, either way
          show N _ _
          subst eN
          refine seq_hide fun N b c eN => ?_
          have fin : ∀ n : Int, n = strikeOf sd came → N [some (.ref a), some (.ref l), some (.int (came : Int)), some (.ref l3), some (.int (i : Int)), some (.int t), some (.int sd), some (.int n), u5] H2 := by
            subst eN
            intro n en
            refine ⟨_, rfl, .inl ⟨rfl, _, SqL.of hl2⟩, _, rfl, sz 2, fun p hp => ?_⟩
            have s5 := same_upd (o := .tup [.str "strike", .int n]) hp
            have npl : p ≠ l := (ne_of_none hl2 hp).symm
            refine ⟨l, us, _, rfl, rfl, s5 _ _ hl2, usz, ?_⟩
            have hm' := made_snoc (o := .lst (us ++ [.ref p])) (d := .strike (strikeOf sd came)) (v := .ref p) hm s5 (re_strike.mpr ⟨p, rfl, off_get npl (by rw [upd_same, en])⟩)
            refine ⟨l3, _, _, _, _, _, _, rfl, fun b o e => ?_, hne, upd_same, ?_, hm'⟩
            · rw [upd_ne (ne_of_none e hl)]
              exact (s3.trans s5) b o e
            · rw [upd_ne hne]
              exact s5 _ _ h32
          refine ⟨_, rfl, _, _, rfl, rfl, (by show (0 : Int) < 19; decide), rfl, _, rfl, ?_⟩
          refine iteI (fun c3 => ?_) (fun c3 => ?_)
          · have := fin 1000000000000 (by unfold strikeOf; rw [if_pos c3])
            exact this
          · have := fin (sd % ((came : Int) + 2) - 1) (by unfold strikeOf; rw [if_neg c3])
            exact this
        · subst ey
          refine if_hideD fun x y ex ey => ?_
          refine ⟨_, rfl, _, _, rfl, rfl, (by show (0 : Int) < 9; decide), rfl, _, rfl, ?_⟩
          have fin : ∀ (q : Qu) (H3 : Hp) (p : Addr) (x : V), Same H2 H3 → H3 p = none → RQ (off l H3) q x →
              Same H (upd (upd H3 p (.tup [.str "ask", x])) l (.lst (us ++ [.ref p]))) ∧ upd (upd H3 p (.tup [.str "ask", x])) l (.lst (us ++ [.ref p])) l = some (.lst (us ++ [.ref p])) ∧
              upd (upd H3 p (.tup [.str "ask", x])) l (.lst (us ++ [.ref p])) l3 = some (.lst (said.map V.str)) ∧ REs (off l (upd (upd H3 p (.tup [.str "ask", x])) l (.lst (us ++ [.ref p])))) (made ++ [.ask q]) (us ++ [.ref p]) := by
            intro q H3 p x s4 hp hq
            have s5 := same_upd (o := .tup [.str "ask", x]) hp
            have npl : p ≠ l := (ne_of_none (s4 _ _ hl2) hp).symm
            refine ⟨fun b o e => ?_, upd_same, ?_, made_snoc hm (s4.trans s5) (re_ask.mpr ⟨p, x, rfl, off_get npl upd_same, RD.same (off_same s5) hq⟩)⟩
            · rw [upd_ne (ne_of_none e hl)]
              exact (s3.trans (s4.trans s5)) b o e
            · rw [upd_ne hne]
              exact (s4.trans s5) _ _ h32
          have ask : ∀ (hd : ¬ (sd % 9 = 4 ∧ said ≠ [])), dStep t sd ⟨made, came, said⟩ = ⟨made ++ [.ask (quBy sd)], came, said⟩ := fun hd => by unfold dStep; rw [if_neg c1, if_neg c2, if_neg hd]
          refine iteI (fun c3 => ?_) (fun c3 => ?_)
          · refine ⟨_, rfl, by simp, fun le hle => ⟨l3, le, _, [], rfl, rfl, SqL.of ((same_upd hle) _ _ h32), SqL.of upd_same, flat_strs _, rfl, _, rfl, ?_⟩⟩
            have s4 := same_upd (o := .lst []) hle
            rw [eqVs_nil]
            cases said with
            | nil =>
              refine iteF ?_
              subst ey
              rw [ask (fun h => h.2 rfl)]
              refine ⟨_, rfl, .inl ⟨rfl, _, SqL.of (s4 _ _ hl2)⟩, _, rfl, sd, rfl, fun v H4 s5 hv => ⟨sz 2, fun p hp => ?_⟩⟩
              obtain ⟨f1, f2, f3, f4⟩ := fin (quBy sd) H4 p v (s4.trans s5) hp (RD.same (frh_off (s4 _ _ hl2)) hv)
              exact ⟨l, us, _, rfl, rfl, (same_upd hp) _ _ ((s4.trans s5) _ _ hl2), usz, l3, _, _, _, _, _, _, rfl, f1, hne, f2, f3, f4⟩
            | cons w0 wt =>
              refine iteT ?_
              subst ex
              have ed : dStep t sd ⟨made, came, w0 :: wt⟩ = ⟨made ++ [.ask (.row (saidRow sd (w0 :: wt)))], came, w0 :: wt⟩ := by
                unfold dStep
                rw [if_neg c1, if_neg c2, if_pos ⟨c3, by simp⟩]
              rw [ed]
              refine seq_hide fun N b c eN => ?_
              refine ⟨_, rfl, _, _, rfl, rfl, ⟨by decide, by decide⟩, _, rfl, l3, _, rfl, .inl (SqL.of (s4 _ _ h32)), _, _, rfl, rfl, (by rw [List.length_map]; show (0 : Int) < ((wt.length + 1 : Nat) : Int); omega), ?_⟩
              rw [List.length_map]
              show N _ _
              subst eN
              refine ⟨_, rfl, .inl ⟨rfl, _, SqL.of (s4 _ _ hl2)⟩, _, rfl, _, rfl, _, rfl, _, rfl, _, _, rfl, rfl, _, rfl, _, _, rfl, rfl, ⟨by decide, by decide⟩, _, _, rfl, rfl, (by show (0 : Int) < 5; decide), _, _, rfl, rfl, _, rfl, l3, _, rfl, SqL.of (s4 _ _ h32), fun b hb => ⟨sz 2, fun c hc => ⟨sz 2, fun p hp => ?_⟩⟩⟩
              revert hc hp
              rw [cutV_map V.str]
              intro hc hp
              have s5 := same_upd (o := .lst ((saidRow sd (w0 :: wt)).map V.str)) hb
              have s6 := same_upd (o := .tup [.str "row", .ref b]) hc
              have nb : b ≠ l := (ne_of_none (s4 _ _ hl2) hb).symm
              have nc : c ≠ l := (ne_of_none ((s4.trans s5) _ _ hl2) hc).symm
              obtain ⟨f1, f2, f3, f4⟩ := fin (.row (saidRow sd (w0 :: wt))) _ p (.ref c) (s4.trans (s5.trans s6)) hp (rq_row.mpr ⟨c, b, rfl, off_get nc upd_same, off_get nb (s6 _ _ upd_same)⟩)
              exact ⟨l, us, _, rfl, rfl, (same_upd hp) _ _ ((s4.trans (s5.trans s6)) _ _ hl2), usz, l3, _, _, _, _, _, _, rfl, f1, hne, f2, f3, f4⟩
          · refine iteF ?_
            subst ey
            rw [ask (fun h => c3 h.1)]
            refine ⟨_, rfl, .inl ⟨rfl, _, SqL.of hl2⟩, _, rfl, sd, rfl, fun v H4 s5 hv => ⟨sz 2, fun p hp => ?_⟩⟩
            obtain ⟨f1, f2, f3, f4⟩ := fin (quBy sd) H4 p v s5 hp (RD.same (frh_off hl2) hv)
            exact ⟨l, us, _, rfl, rfl, (same_upd hp) _ _ (s5 _ _ hl2), usz, l3, _, _, _, _, _, _, rfl, f1, hne, f2, f3, f4⟩
    · rintro σ H2 ⟨l3, us, u1, u2, u3, u4, u5, rfl, s3, hne, hl2, h32, hm⟩
      show N _ _
      subst eN
      exact ⟨_, rfl, k l us H2 hl s3 hl2 hm⟩
end
end K5


set_option linter.all false
set_option maxRecDepth 100000
set_option maxHeartbeats 4000000
namespace K5
open PySem L2 PyProof.Rows WS DM
/-- a dict at d holds the lines kept -/
def KpAt (H : Hp) (d : Addr) (kp : DM.Kept) : Prop := ∃ KA : Int → Addr, H d = some (.dK (kM Sum.inl (DM.numsOf kp) KA)) ∧ ∀ e, e ∈ kp → H (KA (e.1 : Int)) = some (.lst (e.2.map V.str))
theorem KpAt.same {H H' : Hp} {d : Addr} {kp : DM.Kept} (h : KpAt H d kp) (e : Same H H') : KpAt H' d kp := by
  obtain ⟨KA, h1, h2⟩ := h
  exact ⟨KA, e _ _ h1, fun e' he => e _ _ (h2 e' he)⟩
/-- (script[k] + 7919 * k) * 48271 % 1000003 -/
def mixBy (ns : List Int) : List Int := (List.range ns.length).map fun i => (ns.getD i 0 + 7919 * (i : Int)) * 48271 % 1000003
theorem mixBy_len (ns : List Int) : (mixBy ns).length = ns.length := by unfold mixBy; rw [List.length_map, List.length_range]
section
variable {P : Program} {w : World} {K : PySem.W.Frag} {mg : Str → Option Value} {base : Heap}
/-- _law_after -/
def spAfter (K : PySem.W.Frag) : Sp := fun vs H Q _ => ∃ (d : Addr) (g : Nat) (v : V) (kp : DM.Kept) (de : Deed), vs = [.ref d, .int (g : Int), v] ∧ KpAt H d kp ∧ RE H de v ∧ OkE de ∧ Rise kp g ∧ g ≤ 100 ∧
  ∀ H', Same (off d H) H' → KpAt H' d (kAfter kp g de) → Q (.int (cAfter g de : Nat)) H'
abbrev NA : List Str := ["_law_kept", "_law_came", "_law_deed"]
theorem scAf : FnScope NA NA (defScope sAfter) := ⟨rfl, rfl, rfl, by decide +kernel, rfl, by decide +kernel, by decide +kernel⟩
theorem ok_after {f fS : Addr} {fd dS : FuncData} (F : Fun K "_law_after" "_law_after" sAfter f fd) (T : Txt mg)
    (GS : FnOk P w K mg base CX0 1 fS dS ["_law_line"] (spSpl K)) (FS : Fun K "_law_split" "_law_split" sSpl fS dS) (bS : Binds K dS ["_law_line"] []) (mS : mg "_law_split" = some (.ref fS)) :
    FnOk P w K mg base CX0 2 f fd NA (spAfter K) := by
  refine F.ok scAf (fun vs H Q E h => ?_) (fun cdv A outer s H vs Q E hr h => ?_)
  · obtain ⟨d, g, v, kp, de, rfl, _⟩ := h
    rfl
  · obtain ⟨d, g, v, kp, de, rfl, ⟨KA, hk, hl⟩, hd, hok, hri, hg, k⟩ := h
    have hu := hu_of hr
    refine ⟨_, pss_cons (ps_if (pt_cmpR op_eq (pe_ix ix_tup (pv 2) pe_int fun _ _ => rfl) pe_str (nomark _)) (pss_one (ps_dput hu (pv 0) (pv 1) (pe_call GS hr rfl mS FS.kp bS .nil pass0 (pa_cons (pe_ix ix_tup (pv 2) pe_int fun _ _ => rfl) pa_nil)) rfl)) pss_nil)
      (pss_cons (ps_if (PW.pt (pw_and (pt_cmpR op_eq (pe_ix ix_tup (pv 2) pe_int fun _ _ => rfl) pe_str (nomark _)) (pw_and1 (pt_cmp (pc_din hu (pe_ix ix_tup (pv 2) pe_int fun _ _ => rfl) (pv 0)))))) (pss_one (ps_expr (pe_dpop1 (pv 0) (pe_ix ix_tup (pv 2) pe_int fun _ _ => rfl) ⟨rfl, rfl, rfl, rfl⟩))) pss_nil)
      (pss_one (ps_ret (pe_op op_add (pv 1) (pe_callTy call_int1 (by rfl) T.int PyProof.Rows.boot_int (pa_cons (pe_cmpR op_eq (pe_ix ix_tup (pv 2) pe_int fun _ _ => rfl) pe_str (nomark _)) pa_nil)))))), ?_⟩
    try dsimp only [noxK]
    have fin : ∀ (H' : Hp) (a : Addr) (t : Str) (r : List V), H' a = some (.tup (.str t :: r)) → Same (off d H) H' → KpAt H' d (kAfter kp g de) → (t = "put" ↔ ∃ l, de = .put l) →
        tRet (tOp (rI0 fun i j => .int (i + j)) (tVar 1) (tCB (fun xs H Q => (∃ i, xs = [.int i] ∧ Q (.int i) H) ∨ ∃ k, xs = [.bl k] ∧ Q (.int (if k then 1 else 0)) H) (tCons (tOp rEq (tOp (rIxT K) (tVar 2) (tC (.int 0))) (tC (.str "put"))) tNil))) ⟨fun _ _ => False, Q, fun _ _ => False, fun _ _ => False⟩ [some (.ref d), some (.int (g : Int)), some (.ref a)] H' := by
      intro H' a t r ha hs hkp ht
      refine ⟨_, rfl, _, rfl, a, _, _, _, rfl, rfl, SqT.of ha, atI_nat (j := 0) rfl, rfl, .inr ⟨_, rfl, _, _, rfl, rfl, ?_⟩⟩
      have kk := k H' hs hkp
      have e : (g : Int) + (if decide (V.str t = V.str "put") = true then 1 else 0) = ((cAfter g de : Nat) : Int) := by
        by_cases h : t = "put"
        · obtain ⟨l, rfl⟩ := ht.mp h
          rw [h, decide_eq_true rfl, if_pos rfl]
          rfl
        · rw [decide_eq_false (fun z => h (by cases z; rfl)), if_neg Bool.false_ne_true]
          cases de with
          | put l => exact absurd (ht.mpr ⟨l, rfl⟩) h
          | strike n => exact Int.add_zero _
          | ask q => exact Int.add_zero _
      rw [← e] at kk
      exact kk
    cases de with
    | put l =>
      obtain ⟨a, rfl, ha⟩ := re_put.mp hd
      obtain ⟨h1, h2, h3⟩ := hok
      refine ⟨_, rfl, a, _, _, _, rfl, rfl, SqT.of ha, atI_nat (j := 0) rfl, rfl, _, rfl, iteY ?_⟩
      refine ⟨_, rfl, a, _, _, _, rfl, rfl, SqT.of ha, atI_nat (j := 1) rfl, l, rfl, by omega, h2, fun q hq => ?_⟩
      have s1 := same_upd (o := .lst ((wds l.cps.toList).map V.str)) hq
      refine ⟨_, rfl, _, rfl, d, _, rfl, DPut.k (k := Sum.inl (g : Int)) (s1 _ _ hk) (by rw [kM_len, nums_len, sizeLine_eq]; have := hri.len; omega), ?_⟩
      rw [put_kM inl_inj hri.not]
      have nd : a ≠ d := ne_of ha hk (by intro z; cases z)
      have nq : q ≠ d := (ne_of_none hk hq).symm
      have ha2 : upd (upd H q (.lst ((wds l.cps.toList).map V.str))) d (.dK (kM Sum.inl (DM.numsOf kp ++ [(g : Int)]) (setA KA (g : Int) q))) a = some (.tup [.str "put", .str l]) := by rw [upd_ne nd]; exact s1 _ _ ha
      refine ⟨_, rfl, a, _, _, _, rfl, rfl, SqT.of ha2, atI_nat (j := 0) rfl, rfl, _, rfl, iteN (by decide +kernel) (iteF ?_)⟩
      refine fin _ a _ _ ha2 (fun b o e => ?_) ⟨setA KA (g : Int) q, ?_, fun e he => ?_⟩ ⟨fun _ => ⟨l, rfl⟩, fun _ => rfl⟩
      · have nb : b ≠ d := fun z => by
          rw [z] at e
          unfold off at e
          rw [if_pos rfl] at e
          cases e
        rw [upd_ne nb]
        exact s1 b o (off_le b o e)
      · rw [upd_same]
        unfold kAfter DM.numsOf
        rw [List.map_append]
        rfl
      · rcases List.mem_append.mp he with h | h
        · have h4 := (hri.2 e h).1
          rw [setA_ne (show (e.1 : Int) ≠ (g : Int) by omega)]
          have h5 := hl e h
          rw [upd_ne (ne_of h5 hk (by intro z; cases z))]
          exact s1 _ _ h5
        · rw [List.mem_singleton.mp h, setA_same, upd_ne nq, upd_same]
          rfl
    | strike n =>
      obtain ⟨a, rfl, ha⟩ := re_strike.mp hd
      have nd : a ≠ d := ne_of ha hk (by intro z; cases z)
      refine ⟨_, rfl, a, _, _, _, rfl, rfl, SqT.of ha, atI_nat (j := 0) rfl, rfl, _, rfl, iteN (by decide +kernel) ?_⟩
      refine ⟨_, rfl, a, _, _, _, rfl, rfl, SqT.of ha, atI_nat (j := 0) rfl, rfl, _, rfl, iteY ?_⟩
      refine ⟨_, rfl, a, _, _, _, rfl, rfl, SqT.of ha, atI_nat (j := 1) rfl, _, rfl, d, _, rfl, DGet.k (k := Sum.inl n) hk, _, rfl, ?_⟩
      rw [val_kM inl_inj]
      by_cases hn : n ∈ DM.numsOf kp
      · rw [if_pos hn]
        refine iteT ?_
        refine ⟨_, rfl, d, rfl, .inl ⟨_, Rd.of hk⟩, _, rfl, a, _, _, _, rfl, rfl, SqT.of ha, atI_nat (j := 1) rfl, kM Sum.inl (DM.numsOf kp) KA, Sum.inl n, _, hk, rfl, (by rw [val_kM inl_inj, if_pos hn]), ?_⟩
        rw [drop_kM inl_inj]
        refine fin _ a "strike" _ (by rw [upd_ne nd]; exact ha) (fun b o e => ?_) ⟨KA, ?_, fun e he => ?_⟩ ⟨fun z => absurd z (by decide +kernel), fun ⟨l, z⟩ => nomatch z⟩
        · have nb : b ≠ d := fun z => by
            rw [z] at e
            unfold off at e
            rw [if_pos rfl] at e
            cases e
          rw [upd_ne nb]
          exact off_le b o e
        · rw [upd_same]
          unfold kAfter DM.numsOf
          rw [List.filter_map]
          rfl
        · have h5 := hl e (List.mem_filter.mp he).1
          rw [upd_ne (ne_of h5 hk (by intro z; cases z))]
          exact h5
      · rw [if_neg hn]
        refine iteF ?_
        refine fin _ a "strike" _ ha off_le ⟨KA, ?_, fun e he => hl e (List.mem_filter.mp he).1⟩ ⟨fun z => absurd z (by decide +kernel), fun ⟨l, z⟩ => nomatch z⟩
        have e1 : kAfter kp g (.strike n) = kp := List.filter_eq_self.mpr fun e he => by
          rw [decide_eq_true_eq]
          exact fun q => hn (nums_mem.mpr ⟨e, he, q⟩)
        rw [e1]
        exact hk
    | ask q =>
      obtain ⟨a, x, rfl, ha, _⟩ := re_ask.mp hd
      refine ⟨_, rfl, a, _, _, _, rfl, rfl, SqT.of ha, atI_nat (j := 0) rfl, rfl, _, rfl, iteN (by decide +kernel) ?_⟩
      refine ⟨_, rfl, a, _, _, _, rfl, rfl, SqT.of ha, atI_nat (j := 0) rfl, rfl, _, rfl, iteN (by decide +kernel) (iteF ?_)⟩
      exact fin _ a "ask" _ ha off_le ⟨KA, hk, hl⟩ ⟨fun z => absurd z (by decide +kernel), fun ⟨l, z⟩ => nomatch z⟩
end
end K5


set_option linter.all false
set_option maxRecDepth 100000
set_option maxHeartbeats 4000000
namespace L2
open PySem PySem.Spec PyProof.Rows
/-- a == b of two lists of unlike lengths -/
inductive rEqLnI (K : PySem.W.Frag) (x : V) (y : V) (H : Hp) (Q : VK) : Prop | mk (a b xs ys) (h0 : x = .ref a) (h1 : y = .ref b) (h2 : SqL K H a xs) (h3 : SqL K H b ys) (h4 : xs.length ≠ ys.length) (h5 : Q (.bl false) H) : rEqLnI K x y H Q
def rEqLn (K : PySem.W.Frag) : R2 := fun x y H Q => rEqLnI K x y H Q
theorem op_eqLn {X : Cx} (hu : X.A.units + 1 < cLine) : OpR X (compareOp .Eq) (rEqLn X.K) := by
  intro pins s σ H x y v u Q I rx ry h
  obtain ⟨a, b, xs, ys, rfl, rfl, ha, hb, hl, q⟩ := h
  cases rx
  cases ry
  obtain ⟨its, r, pl, hz⟩ := I.list ha
  obtain ⟨its2, r', pl', hz'⟩ := I.list hb
  exact SeqAt.eq_list_lengthsAt pl.isList pl'.isList (by rw [List.size_toArray, List.size_toArray, ← r.length, ← r'.length]; simpa using hl) (Nat.lt_of_succ_lt hu) ⟨.bl _, H, I, rfl, q⟩
end L2
namespace K5
open PySem L2 PyProof.Rows WS DM
abbrev sWhole : Stmt := top 19
abbrev sHold : Stmt := top 26
abbrev sMixed : Stmt := top 27
abbrev sLaw : Stmt := top 28
section
variable {P : Program} {w : World} {K : PySem.W.Frag} {mg : Str → Option Value} {base : Heap}
/-- _law_whole of an int -/
def spWhole : Sp := fun vs H Q _ => ∃ n : Int, vs = [.int n] ∧ Q (.bl true) H
theorem scW : FnScope ["_law_found"] ["_law_found"] (defScope sWhole) := ⟨rfl, rfl, rfl, by decide +kernel, rfl, by decide +kernel, by decide +kernel⟩
theorem ok_whole {f : Addr} {fd : FuncData} (F : Fun K "_law_whole" "_law_whole" sWhole f fd) (T : Txt mg) : FnOk P w K mg base CX0 1 f fd ["_law_found"] spWhole := by
  refine F.ok scW (fun vs H Q E h => ?_) (fun cdv A outer s H vs Q E hr h => ?_)
  · obtain ⟨n, rfl, _⟩ := h
    rfl
  · obtain ⟨n, rfl, k⟩ := h
    refine ⟨_, pss_one (ps_ret (pe_and (pe_callB call_isi (by rfl) T.isi boot_isinstance (pa_cons (pv 0) (pa_cons (pe_bltn (v := .ty "int") (by rfl) T.int PyProof.Rows.boot_int rfl) pa_nil)))
      (pe_one (pe_not (pe_callB call_isi (by rfl) T.isi boot_isinstance (pa_cons (pv 0) (pa_cons (pe_bltn (v := .ty "bool") (by rfl) T.bool PyProof.Rows.boot_bool rfl) pa_nil))))))), ?_⟩
    try dsimp only [noxK]
    refine ⟨_, rfl, _, _, _, _, rfl, .int n, kit_ii, true, rfl, iteT ?_⟩
    exact ⟨_, rfl, _, _, _, _, rfl, .int n, kit_ib, false, rfl, k⟩

/-- _law_mixed -/
def spMix (K : PySem.W.Frag) : Sp := fun vs H Q _ => ∃ (a : Addr) (ns : List Int), vs = [.ref a] ∧ SqL K H a (ns.map V.int) ∧ ns.length ≤ 1000 ∧ ∀ l : Addr, H l = none → Q (.ref l) (upd H l (.lst ((mixBy ns).map V.int)))
theorem scMi : FnScope ["_law_script"] ["_law_script"] (defScope sMixed) := ⟨rfl, rfl, rfl, by decide +kernel, rfl, by decide +kernel, by decide +kernel⟩
theorem ok_mix {f : Addr} {fd : FuncData} (F : Fun K "_law_mixed" "_law_mixed" sMixed f fd) (T : Txt mg) : FnOk P w K mg base CX0 1 f fd ["_law_script"] (spMix K) := by
  refine F.ok scMi (fun vs H Q E h => ?_) (fun cdv A outer s H vs Q E hr h => ?_)
  · obtain ⟨a, ns, rfl, _⟩ := h
    rfl
  · obtain ⟨a, ns, rfl, hA, hn, k⟩ := h
    refine ⟨_, pss_one (ps_ret (pe_comp (fun _ _ h => h) rfl (compOk_of (sc := defScope sMixed) (N := ["_law_script"]) (M := ["_law_script"]) rfl rfl (by decide +kernel)) (pi_range1 (by rfl) T.rng (pa_cons (pe_callB call_len_seq (by rfl) T.len PySem.boot_len (pa_cons (pv 0) pa_nil)) pa_nil))
      (fun _ _ _ _ _ _ => pifs_nil) (fun _ _ _ _ _ _ => pe_op op_mod (pe_op op_mul (pe_op op_add (pe_ix (r := rIxL K) ix_list (pv 0) (pv 1) fun _ _ => rfl) (pe_op op_mul pe_int (pv 1))) pe_int) pe_int))), ?_⟩
    try dsimp only [noxK]
    refine ⟨_, rfl, a, _, rfl, .inl hA, _, rfl, by rw [List.length_map]; omega, by rw [List.length_map]; omega, ?_⟩
    dsimp only
    rw [List.length_map, Int.toNat_natCast]
    refine comp_range (fun k => some (.int ((ns.getD k.toNat 0 + 7919 * k) * 48271 % 1000003))) (by rw [sizeLine_eq]; omega) (fun i hi Qt Qf q1 q2 => ?_) fun l hl => ?_
    · have hc : (ns.map V.int)[i]? = some (V.int (ns.getD i 0)) := by rw [List.getElem?_map, List.getElem?_eq_getElem hi]; simp [List.getD, hi]
      rw [Int.zero_add] at q1 q2 ⊢
      refine iteT (B := Qf H) ⟨_, rfl, _, rfl, a, _, _, _, rfl, rfl, hA, atI_nat hc, _, rfl, _, _, rfl, rfl, .inl ⟨by decide, by decide⟩, _, _, rfl, rfl, _, _, rfl, rfl, .inr ⟨by decide, by decide⟩, _, _, rfl, rfl, (by show (0 : Int) < 1000003; decide), ?_⟩
      exact q1 _ (by rw [Int.toNat_natCast])
    · have e : ((List.range ns.length).filterMap fun (i : Nat) => some (V.int ((ns.getD ((0 : Int) + (i : Int)).toNat 0 + 7919 * ((0 : Int) + (i : Int))) * 48271 % 1000003))) = (mixBy ns).map V.int := by
        unfold mixBy
        rw [List.map_map, List.filterMap_eq_map']
        refine List.map_congr_left fun i _ => ?_
        show V.int _ = V.int _
        rw [Int.zero_add, Int.toNat_natCast]
      rw [e]
      exact k l hl

theorem filterMap_if {α β : Type} (p : α → Bool) (f : α → β) (g : α → Option β) : ∀ {l : List α}, (∀ a ∈ l, g a = if p a = true then some (f a) else none) → l.filterMap g = (l.filter p).map f
  | [], _ => rfl
  | a :: l, h => by
    have h1 := h a List.mem_cons_self
    have ih := filterMap_if p f g (l := l) fun b hb => h b (List.mem_cons_of_mem _ hb)
    rw [List.filterMap_cons, List.filter_cons, h1, ih]
    by_cases hp : p a = true
    · rw [if_pos hp, if_pos hp]; rfl
    · rw [if_neg hp, if_neg hp]
/-- _law_row_holds -/
def spHold (K : PySem.W.Frag) : Sp := fun vs H Q _ => ∃ (v : V) (d : Addr) (kp : DM.Kept) (g : Nat) (x : Str), vs = [v, .ref d] ∧ RD H (wordD kp x) v ∧ KpAt H d kp ∧ Rise kp g ∧ g ≤ 100 ∧ linOf kp x ≠ [] ∧ ∀ H', Same H H' → Q (.bl true) H'
abbrev NH : List Str := ["_law_found", "_law_kept", "_law_last", "_law_line", "_law_words", "_law_place", "_law_due"]
theorem scH : FnScope NH ["_law_found", "_law_kept"] (defScope sHold) := ⟨rfl, rfl, rfl, by decide +kernel, rfl, by decide +kernel, by decide +kernel⟩
def lastOf (ns : List Int) (i : Nat) : Int := if i = 0 then -1 else ns.getD (i - 1) 0
theorem ok_hold {f fW : Addr} {fd dW : FuncData} (F : Fun K "_law_row_holds" "_law_row_holds" sHold f fd) (T : Txt mg) (FW : Fun K "_law_whole" "_law_whole" sWhole fW dW) (bW : Binds K dW ["_law_found"] []) (mW : mg "_law_whole" = some (.ref fW)) :
    FnOk P w K mg base CX0 2 f fd ["_law_found", "_law_kept"] (spHold K) := by
  have GW : FnOk P w K mg base CX0 1 fW dW ["_law_found"] spWhole := ok_whole FW T
  refine F.ok scH (fun vs H Q E h => ?_) (fun cdv A outer s H vs Q E hr h => ?_)
  · obtain ⟨v, d, kp, g, x, rfl, _⟩ := h
    rfl
  · obtain ⟨v, d, kp, g, x, rfl, hv, hkp, hri, hg, hne, k⟩ := h
    have hu := hu_of hr
    refine ⟨_, pss_cons (ps_if (PW.pt (pw_or (pt_not (pt_val (pe_callB call_isi (by rfl) T.isi boot_isinstance (pa_cons (pv 0) (pa_cons (pe_bltn (v := .ty "tuple") (by rfl) T.tup PyProof.Rows.boot_tuple rfl) pa_nil)))))
        (pw_or (pt_cmpR op_ne (pe_callB call_len_seq (by rfl) T.len PySem.boot_len (pa_cons (pv 0) pa_nil)) pe_int (nomark _)) (pw_or1 (pt_not (pt_val (pe_callB call_isi (by rfl) T.isi boot_isinstance (pa_cons (pe_ix ix_tup (pv 0) pe_int fun _ _ => rfl) (pa_cons (pe_bltn (v := .ty "str") (by rfl) T.str PyProof.Rows.boot_str rfl) pa_nil)))))))))
        (pss_one (ps_ret pe_bl)) pss_nil)
      (pss_cons (ps_if (PW.pt (pw_or (pt_not (pt_val (pe_callB call_isi (by rfl) T.isi boot_isinstance (pa_cons (pe_ix ix_tup (pv 0) pe_int fun _ _ => rfl) (pa_cons (pe_bltn (v := .ty "list") (by rfl) T.list PyProof.Rows.boot_list rfl) pa_nil)))))
        (pw_or1 (pt_cmpR (op_eqLn hu) (pe_ix ix_tup (pv 0) pe_int fun _ _ => rfl) (pe_lst pa_nil) (nomark _)))))
        (pss_one (ps_ret pe_bl)) pss_nil)
      (pss_cons (ps_set (i := 2) scH.nd rfl (Or.inl rfl) (pe_un un_neg pe_int))
      (pss_cons (ps_for PassesOwn.never rfl (pi_list (pe_ix ix_tup (pv 0) pe_int fun _ _ => rfl)) (pg_name (i := 3) scH.nd rfl (Or.inl rfl))
        (pss_cons (ps_if (PW.pt (pw_or (pt_not (pt_val (pe_callB call_isi (by rfl) T.isi boot_isinstance (pa_cons (pv 3) (pa_cons (pe_bltn (v := .ty "tuple") (by rfl) T.tup PyProof.Rows.boot_tuple rfl) pa_nil)))))
          (pw_or (pt_cmpR op_ne (pe_callB call_len_seq (by rfl) T.len PySem.boot_len (pa_cons (pv 3) pa_nil)) pe_int (nomark _)) (pw_or1 (pt_not (pt_val (pe_call GW hr rfl mW FW.kp bW .nil pass0 (pa_cons (pe_ix ix_tup (pv 3) pe_int fun _ _ => rfl) pa_nil))))))))
          (pss_one (ps_ret pe_bl)) pss_nil)
        (pss_cons (ps_if (PW.pt (pw_or (pt_cmp (pc_dnotin hu (pe_ix ix_tup (pv 3) pe_int fun _ _ => rfl) (pv 1)))
          (pw_or (pt_cmpR op_le (pe_ix ix_tup (pv 3) pe_int fun _ _ => rfl) (pv 2) (nomark _)) (pw_or1 (pt_not (pt_val (pe_callB call_isi (by rfl) T.isi boot_isinstance (pa_cons (pe_ix ix_tup (pv 3) pe_int fun _ _ => rfl) (pa_cons (pe_bltn (v := .ty "list") (by rfl) T.list PyProof.Rows.boot_list rfl) pa_nil)))))))))
          (pss_one (ps_ret pe_bl)) pss_nil)
        (pss_cons (ps_set (i := 2) scH.nd rfl (Or.inl rfl) (pe_ix ix_tup (pv 3) pe_int fun _ _ => rfl))
        (pss_cons (ps_set (i := 4) scH.nd rfl (Or.inr rfl) (pe_dget hu (pv 1) (pv 2) (fun _ _ => rfl)))
        (pss_cons (ps_for PassesOwn.never rfl (pi_list (pe_ix ix_tup (pv 3) pe_int fun _ _ => rfl)) (pg_name (i := 5) scH.nd rfl (Or.inl rfl))
          (pss_one (ps_if (pt_not (pt_val (pe_call GW hr rfl mW FW.kp bW .nil pass0 (pa_cons (pv 5) pa_nil)))) (pss_one (ps_ret pe_bl)) pss_nil)))
        (pss_cons (ps_comp (i := 6) (fun _ _ h => h) rfl (compOk_of (sc := defScope sHold) (N := NH) (M := NH) rfl rfl (by decide +kernel)) (pi_range1 (by rfl) T.rng (pa_cons (pe_callB call_len_seq (by rfl) T.len PySem.boot_len (pa_cons (pv 4) pa_nil)) pa_nil))
          (fun _ _ _ _ _ _ => pifs_one (pt_cmpR op_eq (pe_ix (r := rIxL K) ix_list (pv 4) (pv 7) fun _ _ => rfl) (pe_ix (r := rIxT K) ix_tup (pv 0) pe_int fun _ _ => rfl) (nomark _))) (fun _ _ _ _ _ _ => pv 7) scH.nd rfl rfl)
        (pss_one (ps_if (PW.pt (pw_or (pt_cmpR (op_eqL hu) (pv 6) (pe_lst pa_nil) (nomark _)) (pw_or1 (pt_cmpR (op_neL hu) (pe_ix ix_tup (pv 3) pe_int fun _ _ => rfl) (pv 6) (nomark _)))))
          (pss_one (ps_ret pe_bl)) pss_nil)))))))))
      (pss_one (ps_ret pe_bl))))), ?_⟩
    try dsimp only [noxK]
    obtain ⟨a, b, us, rfl, ha, hb, hr'⟩ := rd_word.mp hv
    obtain ⟨KA, hk, hl⟩ := hkp
    have hul := rds_len hr'
    rw [List.length_map] at hul
    have hu0 : us.length ≠ 0 := by rw [hul]; exact fun z => hne (List.length_eq_zero_iff.mp z)
    have hlr := hri.lin x
    -- the first test
    refine ⟨_, rfl, _, _, _, _, rfl, .tup ha, kit_tt, true, rfl, ?_⟩
    refine iteF ⟨_, rfl, a, _, rfl, .inr (SqT.of ha), rfl, _, rfl, ?_⟩
    refine iteNS rfl ?_
    refine ⟨_, rfl, a, _, _, _, rfl, rfl, SqT.of ha, atI_nat (j := 0) rfl, _, _, _, _, rfl, .str x, kit_ss, true, rfl, iteF ?_⟩
    -- the second
    refine ⟨_, rfl, a, _, _, _, rfl, rfl, SqT.of ha, atI_nat (j := 1) rfl, _, _, _, _, rfl, .lst hb, kit_ll, true, rfl, ?_⟩
    refine iteF ⟨_, rfl, a, _, _, _, rfl, rfl, SqT.of ha, atI_nat (j := 1) rfl, by simp, fun le hle => ⟨b, le, us, [], rfl, rfl, SqL.of ((same_upd hle) _ _ hb), SqL.of upd_same, hu0, _, rfl, iteF ?_⟩⟩
    have s1 := same_upd (o := .lst []) hle
    generalize upd H le (.lst []) = H1 at s1 ⊢
    refine ⟨_, rfl, ?_⟩
    refine ⟨_, rfl, a, _, _, _, rfl, rfl, SqT.of (s1 _ _ ha), atI_nat (j := 1) rfl, b, rfl, ⟨_, SqL.of (s1 _ _ hb)⟩, for_list (K := K) (a := b) (xs := us)
      (fun i σ H2 => ∃ (u1 u2 u3 u4 : Option V), σ = [some (.ref a), some (.ref d), some (.int (lastOf (linOf kp x) i)), u1, u2, u3, u4] ∧ Same H H2)
      ⟨none, none, none, none, rfl, s1⟩ (fun i σ H2 _ ⟨_, _, _, _, _, s2⟩ => SqL.of (s2 _ _ hb)) ?_ ?_⟩
    · rintro i y σ H2 hi ⟨u1, u2, u3, u4, rfl, s2⟩
      have hil : i < (linOf kp x).length := by have := (List.getElem?_eq_some_iff.mp hi).1; omega
      obtain ⟨v', hv', rv⟩ := rds_get hr' (i := i) (d := lineD kp x (linOf kp x)[i]) (by rw [List.getElem?_map, List.getElem?_eq_getElem hil]; rfl)
      rw [hi] at hv'
      cases hv'
      obtain ⟨t, m, rfl, ht0, hm0⟩ := rd_line.mp rv
      have ht := s2 _ _ ht0
      have hm := s2 _ _ hm0
      have hin : (linOf kp x)[i] ∈ linOf kp x := List.getElem_mem hil
      have hlast : lastOf (linOf kp x) i < (linOf kp x)[i] := by
        unfold lastOf
        by_cases h0 : i = 0
        · rw [if_pos h0]
          obtain ⟨e, _, e1, _⟩ := lin_mem.mp hin
          omega
        · rw [if_neg h0]
          have h1 : i - 1 < (linOf kp x).length := by omega
          have e1 : (linOf kp x).getD (i - 1) 0 = (linOf kp x)[i - 1] := by simp [List.getD, h1]
          rw [e1]
          exact pw_get hlr h1 hil (by omega)
      have hnext : lastOf (linOf kp x) (i + 1) = (linOf kp x)[i] := by
        unfold lastOf
        rw [if_neg (by omega)]
        simp [List.getD, hil]
      rw [hnext]
      obtain ⟨e, he, en, hx⟩ := lin_mem.mp hin
      generalize (linOf kp x)[i] = n at *
      subst en
      have hnn : (e.1 : Int) ∈ DM.numsOf kp := nums_mem.mpr ⟨e, he, rfl⟩
      have hpl : plcOf kp x (e.1 : Int) = plOf x e.2 := plc_of hri he x
      rw [hpl] at hm
      have hlw := s2 _ _ (hl e he)
      have hel := (hri.2 e he).2
      -- the shape of the line
      refine ⟨_, rfl, _, _, _, _, rfl, .tup ht, kit_tt, true, rfl, ?_⟩
      refine iteF ⟨_, rfl, t, _, rfl, .inr (SqT.of ht), rfl, _, rfl, ?_⟩
      refine iteNS rfl ?_
      refine ⟨_, rfl, t, _, _, _, rfl, rfl, SqT.of ht, atI_nat (j := 0) rfl, _, rfl, true, rfl, iteF ?_⟩
      -- kept, rising, a list
      refine ⟨_, rfl, t, _, _, _, rfl, rfl, SqT.of ht, atI_nat (j := 0) rfl, _, rfl, d, _, rfl, DGet.k (k := Sum.inl (e.1 : Int)) (s2 _ _ hk), _, rfl, ?_⟩
      rw [val_kM inl_inj, if_pos hnn]
      refine iteF ⟨_, rfl, t, _, _, _, rfl, rfl, SqT.of ht, atI_nat (j := 0) rfl, _, rfl, _, _, rfl, rfl, _, rfl, ?_⟩
      rw [decide_eq_false (by omega)]
      refine iteF ⟨_, rfl, t, _, _, _, rfl, rfl, SqT.of ht, atI_nat (j := 1) rfl, _, _, _, _, rfl, .lst hm, kit_ll, true, rfl, iteF ?_⟩
      refine ⟨_, rfl, t, _, _, _, rfl, rfl, SqT.of ht, atI_nat (j := 0) rfl, ?_⟩
      refine ⟨_, rfl, _, rfl, d, V.ref (KA (e.1 : Int)), rfl, (by
        have h := DGet.k (k := Sum.inl (e.1 : Int)) (s2 _ _ hk)
        rw [val_kM inl_inj, if_pos hnn] at h
        exact h), ?_⟩
      -- each place is a whole number
      refine ⟨_, rfl, t, _, _, _, rfl, rfl, SqT.of ht, atI_nat (j := 1) rfl, m, rfl, ⟨_, SqL.of hm⟩, for_list (K := K) (a := m) (xs := (plOf x e.2).map V.int)
        (fun i σ H3 => ∃ u u', σ = [some (.ref a), some (.ref d), some (.int (e.1 : Int)), some (.ref t), some (.ref (KA (e.1 : Int))), u, u'] ∧ H3 = H2)
        ⟨_, _, rfl, rfl⟩ (fun i σ H3 _ ⟨_, _, _, h⟩ => by rw [h]; exact SqL.of hm) ?_ ?_⟩
      · rintro j y σ H3 hj ⟨u, u', rfl, rfl⟩
        obtain ⟨z, _, rfl⟩ := List.mem_map.mp (List.mem_of_getElem? hj)
        refine ⟨_, rfl, z, rfl, true, rfl, iteF ?_⟩
        exact ⟨_, _, rfl, rfl⟩
      · rintro σ H3 ⟨u, u', rfl, rfl⟩
        -- due
        refine ⟨_, rfl, KA (e.1 : Int), _, rfl, .inl (SqL.of hlw), _, rfl, by rw [List.length_map]; omega, by rw [List.length_map]; omega, ?_⟩
        dsimp only
        rw [List.length_map, Int.toNat_natCast]
        refine comp_range (fun k => if e.2.getD k.toNat default = x then some (.int k) else none) (by rw [sizeLine_eq]; omega) (fun j hj Qt Qf q1 q2 => ?_) fun p hp => ?_
        · have hc : (e.2.map V.str)[j]? = some (V.str (e.2.getD j default)) := by rw [List.getElem?_map, List.getElem?_eq_getElem hj]; simp [List.getD, hj]
          rw [Int.zero_add] at q1 q2 ⊢
          rw [Int.toNat_natCast] at q1 q2
          refine ⟨_, rfl, _, rfl, KA (e.1 : Int), _, _, _, rfl, rfl, SqL.of hlw, atI_nat hc, _, rfl, a, _, _, _, rfl, rfl, SqT.of (s2 _ _ ha), atI_nat (j := 0) rfl, rfl, _, rfl, ?_⟩
          refine iteS (fun h => ?_) (fun h => ?_)
          · exact ⟨_, rfl, q1 _ (if_pos h)⟩
          · exact q2 (if_neg h)
        · have ed : ((List.range e.2.length).filterMap fun (i : Nat) => if e.2.getD ((0 : Int) + (i : Int)).toNat default = x then some (V.int ((0 : Int) + (i : Int))) else none) = (plOf x e.2).map V.int := by
            unfold plOf plN
            rw [List.map_map]
            refine filterMap_if _ _ _ fun j hj => ?_
            have hj' := List.mem_range.mp hj
            rw [Int.zero_add, Int.toNat_natCast, List.getElem?_eq_getElem hj']
            simp [List.getD, hj']
          rw [ed]
          have s3 := same_upd (o := .lst ((plOf x e.2).map V.int)) hp
          have hp3 : upd H3 p (.lst ((plOf x e.2).map V.int)) p = some (.lst ((plOf x e.2).map V.int)) := upd_same
          generalize upd H3 p (.lst ((plOf x e.2).map V.int)) = H4 at s3 hp3 ⊢
          refine ⟨_, rfl, by simp, fun l5 hl5 => ⟨p, l5, _, [], rfl, rfl, SqL.of ((same_upd hl5) _ _ hp3), SqL.of upd_same, flat_ints _, rfl, _, rfl, ?_⟩⟩
          have s5 := same_upd (o := .lst []) hl5
          have en : eqVs ((plOf x e.2).map V.int) [] = false := by
            rw [eqVs_nil]
            cases h : plOf x e.2 with
            | nil => exact absurd h (plOf_some hx)
            | cons y ys => rfl
          rw [show (if false = true then !eqVs ((plOf x e.2).map V.int) [] else eqVs ((plOf x e.2).map V.int) []) = false from en]
          refine iteF ⟨_, rfl, t, _, _, _, rfl, rfl, SqT.of ((s3.trans s5) _ _ ht), atI_nat (j := 1) rfl, _, rfl, m, p, _, _, rfl, rfl, SqL.of ((s3.trans s5) _ _ hm), SqL.of (s5 _ _ hp3), flat_ints _, flat_ints _, _, rfl, ?_⟩
          rw [eqVs_refl (flat_ints _)]
          refine iteF ?_
          exact ⟨_, _, _, _, rfl, s2.trans (s3.trans s5)⟩
    · rintro σ H2 ⟨u1, u2, u3, u4, rfl, s2⟩
      exact k H2 s2
end
end K5


set_option linter.all false
set_option maxRecDepth 100000
set_option maxHeartbeats 8000000
namespace DM
open PySem L2 PyProof.Rows
/-! ### the sums -/
theorem sum_add {α : Type} (f g : α → Int) : ∀ l : List α, (l.map fun a => f a + g a).sum = (l.map f).sum + (l.map g).sum
  | [] => rfl
  | a :: l => by
    rw [List.map_cons, List.map_cons, List.map_cons, List.sum_cons, List.sum_cons, List.sum_cons, sum_add f g l]
    omega
theorem sum_zero {α : Type} {f : α → Int} : ∀ {l : List α}, (∀ a ∈ l, f a = 0) → (l.map f).sum = 0
  | [], _ => rfl
  | a :: l, h => by
    rw [List.map_cons, List.sum_cons, h a List.mem_cons_self, sum_zero fun b hb => h b (List.mem_cons_of_mem _ hb)]
    rfl
theorem sum_one {y : Str} : ∀ {xs : List Str}, xs.Nodup → y ∈ xs → (xs.map fun x => if y = x then (1 : Int) else 0).sum = 1
  | [], _, h => by cases h
  | x :: xs, hn, h => by
    obtain ⟨h1, h2⟩ := List.nodup_cons.mp hn
    rw [List.map_cons, List.sum_cons]
    by_cases e : y = x
    · rw [if_pos e, sum_zero fun z hz => if_neg fun q => h1 (by rw [← e, q]; exact hz)]
      rfl
    · rw [if_neg e, sum_one h2 ((List.mem_cons.mp h).resolve_left e)]
      rfl
theorem sum_swap {α β : Type} (f : α → β → Int) (ys : List β) : ∀ xs : List α, (xs.map fun x => (ys.map fun y => f x y).sum).sum = (ys.map fun y => (xs.map fun x => f x y).sum).sum
  | [] => (sum_zero fun _ _ => rfl).symm
  | x :: xs => by
    rw [List.map_cons, List.sum_cons, sum_swap f ys xs, ← sum_add]
    rfl
theorem places_sum {xs ws : List Str} (hn : xs.Nodup) (hw : ∀ y, y ∈ ws → y ∈ xs) : ∀ i, i ≤ ws.length → (xs.map fun x => ((plOf x (ws.take i)).length : Int)).sum = i
  | 0, _ => sum_zero fun x _ => rfl
  | i + 1, hi => by
    have hil : i < ws.length := hi
    have e : (xs.map fun x => ((plOf x (ws.take (i + 1))).length : Int)) = xs.map fun x => ((plOf x (ws.take i)).length : Int) + (if ws[i] = x then (1 : Int) else 0) := by
      refine List.map_congr_left fun x _ => ?_
      rw [List.take_add_one, List.getElem?_eq_getElem hil]
      show ((plOf x (ws.take i ++ [ws[i]])).length : Int) = _
      rw [plOf_snoc, List.length_append]
      by_cases h : ws[i] = x
      · rw [if_pos h, if_pos h]; simp
      · rw [if_neg h, if_neg h]; simp
    rw [e, sum_add, places_sum hn hw i (by omega), sum_one hn (hw _ (List.getElem_mem hil))]
    omega
def totOf (kp : Kept) (x : Str) : Int := ((linOf kp x).map fun n => ((plcOf kp x n).length : Int)).sum
theorem sum_filter {α : Type} (p : α → Bool) (f : α → Int) : ∀ l : List α, ((l.filter p).map f).sum = (l.map fun a => if p a = true then f a else 0).sum
  | [] => rfl
  | a :: l => by
    rw [List.filter_cons, List.map_cons, List.sum_cons]
    by_cases h : p a = true
    · rw [if_pos h, if_pos h, List.map_cons, List.sum_cons, sum_filter p f l]
    · rw [if_neg h, if_neg h, sum_filter p f l]
      omega
theorem tot_eq {kp : Kept} {g : Nat} (hr : Rise kp g) (x : Str) : totOf kp x = (kp.map fun e => ((plOf x e.2).length : Int)).sum := by
  unfold totOf linOf numsOf
  rw [List.map_map]
  have e : ((kp.filter fun e => decide (x ∈ e.2)).map ((fun n => ((plcOf kp x n).length : Int)) ∘ fun e => (e.1 : Int))) = (kp.filter fun e => decide (x ∈ e.2)).map fun e => ((plOf x e.2).length : Int) := by
    refine List.map_congr_left fun e he => ?_
    show ((plcOf kp x (e.1 : Int)).length : Int) = _
    unfold plcOf
    rw [wordsAt_of hr.1 (List.mem_filter.mp he).1]
  rw [e, sum_filter]
  congr 1
  refine List.map_congr_left fun e _ => ?_
  by_cases h : x ∈ e.2
  · rw [if_pos (decide_eq_true h)]
  · rw [if_neg (by rw [decide_eq_false h]; exact Bool.false_ne_true), plOf_none h]
    rfl
theorem all_sum {kp : Kept} {g : Nat} (hr : Rise kp g) {xs : List Str} (hn : xs.Nodup) (hx : ∀ x, linOf kp x ≠ [] → x ∈ xs) : (xs.map fun x => totOf kp x).sum = (kp.map fun e => (e.2.length : Int)).sum := by
  have e : (xs.map fun x => totOf kp x) = xs.map fun x => (kp.map fun e => ((plOf x e.2).length : Int)).sum := List.map_congr_left fun x _ => tot_eq hr x
  rw [e, sum_swap]
  congr 1
  refine List.map_congr_left fun e he => ?_
  have := places_sum (ws := e.2) hn (fun y hy => hx y fun z => by
    have : (e.1 : Int) ∈ linOf kp y := lin_mem.mpr ⟨e, he, rfl, hy⟩
    rw [z] at this
    cases this) e.2.length (Nat.le_refl _)
  rw [List.take_length] at this
  exact this
theorem sh_rise {ds : List Deed} (h : ∀ d ∈ ds, OkE d) : ∀ i, Rise (shAt ds i).1 (shAt ds i).2
  | 0 => ⟨.nil, fun e he => by cases he⟩
  | i + 1 => by
    have ih := sh_rise h i
    show Rise (match ds[i]? with | some d => (kAfter (shAt ds i).1 (shAt ds i).2 d, cAfter (shAt ds i).2 d) | none => shAt ds i).1 (match ds[i]? with | some d => (kAfter (shAt ds i).1 (shAt ds i).2 d, cAfter (shAt ds i).2 d) | none => shAt ds i).2
    cases q : ds[i]? with
    | none => exact ih
    | some d =>
      have hd := h d (List.mem_of_getElem? q)
      cases d with
      | put l => exact ih.snoc hd.2.2
      | strike n => exact ih.filter _
      | ask q => exact ih
theorem sum_take {xs : List Str} {f : Str → Int} {i : Nat} (h : i < xs.length) : ((xs.take (i + 1)).map f).sum = ((xs.take i).map f).sum + f xs[i] := by
  rw [List.take_add_one, List.getElem?_eq_getElem h, List.map_append, List.sum_append]
  show _ + (f xs[i] + 0) = _
  omega
end DM
namespace K5
open PySem L2 PyProof.Rows WS DM
theorem keepX {X G : Prop} (g : X → G) (h : X) : G := g h
def rLen (K : PySem.W.Frag) : List V → Hp → VK → Prop := fun xs H Q => ∃ p ys, xs = [.ref p] ∧ (SqL K H p ys ∨ SqT K H p ys) ∧ Q (.int ys.length) H
structure Funs (K : PySem.W.Frag) (mg : Str → Option Value) (fM fD fI fA fH : Addr) (dM dD dI dA dH : FuncData) : Prop where
  M : Fun K "_law_mixed" "_law_mixed" sMixed fM dM
  bM : Binds K dM ["_law_script"] []
  mM : mg "_law_mixed" = some (.ref fM)
  D : Fun K "_law_deeds" "_law_deeds" sDeeds fD dD
  bD : Binds K dD ["_law_cells"] []
  mD : mg "_law_deeds" = some (.ref fD)
  I : Fun K "index_behind" "index_behind" sDay fI dI
  bI : Binds K dI ["deeds"] []
  mI : mg "index_behind" = some (.ref fI)
  A : Fun K "_law_after" "_law_after" sAfter fA dA
  bA : Binds K dA NA []
  mA : mg "_law_after" = some (.ref fA)
  H : Fun K "_law_row_holds" "_law_row_holds" sHold fH dH
  bH : Binds K dH ["_law_found", "_law_kept"] []
  mH : mg "_law_row_holds" = some (.ref fH)
section
variable {P : Program} {w : World} {K : PySem.W.Frag} {mg : Str → Option Value} {base : Heap}
theorem cut_all (ns : List Int) (h : ns.length ≤ 63) : cutV (ns.map V.int) none (some 500) = ns.map V.int := by
  rw [cutV_map V.int]
  congr 1
  unfold cut
  have e1 : HT.sIx ns.length 0 none = 0 := rfl
  have e2 : HT.sIx ns.length ns.length (some 500) = min 500 ns.length := HT.sIx_nat ns.length ns.length 500
  rw [e1, e2, List.drop_zero, Nat.sub_zero, List.take_of_length_le (by omega)]
def spLaw (K : PySem.W.Frag) : Sp := fun vs H Q _ => ∃ (a : Addr) (ns : List Int), vs = [.ref a] ∧ SqL K H a (ns.map V.int) ∧ ns.length ≤ 63 ∧ ∀ H', Q (.bl true) H'
abbrev NL : List Str := ["_law_script", "_law_asked", "_law_found", "_law_kept", "_law_came", "_law_deed", "_law_many", "_law_k"]
theorem scL : FnScope NL ["_law_script"] (defScope sLaw) := ⟨rfl, rfl, rfl, by decide +kernel, rfl, by decide +kernel, by decide +kernel⟩
theorem ok_law {f fM fD fI fA fH : Addr} {fd dM dD dI dA dH : FuncData} (F : Fun K "law" "law" sLaw f fd) (T : Txt mg) (U : Funs K mg fM fD fI fA fH dM dD dI dA dH)
    (GM : FnOk P w K mg base CX0 1 fM dM ["_law_script"] (spMix K)) (GD : FnOk P w K mg base CX0 3 fD dD ["_law_cells"] (spDeeds K)) (GI : FnOk P w K mg base CX0 12 fI dI ["deeds"] (spIB K))
    (GA : FnOk P w K mg base CX0 2 fA dA NA (spAfter K)) (GH : FnOk P w K mg base CX0 2 fH dH ["_law_found", "_law_kept"] (spHold K)) : FnOk P w K mg base CX0 13 f fd ["_law_script"] (spLaw K) := by
  refine F.ok scL (fun vs H Q E h => ?_) (fun cdv A outer s H vs Q E hr h => ?_)
  · obtain ⟨a, ns, rfl, _⟩ := h
    rfl
  · obtain ⟨a, ns, rfl, hS, hlen, k⟩ := h
    have hu := hu_of hr
    have hr1 : Room 1 _ := hr.mono (by decide)
    have hr2 : Room 2 _ := hr.mono (by decide)
    have hr3 : Room 3 _ := hr.mono (by decide)
    refine ⟨_, pss_cons (ps_set (i := 0) scL.nd rfl (Or.inl rfl) (pe_slice sl_list (pv 0) po_none (po_some pe_int)))
      (pss_cons (ps_set (i := 0) scL.nd rfl (Or.inl rfl) (pe_call GM hr1 rfl U.mM U.M.kp U.bM .nil pass0 (pa_cons (pv 0) pa_nil)))
      (pss_cons (ps_set (i := 1) scL.nd rfl (Or.inl rfl) (pe_call GD hr3 rfl U.mD U.D.kp U.bD .nil pass0 (pa_cons (pv 0) pa_nil)))
      (pss_cons (ps_set (i := 2) scL.nd rfl (Or.inl rfl) (pe_call GI hr rfl U.mI U.I.kp U.bI .nil pass0 (pa_cons (pe_call GD hr3 rfl U.mD U.D.kp U.bD .nil pass0 (pa_cons (pv 0) pa_nil)) pa_nil)))
      (pss_cons (ps_set (i := 3) scL.nd rfl (Or.inr rfl) pe_dnewK)
      (pss_cons (ps_set (i := 4) scL.nd rfl (Or.inl rfl) pe_int)
      (pss_cons (ps_for PassesOwn.never rfl (pi_list (pv 1)) (pg_name (i := 5) scL.nd rfl (Or.inl rfl))
        (pss_one (ps_set (i := 4) scL.nd rfl (Or.inl rfl) (pe_call GA hr2 rfl U.mA U.A.kp U.bA .nil pass0 (pa_cons (pv 3) (pa_cons (pv 4) (pa_cons (pv 5) pa_nil)))))))
      (pss_cons (ps_if (pt_not (pt_val (pe_callB call_isi (by rfl) T.isi boot_isinstance (pa_cons (pv 2) (pa_cons (pe_bltn (v := .ty "list") (by rfl) T.list PyProof.Rows.boot_list rfl) pa_nil))))) (pss_one (ps_ret pe_bl)) pss_nil)
      (pss_cons (ps_set (i := 6) scL.nd rfl (Or.inl rfl) pe_int)
      (pss_cons (ps_for PassesOwn.never rfl (pi_range1 (by rfl) T.rng (pa_cons (pe_callB call_len_seq (by rfl) T.len PySem.boot_len (pa_cons (pv 2) pa_nil)) pa_nil)) (pg_name (i := 7) scL.nd rfl (Or.inl rfl))
        (pss_cons (ps_if (pt_not (pt_val (pe_call GH hr2 rfl U.mH U.H.kp U.bH .nil pass0 (pa_cons (pe_ix ix_list (pv 2) (pv 7) fun _ _ => rfl) (pa_cons (pv 3) pa_nil))))) (pss_one (ps_ret pe_bl)) pss_nil)
        (pss_cons (ps_if (PW.pt (pw_and (pt_cmpR op_gt (pv 7) pe_int (nomark _)) (pw_and1 (pt_cmpR op_ge_str (pe_ix ix_tup (pe_ix ix_list (pv 2) (pe_op op_sub (pv 7) pe_int) fun _ _ => rfl) pe_int fun _ _ => rfl) (pe_ix ix_tup (pe_ix ix_list (pv 2) (pv 7) fun _ _ => rfl) pe_int fun _ _ => rfl) (nomark _))))) (pss_one (ps_ret pe_bl)) pss_nil)
        (pss_one (ps_set (i := 6) scL.nd rfl (Or.inl rfl) (pe_op op_add (pv 6) (pe_callB (call_sum rfl) (by rfl) T.sum PyProof.Rows.boot_sum (pa_cons (pe_comp (fun _ _ h => h) rfl (compOk_of (sc := defScope sLaw) (N := NL) (M := NL) rfl rfl (by decide +kernel)) (pi_list (pe_ix ix_tup (pe_ix ix_list (pv 2) (pv 7) fun _ _ => rfl) pe_int fun _ _ => rfl))
          (fun _ _ _ _ _ _ => pifs_nil) (fun _ _ _ _ _ _ => pe_callB (r := rLen K) call_len_seq (by rfl) T.len PySem.boot_len (pa_cons (pe_ix (r := rIxT K) ix_tup (pv 8) pe_int fun _ _ => rfl) pa_nil))) pa_nil))))))))
      (pss_one (ps_ret (pe_cmpR op_eq (pv 6) (pe_callB (call_sum rfl) (by rfl) T.sum PyProof.Rows.boot_sum (pa_cons (pe_comp (fun _ _ h => h) rfl (compOk_of (sc := defScope sLaw) (N := NL) (M := NL) rfl rfl (by decide +kernel)) (pi_list (pe_callTy (call_listD rfl) (by rfl) T.list PyProof.Rows.boot_list (pa_cons (pv 3) pa_nil)))
          (fun _ _ _ _ _ _ => pifs_nil) (fun _ _ _ _ _ _ => pe_callB (r := rLen K) call_len_seq (by rfl) T.len PySem.boot_len (pa_cons (pe_dget hu (pv 3) (pv 8) (fun _ _ => rfl)) pa_nil))) pa_nil)) (nomark _))))))))))))), ?_⟩
    try dsimp only [noxK]
    -- script = mixed(script[:500])
    refine ⟨_, rfl, _, rfl, a, _, rfl, hS, fun p0 hp0 => ?_⟩
    rw [cut_all ns hlen]
    have h0 : upd H p0 (.lst (ns.map V.int)) p0 = some (.lst (ns.map V.int)) := upd_same
    generalize upd H p0 (.lst (ns.map V.int)) = H0 at h0 ⊢
    refine ⟨_, rfl, p0, ns, rfl, SqL.of h0, by omega, fun p1 hp1 => ?_⟩
    have hcl : (mixBy ns).length ≤ 63 := by rw [mixBy_len]; exact hlen
    have h1 : upd H0 p1 (.lst ((mixBy ns).map V.int)) p1 = some (.lst ((mixBy ns).map V.int)) := upd_same
    generalize upd H0 p1 (.lst ((mixBy ns).map V.int)) = H1 at h1 ⊢
    generalize mixBy ns = cs at h1 hcl ⊢
    -- asked, found
    refine ⟨_, rfl, p1, cs, rfl, SqL.of h1, by omega, fun l2 us2 H2 hl2 s2 h2 r2 => ?_⟩
    refine ⟨_, rfl, p1, cs, rfl, SqL.of (s2 _ _ h1), by omega, fun l3 us3 H3 hl3 s3 h3 r3 => ?_⟩
    have okd := made_ok hcl
    refine ⟨l3, us3, deedsBy cs, rfl, h3, RDs.same off_le r3, okd, few_words hcl _, fun l4 H4 hl4 s4 r4 => ?_⟩
    have q2 : REs H4 (deedsBy cs) us2 := RDs.same (off_le.trans (s3.trans s4)) r2
    have g2 : H4 l2 = some (.lst us2) := (s3.trans s4) _ _ h2
    have hfl := okd.2.2
    have hul := res_len q2
    have hrs := sh_rise okd.1
    have hle := sh_cnt (deedsBy cs)
    have hfew := few_words hcl (deedsBy cs).length
    generalize deedsBy cs = ds at r4 q2 okd hfl hul hrs hle hfew
    -- kept
    intro d5 hd5
    have s5 := same_upd (o := .dK []) hd5
    have k5 : KpAt (upd H4 d5 (.dK [])) d5 (shAt ds 0).1 := ⟨fun _ => 0, upd_same, fun e he => by cases he⟩
    generalize upd H4 d5 (.dK []) = H5 at s5 k5 ⊢
    refine ⟨_, rfl, l2, rfl, ⟨_, SqL.of (s5 _ _ g2)⟩, for_list (K := K) (a := l2) (xs := us2) (fun i σ H6 => ∃ u, σ = [some (.ref p1), some (.ref l2), some (.ref l4), some (.ref d5), some (.int ((shAt ds i).2 : Int)), u, none, none] ∧ Same H4 H6 ∧ KpAt H6 d5 (shAt ds i).1)
      ⟨none, rfl, s5, k5⟩ (fun i σ H6 _ ⟨_, _, s6, _⟩ => SqL.of (s6 _ _ g2)) ?_ ?_⟩
    · rintro i y σ H6 hi ⟨u, rfl, s6, k6⟩
      have hil : i < ds.length := by have := (List.getElem?_eq_some_iff.mp hi).1; omega
      obtain ⟨v', hv', rv⟩ := res_get q2 (List.getElem?_eq_getElem hil)
      rw [hi] at hv'
      cases hv'
      have hc := hle i
      refine ⟨_, rfl, _, rfl, _, rfl, d5, (shAt ds i).2, y, (shAt ds i).1, ds[i], rfl, k6, RD.same s6 rv, okd.1 _ (List.getElem_mem hil), hrs i, by have := okd.2.1; omega, fun H7 s7 k7 => ?_⟩
      rw [sh_step (List.getElem?_eq_getElem hil)]
      exact ⟨_, rfl, fun b o e => s7 b o (off_get (ne_of_none e hd5) (s6 b o e)), k7⟩
    · rintro σ H6 ⟨u, rfl, s6, k6⟩
      rw [hul] at k6 ⊢
      have hri := hrs ds.length
      generalize (shAt ds ds.length).1 = kp at r4 k6 hri hfew
      generalize (shAt ds ds.length).2 = cm at hfl hri ⊢
      obtain ⟨xs, vs, hv, hpw, hxm, hrd⟩ := r4
      have hvl := rds_len hrd
      rw [List.length_map] at hvl
      have hxn : xs.Nodup := hpw.imp fun h z => by rw [z] at h; exact ltS_irrefl _ h
      have wat : ∀ (i : Nat) (hi : i < xs.length), ∃ t, vs[i]? = some (V.ref t) ∧ ∃ b us, H4 t = some (.tup [.str xs[i], .ref b]) ∧ H4 b = some (.lst us) ∧ RDs H4 (.of ((linOf kp xs[i]).map (lineD kp xs[i]))) us := fun i hi => by
        obtain ⟨v, hv1, hv2⟩ := rds_get hrd (i := i) (d := wordD kp xs[i]) (by rw [List.getElem?_map, List.getElem?_eq_getElem hi]; rfl)
        obtain ⟨t, b, us, rfl, q1, q3, q4⟩ := rd_word.mp hv2
        exact ⟨t, hv1, b, us, q1, q3, q4⟩
      refine ⟨_, rfl, _, _, _, _, rfl, .lst (s6 _ _ hv), kit_ll, true, rfl, iteF ?_⟩
      have hx64 : xs.length < 64 := hfew xs hxn fun x hx => lin_all ((hxm x).mp hx)
      refine ⟨_, rfl, l4, _, rfl, .inl (SqL.of (s6 _ _ hv)), _, rfl, by omega, by omega, ?_⟩
      refine for_range (fun i σ H7 => ∃ u' uk, σ = [some (.ref p1), some (.ref l2), some (.ref l4), some (.ref d5), some (.int (cm : Int)), u', some (.int ((xs.take i).map fun x => totOf kp x).sum), uk] ∧ Same H6 H7)
        ⟨_, _, rfl, Same.refl _⟩ ?_ ?_
      · rintro i σ H7 hi ⟨u', uk, rfl, s7⟩
        rw [Int.zero_add]
        have hil : i < xs.length := by omega
        have s47 := s6.trans s7
        obtain ⟨t, ht, b, us, q1, q3, q4⟩ := wat i hil
        -- row_holds
        refine ⟨_, rfl, _, rfl, l4, _, _, _, rfl, rfl, SqL.of (s47 _ _ hv), atI_nat ht, _, rfl, .ref t, d5, kp, cm, xs[i], rfl, rd_word.mpr ⟨t, b, us, rfl, s47 _ _ q1, s47 _ _ q3, RDs.same s47 q4⟩, k6.same s7, hri, by omega, (hxm _).mp (List.getElem_mem hil), fun H8 s8 => ⟨true, rfl, iteF ?_⟩⟩
        have s48 := s47.trans s8
        refine ⟨_, rfl, _, _, rfl, rfl, _, rfl, ?_⟩
        have o1 : 0 < i → i - 1 < xs.length := fun _ => by omega
        have o2 : 0 < i → (0 : Int) < (i : Int) := fun _ => by omega
        have o3 : ¬ 0 < i → ¬ (0 : Int) < (i : Int) := fun _ => by omega
        have o4 : 0 < i → i - 1 < i := fun _ => by omega
        have o5 : 0 < i → (i : Int) - 1 = ((i - 1 : Nat) : Int) := fun _ => by omega
        apply keepX
        case g =>
          intro hX
          by_cases c : 0 < i
          · obtain ⟨t', ht', b', us', q1', _, _⟩ := wat (i - 1) (o1 c)
            have ei := o5 c
            refine iteT' (decide_eq_true (o2 c)) ⟨_, rfl, _, rfl, _, _, rfl, rfl, l4, _, _, _, rfl, rfl, SqL.of (s48 _ _ hv), (by rw [ei]; exact atI_nat ht'), t', _, _, _, rfl, rfl, SqT.of (s48 _ _ q1'), atI_nat (j := 0) rfl, _, rfl, _, rfl, l4, _, _, _, rfl, rfl, SqL.of (s48 _ _ hv), atI_nat ht, t, _, _, _, rfl, rfl, SqT.of (s48 _ _ q1), atI_nat (j := 0) rfl, _, _, rfl, rfl, _, rfl, ?_⟩
            have hlt : ltS (xs[i - 1]'(o1 c)) (xs[i]'hil) := List.pairwise_iff_getElem.mp hpw (i - 1) i (o1 c) hil (o4 c)
            rw [show decide ((xs[i - 1]'(o1 c)).cps.toList < (xs[i]'hil).cps.toList) = true from decide_eq_true hlt]
            exact iteF hX
          · exact iteF' (decide_eq_false (o3 c)) (iteF hX)
        refine ⟨_, rfl, _, rfl, _, rfl, l4, _, _, _, rfl, rfl, SqL.of (s48 _ _ hv), atI_nat ht, t, _, _, _, rfl, rfl, SqT.of (s48 _ _ q1), atI_nat (j := 1) rfl, b, rfl, ⟨_, SqL.of (s48 _ _ q3)⟩, ?_⟩
        dsimp only
        have hul' := rds_len q4
        rw [List.length_map] at hul'
        have hll := lin_len hri xs[i]
        refine comp_listI (K := K) (xs := us) (fun j vs H9 => H9 = H8 ∧ vs = (((linOf kp xs[i]).take j).map fun n => ((plcOf kp xs[i] n).length : Int)).map V.int) (by rw [sizeLine_eq]; omega) ⟨rfl, rfl⟩ (fun j vs H9 h => by rw [h.1]; exact SqL.of (s48 _ _ q3)) (fun j y vs H9 hj hvl' h Q' q' => ?_) (fun vs H9 hvl' h => ?_)
        · obtain ⟨rfl, rfl⟩ := h
          have hjl : j < (linOf kp xs[i]).length := by have := (List.getElem?_eq_some_iff.mp hj).1; omega
          obtain ⟨v', hv', rv⟩ := rds_get q4 (i := j) (d := lineD kp xs[i] (linOf kp xs[i])[j]) (by rw [List.getElem?_map, List.getElem?_eq_getElem hjl]; rfl)
          rw [hj] at hv'
          cases hv'
          obtain ⟨t2, m2, rfl, ht2, hm2⟩ := rd_line.mp rv
          refine ⟨_, rfl, t2, _, _, _, rfl, rfl, SqT.of (s48 _ _ ht2), atI_nat (j := 1) rfl, m2, _, rfl, .inl (SqL.of (s48 _ _ hm2)), q' _ _ ⟨rfl, ?_⟩⟩
          rw [List.length_map, map_take_snoc _ hjl, List.map_append]
          rfl
        · obtain ⟨rfl, rfl⟩ := h
          rw [hul', List.take_length]
          refine fun q hq => ⟨q, _, rfl, SqL.of upd_same, _, _, rfl, rfl, u', some (.int (i : Int)), ?_, s7.trans (s8.trans (same_upd hq))⟩
          rw [sum_take hil]
          rfl
      · rintro σ H7 ⟨u', uk, rfl, s7⟩
        rw [hvl, Int.toNat_natCast, List.take_length]
        obtain ⟨KA, hk, hl⟩ := k6.same s7
        refine ⟨_, rfl, _, rfl, d5, _, rfl, hk, fun lq hlq => ⟨lq, rfl, ⟨_, SqL.of upd_same⟩, ?_⟩⟩
        have s8 := same_upd (o := .lst ((kM Sum.inl (DM.numsOf kp) KA).map fun kv => kV kv.1)) hlq
        have h8 : upd H7 lq (.lst ((kM Sum.inl (DM.numsOf kp) KA).map fun kv => kV kv.1)) lq = some (.lst ((DM.numsOf kp).map V.int)) := by
          rw [upd_same]
          unfold kM
          rw [List.map_map]
          rfl
        generalize upd H7 lq (.lst ((kM Sum.inl (DM.numsOf kp) KA).map fun kv => kV kv.1)) = H8 at s8 h8 ⊢
        dsimp only
        have hkl := hri.len
        refine comp_listI (K := K) (xs := (DM.numsOf kp).map V.int) (fun j vs H9 => H9 = H8 ∧ vs = ((kp.take j).map fun e => (e.2.length : Int)).map V.int) (by rw [List.length_map, nums_len, sizeLine_eq]; omega) ⟨rfl, rfl⟩ (fun j vs H9 h => by rw [h.1]; exact SqL.of h8) (fun j y vs H9 hj hvl' h Q' q' => ?_) (fun vs H9 hvl' h => ?_)
        · obtain ⟨rfl, rfl⟩ := h
          have hjl : j < kp.length := by have := (List.getElem?_eq_some_iff.mp hj).1; rw [List.length_map, nums_len] at this; exact this
          rw [nums_at hjl] at hj
          cases hj
          have he : kp[j] ∈ kp := List.getElem_mem hjl
          refine ⟨_, rfl, _, rfl, d5, V.ref (KA (kp[j].1 : Int)), rfl, (by
            have h := DGet.k (k := Sum.inl (kp[j].1 : Int)) (s8 _ _ hk)
            rw [val_kM inl_inj, if_pos (nums_mem.mpr ⟨_, he, rfl⟩)] at h
            exact h), KA (kp[j].1 : Int), _, rfl, .inl (SqL.of (s8 _ _ (hl _ he))), q' _ _ ⟨rfl, ?_⟩⟩
          rw [List.length_map, map_take_snoc _ hjl, List.map_append]
          rfl
        · obtain ⟨rfl, rfl⟩ := h
          rw [List.length_map, nums_len, List.take_length]
          refine fun q hq => ⟨q, _, rfl, SqL.of upd_same, rfl, ?_⟩
          rw [all_sum hri hxn fun x hx => (hxm x).mpr hx, decide_eq_true rfl]
          exact k _
end
end K5


set_option linter.all false
set_option maxRecDepth 100000
set_option maxHeartbeats 8000000
namespace K5
open PySem L2 PyProof.Rows WS DM
/-! what the top has written, and the law's own head -/
theorem binds1 {K : PySem.W.Frag} {x qual : Str} {st : Stmt} {f : Addr} {fd : FuncData} (p : Str) (F : Fun K x qual st f fd) (h : ∀ (kV doc pm : Value) (an : Option Addr) (cdv ct a : Value), bindArgs (PySem.W.fnOf x qual (defArgs st) (defBody st) (defScope st) .none kV doc pm an cdv ct) ⟨[a], []⟩ = pure [(p, a)]) : Binds K fd [p] [] :=
  F.binds fun kV doc pm an cdv ct us hl => match us, hl with | [a], _ => h kV doc pm an cdv ct a
theorem binds2 {K : PySem.W.Frag} {x qual : Str} {st : Stmt} {f : Addr} {fd : FuncData} (p q : Str) (F : Fun K x qual st f fd) (h : ∀ (kV doc pm : Value) (an : Option Addr) (cdv ct a b : Value), bindArgs (PySem.W.fnOf x qual (defArgs st) (defBody st) (defScope st) .none kV doc pm an cdv ct) ⟨[a, b], []⟩ = pure [(p, a), (q, b)]) : Binds K fd [p, q] [] :=
  F.binds fun kV doc pm an cdv ct us hl => match us, hl with | [a, b], _ => h kV doc pm an cdv ct a b
theorem binds3 {K : PySem.W.Frag} {x qual : Str} {st : Stmt} {f : Addr} {fd : FuncData} (p q r : Str) (F : Fun K x qual st f fd) (h : ∀ (kV doc pm : Value) (an : Option Addr) (cdv ct a b c : Value), bindArgs (PySem.W.fnOf x qual (defArgs st) (defBody st) (defScope st) .none kV doc pm an cdv ct) ⟨[a, b, c], []⟩ = pure [(p, a), (q, b), (r, c)]) : Binds K fd [p, q, r] [] :=
  F.binds fun kV doc pm an cdv ct us hl => match us, hl with | [a, b, c], _ => h kV doc pm an cdv ct a b c
theorem binds4 {K : PySem.W.Frag} {x qual : Str} {st : Stmt} {f : Addr} {fd : FuncData} (p q r t : Str) (F : Fun K x qual st f fd) (h : ∀ (kV doc pm : Value) (an : Option Addr) (cdv ct a b c d : Value), bindArgs (PySem.W.fnOf x qual (defArgs st) (defBody st) (defScope st) .none kV doc pm an cdv ct) ⟨[a, b, c, d], []⟩ = pure [(p, a), (q, b), (r, c), (t, d)]) : Binds K fd [p, q, r, t] [] :=
  F.binds fun kV doc pm an cdv ct us hl => match us, hl with | [a, b, c, d], _ => h kV doc pm an cdv ct a b c d
theorem all_mk {l : PySem.W.OpenLaw} {w : World} {K : PySem.W.Frag} {h : Heap} {mg : Str → Option Value} {fa C f1 f2 f3 f4 f5 f6 f7 f8 f9 f10 f11 f12 f13 f14 f15 f16 f17 f18 f19 f20 f21 f22 f23 f24 f25 f26 f27 f28 f29 f30 f31 : Addr} (X : K.In h) (G : h.Ns mainGlobals mg) (hfa : mg "law" = some (.ref fa))
    {od1 an1 od2 an2 od3 an3 od4 an4 od5 an5 od6 an6 od7 an7 od8 an8 od9 an9 od10 an10 od11 an11 od12 an12 od13 an13 od14 an14 od15 an15 od16 an16 od17 an17 od18 an18 od19 an19 od20 an20 od21 an21 od22 an22 od23 an23 od24 an24 od25 an25 od26 an26 od27 an27 od28 an28 od29 an29 od30 an30 od31 an31 : Option Addr} {sl1 sl2 sl3 sl4 sl5 sl6 sl7 sl8 sl9 sl10 sl11 sl12 sl13 sl14 sl15 sl16 sl17 sl18 sl19 sl20 sl21 sl22 sl23 sl24 sl25 sl26 sl27 sl28 sl29 sl30 sl31 : Array (Option Value)}
    {oc1 kV1 dc1 pm1 cd1 ct1 oc2 kV2 dc2 pm2 cd2 ct2 oc3 kV3 dc3 pm3 cd3 ct3 oc4 kV4 dc4 pm4 cd4 ct4 oc5 kV5 dc5 pm5 cd5 ct5 oc6 kV6 dc6 pm6 cd6 ct6 oc7 kV7 dc7 pm7 cd7 ct7 oc8 kV8 dc8 pm8 cd8 ct8 oc9 kV9 dc9 pm9 cd9 ct9 oc10 kV10 dc10 pm10 cd10 ct10 oc11 kV11 dc11 pm11 cd11 ct11 oc12 kV12 dc12 pm12 cd12 ct12 oc13 kV13 dc13 pm13 cd13 ct13 oc14 kV14 dc14 pm14 cd14 ct14 oc15 kV15 dc15 pm15 cd15 ct15 oc16 kV16 dc16 pm16 cd16 ct16 oc17 kV17 dc17 pm17 cd17 ct17 oc18 kV18 dc18 pm18 cd18 ct18 oc19 kV19 dc19 pm19 cd19 ct19 oc20 kV20 dc20 pm20 cd20 ct20 oc21 kV21 dc21 pm21 cd21 ct21 oc22 kV22 dc22 pm22 cd22 ct22 oc23 kV23 dc23 pm23 cd23 ct23 oc24 kV24 dc24 pm24 cd24 ct24 oc25 kV25 dc25 pm25 cd25 ct25 oc26 kV26 dc26 pm26 cd26 ct26 oc27 kV27 dc27 pm27 cd27 ct27 oc28 kV28 dc28 pm28 cd28 ct28 oc29 kV29 dc29 pm29 cd29 ct29 oc30 kV30 dc30 pm30 cd30 ct30 oc31 kV31 dc31 pm31 cd31 ct31 : Value}
    (a1 : PySem.W.nsIn K mainGlobals "in_both" = some (some (.ref f1))) (l1 : K.lookup f1 = some ⟨oc1, od1, .func (PySem.W.fnOf "in_both" "in_both" (defArgs sBoth) (defBody sBoth) (defScope sBoth) .none kV1 dc1 pm1 an1 cd1 ct1), sl1⟩) (c1 : PySem.W.codeIn K cd1 "in_both" = true) (k1 : PySem.W.keepIn K (.ref f1) = true)
    (a2 : PySem.W.nsIn K mainGlobals "in_either" = some (some (.ref f2))) (l2 : K.lookup f2 = some ⟨oc2, od2, .func (PySem.W.fnOf "in_either" "in_either" (defArgs sEither) (defBody sEither) (defScope sEither) .none kV2 dc2 pm2 an2 cd2 ct2), sl2⟩) (c2 : PySem.W.codeIn K cd2 "in_either" = true) (k2 : PySem.W.keepIn K (.ref f2) = true)
    (a3 : PySem.W.nsIn K mainGlobals "in_first" = some (some (.ref f3))) (l3 : K.lookup f3 = some ⟨oc3, od3, .func (PySem.W.fnOf "in_first" "in_first" (defArgs sFirst) (defBody sFirst) (defScope sFirst) .none kV3 dc3 pm3 an3 cd3 ct3), sl3⟩) (c3 : PySem.W.codeIn K cd3 "in_first" = true) (k3 : PySem.W.keepIn K (.ref f3) = true)
    (a4 : PySem.W.nsIn K mainGlobals "is_letter" = some (some (.ref f4))) (l4 : K.lookup f4 = some ⟨oc4, od4, .func (PySem.W.fnOf "is_letter" "is_letter" (defArgs sLet) (defBody sLet) (defScope sLet) .none kV4 dc4 pm4 an4 cd4 ct4), sl4⟩) (c4 : PySem.W.codeIn K cd4 "is_letter" = true) (k4 : PySem.W.keepIn K (.ref f4) = true)
    (a5 : PySem.W.nsIn K mainGlobals "words_of" = some (some (.ref f5))) (l5 : K.lookup f5 = some ⟨oc5, od5, .func (PySem.W.fnOf "words_of" "words_of" (defArgs sWds) (defBody sWds) (defScope sWds) .none kV5 dc5 pm5 an5 cd5 ct5), sl5⟩) (c5 : PySem.W.codeIn K cd5 "words_of" = true) (k5 : PySem.W.keepIn K (.ref f5) = true)
    (a6 : PySem.W.nsIn K mainGlobals "follow_closely" = some (some (.ref f6))) (l6 : K.lookup f6 = some ⟨oc6, od6, .func (PySem.W.fnOf "follow_closely" "follow_closely" (defArgs sFol) (defBody sFol) (defScope sFol) .none kV6 dc6 pm6 an6 cd6 ct6), sl6⟩) (c6 : PySem.W.codeIn K cd6 "follow_closely" = true) (k6 : PySem.W.keepIn K (.ref f6) = true)
    (a7 : PySem.W.nsIn K mainGlobals "are_near" = some (some (.ref f7))) (l7 : K.lookup f7 = some ⟨oc7, od7, .func (PySem.W.fnOf "are_near" "are_near" (defArgs sNear) (defBody sNear) (defScope sNear) .none kV7 dc7 pm7 an7 cd7 ct7), sl7⟩) (c7 : PySem.W.codeIn K cd7 "are_near" = true) (k7 : PySem.W.keepIn K (.ref f7) = true)
    (a8 : PySem.W.nsIn K mainGlobals "are_in_row" = some (some (.ref f8))) (l8 : K.lookup f8 = some ⟨oc8, od8, .func (PySem.W.fnOf "are_in_row" "are_in_row" (defArgs sRow) (defBody sRow) (defScope sRow) .none kV8 dc8 pm8 an8 cd8 ct8), sl8⟩) (c8 : PySem.W.codeIn K cd8 "are_in_row" = true) (k8 : PySem.W.keepIn K (.ref f8) = true)
    (a9 : PySem.W.nsIn K mainGlobals "found_near" = some (some (.ref f9))) (l9 : K.lookup f9 = some ⟨oc9, od9, .func (PySem.W.fnOf "found_near" "found_near" (defArgs sFNear) (defBody sFNear) (defScope sFNear) .none kV9 dc9 pm9 an9 cd9 ct9), sl9⟩) (c9 : PySem.W.codeIn K cd9 "found_near" = true) (k9 : PySem.W.keepIn K (.ref f9) = true)
    (a10 : PySem.W.nsIn K mainGlobals "found_in_row" = some (some (.ref f10))) (l10 : K.lookup f10 = some ⟨oc10, od10, .func (PySem.W.fnOf "found_in_row" "found_in_row" (defArgs sFRow) (defBody sFRow) (defScope sFRow) .none kV10 dc10 pm10 an10 cd10 ct10), sl10⟩) (c10 : PySem.W.codeIn K cd10 "found_in_row" = true) (k10 : PySem.W.keepIn K (.ref f10) = true)
    (a11 : PySem.W.nsIn K mainGlobals "found_by" = some (some (.ref f11))) (l11 : K.lookup f11 = some ⟨oc11, od11, .func (PySem.W.fnOf "found_by" "found_by" (defArgs sFBy) (defBody sFBy) (defScope sFBy) .none kV11 dc11 pm11 an11 cd11 ct11), sl11⟩) (c11 : PySem.W.codeIn K cd11 "found_by" = true) (k11 : PySem.W.keepIn K (.ref f11) = true)
    (a12 : PySem.W.nsIn K mainGlobals "answer_to" = some (some (.ref f12))) (l12 : K.lookup f12 = some ⟨oc12, od12, .func (PySem.W.fnOf "answer_to" "answer_to" (defArgs sAnsTo) (defBody sAnsTo) (defScope sAnsTo) .none kV12 dc12 pm12 an12 cd12 ct12), sl12⟩) (c12 : PySem.W.codeIn K cd12 "answer_to" = true) (k12 : PySem.W.keepIn K (.ref f12) = true)
    (a13 : PySem.W.nsIn K mainGlobals "index_behind" = some (some (.ref f13))) (l13 : K.lookup f13 = some ⟨oc13, od13, .func (PySem.W.fnOf "index_behind" "index_behind" (defArgs sDay) (defBody sDay) (defScope sDay) .none kV13 dc13 pm13 an13 cd13 ct13), sl13⟩) (c13 : PySem.W.codeIn K cd13 "index_behind" = true) (k13 : PySem.W.keepIn K (.ref f13) = true)
    (a14 : PySem.W.nsIn K mainGlobals "_law_whole" = some (some (.ref f14))) (l14 : K.lookup f14 = some ⟨oc14, od14, .func (PySem.W.fnOf "_law_whole" "_law_whole" (defArgs sWhole) (defBody sWhole) (defScope sWhole) .none kV14 dc14 pm14 an14 cd14 ct14), sl14⟩) (c14 : PySem.W.codeIn K cd14 "_law_whole" = true) (k14 : PySem.W.keepIn K (.ref f14) = true)
    (a15 : PySem.W.nsIn K mainGlobals "_law_split" = some (some (.ref f15))) (l15 : K.lookup f15 = some ⟨oc15, od15, .func (PySem.W.fnOf "_law_split" "_law_split" (defArgs sSpl) (defBody sSpl) (defScope sSpl) .none kV15 dc15 pm15 an15 cd15 ct15), sl15⟩) (c15 : PySem.W.codeIn K cd15 "_law_split" = true) (k15 : PySem.W.keepIn K (.ref f15) = true)
    (a16 : PySem.W.nsIn K mainGlobals "_law_word_by" = some (some (.ref f16))) (l16 : K.lookup f16 = some ⟨oc16, od16, .func (PySem.W.fnOf "_law_word_by" "_law_word_by" (defArgs sWord) (defBody sWord) (defScope sWord) .none kV16 dc16 pm16 an16 cd16 ct16), sl16⟩) (c16 : PySem.W.codeIn K cd16 "_law_word_by" = true) (k16 : PySem.W.keepIn K (.ref f16) = true)
    (a17 : PySem.W.nsIn K mainGlobals "_law_line_by" = some (some (.ref f17))) (l17 : K.lookup f17 = some ⟨oc17, od17, .func (PySem.W.fnOf "_law_line_by" "_law_line_by" (defArgs sLine) (defBody sLine) (defScope sLine) .none kV17 dc17 pm17 an17 cd17 ct17), sl17⟩) (c17 : PySem.W.codeIn K cd17 "_law_line_by" = true) (k17 : PySem.W.keepIn K (.ref f17) = true)
    (a18 : PySem.W.nsIn K mainGlobals "_law_question_by" = some (some (.ref f18))) (l18 : K.lookup f18 = some ⟨oc18, od18, .func (PySem.W.fnOf "_law_question_by" "_law_question_by" (defArgs sQue) (defBody sQue) (defScope sQue) .none kV18 dc18 pm18 an18 cd18 ct18), sl18⟩) (c18 : PySem.W.codeIn K cd18 "_law_question_by" = true) (k18 : PySem.W.keepIn K (.ref f18) = true)
    (a19 : PySem.W.nsIn K mainGlobals "_law_deeds" = some (some (.ref f19))) (l19 : K.lookup f19 = some ⟨oc19, od19, .func (PySem.W.fnOf "_law_deeds" "_law_deeds" (defArgs sDeeds) (defBody sDeeds) (defScope sDeeds) .none kV19 dc19 pm19 an19 cd19 ct19), sl19⟩) (c19 : PySem.W.codeIn K cd19 "_law_deeds" = true) (k19 : PySem.W.keepIn K (.ref f19) = true)
    (a20 : PySem.W.nsIn K mainGlobals "_law_after" = some (some (.ref f20))) (l20 : K.lookup f20 = some ⟨oc20, od20, .func (PySem.W.fnOf "_law_after" "_law_after" (defArgs sAfter) (defBody sAfter) (defScope sAfter) .none kV20 dc20 pm20 an20 cd20 ct20), sl20⟩) (c20 : PySem.W.codeIn K cd20 "_law_after" = true) (k20 : PySem.W.keepIn K (.ref f20) = true)
    (a21 : PySem.W.nsIn K mainGlobals "_law_row_holds" = some (some (.ref f21))) (l21 : K.lookup f21 = some ⟨oc21, od21, .func (PySem.W.fnOf "_law_row_holds" "_law_row_holds" (defArgs sHold) (defBody sHold) (defScope sHold) .none kV21 dc21 pm21 an21 cd21 ct21), sl21⟩) (c21 : PySem.W.codeIn K cd21 "_law_row_holds" = true) (k21 : PySem.W.keepIn K (.ref f21) = true)
    (a22 : PySem.W.nsIn K mainGlobals "_law_mixed" = some (some (.ref f22))) (l22 : K.lookup f22 = some ⟨oc22, od22, .func (PySem.W.fnOf "_law_mixed" "_law_mixed" (defArgs sMixed) (defBody sMixed) (defScope sMixed) .none kV22 dc22 pm22 an22 cd22 ct22), sl22⟩) (c22 : PySem.W.codeIn K cd22 "_law_mixed" = true) (k22 : PySem.W.keepIn K (.ref f22) = true)
    (a23 : PySem.W.nsIn K mainGlobals "law" = some (some (.ref f23))) (l23 : K.lookup f23 = some ⟨oc23, od23, .func (PySem.W.fnOf "law" "law" (defArgs sLaw) (defBody sLaw) (defScope sLaw) .none kV23 dc23 pm23 an23 cd23 ct23), sl23⟩) (c23 : PySem.W.codeIn K cd23 "law" = true) (k23 : PySem.W.keepIn K (.ref f23) = true)
    (a24 : PySem.W.findIn K (.ref C) "__init__" = some (some (.ref f24))) (i24 : PySem.W.isFn K (.ref f24) = true) (l24 : K.lookup f24 = some ⟨oc24, od24, .func (PySem.W.fnOf "__init__" "Shelf.__init__" (defArgs sInit) (defBody sInit) (defScope sInit) .none kV24 dc24 pm24 an24 cd24 ct24), sl24⟩) (c24 : PySem.W.codeIn K cd24 "Shelf.__init__" = true) (k24 : PySem.W.keepIn K (.ref f24) = true)
    (a25 : PySem.W.findIn K (.ref C) "put" = some (some (.ref f25))) (i25 : PySem.W.isFn K (.ref f25) = true) (l25 : K.lookup f25 = some ⟨oc25, od25, .func (PySem.W.fnOf "put" "Shelf.put" (defArgs sPut) (defBody sPut) (defScope sPut) .none kV25 dc25 pm25 an25 cd25 ct25), sl25⟩) (c25 : PySem.W.codeIn K cd25 "Shelf.put" = true) (k25 : PySem.W.keepIn K (.ref f25) = true)
    (a26 : PySem.W.findIn K (.ref C) "strike" = some (some (.ref f26))) (i26 : PySem.W.isFn K (.ref f26) = true) (l26 : K.lookup f26 = some ⟨oc26, od26, .func (PySem.W.fnOf "strike" "Shelf.strike" (defArgs sStr) (defBody sStr) (defScope sStr) .none kV26 dc26 pm26 an26 cd26 ct26), sl26⟩) (c26 : PySem.W.codeIn K cd26 "Shelf.strike" = true) (k26 : PySem.W.keepIn K (.ref f26) = true)
    (a27 : PySem.W.findIn K (.ref C) "numbers" = some (some (.ref f27))) (i27 : PySem.W.isFn K (.ref f27) = true) (l27 : K.lookup f27 = some ⟨oc27, od27, .func (PySem.W.fnOf "numbers" "Shelf.numbers" (defArgs sNums) (defBody sNums) (defScope sNums) .none kV27 dc27 pm27 an27 cd27 ct27), sl27⟩) (c27 : PySem.W.codeIn K cd27 "Shelf.numbers" = true) (k27 : PySem.W.keepIn K (.ref f27) = true)
    (a28 : PySem.W.findIn K (.ref C) "numbers_with" = some (some (.ref f28))) (i28 : PySem.W.isFn K (.ref f28) = true) (l28 : K.lookup f28 = some ⟨oc28, od28, .func (PySem.W.fnOf "numbers_with" "Shelf.numbers_with" (defArgs sNW) (defBody sNW) (defScope sNW) .none kV28 dc28 pm28 an28 cd28 ct28), sl28⟩) (c28 : PySem.W.codeIn K cd28 "Shelf.numbers_with" = true) (k28 : PySem.W.keepIn K (.ref f28) = true)
    (a29 : PySem.W.findIn K (.ref C) "places_in" = some (some (.ref f29))) (i29 : PySem.W.isFn K (.ref f29) = true) (l29 : K.lookup f29 = some ⟨oc29, od29, .func (PySem.W.fnOf "places_in" "Shelf.places_in" (defArgs sPI) (defBody sPI) (defScope sPI) .none kV29 dc29 pm29 an29 cd29 ct29), sl29⟩) (c29 : PySem.W.codeIn K cd29 "Shelf.places_in" = true) (k29 : PySem.W.keepIn K (.ref f29) = true)
    (a30 : PySem.W.findIn K (.ref C) "lines_with" = some (some (.ref f30))) (i30 : PySem.W.isFn K (.ref f30) = true) (l30 : K.lookup f30 = some ⟨oc30, od30, .func (PySem.W.fnOf "lines_with" "Shelf.lines_with" (defArgs sLW) (defBody sLW) (defScope sLW) .none kV30 dc30 pm30 an30 cd30 ct30), sl30⟩) (c30 : PySem.W.codeIn K cd30 "Shelf.lines_with" = true) (k30 : PySem.W.keepIn K (.ref f30) = true)
    (a31 : PySem.W.findIn K (.ref C) "index_by_word" = some (some (.ref f31))) (i31 : PySem.W.isFn K (.ref f31) = true) (l31 : K.lookup f31 = some ⟨oc31, od31, .func (PySem.W.fnOf "index_by_word" "Shelf.index_by_word" (defArgs sIx) (defBody sIx) (defScope sIx) .none kV31 dc31 pm31 an31 cd31 ct31), sl31⟩) (c31 : PySem.W.codeIn K cd31 "Shelf.index_by_word" = true) (k31 : PySem.W.keepIn K (.ref f31) = true)
    (aC : PySem.W.nsIn K mainGlobals "Shelf" = some (some (.ref C))) (pg : PySem.W.plainGet K C Str.empty = true) (hd : PySem.W.hasDictIn K C = true) (po : PySem.W.plainOver K C = true) (sa : PySem.W.findIn K (.ref C) "__setattr__" = some (some (.builtin "object.__setattr__"))) (mk : PySem.W.makesIn K C = true) (kc : PySem.W.keepIn K (.ref C) = true)
    (nG : PySem.W.findIn K (.ref C) "given" = some none) (nK : PySem.W.findIn K (.ref C) "kept" = some none) (nP : PySem.W.findIn K (.ref C) "places" = some none)
    (z1 : PySem.W.nsIn K mainGlobals "len" = some none) (z2 : PySem.W.nsIn K mainGlobals "sorted" = some none) (z3 : PySem.W.nsIn K mainGlobals "set" = some none) (z4 : PySem.W.nsIn K mainGlobals "isinstance" = some none) (z5 : PySem.W.nsIn K mainGlobals "int" = some none) (z6 : PySem.W.nsIn K mainGlobals "bool" = some none) (z7 : PySem.W.nsIn K mainGlobals "list" = some none) (z8 : PySem.W.nsIn K mainGlobals "str" = some none) (z9 : PySem.W.nsIn K mainGlobals "tuple" = some none) (z10 : PySem.W.nsIn K mainGlobals "range" = some none) (z11 : PySem.W.nsIn K mainGlobals "enumerate" = some none) (z12 : PySem.W.nsIn K mainGlobals "abs" = some none) (z13 : PySem.W.nsIn K mainGlobals "sum" = some none) :
    ∃ fd : FuncData, (∀ (s : Shared) (v : Value), BindsTo s fd ⟨[v], []⟩ [("_law_script", v)]) ∧ ∀ base : Heap, K.In base → base.Ns mainGlobals mg → FnOk l.prog w K mg base CX0 13 fa fd ["_law_script"] (spLaw K) := by
  have e := hfa.symm.trans (PySem.W.mg_of X G a23)
  cases e
  have T : Txt mg := ⟨PySem.W.mg_none_of X G z1, PySem.W.mg_none_of X G z2, PySem.W.mg_none_of X G z3, PySem.W.mg_none_of X G z4, PySem.W.mg_none_of X G z5, PySem.W.mg_none_of X G z6, PySem.W.mg_none_of X G z7, PySem.W.mg_none_of X G z8, PySem.W.mg_none_of X G z9, PySem.W.mg_none_of X G z10, PySem.W.mg_none_of X G z11, PySem.W.mg_none_of X G z12, PySem.W.mg_none_of X G z13⟩
  have TC : TxtC K mg C := ⟨⟨pg, hd, po, sa⟩, nG, nK, nP, PySem.W.mg_of X G aC⟩
  have F_in_both := fun_mk (st := sBoth) l1 c1 k1
  have b_in_both := binds2 "ones" "others" F_in_both fun _ _ _ _ _ _ _ _ => rfl
  have F_in_either := fun_mk (st := sEither) l2 c2 k2
  have b_in_either := binds2 "ones" "others" F_in_either fun _ _ _ _ _ _ _ _ => rfl
  have F_in_first := fun_mk (st := sFirst) l3 c3 k3
  have b_in_first := binds2 "ones" "others" F_in_first fun _ _ _ _ _ _ _ _ => rfl
  have F_is_letter := fun_mk (st := sLet) l4 c4 k4
  have b_is_letter := binds1 "sign" F_is_letter fun _ _ _ _ _ _ _ => rfl
  have F_words_of := fun_mk (st := sWds) l5 c5 k5
  have b_words_of := binds1 "line" F_words_of fun _ _ _ _ _ _ _ => rfl
  have F_follow_closely := fun_mk (st := sFol) l6 c6 k6
  have b_follow_closely := binds3 "ones" "others" "many" F_follow_closely fun _ _ _ _ _ _ _ _ _ => rfl
  have F_are_near := fun_mk (st := sNear) l7 c7 k7
  have b_are_near := binds3 "ones" "others" "many" F_are_near fun _ _ _ _ _ _ _ _ _ => rfl
  have F_are_in_row := fun_mk (st := sRow) l8 c8 k8
  have b_are_in_row := binds1 "rows" F_are_in_row fun _ _ _ _ _ _ _ => rfl
  have F_found_near := fun_mk (st := sFNear) l9 c9 k9
  have b_found_near := binds4 "shelf" "one" "other" "many" F_found_near fun _ _ _ _ _ _ _ _ _ _ => rfl
  have F_found_in_row := fun_mk (st := sFRow) l10 c10 k10
  have b_found_in_row := binds2 "shelf" "words" F_found_in_row fun _ _ _ _ _ _ _ _ => rfl
  have F_found_by := fun_mk (st := sFBy) l11 c11 k11
  have b_found_by := binds2 "shelf" "question" F_found_by fun _ _ _ _ _ _ _ _ => rfl
  have F_answer_to := fun_mk (st := sAnsTo) l12 c12 k12
  have b_answer_to := binds2 "shelf" "deed" F_answer_to fun _ _ _ _ _ _ _ _ => rfl
  have F_index_behind := fun_mk (st := sDay) l13 c13 k13
  have b_index_behind := binds1 "deeds" F_index_behind fun _ _ _ _ _ _ _ => rfl
  have F__law_whole := fun_mk (st := sWhole) l14 c14 k14
  have b__law_whole := binds1 "_law_found" F__law_whole fun _ _ _ _ _ _ _ => rfl
  have F__law_split := fun_mk (st := sSpl) l15 c15 k15
  have b__law_split := binds1 "_law_line" F__law_split fun _ _ _ _ _ _ _ => rfl
  have F__law_word_by := fun_mk (st := sWord) l16 c16 k16
  have b__law_word_by := binds1 "_law_seed" F__law_word_by fun _ _ _ _ _ _ _ => rfl
  have F__law_line_by := fun_mk (st := sLine) l17 c17 k17
  have b__law_line_by := binds1 "_law_seed" F__law_line_by fun _ _ _ _ _ _ _ => rfl
  have F__law_question_by := fun_mk (st := sQue) l18 c18 k18
  have b__law_question_by := binds1 "_law_seed" F__law_question_by fun _ _ _ _ _ _ _ => rfl
  have F__law_deeds := fun_mk (st := sDeeds) l19 c19 k19
  have b__law_deeds := binds1 "_law_cells" F__law_deeds fun _ _ _ _ _ _ _ => rfl
  have F__law_after := fun_mk (st := sAfter) l20 c20 k20
  have b__law_after := binds3 "_law_kept" "_law_came" "_law_deed" F__law_after fun _ _ _ _ _ _ _ _ _ => rfl
  have F__law_row_holds := fun_mk (st := sHold) l21 c21 k21
  have b__law_row_holds := binds2 "_law_found" "_law_kept" F__law_row_holds fun _ _ _ _ _ _ _ _ => rfl
  have F__law_mixed := fun_mk (st := sMixed) l22 c22 k22
  have b__law_mixed := binds1 "_law_script" F__law_mixed fun _ _ _ _ _ _ _ => rfl
  have F_law := fun_mk (st := sLaw) l23 c23 k23
  have F___init__ := fun_mk (st := sInit) l24 c24 k24
  have b___init__ := binds1 "self" F___init__ fun _ _ _ _ _ _ _ => rfl
  have F_put := fun_mk (st := sPut) l25 c25 k25
  have b_put := binds2 "self" "line" F_put fun _ _ _ _ _ _ _ _ => rfl
  have F_strike := fun_mk (st := sStr) l26 c26 k26
  have b_strike := binds2 "self" "number" F_strike fun _ _ _ _ _ _ _ _ => rfl
  have F_numbers := fun_mk (st := sNums) l27 c27 k27
  have b_numbers := binds1 "self" F_numbers fun _ _ _ _ _ _ _ => rfl
  have F_numbers_with := fun_mk (st := sNW) l28 c28 k28
  have b_numbers_with := binds2 "self" "words" F_numbers_with fun _ _ _ _ _ _ _ _ => rfl
  have F_places_in := fun_mk (st := sPI) l29 c29 k29
  have b_places_in := binds3 "self" "number" "word" F_places_in fun _ _ _ _ _ _ _ _ _ => rfl
  have F_lines_with := fun_mk (st := sLW) l30 c30 k30
  have b_lines_with := binds2 "self" "word" F_lines_with fun _ _ _ _ _ _ _ _ => rfl
  have F_index_by_word := fun_mk (st := sIx) l31 c31 k31
  have b_index_by_word := binds1 "self" F_index_by_word fun _ _ _ _ _ _ _ => rfl
  have m_in_both := PySem.W.mg_of X G a1
  have m_in_either := PySem.W.mg_of X G a2
  have m_in_first := PySem.W.mg_of X G a3
  have m_is_letter := PySem.W.mg_of X G a4
  have m_words_of := PySem.W.mg_of X G a5
  have m_follow_closely := PySem.W.mg_of X G a6
  have m_are_near := PySem.W.mg_of X G a7
  have m_are_in_row := PySem.W.mg_of X G a8
  have m_found_near := PySem.W.mg_of X G a9
  have m_found_in_row := PySem.W.mg_of X G a10
  have m_found_by := PySem.W.mg_of X G a11
  have m_answer_to := PySem.W.mg_of X G a12
  have m_index_behind := PySem.W.mg_of X G a13
  have m__law_whole := PySem.W.mg_of X G a14
  have m__law_split := PySem.W.mg_of X G a15
  have m__law_word_by := PySem.W.mg_of X G a16
  have m__law_line_by := PySem.W.mg_of X G a17
  have m__law_question_by := PySem.W.mg_of X G a18
  have m__law_deeds := PySem.W.mg_of X G a19
  have m__law_after := PySem.W.mg_of X G a20
  have m__law_row_holds := PySem.W.mg_of X G a21
  have m__law_mixed := PySem.W.mg_of X G a22
  have m___init__ : Meth K C "__init__" f24 := ⟨a24, i24, k24⟩
  have m_put : Meth K C "put" f25 := ⟨a25, i25, k25⟩
  have m_strike : Meth K C "strike" f26 := ⟨a26, i26, k26⟩
  have m_numbers : Meth K C "numbers" f27 := ⟨a27, i27, k27⟩
  have m_numbers_with : Meth K C "numbers_with" f28 := ⟨a28, i28, k28⟩
  have m_places_in : Meth K C "places_in" f29 := ⟨a29, i29, k29⟩
  have m_lines_with : Meth K C "lines_with" f30 := ⟨a30, i30, k30⟩
  have m_index_by_word : Meth K C "index_by_word" f31 := ⟨a31, i31, k31⟩
  refine ⟨PySem.W.fnOf "law" "law" (defArgs sLaw) (defBody sLaw) (defScope sLaw) .none kV23 dc23 pm23 an23 cd23 ct23, fun s v => .of_eq rfl, fun base _ _ => ?_⟩
  have GB := ok_both (P := l.prog) (w := w) (base := base) F_in_both T
  have GE := ok_either (P := l.prog) (w := w) (base := base) F_in_either T
  have GF := ok_first (P := l.prog) (w := w) (base := base) F_in_first T
  have GW := ok_wds (P := l.prog) (w := w) (base := base) F_words_of T F_is_letter b_is_letter m_is_letter
  have GNr := ok_near (P := l.prog) (w := w) (base := base) F_are_near T F_follow_closely b_follow_closely m_follow_closely
  have GRw := ok_row (P := l.prog) (w := w) (base := base) F_are_in_row T F_in_both b_in_both m_in_both
  have GI := ok_init (P := l.prog) (w := w) (base := base) F___init__ TC
  have GP := ok_put F_put T TC GW F_words_of b_words_of m_words_of
  have GS := ok_str (P := l.prog) (w := w) (base := base) F_strike T TC
  have GN := ok_nums (P := l.prog) (w := w) (base := base) F_numbers T TC
  have GNW := ok_nw (P := l.prog) (w := w) (base := base) F_numbers_with T TC F_numbers b_numbers m_numbers F_in_both b_in_both m_in_both
  have GPI := ok_pi (P := l.prog) (w := w) (base := base) F_places_in T TC
  have GFN := ok_fn F_found_near TC GNW b_numbers_with m_numbers_with GPI b_places_in m_places_in GNr F_are_near b_are_near m_are_near
  have GFR := ok_fr F_found_in_row TC GNW b_numbers_with m_numbers_with GPI b_places_in m_places_in GRw F_are_in_row b_are_in_row m_are_in_row
  have GFB := ok_fb F_found_by b_found_by m_found_by TC GN b_numbers m_numbers GNW b_numbers_with m_numbers_with GFN F_found_near b_found_near m_found_near GFR F_found_in_row b_found_in_row m_found_in_row GB F_in_both b_in_both m_in_both GE F_in_either b_in_either m_in_either GF F_in_first b_in_first m_in_first 6
  have GAT := ok_at F_answer_to TC GP b_put m_put GS b_strike m_strike GFB F_found_by b_found_by m_found_by
  have GWd := ok_word (P := l.prog) (w := w) (mg := mg) (base := base) F__law_word_by
  have GLn := ok_line (P := l.prog) (w := w) (base := base) F__law_line_by T F__law_word_by b__law_word_by m__law_word_by
  have GQ := ok_que (P := l.prog) (w := w) (base := base) F__law_question_by F__law_word_by b__law_word_by m__law_word_by
  have GSp := ok_spl (P := l.prog) (w := w) (mg := mg) (base := base) F__law_split
  have GD := ok_deeds F__law_deeds T GLn F__law_line_by b__law_line_by m__law_line_by GQ F__law_question_by b__law_question_by m__law_question_by GSp F__law_split b__law_split m__law_split
  have GA := ok_after F__law_after T GSp F__law_split b__law_split m__law_split
  have GM := ok_mix (P := l.prog) (w := w) (base := base) F__law_mixed T
  have GLW := ok_lw F_lines_with TC GNW b_numbers_with m_numbers_with GPI b_places_in m_places_in
  have GIx := ok_ix F_index_by_word T TC GLW b_lines_with m_lines_with
  have GIB := ok_ib F_index_behind TC ⟨mk, a24, i24, kc⟩ GI b___init__ GAT F_answer_to b_answer_to m_answer_to GIx b_index_by_word m_index_by_word
  have GH := ok_hold (P := l.prog) (w := w) (base := base) F__law_row_holds T F__law_whole b__law_whole m__law_whole
  exact ok_law F_law T ⟨F__law_mixed, b__law_mixed, m__law_mixed, F__law_deeds, b__law_deeds, m__law_deeds, F_index_behind, b_index_behind, m_index_behind, F__law_after, b__law_after, m__law_after, F__law_row_holds, b__law_row_holds, m__law_row_holds⟩ GM GD GIB GA GH
theorem walk {l : PySem.W.OpenLaw} {q : Program} {loose : List Str} {XP : (Str → Option Value) → Heap → Prop} {YP : World → Heap → Prop} {d : DefRec} {K : Params → PySem.W.Frag} (hn : l.most = some 63) (hdf : d.params.defaults = [])
    (hY : ∀ (w : World) (h : Heap), YP w h → (K w.params).In h)
    (F : ∀ (w : World) (mg : Str → Option Value) (fa : Addr) (h : Heap), (K w.params).In h → h.Ns mainGlobals mg → mg d.name = some (.ref fa) →
      ∃ fd : FuncData, (∀ (s : Shared) (u : Value), BindsTo s fd ⟨[u], []⟩ [("_law_script", u)]) ∧ ∀ base : Heap, (K w.params).In base → base.Ns mainGlobals mg → FnOk l.prog w (K w.params) mg base CX0 13 fa fd ["_law_script"] (spLaw (K w.params))) :
    PySem.W.WalkO q loose XP YP l.row.toRowW d [] (fun f vs => PySem.call f vs) :=
  L2.walk_of (n := 63) (k := 13) (x := "_law_script") (CX := fun _ => CX0) (sp := fun w => spLaw (K w.params)) hn (by decide) hdf ⟨rfl, by decide, by decide⟩ hY F (fun _ _ a ns hl _ hS => ⟨a, ns, rfl, hS, hl, fun _ => rfl⟩) fun _ _ _ _ _ z => z
end K5
def PySem.W.Fast.tw17852683448803690616 : PySem.Program := PySem.Challenge.pw_wordfinder_k05_whole_index
theorem PySem.W.Fast.te17852683448803690616 : PySem.Challenge.pw_wordfinder_k05_whole_index = PySem.W.Fast.tw17852683448803690616 := rfl
def PySem.Challenge.cw_wordfinder_k05_whole_index_holds.tw17852683448803690616 : PySem.Program := PySem.Challenge.pw_wordfinder_k05_whole_index
theorem PySem.Challenge.cw_wordfinder_k05_whole_index_holds.te17852683448803690616 : PySem.Challenge.pw_wordfinder_k05_whole_index = PySem.Challenge.cw_wordfinder_k05_whole_index_holds.tw17852683448803690616 := rfl
open PySem PySem.W PyProof.Rows
set_option maxRecDepth 100000 in
set_option maxHeartbeats 0 in
theorem PySem.Challenge.cw_wordfinder_k05_whole_index_holds : PySem.Challenge.rw_wordfinder_k05_whole_index.Holds := by
  w_on; o_law; k_head; (case hw => w_witness2)
  k_fill
  refine K5.walk (l := PySem.Challenge.rw_wordfinder_k05_whole_index) rfl rfl (fun w h Y => PySem.W.kIn_of Y) ?F
  case F =>
    intro w mg fa h KX G hmg
    refine' K5.all_mk KX G hmg ?a1 ?l1 ?c1 ?k1 ?a2 ?l2 ?c2 ?k2 ?a3 ?l3 ?c3 ?k3 ?a4 ?l4 ?c4 ?k4 ?a5 ?l5 ?c5 ?k5 ?a6 ?l6 ?c6 ?k6 ?a7 ?l7 ?c7 ?k7 ?a8 ?l8 ?c8 ?k8 ?a9 ?l9 ?c9 ?k9 ?a10 ?l10 ?c10 ?k10 ?a11 ?l11 ?c11 ?k11 ?a12 ?l12 ?c12 ?k12 ?a13 ?l13 ?c13 ?k13 ?a14 ?l14 ?c14 ?k14 ?a15 ?l15 ?c15 ?k15 ?a16 ?l16 ?c16 ?k16 ?a17 ?l17 ?c17 ?k17 ?a18 ?l18 ?c18 ?k18 ?a19 ?l19 ?c19 ?k19 ?a20 ?l20 ?c20 ?k20 ?a21 ?l21 ?c21 ?k21 ?a22 ?l22 ?c22 ?k22 ?a23 ?l23 ?c23 ?k23 ?a24 ?i24 ?l24 ?c24 ?k24 ?a25 ?i25 ?l25 ?c25 ?k25 ?a26 ?i26 ?l26 ?c26 ?k26 ?a27 ?i27 ?l27 ?c27 ?k27 ?a28 ?i28 ?l28 ?c28 ?k28 ?a29 ?i29 ?l29 ?c29 ?k29 ?a30 ?i30 ?l30 ?c30 ?k30 ?a31 ?i31 ?l31 ?c31 ?k31 ?aC ?pg ?hd ?po ?sa ?mk ?kc ?nG ?nK ?nP ?z1 ?z2 ?z3 ?z4 ?z5 ?z6 ?z7 ?z8 ?z9 ?z10 ?z11 ?z12 ?z13
    (case aC => k_is)
    (case a1 => k_is)
    (case l1 => k_is)
    (case c1 => k_is)
    (case k1 => k_is)
    (case a2 => k_is)
    (case l2 => k_is)
    (case c2 => k_is)
    (case k2 => k_is)
    (case a3 => k_is)
    (case l3 => k_is)
    (case c3 => k_is)
    (case k3 => k_is)
    (case a4 => k_is)
    (case l4 => k_is)
    (case c4 => k_is)
    (case k4 => k_is)
    (case a5 => k_is)
    (case l5 => k_is)
    (case c5 => k_is)
    (case k5 => k_is)
    (case a6 => k_is)
    (case l6 => k_is)
    (case c6 => k_is)
    (case k6 => k_is)
    (case a7 => k_is)
    (case l7 => k_is)
    (case c7 => k_is)
    (case k7 => k_is)
    (case a8 => k_is)
    (case l8 => k_is)
    (case c8 => k_is)
    (case k8 => k_is)
    (case a9 => k_is)
    (case l9 => k_is)
    (case c9 => k_is)
    (case k9 => k_is)
    (case a10 => k_is)
    (case l10 => k_is)
    (case c10 => k_is)
    (case k10 => k_is)
    (case a11 => k_is)
    (case l11 => k_is)
    (case c11 => k_is)
    (case k11 => k_is)
    (case a12 => k_is)
    (case l12 => k_is)
    (case c12 => k_is)
    (case k12 => k_is)
    (case a13 => k_is)
    (case l13 => k_is)
    (case c13 => k_is)
    (case k13 => k_is)
    (case a14 => k_is)
    (case l14 => k_is)
    (case c14 => k_is)
    (case k14 => k_is)
    (case a15 => k_is)
    (case l15 => k_is)
    (case c15 => k_is)
    (case k15 => k_is)
    (case a16 => k_is)
    (case l16 => k_is)
    (case c16 => k_is)
    (case k16 => k_is)
    (case a17 => k_is)
    (case l17 => k_is)
    (case c17 => k_is)
    (case k17 => k_is)
    (case a18 => k_is)
    (case l18 => k_is)
    (case c18 => k_is)
    (case k18 => k_is)
    (case a19 => k_is)
    (case l19 => k_is)
    (case c19 => k_is)
    (case k19 => k_is)
    (case a20 => k_is)
    (case l20 => k_is)
    (case c20 => k_is)
    (case k20 => k_is)
    (case a21 => k_is)
    (case l21 => k_is)
    (case c21 => k_is)
    (case k21 => k_is)
    (case a22 => k_is)
    (case l22 => k_is)
    (case c22 => k_is)
    (case k22 => k_is)
    (case a23 => k_is)
    (case l23 => k_is)
    (case c23 => k_is)
    (case k23 => k_is)
    (case a24 => k_is)
    (case i24 => k_is)
    (case l24 => k_is)
    (case c24 => k_is)
    (case k24 => k_is)
    (case a25 => k_is)
    (case i25 => k_is)
    (case l25 => k_is)
    (case c25 => k_is)
    (case k25 => k_is)
    (case a26 => k_is)
    (case i26 => k_is)
    (case l26 => k_is)
    (case c26 => k_is)
    (case k26 => k_is)
    (case a27 => k_is)
    (case i27 => k_is)
    (case l27 => k_is)
    (case c27 => k_is)
    (case k27 => k_is)
    (case a28 => k_is)
    (case i28 => k_is)
    (case l28 => k_is)
    (case c28 => k_is)
    (case k28 => k_is)
    (case a29 => k_is)
    (case i29 => k_is)
    (case l29 => k_is)
    (case c29 => k_is)
    (case k29 => k_is)
    (case a30 => k_is)
    (case i30 => k_is)
    (case l30 => k_is)
    (case c30 => k_is)
    (case k30 => k_is)
    (case a31 => k_is)
    (case i31 => k_is)
    (case l31 => k_is)
    (case c31 => k_is)
    (case k31 => k_is)
    (case pg => k_is)
    (case hd => k_is)
    (case po => k_is)
    (case sa => k_is)
    (case mk => k_is)
    (case kc => k_is)
    (case nG => k_is)
    (case nK => k_is)
    (case nP => k_is)
    (case z1 => k_is)
    (case z2 => k_is)
    (case z3 => k_is)
    (case z4 => k_is)
    (case z5 => k_is)
    (case z6 => k_is)
    (case z7 => k_is)
    (case z8 => k_is)
    (case z9 => k_is)
    (case z10 => k_is)
    (case z11 => k_is)
    (case z12 => k_is)
    (case z13 => k_is)


