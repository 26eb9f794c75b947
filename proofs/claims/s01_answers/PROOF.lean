import PyProof.Rows.All
import Wide.All
import OpenK.AllK
import Wide.FinOn
import PyProof.EqAt
import PyProof.EqKinds
import PyProof.TupleCall
import KE.BitLaws
import Open.SpecLaws
import KE.OsHead
import KE.OsGo
import KE.KSortTupG
import KE.KSortKeySt
import KE.KLam
import KE.KNestM
import KE.KRevIter
import PySem.Challenge.RW_regattapoints_s01_answers
set_option Elab.async false
set_option linter.all false
set_option maxRecDepth 100000
/-! THE HAND LAYER, for ints, bools, texts, own classes, lists, tuples, dicts, comprehensions, walks over dicts, enumerate, zip, reversed, texts, calls, loops. Paste it whole ahead of your own text; what your proof does not reach may be deleted. -/
namespace L2
open PySem PySem.Spec PyProof.Rows

/-- a key: an int or a str -/
abbrev Key := Sum Int Str
def keyIs : Key → Value → Bool
  | .inl k, v => Value.isInt k v
  | .inr x, v => Value.isStrOf x v
def keyH (w : World) : Key → Int
  | .inl k => hashInt k
  | .inr x => hashStr w x
theorem keyIs_shape : ∀ {k : Key} {v : Value}, keyIs k v = true → (∃ i t, k = Sum.inl i ∧ v = Value.int i t) ∨ (∃ x t, k = Sum.inr x ∧ v = Value.str x t)
  | .inl i, v, h => by
    obtain ⟨t, e⟩ := Value.isInt_shape (k := i) (v := v) h
    exact .inl ⟨i, t, rfl, e⟩
  | .inr x, v, h => by
    obtain ⟨t, e⟩ := Value.isStrOf_shape (x := x) (v := v) h
    exact .inr ⟨x, t, rfl, e⟩
theorem keyIs_int (i : Int) (t : Tok) : keyIs (.inl i) (.int i t) = true := by simp [keyIs, Value.isInt]
theorem keyIs_str (x : Str) (t : Tok) : keyIs (.inr x) (.str x t) = true := by simp [keyIs, Value.isStrOf]
theorem key_ll (a b : Int) : decide ((Sum.inl a : Key) = Sum.inl b) = (a == b) := by
  by_cases e : a = b
  · subst e; simp
  · have h : ¬ (Sum.inl a : Key) = Sum.inl b := fun q => e (Sum.inl.inj q)
    rw [decide_eq_false h]
    exact (beq_eq_false_iff_ne.mpr e).symm
theorem key_rr (a b : Str) : decide ((Sum.inr a : Key) = Sum.inr b) = decide (a = b) := by
  by_cases e : a = b
  · subst e; simp
  · have h : ¬ (Sum.inr a : Key) = Sum.inr b := fun q => e (Sum.inr.inj q)
    rw [decide_eq_false h, decide_eq_false e]
theorem key_lr (a : Int) (b : Str) : decide ((Sum.inl a : Key) = Sum.inr b) = false := decide_eq_false (fun q => nomatch q)
theorem key_rl (a : Str) (b : Int) : decide ((Sum.inr a : Key) = Sum.inl b) = false := decide_eq_false (fun q => nomatch q)

def mixKind (prog : Program) (w : World) : PySem.KeyKind prog w Key where
  is := keyIs
  hash := keyH w
  inj := fun v a b ha hb => by
    rcases keyIs_shape ha with ⟨i, t, rfl, rfl⟩ | ⟨x, t, rfl, rfl⟩
    · rcases keyIs_shape hb with ⟨j, u, rfl, e⟩ | ⟨y, u, rfl, e⟩
      · injection e with e1 _; rw [e1]
      · exact nomatch e
    · rcases keyIs_shape hb with ⟨j, u, rfl, e⟩ | ⟨y, u, rfl, e⟩
      · exact nomatch e
      · injection e with e1 _; rw [e1]
  byValue := fun k v h => by
    rcases keyIs_shape h with ⟨i, t, rfl, rfl⟩ | ⟨x, t, rfl, rfl⟩ <;> rfl
  pyHash := fun hv h => by
    rcases keyIs_shape hv with ⟨i, t, rfl, rfl⟩ | ⟨x, t, rfl, rfl⟩
    · exact wpAny_pyHash_int h
    · exact wpAny_pyHash_str h
  eqBool := fun hu hv h => by
    rcases keyIs_shape hu with ⟨i, t, rfl, rfl⟩ | ⟨x, t, rfl, rfl⟩
    · rcases keyIs_shape hv with ⟨j, u, rfl, rfl⟩ | ⟨y, u, rfl, rfl⟩
      · rw [key_ll] at h; exact wpAny_eqBool_int h
      · rw [key_lr] at h; exact SeqAt.EqAt.int_str i t y u _ _ _ _ h
    · rcases keyIs_shape hv with ⟨j, u, rfl, rfl⟩ | ⟨y, u, rfl, rfl⟩
      · rw [key_rl] at h; exact SeqAt.EqAt.str_int x t j u _ _ _ _ h
      · rw [key_rr] at h; exact wpAny_eqBool_str h
  «strs» := fun k x t v h => by
    rcases keyIs_shape h with ⟨i, u, rfl, e⟩ | ⟨y, u, rfl, e⟩
    · exact nomatch e
    · injection e with e1 _
      subst e1
      cases v <;> rfl

theorem mixKind_int (prog : Program) (w : World) (i : Int) (t : Tok) : (mixKind prog w).is (.inl i) (.int i t) = true := keyIs_int i t
theorem mixKind_str (prog : Program) (w : World) (x : Str) (t : Tok) : (mixKind prog w).is (.inr x) (.str x t) = true := keyIs_str x t
end L2

namespace L2
open PySem PySem.Spec PyProof.Rows

/-- a value, without the heap -/
inductive V where
  | non | bl (b : Bool) | int (i : Int) | str (x : Str) | byt (b : Array UInt8) | flt (b : UInt64) | ref (a : Addr) | ty (n : String)
  deriving DecidableEq

def RelV : V → Value → Prop
  | .non, u => u = Value.none
  | .bl b, u => u = Value.bool b
  | .int i, u => ∃ t, u = Value.int i t
  | .str x, u => ∃ t, u = Value.str x t
  | .byt b, u => ∃ t, u = Value.bytes b t
  | .flt b, u => ∃ t, u = Value.float b t
  | .ref a, u => u = Value.ref a
  | .ty n, u => u = Value.type n

abbrev Vals : List V → List Value → Prop := Paired RelV
theorem Vals.length {xs : List V} {us : List Value} (r : Vals xs us) : xs.length = us.length := Paired.length r
theorem Vals.get : ∀ {xs : List V} {us : List Value} {i : Nat} {x : V}, Vals xs us → xs[i]? = some x → ∃ u, us[i]? = some u ∧ RelV x u
  | _, _, _, _, .nil, e => by simp at e
  | _, _, 0, _, .cons r _, e => by simp at e; subst e; exact ⟨_, rfl, r⟩
  | _, _, i + 1, x, .cons _ t, e => by
    obtain ⟨u, h1, h2⟩ := Vals.get (i := i) (x := x) t (by simpa using e)
    exact ⟨u, by simpa using h1, h2⟩
theorem Vals.append : ∀ {xs ys : List V} {us ws : List Value}, Vals xs us → Vals ys ws → Vals (xs ++ ys) (us ++ ws)
  | _, _, _, _, .nil, s => s
  | _, _, _, _, .cons r t, s => .cons r (Vals.append t s)
theorem Vals.take : ∀ {xs : List V} {us : List Value} (n : Nat), Vals xs us → Vals (xs.take n) (us.take n)
  | _, _, 0, _ => .nil
  | _, _, _ + 1, .nil => .nil
  | _, _, n + 1, .cons r t => .cons r (Vals.take n t)
theorem Vals.drop : ∀ {xs : List V} {us : List Value} (n : Nat), Vals xs us → Vals (xs.drop n) (us.drop n)
  | _, _, 0, r => r
  | _, _, _ + 1, .nil => .nil
  | _, _, n + 1, .cons _ t => Vals.drop n t

def RelO : Option V → Option Value → Prop
  | some v, some u => RelV v u
  | none, none => True
  | _, _ => False
def KV {κ : Type} : List (κ × V) → List (κ × Value) → Prop := Paired fun (p : κ × V) (q : κ × Value) => p.1 = q.1 ∧ RelV p.2 q.2

/-- a key of a dict (00_mix): an int or a text -/
def kV : Key → V
  | .inl i => .int i
  | .inr x => .str x

/-- what stands at a tracked address -/
inductive HO where
  /-- a list -/
  | lst (xs : List V)
  /-- a tuple (never changes) -/
  | tup (xs : List V)
  /-- a dict whose keys are ints and texts; one whose keys are tuples of ints and texts (the empty one is both) -/
  | dK (kvs : List (Key × V)) | dT (kvs : List (List Key × V))
  /-- a set of ints: its members, its size -/
  | set (S : Int → Bool) (n : Nat)
  /-- an instance of the class at C, its dict at dx, its attributes -/
  | ins (C dx : Addr) (fs : List (Str × V))
  /-- the dict of the instance at x -/
  | own (x : Addr)
  /-- the dict of an exception -/
  | xd (fs : List (Str × V))
  /-- a bound method, f of x -/
  | met (f x : Addr)
  /-- a range object lo, lo + 1, .. below hi -/
  | rng (lo hi : Int)
  /-- a thing that is known to the object (the script; a dict while a loop walks it): read, never written while it is so -/
  | frz (o : Obj) (u : HO)
  /-- a code object's table -/
  | tbl (ps : Array Value)
  /-- any other thing, by what is true of its one object (a def of one's own: SetO a S n := HO.ext fun h => ..) -/
  | ext (φ : Heap → Prop)

abbrev Hp := Addr → Option HO
def upd (H : Hp) (a : Addr) (o : HO) : Hp := fun b => if b = a then some o else H b
theorem upd_same {H : Hp} {a : Addr} {o : HO} : upd H a o a = some o := by unfold upd; rw [if_pos rfl]
theorem upd_ne {H : Hp} {a b : Addr} {o : HO} (h : b ≠ a) : upd H a o b = H b := by unfold upd; rw [if_neg h]
theorem upd_upd {H : Hp} {a : Addr} {o u : HO} : upd (upd H a o) a u = upd H a u := by
  funext b; unfold upd; split <;> rfl
/-- two objects of different content stand apart -/
theorem ne_of {H : Hp} {a b : Addr} {o u : HO} (h : H a = some o) (h' : H b = some u) (d : o ≠ u) : a ≠ b := by
  intro e; subst e; rw [h] at h'; exact d (Option.some.inj h')
theorem ne_of_none {H : Hp} {a b : Addr} {o : HO} (h : H a = some o) (h' : H b = none) : a ≠ b := by
  intro e; subst e; rw [h] at h'; cases h'

section
variable (P : Program) (w : World)
def ObjOk (H : Hp) (h : Heap) (a : Addr) : HO → Prop
  | .lst xs => xs.length ≤ sizeLine ∧ ∃ (its : List Value) (n : Nat), Vals xs its ∧ h.get? a = some { cls := .type "list", data := .seq its.toArray n }
  | .tup xs => xs.length ≤ sizeLine ∧ ∃ its : List Value, Vals xs its ∧ IsTup h a its.toArray
  | .dK kvs => kvs.length ≤ sizeLine ∧ (a == sysModules) = false ∧ ∃ vs, KV kvs vs ∧ h.DictOf (mixKind P w) a vs
  | .dT kvs => kvs.length ≤ sizeLine ∧ (a == sysModules) = false ∧ ∃ xs : List (List Key × Addr × Value),
      Paired (fun (p : List Key × V) (q : List Key × Addr × Value) => p.1 = q.1 ∧ H q.2.1 = some (.tup (p.1.map kV)) ∧ RelV p.2 q.2.2) kvs xs ∧
      ∃ o es ep, h.get? a = some o ∧ o.ExactDict ∧ o.data = .dict es ep ∧ es.toList = xs.map (entryOfKey (tupleKind (mixKind P w))) ∧ (xs.map (·.1)).Nodup
  | .set S n => h.SetOf (intKind P w) a S n
  | .ins C dx fs => H dx = some (.own a) ∧ fs.length ≤ 1000 ∧ dx ≠ a ∧ h.get? a = some (PySem.W.instObj C dx) ∧
      ∃ mA, h.Ns1 dx mA ∧ (∀ f, RelO (fs.lookup f) (mA f)) ∧ PySem.Within mA (fs.map (·.1))
  | .own _ => ∃ o, h.get? a = some o
  | .xd fs => ∃ mA, h.Ns1 a mA ∧ ∀ f, RelO (fs.lookup f) (mA f)
  | .rng lo hi => ∃ t u v, h.get? a = some { cls := .type "range", data := .fields #[.int lo t, .int hi u, .int 1 v] }
  | .frz o u => h.get? a = some o ∧ ObjOk H h a u
  | .tbl ps => h.get? a = some { cls := .none, data := .fields ps }
  | .met f x => h.get? a = some (PySem.W.methodObj (.ref f) (.ref x))
  | .ext φ => φ h ∧ (∃ o, h.get? a = some o) ∧ ∀ h1 h2 : Heap, φ h1 → (∀ o, h1.get? a = some o → h2.get? a = some o) → φ h2
/-- the abstract heap is held -/
def HOk (H : Hp) (h : Heap) : Prop := ∀ a o, H a = some o → ObjOk P w H h a o
end

section
variable {P : Program} {w : World} {H H' : Hp} {h h' : Heap} {a : Addr} {o : HO}
theorem ObjOk.lt (x : ObjOk P w H h a o) : a < h.objs.size := by
  cases o with
  | lst xs => obtain ⟨_, _, _, _, e⟩ := x; exact Heap.lt_size e
  | tup xs => obtain ⟨_, _, _, p⟩ := x; exact p.lt
  | dK kvs => obtain ⟨_, _, _, _, o, _, _, e, _⟩ := x; exact Heap.lt_size e
  | dT kvs => obtain ⟨_, _, _, _, o, _, _, e, _⟩ := x; exact Heap.lt_size e
  | set S n => obtain ⟨o, _, _, _, e, _⟩ := x; exact Heap.lt_size e
  | ins C dx fs => obtain ⟨_, _, _, e, _⟩ := x; exact Heap.lt_size e
  | own y => obtain ⟨_, e⟩ := x; exact Heap.lt_size e
  | xd fs => obtain ⟨_, ⟨_, _, _, e, _⟩, _⟩ := x; exact Heap.lt_size e
  | rng lo hi => obtain ⟨_, _, _, e⟩ := x; exact Heap.lt_size e
  | frz ob u => obtain ⟨e, _⟩ := x; exact Heap.lt_size e
  | tbl ps => exact Heap.lt_size (show h.get? a = some _ from x)
  | met f y => exact Heap.lt_size (show h.get? a = some _ from x)
  | ext φ => obtain ⟨_, ⟨_, e⟩, _⟩ := x; exact Heap.lt_size e
theorem Paired.mapP {α β : Type} {F G : α → β → Prop} : ∀ {l₁ : List α} {l₂ : List β}, Paired F l₁ l₂ → (∀ a b, F a b → G a b) → Paired G l₁ l₂
  | _, _, .nil, _ => .nil
  | _, _, .cons r t, f => .cons (f _ _ r) (Paired.mapP t f)
/-- what an object's description leans on: its own object, its own dict, the tuples -/
theorem ObjOk.stay (x : ObjOk P w H h a o) (k : ∀ b u, (b = a ∨ H b = some (.own a)) → h.get? b = some u → h'.get? b = some u)
    (ho : ∀ b, H b = some (.own a) → H' b = some (.own a)) (ht : ∀ b xs, H b = some (.tup xs) → H' b = some (.tup xs)) : ObjOk P w H' h' a o := by
  induction o with
  | lst xs => obtain ⟨z, its, n, r, e⟩ := x; exact ⟨z, its, n, r, k _ _ (.inl rfl) e⟩
  | tup xs => obtain ⟨z, its, r, ob, e, c⟩ := x; exact ⟨z, its, r, ob, k _ _ (.inl rfl) e, c⟩
  | dK kvs => obtain ⟨z, y, vs, r, ob, es, ep, e, c⟩ := x; exact ⟨z, y, vs, r, ob, es, ep, k _ _ (.inl rfl) e, c⟩
  | dT kvs =>
    obtain ⟨z, y, xs, r, ob, es, ep, e, c⟩ := x
    exact ⟨z, y, xs, Paired.mapP r fun p q z => ⟨z.1, ht _ _ z.2.1, z.2.2⟩, ob, es, ep, k _ _ (.inl rfl) e, c⟩
  | set S n => obtain ⟨ob, es, ep, t, e, c⟩ := x; exact ⟨ob, es, ep, t, k _ _ (.inl rfl) e, c⟩
  | ins C dx fs =>
    obtain ⟨d, z, ne, e, mA, ⟨od, es, ep, e2, c⟩, r⟩ := x
    exact ⟨ho _ d, z, ne, k _ _ (.inl rfl) e, mA, ⟨od, es, ep, k _ _ (.inr d) e2, c⟩, r⟩
  | own y => obtain ⟨ob, e⟩ := x; exact ⟨ob, k _ _ (.inl rfl) e⟩
  | xd fs => obtain ⟨mA, ⟨od, es, ep, e, c⟩, r⟩ := x; exact ⟨mA, ⟨od, es, ep, k _ _ (.inl rfl) e, c⟩, r⟩
  | rng lo hi => obtain ⟨t, u, v, e⟩ := x; exact ⟨t, u, v, k _ _ (.inl rfl) e⟩
  | frz ob u ih => obtain ⟨e, q⟩ := x; exact ⟨k _ _ (.inl rfl) e, ih q⟩
  | tbl ps =>
    have e : h.get? a = some { cls := .none, data := .fields ps } := x
    show h'.get? a = some { cls := .none, data := .fields ps }
    exact k a _ (.inl rfl) e
  | met f y =>
    have e : h.get? a = some (PySem.W.methodObj (.ref f) (.ref y)) := x
    show h'.get? a = some (PySem.W.methodObj (.ref f) (.ref y))
    exact k a _ (.inl rfl) e
  | ext φ => obtain ⟨p, ⟨o, e⟩, st⟩ := x; exact ⟨st _ _ p fun o q => k _ _ (.inl rfl) q, ⟨o, k _ _ (.inl rfl) e⟩, st⟩
theorem HOk.lt (x : HOk P w H h) (e : H a = some o) : a < h.objs.size := (x a o e).lt
theorem HOk.fresh (x : HOk P w H h) (e : h.objs.size ≤ a) : H a = none := by
  cases q : H a with
  | none => rfl
  | some u => exact absurd (Nat.lt_of_lt_of_le (x.lt q) e) (Nat.lt_irrefl _)
/-- every object of the heap is kept -/
theorem HOk.kept (x : HOk P w H h) (k : ∀ b u, h.get? b = some u → h'.get? b = some u) : HOk P w H h' := fun a o e =>
  (x a o e).stay (fun b u _ q => k b u q) (fun _ q => q) fun _ _ q => q
/-- a new object is laid and tracked -/
theorem HOk.laid (x : HOk P w H h) (k : ∀ b u, h.get? b = some u → h'.get? b = some u) (hp : h.objs.size ≤ a) (new : ObjOk P w (upd H a o) h' a o) : HOk P w (upd H a o) h' := fun b u e => by
  have hn := x.fresh hp
  by_cases hb : b = a
  · subst hb; rw [upd_same] at e; cases e; exact new
  · rw [upd_ne hb] at e
    exact (x b u e).stay (fun c v _ q => k c v q) (fun c q => by rw [upd_ne (ne_of_none q hn)]; exact q) fun c xs q => by rw [upd_ne (ne_of_none q hn)]; exact q
end

/-- what may be read as u: it is u, or a known u -/
def Rd (H : Hp) (a : Addr) (u : HO) : Prop := H a = some u ∨ ∃ o, H a = some (.frz o u)
theorem Rd.ok {P : Program} {w : World} {H : Hp} {h : Heap} {a : Addr} {u : HO} (r : Rd H a u) (x : HOk P w H h) : ObjOk P w H h a u := by
  rcases r with r | ⟨o, r⟩
  · exact x a u r
  · obtain ⟨_, q⟩ := x a _ r
    exact q
/-- what may be written -/
def Mut : Option HO → Prop
  | some (.lst _) => True
  | some (.dK _) => True
  | some (.dT _) => True
  | some (.set _ _) => True
  | some (.ins _ _ _) => True
  | some (.ext _) => True
  | _ => False
section
variable {P : Program} {w : World} {H : Hp} {h h' : Heap} {x e : Addr} {o' : HO}
/-- the object at e is changed: x itself, or the dict of the instance x -/
theorem HOk.write (ok : HOk P w H h) (mu : Mut (H x)) (he : e = x ∨ H e = some (.own x)) (k : ∀ b u, b ≠ e → h.get? b = some u → h'.get? b = some u) (heo : ∃ u, h'.get? e = some u)
    (new : ObjOk P w (upd H x o') h' x o') : HOk P w (upd H x o') h' := fun b u q => by
  have nown : ∀ c y, H c = some (.own y) → c ≠ x := fun c y r z => by subst z; rw [r] at mu; exact mu
  have ntup : ∀ c xs, H c = some (.tup xs) → c ≠ x := fun c xs r z => by subst z; rw [r] at mu; exact mu
  by_cases hb : b = x
  · subst hb; rw [upd_same] at q; cases q; exact new
  · rw [upd_ne hb] at q
    by_cases hbe : b = e
    · have q' : H b = some (.own x) := by
        rcases he with z | z
        · exact absurd (hbe.trans z) hb
        · rw [hbe]; exact z
      rw [q] at q'; cases q'
      obtain ⟨v, hv⟩ := heo
      exact ⟨v, by rw [hbe]; exact hv⟩
    · refine (ok b u q).stay (fun c v hc r => k c v ?_ r) (fun c r => by rw [upd_ne (nown c b r)]; exact r) fun c xs r => by rw [upd_ne (ntup c xs r)]; exact r
      rcases hc with rfl | hc
      · exact hbe
      · rintro rfl
        rcases he with z | z
        · exact nown c b hc z
        · rw [hc] at z; cases z; exact hb rfl
end

/-! ### kept unless tracked; of the frames at fs (the callers') the slots may change (an exception that passes writes there); of the records at ex (iterators) nothing is said -/
structure Un (fs ex : List Addr) (H H' : Hp) (h h' : Heap) : Prop where
  keep : ∀ b o, h.get? b = some o → H b = none → b ∉ fs → b ∉ ex → h'.get? b = some o
  slot : ∀ b o, h.get? b = some o → H b = none → b ∈ fs → b ∉ ex → ∃ sl, h'.get? b = some { o with slots := sl }
  free : ∀ b o, h.get? b = some o → H b = none → b ∉ ex → H' b = none
  there : ∀ b o, h.get? b = some o → b ∉ ex → ∃ o', h'.get? b = some o'
  tups : ∀ b xs, H b = some (.tup xs) → H' b = some (.tup xs)
  frzs : ∀ b o u, H b = some (.frz o u) → H' b = some (.frz o u)
  tbls : ∀ b ps, H b = some (.tbl ps) → ∃ more, H' b = some (.tbl (ps ++ more))
section
variable {fs fs' ex ex' : List Addr} {H H1 H2 : Hp} {h h1 h2 h' : Heap} {a x e : Addr} {o : HO}
theorem Un.any (u : Un fs ex H H1 h h1) {b : Addr} {ob : Obj} (q : h.get? b = some ob) (n : H b = none) (hx : b ∉ ex) : ∃ sl, h1.get? b = some { ob with slots := sl } := by
  by_cases hb : b ∈ fs
  · exact u.slot b ob q n hb hx
  · exact ⟨ob.slots, u.keep b ob q n hb hx⟩
theorem Un.kept (k : ∀ b u, h.get? b = some u → h'.get? b = some u) : Un fs ex H H h h' :=
  ⟨fun b ob q _ _ _ => k b ob q, fun b ob q _ _ _ => ⟨ob.slots, k b ob q⟩, fun _ _ _ n _ => n, fun b ob q _ => ⟨ob, k b ob q⟩, fun _ _ q => q, fun _ _ _ q => q, fun _ ps q => ⟨#[], by rw [q]; simp⟩⟩
theorem Un.refl : Un fs ex H H h h := Un.kept fun _ _ q => q
theorem Un.laid (k : ∀ b u, h.get? b = some u → h'.get? b = some u) (hp : h.objs.size ≤ a) (hn : H a = none) : Un fs ex H (upd H a o) h h' where
  keep := fun b u q _ _ _ => k b u q
  slot := fun b u q _ _ _ => ⟨u.slots, k b u q⟩
  free := fun b u q n _ => by rw [upd_ne (Nat.ne_of_lt (Nat.lt_of_lt_of_le (Heap.lt_size q) hp))]; exact n
  there := fun b u q _ => ⟨u, k b u q⟩
  tups := fun b xs q => by rw [upd_ne (ne_of_none q hn)]; exact q
  frzs := fun b u xs q => by rw [upd_ne (ne_of_none q hn)]; exact q
  tbls := fun b ps q => ⟨#[], by rw [upd_ne (ne_of_none q hn), q]; simp⟩
theorem Un.write (mu : Mut (H x)) (he : e = x ∨ H e = some (.own x)) (k : ∀ b u, b ≠ e → h.get? b = some u → h'.get? b = some u) (heo : ∃ u, h'.get? e = some u) : Un fs ex H (upd H x o) h h' := by
  have hx : ∀ b, H b = none → b ≠ x := fun b n z => by subst z; rw [n] at mu; exact mu
  have hb : ∀ b, H b = none → b ≠ e := fun b n z => by
    subst z
    rcases he with r | r
    · exact hx b n r
    · rw [n] at r; cases r
  have hm : ∀ b u, H b = some u → ¬ Mut (some u) → b ≠ x := fun b u q nm z => by subst z; rw [q] at mu; exact nm mu
  refine ⟨fun b u q n _ _ => k b u (hb b n) q, fun b u q n _ _ => ⟨u.slots, k b u (hb b n) q⟩, fun b u q n _ => by rw [upd_ne (hx b n)]; exact n, fun b u q _ => ?_,
    fun b xs q => by rw [upd_ne (hm b _ q fun z => z)]; exact q, fun b u xs q => by rw [upd_ne (hm b _ q fun z => z)]; exact q, fun b ps q => ⟨#[], by rw [upd_ne (hm b _ q fun z => z), q]; simp⟩⟩
  by_cases hbe : b = e
  · subst hbe; exact heo
  · exact ⟨u, k b u hbe q⟩
end

/-! ### the heap without what is tracked -/
def trk (h : Heap) (H : Hp) : List Addr := (List.range h.objs.size).filter fun a => (H a).isSome
def hidT (h : Heap) (H : Hp) : Heap := PySem.W.hideAll h (trk h H)
theorem hidT_size (h : Heap) (H : Hp) : (hidT h H).objs.size = h.objs.size := PySem.W.hideAll_size _ _
theorem hidT_get {h : Heap} {H : Hp} {b : Addr} {o : Obj} (e : h.get? b = some o) (n : H b = none) : (hidT h H).get? b = some o :=
  PySem.W.hideAll_get _ e fun hm => by
    have q : (H b).isSome = true := (List.mem_filter.mp hm).2
    rw [n] at q; simp at q
theorem of_hidT {h : Heap} {H : Hp} {b : Addr} {o : Obj} (e : (hidT h H).get? b = some o) : h.get? b = some o ∧ H b = none := by
  have e' : h.get? b = some o := PySem.W.of_hideAll (trk h H) e
  refine ⟨e', ?_⟩
  cases q : H b with
  | none => rfl
  | some x =>
    have hm : b ∈ trk h H := List.mem_filter.mpr ⟨List.mem_range.mpr (Heap.lt_size e'), by simp [q]⟩
    have z : (hidT h H).get? b = none := PySem.W.hideAll_none (trk h H) hm
    rw [z] at e; cases e

/-! ### OpenK's ledger, filled with every new object but one -/
end L2

namespace L2
open PySem PySem.Spec PyProof.Rows

/-- the module's facts, over the base: the heap at the law's entry without what is tracked there -/
structure Mod (K : PySem.W.Frag) (mg : Str → Option Value) (base : Heap) : Prop where
  kin : K.In base
  glob : base.Ns mainGlobals mg
  blt : ∃ mb, base.Ns builtinsNs mb ∧ ∀ x : Str, x ≠ "__name__" → mb x = bootBuiltins x
  nolimit : base.NoLimit

/-- the context: a def's body (or a comprehension's block) running. base: fixed through the whole law; s₀, H₀: the entry; outer: the frames whose slots others may change (a def's callers); stack: all frames that run;
   ex: iterators that were made ahead of the entry and are walked here (a comprehension's); fn: the names whose cells were made at the entry (a def: all; a comprehension's block: its own); calm: not within an except suite; pn: pins that every state bears; xe: what is wanted of an exception that leaves the code -/
structure Cx where
  prog : Program
  w : World
  K : PySem.W.Frag
  mg : Str → Option Value
  base : Heap
  A : Around
  N : List Str
  s_0 : Shared
  H_0 : Hp
  env : Env
  outer : List Env
  stack : List Env
  ex : List Addr
  fn : Str → Bool
  calm : Bool
  pn : List (Addr × Obj)
  xe : Value → Shared → Prop
/-- the callers' frames -/
def frs (l : List Env) : List Addr := l.filterMap (·.frame)
abbrev Cx.fs (X : Cx) : List Addr := frs X.outer

def Vis (sc : Scope) (x : Str) : Prop := sc.names.lookup x = some .local ∨ sc.names.lookup x = some .cell ∨ sc.names.lookup x = some .free
def Loc (sc : Scope) (x : Str) : Prop := sc.names.lookup x = some .local ∨ sc.names.lookup x = some .cell
def Look (env : Env) (h : Heap) (m : Str → Option Value) (x : Str) (u : Value) : Prop :=
  (env.kindOf x = some .local ∧ m x = some u) ∨ ((env.kindOf x = some .cell ∨ env.kindOf x = some .free) ∧ ∃ c, env.cells.lookup x = some c ∧ h.IsCell c (some u))

structure Cx.Ok (X : Cx) : Prop where
  mod : Mod X.K X.mg X.base
  kind : X.env.scope.kind = .function
  glob : X.env.globals = mainGlobals
  blt : X.env.builtins = builtinsNs
  above : X.s_0.heap.objs.size ≤ X.env.locals
  inj : ∀ x y c, X.env.cells.lookup x = some c → X.env.cells.lookup y = some c → x = y
  has : ∀ x, (X.env.kindOf x = some .cell ∨ X.env.kindOf x = some .free) → ∃ c, X.env.cells.lookup x = some c
  cab : ∀ x c, X.fn x = true → X.env.cells.lookup x = some c → X.s_0.heap.objs.size ≤ c
  hd : X.calm = true → X.A.handled = none
  frames : X.A.frames = some X.stack
  stk : X.stack = X.outer ∨ (X.stack = X.env :: X.outer ∧ X.env.frame = some X.env.locals)
  exf : ∀ b ∈ X.ex, b ≠ X.env.locals ∧ ∀ x c, X.env.cells.lookup x = some c → c ≠ b
  bs : ∀ b o, X.base.get? b = some o → X.s_0.heap.get? b = some o ∧ X.H_0 b = none
  bsz : X.base.objs.size ≤ X.s_0.heap.objs.size
  noex : ∀ b o, X.base.get? b = some o → b ∉ X.ex
  exfs : ∀ b ∈ X.ex, b ∉ X.fs
  funs : X.s_0.heap.FunFrames X.base X.outer
  frf : ∀ b ∈ X.fs, X.H_0 b = none

structure Inv (X : Cx) (pins : List (Addr × Obj)) (σ : List (Option V)) (H : Hp) (s : Shared) : Prop where
  ok : X.Ok
  os : s.os = X.s_0.os
  bare : AllBare s.gens
  base : Un X.fs X.ex X.H_0 H X.s_0.heap s.heap
  loc : ∃ m, s.heap.Ns X.env.locals m ∧ ∀ (i : Nat) (x : Str) (v : V), X.N[i]? = some x → σ[i]? = some (some v) → Vis X.env.scope x → ∃ u, RelV v u ∧ Look X.env s.heap m x u
  cell : ∀ x c, X.env.cells.lookup x = some c → ∃ v, s.heap.IsCell c v
  free : H X.env.locals = none
  freeC : ∀ x c, X.env.cells.lookup x = some c → H c = none
  pin : ∀ p ∈ X.pn ++ pins, s.heap.get? p.1 = some p.2 ∧ H p.1 = none ∧ p.1 ≠ X.env.locals ∧ p.1 ∉ X.fs ∧ ∀ v, p.2.data ≠ .cell v
  hok : HOk X.prog X.w H s.heap
  len : σ.length = X.N.length

section
variable {X : Cx} {pins : List (Addr × Obj)} {σ : List (Option V)} {H H' : Hp} {s : Shared} {h' : Heap}

theorem Cx.Ok.nofr (ok : X.Ok) {b : Addr} {o : Obj} (e : X.base.get? b = some o) : b ∉ X.fs := fun hb => by
  have := (ok.funs.mem hb).1
  rw [e] at this; cases this
theorem Inv.bs (I : Inv X pins σ H s) : ∀ b o, X.base.get? b = some o → s.heap.get? b = some o ∧ H b = none := fun b o e =>
  ⟨I.base.keep b o (I.ok.bs b o e).1 (I.ok.bs b o e).2 (I.ok.nofr e) (I.ok.noex b o e), I.base.free b o (I.ok.bs b o e).1 (I.ok.bs b o e).2 (I.ok.noex b o e)⟩
theorem Inv.bk (I : Inv X pins σ H s) : ∀ b o, X.base.get? b = some o → s.heap.get? b = some o := fun b o e => (I.bs b o e).1
theorem Inv.mod (I : Inv X pins σ H s) : Mod X.K X.mg X.base := I.ok.mod
theorem Inv.kIn (I : Inv X pins σ H s) : X.K.In s.heap := I.ok.mod.kin.keeps I.bk
theorem Inv.nolimit (I : Inv X pins σ H s) : s.heap.NoLimit := I.ok.mod.nolimit.keeps I.bk
theorem Inv.lt (I : Inv X pins σ H s) : X.env.locals < s.heap.objs.size := let ⟨_, hn, _⟩ := I.loc; hn.lt
theorem Inv.sz (I : Inv X pins σ H s) : X.s_0.heap.objs.size ≤ s.heap.objs.size := Nat.le_trans I.ok.above (Nat.le_of_lt I.lt)
theorem Inv.nofs (I : Inv X pins σ H s) {a : Addr} (h : s.heap.objs.size ≤ a) : a ∉ X.fs := fun hb => by
  obtain ⟨_, o, ho, _⟩ := I.ok.funs.mem hb
  exact absurd (Nat.lt_of_lt_of_le (Heap.lt_size ho) (Nat.le_trans I.sz h)) (Nat.lt_irrefl _)
theorem Inv.cne (I : Inv X pins σ H s) : ∀ x c, X.env.cells.lookup x = some c → c ≠ X.env.locals := fun x c e z => by
  obtain ⟨v, o, ho, hd⟩ := I.cell x c e
  obtain ⟨m, ⟨o', es, ep, ho', hd', _⟩, _⟩ := I.loc
  rw [z, ho'] at ho; cases ho; rw [hd'] at hd; cases hd
theorem Inv.funs (I : Inv X pins σ H s) : s.heap.FunFrames X.base X.outer := by
  have all : ∀ (l : List Env), (∀ b ∈ frs l, b ∈ X.fs) → X.s_0.heap.FunFrames X.base l → s.heap.FunFrames X.base l := by
    intro l
    induction l with
    | nil => intro _ _; trivial
    | cons env r ih =>
      intro hs hl
      obtain ⟨hk, ⟨L, o, hf, hn, ho, hd⟩, hr⟩ := hl
      have hL : L ∈ X.fs := hs L (by unfold frs; rw [List.filterMap_cons, hf]; exact List.mem_cons_self)
      obtain ⟨sl, e⟩ := I.base.slot L o ho (I.ok.frf L hL) hL fun z => I.ok.exfs L z hL
      exact ⟨hk, ⟨L, _, hf, hn, e, hd⟩, ih (fun b hb => hs b (by unfold frs; rw [List.filterMap_cons, hf]; exact List.mem_cons_of_mem _ hb)) hr⟩
  exact all X.outer (fun _ hb => hb) I.ok.funs

/-- the frames that run, for a call -/
theorem Inv.stack (I : Inv X pins σ H s) : s.heap.FunFrames X.base X.stack := by
  rcases I.ok.stk with e | ⟨e, hf⟩
  · rw [e]; exact I.funs
  · rw [e]
    obtain ⟨m, hn, _⟩ := I.loc
    refine .cons (by rw [I.ok.kind]; decide) hf hn ?_ I.funs
    exact Heap.get?_none_of_le (Nat.le_trans I.ok.bsz I.ok.above)
theorem Inv.stkSub (I : Inv X pins σ H s) : ∀ b ∈ frs X.stack, b ∈ X.env.locals :: X.fs := fun b hb => by
  rcases I.ok.stk with e | ⟨e, hf⟩
  · rw [e] at hb; exact List.mem_cons_of_mem _ hb
  · rw [e] at hb
    unfold frs at hb
    rw [List.filterMap_cons, hf] at hb
    exact hb
theorem Inv.stkFree (I : Inv X pins σ H s) : ∀ b ∈ frs X.stack, H b = none := fun b hb => by
  rcases List.mem_cons.mp (I.stkSub b hb) with e | hb
  · rw [e]; exact I.free
  · obtain ⟨_, o, ho, _⟩ := I.ok.funs.mem hb
    exact I.base.free b o ho (I.ok.frf b hb) fun z => I.ok.exfs b z hb

/-- THE STEP: the untracked objects but the frame and the records at ch are kept (the callers' frames up to slots), the frame's map is kept, the new abstract heap is held -/
theorem Inv.step {g' : Array GenState} {t' : Nat} {d' : Drawn} {ch : List Addr} (I : Inv X pins σ H s)
    (hch : ∀ b ∈ ch, (b ∈ X.ex ∨ X.s_0.heap.objs.size ≤ b) ∧ b ≠ X.env.locals ∧ (∀ x c, X.env.cells.lookup x = some c → c ≠ b) ∧ ∀ p ∈ X.pn ++ pins, p.1 ≠ b)
    (keep : ∀ b o, b ≠ X.env.locals → b ∉ X.fs → b ∉ ch → s.heap.get? b = some o → H b = none → h'.get? b = some o)
    (slot : ∀ b o, b ≠ X.env.locals → b ∈ X.fs → b ∉ ch → s.heap.get? b = some o → H b = none → ∃ sl, h'.get? b = some { o with slots := sl }) (free : ∀ b o, b ∉ ch → s.heap.get? b = some o → H b = none → H' b = none)
    (there : ∀ b o, b ∉ ch → s.heap.get? b = some o → ∃ o', h'.get? b = some o')
    (tups : ∀ b xs, H b = some (.tup xs) → H' b = some (.tup xs)) (frzs : ∀ b o u, H b = some (.frz o u) → H' b = some (.frz o u)) (tbls : ∀ b ps, H b = some (.tbl ps) → ∃ more, H' b = some (.tbl (ps ++ more)))
    (ns : ∀ m, s.heap.Ns X.env.locals m → h'.Ns X.env.locals m) (hok : HOk X.prog X.w H' h') (hg : AllBare g') :
    Inv X pins σ H' { s with heap := h', gens := g', drawn := d', toks := t' } := by
  have neL : ∀ b o, X.s_0.heap.get? b = some o → b ≠ X.env.locals := fun b o e => Nat.ne_of_lt (Nat.lt_of_lt_of_le (Heap.lt_size e) I.ok.above)
  have neC : ∀ b o, X.s_0.heap.get? b = some o → b ∉ X.ex → b ∉ ch := fun b o e hx hb => by
    rcases (hch b hb).1 with z | z
    · exact hx z
    · exact absurd (Nat.lt_of_lt_of_le (Heap.lt_size e) z) (Nat.lt_irrefl _)
  have cellK : ∀ x c, X.env.cells.lookup x = some c → ∀ v, s.heap.IsCell c v → h'.IsCell c v := fun x c e v ⟨o, ho, hd⟩ => by
    have nch : c ∉ ch := fun z => (hch c z).2.2.1 x c e rfl
    by_cases hc : c ∈ X.fs
    · obtain ⟨sl, q⟩ := slot c o (I.cne x c e) hc nch ho (I.freeC x c e)
      exact ⟨_, q, hd⟩
    · exact ⟨o, keep c o (I.cne x c e) hc nch ho (I.freeC x c e), hd⟩
  refine ⟨I.ok, I.os, hg, ⟨fun b o e n hb hx => ?_, fun b o e n hb hx => ?_, fun b o e n hx => ?_, fun b o e hx => ?_, fun b xs e => tups b xs (I.base.tups b xs e), fun b o xs e => frzs b o xs (I.base.frzs b o xs e), fun b ps e => ?_⟩, ?_, fun x c e => ?_, ?_, fun x c e => ?_, fun p hp => ?_, hok, I.len⟩
  · exact keep b o (neL b o e) hb (neC b o e hx) (I.base.keep b o e n hb hx) (I.base.free b o e n hx)
  · obtain ⟨sl, e1⟩ := I.base.slot b o e n hb hx
    obtain ⟨sl', e2⟩ := slot b _ (neL b o e) hb (neC b o e hx) e1 (I.base.free b o e n hx)
    exact ⟨sl', e2⟩
  · obtain ⟨o', e1⟩ := I.base.there b o e hx
    exact free b o' (neC b o e hx) e1 (I.base.free b o e n hx)
  · obtain ⟨o', e1⟩ := I.base.there b o e hx
    exact there b o' (neC b o e hx) e1
  · obtain ⟨m1, e1⟩ := I.base.tbls b ps e
    obtain ⟨m2, e2⟩ := tbls b _ e1
    exact ⟨m1 ++ m2, by rw [e2, Array.append_assoc]⟩
  · obtain ⟨m, hn, hl⟩ := I.loc
    refine ⟨m, ns m hn, fun i x v e1 e2 e3 => ?_⟩
    obtain ⟨u, r, l⟩ := hl i x v e1 e2 e3
    refine ⟨u, r, ?_⟩
    rcases l with l | ⟨k, c, e, z⟩
    · exact .inl l
    · exact .inr ⟨k, c, e, cellK x c e _ z⟩
  · obtain ⟨v, z⟩ := I.cell x c e
    exact ⟨v, cellK x c e v z⟩
  · obtain ⟨m, ⟨o, _, _, ho, _⟩, _⟩ := I.loc
    exact free _ o (fun z => (hch _ z).2.1 rfl) ho I.free
  · obtain ⟨v, o, ho, hd⟩ := I.cell x c e
    exact free c o (fun z => (hch c z).2.2.1 x c e rfl) ho (I.freeC x c e)
  · obtain ⟨e, n, ne, nf, d⟩ := I.pin p hp
    have nch : p.1 ∉ ch := fun z => (hch p.1 z).2.2.2 p hp rfl
    exact ⟨keep p.1 p.2 ne nf nch e n, free p.1 p.2 nch e n, ne, nf, d⟩
/-- .. where the frame's own object is kept too -/
theorem Inv.un {t' : Nat} (I : Inv X pins σ H s) (u : Un X.fs [] H H' s.heap h') (hok : HOk X.prog X.w H' h') : Inv X pins σ H' { s with heap := h', toks := t' } := by
  obtain ⟨m, ⟨o, es, ep, ho, r⟩, _⟩ := id I.loc
  obtain ⟨sl, hL⟩ := u.any ho I.free (by simp)
  exact I.step (g' := s.gens) (d' := s.drawn) (ch := []) (fun _ z => nomatch z) (fun b o _ hb _ e n => u.keep b o e n hb (by simp)) (fun b o _ hb _ e n => u.slot b o e n hb (by simp)) (fun b o _ e n => u.free b o e n (by simp)) (fun b o _ e => u.there b o e (by simp)) u.tups u.frzs u.tbls (fun m' hm => by
    obtain ⟨o', es', ep', ho', r'⟩ := hm
    rw [ho] at ho'; cases ho'
    exact ⟨_, es', ep', hL, r'⟩) hok I.bare
/-- behind a call (or a comprehension's block): the slots of this frame may have changed too, the records at ch may have turned -/
theorem Inv.call {g' : Array GenState} {t' : Nat} {d' : Drawn} {ch : List Addr} (I : Inv X pins σ H s) (u : Un (frs X.stack) ch H H' s.heap h') (hok : HOk X.prog X.w H' h') (hg : AllBare g')
    (hch : ∀ b ∈ ch, (b ∈ X.ex ∨ X.s_0.heap.objs.size ≤ b) ∧ b ≠ X.env.locals ∧ (∀ x c, X.env.cells.lookup x = some c → c ≠ b) ∧ ∀ p ∈ X.pn ++ pins, p.1 ≠ b) :
    Inv X pins σ H' { s with heap := h', gens := g', drawn := d', toks := t' } := by
  obtain ⟨m, ⟨o, es, ep, ho, r⟩, _⟩ := id I.loc
  obtain ⟨sl, hL⟩ := u.any ho I.free fun z => (hch _ z).2.1 rfl
  exact I.step (ch := ch) hch (fun b o hL hb hc e n => u.keep b o e n (fun z => (List.mem_cons.mp (I.stkSub b z)).elim hL hb) hc) (fun b o _ _ hc e n => u.any e n hc) (fun b o hc e n => u.free b o e n hc) (fun b o hc e => u.there b o e hc) u.tups u.frzs u.tbls (fun m' hm => by
    obtain ⟨o', es', ep', ho', r'⟩ := hm
    rw [ho] at ho'; cases ho'
    exact ⟨_, es', ep', hL, r'⟩) hok hg
/-- an untracked record of ours (an iterator) has turned -/
theorem Inv.turned {t' : Nat} {it : Addr} (I : Inv X pins σ H s) (k : ∀ b o, b ≠ it → s.heap.get? b = some o → h'.get? b = some o) (hn : H it = none) (hL : it ≠ X.env.locals)
    (h1 : it ∈ X.ex ∨ X.s_0.heap.objs.size ≤ it) (h2 : ∀ x c, X.env.cells.lookup x = some c → c ≠ it) (h3 : ∀ p ∈ X.pn ++ pins, p.1 ≠ it) : Inv X pins σ H { s with heap := h', toks := t' } := by
  have nit : ∀ b u, H b = some u → b ≠ it := fun b u e z => by rw [z, hn] at e; cases e
  refine I.step (g' := s.gens) (d' := s.drawn) (ch := [it]) (fun b hb => ?_) (fun b o _ _ hc e _ => k b o (fun z => hc (by simp [z])) e) (fun b o _ _ hc e _ => ⟨o.slots, k b o (fun z => hc (by simp [z])) e⟩) (fun _ _ _ _ n => n)
    (fun b o hc e => ⟨o, k b o (fun z => hc (by simp [z])) e⟩) (fun _ _ e => e) (fun _ _ _ e => e) (fun b ps e => ⟨#[], by rw [e]; simp⟩) (fun m hm => ?_) (fun b u e => ?_) I.bare
  · have e : b = it := by simpa using hb
    subst e
    exact ⟨h1, hL, h2, h3⟩
  · obtain ⟨o, es, ep, ho, r⟩ := hm
    exact ⟨o, es, ep, k _ o (Ne.symm hL) ho, r⟩
  · refine (I.hok b u e).stay (fun c v hc q => k c v ?_ q) (fun _ q => q) fun _ _ q => q
    rcases hc with z | z
    · rw [z]; exact nit b u e
    · exact nit c _ z
theorem Inv.tok (I : Inv X pins σ H s) (t : Nat) : Inv X pins σ H { s with toks := t } := I.un (h' := s.heap) (t' := t) Un.refl I.hok
/-- all objects kept -/
theorem Inv.kept {t' : Nat} (I : Inv X pins σ H s) (k : ∀ b u, s.heap.get? b = some u → h'.get? b = some u) : Inv X pins σ H { s with heap := h', toks := t' } := I.un (Un.kept k) (I.hok.kept k)
/-- a new object laid and tracked -/
theorem Inv.laid {a : Addr} {o : HO} {t' : Nat} (I : Inv X pins σ H s) (k : ∀ b u, s.heap.get? b = some u → h'.get? b = some u) (hp : s.heap.objs.size ≤ a) (new : ObjOk X.prog X.w (upd H a o) h' a o) :
    Inv X pins σ (upd H a o) { s with heap := h', toks := t' } := I.un (Un.laid k hp (I.hok.fresh hp)) (I.hok.laid k hp new)
/-- an object written -/
theorem Inv.write {x e : Addr} {o : HO} {t' : Nat} (I : Inv X pins σ H s) (mu : Mut (H x)) (he : e = x ∨ H e = some (.own x)) (k : ∀ b u, b ≠ e → s.heap.get? b = some u → h'.get? b = some u) (heo : ∃ u, h'.get? e = some u)
    (new : ObjOk X.prog X.w (upd H x o) h' x o) : Inv X pins σ (upd H x o) { s with heap := h', toks := t' } := I.un (Un.write mu he k heo) (I.hok.write mu he k heo new)
/-- forgetting slots, pins -/
theorem Inv.weak {σ' : List (Option V)} (I : Inv X pins σ H s) (hl : σ'.length = σ.length) (w : ∀ (i : Nat) v, σ'[i]? = some (some v) → σ[i]? = some (some v)) : Inv X pins σ' H s :=
  ⟨I.ok, I.os, I.bare, I.base, let ⟨m, hn, hl'⟩ := I.loc; ⟨m, hn, fun i x v e1 e2 e3 => hl' i x v e1 (w i v e2) e3⟩, I.cell, I.free, I.freeC, I.pin, I.hok, hl.trans I.len⟩
theorem Inv.pins_of {pins' : List (Addr × Obj)} (I : Inv X pins σ H s) (h : ∀ p ∈ pins', s.heap.get? p.1 = some p.2 ∧ H p.1 = none ∧ p.1 ≠ X.env.locals ∧ p.1 ∉ X.fs ∧ ∀ v, p.2.data ≠ .cell v) : Inv X pins' σ H s :=
  ⟨I.ok, I.os, I.bare, I.base, I.loc, I.cell, I.free, I.freeC, fun p hp => (List.mem_append.mp hp).elim (fun z => I.pin p (List.mem_append_left _ z)) (h p), I.hok, I.len⟩

theorem nodup_ix {N : List Str} (hN : N.Nodup) {i j : Nat} {x : Str} (a : N[i]? = some x) (b : N[j]? = some x) : i = j := by
  obtain ⟨h1, e1⟩ := List.getElem?_eq_some_iff.mp a
  obtain ⟨h2, e2⟩ := List.getElem?_eq_some_iff.mp b
  exact (List.getElem_inj hN).mp (e1.trans e2.symm)

/-- a name is stored; what changed -/
theorem store_ok2 {M : Model} {A : Around} {E : Value → Shared → Prop} {i : Nat} {x : Str} {v : V} {u : Value} {Q : Unit → Shared → Prop} (I : Inv X pins σ H s) (hN : X.N.Nodup) (hi : X.N[i]? = some x) (hx : Loc X.env.scope x) (r : RelV v u)
    (h : ∀ s', Inv X pins (σ.set i (some v)) H s' → (∃ a, Heap.SameBut a s.heap s'.heap ∧ (a = X.env.locals ∨ X.env.cells.lookup x = some a)) → Q () s') (hf : X.fn x = true ∨ X.env.scope.names.lookup x = some .local := by first | exact .inl rfl | exact .inr rfl | assumption) : wpAny M A (storeName X.env x u) Q E s := by
  obtain ⟨m, hn, hl⟩ := id I.loc
  have hcls : (X.env.scope.kind == .class || (X.env.scope.kind == .module && X.env.locals != X.env.globals)) = false := by rw [I.ok.kind]; rfl
  have hiσ : i < σ.length := by rw [I.len]; exact (List.getElem?_eq_some_iff.mp hi).1
  have cne := I.cne
  have tracked : ∀ {a : Addr} {h' : Heap}, (∃ o, s.heap.get? a = some o ∧ H a = none) → Heap.SameBut a s.heap h' → HOk X.prog X.w H h' := fun {a h'} ha hs b ob e => by
    obtain ⟨_, _, hfree⟩ := ha
    refine (I.hok b ob e).stay (fun c w' hc q => (hs.2 c ?_).trans q) (fun _ q => q) fun _ _ q => q
    rintro rfl
    rcases hc with rfl | hc
    · rw [hfree] at e; cases e
    · rw [hfree] at hc; cases hc
  rcases hx with hk | hk
  · refine wpAny_storeName_local hk hn (fun h' hn' hs => ?_) hcls
    obtain ⟨oL, _, _, hoL, _⟩ := id hn
    refine h _ ⟨I.ok, I.os, I.bare, ⟨fun b o e n hb hx => ?_, fun b o e n hb hx => ?_, I.base.free, fun b o e hx => ?_, I.base.tups, I.base.frzs, I.base.tbls⟩, ⟨_, hn', fun j y v' e1 e2 e3 => ?_⟩, fun y c e => ?_, I.free, I.freeC, fun p hp => ?_, tracked ⟨oL, hoL, I.free⟩ hs, by simpa using I.len⟩ ⟨_, hs, .inl rfl⟩
    · exact (hs.2 b (Nat.ne_of_lt (Nat.lt_of_lt_of_le (Heap.lt_size e) I.ok.above))).trans (I.base.keep b o e n hb hx)
    · obtain ⟨sl, e1⟩ := I.base.slot b o e n hb hx
      exact ⟨sl, (hs.2 b (Nat.ne_of_lt (Nat.lt_of_lt_of_le (Heap.lt_size e) I.ok.above))).trans e1⟩
    · obtain ⟨o', e1⟩ := I.base.there b o e hx
      exact ⟨o', (hs.2 b (Nat.ne_of_lt (Nat.lt_of_lt_of_le (Heap.lt_size e) I.ok.above))).trans e1⟩
    · by_cases hj : j = i
      · subst hj
        rw [hi] at e1; cases e1
        rw [List.getElem?_set_self hiσ] at e2
        cases e2
        exact ⟨u, r, .inl ⟨hk, by simp⟩⟩
      · rw [List.getElem?_set_ne (Ne.symm hj)] at e2
        obtain ⟨u', r', q⟩ := hl j y v' e1 e2 e3
        refine ⟨u', r', ?_⟩
        rcases q with ⟨k, e⟩ | ⟨k, c, e, z⟩
        · refine .inl ⟨k, ?_⟩
          have : y ≠ x := fun e => hj (nodup_ix hN e1 (e ▸ hi))
          simp [this, e]
        · exact .inr ⟨k, c, e, z.sameBut hs (cne y c e)⟩
    · obtain ⟨w', z⟩ := I.cell y c e
      exact ⟨w', z.sameBut hs (cne y c e)⟩
    · obtain ⟨e, n, ne, nf, d⟩ := I.pin p hp
      exact ⟨(hs.2 p.1 ne).trans e, n, ne, nf, d⟩
  · have hfn : X.fn x = true := by
      rcases hf with z | z
      · exact z
      · rw [z] at hk; cases hk
    obtain ⟨c, hc⟩ := I.ok.has x (.inl hk)
    obtain ⟨w', z⟩ := I.cell x c hc
    refine wpAny_storeName_cell I.ok.kind hk hc z (fun h' hc' hs => ?_)
    obtain ⟨oc, hoc, hocd⟩ := id z
    refine h { s with heap := h' } ⟨I.ok, I.os, I.bare, ⟨fun b o e n hb hx => ?_, fun b o e n hb hx => ?_, I.base.free, fun b o e hx => ?_, I.base.tups, I.base.frzs, I.base.tbls⟩, ⟨m, hn.sameBut hs (Ne.symm (cne x c hc)), fun j y v' e1 e2 e3 => ?_⟩, fun y c' e => ?_, I.free, I.freeC, fun p hp => ?_, tracked ⟨oc, hoc, I.freeC x c hc⟩ hs, by simpa using I.len⟩ ⟨c, hs, .inr hc⟩
    · exact (hs.2 b (Nat.ne_of_lt (Nat.lt_of_lt_of_le (Heap.lt_size e) (I.ok.cab x c hfn hc)))).trans (I.base.keep b o e n hb hx)
    · obtain ⟨sl, e1⟩ := I.base.slot b o e n hb hx
      exact ⟨sl, (hs.2 b (Nat.ne_of_lt (Nat.lt_of_lt_of_le (Heap.lt_size e) (I.ok.cab x c hfn hc)))).trans e1⟩
    · obtain ⟨o', e1⟩ := I.base.there b o e hx
      exact ⟨o', (hs.2 b (Nat.ne_of_lt (Nat.lt_of_lt_of_le (Heap.lt_size e) (I.ok.cab x c hfn hc)))).trans e1⟩
    · by_cases hj : j = i
      · subst hj
        rw [hi] at e1; cases e1
        rw [List.getElem?_set_self hiσ] at e2
        cases e2
        exact ⟨u, r, .inr ⟨.inl hk, c, hc, hc'⟩⟩
      · rw [List.getElem?_set_ne (Ne.symm hj)] at e2
        obtain ⟨u', r', q⟩ := hl j y v' e1 e2 e3
        refine ⟨u', r', ?_⟩
        rcases q with q | ⟨k, c', e, z'⟩
        · exact .inl q
        · refine .inr ⟨k, c', e, z'.sameBut hs ?_⟩
          rintro rfl
          exact hj (nodup_ix hN e1 (I.ok.inj _ _ _ e hc ▸ hi))
    · by_cases hcc : c' = c
      · subst hcc; exact ⟨_, hc'⟩
      · obtain ⟨w2, z2⟩ := I.cell y c' e
        exact ⟨w2, z2.sameBut hs hcc⟩
    · obtain ⟨e, n, ne, nf, d⟩ := I.pin p hp
      refine ⟨(hs.2 p.1 ?_).trans e, n, ne, nf, d⟩
      intro q
      rw [q, hoc] at e
      have q' : oc = p.2 := Option.some.inj e
      exact d w' (by rw [← q']; exact hocd)
theorem store_ok {M : Model} {A : Around} {E : Value → Shared → Prop} {i : Nat} {x : Str} {v : V} {u : Value} {Q : Unit → Shared → Prop} (I : Inv X pins σ H s) (hN : X.N.Nodup) (hi : X.N[i]? = some x) (hx : Loc X.env.scope x) (r : RelV v u)
    (h : ∀ s', Inv X pins (σ.set i (some v)) H s' → Q () s') (hf : X.fn x = true ∨ X.env.scope.names.lookup x = some .local := by first | exact .inl rfl | exact .inr rfl | assumption) : wpAny M A (storeName X.env x u) Q E s :=
  store_ok2 I hN hi hx r (fun s' I' _ => h s' I') hf
/-- behind a call or a block, the state as it is -/
theorem Inv.call' {s' : Shared} {ch : List Addr} (I : Inv X pins σ H s) (ho : s'.os = s.os) (u : Un (frs X.stack) ch H H' s.heap s'.heap) (hok : HOk X.prog X.w H' s'.heap) (hg : AllBare s'.gens)
    (hch : ∀ b ∈ ch, (b ∈ X.ex ∨ X.s_0.heap.objs.size ≤ b) ∧ b ≠ X.env.locals ∧ (∀ x c, X.env.cells.lookup x = some c → c ≠ b) ∧ ∀ p ∈ X.pn ++ pins, p.1 ≠ b) : Inv X pins σ H' s' := by
  obtain ⟨h', g', d', t', o'⟩ := s'
  have e : o' = s.os := ho
  subst e
  exact I.call (g' := g') (t' := t') (d' := d') u hok hg hch
end

/-! ### the judgements -/
/-- an exception: its class, its own dict's address (where it has one), the abstract heap behind it -/
abbrev XK := Value → Option Addr → Hp → Prop
abbrev St := List (Option V)
abbrev VK := V → Hp → Prop
/-- an expression's reading; a test's; an argument list's -/
abbrev TE := St → Hp → VK → Prop
abbrev TT := St → Hp → (Bool → Hp → Prop) → Prop
abbrev TA := St → Hp → (List V → Hp → Prop) → Prop
/-- what is wanted behind a statement -/
structure Ends where
  nx : St → Hp → Prop
  rt : VK
  bk : St → Hp → Prop := fun _ _ => False
  ct : St → Hp → Prop := fun _ _ => False
abbrev TS := Ends → St → Hp → Prop

def EP (X : Cx) (pins : List (Addr × Obj)) (σ : St) (Q : VK) (u : Value) (s' : Shared) : Prop := ∃ v H', Inv X pins σ H' s' ∧ RelV v u ∧ Q v H'
def TP (X : Cx) (pins : List (Addr × Obj)) (σ : St) (Q : Bool → Hp → Prop) (b : Bool) (s' : Shared) : Prop := ∃ H', Inv X pins σ H' s' ∧ Q b H'
def AP (X : Cx) (pins : List (Addr × Obj)) (σ : St) (Q : List V → Hp → Prop) (us : List Value) (s' : Shared) : Prop := ∃ vs H', Inv X pins σ H' s' ∧ Vals vs us ∧ Q vs H'
def SP (X : Cx) (pins : List (Addr × Obj)) (D : Ends) (f : Flow) (s' : Shared) : Prop :=
  match f with
  | .next => ∃ σ' H', Inv X pins σ' H' s' ∧ D.nx σ' H'
  | .brk => ∃ σ' H', Inv X pins σ' H' s' ∧ D.bk σ' H'
  | .cont => ∃ σ' H', Inv X pins σ' H' s' ∧ D.ct σ' H'
  | .ret u => ∃ v σ' H', Inv X pins σ' H' s' ∧ RelV v u ∧ D.rt v H'

def PE (X : Cx) (e : Expr) (t : TE) : Prop :=
  ∀ (pins : List (Addr × Obj)) (s : Shared) (σ : St) (H : Hp) (Q : VK), Inv X pins σ H s → t σ H Q → wpAny (model X.prog X.w) X.A (eval e X.env) (EP X pins σ Q) X.xe s
def PT (X : Cx) (e : Expr) (t : TT) : Prop :=
  ∀ (pins : List (Addr × Obj)) (s : Shared) (σ : St) (H : Hp) (Q : Bool → Hp → Prop), Inv X pins σ H s → t σ H Q → wpAny (model X.prog X.w) X.A (isTrue e X.env (eval e X.env)) (TP X pins σ Q) X.xe s
/-- a test whatever its 'whole' is (and, or) -/
def PW (X : Cx) (e : Expr) (t : TT) : Prop :=
  ∀ (whole : Sem Value) (pins : List (Addr × Obj)) (s : Shared) (σ : St) (H : Hp) (Q : Bool → Hp → Prop), Inv X pins σ H s → t σ H Q → wpAny (model X.prog X.w) X.A (isTrue e X.env whole) (TP X pins σ Q) X.xe s
theorem PW.pt {X : Cx} {e : Expr} {t : TT} (h : PW X e t) : PT X e t := h _
/-- an argument list (no star), from the left -/
def PA (X : Cx) (es : List Expr) (t : TA) : Prop :=
  ∀ (pos : Pos) (pins : List (Addr × Obj)) (s : Shared) (σ : St) (H : Hp) (Q : List V → Hp → Prop), Inv X pins σ H s → t σ H Q → wpAny (model X.prog X.w) X.A (spliced (backTo pos (starEach es X.env))) (AP X pins σ Q) X.xe s
def PS (X : Cx) (st : Stmt) (t : TS) : Prop :=
  ∀ (pins : List (Addr × Obj)) (s : Shared) (σ : St) (H : Hp) (D : Ends), Inv X pins σ H s → t D σ H → wpAny (model X.prog X.w) X.A (exec st X.env) (SP X pins D) X.xe s
def PSs (X : Cx) (st : List Stmt) (t : TS) : Prop :=
  ∀ (pins : List (Addr × Obj)) (s : Shared) (σ : St) (H : Hp) (D : Ends), Inv X pins σ H s → t D σ H → wpAny (model X.prog X.w) X.A (execs st X.env) (SP X pins D) X.xe s
/-- weaken the end -/
theorem thn {α : Type} {t : Sem α} {Q Q' : α → Shared → Prop} {M : Model} {A : Around} {E : Value → Shared → Prop} {s : Shared} (h : wpAny M A t Q E s) (hQ : ∀ a s, Q a s → Q' a s) : wpAny M A t Q' E s := wpAny_mono h hQ fun _ _ x => x
end L2

namespace L2
open PySem PySem.Spec PyProof.Rows
section
variable {X : Cx}


/-! ### names and constants -/
def tVar (i : Nat) : TE := fun σ H Q => ∃ v, σ[i]? = some (some v) ∧ Q v H
def tC (v : V) : TE := fun _ H Q => Q v H
theorem pe_var {i : Nat} {x : Str} {pos : Pos} (hN : X.N[i]? = some x) (hv : Vis X.env.scope x) (hd : (x == ("__debug__" : Str)) = false := by decide) (hcd : (x == ("__classdict__" : Str)) = false := by decide) : PE X (.Name x pos) (tVar i) := by
  intro pins s σ H Q I h
  obtain ⟨v, e, h⟩ := h
  obtain ⟨m, hn, hl⟩ := I.loc
  obtain ⟨u, r, l⟩ := hl i x v hN e hv
  have fin : EP X pins σ Q u s := ⟨v, H, I, r, h⟩
  rcases l with ⟨hk, hm⟩ | ⟨hk, c, hc, hcell⟩
  · exact wpAny_Name (wpAny_loadName_local I.ok.kind hk hn hm fin) hd
  · rcases hk with hk | hk
    · exact wpAny_Name (wpAny_loadName_cell I.ok.kind hk hc hcell fin) hd
    · exact wpAny_Name (wpAny_loadName_free I.ok.kind hk hc hcell fin hcd) hd
theorem pe_int {i j pos} : PE X (.Constant (.int i) j pos) (tC (.int i)) := fun _ _ _ H _ I h => wpAny_Constant_int ⟨.int i, H, I.tok _, ⟨_, rfl⟩, h⟩
theorem pe_bl {b j pos} : PE X (.Constant (.bool b) j pos) (tC (.bl b)) := fun _ _ _ H _ I h => Constant_bool ⟨.bl b, H, I, rfl, h⟩

/-- a global name of the def -/
def Gl (X : Cx) (x : Str) : Prop := X.env.kindOf x = some .globalImplicit
theorem ld_glob {E : Value → Shared → Prop} {pins : List (Addr × Obj)} {s : Shared} {σ : St} {H : Hp} {x : Str} {u : Value} {pos : Pos} {Q : Value → Shared → Prop} (I : Inv X pins σ H s) (hg : Gl X x) (hm : X.mg x = some u) (h : Q u s)
    (hd : (x == ("__debug__" : Str)) = false := by decide) : wpAny (model X.prog X.w) X.A (eval (.Name x pos) X.env) Q E s :=
  Calls.Name_function_global I.ok.kind hg (Calls.loadGlobal_global (by rw [I.ok.glob]; exact I.mod.glob.keeps I.bk) hm h) hd
theorem ld_blt {E : Value → Shared → Prop} {pins : List (Addr × Obj)} {s : Shared} {σ : St} {H : Hp} {x : Str} {u : Value} {pos : Pos} {Q : Value → Shared → Prop} (I : Inv X pins σ H s) (hg : Gl X x) (hm : X.mg x = none) (hv : bootBuiltins x = some u) (h : Q u s)
    (hn : x ≠ "__name__" := by decide) (hd : (x == ("__debug__" : Str)) = false := by decide) : wpAny (model X.prog X.w) X.A (eval (.Name x pos) X.env) Q E s := by
  obtain ⟨mb, h1, h2⟩ := I.mod.blt
  exact Calls.Name_function_global I.ok.kind hg (Calls.loadGlobal_builtin (by rw [I.ok.glob]; exact I.mod.glob.keeps I.bk) hm (by rw [I.ok.blt]; exact h1.keeps I.bk) ((h2 x hn).trans hv) h) hd
/-- a module's constant, a class, a function, as a value -/
theorem pe_glob {x : Str} {v : V} {u : Value} {pos : Pos} (hg : Gl X x) (hm : X.mg x = some u) (r : RelV v u) (hd : (x == ("__debug__" : Str)) = false := by decide) : PE X (.Name x pos) (tC v) :=
  fun _ _ _ H _ I h => ld_glob I hg hm ⟨v, H, I, r, h⟩ hd

/-! ### arithmetic -/
variable {a b : Expr} {ta tb : TE} {pos : Pos}

/-! ### comparisons -/
/-- a comparison as a value, as a test -/
def tB (t : TE) : TT := fun σ H Q => t σ H fun x H1 => ∃ c, x = .bl c ∧ Q c H1
/-- an expression whose value is a bool, as a test -/
theorem pt_val {e : Expr} {t : TE} (h : PE X e t) (he : ∀ whole, isTrue e X.env whole = (do let v ← whole; standAt e.pos; holding [v] (truthy v)) := by intro _; rfl) : PT X e (tB t) := by
  intro pins s σ H Q I hw
  refine isTrue_plain (thn (h pins s σ H _ I hw) fun v s1 ⟨x, H1, I1, r1, q1⟩ => ?_) (he _)
  obtain ⟨d, rfl, q⟩ := q1
  cases r1
  exact wpAny_truthy_bool ⟨H1, I1, q⟩

/-! ### and, or, not -/
variable {tA tB' : TT} {rest : List Expr}
def tOr (t u : TT) : TT := fun σ H Q => t σ H fun c H1 => if c = true then Q true H1 else u σ H1 Q
def tNot (t : TT) : TT := fun σ H Q => t σ H fun c H1 => Q (!c) H1
theorem pw_or1 (ha : PT X a tA) : PW X (.BoolOp .Or [a] pos) tA := by
  intro wh pins s σ H Q I h
  refine isTrue_or (thn (ha pins s σ H Q I h) fun c s1 e => ?_)
  cases c with
  | false => exact isTrue_or_nil e
  | true => exact e
theorem pw_or (ha : PT X a tA) (hb : PW X (.BoolOp .Or (b :: rest) pos) tB') : PW X (.BoolOp .Or (a :: b :: rest) pos) (tOr tA tB') := by
  intro wh pins s σ H Q I h
  refine isTrue_or (thn (ha pins s σ H _ I h) fun c s1 ⟨H1, I1, q1⟩ => ?_)
  cases c with
  | true => exact ⟨H1, I1, q1⟩
  | false => exact hb wh pins s1 σ H1 Q I1 q1
theorem pt_not (ha : PT X a tA) : PT X (.UnaryOp .Not a pos) (tNot tA) := by
  intro pins s σ H Q I h
  exact isTrue_not (ha pins s σ H (fun c H1 => Q (!c) H1) I h)
/-- .. as values (bools) -/
def tAndV (ta tb : TE) : TE := fun σ H Q => ta σ H fun x H1 => ∃ c, x = .bl c ∧ if c = true then tb σ H1 Q else Q (.bl false) H1
theorem pe_one {op} {t : TE} (h : PE X a t) : PE X (.BoolOp op [a] pos) t := fun pins s σ H Q I hw => BoolOp_one (h pins s σ H Q I hw)
theorem pe_and (ha : PE X a ta) (hb : PE X (.BoolOp .And (b :: rest) pos) tb) : PE X (.BoolOp .And (a :: b :: rest) pos) (tAndV ta tb) := by
  intro pins s σ H Q I h
  refine BoolOp_and (thn (ha pins s σ H _ I h) fun v s1 ⟨x, H1, I1, r1, q1⟩ => ?_)
  obtain ⟨c, rfl, q1⟩ := q1
  cases r1
  refine wpAny_truthy_bool ?_
  cases c with
  | true => exact hb pins s1 σ H1 Q I1 q1
  | false => exact ⟨.bl false, H1, I1, rfl, q1⟩
/-- a if t else b -/
def tIf (t : TT) (ta tb : TE) : TE := fun σ H Q => t σ H fun c H1 => if c = true then ta σ H1 Q else tb σ H1 Q
theorem pe_ifExp {c : Expr} (hc : PT X c tA) (ha : PE X a ta) (hb : PE X b tb) : PE X (.IfExp c a b pos) (tIf tA ta tb) := by
  intro pins s σ H Q I h
  refine wpAny_IfExp (thn (hc pins s σ H _ I h) fun d s1 ⟨H1, I1, q1⟩ => ?_)
  cases d with
  | true => exact ha pins s1 σ H1 Q I1 q1
  | false => exact hb pins s1 σ H1 Q I1 q1
end
end L2

namespace L2
open PySem PySem.Spec PyProof.Rows

/-! ### a list, a tuple that is read: tracked, frozen, or an object of the module -/
def SqL (K : PySem.W.Frag) (H : Hp) (a : Addr) (xs : List V) : Prop :=
  Rd H a (.lst xs) ∨
    ∃ (o : Obj) (its : Array Value) (n : Nat), K.lookup a = some o ∧ o.cls = .type "list" ∧ o.dict = none ∧ o.data = .seq its n ∧ its.size ≤ sizeLine ∧ Vals xs its.toList
def SqT (K : PySem.W.Frag) (H : Hp) (a : Addr) (xs : List V) : Prop :=
  Rd H a (.tup xs) ∨
    ∃ (o : Obj) (its : Array Value) (n : Nat), K.lookup a = some o ∧ o.cls = .type "tuple" ∧ o.data = .seq its n ∧ its.size ≤ sizeLine ∧ Vals xs its.toList
def absV : Value → Option V
  | .none => some .non
  | .bool b => some (.bl b)
  | .int i _ => some (.int i)
  | .str x _ => some (.str x)
  | .bytes b _ => some (.byt b)
  | .float b _ => some (.flt b)
  | .ref a => some (.ref a)
  | .type n => some (.ty n)
  | _ => none
theorem RelV.abs {x : V} {u : Value} (r : RelV x u) : absV u = some x := by
  cases x with
  | non => cases r; rfl
  | bl _ => cases r; rfl
  | int _ => obtain ⟨t, rfl⟩ := r; rfl
  | str _ => obtain ⟨t, rfl⟩ := r; rfl
  | byt _ => obtain ⟨t, rfl⟩ := r; rfl
  | flt _ => obtain ⟨t, rfl⟩ := r; rfl
  | ref _ => cases r; rfl
  | ty _ => cases r; rfl
theorem RelV.inj {x y : V} {u : Value} (r : RelV x u) (q : RelV y u) : x = y := Option.some.inj (r.abs.symm.trans q.abs)
theorem Vals.inj : ∀ {xs ys : List V} {us : List Value}, Vals xs us → Vals ys us → xs = ys
  | _, _, _, .nil, .nil => rfl
  | _, _, _, .cons r t, .cons r' t' => by rw [r.inj r', Vals.inj t t']
section
variable {X : Cx} {pins : List (Addr × Obj)} {σ : St} {H : Hp} {s : Shared} {a : Addr} {xs ys : List V}
theorem SqL.of {K : PySem.W.Frag} (h : H a = some (.lst xs)) : SqL K H a xs := .inl (.inl h)
theorem SqT.of {K : PySem.W.Frag} (h : H a = some (.tup xs)) : SqT K H a xs := .inl (.inl h)
theorem Inv.list (I : Inv X pins σ H s) (h : SqL X.K H a xs) : ∃ its : List Value, Vals xs its ∧ PlainL s.heap a its.toArray ∧ xs.length ≤ sizeLine := by
  rcases h with h | ⟨o, its, n, hk, hc, hd, hs, hz, r⟩
  · obtain ⟨z, its, n, r, e⟩ := h.ok I.hok
    exact ⟨its, r, ⟨_, n, e, rfl, rfl, rfl⟩, z⟩
  · refine ⟨its.toList, r, ⟨o, n, I.kIn a o hk, hc, hd, by simpa using hs⟩, ?_⟩
    have e := r.length
    simp only [Array.length_toList] at e
    omega
theorem Inv.tuple (I : Inv X pins σ H s) (h : SqT X.K H a xs) : ∃ its : List Value, Vals xs its ∧ IsTup s.heap a its.toArray ∧ xs.length ≤ sizeLine := by
  rcases h with h | ⟨o, its, n, hk, hc, hs, hz, r⟩
  · obtain ⟨z, its, r, p⟩ := h.ok I.hok
    exact ⟨its, r, p, z⟩
  · refine ⟨its.toList, r, ⟨o, I.kIn a o hk, hc, n, by simpa using hs⟩, ?_⟩
    have e := r.length
    simp only [Array.length_toList] at e
    omega
theorem Inv.list_inj (I : Inv X pins σ H s) (h : SqL X.K H a xs) (h' : SqL X.K H a ys) : xs = ys := by
  obtain ⟨its, r, ⟨o, n, e, _, _, d⟩, _⟩ := I.list h
  obtain ⟨its', r', ⟨o', n', e', _, _, d'⟩, _⟩ := I.list h'
  rw [e] at e'; cases e'
  rw [d] at d'
  injection d' with d1 _
  have : its = its' := by simpa using congrArg Array.toList d1
  subst this
  exact r.inj r'
theorem Inv.tuple_inj (I : Inv X pins σ H s) (h : SqT X.K H a xs) (h' : SqT X.K H a ys) : xs = ys := by
  obtain ⟨its, r, ⟨o, e, _, n, d⟩, _⟩ := I.tuple h
  obtain ⟨its', r', ⟨o', e', _, n', d'⟩, _⟩ := I.tuple h'
  rw [e] at e'; cases e'
  rw [d] at d'
  injection d' with d1 _
  have : its = its' := by simpa using congrArg Array.toList d1
  subst this
  exact r.inj r'
end

/-! ### another wish about exceptions -/
abbrev Cx.wish (X : Cx) (E : Value → Shared → Prop) : Cx := { X with xe := E }
/-- no exception leaves -/
abbrev Cx.nox (X : Cx) : Cx := X.wish fun _ _ => False
theorem Cx.Ok.wish {X : Cx} (ok : X.Ok) (E : Value → Shared → Prop) : (X.wish E).Ok :=
  ⟨ok.mod, ok.kind, ok.glob, ok.blt, ok.above, ok.inj, ok.has, ok.cab, ok.hd, ok.frames, ok.stk, ok.exf, ok.bs, ok.bsz, ok.noex, ok.exfs, ok.funs, ok.frf⟩
theorem Cx.Ok.unwish {X : Cx} {E : Value → Shared → Prop} (ok : (X.wish E).Ok) : X.Ok :=
  ⟨ok.mod, ok.kind, ok.glob, ok.blt, ok.above, ok.inj, ok.has, ok.cab, ok.hd, ok.frames, ok.stk, ok.exf, ok.bs, ok.bsz, ok.noex, ok.exfs, ok.funs, ok.frf⟩
section
variable {X : Cx} {pins : List (Addr × Obj)} {σ : St} {H : Hp} {s : Shared} {E : Value → Shared → Prop}
theorem Inv.wish (I : Inv X pins σ H s) (E : Value → Shared → Prop) : Inv (X.wish E) pins σ H s := ⟨I.ok.wish E, I.os, I.bare, I.base, I.loc, I.cell, I.free, I.freeC, I.pin, I.hok, I.len⟩
theorem Inv.unwish (I : Inv (X.wish E) pins σ H s) : Inv X pins σ H s := ⟨I.ok.unwish, I.os, I.bare, I.base, I.loc, I.cell, I.free, I.freeC, I.pin, I.hok, I.len⟩
theorem SP.unwish {D : Ends} {f : Flow} {s' : Shared} (h : SP (X.wish E) pins D f s') : SP X pins D f s' := by
  cases f with
  | next => obtain ⟨σ', H', I, q⟩ := h; exact ⟨σ', H', I.unwish, q⟩
  | brk => obtain ⟨σ', H', I, q⟩ := h; exact ⟨σ', H', I.unwish, q⟩
  | cont => obtain ⟨σ', H', I, q⟩ := h; exact ⟨σ', H', I.unwish, q⟩
  | ret u => obtain ⟨v, σ', H', I, r, q⟩ := h; exact ⟨v, σ', H', I.unwish, r, q⟩
theorem PSs.nox {st : List Stmt} {t : TS} (h : PSs X.nox st t) : PSs X st t := fun pins s σ H D I hw =>
  wpAny_mono (h pins s σ H D (I.wish _) hw) (fun _ _ q => q.unwish) fun _ _ z => False.elim z
end

/-! ### blocks and small statements -/
section
variable {X : Cx} {st : Stmt} {rest : List Stmt} {t u : TS} {e : Expr} {te : TE} {pos : Pos}
def tNext : TS := fun D σ H => D.nx σ H
def tSeq (t u : TS) : TS := fun D σ H => t { D with nx := u D } σ H
theorem pss_nil : PSs X [] tNext := fun _ _ σ H _ I h => wpAny_execs_nil ⟨σ, H, I, h⟩
theorem pss_cons (h1 : PS X st t) (h2 : PSs X rest u) : PSs X (st :: rest) (tSeq t u) := by
  intro pins s σ H D I h
  refine wpAny_execs_cons (thn (h1 pins s σ H { D with nx := u D } I h) fun f s1 q => ?_)
  cases f with
  | next =>
    obtain ⟨σ', H', I', q⟩ := q
    exact h2 pins s1 σ' H' D I' q
  | ret v => exact q
  | brk => exact q
  | cont => exact q
theorem pss_one (h1 : PS X st t) : PSs X [st] t := by
  intro pins s σ H D I h
  refine wpAny_execs_cons (thn (h1 pins s σ H D I h) fun f s1 q => ?_)
  cases f with
  | next => exact wpAny_execs_nil q
  | ret v => exact q
  | brk => exact q
  | cont => exact q
/-- in a def's body nothing is shown -/
theorem Inv.quiet {pins : List (Addr × Obj)} {σ : St} {H : Hp} {s : Shared} (I : Inv X pins σ H s) : interactive X.env = false := by simp [interactive, I.ok.kind]
/-- an expression whose value is dropped -/
def tDrop (te : TE) : TS := fun D σ H => te σ H fun _ H1 => D.nx σ H1
theorem ps_expr (he : PE X e te) (hs : swapsWith e none pos.line X.env = pure false := by rfl) : PS X (.Expr e pos) (tDrop te) := by
  intro pins s σ H D I h
  exact wpAny_Expr_any (thn (he pins s σ H _ I h) fun v s1 ⟨x, H1, I1, r1, q1⟩ => ⟨σ, H1, I1, q1⟩) I.quiet hs
def tRet (te : TE) : TS := fun D σ H => te σ H D.rt
theorem ps_ret (he : PE X e te) : PS X (.Return (some e) pos) (tRet te) := by
  intro pins s σ H D I h
  exact wpAny_Return_some (thn (he pins s σ H _ I h) fun v s1 ⟨x, H1, I1, r1, q1⟩ => ⟨x, σ, H1, I1, r1, q1⟩)
def tIfS (c : TT) (t u : TS) : TS := fun D σ H => c σ H fun b H1 => if b = true then t D σ H1 else u D σ H1
theorem ps_if {c : Expr} {a b : List Stmt} {tc : TT} (hc : PT X c tc) (ha : PSs X a t) (hb : PSs X b u) : PS X (.If c a b pos) (tIfS tc t u) := by
  intro pins s σ H D I h
  refine wpAny_If (thn (hc pins s σ H _ I h) fun d s1 ⟨H1, I1, q1⟩ => ?_)
  cases d with
  | true => exact ha pins s1 σ H1 D I1 q1
  | false => exact hb pins s1 σ H1 D I1 q1
end

/-! ### targets -/
abbrev TG := V → St → Hp → (St → Hp → Prop) → Prop
def PG (X : Cx) (target : Expr) (t : TG) : Prop :=
  ∀ (pins : List (Addr × Obj)) (s : Shared) (σ : St) (H : Hp) (v : V) (u : Value) (Q : St → Hp → Prop), Inv X pins σ H s → RelV v u → t v σ H Q →
    wpAny (model X.prog X.w) X.A (assign target X.env u) (fun _ s' => ∃ σ' H', Inv X pins σ' H' s' ∧ Q σ' H') X.xe s
section
variable {X : Cx} {pos : Pos}
def gName (i : Nat) : TG := fun v σ H Q => Q (σ.set i (some v)) H
theorem pg_name {i : Nat} {x : Str} (hN : X.N.Nodup) (hi : X.N[i]? = some x) (hx : Loc X.env.scope x) (hf : X.fn x = true ∨ X.env.scope.names.lookup x = some .local := by first | exact .inl rfl | exact .inr rfl | assumption) : PG X (.Name x pos) (gName i) := by
  intro pins s σ H v u Q I r h
  exact wpAny_assign_Name (store_ok I hN hi hx r (fun s' I' => ⟨_, H, I', h⟩) hf)
/-- target = value -/
def tAsg (te : TE) (g : TG) : TS := fun D σ H => te σ H fun x H1 => g x σ H1 D.nx
/-- name = value -/
theorem ps_set {i : Nat} {x : Str} {e : Expr} {te : TE} {pos' : Pos} (hN : X.N.Nodup) (hi : X.N[i]? = some x) (hx : Loc X.env.scope x) (he : PE X e te) (hs : swapsWith e (some (.Name x pos')) pos.line X.env = pure false := by rfl) (hf : X.fn x = true ∨ X.env.scope.names.lookup x = some .local := by first | exact .inl rfl | exact .inr rfl | assumption) :
    PS X (.Assign [.Name x pos'] e pos) (tAsg te (gName i)) := by
  intro pins s σ H D I h
  refine wpAny_Assign_Name (thn (he pins s σ H _ I h) fun v s1 ⟨y, H1, I1, r1, q1⟩ => ?_) hs
  exact store_ok I1 hN hi hx r1 (fun s2 I2 => ⟨_, H1, I2, q1⟩) hf
end

/-! ### while -/
section
variable {X : Cx} {pos : Pos}
/-- the invariant W with its measure -/
def tWhile (c : TT) (tb : TS) : TS := fun D σ H => ∃ W : Nat → St → Hp → Prop, (∃ m, W m σ H) ∧ ∀ m σ H, W m σ H →
  c σ H fun b H1 => if b = true then ∃ N : St → Hp → Prop, (∀ σ' H', N σ' H' → ∃ m', m' < m ∧ W m' σ' H') ∧ tb { D with nx := N, ct := N, bk := D.nx } σ H1 else D.nx σ H1
theorem ps_while {c : Expr} {body : List Stmt} {tc : TT} {tb : TS} (hp : PassesOwn (model X.prog X.w) X.A X.env X.xe) (hc : PT X c tc) (hb : PSs X body tb) : PS X (.While c body [] pos) (tWhile tc tb) := by
  intro pins s σ H D I h
  obtain ⟨W, ⟨m0, w0⟩, turn⟩ := h
  refine wpAny_While (codeAny_whileLoop (fun n s' => ∃ σ' H', Inv X pins σ' H' s' ∧ W n σ' H') ?_ m0 ⟨σ, H, I, w0⟩)
  rintro n s1 ⟨σ1, H1, I1, w1⟩
  refine wpAny_passesOwn hp (thn (hc pins s1 σ1 H1 _ I1 (turn n σ1 H1 w1)) fun b s2 ⟨H2, I2, q2⟩ => ?_)
  cases b with
  | true =>
    obtain ⟨N, hN, q2⟩ := q2
    rw [if_pos rfl]
    refine wpAny_passesOwn hp (thn (hb pins s2 σ1 H2 _ I2 q2) fun f s3 q3 => ?_)
    cases f with
    | next =>
      obtain ⟨σ3, H3, I3, n3⟩ := q3
      obtain ⟨m', hm, w3⟩ := hN σ3 H3 n3
      exact ⟨m', hm, σ3, H3, I3, w3⟩
    | cont =>
      obtain ⟨σ3, H3, I3, n3⟩ := q3
      obtain ⟨m', hm, w3⟩ := hN σ3 H3 n3
      exact ⟨m', hm, σ3, H3, I3, w3⟩
    | brk => exact q3
    | ret v => exact q3
  | false =>
    rw [if_neg Bool.false_ne_true]
    exact wpAny_execs_nil ⟨σ1, H2, I2, q2⟩
end

/-! ### what a loop or a comprehension walks -/
/-- at turn i: it yields x (the heap may grow), or it stops -/
structure It where
  go : Nat → Hp → Prop
  yld : Nat → Hp → V → Hp → Prop
  stop : Nat → Hp → Prop
/-- the iterator's own objects may turn: they are not the frame's, not pinned, younger than the entry (or a comprehension's own) -/
def FpOk (X : Cx) (pins : List (Addr × Obj)) (H : Hp) (b : Addr) : Prop :=
  H b = none ∧ b ≠ X.env.locals ∧ b ∉ X.fs ∧ (b ∈ X.ex ∨ X.s_0.heap.objs.size ≤ b) ∧ (∀ x c, X.env.cells.lookup x = some c → c ≠ b) ∧ ∀ p ∈ X.pn ++ pins, p.1 ≠ b
theorem Inv.fpOk {X : Cx} {pins : List (Addr × Obj)} {σ : St} {H H' : Hp} {s : Shared} {b : Addr} (I : Inv X pins σ H s) (hb : s.heap.objs.size ≤ b) (hn : H' b = none) : FpOk X pins H' b := by
  refine ⟨hn, Nat.ne_of_gt (Nat.lt_of_lt_of_le I.lt hb), I.nofs hb, .inr (Nat.le_trans I.sz hb), fun x c e z => ?_, fun p hp z => ?_⟩
  · obtain ⟨v, q⟩ := I.cell x c e
    exact absurd (Nat.lt_of_lt_of_le q.lt (by rw [z]; exact hb)) (Nat.lt_irrefl _)
  · exact absurd (Nat.lt_of_lt_of_le (Heap.lt_size (I.pin p hp).1) (by rw [z]; exact hb)) (Nat.lt_irrefl _)
structure Turn (P : Program) (w : World) (K : PySem.W.Frag) (tg : Expr) (J : It) (fp : List Addr) (it : Addr) (tn : Nat → Heap → Prop) : Prop where
  mem : it ∈ fp
  obj : ∀ i h, tn i h → ∀ b ∈ fp, ∃ o, h.get? b = some o ∧ ∀ v, o.data ≠ .cell v
  keep : ∀ i h h', tn i h → (∀ b ∈ fp, ∀ o, h.get? b = some o → h'.get? b = some o) → tn i h'
  item : ∀ (X : Cx), X.prog = P → X.w = w → X.K = K → X.calm = true → ∀ (i : Nat) (pins : List (Addr × Obj)) (s : Shared) (σ : St) (H : Hp) (E : Value → Shared → Prop), Inv X pins σ H s → (∀ b ∈ fp, FpOk X pins H b) → tn i s.heap → J.go i H →
    wpAny (model P w) X.A (pyNext (.ref it)) (fun r s1 => ∃ u, r = some u ∧
      wpAny (model P w) X.A (letOwnedTupleGo tg (.ref it) u) (fun _ s2 => ∃ x H', Inv X pins σ H' s2 ∧ RelV x u ∧ J.yld i H x H' ∧ tn (i + 1) s2.heap ∧ ∀ b ∈ fp, H' b = none) E s1) E s
  done : ∀ (X : Cx), X.prog = P → X.w = w → X.K = K → X.calm = true → ∀ (i : Nat) (pins : List (Addr × Obj)) (s : Shared) (σ : St) (H : Hp) (E : Value → Shared → Prop), Inv X pins σ H s → (∀ b ∈ fp, FpOk X pins H b) → tn i s.heap → J.stop i H →
    wpAny (model P w) X.A (pyNext (.ref it)) (fun r s1 => r = none ∧ Inv X pins σ H s1) E s
  self : ∀ (A : Around) (i : Nat) (s : Shared) (Q : Value → Shared → Prop) (E : Value → Shared → Prop), tn i s.heap → Q (.ref it) s → wpAny (model P w) A (pyIter (.ref it)) Q E s
abbrev TI := St → Hp → (It → Hp → Prop) → Prop
/-- an iterator has come -/
def PIE (X : Cx) (pins : List (Addr × Obj)) (σ : St) (tg : Expr) (R : It → Hp → Prop) (itv : Value) (s2 : Shared) : Prop :=
  ∃ (it : Addr) (fp : List Addr) (tn : Nat → Heap → Prop) (J : It) (H' : Hp), itv = .ref it ∧ Inv X pins σ H' s2 ∧ Turn X.prog X.w X.K tg J fp it tn ∧ tn 0 s2.heap ∧ (∀ b ∈ fp, FpOk X pins H' b) ∧ R J H'
def PI (X : Cx) (tg iter : Expr) (wi : TI) : Prop :=
  ∀ (pins : List (Addr × Obj)) (s : Shared) (σ : St) (H : Hp) (R : It → Hp → Prop), Inv X pins σ H s → wi σ H R →
    wpAny (model X.prog X.w) X.A (eval iter X.env) (fun v s1 => wpAny (model X.prog X.w) X.A (pyIter v) (PIE X pins σ tg R) X.xe s1) X.xe s

/-- the step ahead of the store is nothing for an iterator that keeps no tuple -/
theorem go_of {M : Model} {A : Around} {E : Value → Shared → Prop} {s : Shared} {tg : Expr} {it : Addr} {u : Value} {o : Obj} {n : String} {vs : Array Value} {Q : Unit → Shared → Prop} (ho : s.heap.get? it = some o) (hc : o.cls = .type n) (hd : o.data = .fields vs)
    (hn : ["enumerate", "zip", "dict_itemiterator", "dict_reverseitemiterator", "odict_iterator", "itertools.zip_longest", "itertools.pairwise"].contains n = false) (hQ : Q () s) : wpAny M A (letOwnedTupleGo tg (.ref it) u) Q E s := by
  unfold letOwnedTupleGo
  cases tg <;> first
    | exact wpAny_pure hQ
    | (cases u <;> first
        | exact wpAny_pure hQ
        | (refine wpAny_bind (wpAny_load ho ?_)
           rw [hc, hd]
           show wpAny M A (if (["enumerate", "zip", "dict_itemiterator", "dict_reverseitemiterator", "odict_iterator", "itertools.zip_longest", "itertools.pairwise"].contains n && vs[0]? == some (rawInt _)) = true then _ else _) Q E s
           rw [if_neg (by intro h; rw [hn, Bool.false_and] at h; cases h)]
           exact wpAny_pure hQ))

/-- the list at a, as it stands at each turn (a loop may append to it) -/
def Itl (K : PySem.W.Frag) (a : Addr) : It :=
  ⟨fun i H => ∃ xs x, SqL K H a xs ∧ xs[i]? = some x, fun i H x H' => H' = H ∧ ∀ xs, SqL K H a xs → xs[i]? = some x, fun i H => ∃ xs, SqL K H a xs ∧ xs.length ≤ i⟩
def Itt (K : PySem.W.Frag) (a : Addr) : It :=
  ⟨fun i H => ∃ xs x, SqT K H a xs ∧ xs[i]? = some x, fun i H x H' => H' = H ∧ ∀ xs, SqT K H a xs → xs[i]? = some x, fun i H => ∃ xs, SqT K H a xs ∧ xs.length ≤ i⟩
/-- lo, lo + 1, .. (n of them) -/
def Itr (lo : Int) (n : Nat) : It := ⟨fun i _ => i < n, fun i H x H' => H' = H ∧ x = .int (lo + i), fun i _ => n ≤ i⟩
theorem turn_list {P : Program} {w : World} {K : PySem.W.Frag} {tg : Expr} (a it : Addr) : Turn P w K tg (Itl K a) [it] it (fun i h => h.IsListIter it a i) where
  mem := by simp
  obj := fun i h st b hb => by
    have e : b = it := by simpa using hb
    subst e
    obtain ⟨o, e, c, d⟩ := st
    exact ⟨o, e, fun v z => by rw [d] at z; cases z⟩
  keep := fun i h h' st k => st.at fun o e => k it (by simp) o e
  item := by
    intro X hP hw hK hc i pins s σ H E I hf st hg
    subst hP hw hK
    obtain ⟨xs, x, hq, hx⟩ := hg
    obtain ⟨its, rv, p, hz⟩ := I.list hq
    obtain ⟨u, hu, ru⟩ := rv.get hx
    obtain ⟨f0, f1, f2, f3, f4, f5⟩ := hf it (by simp)
    refine wpAny_pyNext_list_item st p.isList (x := u) (by simpa using hu) fun h' st' sb => ?_
    have I1 : Inv X pins σ H { s with heap := h' } := I.turned (t' := s.toks) (fun b o hb e => (sb.2 b hb).trans e) f0 f1 f3 f4 f5
    obtain ⟨o, e, c, d⟩ := id st'
    exact ⟨u, rfl, go_of (s := { s with heap := h' }) e c d (by decide) ⟨x, H, I1, ru, ⟨rfl, fun ys hy => by rw [I.list_inj hy hq]; exact hx⟩, st', fun b hb => (hf b hb).1⟩⟩
  done := by
    intro X hP hw hK hc i pins s σ H E I hf st hg
    subst hP hw hK
    obtain ⟨xs, hq, hx⟩ := hg
    obtain ⟨its, rv, p, hz⟩ := I.list hq
    obtain ⟨f0, f1, f2, f3, f4, f5⟩ := hf it (by simp)
    have hl := rv.length
    exact wpAny_pyNext_list_end (I.ok.hd hc) st p.isList (by simp; omega) fun h' eb => ⟨rfl, I.turned (t' := s.toks) (fun b o hb e => eb b o hb e) f0 f1 f3 f4 f5⟩
  self := fun _ _ _ _ _ st h => wpAny_pyIter_listiter st h
theorem turn_tuple {P : Program} {w : World} {K : PySem.W.Frag} {tg : Expr} (a it : Addr) : Turn P w K tg (Itt K a) [it] it (fun i h => h.IsTupleIter it a i) where
  mem := by simp
  obj := fun i h st b hb => by
    have e : b = it := by simpa using hb
    subst e
    obtain ⟨o, e, c, d⟩ := st
    exact ⟨o, e, fun v z => by rw [d] at z; cases z⟩
  keep := fun i h h' st k => st.at fun o e => k it (by simp) o e
  item := by
    intro X hP hw hK hc i pins s σ H E I hf st hg
    subst hP hw hK
    obtain ⟨xs, x, hq, hx⟩ := hg
    obtain ⟨its, rv, p, hz⟩ := I.tuple hq
    obtain ⟨u, hu, ru⟩ := rv.get hx
    obtain ⟨f0, f1, f2, f3, f4, f5⟩ := hf it (by simp)
    refine wpAny_pyNext_tuple_item st (show s.heap.IsTuple a its.toArray from p) (x := u) (by simpa using hu) fun h' st' sb => ?_
    have I1 : Inv X pins σ H { s with heap := h' } := I.turned (t' := s.toks) (fun b o hb e => (sb.2 b hb).trans e) f0 f1 f3 f4 f5
    obtain ⟨o, e, c, d⟩ := id st'
    exact ⟨u, rfl, go_of (s := { s with heap := h' }) e c d (by decide) ⟨x, H, I1, ru, ⟨rfl, fun ys hy => by rw [I.tuple_inj hy hq]; exact hx⟩, st', fun b hb => (hf b hb).1⟩⟩
  done := by
    intro X hP hw hK hc i pins s σ H E I hf st hg
    subst hP hw hK
    obtain ⟨xs, hq, hx⟩ := hg
    obtain ⟨its, rv, p, hz⟩ := I.tuple hq
    obtain ⟨f0, f1, f2, f3, f4, f5⟩ := hf it (by simp)
    have hl := rv.length
    exact wpAny_pyNext_tuple_end (I.ok.hd hc) st (show s.heap.IsTuple a its.toArray from p) (by simp; omega) fun h' eb => ⟨rfl, I.turned (t' := s.toks) (fun b o hb e => eb b o hb e) f0 f1 f3 f4 f5⟩
  self := fun _ _ _ _ _ st h => wpAny_pyIter_tupleiter st h
theorem turn_range {P : Program} {w : World} {K : PySem.W.Frag} {tg : Expr} (it : Addr) (lo : Int) (n : Nat) : Turn P w K tg (Itr lo n) [it] it (fun i h => IsRangeIter h it (lo + (i : Nat) * 1) ((n : Int) - (i : Nat)) 1) where
  mem := by simp
  obj := fun i h st b hb => by
    have e : b = it := by simpa using hb
    subst e
    exact ⟨_, st, fun v z => by
      have z' : Data.fields _ = Data.cell v := z
      cases z'⟩
  keep := fun i h h' st k => k it (by simp) _ st
  item := by
    intro X hP hw hK hc i pins s σ H E I hf st hg
    subst hP hw hK
    obtain ⟨f0, f1, f2, f3, f4, f5⟩ := hf it (by simp)
    have W := Walks.range (prog := X.prog) (w := X.w) (I.ok.hd hc) it lo 1 n
    refine W.item i s _ _ hg st fun v h' tk hv st' kk => ?_
    obtain ⟨t, rfl⟩ := hv
    have I1 : Inv X pins σ H { s with heap := h', toks := tk } := I.turned (fun b o hb e => kk b o (by simpa using hb) e) f0 f1 f3 f4 f5
    refine ⟨_, rfl, go_of (s := { s with heap := h', toks := tk }) (n := "range_iterator") st' rfl rfl (by decide) ⟨.int (lo + i), H, I1, ⟨t, ?_⟩, ⟨rfl, rfl⟩, st', fun b hb => (hf b hb).1⟩⟩
    rw [Int.mul_one]
  done := by
    intro X hP hw hK hc i pins s σ H E I hf st hg
    subst hP hw hK
    obtain ⟨f0, f1, f2, f3, f4, f5⟩ := hf it (by simp)
    exact wpAny_pyNext_range_end (I.ok.hd hc) st (by have : n ≤ i := hg; omega) fun h' eb => ⟨rfl, I.turned (t' := s.toks) (fun b o hb e => eb b o hb e) f0 f1 f3 f4 f5⟩
  self := fun _ _ _ _ _ st h => wpAny_pyIter_rangeiter st h
end L2

namespace L2
open PySem PySem.Spec PyProof.Rows
section
variable {X : Cx} {tg : Expr}
def iList (K : PySem.W.Frag) (tl : TE) : TI := fun σ H R => tl σ H fun x H1 => ∃ a, x = .ref a ∧ (∃ xs, SqL K H1 a xs) ∧ R (Itl K a) H1
def iTup (K : PySem.W.Frag) (tl : TE) : TI := fun σ H R => tl σ H fun x H1 => ∃ a, x = .ref a ∧ (∃ xs, SqT K H1 a xs) ∧ R (Itt K a) H1
theorem pi_list {l : Expr} {tl : TE} (hl : PE X l tl) : PI X tg l (iList X.K tl) := by
  intro pins s σ H R I h
  refine thn (hl pins s σ H _ I h) fun v s1 ⟨x, H1, I1, r1, q1⟩ => ?_
  obtain ⟨a, e, ⟨xs, hq⟩, q⟩ := q1
  subst e
  cases r1
  obtain ⟨its, rv, p, hz⟩ := I1.list hq
  refine wpAny_pyIter_list p.isList ?_
  refine ⟨s1.heap.objs.size, [s1.heap.objs.size], _, _, H1, rfl, I1.kept (t' := s1.toks) fun b o e => Heap.get?_push_of_some _ e, turn_list a _, ⟨_, Heap.get?_push_size _ rfl, rfl, rfl⟩, fun b hb => ?_, q⟩
  have e : b = s1.heap.objs.size := by simpa using hb
  subst e
  exact I1.fpOk (Nat.le_refl _) (I1.hok.fresh (Nat.le_refl _))
theorem pi_tup {l : Expr} {tl : TE} (hl : PE X l tl) : PI X tg l (iTup X.K tl) := by
  intro pins s σ H R I h
  refine thn (hl pins s σ H _ I h) fun v s1 ⟨x, H1, I1, r1, q1⟩ => ?_
  obtain ⟨a, e, ⟨xs, hq⟩, q⟩ := q1
  subst e
  cases r1
  obtain ⟨its, rv, p, hz⟩ := I1.tuple hq
  refine wpAny_pyIter_tuple (show s1.heap.IsTuple a its.toArray from p) ?_
  refine ⟨s1.heap.objs.size, [s1.heap.objs.size], _, _, H1, rfl, I1.kept (t' := s1.toks) fun b o e => Heap.get?_push_of_some _ e, turn_tuple a _, ⟨_, Heap.get?_push_size _ rfl, rfl, rfl⟩, fun b hb => ?_, q⟩
  have e : b = s1.heap.objs.size := by simpa using hb
  subst e
  exact I1.fpOk (Nat.le_refl _) (I1.hok.fresh (Nat.le_refl _))
/-- a range object just made, walked -/
theorem range_it {pins : List (Addr × Obj)} {σ : St} {H : Hp} {s : Shared} {R : It → Hp → Prop} {E : Value → Shared → Prop} {lo hi : Int} {t u v : Tok} {tk : Nat} (I : Inv X pins σ H s) (h1 : -(2 ^ 62) ≤ lo) (h2 : lo < 2 ^ 62) (h3 : -(2 ^ 62) ≤ hi) (h4 : hi < 2 ^ 62)
    (q : R (Itr lo (hi - lo).toNat) H) : wpAny (model X.prog X.w) X.A (pyIter (.ref s.heap.objs.size)) (PIE X pins σ tg R) E { s with heap := s.heap.push { cls := .type "range", data := .fields #[.int lo t, .int hi u, .int 1 v] }, toks := tk } := by
  refine wpAny_pyIter_range (IsRange.new ..) (small_one h1 h2 h3 h4) ?_
  have I1 : Inv X pins σ H { s with heap := s.heap.push { cls := .type "range", data := .fields #[.int lo t, .int hi u, .int 1 v] }, toks := tk } := I.kept fun b o e => Heap.get?_push_of_some _ e
  refine ⟨(s.heap.push { cls := .type "range", data := .fields #[.int lo t, .int hi u, .int 1 v] }).objs.size, [(s.heap.push { cls := .type "range", data := .fields #[.int lo t, .int hi u, .int 1 v] }).objs.size], _, _, H, rfl,
    I1.kept (t' := tk) fun b o e => Heap.get?_push_of_some _ e, turn_range _ lo (hi - lo).toNat, ?_, fun b hb => ?_, q⟩
  · have e1 : lo + ((0 : Nat) : Int) * 1 = lo := by simp
    have e2 : (((hi - lo).toNat : Nat) : Int) - ((0 : Nat) : Int) = Builtin.Range.rangeSize lo hi 1 := by rw [rangeSize_one]; split <;> omega
    show IsRangeIter _ _ (lo + ((0 : Nat) : Int) * 1) ((((hi - lo).toNat : Nat) : Int) - ((0 : Nat) : Int)) 1
    rw [e1, e2]
    exact Heap.get?_push_size _ rfl
  · have e : b = (s.heap.push { cls := .type "range", data := .fields #[.int lo t, .int hi u, .int 1 v] }).objs.size := by simpa using hb
    subst e
    exact I1.fpOk (Nat.le_refl _) (I1.hok.fresh (Nat.le_refl _))
def iRng1 (ta : TA) : TI := fun σ H R => ta σ H fun vs H1 => ∃ j : Int, vs = [.int j] ∧ -(2 ^ 62) ≤ j ∧ j < 2 ^ 62 ∧ R (Itr 0 j.toNat) H1
theorem pi_range1 {a : Expr} {ta : TA} {p pos : Pos} (hg : Gl X "range") (hm : X.mg "range" = none) (ha : PA X [a] ta) (hs : starEach [a] X.env = [(false, eval a X.env)] := by rfl) : PI X tg (.Call (.Name "range" p) [a] [] pos) (iRng1 ta) := by
  intro pins s σ H R I h
  refine Call_ (ld_blt I hg hm boot_range (PyProof.Rows.callWith_type1 (thn (ha pos pins s σ H _ I h) fun us s1 ⟨vs, H1, I1, r1, q1⟩ => ?_) hs rfl))
  obtain ⟨j, e, q1, q2, q⟩ := q1
  subst e
  cases r1 with
  | cons r rr =>
    cases rr
    obtain ⟨t, rfl⟩ := r
    exact call_range_1 (range_it I1 (by omega) (by omega) q1 q2 (by simpa using q))

/-! ### for -/
/-- W: the invariant by the turn and a measure; N: what the body is to reach -/
def tFor (wi : TI) (g : TG) (tb : TS) : TS := fun D σ H => wi σ H fun J H1 => ∃ W : Nat → Nat → St → Hp → Prop, (∃ m, W 0 m σ H1) ∧ ∀ i m σ H, W i m σ H →
  (J.stop i H ∧ D.nx σ H) ∨ (J.go i H ∧ ∃ N : St → Hp → Prop, (∀ σ' H', N σ' H' → ∃ m', m' < m ∧ W (i + 1) m' σ' H') ∧ ∀ x H', J.yld i H x H' → g x σ H' fun σ2 H2 => tb { D with nx := N, ct := N, bk := D.nx } σ2 H2)
/-- the records at fp as they stand -/
def pinsAt (fp : List Addr) (h : Heap) : List (Addr × Obj) := fp.filterMap fun b => (h.get? b).map fun o => (b, o)
theorem mem_pinsAt {fp : List Addr} {h : Heap} {b : Addr} {o : Obj} (hb : b ∈ fp) (e : h.get? b = some o) : (b, o) ∈ pinsAt fp h := List.mem_filterMap.mpr ⟨b, hb, by rw [e]; rfl⟩
theorem of_pinsAt {fp : List Addr} {h : Heap} {p : Addr × Obj} (hp : p ∈ pinsAt fp h) : p.1 ∈ fp ∧ h.get? p.1 = some p.2 := by
  obtain ⟨b, hb, e⟩ := List.mem_filterMap.mp hp
  cases q : h.get? b with
  | none => rw [q] at e; cases e
  | some o =>
    rw [q] at e
    have e' : (b, o) = p := Option.some.inj e
    subst e'
    exact ⟨hb, q⟩
theorem Inv.pinned {pins : List (Addr × Obj)} {σ : St} {H : Hp} {s : Shared} {fp : List Addr} (I : Inv X pins σ H s) (hf : ∀ b ∈ fp, FpOk X pins H b) (ho : ∀ b ∈ fp, ∃ o, s.heap.get? b = some o ∧ ∀ v, o.data ≠ .cell v) : Inv X (pins ++ pinsAt fp s.heap) σ H s :=
  I.pins_of fun p hp => (List.mem_append.mp hp).elim (fun z => I.pin p (List.mem_append_right _ z)) fun z => by
    obtain ⟨hb, e⟩ := of_pinsAt z
    obtain ⟨f0, f1, f2, _⟩ := hf p.1 hb
    obtain ⟨o, e', d⟩ := ho p.1 hb
    rw [e] at e'; cases e'
    exact ⟨e, f0, f1, f2, d⟩
theorem Inv.unpinned {pins pl : List (Addr × Obj)} {σ : St} {H : Hp} {s : Shared} (I : Inv X (pins ++ pl) σ H s) : Inv X pins σ H s := I.pins_of fun p hp => I.pin p (List.mem_append_right _ (List.mem_append_left _ hp))
theorem ps_for {iter : Expr} {body : List Stmt} {wi : TI} {g : TG} {tb : TS} {pos : Pos} (hp : PassesOwn (model X.prog X.w) X.A X.env X.xe) (hc : X.calm = true) (hi : PI X tg iter wi) (hg : PG X tg g) (hb : PSs X body tb)
    (hs : ∀ x, foldedSetIterable iter X.env x = pure x := by intro _; rfl) : PS X (.For tg iter body [] pos) (tFor wi g tb) := by
  intro pins s σ H D I h
  refine wpAny_For (thn (hi pins s σ H _ I h) fun v s1 h1 => thn h1 fun itv s2 h2 => ?_) hs
  obtain ⟨it, fp, tn, J, H2, e, I2, T, st2, f2, W, ⟨m0, w0⟩, turn⟩ := h2
  subst e
  -- what stays true of the iterator's objects through the loop
  have stat : ∀ {H' : Hp}, (∀ b ∈ fp, H' b = none) → ∀ b ∈ fp, FpOk X pins H' b := fun hn b hb => ⟨hn b hb, (f2 b hb).2⟩
  refine codeAny_forLoop_any (fun n s' => ∃ i σ' H', Inv X pins σ' H' s' ∧ tn i s'.heap ∧ (∀ b ∈ fp, H' b = none) ∧ W i n σ' H') ?_ m0 ⟨0, σ, H2, I2, st2, fun b hb => (f2 b hb).1, w0⟩
  rintro n s3 ⟨i, σ3, H3, I3, st3, fr3, w3⟩
  rcases turn i n σ3 H3 w3 with ⟨stop, qn⟩ | ⟨go, N, hN, step⟩
  · refine wpAny_passesOwn hp (thn (T.done X rfl rfl rfl hc i pins s3 σ3 H3 X.xe I3 (stat fr3) st3 stop) fun r s4 ⟨hr, I4⟩ => ?_)
    subst hr
    exact wpAny_execs_nil ⟨σ3, H3, I4, qn⟩
  · refine wpAny_passesOwn hp (thn (T.item X rfl rfl rfl hc i pins s3 σ3 H3 X.xe I3 (stat fr3) st3 go) fun r s4 ⟨u, hr, h4⟩ => ?_)
    subst hr
    refine wpAny_passesOwn hp (thn h4 fun _ s5 ⟨x, H5, I5, r5, y5, st5, fr5⟩ => ?_)
    have I5' := I5.pinned (stat fr5) (T.obj _ _ st5)
    refine wpAny_passesOwn hp (thn (hg _ s5 σ3 H5 x u _ I5' r5 (step x H5 y5)) fun _ s6 ⟨σ6, H6, I6, q6⟩ => ?_)
    refine wpAny_passesOwn hp (thn (hb _ s6 σ6 H6 _ I6 q6) fun f s7 q7 => ?_)
    have again : ∀ {σ7 : St} {H7 : Hp}, Inv X (pins ++ pinsAt fp s5.heap) σ7 H7 s7 → N σ7 H7 → ∃ m, m < n ∧ ∃ i σ' H', Inv X pins σ' H' s7 ∧ tn i s7.heap ∧ (∀ b ∈ fp, H' b = none) ∧ W i m σ' H' := fun {σ7 H7} I7 n7 => by
      obtain ⟨m', hm, w7⟩ := hN σ7 H7 n7
      refine ⟨m', hm, i + 1, σ7, H7, I7.unpinned, T.keep _ _ _ st5 fun b hb o e => (I7.pin (b, o) (List.mem_append_right _ (List.mem_append_right _ (mem_pinsAt hb e)))).1, fun b hb => ?_, w7⟩
      obtain ⟨o, e, d⟩ := T.obj _ _ st5 b hb
      exact (I7.pin (b, o) (List.mem_append_right _ (List.mem_append_right _ (mem_pinsAt hb e)))).2.1
    cases f with
    | next => obtain ⟨σ7, H7, I7, n7⟩ := q7; exact again I7 n7
    | cont => obtain ⟨σ7, H7, I7, n7⟩ := q7; exact again I7 n7
    | brk => obtain ⟨σ7, H7, I7, q7⟩ := q7; exact ⟨σ7, H7, I7.unpinned, q7⟩
    | ret v => obtain ⟨x7, σ7, H7, I7, r7, q7⟩ := q7; exact ⟨x7, σ7, H7, I7.unpinned, r7, q7⟩
end

/-! ### the forms one uses -/
theorem for_tup {K : PySem.W.Frag} {a : Addr} {xs : List V} {g : TG} {tb : TS} {D : Ends} {σ : St} {H : Hp} (Pv : Nat → St → Hp → Prop) (h0 : Pv 0 σ H) (hl : ∀ i σ H, i ≤ xs.length → Pv i σ H → SqT K H a xs)
    (hs : ∀ i x σ H, xs[i]? = some x → Pv i σ H → g x σ H fun σ2 H2 => tb { D with nx := Pv (i + 1), ct := Pv (i + 1), bk := D.nx } σ2 H2) (hd : ∀ σ H, Pv xs.length σ H → D.nx σ H) :
    ∃ W : Nat → Nat → St → Hp → Prop, (∃ m, W 0 m σ H) ∧ ∀ i m σ H, W i m σ H →
      ((Itt K a).stop i H ∧ D.nx σ H) ∨ ((Itt K a).go i H ∧ ∃ N : St → Hp → Prop, (∀ σ' H', N σ' H' → ∃ m', m' < m ∧ W (i + 1) m' σ' H') ∧ ∀ x H', (Itt K a).yld i H x H' → g x σ H' fun σ2 H2 => tb { D with nx := N, ct := N, bk := D.nx } σ2 H2) := by
  refine ⟨fun i m σ H => m = xs.length - i ∧ i ≤ xs.length ∧ Pv i σ H, ⟨xs.length, by simp, Nat.zero_le _, h0⟩, ?_⟩
  rintro i m σ H ⟨rfl, hi, p⟩
  have q := hl i σ H hi p
  by_cases hlt : i < xs.length
  · refine .inr ⟨⟨xs, xs[i], q, by simp [hlt]⟩, Pv (i + 1), fun σ' H' p' => ⟨xs.length - (i + 1), by omega, rfl, hlt, p'⟩, fun x H' y => ?_⟩
    obtain ⟨e, y⟩ := y
    subst e
    exact hs i x σ _ (y xs q) p
  · have e : i = xs.length := by omega
    subst e
    exact .inl ⟨⟨xs, q, Nat.le_refl _⟩, hd σ H p⟩
theorem for_range {lo : Int} {n : Nat} {g : TG} {tb : TS} {D : Ends} {σ : St} {H : Hp} (Pv : Nat → St → Hp → Prop) (h0 : Pv 0 σ H)
    (hs : ∀ i σ H, i < n → Pv i σ H → g (.int (lo + i)) σ H fun σ2 H2 => tb { D with nx := Pv (i + 1), ct := Pv (i + 1), bk := D.nx } σ2 H2) (hd : ∀ σ H, Pv n σ H → D.nx σ H) :
    ∃ W : Nat → Nat → St → Hp → Prop, (∃ m, W 0 m σ H) ∧ ∀ i m σ H, W i m σ H →
      ((Itr lo n).stop i H ∧ D.nx σ H) ∨ ((Itr lo n).go i H ∧ ∃ N : St → Hp → Prop, (∀ σ' H', N σ' H' → ∃ m', m' < m ∧ W (i + 1) m' σ' H') ∧ ∀ x H', (Itr lo n).yld i H x H' → g x σ H' fun σ2 H2 => tb { D with nx := N, ct := N, bk := D.nx } σ2 H2) := by
  refine ⟨fun i m σ H => m = n - i ∧ i ≤ n ∧ Pv i σ H, ⟨n, by simp, Nat.zero_le _, h0⟩, ?_⟩
  rintro i m σ H ⟨rfl, hi, p⟩
  by_cases hlt : i < n
  · refine .inr ⟨hlt, Pv (i + 1), fun σ' H' p' => ⟨n - (i + 1), by omega, rfl, hlt, p'⟩, fun x H' y => ?_⟩
    obtain ⟨e, y⟩ := y
    subst e y
    exact hs i σ _ hlt p
  · have e : i = n := by omega
    subst e
    exact .inl ⟨Nat.le_refl _, hd σ H p⟩
end L2

namespace L2
open PySem PySem.Spec PyProof.Rows

abbrev R2 := V → V → Hp → VK → Prop
/-- a two-place operation on values: f is binaryOp op, inplaceOp op or compareOp op -/
def OpR (X : Cx) (f : Value → Value → Sem Value) (r : R2) : Prop :=
  ∀ (pins : List (Addr × Obj)) (s : Shared) (σ : St) (H : Hp) (x y : V) (v u : Value) (Q : VK), Inv X pins σ H s → RelV x v → RelV y u → r x y H Q →
    wpAny (model X.prog X.w) X.A (f v u) (EP X pins σ Q) X.xe s
/-- a call of a value that is known (a builtin, a type) with values -/
def CallR (X : Cx) (f : Value) (r : List V → Hp → VK → Prop) : Prop :=
  ∀ (pins : List (Addr × Obj)) (s : Shared) (σ : St) (H : Hp) (xs : List V) (us : List Value) (Q : VK), Inv X pins σ H s → Vals xs us → r xs H Q →
    wpAny (model X.prog X.w) X.A (call f us) (EP X pins σ Q) X.xe s

def tOp (r : R2) (ta tb : TE) : TE := fun σ H Q => ta σ H fun x H1 => tb σ H1 fun y H2 => r x y H2 Q
/-- ints in, under C, and a value out -/
def rI (C : Int → Int → Prop) (g : Int → Int → V) : R2 := fun x y H Q => ∃ i j, x = .int i ∧ y = .int j ∧ C i j ∧ Q (g i j) H
def rI0 (g : Int → Int → V) : R2 := fun x y H Q => ∃ i j, x = .int i ∧ y = .int j ∧ Q (g i j) H

section
variable {X : Cx} {a b c : Expr} {ta tb tc : TE} {pos : Pos}

theorem binT (ha : PE X a ta) (hb : PE X b tb) {pins : List (Addr × Obj)} {s : Shared} {σ : St} {H : Hp} {R : V → V → Hp → Prop} (I : Inv X pins σ H s)
    (h : ta σ H fun x H1 => tb σ H1 fun y H2 => R x y H2) {Q : Value → Shared → Prop} {f : Value → Value → Sem Value}
    (hf : ∀ v u s2 x y H2, Inv X pins σ H2 s2 → RelV x v → RelV y u → R x y H2 → wpAny (model X.prog X.w) X.A (f v u) Q X.xe s2) :
    wpAny (model X.prog X.w) X.A (eval a X.env) (fun v s₁ => wpAny (model X.prog X.w) X.A (eval b X.env) (fun u s₂ => wpAny (model X.prog X.w) X.A (f v u) Q X.xe s₂) X.xe s₁) X.xe s := by
  refine thn (ha pins s σ H _ I h) fun v s1 ⟨x, H1, I1, r1, q1⟩ => ?_
  refine thn (hb pins s1 σ H1 _ I1 q1) fun u s2 ⟨y, H2, I2, r2, q2⟩ => ?_
  exact hf v u s2 x y H2 I2 r1 r2 q2

theorem pe_op {op : Operator} {r : R2} (ho : OpR X (binaryOp op) r) (ha : PE X a ta) (hb : PE X b tb) : PE X (.BinOp a op b pos) (tOp r ta tb) := by
  intro pins s σ H Q I h
  exact wpAny_BinOp (binT ha hb I h fun v u s2 x y H2 I2 rx ry q => ho pins s2 σ H2 x y v u Q I2 rx ry q)

/-! ### ints -/
theorem opI {f : Value → Value → Sem Value} {C : Int → Int → Prop} {g : Int → Int → Int}
    (rule : ∀ (i j : Int) (t u : Tok) (s : Shared) (Q : Value → Shared → Prop) (E : Value → Shared → Prop), C i j → Q (.int (g i j) s.toks) { s with toks := s.toks + 1 } → wpAny (model X.prog X.w) X.A (f (.int i t) (.int j u)) Q E s) :
    OpR X f (rI C fun i j => .int (g i j)) := by
  intro pins s σ H x y v u Q I rx ry h
  obtain ⟨i, j, rfl, rfl, hc, q⟩ := h
  obtain ⟨t, rfl⟩ := rx
  obtain ⟨t', rfl⟩ := ry
  exact rule i j t t' s _ _ hc ⟨.int (g i j), H, I.tok _, ⟨_, rfl⟩, q⟩
theorem opI0 {f : Value → Value → Sem Value} {g : Int → Int → Int}
    (rule : ∀ (i j : Int) (t u : Tok) (s : Shared) (Q : Value → Shared → Prop) (E : Value → Shared → Prop), Q (.int (g i j) s.toks) { s with toks := s.toks + 1 } → wpAny (model X.prog X.w) X.A (f (.int i t) (.int j u)) Q E s) :
    OpR X f (rI0 fun i j => .int (g i j)) := by
  intro pins s σ H x y v u Q I rx ry h
  obtain ⟨i, j, rfl, rfl, q⟩ := h
  obtain ⟨t, rfl⟩ := rx
  obtain ⟨t', rfl⟩ := ry
  exact rule i j t t' s _ _ ⟨.int (g i j), H, I.tok _, ⟨_, rfl⟩, q⟩
theorem opB0 {f : Value → Value → Sem Value} {g : Int → Int → Bool}
    (rule : ∀ (i j : Int) (t u : Tok) (s : Shared) (Q : Value → Shared → Prop) (E : Value → Shared → Prop), Q (.bool (g i j)) s → wpAny (model X.prog X.w) X.A (f (.int i t) (.int j u)) Q E s) :
    OpR X f (rI0 fun i j => .bl (g i j)) := by
  intro pins s σ H x y v u Q I rx ry h
  obtain ⟨i, j, rfl, rfl, q⟩ := h
  obtain ⟨t, rfl⟩ := rx
  obtain ⟨t', rfl⟩ := ry
  exact rule i j t t' s _ _ ⟨.bl (g i j), H, I, rfl, q⟩

def CDiv (i j : Int) : Prop := 0 < j ∧ j < 1073741824
def CPow (i j : Int) : Prop := 0 ≤ j ∧ j ≤ 1000000 ∧ i.natAbs < 2 ^ 64
def CMul (i j : Int) : Prop := (-(2 ^ 64) < i ∧ i < 2 ^ 64) ∨ (-(2 ^ 64) < j ∧ j < 2 ^ 64)
theorem CMul.ok {i j : Int} (h : CMul i j) : IntMulOk i j := by
  rcases h with ⟨h1, h2⟩ | ⟨h1, h2⟩
  · exact .of_left (intBits_le_64 h1 h2)
  · exact .of_right (intBits_le_64 h1 h2)

theorem op_add : OpR X (binaryOp .Add) (rI0 fun i j => .int (i + j)) := opI0 fun _ _ _ _ _ _ _ q => add_int q
theorem op_sub : OpR X (binaryOp .Sub) (rI0 fun i j => .int (i - j)) := opI0 fun _ _ _ _ _ _ _ q => sub_int q
theorem op_mul : OpR X (binaryOp .Mult) (rI CMul fun i j => .int (i * j)) := opI fun _ _ _ _ _ _ _ hc q => mul_int q hc.ok
/-- // by a positive divisor -/
theorem op_fdiv : OpR X (binaryOp .FloorDiv) (rI CDiv fun i j => .int (i / j)) := opI fun i j _ _ _ _ _ hc q => by
  have h1 : (0 : Int) < j := hc.1
  have h2 : j < 1073741824 := hc.2
  exact floordiv_int (by omega) (by rw [Int.fdiv_eq_ediv_of_nonneg i (by omega)]; exact q) (.inl (PyProof.noPylong_small (by omega)))
theorem op_shl : OpR X (binaryOp .LShift) (rI CPow fun i j => .int (i * 2 ^ j.toNat)) := opI fun _ _ _ _ _ _ _ hc q => lshift_int_small hc.1 hc.2.1 hc.2.2 q



/-! ### bools among ints: n += (a < b) -/
end

/-! ### comparisons -/
/-- the scalars that == tells apart as data does -/
def scal : V → V → Bool
  | .non, .non => true | .non, .int _ => true | .int _, .non => true | .non, .bl _ => true | .bl _, .non => true | .non, .str _ => true | .str _, .non => true
  | .int _, .int _ => true | .bl _, .bl _ => true | .str _, .str _ => true | .byt _, .byt _ => true
  | .int _, .str _ => true | .str _, .int _ => true | .bl _, .str _ => true | .str _, .bl _ => true
  | _, _ => false
def rEq : R2 := fun x y H Q => scal x y = true ∧ Q (.bl (decide (x = y))) H
def rNe : R2 := fun x y H Q => scal x y = true ∧ Q (.bl (!decide (x = y))) H

theorem dec_int {i j : Int} : decide (V.int i = V.int j) = (i == j) := by
  rw [Bool.eq_iff_iff]
  simp
theorem dec_bl {i j : Bool} : decide (V.bl i = V.bl j) = (i == j) := by
  rw [Bool.eq_iff_iff]
  simp
theorem dec_str {i j : Str} : decide (V.str i = V.str j) = (i == j) := by
  rw [Bool.eq_iff_iff]
  simp
theorem dec_byt {i j : Array UInt8} : decide (V.byt i = V.byt j) = (i.toList == j.toList) := by
  rw [Bool.eq_iff_iff]
  cases i
  cases j
  simp

section
variable {X : Cx} {a b c : Expr} {ta tb tc : TE} {pos : Pos}
theorem fin_bl {pins : List (Addr × Obj)} {σ : St} {H : Hp} {s : Shared} {Q : VK} {k k' : Bool} (I : Inv X pins σ H s) (q : Q (.bl k) H) (e : k = k') : EP X pins σ Q (.bool k') s := by
  subst e
  exact ⟨.bl k, H, I, rfl, q⟩
theorem op_eq : OpR X (compareOp .Eq) rEq := by
  intro pins s σ H x y v u Q I rx ry h
  obtain ⟨hs, q⟩ := h
  cases x with
  | non =>
    cases rx
    cases y with
    | non => cases ry; exact PySem.EqNone.eq_none_none (fin_bl I q (by simp))
    | bl j => cases ry; exact PySem.EqNone.eq_none_bool (fin_bl I q (by simp))
    | int j => obtain ⟨t', rfl⟩ := ry; exact PySem.EqNone.eq_none_int (fin_bl I q (by simp))
    | str j => obtain ⟨t', rfl⟩ := ry; exact PySem.EqNone.eq_none_str (fin_bl I q (by simp))
    | _ => exact absurd (show false = true from hs) Bool.false_ne_true
  | bl i =>
    cases rx
    cases y with
    | non => cases ry; exact PySem.EqNone.eq_bool_none (fin_bl I q (by simp))
    | bl j => cases ry; exact eq_bool (fin_bl I q dec_bl)
    | str j => obtain ⟨t', rfl⟩ := ry; exact PySem.EqMixed.eq_bool_str (fin_bl I q (by simp))
    | _ => exact absurd (show false = true from hs) Bool.false_ne_true
  | int i =>
    obtain ⟨t, rfl⟩ := rx
    cases y with
    | non => cases ry; exact PySem.EqNone.eq_int_none (fin_bl I q (by simp))
    | int j => obtain ⟨t', rfl⟩ := ry; exact eq_int (fin_bl I q dec_int)
    | str j => obtain ⟨t', rfl⟩ := ry; exact PySem.EqMixed.eq_int_str (fin_bl I q (by simp))
    | _ => exact absurd (show false = true from hs) Bool.false_ne_true
  | str i =>
    obtain ⟨t, rfl⟩ := rx
    cases y with
    | non => cases ry; exact PySem.EqNone.eq_str_none (fin_bl I q (by simp))
    | bl j => cases ry; exact PySem.EqMixed.eq_str_bool (fin_bl I q (by simp))
    | int j => obtain ⟨t', rfl⟩ := ry; exact PySem.EqMixed.eq_str_int (fin_bl I q (by simp))
    | str j => obtain ⟨t', rfl⟩ := ry; exact eq_str (fin_bl I q dec_str)
    | _ => exact absurd (show false = true from hs) Bool.false_ne_true
  | byt i =>
    obtain ⟨t, rfl⟩ := rx
    cases y with
    | byt j => obtain ⟨t', rfl⟩ := ry; exact PySem.W.eq_bytes (fin_bl I q dec_byt)
    | _ => exact absurd (show false = true from hs) Bool.false_ne_true
  | _ => cases y <;> exact absurd (show false = true from hs) Bool.false_ne_true
theorem op_ne : OpR X (compareOp .NotEq) rNe := by
  intro pins s σ H x y v u Q I rx ry h
  obtain ⟨hs, q⟩ := h
  cases x with
  | non =>
    cases rx
    cases y with
    | non => cases ry; exact PySem.EqNone.ne_none_none (fin_bl I q (by simp))
    | bl j => cases ry; exact PySem.EqNone.ne_none_bool (fin_bl I q (by simp))
    | int j => obtain ⟨t', rfl⟩ := ry; exact PySem.EqNone.ne_none_int (fin_bl I q (by simp))
    | str j => obtain ⟨t', rfl⟩ := ry; exact PySem.EqNone.ne_none_str (fin_bl I q (by simp))
    | _ => exact absurd (show false = true from hs) Bool.false_ne_true
  | bl i =>
    cases rx
    cases y with
    | non => cases ry; exact PySem.EqNone.ne_bool_none (fin_bl I q (by simp))
    | bl j => cases ry; exact ne_bool (fin_bl I q (congrArg not dec_bl))
    | str j => obtain ⟨t', rfl⟩ := ry; exact PySem.EqMixed.ne_bool_str (fin_bl I q (by simp))
    | _ => exact absurd (show false = true from hs) Bool.false_ne_true
  | int i =>
    obtain ⟨t, rfl⟩ := rx
    cases y with
    | non => cases ry; exact PySem.EqNone.ne_int_none (fin_bl I q (by simp))
    | int j => obtain ⟨t', rfl⟩ := ry; exact ne_int (fin_bl I q (congrArg not dec_int))
    | str j => obtain ⟨t', rfl⟩ := ry; exact PySem.EqMixed.ne_int_str (fin_bl I q (by simp))
    | _ => exact absurd (show false = true from hs) Bool.false_ne_true
  | str i =>
    obtain ⟨t, rfl⟩ := rx
    cases y with
    | non => cases ry; exact PySem.EqNone.ne_str_none (fin_bl I q (by simp))
    | bl j => cases ry; exact PySem.EqMixed.ne_str_bool (fin_bl I q (by simp))
    | int j => obtain ⟨t', rfl⟩ := ry; exact PySem.EqMixed.ne_str_int (fin_bl I q (by simp))
    | str j => obtain ⟨t', rfl⟩ := ry; exact ne_str (fin_bl I q (congrArg not dec_str))
    | _ => exact absurd (show false = true from hs) Bool.false_ne_true
  | byt i =>
    obtain ⟨t, rfl⟩ := rx
    cases y with
    | byt j => obtain ⟨t', rfl⟩ := ry; exact PySem.W.ne_bytes (fin_bl I q (congrArg not dec_byt))
    | _ => exact absurd (show false = true from hs) Bool.false_ne_true
  | _ => cases y <;> exact absurd (show false = true from hs) Bool.false_ne_true

theorem op_lt : OpR X (compareOp .Lt) (rI0 fun i j => .bl (decide (i < j))) := opB0 fun _ _ _ _ _ _ _ q => lt_int q
theorem op_le : OpR X (compareOp .LtE) (rI0 fun i j => .bl (decide (i ≤ j))) := opB0 fun _ _ _ _ _ _ _ q => le_int q
theorem op_gt : OpR X (compareOp .Gt) (rI0 fun i j => .bl (decide (j < i))) := opB0 fun _ _ _ _ _ _ _ q => gt_int q




theorem nomark (b : Expr) {op : CmpOp} (h : op ≠ .In := by decide) (h2 : op ≠ .NotIn := by decide) : behindInMarks op b = false := by
  have e1 : (op == CmpOp.In) = false := by cases op <;> first | rfl | exact absurd rfl h
  have e2 : (op == CmpOp.NotIn) = false := by cases op <;> first | rfl | exact absurd rfl h2
  cases b <;> simp [behindInMarks, e1, e2]
/-- a comparison as a value; hm: nomark b, or (for in, not in) by with_unfolding_all rfl -/
theorem pe_cmpR {op : CmpOp} {r : R2} (ho : OpR X (compareOp op) r) (ha : PE X a ta) (hb : PE X b tb) (hm : behindInMarks op b = false) : PE X (.Compare a [op] [b] pos) (tOp r ta tb) := by
  intro pins s σ H Q I h
  exact wpAny_Compare1 (binT ha hb I h fun v u s2 x y H2 I2 rx ry q => ho pins s2 σ H2 x y v u Q I2 rx ry q) hm
/-- a reading of a value as a test -/
def tTest (t : TE) : TT := fun σ H Q => t σ H fun x H' => ∃ k, x = .bl k ∧ Q k H'
theorem pt_cmpR {op : CmpOp} {r : R2} (ho : OpR X (compareOp op) r) (ha : PE X a ta) (hb : PE X b tb) (hm : behindInMarks op b = false) : PT X (.Compare a [op] [b] pos) (tTest (tOp r ta tb)) := by
  intro pins s σ H Q I h
  refine wpAny_isTrue_Compare1 (thn (ha pins s σ H _ I h) fun v s1 ⟨x, H1, I1, r1, q1⟩ => thn (hb pins s1 σ H1 _ I1 q1) fun u s2 ⟨y, H2, I2, r2, q2⟩ =>
    thn (ho pins s2 σ H2 x y v u _ I2 r1 r2 q2) fun c s3 ⟨z, H3, I3, r3, k, e, q3⟩ => ?_) hm
  subst e
  cases r3
  exact wpAny_truthy_bool ⟨H3, I3, q3⟩
/-- a op1 b op2 c -/
def tChain (r r' : R2) (ta tb tc : TE) : TE := fun σ H Q => ta σ H fun x H1 => tb σ H1 fun y H2 => r x y H2 fun z H3 => ∃ k, z = .bl k ∧
  (if k = true then tc σ H3 fun w' H4 => r' y w' H4 Q else Q (.bl false) H3)
theorem pt_chain {op op' : CmpOp} {r r' : R2} (ho : OpR X (compareOp op) r) (ho' : OpR X (compareOp op') r') (ha : PE X a ta) (hb : PE X b tb) (hc : PE X c tc)
    (hm : lastMarks [op, op'] [b, c] = false := by with_unfolding_all rfl) : PT X (.Compare a [op, op'] [b, c] pos) (tTest (tChain r r' ta tb tc)) := by
  intro pins s σ H Q I h
  refine isTrue_chain (thn (ha pins s σ H _ I h) fun v s1 ⟨x, H1, I1, r1, q1⟩ => test_link (thn (hb pins s1 σ H1 _ I1 q1) fun u s2 ⟨y, H2, I2, r2, q2⟩ =>
    thn (ho pins s2 σ H2 x y v u _ I2 r1 r2 q2) fun d s3 ⟨z, H3, I3, r3, k, e, q3⟩ => ?_)) hm
  subst e
  cases r3
  refine wpAny_truthy_bool ?_
  cases k with
  | false =>
    obtain ⟨k', e', q'⟩ := q3
    cases e'
    exact ite_ff ⟨H3, I3, q'⟩
  | true =>
    refine ite_tt (test_last (thn (hc pins s3 σ H3 _ I3 q3) fun w' s4 ⟨z', H4, I4, r4, q4⟩ => thn (ho' pins s4 σ H4 y z' u w' _ I4 r2 r4 q4) fun d' s5 ⟨z2, H5, I5, r5, k2, e2, q5⟩ => ?_))
    subst e2
    cases r5
    exact wpAny_truthy_bool ⟨H5, I5, q5⟩

/-! ### truth -/
theorem line63 : (sizeLine : Nat) < 2 ^ 63 := by rw [sizeLine_eq]; decide

/-! ### strs and bytes -/


/-! ### scalar builtins, by CallR -/
theorem vals1 {x : V} {us : List Value} (r : Vals [x] us) : ∃ u, us = [u] ∧ RelV x u := by
  cases r with
  | cons r1 r2 => cases r2; exact ⟨_, rfl, r1⟩
theorem vals2 {x y : V} {us : List Value} (r : Vals [x, y] us) : ∃ u w', us = [u, w'] ∧ RelV x u ∧ RelV y w' := by
  cases r with
  | cons r1 r2 =>
    cases r2 with
    | cons r3 r4 => cases r4; exact ⟨_, _, rfl, r1, r3⟩
theorem call_min2 (hc : X.calm = true) : CallR X (.builtin "min") (fun xs H Q => ∃ i j, xs = [.int i, .int j] ∧ Q (.int (if j < i then j else i)) H) := by
  intro pins s σ H xs us Q I r h
  obtain ⟨i, j, rfl, q⟩ := h
  obtain ⟨u, w', rfl, ⟨t, rfl⟩, ⟨t', rfl⟩⟩ := vals2 r
  refine min_two_ints (I.ok.hd hc) fun h' tk k => ⟨_, H, I.kept k, ?_, q⟩
  by_cases hj : j < i
  · rw [if_pos hj, if_pos hj]; exact ⟨_, rfl⟩
  · rw [if_neg hj, if_neg hj]; exact ⟨_, rfl⟩
end
end L2

namespace L2
open PySem PySem.Spec PyProof.Rows

/-! ### an instance, its attributes a map -/
structure ObjM (h : Heap) (x dx C : Addr) (mA : Str → Option Value) : Prop where
  obj : h.get? x = some (PySem.W.instObj C dx)
  ns : h.Ns1 dx mA
  ne : dx ≠ x

theorem lookIn_ns {h : Heap} {dx : Addr} {mA : Str → Option Value} (n : h.Ns1 dx mA) : ∃ od, h.get? dx = some od ∧ ∀ name, PySem.W.lookIn name od = some (mA name) := by
  obtain ⟨o, es, ep, ho, hd, hk, _, hm⟩ := n
  refine ⟨o, ho, fun name => ?_⟩
  have e := hm name
  unfold nsFind findBy at e
  rw [← Array.find?_toList] at e
  unfold PySem.W.lookIn
  rw [hd]
  dsimp only
  split
  · rename_i y q
    rw [q] at e
    exact congrArg some e
  · rename_i q
    rw [q] at e
    have a : es.toList.any (·.refKey) = false := by
      rw [List.any_eq_false]
      intro y hy
      obtain ⟨z, t, hkey⟩ := hk y (Array.mem_toList_iff.mp hy)
      simp [DictEntry.refKey, hkey]
    have a' : ¬ es.toList.any (·.refKey) = true := by rw [a]; exact Bool.false_ne_true
    rw [if_neg a']
    exact congrArg some e

theorem ObjM.look {h : Heap} {x dx C : Addr} {mA : Str → Option Value} (I : ObjM h x dx C mA) : ∃ od, PySem.W.InstAt h x (PySem.W.instObj C dx) C (some od) ∧ ∀ name, PySem.W.lookIn name od = some (mA name) :=
  let ⟨od, ho, hl⟩ := lookIn_ns I.ns
  ⟨od, ⟨I.obj, rfl, rfl, ho⟩, hl⟩

section
variable {prog : Program} {w : World} {A : Around} {E : Value → Shared → Prop} {s : Shared} {K : PySem.W.Frag} {x dx C f : Addr} {mA : Str → Option Value} {name : Str} {v : Value}

theorem get_map {expr : Bool} {Q : Value → Shared → Prop} (X : K.In s.heap) (I : ObjM s.heap x dx C mA) (hg : PySem.W.plainGet K C name = true) (hh : PySem.W.hasDictIn K C = true)
    (ha : PySem.W.findIn K (.ref C) name = some none) (hv : mA name = some v) (hv' : PySem.W.handedIn v = true) (h : Q v { s with toks := s.toks + 1 }) :
    wpAny (model prog w) A (getAttr (.ref x) name expr) Q E s := by
  obtain ⟨od, J, hl⟩ := I.look
  exact PySem.W.get_value X J (PySem.W.plainGet_of hg).1 (PySem.W.findObj_own hh ha rfl (by rw [hl, hv])) hv' h


theorem get_meth {pl : Sem Bool} {Q : Value × List Value → Shared → Prop} (X : K.In s.heap) (I : ObjM s.heap x dx C mA) (hg : PySem.W.plainGet K C name = true)
    (hf : PySem.W.findIn K (.ref C) name = some (some (.ref f))) (ht : PySem.W.isFn K (.ref f) = true) (hv : mA name = none) (h : Q (.ref f, [.ref x]) s) :
    wpAny (model prog w) A (getMethod (.ref x) name pl) Q E s := by
  obtain ⟨od, J, hl⟩ := I.look
  exact PySem.W.method_fn X J (PySem.W.plainGet_of hg).1 (PySem.W.plainGet_of hg).2 hf (beq_iff_eq.mp ht) (by show (PySem.W.lookIn name od).map (·.isSome) = some false; rw [hl, hv]; rfl) h

theorem set_map {ns : List Str} {Q : Unit → Shared → Prop} (X : K.In s.heap) (I : ObjM s.heap x dx C mA)
    (hs : PySem.W.findIn K (.ref C) "__setattr__" = some (some (.builtin "object.__setattr__"))) (hp : PySem.W.plainOver K C = true) (ht : PySem.W.takerIn K C name = some none) (hh : PySem.W.hasDictIn K C = true)
    (hw : PySem.Within mA ns) (hsz : ns.length ≤ sizeLine)
    (h : ∀ h', ObjM h' x dx C (fun y => if y = name then some v else mA y) → Heap.SameBut dx s.heap h' → Q () { s with heap := h', toks := s.toks + 2 }) :
    wpAny (model prog w) A (setAttr (.ref x) name v) Q E s := by
  obtain ⟨od, J, hl⟩ := I.look
  refine PySem.W.set_plain X J hs (PySem.W.osa_open (s := { s with toks := s.toks + 1 }) (r := none) X J hp ht fun b => ?_)
  obtain ⟨cd, hc, hd'⟩ := PySem.W.any_some hh
  have hx : s.heap.get? x = some ⟨.ref C, some dx, .plain, #[]⟩ := I.obj
  refine wpAny_bind (wpAny_pure (wpAny_bind (wpAny_bind (wpAny_loadPart hx (wpAny_bind (PySem.W.Looks.here (s := { s with toks := s.toks + 1 }) (PySem.W.looks_clsIn X hc) ?_))))))
  rw [hd']
  refine wpAny_pure (a := some dx) (wpAny_bind (wpAny_pure (wpAny_bind ?_)))
  refine wpAny_nsSet1 (s := { s with toks := s.toks + 1 }) I.ns fun h' hn2 hs2 => ?_
  obtain ⟨oD, esD, epD, hoD, hdD, hcD⟩ := hn2.count (PySem.Within.cons name v hw)
  refine wpAny_bind (wpAny_lookBehind hoD (by rw [hdD]; exact pastItsLine_dict (Nat.le_trans hcD (by rw [List.length_cons]; omega))) ?_)
  exact wpAny_pure (h _ ⟨(hs2.2 _ (Ne.symm I.ne)).trans I.obj, hn2, I.ne⟩ hs2)

/-- C(..): the dict at the heap's end, the instance behind it; then its __init__ -/
theorem make_map {R : Result → Shared → Prop} {vs : List Value} {kw : List (Str × Value)} (X : K.In s.heap) (hm : PySem.W.makesIn K C = true)
    (hi : PySem.W.findIn K (.ref C) "__init__" = some (some (.ref f))) (hf : PySem.W.typeIn K (.ref f) = some (.type "function"))
    (h : codeAny (model prog w) (A.under (.builtin "type.__call__" ⟨.ref C :: vs, kw⟩)) (.call (.ref f) ⟨.ref (s.heap.objs.size + 1) :: vs, kw⟩) (PySem.W.InitBack (s.heap.objs.size + 1) R)
      { s with heap := (s.heap.push PySem.W.emptyDict).push (PySem.W.instObj C s.heap.objs.size) }) :
    codeAny (model prog w) A (.call (.ref C) ⟨vs, kw⟩) R s := by
  obtain ⟨hh, g, d, t, os⟩ := s
  exact PySem.W.make_core (PySem.W.makes_of X hm) (PySem.W.looks_findIn X hi) (fun self => PySem.W.bind_fn X self hf) (.inl rfl) h
end

/-! ### the attributes as a list of pairs -/
def putF (f : Str) (v : V) : List (Str × V) → List (Str × V)
  | [] => [(f, v)]
  | (g, x) :: r => if g = f then (g, v) :: r else (g, x) :: putF f v r
theorem lookup_putF (f g : Str) (v : V) : ∀ fs : List (Str × V), (putF f v fs).lookup g = if g = f then some v else fs.lookup g
  | [] => by
    show List.lookup g [(f, v)] = _
    by_cases h : g = f
    · have hb : (g == f) = true := beq_iff_eq.mpr h
      simp only [List.lookup, hb, if_pos h]
    · have hb : (g == f) = false := beq_eq_false_iff_ne.mpr h
      simp only [List.lookup, hb, if_neg h]
  | (k, x) :: r => by
    have ih := lookup_putF f g v r
    rw [show putF f v ((k, x) :: r) = (if k = f then (k, v) :: r else (k, x) :: putF f v r) from rfl]
    by_cases hk : k = f
    · rw [if_pos hk]
      by_cases h : g = k
      · have hb : (g == k) = true := beq_iff_eq.mpr h
        simp only [List.lookup, hb, if_pos (h.trans hk)]
      · have hb : (g == k) = false := beq_eq_false_iff_ne.mpr h
        simp only [List.lookup, hb, if_neg (fun e : g = f => h (e.trans hk.symm))]
    · rw [if_neg hk]
      by_cases h : g = k
      · have hb : (g == k) = true := beq_iff_eq.mpr h
        simp only [List.lookup, hb, if_neg (fun e : g = f => hk (h.symm.trans e))]
      · have hb : (g == k) = false := beq_eq_false_iff_ne.mpr h
        simp only [List.lookup, hb]
        exact ih
theorem keys_putF (f : Str) (v : V) : ∀ fs : List (Str × V), f ∈ (putF f v fs).map (·.1) ∧ ∀ g, g ∈ fs.map (·.1) → g ∈ (putF f v fs).map (·.1)
  | [] => ⟨by simp [putF], fun g h => by simp at h⟩
  | (k, x) :: r => by
    obtain ⟨i1, i2⟩ := keys_putF f v r
    rw [show putF f v ((k, x) :: r) = (if k = f then (k, v) :: r else (k, x) :: putF f v r) from rfl]
    by_cases hk : k = f
    · rw [if_pos hk]
      subst hk
      exact ⟨by simp, fun g h => by simpa using h⟩
    · rw [if_neg hk]
      refine ⟨?_, fun g h => ?_⟩
      · rw [List.map_cons]
        exact List.mem_cons_of_mem _ i1
      · rw [List.map_cons] at h ⊢
        rcases List.mem_cons.mp h with e | e
        · exact List.mem_cons.mpr (.inl e)
        · exact List.mem_cons_of_mem _ (i2 g e)
theorem length_putF (f : Str) (v : V) : ∀ fs : List (Str × V), (putF f v fs).length ≤ fs.length + 1
  | [] => by simp [putF]
  | (k, x) :: r => by
    have ih := length_putF f v r
    rw [show putF f v ((k, x) :: r) = (if k = f then (k, v) :: r else (k, x) :: putF f v r) from rfl]
    by_cases hk : k = f
    · rw [if_pos hk, List.length_cons, List.length_cons]; omega
    · rw [if_neg hk, List.length_cons, List.length_cons]; omega

theorem RelO.some_of {v : V} {o : Option Value} (r : RelO (some v) o) : ∃ u, o = some u ∧ RelV v u := by
  cases o with
  | none => exact (show False from r).elim
  | some u => exact ⟨u, rfl, r⟩
theorem RelO.none_of {o : Option Value} (r : RelO none o) : o = none := by
  cases o with
  | none => rfl
  | some u => exact (show False from r).elim
theorem handed_of {v : V} {u : Value} (r : RelV v u) : PySem.W.handedIn u = true := by
  cases v with
  | non => cases (show u = Value.none from r); rfl
  | bl b => cases (show u = Value.bool b from r); rfl
  | int i => obtain ⟨t, e⟩ := (show ∃ t, u = Value.int i t from r); cases e; rfl
  | str x => obtain ⟨t, e⟩ := (show ∃ t, u = Value.str x t from r); cases e; rfl
  | byt b => obtain ⟨t, e⟩ := (show ∃ t, u = Value.bytes b t from r); cases e; rfl
  | flt b => obtain ⟨t, e⟩ := (show ∃ t, u = Value.float b t from r); cases e; rfl
  | ref a => cases (show u = Value.ref a from r); rfl
  | ty n => cases (show u = Value.type n from r); rfl

section
variable {P : Program} {w : World} {H H' : Hp} {h h' : Heap} {a C dx : Addr} {fs fs' : List (Str × V)}
theorem ins_get (hok : HOk P w H h) (e : H a = some (.ins C dx fs)) : ∃ mA, ObjM h a dx C mA ∧ (∀ f, RelO (fs.lookup f) (mA f)) ∧ PySem.Within mA (fs.map (·.1)) ∧ fs.length ≤ 1000 ∧ H dx = some (.own a) := by
  obtain ⟨d, z, ne, ob, mA, n, r, q⟩ := (show ObjOk P w H h a (.ins C dx fs) from hok a _ e)
  exact ⟨mA, ⟨ob, n, ne⟩, r, q, z, d⟩
end

/-! ### what of the text a class must have -/
structure Cls (K : PySem.W.Frag) (C : Addr) : Prop where
  pg : PySem.W.plainGet K C Str.empty = true
  hd : PySem.W.hasDictIn K C = true
  po : PySem.W.plainOver K C = true
  sa : PySem.W.findIn K (.ref C) "__setattr__" = some (some (.builtin "object.__setattr__"))
theorem Cls.get {K : PySem.W.Frag} {C : Addr} (c : Cls K C) (f : Str) : PySem.W.plainGet K C f = true := c.pg
/-- no class of it has the name -/
def NoAttr (K : PySem.W.Frag) (C : Addr) (f : Str) : Prop := PySem.W.findIn K (.ref C) f = some none
theorem NoAttr.taker {K : PySem.W.Frag} {C : Addr} {f : Str} (n : NoAttr K C f) : PySem.W.takerIn K C f = some none := by
  unfold PySem.W.takerIn
  rw [show PySem.W.findIn K (.ref C) f = some none from n]
  rfl
/-- a method: a plain def of the class or of one above it -/
structure Meth (K : PySem.W.Frag) (C : Addr) (m : Str) (f : Addr) : Prop where
  at_ : PySem.W.findIn K (.ref C) m = some (some (.ref f))
  fn : PySem.W.isFn K (.ref f) = true
  kp : PySem.W.keepIn K (.ref f) = true

section
variable {X : Cx} {pins : List (Addr × Obj)} {σ : St} {H : Hp} {s : Shared} {a C dx : Addr} {fs : List (Str × V)} {f : Str} {v : V} {A : Around} {E : Value → Shared → Prop}

theorem getattr_ok {b : Bool} {Q : Value → Shared → Prop} (I : Inv X pins σ H s) (e : H a = some (.ins C dx fs)) (c : Cls X.K C) (n : NoAttr X.K C f) (l : fs.lookup f = some v)
    (h : ∀ u s', Inv X pins σ H s' → RelV v u → Q u s') : wpAny (model X.prog X.w) A (getAttr (.ref a) f b) Q E s := by
  obtain ⟨mA, O, r, _, _, _⟩ := ins_get I.hok e
  obtain ⟨u, hu, ru⟩ := RelO.some_of (v := v) (o := mA f) (by rw [← l]; exact r f)
  exact get_map I.kIn O (c.get f) c.hd n hu (handed_of ru) (h u _ (I.tok _) ru)


theorem getmeth_ok {m : Str} {g : Addr} {pl : Sem Bool} {Q : Value × List Value → Shared → Prop} (I : Inv X pins σ H s) (e : H a = some (.ins C dx fs)) (c : Cls X.K C) (k : Meth X.K C m g) (l : fs.lookup m = none)
    (h : Q (.ref g, [.ref a]) s) : wpAny (model X.prog X.w) A (getMethod (.ref a) m pl) Q E s := by
  obtain ⟨mA, O, r, _, _, _⟩ := ins_get I.hok e
  have hn : mA m = none := RelO.none_of (by rw [← l]; exact r m)
  exact get_meth I.kIn O (c.get m) k.at_ k.fn hn h

theorem setattr_ok {y : V} {u : Value} {Q : Unit → Shared → Prop} (I : Inv X pins σ H s) (e : H a = some (.ins C dx fs)) (c : Cls X.K C) (n : NoAttr X.K C f) (hl : fs.length < 1000) (ry : RelV y u)
    (h : ∀ s', Inv X pins σ (upd H a (.ins C dx (putF f y fs))) s' → Q () s') : wpAny (model X.prog X.w) A (setAttr (.ref a) f u) Q E s := by
  obtain ⟨mA, O, r, wi, _, ho⟩ := ins_get I.hok e
  have hz : (fs.map (·.1)).length ≤ sizeLine := by rw [List.length_map, sizeLine_eq]; omega
  refine set_map I.kIn O c.sa c.po n.taker c.hd wi hz fun h' O' sb => h _ ?_
  have hd : ∃ o, h'.get? dx = some o := let ⟨o, _, _, e', _⟩ := O'.ns; ⟨o, e'⟩
  refine I.write (x := a) (e := dx) (by rw [e]; exact True.intro) (.inr ho) (fun b q hb z => (sb.2 b hb).trans z) hd ?_
  refine ⟨by rw [upd_ne O.ne]; exact ho, ?_, O.ne, O'.obj, _, O'.ns, fun g => ?_, fun g hg => ?_⟩
  · have := length_putF f y fs; omega
  · show RelO ((putF f y fs).lookup g) (if g = f then some u else mA g)
    rw [lookup_putF]
    by_cases q : g = f
    · rw [if_pos q, if_pos q]; exact ry
    · rw [if_neg q, if_neg q]; exact r g
  · by_cases q : g = f
    · rw [q]; exact (keys_putF f y fs).1
    · refine (keys_putF f y fs).2 g (wi g fun z => hg ?_)
      show (if g = f then some u else mA g) = none
      rw [if_neg q]; exact z

/-- a new instance, tracked, without attributes -/
theorem Inv.made (I : Inv X pins σ H s) : Inv X pins σ (upd (upd H s.heap.objs.size (.own (s.heap.objs.size + 1))) (s.heap.objs.size + 1) (.ins C s.heap.objs.size []))
    { s with heap := (s.heap.push PySem.W.emptyDict).push (PySem.W.instObj C s.heap.objs.size) } := by
  have e1 : (s.heap.push PySem.W.emptyDict).get? s.heap.objs.size = some PySem.W.emptyDict := Heap.get?_push_size s.heap rfl
  have e2 : ((s.heap.push PySem.W.emptyDict).push (PySem.W.instObj C s.heap.objs.size)).get? (s.heap.objs.size + 1) = some (PySem.W.instObj C s.heap.objs.size) := by
    have := Heap.get?_push_size (s.heap.push PySem.W.emptyDict) (o := PySem.W.instObj C s.heap.objs.size) rfl
    rwa [Heap.size_push] at this
  have e3 : (s.heap.push PySem.W.emptyDict).Ns s.heap.objs.size (fun _ => none) := ⟨PySem.W.emptyDict, #[], _, e1, rfl, (fun e he => absurd he (by simp)), fun _ => rfl⟩
  have I1 := I.laid (a := s.heap.objs.size) (o := .own (s.heap.objs.size + 1)) (h' := s.heap.push PySem.W.emptyDict) (t' := s.toks) (fun b u q => Heap.get?_push_of_some _ q) (Nat.le_refl _) ⟨_, e1⟩
  refine I1.laid (a := s.heap.objs.size + 1) (o := .ins C s.heap.objs.size []) (t' := s.toks) (fun b u q => Heap.get?_push_of_some _ q) (Nat.le_of_eq (Heap.size_push _ _)) ?_
  have ne : s.heap.objs.size ≠ s.heap.objs.size + 1 := Nat.ne_of_lt (Nat.lt_succ_self _)
  refine ⟨by rw [upd_ne ne, upd_same], Nat.zero_le _, ne, e2, fun _ => none, (Heap.Ns1.of_empty e3).at fun o q => Heap.get?_push_of_some _ q, fun _ => True.intro, fun y hy => absurd rfl hy⟩

/-- e.f where nothing but the object is asked: through attributeBase (super) and the last hold -/
theorem attr_of {prog : Program} {w : World} {env : Env} {e : Expr} {f : Str} {pos : Pos} {s : Shared} {Q : Value → Shared → Prop} (hb : attributeBase e f env (eval e env) = eval e env)
    (h : wpAny (model prog w) A (eval e env) (fun o s₁ => wpAny (model prog w) A (getAttr o f true) Q E s₁) E s) : wpAny (model prog w) A (eval (.Attribute e f pos) env) Q E s :=
  Attribute_any_ h (by rw [arm_eval_Attribute, hb])
end

/-! ### readings and rules -/
/-- e.f, an attribute of the instance -/
def tFld (K : PySem.W.Frag) (ta : TE) (f : Str) : TE := fun σ H Q => ta σ H fun x H1 => ∃ a C dx fs v, x = .ref a ∧ H1 a = some (.ins C dx fs) ∧ Cls K C ∧ NoAttr K C f ∧ fs.lookup f = some v ∧ Q v H1
/-- e.f = value -/
def sFld (K : PySem.W.Frag) (ta tv : TE) (f : Str) : TS := fun D σ H => tv σ H fun y H1 => ta σ H1 fun x H2 => ∃ a C dx fs, x = .ref a ∧ H2 a = some (.ins C dx fs) ∧ Cls K C ∧ NoAttr K C f ∧ fs.length < 1000 ∧
  D.nx σ (upd H2 a (.ins C dx (putF f y fs)))

section
variable {X : Cx} {o e value : Expr} {f : Str} {pos pos' tpos : Pos} {ta tv : TE}
theorem pe_fld (he : PE X e ta) (hb : attributeBase e f X.env (eval e X.env) = eval e X.env) : PE X (.Attribute e f pos) (tFld X.K ta f) := by
  intro pins s σ H Q I h
  refine attr_of hb (thn (he pins s σ H _ I h) fun u s1 ⟨x, H1, I1, rx, a, C, dx, fs, v, ex, ea, c, n, l, q⟩ => ?_)
  subst ex
  obtain rfl : u = Value.ref a := rx
  exact getattr_ok I1 ea c n l fun u' s2 I2 ru => ⟨v, H1, I2, ru, q⟩
theorem ps_fld (ha : PE X o ta) (hv : PE X value tv) (hs : swapsWith value (some (.Attribute o f pos')) pos.line X.env = pure false) : PS X (.Assign [.Attribute o f pos'] value pos) (sFld X.K ta tv f) := by
  intro pins s σ H D I h
  refine plainObj_wpAny_Assign_Attribute (thn (hv pins s σ H _ I h) fun u s1 ⟨y, H1, I1, ry, q⟩ => thn (ha pins s1 σ H1 _ I1 q) fun ov s2 ⟨x, H2, I2, rx, a, C, dx, fs, ex, ea, c, n, l, q2⟩ => ?_) hs
  subst ex
  obtain rfl : ov = Value.ref a := rx
  exact setattr_ok I2 ea c n l ry fun s3 I3 => ⟨σ, _, I3, q2⟩

end

/-! ### isinstance -/
section
variable {X : Cx} {pins : List (Addr × Obj)} {σ : St} {H : Hp} {s : Shared} {A : Around} {E : Value → Shared → Prop} {Q : Value → Shared → Prop} {c : Value} {b : Bool}
end
end L2

namespace L2
open PySem PySem.Spec PyProof.Rows

/-! ### room -/
structure Room (k : Nat) (A : Around) : Prop where
  hd : A.handled = none
  dp : A.depth + 3 * k + 5 < recursionLimit
  un : A.units + 16 * k + 200 < cLine
theorem Room.mono {j k : Nat} {A : Around} (r : Room k A) (h : j ≤ k) : Room j A := ⟨r.hd, by have := r.dp; omega, by have := r.un; omega⟩
theorem Room.deeper {k : Nat} {A : Around} (r : Room (k + 1) A) (env : Env) : Room k (A.deeper env) :=
  ⟨r.hd, by have := r.dp; show A.depth + 1 + 3 * k + 5 < _; omega, by have := r.un; show A.units + 3 + 16 * k + 200 < _; omega⟩
theorem make_depth {A : Around} {C : Addr} {us : List Value} {kw : List (Str × Value)} : (A.under (.builtin "type.__call__" ⟨.ref C :: us, kw⟩)).depth = A.depth + 1 := by
  first | rfl | simp [Around.under, Code.weight, Code.isCreation, Code.isGuard, Code.isCaller, Code.frames, Code.isFrame, guardIds]
theorem make_units {A : Around} {C : Addr} {us : List Value} {kw : List (Str × Value)} : (A.under (.builtin "type.__call__" ⟨.ref C :: us, kw⟩)).units = A.units + 1 := by
  first | rfl | simp [Around.under, Code.cUnits, Code.frames, Code.isFrame]
theorem Room.make {k : Nat} {A : Around} (r : Room (k + 1) A) (C : Addr) (us : List Value) (kw : List (Str × Value)) : Room k (A.under (.builtin "type.__call__" ⟨.ref C :: us, kw⟩)) :=
  ⟨r.hd, by have := r.dp; rw [make_depth]; omega, by have := r.un; rw [make_units]; omega⟩
theorem Room.depth {k : Nat} {A : Around} (r : Room k A) : A.depth < recursionLimit := by have := r.dp; omega
theorem Room.units {k : Nat} {A : Around} (r : Room k A) : A.units + 64 < cLine := by have := r.un; omega

/-! ### argument lists and displays -/
def tNil : TA := fun _ H Q => Q [] H
def tCons (ta : TE) (tr : TA) : TA := fun σ H Q => ta σ H fun x H1 => tr σ H1 fun xs H2 => Q (x :: xs) H2
section
variable {X : Cx} {e : Expr} {es : List Expr} {te : TE} {t : TA} {pos : Pos}
theorem pa_nil : PA X [] tNil := fun _ _ _ _ H Q I h => Calls.spliced_nil ⟨[], H, I, .nil, h⟩
theorem pa_cons (ha : PE X e te) (hr : PA X es t) (hs : starEach (e :: es) X.env = (false, eval e X.env) :: starEach es X.env := by rfl) : PA X (e :: es) (tCons te t) := by
  intro pos pins s σ H Q I h
  rw [hs]
  show wpAny _ _ (spliced ((false, eval e X.env) :: backTo pos (starEach es X.env))) _ _ s
  refine Calls.spliced_cons (thn (ha pins s σ H _ I h) fun u s1 ⟨x, H1, I1, r1, q1⟩ => ?_)
  exact thn (hr pos pins s1 σ H1 _ I1 q1) fun us s2 ⟨xs, H2, I2, r2, q2⟩ => ⟨x :: xs, H2, I2, .cons r1 r2, q2⟩

/-- a tuple, a list of written items -/
def tTup (t : TA) : TE := fun σ H Q => t σ H fun xs H1 => xs.length ≤ sizeLine ∧ ∀ p, H1 p = none → Q (.ref p) (upd H1 p (.tup xs))
def tLst (t : TA) : TE := fun σ H Q => t σ H fun xs H1 => xs.length ≤ sizeLine ∧ ∀ p, H1 p = none → Q (.ref p) (upd H1 p (.lst xs))
theorem pe_tup {x1} (h : PA X es t) : PE X (.Tuple es x1 pos) (tTup t) := by
  intro pins s σ H Q I hq
  refine wpAny_Tuple_spliced (thn (h pos pins s σ H _ I hq) fun us s1 ⟨xs, H1, I1, r, z, q⟩ => ⟨by rw [← r.length]; exact z, ?_⟩)
  have hf : H1 s1.heap.objs.size = none := I1.hok.fresh (Nat.le_refl _)
  refine ⟨.ref s1.heap.objs.size, upd H1 s1.heap.objs.size (.tup xs), I1.laid (t' := s1.toks) (fun b u e => Heap.get?_push_of_some _ e) (Nat.le_refl _) ?_, rfl, q _ hf⟩
  exact ⟨z, us, r, ⟨_, Heap.get?_push_size _ rfl, rfl, _, rfl⟩⟩
theorem pe_lst (h : PA X es t) : PE X (.List es pos) (tLst t) := by
  intro pins s σ H Q I hq
  refine wpAny_List_spliced (thn (h pos pins s σ H _ I hq) fun us s1 ⟨xs, H1, I1, r, z, q⟩ => ⟨by rw [← r.length]; exact z, ?_⟩)
  have hf : H1 s1.heap.objs.size = none := I1.hok.fresh (Nat.le_refl _)
  refine ⟨.ref s1.heap.objs.size, upd H1 s1.heap.objs.size (.lst xs), I1.laid (t' := s1.toks) (fun b u e => Heap.get?_push_of_some _ e) (Nat.le_refl _) ?_, rfl, q _ hf⟩
  exact ⟨z, us, 0, r, Heap.get?_push_size _ rfl⟩
end

/-! ### what a def promises -/
/-- a def's promise: the bound arguments in the parameters' order, the heap, the wanted end, the wanted exception -/
abbrev Sp := List V → Hp → VK → XK → Prop
/-- how an exception lies behind a call (file 08 gives it): the callers' frames, abstract heap and state ahead of the call, the wish, the exception, the state -/
abbrev CXT := List Env → Hp → Shared → XK → Value → Shared → Prop

/-- the state at a call -/
structure Env0 (P : Program) (w : World) (K : PySem.W.Frag) (mg : Str → Option Value) (base : Heap) (A : Around) (outer : List Env) (s : Shared) (H : Hp) : Prop where
  frames : A.frames = some outer
  mod : Mod K mg base
  bs : ∀ b o, base.get? b = some o → s.heap.get? b = some o ∧ H b = none
  bsz : base.objs.size ≤ s.heap.objs.size
  funs : s.heap.FunFrames base outer
  frf : ∀ b ∈ frs outer, H b = none
  hok : HOk P w H s.heap
  bare : AllBare s.gens
/-- a call's end -/
def CE (outer : List Env) (P : Program) (w : World) (H : Hp) (s : Shared) (Q : VK) (u : Value) (s' : Shared) : Prop :=
  ∃ v H', s'.os = s.os ∧ AllBare s'.gens ∧ Un (frs outer) [] H H' s.heap s'.heap ∧ HOk P w H' s'.heap ∧ RelV v u ∧ Q v H'
def CR (CX : CXT) (outer : List Env) (P : Program) (w : World) (H : Hp) (s : Shared) (Q : VK) (E : XK) (r : Result) (s' : Shared) : Prop :=
  match r with
  | .ok (.ret u) => CE outer P w H s Q u s'
  | .ok _ => False
  | .error e => CX outer H s E e s'
structure FnOk (P : Program) (w : World) (K : PySem.W.Frag) (mg : Str → Option Value) (base : Heap) (CX : CXT) (k : Nat) (f : Addr) (fd : FuncData) (ps : List Str) (sp : Sp) : Prop where
  len : ∀ vs H Q E, sp vs H Q E → vs.length = ps.length
  run : ∀ (A : Around) (outer : List Env) (s : Shared) (H : Hp) (args : Args) (us : List Value) (vs : List V) (Q : VK) (E : XK), Room k A → Env0 P w K mg base A outer s H → BindsTo s fd args (ps.zip us) → Vals vs us → sp vs H Q E →
    codeAny (model P w) A (.call (.ref f) args) (CR CX outer P w H s Q E) s
theorem FnOk.mono {P : Program} {w : World} {K : PySem.W.Frag} {mg : Str → Option Value} {base : Heap} {CX : CXT} {j k : Nat} {f : Addr} {fd : FuncData} {ps : List Str} {sp : Sp} (F : FnOk P w K mg base CX j f fd ps sp) (h : j ≤ k) :
    FnOk P w K mg base CX k f fd ps sp := ⟨F.len, fun A outer s H args us vs Q E hr => F.run A outer s H args us vs Q E (hr.mono h)⟩

theorem Env0.make {P : Program} {w : World} {K : PySem.W.Frag} {mg : Str → Option Value} {base : Heap} {A : Around} {outer : List Env} {s : Shared} {H : Hp} (e : Env0 P w K mg base A outer s H) (C : Addr) (us : List Value) (kw : List (Str × Value)) :
    Env0 P w K mg base (A.under (.builtin "type.__call__" ⟨.ref C :: us, kw⟩)) outer s H := ⟨by first | exact e.frames | (simpa [Around.under, Code.envs, Code.isFrame, pushEnvs] using e.frames), e.mod, e.bs, e.bsz, e.funs, e.frf, e.hok, e.bare⟩

section
variable {X : Cx} {pins : List (Addr × Obj)} {σ : St} {H : Hp} {s s' : Shared}
/-- from a body: what a callee wants -/
theorem Inv.env0 (I : Inv X pins σ H s) : Env0 X.prog X.w X.K X.mg X.base X.A X.stack s H :=
  ⟨I.ok.frames, I.ok.mod, I.bs, Nat.le_trans I.ok.bsz I.sz, I.stack, I.stkFree, I.hok, I.bare⟩
/-- behind a call -/
theorem Inv.after {Q : VK} {u : Value} (I : Inv X pins σ H s) (h : CE X.stack X.prog X.w H s Q u s') : EP X pins σ Q u s' := by
  obtain ⟨v, H', os, bare, un, hok, r, q⟩ := h
  obtain ⟨hh, g, d, t, os'⟩ := s'
  obtain rfl : os' = s.os := os
  exact ⟨v, H', I.call (h' := hh) (g' := g) (d' := d) (t' := t) (ch := []) un hok bare (fun b z => absurd z (by simp)), r, q⟩
end

/-! ### calls -/
/-- f(..): the written arguments, then the defaults dvs; E: what is wanted of an exception -/
def tCall (sp : Sp) (dvs : List V) (E : XK) (t : TA) : TE := fun σ H Q => t σ H fun vs H1 => sp (vs ++ dvs) H1 Q E
/-- o.m(..) of an instance of the class at C -/
def tMeth (C : Addr) (m : Str) (sp : Sp) (dvs : List V) (E : XK) (ta : TE) (t : TA) : TE := fun σ H Q => ta σ H fun x H1 => ∃ a dx fs, x = .ref a ∧ H1 a = some (.ins C dx fs) ∧ fs.lookup m = none ∧
  t σ H1 fun vs H2 => sp (x :: (vs ++ dvs)) H2 Q E
/-- C(..): a new instance and its dict, then __init__ -/
def tMake (C : Addr) (sp : Sp) (dvs : List V) (E : XK) (t : TA) : TE := fun σ H Q => t σ H fun vs H1 => ∀ x dx, H1 x = none → H1 dx = none → dx ≠ x →
  sp (.ref x :: (vs ++ dvs)) (upd (upd H1 dx (.own x)) x (.ins C dx [])) (fun v H2 => v = .non ∧ Q (.ref x) H2) E

/-- how the parameters are bound: us the positional arguments, kw the keywords' values by name, ds the defaults that fill up -/
def Binds (K : PySem.W.Frag) (fd : FuncData) (ps : List Str) (ds : List Value) : Prop :=
  ∀ (s : Shared) (us : List Value), K.In s.heap → (us ++ ds).length = ps.length → BindsTo s fd ⟨us, []⟩ (ps.zip (us ++ ds))
/-- every parameter is given -/
theorem Binds.all {K : PySem.W.Frag} {fd : FuncData} {ps : List Str} (h : ∀ us : List Value, us.length = ps.length → bindArgs fd ⟨us, []⟩ = pure (ps.zip us)) : Binds K fd ps [] := fun s us _ hl => by
  rw [List.append_nil] at hl ⊢
  exact .of_eq (h us hl)

/-- an exception of a callee reaches what this body wants of exceptions -/
def Passes (CX : CXT) (X : Cx) (E : XK) : Prop := ∀ (pins : List (Addr × Obj)) (σ : St) (H : Hp) (s : Shared) (e : Value) (s' : Shared), Inv X pins σ H s → CX X.stack H s E e s' → X.xe e s'

section
variable {X : Cx} {CX : CXT} {k : Nat} {f C : Addr} {fd : FuncData} {ps : List Str} {sp : Sp} {dvs : List V} {ds : List Value} {E : XK} {x m : Str} {p pos apos : Pos} {e o : Expr} {es : List Expr} {ta : TE} {t : TA}

/-- the callee runs -/
theorem run_fn {pins : List (Addr × Obj)} {σ : St} {H : Hp} {s : Shared} {Q : VK} {us : List Value} {vs : List V} (F : FnOk X.prog X.w X.K X.mg X.base CX k f fd ps sp) (hr : Room k X.A) (hb : Binds X.K fd ps ds) (hd : Vals dvs ds) (hx : Passes CX X E)
    (I : Inv X pins σ H s) (r : Vals vs us) (h : sp (vs ++ dvs) H Q E) : wpAny (model X.prog X.w) X.A (call (.ref f) us) (EP X pins σ Q) X.xe s := by
  have r2 : Vals (vs ++ dvs) (us ++ ds) := r.append hd
  have hl : (us ++ ds).length = ps.length := by rw [← r2.length]; exact F.len _ _ _ _ h
  refine wpAny_call (codeAny_mono (F.run X.A X.stack s H ⟨us, []⟩ (us ++ ds) (vs ++ dvs) Q E hr I.env0 (hb s us I.kIn hl) r2 h) fun r s' hq => ?_)
  cases r with
  | error e => exact hx pins σ H s e s' I hq
  | ok fl =>
    cases fl with
    | ret u => exact I.after hq
    | next => exact False.elim hq
    | brk => exact False.elim hq
    | cont => exact False.elim hq

theorem pe_call (F : FnOk X.prog X.w X.K X.mg X.base CX k f fd ps sp) (hr : Room k X.A) (hg : Gl X x) (hm : X.mg x = some (.ref f)) (hk : PySem.W.keepIn X.K (.ref f) = true) (hb : Binds X.K fd ps ds) (hd : Vals dvs ds) (hx : Passes CX X E)
    (ha : PA X (e :: es) t) (hdb : (x == ("__debug__" : Str)) = false := by decide) (he : starEach (e :: es) X.env = (false, eval e X.env) :: starEach es X.env := by rfl) (hpl : (backTo pos (starEach es X.env)).any (·.1) = false := by rfl) :
    PE X (.Call (.Name x p) (e :: es) [] pos) (tCall sp dvs E t) := by
  intro pins s σ H Q I h
  refine wpAny_Call_Name_kw (ld_glob I hg hm ?_ hdb)
  refine PySem.W.callWith_K (h₀ := X.base) I.ok.mod.kin hk (thn (ha pos pins s σ H _ I h) fun us s1 ⟨vs, H1, I1, r, q⟩ => ⟨I1.kIn, ?_⟩) he hpl
  exact run_fn F hr hb hd hx I1 r q

/-- o.m(e, ..) -/
theorem pe_meth {pl : Sem Bool} (he : PE X o ta) (c : Cls X.K C) (hm : Meth X.K C m f) (F : FnOk X.prog X.w X.K X.mg X.base CX k f fd ps sp) (hr : Room k X.A) (hb : Binds X.K fd ps ds) (hd : Vals dvs ds) (hx : Passes CX X E) (ha : PA X (e :: es) t)
    (hst : starEach (e :: es) X.env = (false, eval e X.env) :: starEach es X.env := by rfl) (hpl : (backTo pos (starEach es X.env)).any (·.1) = false := by rfl)
    (ht : eval (.Call (.Attribute o m apos) (e :: es) [] pos) X.env = (do
      let ov ← eval o X.env
      standAt apos.atName
      let (f, first) ← holding [ov] (getMethod ov m pl)
      callWith pos f first (backTo pos (starEach (e :: es) X.env)) (backToKw pos (keywordEach [] X.env))) := by rfl) :
    PE X (.Call (.Attribute o m apos) (e :: es) [] pos) (tMeth C m sp dvs E ta t) := by
  intro pins s σ H Q I h
  refine PySem.W.methodCall_KW (pl := pl) (thn (he pins s σ H _ I h) fun u s1 ⟨x, H1, I1, rx, a, dx, fs, ex, ea, l, q⟩ => ?_) ht
  subst ex
  obtain rfl : u = Value.ref a := rx
  refine getmeth_ok I1 ea c hm l ?_
  refine PySem.W.callWith_K (first := [.ref a]) (h₀ := X.base) I.ok.mod.kin hm.kp (thn (ha pos pins s1 σ H1 _ I1 q) fun us s2 ⟨vs, H2, I2, r, q2⟩ => ⟨I2.kIn, ?_⟩) hst hpl
  exact run_fn (us := .ref a :: us) (vs := .ref a :: vs) F hr hb hd hx I2 (.cons rfl r) q2
/-- o.m() -/
theorem pe_meth0 {pl : Sem Bool} (he : PE X o ta) (c : Cls X.K C) (hm : Meth X.K C m f) (F : FnOk X.prog X.w X.K X.mg X.base CX k f fd ps sp) (hr : Room k X.A) (hb : Binds X.K fd ps ds) (hd : Vals dvs ds) (hx : Passes CX X E)
    (ht : eval (.Call (.Attribute o m apos) [] [] pos) X.env = (do
      let ov ← eval o X.env
      standAt apos.atName
      let (f, first) ← holding [ov] (getMethod ov m pl)
      callWith pos f first (backTo pos (starEach [] X.env)) (backToKw pos (keywordEach [] X.env))) := by rfl) :
    PE X (.Call (.Attribute o m apos) [] [] pos) (tMeth C m sp dvs E ta tNil) := by
  intro pins s σ H Q I h
  refine PySem.W.methodCall_KW (pl := pl) (thn (he pins s σ H _ I h) fun u s1 ⟨x, H1, I1, rx, a, dx, fs, ex, ea, l, q⟩ => ?_) ht
  subst ex
  obtain rfl : u = Value.ref a := rx
  refine getmeth_ok I1 ea c hm l ?_
  exact PySem.W.callWith_K0 (first := [.ref a]) I1.kIn hm.kp (run_fn (us := [.ref a]) (vs := [.ref a]) F hr hb hd hx I1 (.cons rfl .nil) q)

/-- what a class must have to be made -/
structure Mk (K : PySem.W.Frag) (C f : Addr) : Prop where
  makes : PySem.W.makesIn K C = true
  init : PySem.W.findIn K (.ref C) "__init__" = some (some (.ref f))
  fn : PySem.W.isFn K (.ref f) = true
  kp : PySem.W.keepIn K (.ref C) = true

theorem run_make {pins : List (Addr × Obj)} {σ : St} {H : Hp} {s : Shared} {Q : VK} {us : List Value} {vs : List V} (M : Mk X.K C f) (F : FnOk X.prog X.w X.K X.mg X.base CX k f fd ps sp) (hr : Room (k + 1) X.A) (hb : Binds X.K fd ps ds) (hd : Vals dvs ds)
    (hx : Passes CX X E) (I : Inv X pins σ H s) (r : Vals vs us)
    (h : ∀ x dx, H x = none → H dx = none → dx ≠ x → sp (.ref x :: (vs ++ dvs)) (upd (upd H dx (.own x)) x (.ins C dx [])) (fun v H2 => v = .non ∧ Q (.ref x) H2) E) :
    wpAny (model X.prog X.w) X.A (call (.ref C) us) (EP X pins σ Q) X.xe s := by
  have hq := h (s.heap.objs.size + 1) s.heap.objs.size (I.hok.fresh (Nat.le_succ _)) (I.hok.fresh (Nat.le_refl _)) (Nat.ne_of_lt (Nat.lt_succ_self _))
  have I2 := Inv.made (C := C) I
  have r2 : Vals (V.ref (s.heap.objs.size + 1) :: (vs ++ dvs)) (Value.ref (s.heap.objs.size + 1) :: (us ++ ds)) := .cons rfl (r.append hd)
  have hl : (Value.ref (s.heap.objs.size + 1) :: us ++ ds).length = ps.length := by
    have e := r2.length
    rw [F.len _ _ _ _ hq] at e
    exact e.symm
  refine wpAny_call (make_map (f := f) I.kIn M.makes M.init (beq_iff_eq.mp M.fn) (codeAny_mono (F.run _ X.stack _ _ ⟨Value.ref (s.heap.objs.size + 1) :: us, []⟩ (Value.ref (s.heap.objs.size + 1) :: (us ++ ds)) _ _ E (hr.make C us [])
    (I2.env0.make C us []) (hb _ (Value.ref (s.heap.objs.size + 1) :: us) I2.kIn hl) r2 hq) fun r s' hq' => ?_))
  cases r with
  | error e => exact hx pins σ _ _ e s' I2 hq'
  | ok fl =>
    cases fl with
    | ret u =>
      obtain ⟨v, H', I3, rv, ev, q3⟩ := I2.after hq'
      subst ev
      exact ⟨rv, ⟨V.ref (s.heap.objs.size + 1), H', I3, rfl, q3⟩⟩
    | next => exact False.elim hq'
    | brk => exact False.elim hq'
    | cont => exact False.elim hq'
theorem pe_make0 (M : Mk X.K C f) (F : FnOk X.prog X.w X.K X.mg X.base CX k f fd ps sp) (hr : Room (k + 1) X.A) (hg : Gl X x) (hm : X.mg x = some (.ref C)) (hb : Binds X.K fd ps ds) (hd : Vals dvs ds) (hx : Passes CX X E)
    (hdb : (x == ("__debug__" : Str)) = false := by decide) : PE X (.Call (.Name x p) [] [] pos) (tMake C sp dvs E tNil) := by
  intro pins s σ H Q I h
  refine wpAny_Call_Name_kw (ld_glob I hg hm ?_ hdb)
  exact PySem.W.callWith_K0 I.kIn M.kp (run_make (us := []) M F hr hb hd hx I .nil h)
end

/-! ### keywords -/
section
variable {X : Cx} {CX : CXT} {k : Nat} {f C : Addr} {fd : FuncData} {ps ks : List Str} {sp : Sp} {E : XK} {x m : Str} {p pos apos kpos : Pos} {e o : Expr} {es : List Expr} {kws : List Keyword} {te ta : TE} {t tk : TA} {nm : Option Str}

variable {g : List Value → List Value → List Value} {gV : List V → List V → List V}
end

/-! ### a def's body keeps its promise -/
/-- names: the parameters first -/
structure FnScope (N P : List Str) (sc : Scope) : Prop where
  kind : sc.kind = .function
  co : sc.isCoroutine = false
  gen : sc.isGenerator = false
  nd : N.Nodup
  pre : N.take P.length = P
  par : ∀ x ∈ P, sc.names.lookup x = some .local ∨ sc.names.lookup x = some .cell
  nofree : ∀ y ∈ sc.names, y.2 ≠ .free

theorem bindL_out {kindOf : Str → Option NameKind} {x : Str} : ∀ {binds : List (Str × Value)} {m : Str → Option Value}, (∀ v, (x, v) ∉ binds) → bindL kindOf binds m x = m x
  | [], _, _ => rfl
  | (n, v) :: r, m, h => by
    unfold bindL
    rw [bindL_out fun w hw => h w (List.mem_cons_of_mem _ hw)]
    split
    · have : x ≠ n := by rintro rfl; exact h v List.mem_cons_self
      simp [this]
    · rfl
theorem bindC_out {kindOf : Str → Option NameKind} {x : Str} : ∀ {binds : List (Str × Value)} {m : Str → Option Value}, (∀ v, (x, v) ∉ binds) → bindC kindOf binds m x = m x
  | [], _, _ => rfl
  | (n, v) :: r, m, h => by
    unfold bindC
    rw [bindC_out fun w hw => h w (List.mem_cons_of_mem _ hw)]
    split
    · rfl
    · have : x ≠ n := by rintro rfl; exact h v List.mem_cons_self
      simp [this]
theorem bindL_get {kindOf : Str → Option NameKind} {x : Str} {v : Value} : ∀ {P : List Str} {vs : List Value} {i : Nat} {m : Str → Option Value}, P.Nodup → P[i]? = some x → vs[i]? = some v → kindOf x = some .local →
    bindL kindOf (P.zip vs) m x = some v
  | [], _, _, _, _, h, _, _ => by simp at h
  | _ :: _, [], _, _, _, _, h, _ => by simp at h
  | p :: P, w :: vs, 0, m, nd, h1, h2, hk => by
    simp at h1 h2; subst h1; subst h2
    show bindL kindOf ((p, w) :: P.zip vs) m p = _
    unfold bindL
    rw [bindL_out fun v hv => (List.nodup_cons.mp nd).1 (List.of_mem_zip hv).1, if_pos hk]
    simp
  | p :: P, w :: vs, i + 1, m, nd, h1, h2, hk => by
    show bindL kindOf ((p, w) :: P.zip vs) m x = _
    unfold bindL
    exact bindL_get (i := i) (List.nodup_cons.mp nd).2 (by simpa using h1) (by simpa using h2) hk
theorem bindC_get {kindOf : Str → Option NameKind} {x : Str} {v : Value} : ∀ {P : List Str} {vs : List Value} {i : Nat} {m : Str → Option Value}, P.Nodup → P[i]? = some x → vs[i]? = some v → kindOf x ≠ some .local →
    bindC kindOf (P.zip vs) m x = some v
  | [], _, _, _, _, h, _, _ => by simp at h
  | _ :: _, [], _, _, _, _, h, _ => by simp at h
  | p :: P, w :: vs, 0, m, nd, h1, h2, hk => by
    simp at h1 h2; subst h1; subst h2
    show bindC kindOf ((p, w) :: P.zip vs) m p = _
    unfold bindC
    rw [bindC_out fun v hv => (List.nodup_cons.mp nd).1 (List.of_mem_zip hv).1, if_neg hk]
    simp
  | p :: P, w :: vs, i + 1, m, nd, h1, h2, hk => by
    show bindC kindOf ((p, w) :: P.zip vs) m x = _
    unfold bindC
    exact bindC_get (i := i) (List.nodup_cons.mp nd).2 (by simpa using h1) (by simpa using h2) hk

/-- the names' values at the entry -/
def start (N : List Str) (vs : List V) : St := vs.map some ++ List.replicate (N.length - vs.length) none

/-- the context of a def's body, at its entry; an exception leaves the frame, then lies as CX says -/
def cxOf (CX : CXT) (P : Program) (w : World) (K : PySem.W.Frag) (mg : Str → Option Value) (base : Heap) (N : List Str) (qual : Str) (scope : Scope) (f : Addr) (cd : Value) (A : Around) (outer : List Env) (s : Shared) (H : Hp) (E : XK) : Cx where
  prog := P
  w := w
  K := K
  mg := mg
  base := base
  A := A.deeper (envOfC qual scope s.heap.objs.size f cd)
  N := N
  s_0 := s
  H_0 := H
  env := envOfC qual scope s.heap.objs.size f cd
  outer := outer
  stack := envOfC qual scope s.heap.objs.size f cd :: outer
  ex := []
  calm := true
  fn := fun _ => true
  pn := []
  xe := fun e s' => wpAny (model P w) (A.deeper (envOfC qual scope s.heap.objs.size f cd)) (leaving (envOfC qual scope s.heap.objs.size f cd) e) (fun _ s'' => CX outer H s E e s'') (fun e' s'' => CX outer H s E e' s'') s'

theorem cell_has {sc : Scope} {n : Nat} {x : Str} (h : sc.names.lookup x = some .cell) : ∃ c, (cellsFrom n sc.names []).lookup x = some c := by
  have q := PySem.W.cellsFrom_some sc.names n [] (.inl h)
  exact Option.isSome_iff_exists.mp q

theorem inv_start {CX : CXT} {P : Program} {w : World} {K : PySem.W.Frag} {mg : Str → Option Value} {base : Heap} {N ps : List Str} {qual : Str} {scope : Scope} {f : Addr} {cd : Value} {A : Around} {outer : List Env} {s s1 : Shared} {H : Hp} {E : XK} {us : List Value} {vs : List V}
    (S : FnScope N ps scope) (hd : A.handled = none) (e0 : Env0 P w K mg base A outer s H) (hl : vs.length = ps.length) (r : Vals vs us)
    (x : InCallC s s.heap.objs.size (bindL (envOfC qual scope s.heap.objs.size f cd).kindOf (ps.zip us) fun _ => none) (cellsFrom (s.heap.objs.size + 1) scope.names []) (bindC (envOfC qual scope s.heap.objs.size f cd).kindOf (ps.zip us) fun _ => none) s1) :
    Inv (cxOf CX P w K mg base N qual scope f cd A outer s H E) [] (start N vs) H s1 := by
  have hpl : ps.length ≤ N.length := by have := congrArg List.length S.pre; rw [List.length_take] at this; omega
  obtain ⟨h1, tk, rfl, hk⟩ := x.done
  have noA : ∀ b : Addr, b ∉ (cxOf CX P w K mg base N qual scope f cd A outer s H E).ex := fun b z => absurd (show b ∈ ([] : List Addr) from z) (by simp)
  refine ⟨⟨e0.mod, S.kind, rfl, rfl, Nat.le_refl _, fun y z c h1 h2 => ?_, fun y hy => ?_, fun y c _ h => ?_, fun _ => hd, Around.frames_deeper e0.frames, .inr ⟨rfl, rfl⟩, fun b z => absurd z (noA b), e0.bs, e0.bsz, fun b _ _ => noA b, fun b z => absurd z (noA b), e0.funs, e0.frf⟩,
    rfl, e0.bare, Un.kept hk, ⟨_, x.toInCall.ns, fun i y v h1 h2 h3 => ?_⟩, fun y c h => ⟨_, x.cell y c h⟩, e0.hok.fresh (Nat.le_refl _), fun y c h => ?_, fun p hp => absurd (show p ∈ ([] : List (Addr × Obj)) from hp) (by simp), e0.hok.kept hk, ?_⟩
  · exact name_of_addr x.apart (PySem.mem_of_lookup h1) (PySem.mem_of_lookup h2)
  · have hy : scope.names.lookup y = some .cell ∨ scope.names.lookup y = some .free := hy
    rcases hy with hy | hy
    · exact cell_has hy
    · exact absurd rfl (S.nofree _ (PySem.mem_of_lookup hy))
  · exact Nat.le_of_lt (x.above y c (PySem.mem_of_lookup h))
  · have hi : i < vs.length := by
      unfold start at h2
      by_cases hi : i < vs.length
      · exact hi
      · rw [List.getElem?_append_right (by simpa using hi)] at h2
        rw [List.getElem?_replicate] at h2
        split at h2 <;> cases h2
    have ha : vs[i]? = some v := by
      unfold start at h2
      rw [List.getElem?_append_left (by simpa using hi), List.getElem?_map] at h2
      cases e : vs[i]? with
      | none => rw [e] at h2; cases h2
      | some a => rw [e] at h2; cases h2; rfl
    obtain ⟨u, hu, rv⟩ := r.get ha
    have hp : ps[i]? = some y := by
      rw [← S.pre, List.getElem?_take_of_lt (by omega)]; exact h1
    have ndP : ps.Nodup := by rw [← S.pre]; exact S.nd.sublist (List.take_sublist _ _)
    refine ⟨u, rv, ?_⟩
    rcases S.par y (List.mem_of_getElem? hp) with k | k
    · exact .inl ⟨k, bindL_get ndP hp hu k⟩
    · obtain ⟨c, e⟩ := cell_has (n := s.heap.objs.size + 1) k
      refine .inr ⟨.inl k, c, e, ?_⟩
      have q := x.cell y c e
      rw [bindC_get ndP hp hu (by show scope.names.lookup y ≠ _; rw [k]; decide)] at q
      exact q
  · exact e0.hok.fresh (Nat.le_of_lt (x.above y c (PySem.mem_of_lookup h)))
  · unfold start
    show _ = N.length
    rw [List.length_append, List.length_map, List.length_replicate]
    omega

/-- THE RULE: a def (or a method) of the text, by its body. The body's reading t is chosen for each entry; it is run at the parameters' values -/
theorem fn_of {CX : CXT} {P : Program} {w : World} {K : PySem.W.Frag} {mg : Str → Option Value} {base : Heap} {k : Nat} {f : Addr} {name qual : Str} {params : Arguments} {body : List Stmt} {scope : Scope} {dV kV doc pm cdv ct oc : Value} {an od : Option Addr}
    {osl : Array (Option Value)} {N ps : List Str} {sp : Sp} (lk : K.lookup f = some ⟨oc, od, .func (PySem.W.fnOf name qual params body scope dV kV doc pm an cdv ct), osl⟩) (hcd : PySem.W.codeIn K cdv qual = true) (S : FnScope N ps scope)
    (len : ∀ vs H Q E, sp vs H Q E → vs.length = ps.length)
    (hbody : ∀ (A : Around) (outer : List Env) (s : Shared) (H : Hp) (vs : List V) (Q : VK) (E : XK), Room k (A.deeper (envOfC qual scope s.heap.objs.size f cdv)) → sp vs H Q E →
      ∃ t, PSs (cxOf CX P w K mg base N qual scope f cdv A outer s H E) body t ∧ t { nx := fun _ H' => Q .non H', rt := Q } (start N vs) H) :
    FnOk P w K mg base CX (k + 1) f (PySem.W.fnOf name qual params body scope dV kV doc pm an cdv ct) ps sp := by
  refine ⟨len, fun A outer s H args us vs Q E hr e0 hb r hsp => ?_⟩
  have hl := len _ _ _ _ hsp
  have KX : K.In s.heap := e0.mod.kin.keeps fun b o e => (e0.bs b o e).1
  have lim : s.heap.NoLimit := e0.mod.nolimit.keeps fun b o e => (e0.bs b o e).1
  have hkind : ∀ y ∈ ps.zip us, scope.names.lookup y.1 = some .local ∨ (scope.names.lookup y.1 = some .cell ∧ ((cellsFrom (s.heap.objs.size + 1) scope.names []).lookup y.1).isSome = true) := fun ⟨n, v⟩ hy => by
    rcases S.par n (List.of_mem_zip hy).1 with q | q
    · exact .inl q
    · exact .inr ⟨q, PySem.W.cellsFrom_some _ _ _ (.inl q)⟩
  refine codeAny_call_function hr.depth (KX _ _ lk) rfl S.co S.gen rfl (PySem.W.codeRec_of KX hcd) (hb _ _ _ _ ?_)
  refine wpAny_newFunctionEnv_cells S.kind hkind fun env he s1 x => ?_
  subst he
  refine ⟨lim.keeps x.toInCall.keep, codeAny_func ?_⟩
  obtain ⟨t, ht, hq⟩ := hbody A outer s H vs Q E (hr.deeper _) hsp
  have I : Inv (cxOf CX P w K mg base N qual scope f cdv A outer s H E) [] (start N vs) H s1 := inv_start S hr.hd e0 hl r x
  refine wpAny_mono (ht [] s1 (start N vs) H _ I hq) (fun fl s' hs => ?_) fun e s' hs => hs
  have fin : ∀ {σ' : St} {H' : Hp} {v : V} {u : Value}, Inv (cxOf CX P w K mg base N qual scope f cdv A outer s H E) [] σ' H' s' → RelV v u → Q v H' → CE outer P w H s Q u s' :=
    fun {σ' H' v u} J rv q => ⟨v, H', J.os, J.bare, J.base, J.hok, rv, q⟩
  cases fl with
  | ret u =>
    obtain ⟨v, σ', H', J, rv, q⟩ := hs
    exact fin J rv q
  | next =>
    obtain ⟨σ', H', J, q⟩ := hs
    exact fin (v := V.non) (u := Value.none) J rfl q
  | brk =>
    obtain ⟨_, _, _, q⟩ := hs
    exact False.elim q
  | cont =>
    obtain ⟨_, _, _, q⟩ := hs
    exact False.elim q
end L2

namespace L2
open PySem PySem.Spec PyProof.Rows
section
variable {X : Cx} {x : Str} {p pos : Pos} {e : Expr} {es : List Expr} {t : TA} {id T : String} {r : List V → Hp → VK → Prop}

def tCB (r : List V → Hp → VK → Prop) (t : TA) : TE := fun σ H Q => t σ H fun vs H1 => r vs H1 Q
/-- f(e, ..), f a built-in function -/
theorem pe_callB (hc : CallR X (.builtin id) r) (hg : Gl X x) (hm : X.mg x = none) (hv : bootBuiltins x = some (.builtin id)) (ha : PA X (e :: es) t) (hn : x ≠ "__name__" := by decide) (hdb : (x == ("__debug__" : Str)) = false := by decide)
    (he : starEach (e :: es) X.env = (false, eval e X.env) :: starEach es X.env := by rfl) (hpl : (backTo pos (starEach es X.env)).any (·.1) = false := by rfl) : PE X (.Call (.Name x p) (e :: es) [] pos) (tCB r t) := by
  intro pins s σ H Q I h
  refine wpAny_Call_Name_kw (ld_blt I hg hm hv ?_ hn hdb)
  exact PyProof.Rows.callWith_builtin1 (thn (ha pos pins s σ H _ I h) fun us s1 ⟨vs, H1, I1, r1, q1⟩ => hc pins s1 σ H1 vs us Q I1 r1 q1) he hpl
end
end L2

namespace HT
open PySem PyProof.Rows

/-- t < u of tuples of ints -/
def lexLt : List Int → List Int → Bool
  | [], [] => false
  | [], _ :: _ => true
  | _ :: _, [] => false
  | x :: xs, y :: ys => if x = y then lexLt xs ys else decide (x < y)
theorem lexLt_cons (x y : Int) (xs ys : List Int) : lexLt (x :: xs) (y :: ys) = if x = y then lexLt xs ys else decide (x < y) := rfl

theorem rcLt_int (A : Around) (s : Shared) (a : Int) (t : Tok) (c : Int) (u : Tok) (prog : Program) (w : World) (E : Value → Shared → Prop) (Q : Value → Shared → Prop) (h : Q (.bool (decide (a < c))) s) :
    wpAny (model prog w) A (richCompare .Lt (.int a t) (.int c u)) Q E s :=
  (PyProof.Rows.lt_int h : wpAny (model prog w) A (compareOp .Lt (.int a t) (.int c u)) Q E s)

section
open PySem.SeqAt
open PySem.AutoSeq1 (wpAny_loadPart')
open PySem.MeetsSeq PySem.MeetsSeq2 PySem.MeetsSeq3

end

section
variable {prog : Program} {w : World} {A : Around} {E : Value → Shared → Prop} {s : Shared}



/-! ### t[a:b], not the whole -/
/-- a slice's bound as a place among n (d where it is left out) -/
def sIx (n d : Nat) : Option Int → Nat
  | none => d
  | some v => if v < 0 then (v + (n : Int)).toNat else min v.toNat n
theorem sIx_none (n d : Nat) : sIx n d none = d := rfl
theorem sIx_nat (n d k : Nat) : sIx n d (some (k : Int)) = min k n := by
  show (if (k : Int) < 0 then ((k : Int) + (n : Int)).toNat else min (k : Int).toNat n) = min k n
  rw [if_neg (by omega), Int.toNat_natCast]

end
end HT

namespace L2
open PySem PySem.Spec PyProof.Rows

/-! ### the parts of a slice -/
abbrev TO := St → Hp → (Option Int → Hp → Prop) → Prop
/-- a slice's part (left out, or an int) -/
def PO (X : Cx) (e : Option Expr) (t : TO) : Prop :=
  ∀ (pins : List (Addr × Obj)) (s : Shared) (σ : St) (H : Hp) (Q : Option Int → Hp → Prop), Inv X pins σ H s → t σ H Q →
    wpAny (model X.prog X.w) X.A (evalPart e X.env) (fun u s' => ∃ o H', Inv X pins σ H' s' ∧ IsPart u o ∧ Q o H') X.xe s
def tNoPart : TO := fun _ H Q => Q none H
def tPart (t : TE) : TO := fun σ H Q => t σ H fun x H1 => ∃ i, x = .int i ∧ Q (some i) H1


section
variable {X : Cx} {e : Expr} {te : TE} {lo hi : Option Expr} {tl th : TO} {pos p2 : Pos}

theorem po_none : PO X none tNoPart := by
  intro pins s σ H Q I h
  rw [evalPart_none]
  exact wpAny_pure ⟨none, H, I, .none, h⟩
theorem po_some (h : PE X e te) : PO X (some e) (tPart te) := by
  intro pins s σ H Q I hw
  rw [evalPart_some]
  refine thn (h pins s σ H _ I hw) fun u s1 ⟨x, H1, I1, r1, q1⟩ => ?_
  obtain ⟨i, rfl, q⟩ := q1
  obtain ⟨t, rfl⟩ := r1
  exact ⟨some i, H1, I1, .int i t, q⟩

/-- what a slice of a value is, by values: the slice object stands at sl -/
def SlR (X : Cx) (r : V → Option Int → Option Int → Hp → VK → Prop) : Prop :=
  ∀ (pins : List (Addr × Obj)) (s : Shared) (σ : St) (H : Hp) (x : V) (v vl vu : Value) (lo hi : Option Int) (sl : Addr) (Q : VK), Inv X pins σ H s → RelV x v → s.heap.IsSliceOf sl vl vu .none → IsPart vl lo → IsPart vu hi → r x lo hi H Q →
    ∃ T id, typeLookup (.type T) "__getitem__" = pure (some (.builtin id)) ∧ s.TypeIs v T ∧ wpAny (model X.prog X.w) X.A (getItem v (.ref sl)) (EP X pins σ Q) X.xe s
def tSl (r : V → Option Int → Option Int → Hp → VK → Prop) (te : TE) (tl th : TO) : TE := fun σ H Q => te σ H fun x H1 => tl σ H1 fun l H2 => th σ H2 fun u H3 => r x l u H3 Q
/-- a[lo:hi], any a -/
theorem pe_slice {r : V → Option Int → Option Int → Hp → VK → Prop} (hr : SlR X r) (he : PE X e te) (hl : PO X lo tl) (hu : PO X hi th) : PE X (.Subscript e (.Slice lo hi none p2) pos) (tSl r te tl th) := by
  intro pins s σ H Q I h
  refine Subscript_ (thn (he pins s σ H _ I h) fun v s1 ⟨x, H1, I1, r1, q1⟩ => ?_)
  refine wpAny_Slice (thn (hl pins s1 σ H1 _ I1 q1) fun vl s2 ⟨l, H2, I2, pl, q2⟩ => thn (hu pins s2 σ H2 _ I2 q2) fun vu s3 ⟨u, H3, I3, pu, q3⟩ => ?_)
  rw [evalPart_none]
  refine wpAny_pure ?_
  have I4 : Inv X pins σ H3 { s3 with heap := s3.heap.push { cls := .type "slice", data := .fields #[vl, vu, .none] } } := I3.kept (t' := s3.toks) fun b ob q => Heap.get?_push_of_some _ q
  obtain ⟨T, id, hT, ht, hg⟩ := hr pins { s3 with heap := s3.heap.push { cls := .type "slice", data := .fields #[vl, vu, .none] } } σ H3 x v vl vu l u s3.heap.objs.size Q I4 r1 (Heap.IsSliceOf.new ..) pl pu q3
  show wpAny (model X.prog X.w) X.A (subscriptTail e (.Slice lo hi none p2) v (.ref s3.heap.objs.size)) (EP X pins σ Q) X.xe { s3 with heap := s3.heap.push { cls := .type "slice", data := .fields #[vl, vu, .none] } }
  exact tail_any (ops := [.ref s3.heap.objs.size, v]) ht hT hg (by with_unfolding_all rfl)

/-- the items of xs[lo:hi] -/
def cutV (xs : List V) (lo hi : Option Int) : List V := (xs.drop (HT.sIx xs.length 0 lo)).take (HT.sIx xs.length xs.length hi - HT.sIx xs.length 0 lo)
theorem cutV_length (xs : List V) (lo hi : Option Int) : (cutV xs lo hi).length ≤ xs.length := by
  unfold cutV
  rw [List.length_take, List.length_drop]
  omega

/-! ### t < u, t + u -/
end
end L2

namespace L2
open PySem PySem.Spec PyProof.Rows

/-! ### places -/
/-- the place that an index of any sign means -/
def ixN (n : Nat) (i : Int) : Option Nat := if 0 ≤ i then (if i < n then some i.toNat else none) else if -(n : Int) ≤ i then some (i + n).toNat else none
def atI {α : Type} (xs : List α) (i : Int) : Option α := (ixN xs.length i).bind fun j => xs[j]?
theorem ixN_seq {n : Nat} {i : Int} {j : Nat} (h : ixN n i = some j) : seqIndex? i n = some j ∧ j < n ∧ -(n : Int) ≤ i ∧ i < n := by
  unfold ixN at h
  by_cases h0 : 0 ≤ i
  · rw [if_pos h0] at h
    by_cases h1 : i < n
    · rw [if_pos h1] at h
      have e : i.toNat = j := Option.some.inj h
      exact ⟨by rw [seqIndex_of h0 h1, e], by omega, by omega, h1⟩
    · rw [if_neg h1] at h; cases h
  · rw [if_neg h0] at h
    by_cases h1 : -(n : Int) ≤ i
    · rw [if_pos h1] at h
      have e : (i + n).toNat = j := Option.some.inj h
      exact ⟨by rw [seqIndex_neg (by omega) h1, e], by omega, h1, by omega⟩
    · rw [if_neg h1] at h; cases h
theorem atI_get {α : Type} {xs : List α} {i : Int} {v : α} (h : atI xs i = some v) : ∃ j, seqIndex? i xs.length = some j ∧ xs[j]? = some v ∧ j < xs.length ∧ -(xs.length : Int) ≤ i ∧ i < xs.length := by
  unfold atI at h
  cases e : ixN xs.length i with
  | none => rw [e] at h; cases h
  | some j =>
    rw [e] at h
    obtain ⟨h1, h2, h3, h4⟩ := ixN_seq e
    exact ⟨j, h1, h, h2, h3, h4⟩
theorem atI_nat {α : Type} {xs : List α} {j : Nat} {v : α} (h : xs[j]? = some v) : atI xs (j : Int) = some v := by
  have hj : j < xs.length := (List.getElem?_eq_some_iff.mp h).1
  have e : ixN xs.length (j : Int) = some j := by
    unfold ixN
    rw [if_pos (by omega), if_pos (by omega)]; simp
  unfold atI; rw [e]; exact h

/-! ### what may be subscripted -/
/-- what stands as an index of a plain subscript -/
def PlainIx (b : Expr) : Prop := ∀ o i, subscripted b false o i = operate [o, i] (getItem o i)
/-- a subscript by values -/
def IxR (X : Cx) (r : R2) : Prop :=
  ∀ (value slice : Expr) (pins : List (Addr × Obj)) (s : Shared) (σ : St) (H : Hp) (x y : V) (v u : Value) (Q : VK), Inv X pins σ H s → RelV x v → RelV y u → r x y H Q →
    subscripted slice false v u = operate [v, u] (getItem v u) → wpAny (model X.prog X.w) X.A (subscriptTail value slice v u) (EP X pins σ Q) X.xe s
/-- a call of a builtin's method by values: the receiver, the arguments -/
def MtR (X : Cx) (id : String) (r : V → List V → Hp → VK → Prop) : Prop :=
  ∀ (pins : List (Addr × Obj)) (s : Shared) (σ : St) (H : Hp) (x : V) (xs : List V) (v : Value) (us : List Value) (Q : VK), Inv X pins σ H s → RelV x v → Vals xs us → r x xs H Q →
    wpAny (model X.prog X.w) X.A (call (.builtin id) (v :: us)) (EP X pins σ Q) X.xe s
section
variable {X : Cx} {a b : Expr} {ta tb : TE} {pos : Pos}
/-- a[b] -/
theorem pe_ix {r : R2} (hr : IxR X r) (ha : PE X a ta) (hb : PE X b tb) (hs : PlainIx b) : PE X (.Subscript a b pos) (tOp r ta tb) := by
  intro pins s σ H Q I h
  exact Subscript_ (binT ha hb I h fun v u s2 x y H2 I2 rx ry q => hr a b pins s2 σ H2 x y v u Q I2 rx ry q (hs _ _))

def rIxL (K : PySem.W.Frag) : R2 := fun x y H Q => ∃ p xs i v, x = .ref p ∧ y = .int i ∧ SqL K H p xs ∧ atI xs i = some v ∧ Q v H
def rIxT (K : PySem.W.Frag) : R2 := fun x y H Q => ∃ p xs i v, x = .ref p ∧ y = .int i ∧ SqT K H p xs ∧ atI xs i = some v ∧ Q v H
theorem ix_list : IxR X (rIxL X.K) := by
  intro value slice pins s σ H x y v u Q I rx ry h hs
  obtain ⟨p, xs, i, z, rfl, rfl, hq, he, q⟩ := h
  cases rx
  obtain ⟨t, rfl⟩ := ry
  obtain ⟨its, r, pl, hz⟩ := I.list hq
  obtain ⟨j, h1, h2, h3, h4, h5⟩ := atI_get he
  obtain ⟨w, ew, rw'⟩ := r.get h2
  have hl := r.length
  have hn := line63
  have fin : EP X pins σ Q w s := ⟨z, H, I, rw', q⟩
  by_cases h0 : 0 ≤ i
  · have hj : i.toNat = j := by
      rw [seqIndex_of h0 h5] at h1
      exact Option.some.inj h1
    exact item_listR pl.isList h0 (by omega) (by rw [hj]; simpa using ew) fin hs
  · have hj : (i + (its.toArray.size : Int)).toNat = j := by
      rw [seqIndex_neg (by omega) h4] at h1
      rw [List.size_toArray, ← hl]
      exact Option.some.inj h1
    exact subscriptTail_builtinR (x := w) pl.isList.typeIs slot_list_getitem.lookup
      (wpAny_getItem_list_neg (Q := fun r s' => r = w ∧ EP X pins σ Q r s') pl.isList (by omega) (by rw [List.size_toArray] <;> omega) (by omega) (by rw [hj]; simpa using ew) ⟨rfl, fin⟩) hs
theorem ix_tup : IxR X (rIxT X.K) := by
  intro value slice pins s σ H x y v u Q I rx ry h hs
  obtain ⟨p, xs, i, z, rfl, rfl, hq, he, q⟩ := h
  cases rx
  obtain ⟨t, rfl⟩ := ry
  obtain ⟨its, r, pl, hz⟩ := I.tuple hq
  obtain ⟨j, h1, h2, h3, h4, h5⟩ := atI_get he
  obtain ⟨w, ew, rw'⟩ := r.get h2
  have hl := r.length
  have hn := line63
  have fin : EP X pins σ Q w s := ⟨z, H, I, rw', q⟩
  exact subscriptTail_builtinR (x := w) pl.typeIs slot_tuple_getitem.lookup
    (getItem_tuple (j := j) (Q := fun r s' => r = w ∧ EP X pins σ Q r s') pl (by omega) (by omega) (by rw [List.size_toArray, ← hl]; exact h1) (by simpa using ew) ⟨rfl, fin⟩) hs

/-! ### xs[i] = v, any sign -/

/-! ### slices -/
theorem slice_bounds (lo hi : Option Int) (n : Nat) : (sliceBounds lo hi none n).1 = ((HT.sIx n 0 lo : Nat) : Int) ∧ (sliceBounds lo hi none n).2.1 = ((HT.sIx n n hi : Nat) : Int) ∧ (sliceBounds lo hi none n).2.2 = 1 := by
  refine ⟨?_, ?_, rfl⟩
  · cases lo with
    | none => simp [sliceBounds, HT.sIx]
    | some i =>
      simp only [sliceBounds, HT.sIx, Option.getD_none, show (1 : Int) > 0 by decide, if_true]
      by_cases h : i < 0
      · simp only [h, if_true] <;> omega
      · simp only [h, if_false] <;> omega
  · cases hi with
    | none => simp [sliceBounds, HT.sIx]
    | some i =>
      simp only [sliceBounds, HT.sIx, Option.getD_none, show (1 : Int) > 0 by decide, if_true]
      by_cases h : i < 0
      · simp only [h, if_true] <;> omega
      · simp only [h, if_false] <;> omega
theorem slicePick_cut (its : List Value) (lo hi : Option Int) : slicePick its.toArray lo hi none = ((its.drop (HT.sIx its.length 0 lo)).take (HT.sIx its.length its.length hi - HT.sIx its.length 0 lo)).toArray := by
  obtain ⟨h1, h2, h3⟩ := slice_bounds lo hi its.toArray.size
  unfold slicePick
  rw [h1, h2, h3]
  simp only [sliceRange_one, pick_run, List.size_toArray] <;> rfl
/-- xs[lo:hi] of a list: a new list -/
def rSlL (K : PySem.W.Frag) : V → Option Int → Option Int → Hp → VK → Prop := fun x lo hi H Q => ∃ a xs, x = .ref a ∧ SqL K H a xs ∧ ∀ p, H p = none → Q (.ref p) (upd H p (.lst (cutV xs lo hi)))
theorem sl_list : SlR X (rSlL X.K) := by
  intro pins s σ H x v vl vu lo hi sl Q I rx hs pl pu h
  obtain ⟨a, xs, rfl, hx, q⟩ := h
  cases rx
  obtain ⟨its, r, ht, hz⟩ := I.list hx
  have hlen := r.length
  refine ⟨"list", _, slot_list_getitem.lookup, ht.isList.typeIs, ?_⟩
  refine wpAny_getItem_list_slice ht.isList hs pl pu .none (by simp) ?_ (by rw [List.size_toArray] <;> omega)
  rw [slicePick_cut, ← hlen]
  refine ⟨.ref s.heap.objs.size, _, I.laid (t' := s.toks) (o := .lst (cutV xs lo hi)) (fun b ob q => Heap.get?_push_of_some _ q) (Nat.le_refl _) ?_, rfl, q _ (I.hok.fresh (Nat.le_refl _))⟩
  exact ⟨Nat.le_trans (cutV_length xs lo hi) hz, _, 0, (r.drop (HT.sIx xs.length 0 lo)).take (HT.sIx xs.length xs.length hi - HT.sIx xs.length 0 lo), Heap.get?_push_size _ rfl⟩

/-! ### in, not in: flat items -/
def flatV : V → Bool
  | .non => true
  | .bl _ => true
  | .int _ => true
  | .str _ => true
  | _ => false
/-- == of flat values -/
def eqV : V → V → Bool
  | .non, .non => true
  | .bl a, .bl b => a == b
  | .bl a, .int b => (if a then 1 else 0) == b
  | .int a, .bl b => a == (if b then 1 else 0)
  | .int a, .int b => a == b
  | .str a, .str b => a == b
  | _, _ => false
theorem eqAt_V {A : Around} {s : Shared} {y x : V} {u v : Value} (ry : RelV y u) (rx : RelV x v) (fy : flatV y = true) (fx : flatV x = true) : SeqAt.EqAt A s u v (eqV y x) := by
  cases y with
  | non =>
    cases ry
    cases x with
    | non => cases rx; exact SeqAt.EqAt.same _
    | bl b => cases rx; exact SeqAt.EqAt.none_bool b
    | int b => obtain ⟨t, rfl⟩ := rx; exact SeqAt.EqAt.none_int b t
    | str b => obtain ⟨t, rfl⟩ := rx; exact SeqAt.EqAt.none_str b t
    | _ => exact absurd (show false = true from fx) Bool.false_ne_true
  | bl a =>
    cases ry
    cases x with
    | non => cases rx; exact SeqAt.EqAt.bool_none a
    | bl b => cases rx; exact SeqAt.EqAt.bool_bool a b
    | int b => obtain ⟨t, rfl⟩ := rx; exact SeqAt.EqAt.bool_int a b t
    | str b => obtain ⟨t, rfl⟩ := rx; exact SeqAt.EqAt.bool_str a b t
    | _ => exact absurd (show false = true from fx) Bool.false_ne_true
  | int a =>
    obtain ⟨t', rfl⟩ := ry
    cases x with
    | non => cases rx; exact SeqAt.EqAt.int_none a t'
    | bl b => cases rx; exact SeqAt.EqAt.int_bool a t' b
    | int b => obtain ⟨t, rfl⟩ := rx; exact SeqAt.EqAt.int_int a t' b t
    | str b => obtain ⟨t, rfl⟩ := rx; exact SeqAt.EqAt.int_str a t' b t
    | _ => exact absurd (show false = true from fx) Bool.false_ne_true
  | str a =>
    obtain ⟨t', rfl⟩ := ry
    cases x with
    | non => cases rx; exact SeqAt.EqAt.str_none a t'
    | bl b => cases rx; exact SeqAt.EqAt.str_bool a t' b
    | int b => obtain ⟨t, rfl⟩ := rx; exact SeqAt.EqAt.str_int a t' b t
    | str b => obtain ⟨t, rfl⟩ := rx; exact SeqAt.EqAt.str_str a t' b t
    | _ => exact absurd (show false = true from fx) Bool.false_ne_true
  | _ => exact absurd (show false = true from fy) Bool.false_ne_true
/-- the items' answers, read off the values (a value's own answer does not lean on its token) -/
def eqU (x : V) (u : Value) : Bool := match u with
  | .none => eqV .non x
  | .bool b => eqV (.bl b) x
  | .int i _ => eqV (.int i) x
  | .str z _ => eqV (.str z) x
  | _ => false
theorem eqU_of {x y : V} {u : Value} (r : RelV y u) (f : flatV y = true) : eqU x u = eqV y x := by
  cases y with
  | non => cases r; rfl
  | bl b => cases r; rfl
  | int i => obtain ⟨t, rfl⟩ := r; rfl
  | str z => obtain ⟨t, rfl⟩ := r; rfl
  | _ => exact absurd (show false = true from f) Bool.false_ne_true
theorem any_eqU {x : V} : ∀ {xs : List V} {us : List Value}, Vals xs us → xs.all flatV = true → us.any (eqU x) = xs.any fun y => eqV y x
  | _, _, .nil, _ => rfl
  | y :: xs, u :: us, .cons r t, f => by
    rw [List.all_cons, Bool.and_eq_true] at f
    rw [List.any_cons, List.any_cons, eqU_of r f.1, any_eqU t f.2]
theorem mem_eqAt {A : Around} {s : Shared} {x : V} {v : Value} (rx : RelV x v) (fx : flatV x = true) : ∀ {xs : List V} {us : List Value}, Vals xs us → xs.all flatV = true → ∀ u ∈ us, SeqAt.EqAt A s u v (eqU x u)
  | _, _, .nil, _ => fun u hu => by cases hu
  | y :: xs, u :: us, .cons r t, f => fun u' hu => by
    rw [List.all_cons, Bool.and_eq_true] at f
    rcases List.mem_cons.mp hu with rfl | hu
    · rw [eqU_of r f.1]; exact eqAt_V r rx f.1 fx
    · exact mem_eqAt rx fx t f.2 u' hu
def inV (x : V) (xs : List V) : Bool := xs.any fun y => eqV y x
/-- x in a list or tuple of flat items -/
def rIn (K : PySem.W.Frag) (neg : Bool) : R2 := fun x y H Q => ∃ p xs, y = .ref p ∧ (SqL K H p xs ∨ SqT K H p xs) ∧ flatV x = true ∧ xs.all flatV = true ∧ Q (.bl (if neg then !inV x xs else inV x xs)) H
theorem op_notIn_seq : OpR X (compareOp .NotIn) (rIn X.K true) := by
  intro pins s σ H x y v u Q I rx ry h
  obtain ⟨p, xs, rfl, hq, fx, fs, q⟩ := h
  cases ry
  rcases hq with hq | hq
  · obtain ⟨its, r, pl, hz⟩ := I.list hq
    refine SeqAt.notIn_listAt (eqU x) pl.isList (fun w hw => mem_eqAt rx fx r fs w (by simpa using hw)) ⟨.bl _, H, I, rfl, ?_⟩
    rw [show its.toArray.any (eqU x) = its.any (eqU x) by simp, any_eqU r fs]
    exact q
  · obtain ⟨its, r, pl, hz⟩ := I.tuple hq
    refine SeqAt.notIn_tupleAt (eqU x) pl (fun w hw => mem_eqAt rx fx r fs w (by simpa using hw)) ⟨.bl _, H, I, rfl, ?_⟩
    rw [show its.toArray.any (eqU x) = its.any (eqU x) by simp, any_eqU r fs]
    exact q

/-! ### len, list(x), tuple(x) of any list or tuple that is read -/
theorem call_len_seq : CallR X (.builtin "len") (fun xs H Q => ∃ p ys, xs = [.ref p] ∧ (SqL X.K H p ys ∨ SqT X.K H p ys) ∧ Q (.int ys.length) H) := by
  intro pins s σ H xs us Q I r h
  obtain ⟨p, ys, rfl, hq, q⟩ := h
  obtain ⟨u, rfl, rx⟩ := vals1 r
  cases rx
  have hn := line63
  rcases hq with hq | hq
  · obtain ⟨its, r', pl, hz⟩ := I.list hq
    have hlen := r'.length
    exact Calls.call_len_list pl.isList (by simp only [List.size_toArray] <;> omega) ⟨.int ys.length, H, I.tok _, ⟨s.toks + 1, by rw [List.size_toArray, hlen]⟩, q⟩
  · obtain ⟨its, r', pl, hz⟩ := I.tuple hq
    have hlen := r'.length
    exact len_tuple pl (by simp only [List.size_toArray] <;> omega) ⟨.int ys.length, H, I.tok _, ⟨s.toks + 1, by rw [List.size_toArray, hlen]⟩, q⟩

/-! ### the call of a builtin's method: o.m(..) -/
/-- the value is of that builtin type -/
def tyV (K : PySem.W.Frag) (T : String) (x : V) (H : Hp) : Prop := match x with
  | .str _ => T = "str"
  | .int _ => T = "int"
  | .ref p => (T = "list" ∧ ∃ xs, SqL K H p xs) ∨ (T = "tuple" ∧ ∃ o, K.lookup p = some o ∧ o.cls = .type "tuple" ∧ o.dict = none) ∨
      (T = "dict" ∧ ((∃ kvs, H p = some (.dK kvs)) ∨ ∃ kvs, H p = some (.dT kvs))) ∨ (T = "set" ∧ ∃ S n, H p = some (.set S n))
  | _ => False
theorem tyV_is {pins : List (Addr × Obj)} {σ : St} {H : Hp} {s : Shared} {T : String} {x : V} {v : Value} (I : Inv X pins σ H s) (r : RelV x v) (ty : tyV X.K T x H) :
    s.TypeIs v T ∧ ∀ a, v = .ref a → ∃ ob, s.heap.get? a = some ob ∧ ob.dict = none := by
  cases x with
  | str z =>
    obtain ⟨t, rfl⟩ := r
    cases (show T = "str" from ty)
    exact ⟨typeIs_str s z t, fun _ e => nomatch e⟩
  | int i =>
    obtain ⟨t, rfl⟩ := r
    cases (show T = "int" from ty)
    exact ⟨typeIs_int s i t, fun _ e => nomatch e⟩
  | ref p =>
    cases r
    rcases ty with ⟨rfl, xs, hq⟩ | ⟨rfl, o, hk, hc, hd⟩ | ⟨rfl, hk⟩ | ⟨rfl, S, n, hk⟩
    · obtain ⟨its, _, pl, _⟩ := I.list hq
      refine ⟨pl.isList.typeIs, fun a e => ?_⟩
      cases e
      obtain ⟨o, n, e, c, hd, _⟩ := pl
      exact ⟨o, e, hd⟩
    · refine ⟨⟨o, I.kIn p o hk, hc⟩, fun a e => ?_⟩
      cases e
      exact ⟨o, I.kIn _ o hk, hd⟩
    · have z : ∃ o, s.heap.get? p = some o ∧ o.ExactDict := by
        rcases hk with ⟨kvs, hk⟩ | ⟨kvs, hk⟩
        · obtain ⟨_, _, _, _, o, _, _, e, ex, _⟩ := I.hok p _ hk
          exact ⟨o, e, ex⟩
        · obtain ⟨_, _, _, _, o, _, _, e, ex, _⟩ := I.hok p _ hk
          exact ⟨o, e, ex⟩
      obtain ⟨o, e, ex⟩ := z
      refine ⟨⟨o, e, ex.1⟩, fun a e2 => ?_⟩
      cases e2
      exact ⟨o, e, ex.2.1⟩
    · obtain ⟨o, _, _, _, e, ex, _⟩ := I.hok p _ hk
      refine ⟨⟨o, e, ex.1⟩, fun a e2 => ?_⟩
      cases e2
      exact ⟨o, e, ex.2.1⟩
  | _ => exact False.elim ty
def tBM (K : PySem.W.Frag) (T : String) (r : V → List V → Hp → VK → Prop) (to : TE) (t : TA) : TE := fun σ H Q => to σ H fun x H1 => tyV K T x H1 ∧ t σ H1 fun xs H2 => r x xs H2 Q
variable {o e : Expr} {es : List Expr} {to : TE} {t : TA} {name : Str} {apos cpos : Pos} {T id : String} {r : V → List V → Hp → VK → Prop}
theorem pe_bm (pa : PlainAttrs T) (slot : Slot T name id) (hty : typeOf (.builtin id) = pure (.type "method_descriptor")) (hm : MtR X id r) (ho : PE X o to) (ha : PA X (e :: es) t)
    (hbase : attributeBase o name X.env (eval o X.env) = eval o X.env := by rfl)
    (hfew : ((backTo cpos (starEach (e :: es) X.env)).all (fun x => !x.1) && (backToKw cpos (keywordEach [] X.env)).all (fun x => x.1.isSome)
      && decide ((e :: es).length + ([] : List Keyword).length + (if ([] : List Keyword).isEmpty then 0 else 1) < 30)) = true := by rfl)
    (hline : (apos.endLine == cpos.line) = true := by rfl) (hs : starEach (e :: es) X.env = (false, eval e X.env) :: starEach es X.env := by rfl) (hplain : (backTo cpos (starEach es X.env)).any (·.1) = false := by rfl) :
    PE X (.Call (.Attribute o name apos) (e :: es) [] cpos) (tBM X.K T r to t) := by
  intro pins s σ H Q I h
  refine wpAny_Call_method_late hbase hfew hline rfl (thn (ho pins s σ H _ I h) fun v s1 ⟨x, H1, I1, r1, ty, q1⟩ => ?_)
  obtain ⟨h1, h2⟩ := tyV_is I1 r1 ty
  refine ⟨T, id, pa, slot, hty, h1, h2, ?_⟩
  have hA := ha cpos pins s1 σ H1 _ I1 q1
  rw [hs] at hA ⊢
  refine Calls.callWith_builtin (by show (false || (backTo cpos (starEach es X.env)).any (·.1)) = false; rw [hplain] <;> rfl) (Calls.evalArgs_plain ?_)
  exact thn hA fun us s2 ⟨vs, H2, I2, r2, q2⟩ => hm pins s2 σ H2 x vs v us Q I2 r1 r2 q2
/- xs.append(e), list.index on a module's tuple .. are MtR facts of 06m -/
end
end L2

namespace L2
open PySem PySem.Spec PyProof.Rows

def MtM (X : Cx) (id : String) (r : V → List V → Hp → VK → Prop) : Prop :=
  ∀ (pins : List (Addr × Obj)) (s : Shared) (σ : St) (H : Hp) (x : V) (xs : List V) (v : Value) (us : List Value) (Q : VK), Inv X pins σ H s → RelV x v → Vals xs us → r x xs H Q →
    wpAny (model X.prog X.w) X.A (call (.builtin id) (v :: us)) (EP X pins σ Q) X.xe s

/-! ### lists of values -/
theorem Vals.one : ∀ {x : V} {us : List Value}, Vals [x] us → ∃ u, us = [u] ∧ RelV x u
  | _, _, .cons r .nil => ⟨_, rfl, r⟩

section
variable {X : Cx} {pins : List (Addr × Obj)} {σ : St} {H : Hp} {s : Shared} {l b : Addr} {xs ys zs : List V}

/-! ### the two steps: a tracked list is rewritten, a new list is laid -/
theorem Inv.lset {its its' : List Value} {n : Nat} {f : Array Value → Array Value} {t' : Nat} (I : Inv X pins σ H s) (hH : H l = some (.lst xs))
    (e : s.heap.get? l = some { cls := .type "list", data := .seq its.toArray n }) (hf : f its.toArray = its'.toArray) (hv : Vals ys its') (hz : ys.length ≤ sizeLine) :
    Inv X pins σ (upd H l (.lst ys)) { s with heap := s.heap.update l (Obj.mapSeq f), toks := t' } := by
  have q := PySem.IsL.update e f
  rw [hf] at q
  refine I.write (x := l) (e := l) (by rw [hH]; exact trivial) (.inl rfl) (fun b' u hb hu => (Heap.get?_update_other s.heap (Obj.mapSeq f) (Ne.symm hb)).trans hu) ⟨_, q⟩ ?_
  exact ⟨hz, its', _, hv, q⟩
theorem Inv.lnew {its : List Value} {t' : Nat} (I : Inv X pins σ H s) (hv : Vals ys its) (hz : ys.length ≤ sizeLine) :
    Inv X pins σ (upd H s.heap.objs.size (.lst ys)) { s with heap := s.heap.push { cls := .type "list", data := .seq its.toArray }, toks := t' } :=
  I.laid (fun _ _ q => Heap.get?_push_of_some _ q) (Nat.le_refl _) ⟨hz, its, 0, hv, Heap.get?_push_size _ rfl⟩
theorem Inv.fresh (I : Inv X pins σ H s) : H s.heap.objs.size = none := I.hok.fresh (Nat.le_refl _)
theorem Inv.lstM (I : Inv X pins σ H s) (hH : H l = some (.lst xs)) : xs.length ≤ sizeLine ∧ ∃ (its : List Value) (n : Nat), Vals xs its ∧ xs.length = its.length ∧ s.heap.get? l = some { cls := .type "list", data := .seq its.toArray n } := by
  obtain ⟨z, its, n, r, e⟩ := I.hok l _ hH
  exact ⟨z, its, n, r, r.length, e⟩

theorem notLongL {n : Nat} (h : n ≤ sizeLine) : Builtin.List.listTooLong n = false := by
  unfold Builtin.List.listTooLong
  exact decide_eq_false (by omega)
end

section
variable {X : Cx}

/-! ### methods -/
def rAppend : V → List V → Hp → VK → Prop := fun x vs H Q => ∃ l xs y, x = .ref l ∧ vs = [y] ∧ H l = some (.lst xs) ∧ xs.length < sizeLine ∧ Q .non (upd H l (.lst (xs ++ [y])))
theorem mt_append : MtM X "list.append" rAppend := by
  intro pins s σ H x vs v us Q I rx rv h
  obtain ⟨l, xs, y, rfl, rfl, hH, hz, q⟩ := h
  cases rx
  obtain ⟨u, rfl, ru⟩ := rv.one
  obtain ⟨z, its, n, r, hl, e⟩ := I.lstM hH
  refine call_meets F.slot_list_append ⟨_, e, rfl⟩ F.entry_list_append (F.args_list_append_2 _ _) (PySem.list_append l its.toArray n u (by rw [List.size_toArray]; omega)) ⟨e, ?_⟩
  refine ⟨.non, _, I.lset (its' := its ++ [u]) hH e (by simp) (r.append (.cons ru .nil)) ?_, rfl, q⟩
  rw [List.length_append, List.length_singleton]
  omega

def rExtend : V → List V → Hp → VK → Prop := fun x vs H Q => ∃ l b xs zs, x = .ref l ∧ vs = [.ref b] ∧ H l = some (.lst xs) ∧ H b = some (.lst zs) ∧ xs.length + zs.length ≤ sizeLine ∧ Q .non (upd H l (.lst (xs ++ zs)))
theorem mt_extend : MtM X "list.extend" rExtend := by
  intro pins s σ H x vs v us Q I rx rv h
  obtain ⟨l, b, xs, zs, rfl, rfl, hH, hB, hz, q⟩ := h
  cases rx
  obtain ⟨u, rfl, ru⟩ := rv.one
  cases ru
  obtain ⟨z, its, n, r, hl, e⟩ := I.lstM hH
  obtain ⟨z2, its2, n2, r2, hl2, e2⟩ := I.lstM hB
  have hsz : its.toArray.size + its2.toArray.size ≤ sizeLine := by rw [List.size_toArray, List.size_toArray]; omega
  have hlong : ¬ (!its.toArray.isEmpty && Builtin.List.listTooLong (its.toArray.size + its2.toArray.size)) = true := by
    rw [notLongL hsz, Bool.and_false]
    exact Bool.false_ne_true
  refine call_meets F.slot_list_extend ⟨_, e, rfl⟩ F.entry_list_extend (F.args_list_extend_2 _ _)
    (AutoSeq1.list_extend_list_list_0 l its.toArray n b its2.toArray n2 hlong (by rw [List.size_toArray]; omega) (by omega)) ⟨e, e2, ?_⟩
  refine ⟨.non, _, I.lset (its' := its ++ its2) hH e (by simp) (r.append r2) ?_, rfl, q⟩
  rw [List.length_append]
  omega





/-! ### list + list, list += list, list * int -/
def rCat : R2 := fun x y H Q => ∃ l b xs zs, x = .ref l ∧ y = .ref b ∧ H l = some (.lst xs) ∧ H b = some (.lst zs) ∧ xs.length + zs.length ≤ sizeLine ∧ ∀ p, H p = none → Q (.ref p) (upd H p (.lst (xs ++ zs)))
theorem op_cat : OpR X (binaryOp .Add) rCat := by
  intro pins s σ H x y v u Q I rx ry h
  obtain ⟨l, b, xs, zs, rfl, rfl, hH, hB, hz, q⟩ := h
  cases rx
  cases ry
  obtain ⟨z, its, n, r, hl, e⟩ := I.lstM hH
  obtain ⟨z2, its2, n2, r2, hl2, e2⟩ := I.lstM hB
  refine PySem.P.add_list e e2 ?_ (by rw [List.size_toArray, List.size_toArray]; omega)
  have ea : its.toArray ++ its2.toArray = (its ++ its2).toArray := by simp
  rw [ea]
  exact ⟨.ref _, _, I.lnew (t' := s.toks) (r.append r2) (by rw [List.length_append]; omega), rfl, q _ I.fresh⟩

/-! ### del xs[i] -/
end

/-! ### xs[a:b] = ys -/
section
variable {prog : Program} {w : World} {A : Around} {E : Value → Shared → Prop} {s : Shared}
end

section
variable {X : Cx}
end
end L2

namespace L2
open PySem PySem.Spec PyProof.Rows

theorem Vals.ints : ∀ {ns : List Int} {us : List Value}, Vals (ns.map V.int) us → IntsAre us ns
  | [], us, h => by
    rw [List.map_nil] at h
    cases h
    exact IntsAre.nil
  | n :: ns, us, h => by
    rw [List.map_cons] at h
    cases h with
    | cons r t =>
      obtain ⟨k, rfl⟩ := r
      exact IntsAre.cons n k (Vals.ints t)
theorem vals_of_ints : ∀ {us : List Value} {ns : List Int}, IntsAre us ns → Vals (ns.map V.int) us
  | _, _, .nil => by rw [List.map_nil]; exact Paired.nil
  | _, _, .cons n t h => by rw [List.map_cons]; exact Paired.cons (show RelV (V.int n) (Value.int n t) from ⟨t, rfl⟩) (vals_of_ints h)
theorem Vals.ref1 {a : Addr} {us : List Value} (r : Vals [V.ref a] us) : us = [Value.ref a] := by
  cases r with
  | cons r t =>
    cases t
    cases r
    rfl

/-! ### the library's walks over a list of ints, kept objects alone -/
section
variable {prog : Program} {w : World} {A : Around} {E : Value → Shared → Prop} {s : Shared} {l : Addr} {its : List Value} {ns : List Int} {Q : Value → Shared → Prop}
theorem sum_raw (hh : A.handled = none) (hl : s.heap.IsList l its.toArray) (hi : IntsAre its ns)
    (h : ∀ h' tk t', (∀ b o, s.heap.get? b = some o → h'.get? b = some o) → Q (.int ns.sum t') { s with heap := h', toks := tk }) : wpAny (model prog w) A (call (.builtin "sum") [.ref l]) Q E s := by
  obtain ⟨xs, e⟩ := hi.allInts.items
  have hn : numsOf (intItems xs).toList = ns := by rw [← e]; exact hi.numsOf
  rw [nums_intItems] at hn
  rw [e] at hl
  refine PySem.sum_intListG hh hl fun h' tk t' hk => ?_
  have := h h' tk t' hk
  rw [preSum_eq, List.take_of_length_le (by simp), hn]; exact this
end

/-! ### the calls, by values (CallR of 03t; MtR of 06l) -/
section
variable {X : Cx}
/-- sum(xs) of a list of ints -/
def rSum (K : PySem.W.Frag) : List V → Hp → VK → Prop := fun vs H Q => ∃ (a : Addr) (ns : List Int), vs = [V.ref a] ∧ SqL K H a (ns.map V.int) ∧ Q (.int ns.sum) H
theorem cr_sum (hc : X.calm = true) : CallR X (.builtin "sum") (rSum X.K) := by
  intro pins s σ H vs us Q I r h
  obtain ⟨a, ns, rfl, hs, q⟩ := h
  obtain ⟨its, rv, hl, _⟩ := I.list hs
  rw [Vals.ref1 r]
  exact sum_raw (I.ok.hd hc) hl.isList rv.ints fun h' tk t' hk => ⟨.int _, H, I.kept hk, ⟨_, rfl⟩, q⟩

/-! sorted, sort (fewer than 64 items: the library's own bound) -/
def rSorted (K : PySem.W.Frag) : List V → Hp → VK → Prop := fun vs H Q => ∃ (a : Addr) (ns : List Int), vs = [V.ref a] ∧ SqL K H a (ns.map V.int) ∧ ns.length < 64 ∧
  ∀ (ns' : List Int) (p : Addr), ns'.Perm ns → ns'.Pairwise (· ≤ ·) → H p = none → Q (.ref p) (upd H p (.lst (ns'.map V.int)))
theorem small64 {n : Nat} (h : n < 64) : n ≤ sizeLine := by rw [sizeLine_eq]; omega
theorem cr_sorted : CallR X (.builtin "sorted") (rSorted X.K) := by
  intro pins s σ H vs us Q I r h
  obtain ⟨a, ns, rfl, hs, h64, q⟩ := h
  obtain ⟨its, rv, hl, _⟩ := I.list hs
  rw [Vals.ref1 r]
  have hi := rv.ints
  refine PyProof.Rows.sorted_ints hl.isList hi (by rw [hi.length]; exact h64) fun out ns' h1 h2 h3 => ?_
  obtain ⟨ep, he'⟩ := PyProof.Rows.sortedAll_at s.heap its out
  have hlen : (ns'.map V.int).length ≤ sizeLine := by rw [List.length_map, h2.length_eq]; exact small64 h64
  exact ⟨.ref _, upd H (s.heap.objs.size + 1) (.lst (ns'.map V.int)), I.laid (t' := s.toks) (fun _ _ => PyProof.Rows.sortedAll_old) (Nat.le_succ _) ⟨hlen, out.toList, ep, vals_of_ints h1, he'⟩, rfl, q ns' _ h2 h3 (I.hok.fresh (Nat.le_succ _))⟩
end

/-! ### list.index, flat items -/
section
variable {X : Cx}
def rIndex (K : PySem.W.Frag) : V → List V → Hp → VK → Prop := fun x xs H Q => ∃ (a : Addr) (ys : List V) (y : V) (j : Nat) (z : V), x = V.ref a ∧ xs = [y] ∧ SqL K H a ys ∧ flatV y = true ∧ ys.all flatV = true ∧ ys[j]? = some z ∧ eqV z y = true ∧
  (∀ (m : Nat) (z' : V), m < j → ys[m]? = some z' → eqV z' y = false) ∧ Q (.int (j : Nat)) H
theorem flat_at {ys : List V} (f : ys.all flatV = true) {j : Nat} {z : V} (h : ys[j]? = some z) : flatV z = true := List.all_eq_true.mp f z (List.mem_of_getElem? h)
theorem mt_index : MtR X "list.index" (rIndex X.K) := by
  intro pins s σ H x xs v us Q I rx rxs h
  obtain ⟨a, ys, y, j, z, rfl, rfl, hs, fy, fys, hz, hzj, hno, q⟩ := h
  cases rx
  cases rxs with
  | cons ry rt =>
    rename_i uy ut
    cases rt
    obtain ⟨its, rv, ⟨⟨cls, dd, data, sl⟩, n, ho, hc, hdn, hd⟩, hlen⟩ := I.list hs
    simp only at hc hd
    subst hc hd
    obtain ⟨u, hu, ru⟩ := rv.get hz
    obtain ⟨hjl, hje⟩ := List.getElem?_eq_some_iff.mp hu
    have hvl := rv.length
    have hj : j < its.toArray.size := by simpa using hjl
    have hsl := sizeLine_eq
    refine call_meets PySem.F.slot_list_index ⟨_, ho, rfl⟩ PySem.F.entry_list_index (PySem.F.args_list_index_2 _ _)
      (SeqAt.list_indexAt a its.toArray n dd sl uy (eqU y) j hj (by omega) ?_ ?_) ⟨ho, fun u' hu' => mem_eqAt ry fy rv fys u' (by simpa using hu'), ?_⟩
    · have e1 : its.toArray[j] = u := by simpa using hje
      rw [e1, eqU_of ru (flat_at fys hz)]
      exact hzj
    · intro m hm hmj
      have hml : m < its.length := by simpa using hm
      have hmy : m < ys.length := by omega
      have hy' : ys[m]? = some ys[m] := List.getElem?_eq_getElem hmy
      obtain ⟨u2, hu2, ru2⟩ := rv.get hy'
      obtain ⟨_, hme⟩ := List.getElem?_eq_some_iff.mp hu2
      have e1 : its.toArray[m] = u2 := by simpa using hme
      rw [e1, eqU_of ru2 (flat_at fys hy')]
      exact hno m _ hmj hy'
    · exact ⟨.int (j : Nat), H, I.tok _, ⟨_, rfl⟩, q⟩
end

/-! ### type(x) of an own instance; is, is not of a module's class -/
section
variable {X : Cx}
end

/-! ### any(xs), all(xs) of a list of bools -/
section
variable {X : Cx}
end

/-! ### == and != of data at any depth: none, bools, ints, texts, lists, tuples -/
section
variable {X : Cx} {pins : List (Addr × Obj)} {σ : St} {H : Hp} {s : Shared}
end
section
variable {X : Cx}
end
end L2

namespace L2
open PySem PySem.Spec PyProof.Rows
abbrev CellAt (h : Heap) (c : Addr) (v : Option Value) : Prop := h.IsCell c v
def relS (scope sc : Scope) : Scope :=
  { scope with names := scope.names.map fun (n, k) => if (k == .free && sc.kind == .function && sc.names.lookup n == some .cell) then (n, .cell) else (n, k) }

def cloFrom (cells : List (Str × Addr)) : List (Str × NameKind) → List (Str × Addr) → List (Str × Addr)
  | [], acc => acc
  | (n, k) :: r, acc => if k == .free then cloFrom cells r ((n, (cells.lookup n).getD 0) :: acc) else cloFrom cells r acc

theorem closure_loop (env : Env) (f : Str × NameKind → List (Str × Addr) → Sem (ForInStep (List (Str × Addr))))
    (hf : ∀ n k c, f (n, k) c = if k == .free then (do let a ← cellOf env n; pure (.yield ((n, a) :: c))) else pure (.yield c)) :
    ∀ (names : List (Str × NameKind)) (acc : List (Str × Addr)), (∀ y ∈ names, y.2 = .free → ∃ c, env.cells.lookup y.1 = some c) → forIn names acc f = pure (cloFrom env.cells names acc)
  | [], acc, _ => by rw [List.forIn_nil]; rfl
  | (n, k) :: r, acc, h => by
    rw [List.forIn_cons, hf]
    have ih := fun acc => closure_loop env f hf r acc fun y hy => h y (List.mem_cons_of_mem _ hy)
    unfold cloFrom
    by_cases hk : (k == NameKind.free) = true
    · rw [if_pos hk, if_pos hk]
      obtain ⟨c, hc⟩ := h (n, k) List.mem_cons_self (by simpa using hk)
      have e : cellOf env n = pure c := by unfold cellOf; rw [hc]
      rw [e]
      have e2 : (env.cells.lookup n).getD 0 = c := by rw [hc]; rfl
      rw [e2]
      exact ih _
    · rw [if_neg hk, if_neg hk]
      exact ih _
theorem closure_ok {scope : Scope} {env : Env} (h : ∀ y ∈ scope.names, y.2 = .free → ∃ c, env.cells.lookup y.1 = some c) : closureFor scope env = pure (cloFrom env.cells scope.names []) := by
  simp only [closureFor]
  rw [closure_loop env _ (fun n k c => rfl) scope.names [] h]
  rfl

theorem mem_lookup {α : Type} : ∀ {l : List (Str × α)} {n : Str} {c : α}, (n, c) ∈ l → ∃ c', l.lookup n = some c'
  | (k, v) :: r, n, c, h => by
    rw [List.lookup_cons]
    cases hb : n == k with
    | true => exact ⟨_, rfl⟩
    | false =>
      rcases List.mem_cons.mp h with e | h
      · cases e; simp at hb
      · exact mem_lookup h

theorem cloFrom_mem {cells : List (Str × Addr)} : ∀ {names : List (Str × NameKind)} {acc : List (Str × Addr)} {n : Str} {c : Addr}, (n, c) ∈ cloFrom cells names acc → (n, c) ∈ acc ∨ ((n, .free) ∈ names ∧ c = (cells.lookup n).getD 0)
  | [], _, _, _, h => .inl h
  | (m, k) :: r, acc, n, c, h => by
    unfold cloFrom at h
    split at h
    · rename_i hk
      have hk : k = .free := by simpa using hk
      rcases cloFrom_mem h with h | ⟨h1, h2⟩
      · rcases List.mem_cons.mp h with e | h
        · cases e; exact .inr ⟨hk ▸ List.mem_cons_self, rfl⟩
        · exact .inl h
      · exact .inr ⟨List.mem_cons_of_mem _ h1, h2⟩
    · rcases cloFrom_mem h with h | ⟨h1, h2⟩
      · exact .inl h
      · exact .inr ⟨List.mem_cons_of_mem _ h1, h2⟩
theorem cloFrom_acc {cells : List (Str × Addr)} : ∀ {names : List (Str × NameKind)} {acc : List (Str × Addr)} {p : Str × Addr}, p ∈ acc → p ∈ cloFrom cells names acc
  | [], _, _, h => h
  | (m, k) :: r, acc, p, h => by
    unfold cloFrom
    split
    · exact cloFrom_acc (List.mem_cons_of_mem _ h)
    · exact cloFrom_acc h
theorem cloFrom_has {cells : List (Str × Addr)} : ∀ {names : List (Str × NameKind)} {acc : List (Str × Addr)} {n : Str}, (n, .free) ∈ names → (n, (cells.lookup n).getD 0) ∈ cloFrom cells names acc
  | (m, k) :: r, acc, n, h => by
    unfold cloFrom
    rcases List.mem_cons.mp h with e | h
    · cases e
      exact cloFrom_acc List.mem_cons_self
    · split
      · exact cloFrom_has h
      · exact cloFrom_has h

theorem cells_mem : ∀ {names : List (Str × NameKind)} {h : Heap} {acc : List (Str × Addr)} {x : Str} {c : Addr}, (x, c) ∈ cellsFrom h.objs.size names acc →
    (x, c) ∈ acc ∨ ((x, .cell) ∈ names ∧ h.objs.size ≤ c ∧ CellAt (pushCells h names) c none)
  | [], _, _, _, _, h => .inl h
  | (n, k) :: r, h, acc, x, c, hm => by
    unfold cellsFrom at hm
    unfold pushCells
    split at hm
    · rename_i hk
      rw [if_pos hk]
      have hk : k = .cell := by simpa using hk
      rw [← Heap.size_push h { cls := .type "cell", data := .cell none }] at hm
      rcases cells_mem hm with hm | ⟨h1, h2, h3⟩
      · rcases List.mem_cons.mp hm with e | hm
        · cases e
          exact .inr ⟨hk ▸ List.mem_cons_self, Nat.le_refl _, _, pushCells_keeps r _ _ _ (Heap.get?_push_size _ rfl), rfl⟩
        · exact .inl hm
      · rw [Heap.size_push] at h2
        exact .inr ⟨List.mem_cons_of_mem _ h1, Nat.le_of_succ_le h2, h3⟩
    · rename_i hk
      rw [if_neg hk]
      rcases cells_mem hm with hm | ⟨h1, h2, h3⟩
      · exact .inl hm
      · exact .inr ⟨List.mem_cons_of_mem _ h1, h2, h3⟩
theorem cells_acc : ∀ {names : List (Str × NameKind)} {n : Nat} {acc : List (Str × Addr)} {p : Str × Addr}, p ∈ acc → p ∈ cellsFrom n names acc
  | [], _, _, _, h => h
  | (m, k) :: r, n, acc, p, h => by
    unfold cellsFrom
    split
    · exact cells_acc (List.mem_cons_of_mem _ h)
    · exact cells_acc h
theorem cells_has : ∀ {names : List (Str × NameKind)} {n : Nat} {acc : List (Str × Addr)} {x : Str}, (x, .cell) ∈ names → ∃ c, (x, c) ∈ cellsFrom n names acc
  | (m, k) :: r, n, acc, x, h => by
    unfold cellsFrom
    rcases List.mem_cons.mp h with e | h
    · cases e
      exact ⟨n, cells_acc List.mem_cons_self⟩
    · split
      · exact cells_has h
      · exact cells_has h
theorem cells_inj : ∀ {names : List (Str × NameKind)} {h : Heap} {acc : List (Str × Addr)} {x y : Str} {c : Addr}, (∀ p ∈ acc, p.2 < h.objs.size) → (∀ x y c, (x, c) ∈ acc → (y, c) ∈ acc → x = y) →
    (x, c) ∈ cellsFrom h.objs.size names acc → (y, c) ∈ cellsFrom h.objs.size names acc → x = y
  | [], _, _, _, _, _, _, hi, h1, h2 => hi _ _ _ h1 h2
  | (n, k) :: r, h, acc, x, y, c, hl, hi, h1, h2 => by
    unfold cellsFrom at h1 h2
    split at h1
    · rename_i hk
      rw [if_pos hk] at h2
      rw [← Heap.size_push h { cls := .type "cell", data := .cell none }] at h1 h2
      refine cells_inj (h := h.push _) (fun p hp => ?_) (fun x y c a b => ?_) h1 h2
      · rw [Heap.size_push]
        rcases List.mem_cons.mp hp with rfl | hp
        · exact Nat.lt_succ_self _
        · exact Nat.lt_succ_of_lt (hl p hp)
      · rcases List.mem_cons.mp a with e | a <;> rcases List.mem_cons.mp b with e' | b
        · cases e; cases e'; rfl
        · cases e; exact absurd (hl _ b) (Nat.lt_irrefl _)
        · cases e'; exact absurd (hl _ a) (Nat.lt_irrefl _)
        · exact hi _ _ _ a b
    · rename_i hk
      rw [if_neg hk] at h2
      exact cells_inj hl hi h1 h2

theorem newEnv_comp {M : Model} {A : Around} {E : Value → Shared → Prop} {s : Shared} {scope : Scope} {globals : Addr} {closure : List (Str × Addr)} {qual : Str} {func : Option Addr} {code : Value} {around : Env} {builtins : Addr} {Q : Env → Shared → Prop}
    (h : Q (newEnv scope s.heap.objs.size globals (cellsFrom (s.heap.objs.size + 1) scope.names closure) qual func code (some around) builtins)
      { s with heap := pushCells (s.heap.push { cls := .type "dict", data := .dict #[] }) scope.names }) :
    wpAny M A (newFunctionEnv scope globals closure [] qual func code (some around) builtins) Q E s := by
  simp only [newFunctionEnv, Option.isSome_some, if_true]
  refine wpAny_bind (wpAny_alloc ?_)
  refine wpAny_bind (wpAny_layCells _ (fun n k c => rfl) scope.names closure _ _ ?_)
  rw [show ({ s with heap := s.heap.push { cls := .type "dict", data := .dict #[] } } : Shared).heap.objs.size = s.heap.objs.size + 1 from Heap.size_push ..]
  rw [List.forIn_nil]
  exact wpAny_bind (wpAny_pure (wpAny_pure h))

/-- every name of the written scope, in the scope that runs -/
theorem lookup_relS {sc : Scope} : ∀ {names : List (Str × NameKind)} {x : Str} {k : NameKind},
    (names.map fun (n, k) => if (k == NameKind.free && sc.kind == .function && sc.names.lookup n == some .cell) then (n, NameKind.cell) else (n, k)).lookup x = some k →
    ∃ k', names.lookup x = some k' ∧ (k = k' ∨ (k' = .free ∧ k = .cell))
  | [], _, _, h => by simp at h
  | (n, k₀) :: r, x, k, h => by
    have ih := @lookup_relS sc r x k
    have h' : List.lookup x ((if (k₀ == NameKind.free && sc.kind == .function && sc.names.lookup n == some .cell) = true then (n, NameKind.cell) else (n, k₀)) :: (r.map _)) = some k := h
    cases hx : x == n with
    | true =>
      simp only [List.lookup_cons, hx]
      by_cases hc : (k₀ == NameKind.free && sc.kind == .function && sc.names.lookup n == some .cell) = true
      · rw [if_pos hc] at h'
        simp only [List.lookup_cons, hx] at h'
        cases h'
        simp only [Bool.and_eq_true, beq_iff_eq] at hc
        exact ⟨k₀, rfl, .inr ⟨hc.1.1, rfl⟩⟩
      · rw [if_neg hc] at h'
        simp only [List.lookup_cons, hx] at h'
        cases h'
        exact ⟨_, rfl, .inl rfl⟩
    | false =>
      simp only [List.lookup_cons, hx]
      by_cases hc : (k₀ == NameKind.free && sc.kind == .function && sc.names.lookup n == some .cell) = true
      · rw [if_pos hc] at h'
        simp only [List.lookup_cons, hx] at h'
        exact ih h'
      · rw [if_neg hc] at h'
        simp only [List.lookup_cons, hx] at h'
        exact ih h'



/-- the names of a comprehension's block: its own (with their places in N), or captured -/
structure BlkOk (N : List Str) (sc scope : Scope) (own : List (Str × Nat)) : Prop where
  kind : scope.kind = .function
  uniq : ∀ y ∈ scope.names, scope.names.lookup y.1 = some y.2
  ix : ∀ p ∈ own, N[p.2]? = some p.1
  free : ∀ y ∈ scope.names, y.2 = .free → sc.names.lookup y.1 = some .cell ∨ sc.names.lookup y.1 = some .free
  own : ∀ y ∈ scope.names, y.2 = .local ∨ y.2 = .cell → y.1 ∈ own.map (·.1) ∨ y.1 ∉ N
/-- the slots of the block's own names forgotten -/
def wipe (σ : St) : List Nat → St
  | [] => σ
  | v :: vs => (wipe σ vs).set v none
theorem wipe_length (σ : St) : ∀ vs : List Nat, (wipe σ vs).length = σ.length
  | [] => rfl
  | v :: vs => by unfold wipe; rw [List.length_set, wipe_length σ vs]
theorem wipe_some {σ : St} {i : Nat} {x : V} : ∀ {vs : List Nat}, (wipe σ vs)[i]? = some (some x) → σ[i]? = some (some x) ∧ i ∉ vs
  | [], h => ⟨h, by simp⟩
  | v :: vs, h => by
    unfold wipe at h
    by_cases hi : v = i
    · subst hi
      by_cases hv : v < (wipe σ vs).length
      · rw [List.getElem?_set_self hv] at h; cases h
      · rw [List.getElem?_eq_none (by simpa using hv)] at h; cases h
    · rw [List.getElem?_set_ne hi] at h
      obtain ⟨h1, h2⟩ := wipe_some h
      exact ⟨h1, by simp only [List.mem_cons, not_or]; exact ⟨fun e => hi e.symm, h2⟩⟩

/-- the context of a block that starts at s, its iterator's objects at fp -/
abbrev Cx.blk (X : Cx) (s : Shared) (H : Hp) (scope : Scope) (cenv : Env) (fp : List Addr) : Cx := { X with s_0 := s, H_0 := H, env := cenv, outer := X.stack, ex := fp, fn := fun x => scope.names.lookup x == some .cell, pn := [], xe := fun _ _ => False }
section
variable {X : Cx} {pins : List (Addr × Obj)} {σ : St} {H : Hp} {s : Shared}
theorem block_start {scope : Scope} {own : List (Str × Nat)} {fp : List Addr} (I : Inv X pins σ H s) (ok : BlkOk X.N X.env.scope scope own) (hN : X.N.Nodup) (hfp : ∀ b ∈ fp, FpOk X pins H b ∧ b < s.heap.objs.size) :
    Inv (X.blk s H scope (compEnvC scope (cellsFrom (s.heap.objs.size + 1) scope.names (cloFrom X.env.cells scope.names [])) s.heap.objs.size X.env) fp) [] (wipe σ (own.map (·.2))) H { s with heap := pushCells (s.heap.push { cls := .type "dict", data := .dict #[] }) scope.names } := by
  have hfree : ∀ y ∈ scope.names, y.2 = .free → ∃ c, X.env.cells.lookup y.1 = some c := fun y hy e => by
    rcases ok.free y hy e with k | k
    · exact I.ok.has _ (.inl k)
    · exact I.ok.has _ (.inr k)
  generalize hcenv : compEnvC scope (cellsFrom (s.heap.objs.size + 1) scope.names (cloFrom X.env.cells scope.names [])) s.heap.objs.size X.env = cenv
  have kp : ∀ b o, s.heap.get? b = some o → (pushCells (s.heap.push { cls := .type "dict", data := .dict #[] }) scope.names).get? b = some o := fun b o e => pushCells_keeps _ _ _ _ (Heap.get?_push_of_some _ e)
  have hL : cenv.locals = s.heap.objs.size := by rw [← hcenv]; rfl
  have hcl : cenv.cells = cellsFrom (s.heap.objs.size + 1) scope.names (cloFrom X.env.cells scope.names []) := by rw [← hcenv]; rfl
  have hsc : cenv.scope = relS scope X.env.scope := by rw [← hcenv]; rfl
  rw [← Heap.size_push s.heap { cls := .type "dict", data := .dict #[] }] at hcl
  have cm : ∀ {y c}, (y, c) ∈ cloFrom X.env.cells scope.names [] → X.env.cells.lookup y = some c ∧ c < s.heap.objs.size := fun {y c} hm => by
    rcases cloFrom_mem hm with hm | ⟨h1, rfl⟩
    · cases hm
    · obtain ⟨c, hc⟩ := hfree _ h1 rfl
      rw [hc]
      obtain ⟨w, z⟩ := I.cell _ _ hc
      exact ⟨rfl, z.lt⟩
  have mem : ∀ {y c}, cenv.cells.lookup y = some c → (X.env.cells.lookup y = some c ∧ c < s.heap.objs.size) ∨ (s.heap.objs.size + 1 ≤ c ∧ CellAt (pushCells (s.heap.push { cls := .type "dict", data := .dict #[] }) scope.names) c none) := fun {y c} e => by
    rw [hcl] at e
    rcases cells_mem (PySem.mem_of_lookup e) with hm | ⟨_, h2, h3⟩
    · exact .inl (cm hm)
    · rw [Heap.size_push] at h2; exact .inr ⟨h2, h3⟩
  have look : ∀ {y}, scope.names.lookup y = some .free → ∃ c, cenv.cells.lookup y = some c ∧ X.env.cells.lookup y = some c := fun {y} hl => by
    have hy : (y, NameKind.free) ∈ scope.names := PySem.mem_of_lookup hl
    obtain ⟨c', e'⟩ := mem_lookup (cells_acc (names := scope.names) (n := (s.heap.push { cls := .type "dict", data := .dict #[] }).objs.size) (cloFrom_has (cells := X.env.cells) (acc := []) hy))
    rw [← hcl] at e'
    refine ⟨c', e', ?_⟩
    rw [hcl] at e'
    rcases cells_mem (PySem.mem_of_lookup e') with hm | ⟨h1, _, _⟩
    · exact (cm hm).1
    · have := ok.uniq _ h1
      rw [hl] at this; cases this
  have okB : (X.blk s H scope cenv fp).Ok := by
    refine ⟨I.ok.mod, by show cenv.scope.kind = _; rw [hsc]; exact ok.kind, by show cenv.globals = _; rw [← hcenv]; exact I.ok.glob, by show cenv.builtins = _; rw [← hcenv]; exact I.ok.blt, by show s.heap.objs.size ≤ cenv.locals; rw [hL]; exact Nat.le_refl _,
      fun y z c e1 e2 => ?_, fun y hy => ?_, fun y c z e => ?_, I.ok.hd, I.ok.frames, .inl rfl, fun b hb => ⟨?_, fun y c e z => ?_⟩, I.bs, Nat.le_trans I.ok.bsz I.sz, fun b o e hb => ?_, fun b hb z => ?_, I.stack, I.stkFree⟩
    · have e1 : cenv.cells.lookup y = some c := e1
      have e2 : cenv.cells.lookup z = some c := e2
      rw [hcl] at e1 e2
      refine cells_inj (fun p hp => ?_) (fun y z c a b => I.ok.inj y z c (cm a).1 (cm b).1) (PySem.mem_of_lookup e1) (PySem.mem_of_lookup e2)
      rw [Heap.size_push]
      exact Nat.lt_succ_of_lt (cm (y := p.1) (c := p.2) hp).2
    · show ∃ c, cenv.cells.lookup y = some c
      have key : ∀ k, cenv.kindOf y = some k → (k = .cell ∨ k = .free) → ∃ c, cenv.cells.lookup y = some c := fun k hk hk' => by
        unfold Env.kindOf at hk
        rw [hsc] at hk
        obtain ⟨k', e, r⟩ := lookup_relS hk
        have : k' = .cell ∨ k' = .free := by
          rcases r with rfl | ⟨rfl, _⟩
          · exact hk'
          · exact .inr rfl
        rcases this with rfl | rfl
        · obtain ⟨c, hm⟩ := cells_has (n := (s.heap.push { cls := .type "dict", data := .dict #[] }).objs.size) (acc := cloFrom X.env.cells scope.names []) (PySem.mem_of_lookup e)
          obtain ⟨c', e'⟩ := mem_lookup hm
          exact ⟨c', by rw [hcl]; exact e'⟩
        · obtain ⟨c, h1, _⟩ := look e
          exact ⟨c, h1⟩
      rcases hy with hy | hy
      · exact key _ hy (.inl rfl)
      · exact key _ hy (.inr rfl)
    · have z : (scope.names.lookup y == some NameKind.cell) = true := z
      have z : scope.names.lookup y = some .cell := by simpa using z
      have e : cenv.cells.lookup y = some c := e
      rw [hcl] at e
      rcases cells_mem (PySem.mem_of_lookup e) with hm | ⟨_, h2, _⟩
      · rcases cloFrom_mem hm with hm | ⟨h1, _⟩
        · cases hm
        · have q := ok.uniq _ h1
          rw [z] at q; cases q
      · rw [Heap.size_push] at h2
        exact Nat.le_of_succ_le h2
    · show b ≠ cenv.locals
      rw [hL]; exact Nat.ne_of_lt (hfp b hb).2
    · have e : cenv.cells.lookup y = some c := e
      rcases mem e with ⟨h1, _⟩ | ⟨h1, _⟩
      · exact (hfp b hb).1.2.2.2.2.1 y c h1 z
      · have h2 : s.heap.objs.size + 1 ≤ b := by rw [← z]; exact h1
        exact absurd (Nat.lt_of_lt_of_le (hfp b hb).2 (Nat.le_of_succ_le h2)) (Nat.lt_irrefl _)
    · rcases (hfp b hb).1.2.2.2.1 with z | z
      · exact I.ok.noex b o e z
      · exact absurd (Nat.lt_of_lt_of_le (Heap.lt_size e) (Nat.le_trans I.ok.bsz z)) (Nat.lt_irrefl _)
    · rcases List.mem_cons.mp (I.stkSub b z) with z | z
      · exact (hfp b hb).1.2.1 z
      · exact (hfp b hb).1.2.2.1 z
  refine ⟨okB, rfl, I.bare, Un.kept kp, ⟨fun _ => none, ?_, fun i y av e1 e2 e3 => ?_⟩, fun y c e => ?_, ?_, fun y c e => ?_, fun p hp => ?_, I.hok.kept kp, by rw [wipe_length]; exact I.len⟩
  · show Heap.Ns _ cenv.locals _
    rw [hL]
    exact Heap.Ns.keeps (Heap.Ns.new ..) fun b o e => pushCells_keeps _ _ _ _ e
  · obtain ⟨e2, hne⟩ := wipe_some e2
    have hfr : scope.names.lookup y = some .free ∧ (cenv.kindOf y = some .cell ∨ cenv.kindOf y = some .free) := by
      have key : ∀ k, cenv.scope.names.lookup y = some k → k = .local ∨ k = .cell ∨ k = .free → scope.names.lookup y = some .free ∧ (cenv.kindOf y = some .cell ∨ cenv.kindOf y = some .free) := fun k hk hk' => by
        have hk0 := hk
        rw [hsc] at hk
        obtain ⟨k', e, r⟩ := lookup_relS hk
        have no : ¬ (k' = .local ∨ k' = .cell) := fun hh => by
          rcases ok.own _ (PySem.mem_of_lookup e) hh with e' | e'
          · obtain ⟨p, hp, hpy⟩ := List.mem_map.mp e'
            have e3 := ok.ix p hp
            have : p.1 = y := hpy
            rw [this] at e3
            exact hne (List.mem_map.mpr ⟨p, hp, nodup_ix hN e3 e1⟩)
          · exact e' (List.mem_of_getElem? e1)
        rcases r with rfl | ⟨rfl, rfl⟩
        · rcases hk' with rfl | rfl | rfl
          · exact absurd (.inl rfl) no
          · exact absurd (.inr rfl) no
          · exact ⟨e, .inr hk0⟩
        · exact ⟨e, .inl hk0⟩
      have e3 : Vis cenv.scope y := e3
      rcases e3 with e3 | e3 | e3
      · exact key _ e3 (.inl rfl)
      · exact key _ e3 (.inr (.inl rfl))
      · exact key _ e3 (.inr (.inr rfl))
    obtain ⟨m, hn, hl⟩ := I.loc
    have hvis : Vis X.env.scope y := (ok.free _ (PySem.mem_of_lookup hfr.1) rfl).elim (fun k => .inr (.inl k)) (fun k => .inr (.inr k))
    obtain ⟨w, r, q⟩ := hl i y av e1 e2 hvis
    refine ⟨w, r, .inr ⟨hfr.2, ?_⟩⟩
    obtain ⟨c, h1, h2⟩ := look hfr.1
    rcases q with ⟨k, _⟩ | ⟨_, c', e', z⟩
    · have k : X.env.scope.names.lookup y = some .local := k
      rcases ok.free _ (PySem.mem_of_lookup hfr.1) rfl with k' | k' <;> rw [show X.env.scope.names.lookup y = _ from k'] at k <;> cases k
    · rw [h2] at e'; cases e'
      exact ⟨c, h1, z.keeps kp⟩
  · have e : cenv.cells.lookup y = some c := e
    rcases mem e with ⟨h1, _⟩ | ⟨_, z⟩
    · obtain ⟨w, z⟩ := I.cell y c h1
      exact ⟨w, z.keeps kp⟩
    · exact ⟨_, z⟩
  · show H cenv.locals = none
    rw [hL]; exact I.hok.fresh (Nat.le_refl _)
  · have e : cenv.cells.lookup y = some c := e
    rcases mem e with ⟨h1, _⟩ | ⟨h1, _⟩
    · exact I.freeC y c h1
    · exact I.hok.fresh (Nat.le_of_succ_le h1)
  · exact absurd (show p ∈ ([] : List (Addr × Obj)) ++ [] from hp) (by simp)

/-- an item appended to a tracked list -/
theorem app_ok {E : Value → Shared → Prop} {D : Addr} {xs : List V} {y : V} {v : Value} {Q : Value → Shared → Prop} (I : Inv X pins σ H s) (hD : H D = some (.lst xs)) (hz : xs.length < sizeLine) (r : RelV y v)
    (h : ∀ s', Inv X pins σ (upd H D (.lst (xs ++ [y]))) s' → Q .none s') : wpAny (model X.prog X.w) X.A (call (.builtin "list.append") [.ref D, v]) Q E s := by
  obtain ⟨hz', its, n, ri, e⟩ := I.hok D _ hD
  have hl := ri.length
  refine append_at (hsz := by rw [List.size_toArray]; omega) e fun h' sb ho' => ?_
  refine h { s with heap := h' } (I.write (t' := s.toks) (by rw [hD]; trivial) (.inl rfl) (fun b u hb q => (sb.2 b hb).trans q) ⟨_, ho'⟩ ⟨by rw [List.length_append]; exact hz, its ++ [v], n + 1, ri.append (.cons r .nil), ?_⟩)
  rw [ho']
  simp

/-- a clause's tests -/
def PTs (X : Cx) (ifs : List Expr) (t : TT) : Prop :=
  ∀ (pins : List (Addr × Obj)) (s : Shared) (σ : St) (H : Hp) (Q : Bool → Hp → Prop), Inv X pins σ H s → t σ H Q →
    wpAny (model X.prog X.w) X.A (forIn ifs true fun c r => if r = true then do let ok ← isTrue c X.env (eval c X.env); pure (ForInStep.yield ok) else pure (ForInStep.yield r)) (TP X pins σ Q) X.xe s
def tYes : TT := fun _ H Q => Q true H
theorem pts_nil : PTs X [] tYes := fun _ _ _ H _ I h => wpAny_tests_nil ⟨H, I, h⟩
theorem pts_one {c : Expr} {t : TT} (h : PT X c t) : PTs X [c] t := fun pins s σ H Q I hw => wpAny_tests_one (h pins s σ H Q I hw)
end

theorem thnF {α : Type} {t : Sem α} {Q Q' : α → Shared → Prop} {M : Model} {A : Around} {E : Value → Shared → Prop} {s : Shared} (h : wpAny M A t Q (fun _ _ => False) s) (hQ : ∀ a s, Q a s → Q' a s) : wpAny M A t Q' E s := wpAny_mono h hQ fun _ _ z => False.elim z

/-- the loop of a list comprehension's block, the target of any form (codeAny_compLoop_tests asks a target that no tuple goes to; statement and proof follow it, PyProof/CompMap.lean:41-61, with the step letOwnedTupleGo kept) -/
theorem compLoop_any {prog : Program} {w : World} {A : Around} {R : Result → Shared → Prop} {s : Shared} {elt target iter : Expr} {ifs : List Expr} {scope : Scope} {pos : Pos} {it acc : Value} {env : Env} (I : Nat → Shared → Prop)
    (turn : ∀ n s, I n s → wpAny (model prog w) A (pyNext it) (fun r s₁ => match r with
      | none => R (.ok .next) s₁
      | some v => wpAny (model prog w) A (letOwnedTupleGo target it v) (fun _ s₁' => wpAny (model prog w) A (assign target env v) (fun _ s₂ =>
          wpAny (model prog w) A (forIn ifs true fun c r => if r = true then do let ok ← isTrue c env (eval c env); pure (ForInStep.yield ok) else pure (ForInStep.yield r)) (fun ok s₃ =>
            if ok = true then wpAny (model prog w) A (eval elt env) (fun x s₄ =>
              wpAny (model prog w) A (call (.builtin "list.append") [acc, x]) (fun _ s₅ => ∃ m, m < n ∧ I m s₅) (notedBy (model prog w) A env fun e s' => R (.error e) s') s₄) (notedBy (model prog w) A env fun e s' => R (.error e) s') s₃
            else ∃ m, m < n ∧ I m s₃) (notedBy (model prog w) A env fun e s' => R (.error e) s') s₂) (notedBy (model prog w) A env fun e s' => R (.error e) s') s₁') (notedBy (model prog w) A env fun e s' => R (.error e) s') s₁) (notedBy (model prog w) A env fun e s' => R (.error e) s') s)
    (n : Nat) (h : I n s) :
    codeAny (model prog w) A (.compLoop (.ListComp elt [⟨target, iter, ifs, 0⟩] scope pos) 0 it acc env) R s := by
  refine codeAny_loop rfl I (fun n s hI => ?_) n h
  show wpAny _ A ((compTurn (.ListComp elt [⟨target, iter, ifs, 0⟩] scope pos) 0 it acc env).onRaise (fun x => do noteFrame x env; theTreesLotGoes x)) _ _ s
  refine wpAny_noted ?_
  rw [compTurn_list]
  refine wpAny_bind (wpAny_standAt (wpAny_bind (wpAny_mono (turn n s hI) (fun r s₁ h₁ => ?_) fun _ _ h' => h')))
  cases r with
  | none => exact wpAny_pure h₁
  | some v =>
    refine wpAny_bind (wpAny_mono h₁ (fun _ s₁' h₁' => ?_) fun _ _ h' => h')
    refine wpAny_bind (wpAny_mono h₁' (fun _ s₂ h₂ => wpAny_bind (wpAny_mono h₂ (fun ok s₃ h₃ => ?_) fun _ _ h' => h')) fun _ _ h' => h')
    cases ok with
    | false => exact wpAny_pure ⟨rfl, h₃⟩
    | true =>
      exact wpAny_bind (wpAny_bind (wpAny_mono h₃ (fun x s₄ h₄ => wpAny_bind (wpAny_mono h₄ (fun _ s₅ h₅ => wpAny_pure (wpAny_pure ⟨rfl, h₅⟩)) fun _ _ h' => h')) fun _ _ h' => h'))

section
variable {X : Cx}
/-- [elt for target in iter if ..]: D the new list; W by the turn and a measure, Nx what a turn is to reach -/
def tLc (wi : TI) (g : TG) (tt : TT) (te : TE) (vs : List Nat) : TE := fun σ H Q => wi σ H fun J H1 => ∀ D, H1 D = none → ∃ W : Nat → Nat → Hp → Prop, (∃ m, W 0 m (upd H1 D (.lst []))) ∧ ∀ i m H, W i m H →
  (J.stop i H ∧ Q (.ref D) H) ∨ (J.go i H ∧ ∃ Nx : Hp → Prop, (∀ H', Nx H' → ∃ m', m' < m ∧ W (i + 1) m' H') ∧ ∀ x H', J.yld i H x H' → g x (wipe σ vs) H' fun σ2 H2 => wipe σ2 vs = wipe σ vs ∧ tt σ2 H2 fun b H3 =>
    if b = true then te σ2 H3 fun y H4 => ∃ acc, H4 D = some (.lst acc) ∧ acc.length < sizeLine ∧ Nx (upd H4 D (.lst (acc ++ [y]))) else Nx H3)
theorem lc_core {pins : List (Addr × Obj)} {s : Shared} {σ : St} {H : Hp} {Q : VK} {elt tg iter : Expr} {ifs : List Expr} {scope : Scope} {own : List (Str × Nat)} {pos pos' : Pos} {wi : TI} {g : TG} {tt : TT} {te : TE} {use : Option (Value → Sem Unit)} {Qf : Value → Shared → Prop}
    (hc : X.calm = true) (hN : X.N.Nodup) (I : Inv X pins σ H s) (hi : PI X tg iter wi) (ok : BlkOk X.N X.env.scope scope own)
    (hg : ∀ (s : Shared) (H : Hp) (C : Addr) (cl : List (Str × Addr)) (fp : List Addr), PG (X.blk s H scope (compEnvC scope cl C X.env) fp) tg g) (ht : ∀ (s : Shared) (H : Hp) (C : Addr) (cl : List (Str × Addr)) (fp : List Addr), PTs (X.blk s H scope (compEnvC scope cl C X.env) fp) ifs tt)
    (he : ∀ (s : Shared) (H : Hp) (C : Addr) (cl : List (Str × Addr)) (fp : List Addr), PE (X.blk s H scope (compEnvC scope cl C X.env) fp) elt te) (hs : ∀ x, foldedSetIterable iter X.env x = pure x)
    (h : tLc wi g tt te (own.map (·.2)) σ H Q)
    (hRR : ∀ D C s' m H', Inv X pins σ H' s' → Q (.ref D) H' → s'.heap.Ns C m → FpOk X pins H' C → compPost (model X.prog X.w) X.A X.xe use Qf (.ref D) C (.ok .next) s') :
    wpAny (model X.prog X.w) X.A (comprehension (.ListComp elt [⟨tg, iter, ifs, 0⟩] scope pos) scope X.env pos' (newList []) false (eval iter X.env) use) Qf X.xe s := by
  have hfree : ∀ y ∈ scope.names, y.2 = .free → ∃ c, X.env.cells.lookup y.1 = some c := fun y hy e => by
    rcases ok.free y hy e with k | k
    · exact I.ok.has _ (.inl k)
    · exact I.ok.has _ (.inr k)
  refine wpAny_comprehension_free (use := use) rfl hs (closure_ok hfree) ok.kind (fun y hy e => by rw [ok.uniq y hy, e])
    (thn (hi pins s σ H _ I h) fun xv s1 hx => thn hx fun itv s2 h2 => ?_)
  obtain ⟨it, fp, tn, J, H2, e, I2, T, st2, f2, q⟩ := h2
  subst e
  refine wpAny_newObj_type (newEnv_comp ?_) (by show 0 ≤ sizeLine; decide)
  generalize hD : s2.heap.objs.size = D
  have hDn : H2 D = none := I2.hok.fresh (Nat.le_of_eq hD)
  obtain ⟨W, ⟨m0, w0⟩, turn⟩ := q D hDn
  -- the new list
  generalize hs3 : ({ s2 with heap := s2.heap.push { cls := .type "list", data := .seq ([] : List Value).toArray } } : Shared) = s3
  have I3 : Inv X pins σ (upd H2 D (.lst [])) s3 := by
    rw [← hs3]
    refine I2.laid (t' := s2.toks) (fun b o e => Heap.get?_push_of_some _ e) (Nat.le_of_eq hD) ⟨Nat.zero_le _, [], 0, .nil, ?_⟩
    rw [← hD]
    exact Heap.get?_push_size _ rfl
  have h3 : s3.heap = s2.heap.push { cls := .type "list", data := .seq ([] : List Value).toArray } := by rw [← hs3]
  have sz : ∀ b ∈ fp, b < s2.heap.objs.size := fun b hb => by
    obtain ⟨o, e, _⟩ := T.obj _ _ st2 b hb
    exact Heap.lt_size e
  have f3 : ∀ b ∈ fp, FpOk X pins (upd H2 D (.lst [])) b ∧ b < s3.heap.objs.size := fun b hb => by
    have hlt := sz b hb
    refine ⟨⟨?_, (f2 b hb).2⟩, by rw [h3, Heap.size_push]; exact Nat.lt_succ_of_lt hlt⟩
    rw [upd_ne (by rw [← hD]; exact Nat.ne_of_lt hlt)]
    exact (f2 b hb).1
  have st3 : tn 0 s3.heap := T.keep _ _ _ st2 fun b _ o e => by rw [h3]; exact Heap.get?_push_of_some _ e
  have I4 := block_start I3 ok hN f3
  have pg := hg s3 (upd H2 D (.lst [])) s3.heap.objs.size (cellsFrom (s3.heap.objs.size + 1) scope.names (cloFrom X.env.cells scope.names [])) fp
  have pt := ht s3 (upd H2 D (.lst [])) s3.heap.objs.size (cellsFrom (s3.heap.objs.size + 1) scope.names (cloFrom X.env.cells scope.names [])) fp
  have pe := he s3 (upd H2 D (.lst [])) s3.heap.objs.size (cellsFrom (s3.heap.objs.size + 1) scope.names (cloFrom X.env.cells scope.names [])) fp
  show codeAny _ _ (.compStart (.ListComp elt [⟨tg, iter, ifs, 0⟩] scope pos) 0 (.ref it) (.ref D) (compEnvC scope (cellsFrom (s3.heap.objs.size + 1) scope.names (cloFrom X.env.cells scope.names [])) s3.heap.objs.size X.env)) (compPost (model X.prog X.w) X.A X.xe use Qf (.ref D) s3.heap.objs.size) { s3 with heap := pushCells (s3.heap.push { cls := .type "dict", data := .dict #[] }) scope.names }
  have nfp : ∀ b ∈ fp, (upd H2 D (.lst [])) b = none := fun b hb => (f3 b hb).1.1
  generalize hce : compEnvC scope (cellsFrom (s3.heap.objs.size + 1) scope.names (cloFrom X.env.cells scope.names [])) s3.heap.objs.size X.env = ce at I4 pg pt pe ⊢
  have cL : ce.locals = s3.heap.objs.size := by subst hce; rfl
  generalize hH3 : upd H2 D (.lst []) = H3 at I3 I4 pg pt pe w0 nfp f3
  generalize hs4 : ({ s3 with heap := pushCells (s3.heap.push { cls := .type "dict", data := .dict #[] }) scope.names } : Shared) = s4 at I4 ⊢
  have st4 : tn 0 s4.heap := T.keep _ _ _ st3 fun b _ o e => by rw [← hs4]; exact pushCells_keeps _ _ _ _ (Heap.get?_push_of_some _ e)
  have stat : ∀ {σ' : St} {H' : Hp} {s' : Shared}, Inv (X.blk s3 H3 scope ce fp) [] σ' H' s' → (∀ b ∈ fp, H' b = none) → ∀ b ∈ fp, FpOk (X.blk s3 H3 scope ce fp) [] H' b := fun {σ' H' s'} I' hn b hb =>
    ⟨hn b hb, (I'.ok.exf b hb).1, I'.ok.exfs b hb, .inl hb, fun x c e => (I'.ok.exf b hb).2 x c e, fun p hp => absurd (show p ∈ ([] : List (Addr × Obj)) ++ [] from hp) (by simp)⟩
  have loop : codeAny (model X.prog X.w) X.A (.compLoop (.ListComp elt [⟨tg, iter, ifs, 0⟩] scope pos) 0 (.ref it) (.ref D) ce) (compPost (model X.prog X.w) X.A X.xe use Qf (.ref D) s3.heap.objs.size) s4 := by
    refine compLoop_any (fun n s' => ∃ i H', Inv (X.blk s3 H3 scope ce fp) [] (wipe σ (own.map (·.2))) H' s' ∧ tn i s'.heap ∧ (∀ b ∈ fp, H' b = none) ∧ W i n H') ?_ m0 ⟨0, H3, I4, st4, nfp, w0⟩
    rintro n s5 ⟨i, H5, I5, st5, n5, w5⟩
    rcases turn i n H5 w5 with ⟨stop, qq⟩ | ⟨go, Nx, hNx, step⟩
    · have td := T.done (X.blk s3 H3 scope ce fp) rfl rfl rfl hc i [] s5 _ H5 (fun _ _ => False) I5 (stat I5 n5) st5 stop
      refine thnF td fun r s6 ⟨hr, I6⟩ => ?_
      subst hr
      -- back in the def's context
      have I7 : Inv X pins σ H5 s6 := I3.call' (ch := fp) I6.os I6.base I6.hok I6.bare fun b hb => ⟨(f3 b hb).1.2.2.2.1, (f3 b hb).1.2.1, (f3 b hb).1.2.2.2.2.1, (f3 b hb).1.2.2.2.2.2⟩
      have nC : H5 s3.heap.objs.size = none := by
        have z : H5 ce.locals = none := I6.free
        rw [cL] at z
        exact z
      obtain ⟨m, hn, _⟩ := I6.loc
      have hn : s6.heap.Ns ce.locals m := hn
      rw [cL] at hn
      exact hRR D s3.heap.objs.size s6 m H5 I7 qq hn (I3.fpOk (Nat.le_refl _) nC)
    · have ti := T.item (X.blk s3 H3 scope ce fp) rfl rfl rfl hc i [] s5 _ H5 (fun _ _ => False) I5 (stat I5 n5) st5 go
      refine thnF ti fun r s6 ⟨u, hr, h6⟩ => ?_
      subst hr
      refine thnF h6 fun _ s7 ⟨x, H7, I7, r7, y7, st7, n7⟩ => ?_
      have I7' := I7.pinned (stat I7 n7) (T.obj _ _ st7)
      refine thnF (pg _ s7 _ H7 x u _ I7' r7 (step x H7 y7)) fun _ s8 ⟨σ8, H8, I8, hw8, q8⟩ => ?_
      refine thnF (pt _ s8 σ8 H8 _ I8 q8) fun b s9 ⟨H9, I9, q9⟩ => ?_
      -- the turn's end
      have fin : ∀ {s' : Shared} {H' : Hp}, Inv (X.blk s3 H3 scope ce fp) ([] ++ pinsAt fp s7.heap) σ8 H' s' → Nx H' → ∃ m, m < n ∧ ∃ i H', Inv (X.blk s3 H3 scope ce fp) [] (wipe σ (own.map (·.2))) H' s' ∧ tn i s'.heap ∧ (∀ b ∈ fp, H' b = none) ∧ W i m H' := fun {s' H'} I' nx => by
        obtain ⟨m', hm, w'⟩ := hNx H' nx
        have pin' : ∀ b ∈ fp, ∀ o, s7.heap.get? b = some o → s'.heap.get? b = some o ∧ H' b = none := fun b hb o e =>
          let z := I'.pin (b, o) (List.mem_append_right _ (List.mem_append_right _ (mem_pinsAt hb e)))
          ⟨z.1, z.2.1⟩
        have hl : (wipe σ (own.map (·.2))).length = σ8.length := by rw [← hw8, wipe_length]
        refine ⟨m', hm, i + 1, H', (I'.unpinned (pins := [])).weak hl (fun j v e => ?_), T.keep _ _ _ st7 fun b hb o e => (pin' b hb o e).1, fun b hb => ?_, w'⟩
        · rw [← hw8] at e
          exact (wipe_some e).1
        · obtain ⟨o, e, _⟩ := T.obj _ _ st7 b hb
          exact (pin' b hb o e).2
      cases b with
      | false =>
        simp only [Bool.false_eq_true, if_false] at q9 ⊢
        exact fin I9 q9
      | true =>
        simp only [if_true] at q9 ⊢
        refine thnF (pe _ s9 σ8 H9 _ I9 q9) fun z s10 ⟨yv, H10, I10, r10, acc, hD10, hz10, nx⟩ => ?_
        exact app_ok (X := X.blk s3 H3 scope ce fp) I10 hD10 hz10 r10 fun s11 I11 => fin I11 nx
  exact codeAny_compStart_list loop (T.self X.A 0 _ _ _ st4 loop)
/-- as a value -/
theorem pe_lc {elt tg iter : Expr} {ifs : List Expr} {scope : Scope} {own : List (Str × Nat)} {pos : Pos} {wi : TI} {g : TG} {tt : TT} {te : TE} (hc : X.calm = true) (hN : X.N.Nodup) (hi : PI X tg iter wi) (ok : BlkOk X.N X.env.scope scope own)
    (hg : ∀ (s : Shared) (H : Hp) (C : Addr) (cl : List (Str × Addr)) (fp : List Addr), PG (X.blk s H scope (compEnvC scope cl C X.env) fp) tg g) (ht : ∀ (s : Shared) (H : Hp) (C : Addr) (cl : List (Str × Addr)) (fp : List Addr), PTs (X.blk s H scope (compEnvC scope cl C X.env) fp) ifs tt)
    (he : ∀ (s : Shared) (H : Hp) (C : Addr) (cl : List (Str × Addr)) (fp : List Addr), PE (X.blk s H scope (compEnvC scope cl C X.env) fp) elt te) (hs : ∀ x, foldedSetIterable iter X.env x = pure x := by intro _; rfl) :
    PE X (.ListComp elt [⟨tg, iter, ifs, 0⟩] scope pos) (tLc wi g tt te (own.map (·.2))) := by
  intro pins s σ H Q I h
  rw [eval_ListComp]
  refine lc_core hc hN I hi ok hg ht he hs h fun D C s' m H' I' q hn f => ⟨m, hn, fun h'' sb => ?_⟩
  obtain ⟨f0, f1, f2, f3, f4, f5⟩ := f
  exact ⟨.ref D, H', I'.turned (t' := s'.toks) (fun b o hb e => (sb.2 b hb).trans e) f0 f1 f3 f4 f5, rfl, q⟩
/-- name = [..] on one line, the name a local -/
theorem ps_setLc {i : Nat} {y : Str} {py : Pos} {elt tg iter : Expr} {ifs : List Expr} {scope : Scope} {own : List (Str × Nat)} {pos spos : Pos} {wi : TI} {g : TG} {tt : TT} {te : TE} (hc : X.calm = true) (hN : X.N.Nodup) (hy : X.N[i]? = some y) (hyl : X.env.scope.names.lookup y = some .local)
    (hsw : swapsWith (.ListComp elt [⟨tg, iter, ifs, 0⟩] scope pos) (some (.Name y py)) spos.line X.env = pure true) (hi : PI X tg iter wi) (ok : BlkOk X.N X.env.scope scope own)
    (hg : ∀ (s : Shared) (H : Hp) (C : Addr) (cl : List (Str × Addr)) (fp : List Addr), PG (X.blk s H scope (compEnvC scope cl C X.env) fp) tg g) (ht : ∀ (s : Shared) (H : Hp) (C : Addr) (cl : List (Str × Addr)) (fp : List Addr), PTs (X.blk s H scope (compEnvC scope cl C X.env) fp) ifs tt)
    (he : ∀ (s : Shared) (H : Hp) (C : Addr) (cl : List (Str × Addr)) (fp : List Addr), PE (X.blk s H scope (compEnvC scope cl C X.env) fp) elt te) (hs : ∀ x, foldedSetIterable iter X.env x = pure x := by intro _; rfl) :
    PS X (.Assign [.Name y py] (.ListComp elt [⟨tg, iter, ifs, 0⟩] scope pos) spos) (tAsg (tLc wi g tt te (own.map (·.2))) (gName i)) := by
  intro pins s σ H D I h
  rw [exec_Assign_Name_used _ _ _ _ hsw]
  refine wpAny_bind (wpAny_standAt (wpAny_bind ?_))
  show wpAny _ X.A (do let _ ← comprehension (.ListComp elt [⟨tg, iter, ifs, 0⟩] scope pos) scope X.env (firstIterPos [⟨tg, iter, ifs, 0⟩] pos) (newList []) false (eval iter X.env) (some (assign (.Name y py) X.env))) _ _ s
  have h : tLc wi g tt te (own.map (·.2)) σ H (fun x H1 => gName i x σ H1 D.nx) := h
  refine wpAny_bind (thn (lc_core (Qf := fun _ s' => SP X pins D .next s') hc hN I hi ok hg ht he hs h fun L C s' m H' I' q hn f => ?_) fun _ s' hq => wpAny_pure (wpAny_pure hq))
  show wpAny _ _ (assign (.Name y py) X.env (.ref L)) _ _ _
  refine wpAny_assign_Name (store_ok2 (v := V.ref L) I' hN hy (.inl hyl) rfl (fun s2 I2 ⟨a, sb, ha⟩ => ?_) (.inr hyl))
  obtain ⟨f0, f1, f2, f3, f4, f5⟩ := f
  have haC : C ≠ a := by
    rcases ha with z | z
    · rw [z]; exact f1
    · exact fun e => f4 y a z e.symm
  refine ⟨m, hn.sameBut sb haC, fun h3 sb3 => ?_⟩
  exact ⟨_, H', I2.turned (t' := s2.toks) (fun b o hb e => (sb3.2 b hb).trans e) f0 f1 f3 f4 f5, q⟩
theorem sw_true {elt : Expr} {gs : List Comprehension} {scope : Scope} {pos py : Pos} {y : Str} {l : Nat} {env : Env} (hk : env.scope.kind = .function) (hy : env.scope.names.lookup y = some .local) (hl : (py.line == pos.line) = true)
    (ha : (scope.names.any fun (n, k) => n == y && (k == .local || k == .cell)) = false) : swapsWith (.ListComp elt gs scope pos) (some (.Name y py)) l env = pure true := by
  have ky : env.kindOf y = some .local := hy
  have hb : env.blockKind = .function := by unfold Env.blockKind; rw [hk]; rfl
  unfold swapsWith
  simp only [hb, ky, ha, Expr.pos, hl]
  rfl
end

/-! ### the forms one uses -/
/-- over a range: Pv by the turn and the heap (the new list at D within) -/
theorem lc_range {lo : Int} {n : Nat} {g : TG} {tt : TT} {te : TE} {vs : List Nat} {σ : St} {H1 : Hp} {D : Addr} {Qd : Hp → Prop} (Pv : Nat → Hp → Prop) (h0 : Pv 0 (upd H1 D (.lst [])))
    (hs : ∀ i H, i < n → Pv i H → g (.int (lo + i)) (wipe σ vs) H fun σ2 H2 => wipe σ2 vs = wipe σ vs ∧ tt σ2 H2 fun b H3 =>
      if b = true then te σ2 H3 fun y H4 => ∃ acc, H4 D = some (.lst acc) ∧ acc.length < sizeLine ∧ Pv (i + 1) (upd H4 D (.lst (acc ++ [y]))) else Pv (i + 1) H3) (hd : ∀ H, Pv n H → Qd H) :
    ∃ W : Nat → Nat → Hp → Prop, (∃ m, W 0 m (upd H1 D (.lst []))) ∧ ∀ i m H, W i m H →
      ((Itr lo n).stop i H ∧ Qd H) ∨ ((Itr lo n).go i H ∧ ∃ Nx : Hp → Prop, (∀ H', Nx H' → ∃ m', m' < m ∧ W (i + 1) m' H') ∧ ∀ x H', (Itr lo n).yld i H x H' → g x (wipe σ vs) H' fun σ2 H2 => wipe σ2 vs = wipe σ vs ∧ tt σ2 H2 fun b H3 =>
        if b = true then te σ2 H3 fun y H4 => ∃ acc, H4 D = some (.lst acc) ∧ acc.length < sizeLine ∧ Nx (upd H4 D (.lst (acc ++ [y]))) else Nx H3) := by
  refine ⟨fun i m H => m = n - i ∧ i ≤ n ∧ Pv i H, ⟨n, by simp, Nat.zero_le _, h0⟩, ?_⟩
  rintro i m H ⟨rfl, hi, p⟩
  by_cases hlt : i < n
  · refine .inr ⟨hlt, Pv (i + 1), fun H' p' => ⟨n - (i + 1), by omega, rfl, hlt, p'⟩, fun x H' y => ?_⟩
    obtain ⟨e, y⟩ := y
    subst e y
    exact hs i _ hlt p
  · have e : i = n := by omega
    subst e
    exact .inl ⟨Nat.le_refl _, hd H p⟩
/-- over a list that the block leaves as it is -/
theorem lc_list {K : PySem.W.Frag} {a : Addr} {xs : List V} {g : TG} {tt : TT} {te : TE} {vs : List Nat} {σ : St} {H1 : Hp} {D : Addr} {Qd : Hp → Prop} (Pv : Nat → Hp → Prop) (h0 : Pv 0 (upd H1 D (.lst []))) (hl : ∀ i H, i ≤ xs.length → Pv i H → SqL K H a xs)
    (hs : ∀ i x H, xs[i]? = some x → Pv i H → g x (wipe σ vs) H fun σ2 H2 => wipe σ2 vs = wipe σ vs ∧ tt σ2 H2 fun b H3 =>
      if b = true then te σ2 H3 fun y H4 => ∃ acc, H4 D = some (.lst acc) ∧ acc.length < sizeLine ∧ Pv (i + 1) (upd H4 D (.lst (acc ++ [y]))) else Pv (i + 1) H3) (hd : ∀ H, Pv xs.length H → Qd H) :
    ∃ W : Nat → Nat → Hp → Prop, (∃ m, W 0 m (upd H1 D (.lst []))) ∧ ∀ i m H, W i m H →
      ((Itl K a).stop i H ∧ Qd H) ∨ ((Itl K a).go i H ∧ ∃ Nx : Hp → Prop, (∀ H', Nx H' → ∃ m', m' < m ∧ W (i + 1) m' H') ∧ ∀ x H', (Itl K a).yld i H x H' → g x (wipe σ vs) H' fun σ2 H2 => wipe σ2 vs = wipe σ vs ∧ tt σ2 H2 fun b H3 =>
        if b = true then te σ2 H3 fun y H4 => ∃ acc, H4 D = some (.lst acc) ∧ acc.length < sizeLine ∧ Nx (upd H4 D (.lst (acc ++ [y]))) else Nx H3) := by
  refine ⟨fun i m H => m = xs.length - i ∧ i ≤ xs.length ∧ Pv i H, ⟨xs.length, by simp, Nat.zero_le _, h0⟩, ?_⟩
  rintro i m H ⟨rfl, hi, p⟩
  have q := hl i H hi p
  by_cases hlt : i < xs.length
  · refine .inr ⟨⟨xs, xs[i], q, by simp [hlt]⟩, Pv (i + 1), fun H' p' => ⟨xs.length - (i + 1), by omega, rfl, hlt, p'⟩, fun x H' y => ?_⟩
    obtain ⟨e, y⟩ := y
    subst e
    exact hs i x _ (y xs q) p
  · have e : i = xs.length := by omega
    subst e
    exact .inl ⟨⟨xs, q, Nat.le_refl _⟩, hd H p⟩
/-- over a tuple -/
theorem lc_tup {K : PySem.W.Frag} {a : Addr} {xs : List V} {g : TG} {tt : TT} {te : TE} {vs : List Nat} {σ : St} {H1 : Hp} {D : Addr} {Qd : Hp → Prop} (Pv : Nat → Hp → Prop) (h0 : Pv 0 (upd H1 D (.lst []))) (hl : ∀ i H, i ≤ xs.length → Pv i H → SqT K H a xs)
    (hs : ∀ i x H, xs[i]? = some x → Pv i H → g x (wipe σ vs) H fun σ2 H2 => wipe σ2 vs = wipe σ vs ∧ tt σ2 H2 fun b H3 =>
      if b = true then te σ2 H3 fun y H4 => ∃ acc, H4 D = some (.lst acc) ∧ acc.length < sizeLine ∧ Pv (i + 1) (upd H4 D (.lst (acc ++ [y]))) else Pv (i + 1) H3) (hd : ∀ H, Pv xs.length H → Qd H) :
    ∃ W : Nat → Nat → Hp → Prop, (∃ m, W 0 m (upd H1 D (.lst []))) ∧ ∀ i m H, W i m H →
      ((Itt K a).stop i H ∧ Qd H) ∨ ((Itt K a).go i H ∧ ∃ Nx : Hp → Prop, (∀ H', Nx H' → ∃ m', m' < m ∧ W (i + 1) m' H') ∧ ∀ x H', (Itt K a).yld i H x H' → g x (wipe σ vs) H' fun σ2 H2 => wipe σ2 vs = wipe σ vs ∧ tt σ2 H2 fun b H3 =>
        if b = true then te σ2 H3 fun y H4 => ∃ acc, H4 D = some (.lst acc) ∧ acc.length < sizeLine ∧ Nx (upd H4 D (.lst (acc ++ [y]))) else Nx H3) := by
  refine ⟨fun i m H => m = xs.length - i ∧ i ≤ xs.length ∧ Pv i H, ⟨xs.length, by simp, Nat.zero_le _, h0⟩, ?_⟩
  rintro i m H ⟨rfl, hi, p⟩
  have q := hl i H hi p
  by_cases hlt : i < xs.length
  · refine .inr ⟨⟨xs, xs[i], q, by simp [hlt]⟩, Pv (i + 1), fun H' p' => ⟨xs.length - (i + 1), by omega, rfl, hlt, p'⟩, fun x H' y => ?_⟩
    obtain ⟨e, y⟩ := y
    subst e
    exact hs i x _ (y xs q) p
  · have e : i = xs.length := by omega
    subst e
    exact .inl ⟨⟨xs, q, Nat.le_refl _⟩, hd H p⟩
def blkC (N : List Str) (sc scope : Scope) (own : List (Str × Nat)) : Bool :=
  (match scope.kind with | .function => true | _ => false) && (scope.names.all fun y => decide (scope.names.lookup y.1 = some y.2)) && (own.all fun p => decide (N[p.2]? = some p.1)) &&
    (scope.names.all fun y => match y.2 with
      | .free => (match sc.names.lookup y.1 with | some .cell => true | some .free => true | _ => false)
      | .local => decide (y.1 ∈ own.map (·.1)) || decide (y.1 ∉ N)
      | .cell => decide (y.1 ∈ own.map (·.1)) || decide (y.1 ∉ N)
      | _ => true)
theorem blkOk_by {N : List Str} {sc scope : Scope} {own : List (Str × Nat)} (h : blkC N sc scope own = true) : BlkOk N sc scope own := by
  unfold blkC at h
  simp only [Bool.and_eq_true, List.all_eq_true, decide_eq_true_eq] at h
  obtain ⟨⟨⟨h1, h2⟩, h3⟩, h4⟩ := h
  refine ⟨?_, h2, h3, fun y hy e => ?_, fun y hy e => ?_⟩
  · split at h1
    · assumption
    · cases h1
  · have q := h4 y hy
    simp only [e] at q
    split at q <;> first | exact .inl (by assumption) | exact .inr (by assumption) | cases q
  · have q := h4 y hy
    rcases e with e | e <;> (simp only [e, Bool.or_eq_true, decide_eq_true_eq] at q; exact q)
end L2

namespace L2
open PySem PySem.Spec PyProof.Rows


section
variable {prog : Program} {w : World} {A : Around} {R : Result → Shared → Prop} {s : Shared} {elt t0 i0 t1 i1 : Expr} {ifs0 ifs1 : List Expr} {scope : Scope} {pos : Pos} {it acc : Value} {env : Env}
end

section
variable {X : Cx}
end
end L2

namespace L2
open PySem PySem.Spec PyProof.Rows

/-! ### lists of pairs as tables -/
section
variable {κ : Type} [DecidableEq κ]
def valV (kvs : List (κ × V)) (k : κ) : Option V := (kvs.find? fun kv => decide (kv.1 = k)).map (·.2)
/-- in its place, or at the end -/
def putK (kvs : List (κ × V)) (k : κ) (v : V) : List (κ × V) :=
  if (kvs.any fun kv => decide (kv.1 = k)) = true then kvs.map (fun kv => if kv.1 = k then (kv.1, v) else kv) else kvs ++ [(k, v)]

theorem valV_pos {p : κ × V} {r : List (κ × V)} {k : κ} (e : p.1 = k) : valV (p :: r) k = some p.2 := by simp [valV, List.find?_cons, e]
theorem valV_neg {p : κ × V} {r : List (κ × V)} {k : κ} (e : ¬ p.1 = k) : valV (p :: r) k = valV r k := by simp [valV, List.find?_cons, e]
theorem valV_any (k : κ) : ∀ kvs : List (κ × V), (kvs.any fun kv => decide (kv.1 = k)) = (valV kvs k).isSome
  | [] => rfl
  | p :: r => by
    rw [List.any_cons]
    by_cases e : p.1 = k
    · simp only [valV_pos e, decide_eq_true e, Bool.true_or, Option.isSome_some]
    · rw [valV_neg e, decide_eq_false e, Bool.false_or]; exact valV_any k r
theorem length_putK (kvs : List (κ × V)) (k : κ) (v : V) : (putK kvs k v).length ≤ kvs.length + 1 := by
  unfold putK
  split
  · rw [List.length_map]; omega
  · rw [List.length_append, List.length_cons, List.length_nil]; omega

theorem RelO.isSome_eq {o : Option V} {u : Option Value} (r : RelO o u) : o.isSome = u.isSome := by
  cases o with
  | none => cases u with
    | none => rfl
    | some _ => exact (show False from r).elim
  | some _ => cases u with
    | none => exact (show False from r).elim
    | some _ => rfl
theorem RelO.getD {o : Option V} {u : Option Value} {d : V} {d' : Value} (r : RelO o u) (rd : RelV d d') : RelV (o.getD d) (u.getD d') := by
  cases o with
  | none => cases u with
    | none => exact rd
    | some _ => exact (show False from r).elim
  | some _ => cases u with
    | none => exact (show False from r).elim
    | some _ => exact r

/-- raw tables of the same keys -/
theorem KV.val {kvs : List (κ × V)} {vs : List (κ × Value)} (r : KV kvs vs) (k : κ) : RelO (valV kvs k) (valueAt vs k) := by
  unfold KV at r
  induction r with
  | nil => exact True.intro
  | @cons p q ps qs h t ih =>
    obtain ⟨h1, h2⟩ := h
    by_cases e : p.1 = k
    · have e' : q.1 = k := h1.symm.trans e
      have b : valueAt (q :: qs) k = some q.2 := by simp [valueAt, List.find?_cons, e']
      rw [valV_pos e, b]; exact h2
    · have e' : ¬ q.1 = k := fun z => e (h1.trans z)
      have b : valueAt (q :: qs) k = valueAt qs k := by simp [valueAt, List.find?_cons, e']
      rw [valV_neg e, b]; exact ih
theorem KV.any {kvs : List (κ × V)} {vs : List (κ × Value)} (r : KV kvs vs) (k : κ) : (kvs.any fun kv => decide (kv.1 = k)) = vs.any fun kv => decide (kv.1 = k) := by
  unfold KV at r
  induction r with
  | nil => rfl
  | cons h t ih => rw [List.any_cons, List.any_cons, ih, h.1]
theorem KV.repl {kvs : List (κ × V)} {vs : List (κ × Value)} (r : KV kvs vs) (k : κ) {y : V} {u : Value} (ry : RelV y u) :
    KV (kvs.map fun kv => if kv.1 = k then (kv.1, y) else kv) (vs.map fun kv => if kv.1 = k then (kv.1, u) else kv) := by
  unfold KV at r ⊢
  induction r with
  | nil => exact .nil
  | @cons p q ps qs h t ih =>
    rw [List.map_cons, List.map_cons]
    refine .cons ?_ ih
    obtain ⟨h1, h2⟩ := h
    by_cases e : p.1 = k
    · rw [if_pos e, if_pos (h1.symm.trans e)]; exact ⟨h1, ry⟩
    · rw [if_neg e, if_neg (fun z => e (h1.trans z))]; exact ⟨h1, h2⟩
theorem KV.put {kvs : List (κ × V)} {vs : List (κ × Value)} (r : KV kvs vs) (k : κ) {y : V} {u : Value} (ry : RelV y u) : KV (putK kvs k y) (stored vs k u) := by
  unfold putK stored
  rw [r.any k]
  by_cases e : (vs.any fun kv => decide (kv.1 = k)) = true
  · rw [if_pos e, if_pos e]; exact r.repl k ry
  · rw [if_neg e, if_neg e]; exact Paired.snoc r ⟨rfl, ry⟩
theorem KV.length {kvs : List (κ × V)} {vs : List (κ × Value)} (r : KV kvs vs) : kvs.length = vs.length := Paired.length r
end


/-! ### a tracked dict, its keys ints and texts or tuples of these -/
theorem kV_is {P : Program} {w : World} {k : Key} {u : Value} (r : RelV (kV k) u) : (mixKind P w).is k u = true := by
  cases k with
  | inl i => obtain ⟨t, e⟩ := (show ∃ t, u = Value.int i t from r); subst e; exact mixKind_int P w i t
  | inr x => obtain ⟨t, e⟩ := (show ∃ t, u = Value.str x t from r); subst e; exact mixKind_str P w x t
theorem items_are {P : Program} {w : World} : ∀ {ks : List Key} {us : List Value}, Vals (ks.map kV) us → ItemsAre (mixKind P w) ks us
  | [], _, r => by rw [List.map_nil] at r; cases r; exact .nil
  | k :: ks, _, r => by
    rw [List.map_cons] at r
    cases r with
    | cons h t => exact .cons (kV_is h) (items_are t)

/-- raw entries of a dict with tuple keys -/
abbrev KT (H : Hp) : List (List Key × V) → List (List Key × Addr × Value) → Prop := Paired fun p q => p.1 = q.1 ∧ H q.2.1 = some (.tup (p.1.map kV)) ∧ RelV p.2 q.2.2
theorem KT.val {H : Hp} {kvs : List (List Key × V)} {xs : List (List Key × Addr × Value)} (r : KT H kvs xs) (k : List Key) : RelO (valV kvs k) ((atKey xs k).map (·.2)) := by
  induction r with
  | nil => exact True.intro
  | @cons p q ps qs h t ih =>
    obtain ⟨h1, _, h2⟩ := h
    by_cases e : p.1 = k
    · have e' : q.1 = k := h1.symm.trans e
      have b : atKey (q :: qs) k = some q.2 := by simp [atKey, List.find?_cons, e']
      rw [valV_pos e, b]; exact h2
    · have e' : ¬ q.1 = k := fun z => e (h1.trans z)
      have b : atKey (q :: qs) k = atKey qs k := by simp [atKey, List.find?_cons, e']
      rw [valV_neg e, b]; exact ih
theorem KT.repl {H : Hp} {kvs : List (List Key × V)} {xs : List (List Key × Addr × Value)} (r : KT H kvs xs) (k : List Key) {y : V} {u : Value} (ry : RelV y u) :
    KT H (kvs.map fun kv => if kv.1 = k then (kv.1, y) else kv) (xs.map (putAt k u)) := by
  induction r with
  | nil => exact .nil
  | @cons p q ps qs h t ih =>
    rw [List.map_cons, List.map_cons]
    refine .cons ?_ ih
    obtain ⟨h1, h2, h3⟩ := h
    unfold putAt
    by_cases e : p.1 = k
    · rw [if_pos e, if_pos (h1.symm.trans e)]; exact ⟨h1, h2, ry⟩
    · rw [if_neg e, if_neg (fun z => e (h1.trans z))]; exact ⟨h1, h2, h3⟩
theorem KT.put {H : Hp} {kvs : List (List Key × V)} {xs : List (List Key × Addr × Value)} (r : KT H kvs xs) (k : List Key) {b : Addr} {y : V} {u : Value} (hb : H b = some (.tup (k.map kV))) (ry : RelV y u) :
    KT H (putK kvs k y) (storedH xs k b u) := by
  have e : (kvs.any fun kv => decide (kv.1 = k)) = (atKey xs k).isSome := by
    rw [valV_any, (r.val k).isSome_eq, Option.isSome_map]
  unfold putK storedH
  rw [e]
  by_cases q : (atKey xs k).isSome = true
  · rw [if_pos q, if_pos q]; exact r.repl k ry
  · rw [if_neg q, if_neg q]; exact Paired.snoc r ⟨rfl, hb, ry⟩
theorem KT.keeps {H H' : Hp} {kvs : List (List Key × V)} {xs : List (List Key × Addr × Value)} (r : KT H kvs xs) (ht : ∀ b ys, H b = some (.tup ys) → H' b = some (.tup ys)) : KT H' kvs xs :=
  Paired.mapP r fun _ _ z => ⟨z.1, ht _ _ z.2.1, z.2.2⟩

section
variable {P : Program} {w : World} {H : Hp} {h : Heap} {a : Addr}
theorem rd_of {u : HO} (ok : HOk P w H h) (e : Rd H a u) : ObjOk P w H h a u := e.ok ok
theorem dk_rd {kvs : List (Key × V)} (ok : HOk P w H h) (e : Rd H a (.dK kvs)) : kvs.length ≤ sizeLine ∧ (a == sysModules) = false ∧ ∃ vs, KV kvs vs ∧ h.DictOf (mixKind P w) a vs :=
  show ObjOk P w H h a (.dK kvs) from rd_of ok e
theorem dk_of {kvs : List (Key × V)} (ok : HOk P w H h) (e : H a = some (.dK kvs)) : kvs.length ≤ sizeLine ∧ (a == sysModules) = false ∧ ∃ vs, KV kvs vs ∧ h.DictOf (mixKind P w) a vs := dk_rd ok (.inl e)
/-- a tracked tuple of ints and texts is a key -/
theorem key_of {ks : List Key} (ok : HOk P w H h) (e : H a = some (.tup (ks.map kV))) : (tupleKind (mixKind P w)).is h ks a := by
  obtain ⟨_, its, r, o, h1, h2, n, h3⟩ := (show ObjOk P w H h a (.tup (ks.map kV)) from ok a _ e)
  exact ⟨o, its.toArray, n, h1, h2, h3, by simpa using items_are r⟩
theorem dt_rd {kvs : List (List Key × V)} (ok : HOk P w H h) (e : Rd H a (.dT kvs)) : kvs.length ≤ sizeLine ∧ (a == sysModules) = false ∧
    ∃ xs, KT H kvs xs ∧ h.DictOfH (tupleKind (mixKind P w)) a xs := by
  obtain ⟨z, y, xs, r, o, es, ep, h1, h2, h3, h4, h5⟩ := (show ObjOk P w H h a (.dT kvs) from rd_of ok e)
  refine ⟨z, y, xs, r, o, es, ep, h1, h2, h3, h4, fun x hx => ?_, h5⟩
  have all : ∀ {l : List (List Key × V)} {m : List (List Key × Addr × Value)}, KT H l m → ∀ x ∈ m, (tupleKind (mixKind P w)).is h x.1 x.2.1 := by
    intro l m q
    induction q with
    | nil => intro x hx; exact nomatch hx
    | @cons p q ps qs hq t ih =>
      intro x hx
      rcases List.mem_cons.mp hx with e | hx
      · subst e
        exact key_of ok (by rw [← hq.1]; exact hq.2.1)
      · exact ih x hx
  exact all r x hx
theorem dt_of {kvs : List (List Key × V)} (ok : HOk P w H h) (e : H a = some (.dT kvs)) : kvs.length ≤ sizeLine ∧ (a == sysModules) = false ∧
    ∃ xs, KT H kvs xs ∧ h.DictOfH (tupleKind (mixKind P w)) a xs := dt_rd ok (.inl e)
end

/-- what the dict at a holds at the key y -/
def DGet (H : Hp) (a : Addr) (y : V) (r : Option V) : Prop :=
  (∃ kvs k, Rd H a (.dK kvs) ∧ y = kV k ∧ r = valV kvs k) ∨ ∃ kvs k b, Rd H a (.dT kvs) ∧ y = .ref b ∧ H b = some (.tup (k.map kV)) ∧ r = valV kvs k
/-- the heap behind a[y] = v -/
def DPut (H : Hp) (a : Addr) (y v : V) (H' : Hp) : Prop :=
  (∃ kvs k, H a = some (.dK kvs) ∧ y = kV k ∧ kvs.length < sizeLine ∧ H' = upd H a (.dK (putK kvs k v))) ∨
  ∃ kvs k b, H a = some (.dT kvs) ∧ y = .ref b ∧ H b = some (.tup (k.map kV)) ∧ kvs.length < sizeLine ∧ H' = upd H a (.dT (putK kvs k v))
theorem DGet.k {H : Hp} {a : Addr} {kvs : List (Key × V)} {k : Key} (e : H a = some (.dK kvs)) : DGet H a (kV k) (valV kvs k) := .inl ⟨kvs, k, .inl e, rfl, rfl⟩
theorem DPut.k {H : Hp} {a : Addr} {kvs : List (Key × V)} {k : Key} {v : V} (e : H a = some (.dK kvs)) (hl : kvs.length < sizeLine) : DPut H a (kV k) v (upd H a (.dK (putK kvs k v))) := .inl ⟨kvs, k, e, rfl, hl, rfl⟩


section
variable {X : Cx} {pins : List (Addr × Obj)} {σ : St} {H : Hp} {s : Shared} {a : Addr} {y v : V} {u r : Value} {o : Option V} {A : Around} {E : Value → Shared → Prop}

theorem Inv.big (I : Inv X pins σ H s) : sysModules < s.heap.objs.size := by
  have h : mainGlobals < s.heap.objs.size := (I.mod.glob.keeps I.bk).lt
  exact Nat.lt_trans (by decide) h

/-- a dict's object is replaced -/
theorem d_write {h' : Heap} {t' : Nat} {ob : HO} (I : Inv X pins σ H s) (mu : Mut (H a)) (hs : Heap.SameBut a s.heap h') (he : ∃ q, h'.get? a = some q) (new : ObjOk X.prog X.w (upd H a ob) h' a ob) :
    Inv X pins σ (upd H a ob) { s with heap := h', toks := t' } :=
  I.write (x := a) (e := a) mu (.inl rfl) (fun b q hb z => (hs.2 b hb).trans z) he new
theorem dk_new {P : Program} {w : World} {H' : Hp} {h' : Heap} {kvs : List (Key × V)} {vs : List (Key × Value)} (z : kvs.length ≤ sizeLine) (hd : (a == sysModules) = false) (rel : KV kvs vs) (dd : h'.DictOf (mixKind P w) a vs) :
    ObjOk P w H' h' a (.dK kvs) := ⟨z, hd, vs, rel, dd⟩
/-- d[y] = v -/
theorem d_setItem {H' : Hp} {Q : Unit → Shared → Prop} (hu : A.units + 1 < cLine) (I : Inv X pins σ H s) (g : DPut H a y v H') (ry : RelV y u) (rv : RelV v r) (h : ∀ s', Inv X pins σ H' s' → Q () s') :
    wpAny (model X.prog X.w) A (setItem (.ref a) u r) Q E s := by
  rcases g with ⟨kvs, k, e, ey, l, eH⟩ | ⟨kvs, k, b, e, ey, eb, l, eH⟩
  · subst ey eH
    obtain ⟨z, hd, vs, rel, dd⟩ := dk_of I.hok e
    have hz : vs.length ≤ sizeLine := by rw [← rel.length]; exact z
    have hl : (putK kvs k v).length ≤ sizeLine := by have := length_putK kvs k v; omega
    refine wpAny_setItem_pairs (hsz := hz) (kV_is ry) dd fun h' dd' hs => h _ ?_
    have he : ∃ q, h'.get? a = some q := let ⟨q, _, _, hq, _⟩ := dd'; ⟨q, hq⟩
    exact d_write I (by rw [e]; exact True.intro) hs he (dk_new hl hd (rel.put k rv) dd')
  · subst ey eH
    cases (show u = Value.ref b from ry)
    obtain ⟨z, hd, xs, rel, dd⟩ := dt_of I.hok e
    have hz : xs.length ≤ sizeLine := by rw [← Paired.length rel]; exact z
    have hl : (putK kvs k v).length ≤ sizeLine := by have := length_putK kvs k v; omega
    refine wpAny_setItem_heap (hsz := hz) (tupleKind_room_in1 hu) (key_of I.hok eb) dd fun h' dd' hs => h _ ?_
    obtain ⟨q, es, ep, hq, h2, h3, h4, _, h5⟩ := dd'
    refine d_write I (by rw [e]; exact True.intro) hs ⟨q, hq⟩ ⟨hl, hd, _, (rel.put k eb rv).keeps fun c ys ec => ?_, q, es, ep, hq, h2, h3, h4, h5⟩
    rw [upd_ne (ne_of ec e (fun z => nomatch z))]
    exact ec
end

section
variable {X : Cx} {pins : List (Addr × Obj)} {σ : St} {H : Hp} {s : Shared} {a : Addr} {kvs : List (Key × V)} {k : Key} {u : Value} {A : Around} {E : Value → Shared → Prop}
end


/-! ### readings and rules -/


/-- d[y] = v -/
def sDPut (td ty tv : TE) : TS := fun D σ H => tv σ H fun v H1 => td σ H1 fun x H2 => ty σ H2 fun y H3 => ∃ a H4, x = .ref a ∧ DPut H3 a y v H4 ∧ D.nx σ H4

section
variable {X : Cx} {o i e value : Expr} {pos pos' tpos : Pos} {td ty tv : TE}
theorem ps_dput (hu : X.A.units + 1 < cLine) (ho : PE X o td) (hi : PE X i ty) (hv : PE X value tv) (hs : swapsWith value (some (.Subscript o i pos')) pos.line X.env = pure false) :
    PS X (.Assign [.Subscript o i pos'] value pos) (sDPut td ty tv) := by
  intro pins s σ H D I h
  refine wpAny_Assign_Subscript (thn (hv pins s σ H _ I h) fun r s1 ⟨v, H1, I1, rv, q1⟩ => thn (ho pins s1 σ H1 _ I1 q1) fun u s2 ⟨x, H2, I2, rx, q2⟩ => thn (hi pins s2 σ H2 _ I2 q2) fun iv s3 ⟨y, H3, I3, ry, a, H4, ex, g, q3⟩ => ?_) hs
  subst ex
  obtain rfl : u = Value.ref a := rx
  exact d_setItem hu I3 g ry rv fun s4 I4 => ⟨σ, H4, I4, q3⟩
end


/-! ### displays -/
theorem dk_empty {P : Program} {w : World} {H : Hp} (h : Heap) (hb : sysModules < h.objs.size) : ObjOk P w H (h.push { cls := .type "dict", data := .dict #[] }) h.objs.size (.dK []) :=
  ⟨Nat.zero_le _, beq_eq_false_iff_ne.mpr (Ne.symm (Nat.ne_of_lt hb)), [], .nil, Heap.DictOf.new h⟩
/-- {}, to be a dict of the kind that is wanted -/
def tDNewK : TE := fun _ H Q => ∀ p, H p = none → Q (.ref p) (upd H p (.dK []))
section
variable {X : Cx} {pos : Pos}
theorem pe_dnewK : PE X (.Dict [] [] pos) tDNewK := fun pins s σ H Q I h =>
  wpAny_Dict_empty ⟨.ref s.heap.objs.size, _, I.laid (a := s.heap.objs.size) (o := .dK []) (t' := s.toks) (fun _ _ q => Heap.get?_push_of_some _ q) (Nat.le_refl _) (dk_empty s.heap I.big), rfl, h _ (I.hok.fresh (Nat.le_refl _))⟩
end




/-! ### methods -/
structure M2 (X : Cx) (o : Expr) (m : Str) (apos : Pos) (e f : Expr) (cpos : Pos) : Prop where
  base : attributeBase o m X.env (eval o X.env) = eval o X.env
  few : ((backTo cpos (starEach [e, f] X.env)).all (fun x => !x.1) && (backToKw cpos (keywordEach [] X.env)).all (fun x => x.1.isSome)
    && decide (([e, f] : List Expr).length + ([] : List Keyword).length + (if ([] : List Keyword).isEmpty then 0 else 1) < 30)) = true
  line : (apos.endLine == cpos.line) = true
  trees : backTo cpos (starEach [e, f] X.env) = [(false, eval e X.env), (false, eval f X.env)]

/-- a is a dict, whatever its keys -/
def IsD (H : Hp) (a : Addr) : Prop := (∃ kvs, Rd H a (.dK kvs)) ∨ ∃ kvs, Rd H a (.dT kvs)
theorem isD_at {X : Cx} {pins : List (Addr × Obj)} {σ : St} {H : Hp} {s : Shared} {a : Addr} (I : Inv X pins σ H s) (d : IsD H a) :
    s.TypeIs (.ref a) "dict" ∧ (∀ b, Value.ref a = .ref b → ∃ ob, s.heap.get? b = some ob ∧ ob.dict = none) ∧ (a == sysModules) = false := by
  rcases d with ⟨kvs, e⟩ | ⟨kvs, e⟩
  · obtain ⟨_, hd, vs, _, dd⟩ := dk_rd I.hok e
    refine ⟨dd.typeIs, fun b q => ?_, hd⟩
    cases q
    obtain ⟨ob, _, _, h1, h2, _⟩ := dd
    exact ⟨ob, h1, h2.2.1⟩
  · obtain ⟨_, hd, xs, _, dd⟩ := dt_rd I.hok e
    refine ⟨dd.typeIs, fun b q => ?_, hd⟩
    cases q
    obtain ⟨ob, _, _, h1, h2, _⟩ := dd
    exact ⟨ob, h1, h2.2.1⟩

section
variable {X : Cx} {pins : List (Addr × Obj)} {σ : St} {H : Hp} {s : Shared} {a : Addr} {y d : V} {u r : Value} {o : Option V} {A : Around} {E : Value → Shared → Prop}
/-- d.get(y, x) -/
theorem d_get2 {Q : Value → Shared → Prop} (hu : A.units + 1 < cLine) (I : Inv X pins σ H s) (g : DGet H a y o) (ry : RelV y u) (rd : RelV d r) (h : ∀ w' s', Inv X pins σ H s' → RelV (o.getD d) w' → Q w' s') :
    wpAny (model X.prog X.w) A (call (.builtin "dict.get") [.ref a, u, r]) Q E s := by
  rcases g with ⟨kvs, k, e, ey, l⟩ | ⟨kvs, k, b, e, ey, eb, l⟩
  · subst ey
    obtain ⟨z, hd, vs, rel, dd⟩ := dk_rd I.hok e
    refine call_meetsIn PySem.F.slot_dict_get dd.typeIs PySem.F.entry_dict_get (PySem.F.args_dict_get_3 _ _ _) (meets_dict_get_default (mixKind X.prog X.w) a (kV_is ry) hd r) ⟨_, dd.mapOf, h _ _ (I.tok _) ?_⟩
    rw [l]
    exact (rel.val k).getD rd
  · subst ey
    cases (show u = Value.ref b from ry)
    obtain ⟨z, hd, xs, rel, dd⟩ := dt_rd I.hok e
    refine call_meetsIn PySem.F.slot_dict_get dd.typeIs PySem.F.entry_dict_get (PySem.F.args_dict_get_3 _ _ _) (meetsH_dict_get_default (tupleKind (mixKind X.prog X.w)) a b hd r) ⟨tupleKind_room_in1 hu, k, xs, key_of I.hok eb, dd, h _ _ (I.tok _) ?_⟩
    rw [l]
    exact (rel.val k).getD rd
end

def tDGet2 (td ty tx : TE) : TE := fun σ H Q => td σ H fun x H1 => ∃ a, x = .ref a ∧ IsD H1 a ∧ ty σ H1 fun y H2 => tx σ H2 fun z H3 => ∃ o, DGet H3 a y o ∧ Q (o.getD z) H3
section
variable {X : Cx} {o e f : Expr} {apos cpos : Pos} {td ty tx : TE}
theorem pe_dget2 (hu : X.A.units + 1 < cLine) (ho : PE X o td) (he : PE X e ty) (hf : PE X f tx) (m : M2 X o "get" apos e f cpos) : PE X (.Call (.Attribute o "get" apos) [e, f] [] cpos) (tDGet2 td ty tx) := by
  intro pins s σ H Q I h
  refine wpAny_Call_method m.base m.few m.line PySem.F.plainAttrs_dict PySem.F.slot_dict_get PySem.F.type_dict_get (thn (ho pins s σ H _ I h) fun u s1 ⟨x, H1, I1, rx, a, ex, d, q1⟩ => ?_)
  subst ex
  obtain rfl : u = Value.ref a := rx
  obtain ⟨t1, t2, _⟩ := isD_at I1 d
  refine ⟨t1, t2, ?_⟩
  rw [m.trees]
  refine Calls.callWith_builtin rfl (Calls.evalArgs_plain (Calls.spliced_cons (thn (he pins s1 σ H1 _ I1 q1) fun iv s2 ⟨y, H2, I2, ry, q2⟩ =>
    Calls.spliced_cons (thn (hf pins s2 σ H2 _ I2 q2) fun fv s3 ⟨z, H3, I3, rz, ov, g, q3⟩ => Calls.spliced_nil ?_))))
  exact d_get2 hu I3 g ry rz fun w' s4 I4 rw' => ⟨_, H3, I4, rw', q3⟩
end

/-! ### dict(d): a copy -/
section
variable {X : Cx} {pins : List (Addr × Obj)} {σ : St} {H : Hp} {s : Shared} {a : Addr} {kvs : List (Key × V)} {A : Around} {E : Value → Shared → Prop}
end


section
variable {X : Cx} {pins : List (Addr × Obj)} {σ : St} {H : Hp} {s : Shared} {a : Addr} {y : V} {u : Value} {A : Around} {E : Value → Shared → Prop}
end
end L2

namespace L2
open PySem PySem.Spec PyProof.Rows


section
variable {prog : Program} {w : World} {A : Around} {E : Value → Shared → Prop}


end

section
variable {X : Cx}
end
end L2

namespace L2
open PySem PySem.Spec PyProof.Rows

theorem boot_reversed5 : bootBuiltins "reversed" = some (.type "reversed") := by decide +kernel

section
variable {X : Cx} {pins : List (Addr × Obj)} {σ : St} {H : Hp} {s : Shared} {h' : Heap}

/-! ### locking a thing while a statement runs -/
theorem Inv.lock {d : Addr} {u : HO} (I : Inv X pins σ H s) (h : H d = some u) (mu : Mut (some u)) : ∃ od, Inv X pins σ (upd H d (.frz od u)) s := by
  have x := I.hok d u h
  have ex : ∃ od, s.heap.get? d = some od := by
    cases u with
    | lst xs => obtain ⟨_, _, _, _, e⟩ := x; exact ⟨_, e⟩
    | dK kvs => obtain ⟨_, _, _, _, o, _, _, e, _⟩ := x; exact ⟨o, e⟩
    | dT kvs => obtain ⟨_, _, _, _, o, _, _, e, _⟩ := x; exact ⟨o, e⟩
    | set S n => obtain ⟨o, _, _, _, e, _⟩ := x; exact ⟨o, e⟩
    | ins C dx fs => obtain ⟨_, _, _, e, _⟩ := x; exact ⟨_, e⟩
    | ext φ => obtain ⟨_, ⟨_, e⟩, _⟩ := x; exact ⟨_, e⟩
    | _ => exact False.elim mu
  obtain ⟨od, e⟩ := ex
  have new : ObjOk X.prog X.w (upd H d (.frz od u)) s.heap d (.frz od u) := by
    refine ⟨e, x.stay (fun b v _ q => q) (fun b q => ?_) fun b xs q => ?_⟩
    · rw [upd_ne (fun z => by rw [z, h] at q; cases q; exact mu)]; exact q
    · rw [upd_ne (fun z => by rw [z, h] at q; cases q; exact mu)]; exact q
  exact ⟨od, I.write (x := d) (e := d) (t' := s.toks) (h' := s.heap) (by rw [h]; exact mu) (.inl rfl) (fun b v _ q => q) ⟨od, e⟩ new⟩
theorem Inv.nofrz {d : Addr} {u : HO} (I : Inv X pins σ H s) (h : H d = some u) (mu : Mut (some u)) : ∀ o' u', X.H_0 d ≠ some (.frz o' u') := fun o' u' e => by
  have q := I.base.frzs d o' u' e
  rw [h] at q
  cases q
  exact mu
theorem Inv.unlock {d : Addr} {od : Obj} {u : HO} (I : Inv X pins σ H s) (h : H d = some (.frz od u)) (hn : ∀ o' u', X.H_0 d ≠ some (.frz o' u')) : Inv X pins σ (upd H d u) s := by
  have neH : ∀ b o, H b = some o → (∀ o' u', o ≠ .frz o' u') → b ≠ d := fun b o e hne z => by
    rw [z, h] at e
    cases e
    exact hne _ _ rfl
  have neN : ∀ b, H b = none → b ≠ d := fun b e z => by rw [z, h] at e; cases e
  refine ⟨I.ok, I.os, I.bare, ⟨I.base.keep, I.base.slot, fun b o e n hx => ?_, I.base.there, fun b xs e => ?_, fun b o x e => ?_, fun b ps e => ?_⟩, I.loc, I.cell, ?_, fun x c e => ?_, fun p hp => ?_, fun b o e => ?_, I.len⟩
  · rw [upd_ne (neN b (I.base.free b o e n hx))]; exact I.base.free b o e n hx
  · have q := I.base.tups b xs e
    rw [upd_ne (neH b _ q (fun _ _ z => nomatch z))]; exact q
  · have q := I.base.frzs b o x e
    rw [upd_ne (fun z => by rw [z] at e; exact hn _ _ e)]; exact q
  · obtain ⟨m, q⟩ := I.base.tbls b ps e
    exact ⟨m, by rw [upd_ne (neH b _ q (fun _ _ z => nomatch z))]; exact q⟩
  · rw [upd_ne (neN _ I.free)]; exact I.free
  · rw [upd_ne (neN c (I.freeC x c e))]; exact I.freeC x c e
  · obtain ⟨e, n, r⟩ := I.pin p hp
    exact ⟨e, by rw [upd_ne (neN _ n)]; exact n, r⟩
  · by_cases hb : b = d
    · rw [hb, upd_same] at e
      cases e
      rw [hb]
      obtain ⟨_, x⟩ := I.hok d _ h
      exact x.stay (fun c v _ q => q) (fun c q => by rw [upd_ne (neH c _ q (fun _ _ z => nomatch z))]; exact q) fun c xs q => by rw [upd_ne (neH c _ q (fun _ _ z => nomatch z))]; exact q
    · rw [upd_ne hb] at e
      exact (I.hok b o e).stay (fun c v _ q => q) (fun c q => by rw [upd_ne (neH c _ q (fun _ _ z => nomatch z))]; exact q) fun c xs q => by rw [upd_ne (neH c _ q (fun _ _ z => nomatch z))]; exact q
end
/-- the statement runs while the thing at d is locked (read, not written); d and what stands there are the reading's choice -/
def tLock (t : TS) : TS := fun D σ H => ∃ d u, H d = some u ∧ Mut (some u) ∧ ∀ od, t ⟨fun σ' H' => H' d = some (.frz od u) ∧ D.nx σ' (upd H' d u), fun v H' => H' d = some (.frz od u) ∧ D.rt v (upd H' d u), fun σ' H' => H' d = some (.frz od u) ∧ D.bk σ' (upd H' d u), fun σ' H' => H' d = some (.frz od u) ∧ D.ct σ' (upd H' d u)⟩ σ (upd H d (.frz od u))
section
variable {X : Cx}
theorem ps_lock {st : Stmt} {t : TS} (h : PS X st t) : PS X st (tLock t) := by
  intro pins s σ H D I hw
  obtain ⟨d, u, hd, mu, hw⟩ := hw
  obtain ⟨od, I1⟩ := I.lock hd mu
  refine thn (h pins s σ _ _ I1 (hw od)) fun f s1 q => ?_
  cases f with
  | next => obtain ⟨σ', H', I2, e, q⟩ := q; exact ⟨σ', _, I2.unlock e (I.nofrz hd mu), q⟩
  | brk => obtain ⟨σ', H', I2, e, q⟩ := q; exact ⟨σ', _, I2.unlock e (I.nofrz hd mu), q⟩
  | cont => obtain ⟨σ', H', I2, e, q⟩ := q; exact ⟨σ', _, I2.unlock e (I.nofrz hd mu), q⟩
  | ret v => obtain ⟨x, σ', H', I2, r, e, q⟩ := q; exact ⟨x, σ', _, I2.unlock e (I.nofrz hd mu), r, q⟩

/-! ### one iterator just laid -/
theorem pi_one {tg : Expr} {pins : List (Addr × Obj)} {σ : St} {H : Hp} {s : Shared} {R : It → Hp → Prop} {J : It} {tn : Nat → Heap → Prop} {tk : Nat} (I : Inv X pins σ H s) (o : Obj)
    (T : Turn X.prog X.w X.K tg J [s.heap.objs.size] s.heap.objs.size tn) (st : tn 0 (s.heap.push o)) (q : R J H) : PIE X pins σ tg R (.ref s.heap.objs.size) { s with heap := s.heap.push o, toks := tk } := by
  refine ⟨s.heap.objs.size, [s.heap.objs.size], tn, J, H, rfl, I.kept fun b ob e => Heap.get?_push_of_some _ e, T, st, fun b hb => ?_, q⟩
  have e : b = s.heap.objs.size := by simpa using hb
  subst e
  exact I.fpOk (Nat.le_refl _) (I.hok.fresh (Nat.le_refl _))
end

/-! ### range with a step -/
section
variable {X : Cx} {tg : Expr}
end

/-! ### reversed(list) -/
section
variable {X : Cx} {tg : Expr}
end

/-! ### a str -/

/-! ### a dict's keys: any dict's entries -/
section
variable {prog : Program} {w : World} {A : Around} {E : Value → Shared → Prop} {s : Shared}
end

/-! ### a locked dict -/
theorem kv_get {κ : Type} {kvs : List (κ × V)} {vs : List (κ × Value)} (h : KV kvs vs) : ∀ {i : Nat} {k : κ} {v : V}, kvs[i]? = some (k, v) → ∃ u, vs[i]? = some (k, u) ∧ RelV v u := by
  unfold KV at h
  induction h with
  | nil => intro i k v e; simp at e
  | @cons a b l₁ l₂ r t ih =>
    intro i k v e
    cases i with
    | zero =>
      simp only [List.getElem?_cons_zero, Option.some.injEq] at e
      subst e
      refine ⟨b.2, ?_, r.2⟩
      simp only [List.getElem?_cons_zero]
      exact congrArg some (Prod.ext r.1.symm rfl)
    | succ j =>
      simp only [List.getElem?_cons_succ] at e ⊢
      exact ih e
section
variable {X : Cx} {pins : List (Addr × Obj)} {σ : St} {H : Hp} {s : Shared} {d : Addr} {o : Obj}
theorem Inv.frzK {kvs : List (Key × V)} (I : Inv X pins σ H s) (h : H d = some (.frz o (.dK kvs))) :
    (d == sysModules) = false ∧ s.heap.get? d = some o ∧ o.ExactDict ∧ ∃ (es : Array DictEntry) (ep : Nat) (vs : List (Key × Value)), o.data = .dict es ep ∧ es.size = kvs.length ∧ KV kvs vs ∧ s.heap.DictAt (mixKind X.prog X.w) d vs ep := by
  obtain ⟨hd, z, hs, vs, kv, o', es, ep, ho, hx, hdt, r⟩ := I.hok d _ h
  rw [hd] at ho
  cases ho
  refine ⟨hs, hd, hx, es, ep, vs, hdt, ?_, kv, o, es, hd, hx, hdt, r⟩
  have l1 := r.2.1.length
  have l2 : kvs.length = vs.length := Paired.length kv
  rw [Array.length_toList] at l1
  omega
end

/-- the values -/
def Itd (d : Addr) (o : Obj) (kvs : List (Key × V)) : It :=
  ⟨fun i H => H d = some (.frz o (.dK kvs)) ∧ i < kvs.length, fun i H x H' => H' = H ∧ ∃ k, kvs[i]? = some (k, x), fun i H => H d = some (.frz o (.dK kvs)) ∧ kvs.length ≤ i⟩
theorem dict_ep {o : Obj} {es es' : Array DictEntry} {ep ep' : Nat} (h : o.data = .dict es ep) (h' : o.data = .dict es' ep') : es' = es ∧ ep' = ep := by
  rw [h] at h'
  cases h'
  exact ⟨rfl, rfl⟩
section
variable {P : Program} {w : World} {K : PySem.W.Frag} {tg : Expr} {d : Addr} {o : Obj} {es : Array DictEntry} {ep : Nat}
theorem turn_vals {kvs : List (Key × V)} (it : Addr) (hod : o.data = .dict es ep) : Turn P w K tg (Itd d o kvs) [it] it (fun i h => h.IsValIter it d i kvs.length ep) where
  mem := by simp
  obj := fun i h st b hb => by
    have e : b = it := by simpa using hb
    subst e
    obtain ⟨oi, e, c, dd⟩ := st
    exact ⟨oi, e, fun v z => by rw [dd] at z; cases z⟩
  keep := fun i h h' st k => st.at fun oi e => k it (by simp) oi e
  item := by
    intro X hP hw hK hc i pins s σ H E I hf st hg
    subst hP hw hK
    obtain ⟨hd, hi⟩ := hg
    obtain ⟨f0, f1, f2, f3, f4, f5⟩ := hf it (by simp)
    obtain ⟨hs, hgd, hx, es', ep', vs, hdt, hsz, kv, hm⟩ := I.frzK hd
    obtain ⟨rfl, rfl⟩ := dict_ep hod hdt
    obtain ⟨⟨k, v⟩, hkv⟩ : ∃ p, kvs[i]? = some p := ⟨kvs[i], List.getElem?_eq_getElem hi⟩
    obtain ⟨u, hu, ru⟩ := kv_get kv hkv
    have hl : kvs.length = vs.length := Paired.length kv
    rw [hl] at st
    refine wpAny_pyNext_values_item st hm hu fun h' st' sb => ?_
    have I1 : Inv X pins σ H { s with heap := h' } := I.turned (t' := s.toks) (fun b ob hb e => (sb.2 b hb).trans e) f0 f1 f3 f4 f5
    obtain ⟨oi, e, c, dd⟩ := id st'
    refine ⟨u, rfl, go_of (s := { s with heap := h' }) e c dd (by decide) ⟨v, H, I1, ru, ⟨rfl, k, hkv⟩, ?_, fun b hb => (hf b hb).1⟩⟩
    show h'.IsValIter it d (i + 1) kvs.length _
    rw [hl]
    exact st'
  done := by
    intro X hP hw hK hc i pins s σ H E I hf st hg
    subst hP hw hK
    obtain ⟨hd, hi⟩ := hg
    obtain ⟨f0, f1, f2, f3, f4, f5⟩ := hf it (by simp)
    obtain ⟨hs, hgd, hx, es', ep', vs, hdt, hsz, kv, hm⟩ := I.frzK hd
    obtain ⟨rfl, rfl⟩ := dict_ep hod hdt
    have hl : kvs.length = vs.length := Paired.length kv
    rw [hl] at st
    exact wpAny_pyNext_values_end (I.ok.hd hc) st hm (List.getElem?_eq_none (by omega)) fun h' eb => ⟨rfl, I.turned (t' := s.toks) (fun b ob hb e => eb b ob hb e) f0 f1 f3 f4 f5⟩
  self := fun A i s Q E st h => wpAny_pyIter_valiter st h
end

/-! ### for k in d, d.keys(), d.values(), d.items() -/
def iVals (td : TE) : TI := fun σ H R => td σ H fun x H1 => ∃ d o kvs, x = .ref d ∧ H1 d = some (.frz o (.dK kvs)) ∧ R (Itd d o kvs) H1
section
variable {X : Cx} {tg e : Expr} {td : TE} {apos cpos : Pos}
theorem pi_values (he : PE X e td) (hbase : attributeBase e "values" X.env (eval e X.env) = eval e X.env := by rfl) (hline : (apos.endLine == cpos.line) = true := by rfl) : PI X tg (.Call (.Attribute e "values" apos) [] [] cpos) (iVals td) := by
  intro pins s σ H R I h
  refine wpAny_Call_method (T := "dict") (id := "dict.values") hbase rfl hline F.plainAttrs_dict F.slot_dict_values F.type_dict_values (thn (he pins s σ H _ I h) fun u s1 ⟨x, H1, I1, rx, d, o, kvs, ex, hd, q⟩ => ?_)
  subst ex
  obtain rfl : u = Value.ref d := rx
  obtain ⟨hs, hgd, hx, es, ep, vs, hdt, hsz, kv, hm⟩ := I1.frzK hd
  have hl : kvs.length = vs.length := Paired.length kv
  refine ⟨hm.dictOf.typeIs, hm.dictOf.mapOf.noDict, ?_⟩
  have I2 : Inv X pins σ H1 { s1 with heap := s1.heap.push { cls := .type "dict_values", data := .fields #[.ref d] } } := I1.kept (t' := s1.toks) fun b ob q => Heap.get?_push_of_some _ q
  have fin : wpAny (model X.prog X.w) X.A (pyIter (.ref s1.heap.objs.size)) (PIE X pins σ tg R) X.xe { s1 with heap := s1.heap.push { cls := .type "dict_values", data := .fields #[.ref d] } } := by
    refine wpAny_pyIter_values (d := d) (knd := mixKind X.prog X.w) ⟨_, Heap.get?_push_size _ rfl, rfl, rfl⟩ (hm.push _) (pi_one (tk := s1.toks) I2 _ (turn_vals _ hdt) ⟨_, Heap.get?_push_size _ rfl, rfl, ?_⟩ q)
    rw [hl] <;> rfl
  show wpAny _ _ (callWith cpos (.builtin "dict.values") [.ref d] [] []) _ X.xe s1
  exact method_meetsIn F.slot_dict_values F.entry_dict_values rfl (PySem.evalArgs_none ⟨rfl, hm.dictOf.typeIs, F.args_dict_values_1 _, _, meets_dict_values (mixKind X.prog X.w) d hs, ⟨vs, hm.dictOf⟩, fin⟩)
end

/-! ### enumerate(list) -/
/-! ### zip(list, list) -/
end L2

section 
namespace Bits
open PySem PyProof.Rows








end Bits
end 

section 
namespace TL
open PySem PySem.Builtin PySem.Builtin.Str PySem.StrLaws


/-! ### the list functions -/




/-! ### the model's split and partition are these -/




/-! ### computing spl and par -/


/-! ### digits -/

/-! ### words: x.split() -/
end TL
end 

namespace L2
open PySem PySem.Spec PyProof.Rows




section
variable {X : Cx} {pins : List (Addr × Obj)} {σ : St} {H : Hp} {s : Shared} {Q : VK}
end

section
variable {X : Cx}





/-! ### of a text alone -/

/-! ### of a text and a text -/

end

section
variable {X : Cx} {o e : Expr} {to te : TE}

end
end L2

namespace L2
open PySem PySem.Spec PyProof.Rows

section
variable {X : Cx}
end

/-! ### slices of a text -/


end L2

namespace Att
open PySem PySem.W PySem.Calls PyProof.Rows

/-! ### the script -/



/-! ### the attachment: holds_open's last premise (the goal 'hc' behind k_head) from a wpAny of the law's body -/



/-! ### rules over ANY heap (no ledger) from facts about the written part K: the library's own take a ledger (News) for what they write -/
section
variable {prog : Program} {w : World} {A : Around} {E : Value → Shared → Prop} {s : Shared} {K : Frag}





/-! the whole heap as the ledger: makes every rule that writes through a ledger a rule over any heap -/

end
end Att

namespace L2
open PySem PySem.Spec PyProof.Rows



end L2

namespace L2
open PySem PySem.Spec PyProof.Rows


end L2



/-! SHORT WORDS over the layer: a def of the text, its body, what a loop and a test want. -/
namespace L2
open PySem PySem.Spec PyProof.Rows

/-! ### the text by places -/
/-- the j-th statement of a class's body -/
def inClass (s : Stmt) (j : Nat) : Stmt := match s with
  | .ClassDef _ _ _ body _ _ _ _ _ _ _ => body.getD j (.Pass ⟨0, 0, 0, 0⟩)
  | _ => .Pass ⟨0, 0, 0, 0⟩
def defArgs (s : Stmt) : Arguments := match s with
  | .FunctionDef _ a _ _ _ _ _ _ _ _ => a
  | _ => { posonlyargs := [], args := [], vararg := none, kwonlyargs := [], kw_defaults := [], kwarg := none, defaults := [] }
def defBody (s : Stmt) : List Stmt := match s with
  | .FunctionDef _ _ b _ _ _ _ _ _ _ => b
  | _ => []
def defScope (s : Stmt) : Scope := match s with
  | .FunctionDef _ _ _ _ _ _ sc _ _ _ => sc
  | _ => { kind := .function, names := [], isGenerator := false, isCoroutine := false }

/-! ### no exception leaves a def -/
abbrev CX0 : CXT := fun _ _ _ _ _ _ => False
abbrev E0 : XK := fun _ _ _ => False
theorem pass0 {X : Cx} : Passes CX0 X E0 := fun _ _ _ _ _ _ _ h => h.elim

/-! ### a def (or method) of the text as it stands behind the top -/
structure Fun (K : PySem.W.Frag) (x qual : Str) (st : Stmt) (f : Addr) (fd : FuncData) : Prop where
  ex : ∃ (oc : Value) (od : Option Addr) (kV doc pm : Value) (an : Option Addr) (cdv ct : Value) (osl : Array (Option Value)),
    fd = PySem.W.fnOf x qual (defArgs st) (defBody st) (defScope st) .none kV doc pm an cdv ct ∧ K.lookup f = some ⟨oc, od, .func fd, osl⟩ ∧ PySem.W.codeIn K cdv qual = true
  kp : PySem.W.keepIn K (.ref f) = true
section
variable {P : Program} {w : World} {K : PySem.W.Frag} {mg : Str → Option Value} {base : Heap}
/-- THE RULE for a def: its body as a term of rules, and the reading of that term -/
theorem Fun.ok {x qual : Str} {st : Stmt} {f : Addr} {fd : FuncData} {N ps : List Str} {k : Nat} {sp : Sp} (F : Fun K x qual st f fd) (S : FnScope N ps (defScope st)) (len : ∀ vs H Q E, sp vs H Q E → vs.length = ps.length)
    (hbody : ∀ (cdv : Value) (A : Around) (outer : List Env) (s : Shared) (H : Hp) (vs : List V) (Q : VK) (E : XK), Room k (A.deeper (envOfC qual (defScope st) s.heap.objs.size f cdv)) → sp vs H Q E →
      ∃ t, PSs (cxOf CX0 P w K mg base N qual (defScope st) f cdv A outer s H E).nox (defBody st) t ∧ t { nx := fun _ H' => Q .non H', rt := Q } (start N vs) H) : FnOk P w K mg base CX0 (k + 1) f fd ps sp := by
  obtain ⟨oc, od, kV, doc, pm, an, cdv, ct, osl, rfl, lk, hcd⟩ := F.ex
  refine fn_of lk hcd S len fun A outer s H vs Q E hr hsp => ?_
  obtain ⟨t, h, q⟩ := hbody cdv A outer s H vs Q E hr hsp
  exact ⟨t, h.nox, q⟩
/-- how its arguments bind (no defaults): h is «fun _ _ _ _ _ _ us hl => match us, hl with | [_, _], _ => rfl», one _ a parameter -/
theorem Fun.binds {x qual : Str} {st : Stmt} {f : Addr} {fd : FuncData} {ps : List Str} (F : Fun K x qual st f fd)
    (h : ∀ (kV doc pm : Value) (an : Option Addr) (cdv ct : Value) (us : List Value), us.length = ps.length → bindArgs (PySem.W.fnOf x qual (defArgs st) (defBody st) (defScope st) .none kV doc pm an cdv ct) ⟨us, []⟩ = pure (ps.zip us)) : Binds K fd ps [] := by
  obtain ⟨oc, od, kV, doc, pm, an, cdv, ct, osl, rfl, lk, hcd⟩ := F.ex
  exact .all (h kV doc pm an cdv ct)
theorem fun_mk {x qual : Str} {st : Stmt} {f : Addr} {oc : Value} {od an : Option Addr} {osl : Array (Option Value)} {kV doc pm cdv ct : Value} (l : K.lookup f = some ⟨oc, od, .func (PySem.W.fnOf x qual (defArgs st) (defBody st) (defScope st) .none kV doc pm an cdv ct), osl⟩)
    (c : PySem.W.codeIn K cdv qual = true) (k : PySem.W.keepIn K (.ref f) = true) : Fun K x qual st f (PySem.W.fnOf x qual (defArgs st) (defBody st) (defScope st) .none kV doc pm an cdv ct) := ⟨⟨oc, od, kV, doc, pm, an, cdv, ct, osl, rfl, l, c⟩, k⟩
end
theorem hu_of {A : Around} {k : Nat} (hr : Room k A) : A.units + 1 < cLine := Nat.lt_of_le_of_lt (Nat.add_le_add_left (by decide : 1 ≤ 64) _) hr.units
theorem small1000 {n : Nat} (h : n ≤ 1000) : n < sizeLine := Nat.lt_of_le_of_lt h (by decide)

/-! ### expressions in short: the name that stands in the i-th slot -/
section
variable {X : Cx}
theorem pv (i : Nat) {x : Str} {pos : Pos} (hN : X.N[i]? = some x := by rfl) (hv : Vis X.env.scope x := by first | exact Or.inl rfl | exact Or.inr (Or.inl rfl) | exact Or.inr (Or.inr rfl)) (hd : (x == ("__debug__" : Str)) = false := by decide)
    (hcd : (x == ("__classdict__" : Str)) = false := by decide) : PE X (.Name x pos) (tVar i) := pe_var hN hv hd hcd
end

/-! ### tests -/
theorem iteF {A B : Prop} (h : B) : if false = true then A else B := by
  rw [if_neg Bool.false_ne_true]
  exact h
theorem iteT {A B : Prop} (h : A) : if true = true then A else B := by
  rw [if_pos rfl]
  exact h
theorem ite2 {c A B : Prop} [Decidable c] (h1 : c → A) (h2 : ¬ c → B) : if c then A else B := by
  by_cases h : c
  · rw [if_pos h]
    exact h1 h
  · rw [if_neg h]
    exact h2 h

/-! ### heaps -/
/-- all that was tracked is as it was -/
def Same (H H' : Hp) : Prop := ∀ b o, H b = some o → H' b = some o
theorem Same.trans {H H1 H2 : Hp} (a : Same H H1) (b : Same H1 H2) : Same H H2 := fun c o h => b c o (a c o h)
theorem Same.free {H H' : Hp} (e : Same H H') {l : Addr} (h : H' l = Option.none) : H l = Option.none := by
  cases q : H l with
  | none => rfl
  | some o =>
    rw [e l o q] at h
    cases h
theorem Same.seq {K : PySem.W.Frag} {H H' : Hp} {a : Addr} {xs : List V} (e : Same H H') (h : SqL K H a xs) : SqL K H' a xs := by
  rcases h with (h | ⟨o, h⟩) | h
  · exact .inl (.inl (e _ _ h))
  · exact .inl (.inr ⟨o, e _ _ h⟩)
  · exact .inr h

/-! ### a dict's pairs: keys that differ -/
section
variable {κ : Type} [DecidableEq κ]
end
/-! ### lists -/
theorem at_of {xs : List V} {z : Int} {j : Nat} {v : V} (e : z = (j : Int)) (h : xs[j]? = some v) : atI xs z = some v := by
  rw [e]
  exact atI_nat h
theorem nd_ix {α : Type} {l : List α} (hN : l.Nodup) {i j : Nat} {x : α} (a : l[i]? = some x) (b : l[j]? = some x) : i = j := by
  obtain ⟨h1, e1⟩ := List.getElem?_eq_some_iff.mp a
  obtain ⟨h2, e2⟩ := List.getElem?_eq_some_iff.mp b
  exact (List.getElem_inj hN).mp (e1.trans e2.symm)
end L2

section
set_option Elab.async false
set_option linter.all false
set_option maxRecDepth 100000
set_option maxHeartbeats 2000000
namespace L2
open PySem PySem.Spec PyProof.Rows
open PySem.W (WData Codec OpenSpec Well WellAll ReadsW ReadsAllW)
/-! ### an answer as data -/
mutual
/-- x stands for the datum d, lists and tuples all the way -/
inductive Dw (K : PySem.W.Frag) (H : Hp) : V → WData → Prop
  | non : Dw K H .non .none
  | bl (b : Bool) : Dw K H (.bl b) (.bool b)
  | int (i : Int) : Dw K H (.int i) (.int i)
  | str (x : Str) : Dw K H (.str x) (.str x)
  | byt (b : Array UInt8) : Dw K H (.byt b) (.bytes b.toList)
  | lst {a : Addr} {xs : List V} {ds : List WData} : SqL K H a xs → DwAll K H xs ds → Dw K H (.ref a) (.list ds)
  | tup {a : Addr} {xs : List V} {ds : List WData} : SqT K H a xs → DwAll K H xs ds → Dw K H (.ref a) (.tuple ds)
inductive DwAll (K : PySem.W.Frag) (H : Hp) : List V → List WData → Prop
  | nil : DwAll K H [] []
  | cons {v : V} {vs : List V} {d : WData} {ds : List WData} : Dw K H v d → DwAll K H vs ds → DwAll K H (v :: vs) (d :: ds)
end
theorem dw_ints {K : PySem.W.Frag} {H : Hp} : ∀ ns : List Int, DwAll K H (ns.map V.int) (ns.map WData.int)
  | [] => .nil
  | n :: r => .cons (.int n) (dw_ints r)
theorem ints_dw {K : PySem.W.Frag} {H : Hp} : ∀ (ns : List Int) (xs : List V), DwAll K H xs (ns.map WData.int) → xs = ns.map V.int
  | [], xs, h => by
    cases h
    rfl
  | n :: r, xs, h => by
    cases h with
    | cons h1 h2 =>
      cases h1
      rw [ints_dw r _ h2] <;> rfl
section
variable {P : Program} {w : World} {K : PySem.W.Frag} {H : Hp} {h : Heap} {R : PySem.W.WRecords} {cl : Str → Option Addr}
theorem sqL_at {a : Addr} {xs : List V} (hok : HOk P w H h) (KX : K.In h) (q : SqL K H a xs) : ∃ (its : List Value) (o : Obj) (n : Nat), Vals xs its ∧ h.get? a = some o ∧ o.cls = .type "list" ∧ o.data = .seq its.toArray n := by
  rcases q with q | ⟨o, its, n, e, hc, _, hd, _, hv⟩
  · obtain ⟨_, its, n, hv, e⟩ := (show ObjOk P w H h a (.lst xs) from q.ok hok)
    exact ⟨its, _, n, hv, e, rfl, rfl⟩
  · exact ⟨its.toList, o, n, hv, KX _ _ e, hc, by simp [hd]⟩
theorem sqT_at {a : Addr} {xs : List V} (hok : HOk P w H h) (KX : K.In h) (q : SqT K H a xs) : ∃ (its : List Value) (o : Obj) (n : Nat), Vals xs its ∧ h.get? a = some o ∧ o.cls = .type "tuple" ∧ o.data = .seq its.toArray n := by
  rcases q with q | ⟨o, its, n, e, hc, hd, _, hv⟩
  · obtain ⟨_, its, hv, o, e, hc, n, hd⟩ := (show ObjOk P w H h a (.tup xs) from q.ok hok)
    exact ⟨its, o, n, hv, e, hc, hd⟩
  · exact ⟨its.toList, o, n, hv, KX _ _ e, hc, by simp [hd]⟩
mutual
theorem Dw.reads (hok : HOk P w H h) (KX : K.In h) : ∀ (d : WData) (v : V) (u : Value), Dw K H v d → RelV v u → ∃ as, ReadsW R cl h u d as
  | .none, _, _, x, r => by
    cases x
    cases r
    exact ⟨_, ReadsW.none⟩
  | .bool b, _, _, x, r => by
    cases x
    cases r
    exact ⟨_, ReadsW.bool b⟩
  | .int i, _, _, x, r => by
    cases x
    obtain ⟨t, rfl⟩ := r
    exact ⟨_, ReadsW.int i t⟩
  | .str s, _, _, x, r => by
    cases x
    obtain ⟨t, rfl⟩ := r
    exact ⟨_, ReadsW.str s t⟩
  | .bytes b, _, _, x, r => by
    cases x
    obtain ⟨t, rfl⟩ := r
    exact ⟨_, ReadsW.bytes _ t⟩
  | .list ds, _, _, x, r => by
    cases x with
    | lst hs ha =>
      cases r
      obtain ⟨its, o, n, rv, ho, hc, hd⟩ := sqL_at hok KX hs
      obtain ⟨as, hr⟩ := Dw.readsAll hok KX ds _ its ha rv
      exact ⟨_, ReadsW.list ho hc hd hr⟩
  | .tuple ds, _, _, x, r => by
    cases x with
    | tup hs ha =>
      cases r
      obtain ⟨its, o, n, rv, ho, hc, hd⟩ := sqT_at hok KX hs
      obtain ⟨as, hr⟩ := Dw.readsAll hok KX ds _ its ha rv
      exact ⟨_, ReadsW.tuple ho hc hd hr⟩
  | .float _, _, _, x, _ => by cases x
  | .dict _, _, _, x, _ => by cases x
  | .bytearray _, _, _, x, _ => by cases x
  | .set _, _, _, x, _ => by cases x
  | .frozenset _, _, _, x, _ => by cases x
  | .obj _ _, _, _, x, _ => by cases x
theorem Dw.readsAll (hok : HOk P w H h) (KX : K.In h) : ∀ (ds : List WData) (vs : List V) (us : List Value), DwAll K H vs ds → Vals vs us → ∃ as, ReadsAllW R cl h us ds as
  | [], _, _, x, r => by
    cases x
    cases r
    exact ⟨_, ReadsAllW.nil⟩
  | d :: ds, _, _, x, r => by
    cases x with
    | cons h1 h2 =>
      cases r with
      | cons r1 r2 =>
        obtain ⟨as, q1⟩ := Dw.reads hok KX d _ _ h1 r1
        obtain ⟨bs, q2⟩ := Dw.readsAll hok KX ds _ _ h2 r2
        exact ⟨_, ReadsAllW.cons q1 q2⟩
end
end
/-! ### the arguments -/
mutual
/-- data that a codec tells -/
def plW : WData → Bool
  | .none => true
  | .bool _ => true
  | .int _ => true
  | .str _ => true
  | .bytes _ => true
  | .list xs => plWs xs
  | .tuple xs => plWs xs
  | _ => false
def plWs : List WData → Bool
  | [] => true
  | x :: r => plW x && plWs r
end
theorem plWs_map {α : Type} {f : α → WData} (h : ∀ a, plW (f a) = true) : ∀ l : List α, plWs (l.map f) = true
  | [] => rfl
  | x :: r => by
    show (plW (f x) && plWs (r.map f)) = true
    rw [h x, plWs_map h r] <;> rfl
theorem pl_enc : ∀ (c : Codec) (a : c.denote), plW (c.enc a) = true
  | .unit, _ => rfl
  | .bool, _ => rfl
  | .int _ _, _ => rfl
  | .nat _ _, _ => rfl
  | .u8, _ => rfl
  | .bytes _ _, _ => rfl
  | .text _ _ _ _, _ => rfl
  | .list _ _ c, a => plWs_map (fun x => pl_enc c x) a
  | .pair c d, a => by
    show (plW (c.enc a.1) && (plW (d.enc a.2) && true)) = true
    rw [pl_enc c a.1, pl_enc d a.2] <;> rfl
  | .triple c d e, a => by
    show (plW (c.enc a.1) && (plW (d.enc a.2.1) && (plW (e.enc a.2.2) && true))) = true
    rw [pl_enc c a.1, pl_enc d a.2.1, pl_enc e a.2.2] <;> rfl
  | .option c, none => rfl
  | .option c, some x => pl_enc c x
theorem pl_encAll : ∀ (cs : List Codec) (a : Codec.denoteAll cs), plWs (Codec.encAll cs a) = true
  | [], _ => rfl
  | c :: cs, a => by
    show (plW (c.enc a.1) && plWs (Codec.encAll cs a.2)) = true
    rw [pl_enc c a.1, pl_encAll cs a.2] <;> rfl
theorem weight_mem : ∀ {xs : List WData} {d : WData}, d ∈ xs → d.weight ≤ WData.weightAll xs
  | [], d, h => absurd h (by simp)
  | x :: r, d, h => by
    show d.weight ≤ x.weight + 1 + WData.weightAll r
    rcases List.mem_cons.mp h with e | m
    · rw [e]
      omega
    · have z := weight_mem m
      omega
def toV : Value → V
  | .none => .non
  | .bool b => .bl b
  | .int i _ => .int i
  | .str x _ => .str x
  | .bytes b _ => .byt b
  | .ref a => .ref a
  | _ => .non
/-- a value of the arguments, its objects among A -/
def OkU (A : List Addr) : Value → Prop
  | .none => True
  | .bool _ => True
  | .int _ _ => True
  | .str _ _ => True
  | .bytes _ _ => True
  | .ref a => a ∈ A
  | _ => False
theorem OkU.mono {A B : List Addr} (h : ∀ a ∈ A, a ∈ B) : ∀ {u : Value}, OkU A u → OkU B u := fun {u} x => by
  cases u with
  | ref a => exact h a x
  | none => trivial
  | bool b => trivial
  | int i t => trivial
  | str s t => trivial
  | bytes b t => trivial
  | _ => exact False.elim x
theorem relV_toV {A : List Addr} {u : Value} (x : OkU A u) : RelV (toV u) u := by
  cases u with
  | ref a => rfl
  | none => rfl
  | bool b => rfl
  | int i t => exact ⟨t, rfl⟩
  | str s t => exact ⟨t, rfl⟩
  | bytes b t => exact ⟨t, rfl⟩
  | _ => exact False.elim x
theorem vals_toV {A : List Addr} : ∀ {vs : List Value}, (∀ u ∈ vs, OkU A u) → Vals (vs.map toV) vs
  | [], _ => .nil
  | u :: r, h => .cons (relV_toV (h u (List.mem_cons_self ..))) (vals_toV fun x hx => h x (List.mem_cons_of_mem _ hx))
/-- an object of the arguments -/
def ArgOb (h : Heap) (A : List Addr) (a : Addr) : Prop := ∃ vs : List Value, vs.length ≤ sizeLine ∧ (∀ u ∈ vs, OkU A u) ∧
  (h.get? a = some { cls := .type "list", data := .seq vs.toArray } ∨ h.get? a = some { cls := .type "tuple", data := .seq vs.toArray })
theorem ArgOb.mono {h : Heap} {A B : List Addr} {a : Addr} (k : ∀ a ∈ A, a ∈ B) (x : ArgOb h A a) : ArgOb h B a := by
  obtain ⟨vs, h1, h2, h3⟩ := x
  exact ⟨vs, h1, fun u hu => (h2 u hu).mono k, h3⟩
theorem wellAll_len {P : Params} {h : Heap} : ∀ {vs : List Value} {ds : List WData}, WellAll P h vs ds → vs.length = ds.length
  | _, _, .nil => rfl
  | _, _, .cons _ b => by
    show _ + 1 = _ + 1
    rw [wellAll_len b]
theorem well_list {P : Params} {h : Heap} {v : Value} {ds : List WData} (x : Well P h v (.list ds)) : ∃ (a : Addr) (vs : List Value), v = .ref a ∧ h.get? a = some { cls := .type "list", data := .seq vs.toArray } ∧ WellAll P h vs ds := by
  cases x with
  | list ho hall => exact ⟨_, _, rfl, ho, hall⟩
theorem well_tuple {P : Params} {h : Heap} {v : Value} {ds : List WData} (x : Well P h v (.tuple ds)) : ∃ (a : Addr) (vs : List Value), v = .ref a ∧ h.get? a = some { cls := .type "tuple", data := .seq vs.toArray } ∧ WellAll P h vs ds := by
  cases x with
  | tuple ho hall => exact ⟨_, _, rfl, ho, hall⟩
theorem well_cons {P : Params} {h : Heap} {us : List Value} {d : WData} {ds : List WData} (x : WellAll P h us (d :: ds)) : ∃ (v : Value) (vs : List Value), us = v :: vs ∧ Well P h v d ∧ WellAll P h vs ds := by
  cases x with
  | cons a b => exact ⟨_, _, rfl, a, b⟩
theorem line_of {n : Nat} (h : n ≤ 1048576) : n ≤ sizeLine := Nat.le_trans h (by decide)
section
variable {P : Params} {h : Heap}
mutual
theorem area_one : ∀ (d : WData) (v : Value), Well P h v d → plW d = true → d.weight ≤ 1048576 → ∃ A : List Addr, OkU A v ∧ ∀ a ∈ A, ArgOb h A a
  | .none, _, x, _, _ => by
    cases x
    exact ⟨[], trivial, fun a m => absurd m (by simp)⟩
  | .bool b, _, x, _, _ => by
    cases x
    exact ⟨[], trivial, fun a m => absurd m (by simp)⟩
  | .int i, _, x, _, _ => by
    cases x
    exact ⟨[], trivial, fun a m => absurd m (by simp)⟩
  | .str s, _, x, _, _ => by
    cases x
    exact ⟨[], trivial, fun a m => absurd m (by simp)⟩
  | .bytes b, _, x, _, _ => by
    cases x
    exact ⟨[], trivial, fun a m => absurd m (by simp)⟩
  | .list ds, _, x, p, z => by
    obtain ⟨a, vs, rfl, ho, hall⟩ := well_list x
    have z2 : WData.weightAll ds ≤ 1048576 := z
    obtain ⟨A, h1, h2⟩ := area_all ds _ hall p fun d hd => Nat.le_trans (weight_mem hd) z2
    have k : ∀ b ∈ A, b ∈ a :: A := fun b hb => List.mem_cons_of_mem _ hb
    refine ⟨a :: A, List.mem_cons_self .., fun b hb => ?_⟩
    rcases List.mem_cons.mp hb with e | m
    · rw [e]
      exact ⟨vs, line_of (by rw [wellAll_len hall]; exact Nat.le_trans (PySem.W.length_le_weightAllW ds) z2), fun u hu => (h1 u hu).mono k, .inl ho⟩
    · exact (h2 b m).mono k
  | .tuple ds, _, x, p, z => by
    obtain ⟨a, vs, rfl, ho, hall⟩ := well_tuple x
    have z2 : WData.weightAll ds ≤ 1048576 := z
    obtain ⟨A, h1, h2⟩ := area_all ds _ hall p fun d hd => Nat.le_trans (weight_mem hd) z2
    have k : ∀ b ∈ A, b ∈ a :: A := fun b hb => List.mem_cons_of_mem _ hb
    refine ⟨a :: A, List.mem_cons_self .., fun b hb => ?_⟩
    rcases List.mem_cons.mp hb with e | m
    · rw [e]
      exact ⟨vs, line_of (by rw [wellAll_len hall]; exact Nat.le_trans (PySem.W.length_le_weightAllW ds) z2), fun u hu => (h1 u hu).mono k, .inr ho⟩
    · exact (h2 b m).mono k
  | .float _, _, _, p, _ => Bool.noConfusion (show false = true from p)
  | .dict _, _, _, p, _ => Bool.noConfusion (show false = true from p)
  | .bytearray _, _, _, p, _ => Bool.noConfusion (show false = true from p)
  | .set _, _, _, p, _ => Bool.noConfusion (show false = true from p)
  | .frozenset _, _, _, p, _ => Bool.noConfusion (show false = true from p)
  | .obj _ _, _, _, p, _ => Bool.noConfusion (show false = true from p)
theorem area_all : ∀ (ds : List WData) (vs : List Value), WellAll P h vs ds → plWs ds = true → (∀ d ∈ ds, d.weight ≤ 1048576) → ∃ A : List Addr, (∀ u ∈ vs, OkU A u) ∧ ∀ a ∈ A, ArgOb h A a
  | [], _, x, _, _ => by
    cases x
    exact ⟨[], fun u m => absurd m (by simp), fun a m => absurd m (by simp)⟩
  | d :: ds, _, x, p, z => by
    obtain ⟨v, vs, rfl, x1, x2⟩ := well_cons x
    have q : plW d = true ∧ plWs ds = true := Bool.and_eq_true_iff.mp p
    obtain ⟨A, a1, a2⟩ := area_one d v x1 q.1 (z d (List.mem_cons_self ..))
    obtain ⟨B, b1, b2⟩ := area_all ds vs x2 q.2 fun e he => z e (List.mem_cons_of_mem _ he)
    have kA : ∀ b ∈ A, b ∈ A ++ B := fun b hb => List.mem_append.mpr (.inl hb)
    have kB : ∀ b ∈ B, b ∈ A ++ B := fun b hb => List.mem_append.mpr (.inr hb)
    refine ⟨A ++ B, fun u hu => ?_, fun b hb => ?_⟩
    · rcases List.mem_cons.mp hu with e | m
      · rw [e]
        exact a1.mono kA
      · exact (b1 u m).mono kB
    · rcases List.mem_append.mp hb with m | m
      · exact (a2 b m).mono kA
      · exact (b2 b m).mono kB
end
end
/-- what is tracked of an argument's object -/
def hoOf (o : Obj) : Option HO := match o.data with
  | .seq vs _ => if (o.cls == Value.type "list") = true then some (.frz o (.lst (vs.toList.map toV))) else some (.frz o (.tup (vs.toList.map toV)))
  | _ => none
def argH (K : PySem.W.Frag) (h : Heap) (A : List Addr) : Hp := fun b => if b ∈ A then (if (K.lookup b).isNone = true then (h.get? b).bind hoOf else none) else none
/-- nothing is tracked but what is known to the object -/
def OnlyF (H : Hp) : Prop := ∀ b, H b = none ∨ ∃ o u, H b = some (.frz o u)
theorem hoOf_lst (vs : List Value) : hoOf { cls := .type "list", data := .seq vs.toArray } = some (.frz { cls := .type "list", data := .seq vs.toArray } (.lst (vs.map toV))) := by
  show (if (Value.type "list" == Value.type "list") = true then some (HO.frz { cls := .type "list", data := .seq vs.toArray } (.lst (vs.toArray.toList.map toV))) else some (HO.frz { cls := .type "list", data := .seq vs.toArray } (.tup (vs.toArray.toList.map toV)))) = _
  rw [if_pos (beq_self_eq_true _)]
theorem hoOf_tup (vs : List Value) : hoOf { cls := .type "tuple", data := .seq vs.toArray } = some (.frz { cls := .type "tuple", data := .seq vs.toArray } (.tup (vs.map toV))) := by
  show (if (Value.type "tuple" == Value.type "list") = true then some (HO.frz { cls := .type "tuple", data := .seq vs.toArray } (.lst (vs.toArray.toList.map toV))) else some (HO.frz { cls := .type "tuple", data := .seq vs.toArray } (.tup (vs.toArray.toList.map toV)))) = _
  rw [if_neg (by decide)]
section
variable {P : Program} {w : World} {K : PySem.W.Frag} {h : Heap} {A : List Addr}
theorem argH_at {b : Addr} {o : Obj} (hb : b ∈ A) (hk : K.lookup b = none) (e : h.get? b = some o) : argH K h A b = hoOf o := by
  unfold argH
  rw [if_pos hb, hk, if_pos (show (none : Option Obj).isNone = true from rfl), e] <;> rfl
theorem of_argH {b : Addr} {u : HO} (q : argH K h A b = some u) : b ∈ A ∧ K.lookup b = none := by
  unfold argH at q
  by_cases hb : b ∈ A
  · rw [if_pos hb] at q
    cases hk : K.lookup b with
    | none => exact ⟨hb, rfl⟩
    | some o =>
      rw [hk, if_neg (by simp)] at q
      cases q
  · rw [if_neg hb] at q
    cases q
/-- what stands tracked -/
theorem argH_is (ar : ∀ a ∈ A, ArgOb h A a) {b : Addr} {u : HO} (q : argH K h A b = some u) : K.lookup b = none ∧ ∃ vs : List Value, vs.length ≤ sizeLine ∧ (∀ u ∈ vs, OkU A u) ∧
    ((h.get? b = some { cls := .type "list", data := .seq vs.toArray } ∧ u = .frz { cls := .type "list", data := .seq vs.toArray } (.lst (vs.map toV))) ∨
     (h.get? b = some { cls := .type "tuple", data := .seq vs.toArray } ∧ u = .frz { cls := .type "tuple", data := .seq vs.toArray } (.tup (vs.map toV)))) := by
  obtain ⟨hb, hk⟩ := of_argH q
  obtain ⟨vs, h1, h2, h3⟩ := ar b hb
  refine ⟨hk, vs, h1, h2, ?_⟩
  rcases h3 with e | e
  · rw [argH_at hb hk e, hoOf_lst] at q
    exact .inl ⟨e, (Option.some.inj q).symm⟩
  · rw [argH_at hb hk e, hoOf_tup] at q
    exact .inr ⟨e, (Option.some.inj q).symm⟩
theorem argH_only (ar : ∀ a ∈ A, ArgOb h A a) : OnlyF (argH K h A) := fun b => by
  cases q : argH K h A b with
  | none => exact .inl rfl
  | some u =>
    obtain ⟨_, vs, _, _, ⟨_, e⟩ | ⟨_, e⟩⟩ := argH_is ar q
    · exact .inr ⟨_, _, by rw [e]⟩
    · exact .inr ⟨_, _, by rw [e]⟩
theorem argH_ok (ar : ∀ a ∈ A, ArgOb h A a) : HOk P w (argH K h A) h := fun b u q => by
  obtain ⟨_, vs, h1, h2, ⟨e, rfl⟩ | ⟨e, rfl⟩⟩ := argH_is ar q
  · exact ⟨e, by rw [List.length_map]; exact h1, vs, _, vals_toV h2, e⟩
  · exact ⟨e, by rw [List.length_map]; exact h1, vs, vals_toV h2, _, e, rfl, _, rfl⟩
theorem seq_inj {c c' : Value} {vs us : List Value} (e : (some { cls := c, data := .seq vs.toArray } : Option Obj) = some { cls := c', data := .seq us.toArray }) : c = c' ∧ vs = us := by
  have e1 := Option.some.inj e
  have e2 : c = c' := congrArg Obj.cls e1
  have e3 : Data.seq vs.toArray = Data.seq us.toArray := congrArg Obj.data e1
  injection e3 with e4
  refine ⟨e2, ?_⟩
  have e5 := congrArg Array.toList e4
  simpa using e5
/-- a list argument -/
theorem argL (KX : K.In h) (ar : ∀ a ∈ A, ArgOb h A a) {a : Addr} {vs : List Value} (ha : a ∈ A) (e : h.get? a = some { cls := .type "list", data := .seq vs.toArray }) : (∀ u ∈ vs, OkU A u) ∧ SqL K (argH K h A) a (vs.map toV) := by
  obtain ⟨us, h1, h2, h3⟩ := ar a ha
  have hu : us = vs := by
    rcases h3 with q | q
    · rw [e] at q
      exact (seq_inj q).2.symm
    · rw [e] at q
      exact absurd (Value.type.inj (seq_inj q).1) (by decide)
  subst hu
  refine ⟨h2, ?_⟩
  cases hk : K.lookup a with
  | none => exact .inl (.inr ⟨_, by rw [argH_at ha hk e, hoOf_lst]⟩)
  | some o =>
    have e2 := KX a o hk
    rw [e] at e2
    obtain rfl := Option.some.inj e2
    exact .inr ⟨_, us.toArray, _, hk, rfl, rfl, rfl, by rw [List.size_toArray]; exact h1, by simpa using vals_toV h2⟩
theorem argT (KX : K.In h) (ar : ∀ a ∈ A, ArgOb h A a) {a : Addr} {vs : List Value} (ha : a ∈ A) (e : h.get? a = some { cls := .type "tuple", data := .seq vs.toArray }) : (∀ u ∈ vs, OkU A u) ∧ SqT K (argH K h A) a (vs.map toV) := by
  obtain ⟨us, h1, h2, h3⟩ := ar a ha
  have hu : us = vs := by
    rcases h3 with q | q
    · rw [e] at q
      exact absurd (Value.type.inj (seq_inj q).1) (by decide)
    · rw [e] at q
      exact (seq_inj q).2.symm
  subst hu
  refine ⟨h2, ?_⟩
  cases hk : K.lookup a with
  | none => exact .inl (.inr ⟨_, by rw [argH_at ha hk e, hoOf_tup]⟩)
  | some o =>
    have e2 := KX a o hk
    rw [e] at e2
    obtain rfl := Option.some.inj e2
    exact .inr ⟨_, us.toArray, _, hk, rfl, rfl, by rw [List.size_toArray]; exact h1, by simpa using vals_toV h2⟩
mutual
theorem dw_one {Pm : Params} (KX : K.In h) (ar : ∀ a ∈ A, ArgOb h A a) : ∀ (d : WData) (v : Value), Well Pm h v d → plW d = true → OkU A v → Dw K (argH K h A) (toV v) d
  | .none, _, x, _, _ => by
    cases x
    exact .non
  | .bool b, _, x, _, _ => by
    cases x
    exact .bl b
  | .int i, _, x, _, _ => by
    cases x
    exact .int i
  | .str s, _, x, _, _ => by
    cases x
    exact .str s
  | .bytes b, _, x, _, _ => by
    cases x
    have z := Dw.byt (K := K) (H := argH K h A) b.toArray
    exact z
  | .list ds, _, x, p, hu => by
    obtain ⟨a, vs, rfl, ho, hall⟩ := well_list x
    obtain ⟨h2, hs⟩ := argL KX ar hu ho
    exact .lst hs (dw_all KX ar ds _ hall p h2)
  | .tuple ds, _, x, p, hu => by
    obtain ⟨a, vs, rfl, ho, hall⟩ := well_tuple x
    obtain ⟨h2, hs⟩ := argT KX ar hu ho
    exact .tup hs (dw_all KX ar ds _ hall p h2)
  | .float _, _, _, p, _ => Bool.noConfusion (show false = true from p)
  | .dict _, _, _, p, _ => Bool.noConfusion (show false = true from p)
  | .bytearray _, _, _, p, _ => Bool.noConfusion (show false = true from p)
  | .set _, _, _, p, _ => Bool.noConfusion (show false = true from p)
  | .frozenset _, _, _, p, _ => Bool.noConfusion (show false = true from p)
  | .obj _ _, _, _, p, _ => Bool.noConfusion (show false = true from p)
theorem dw_all {Pm : Params} (KX : K.In h) (ar : ∀ a ∈ A, ArgOb h A a) : ∀ (ds : List WData) (vs : List Value), WellAll Pm h vs ds → plWs ds = true → (∀ u ∈ vs, OkU A u) → DwAll K (argH K h A) (vs.map toV) ds
  | [], _, x, _, _ => by
    cases x
    exact .nil
  | d :: ds, _, x, p, hu => by
    obtain ⟨v, vs, rfl, x1, x2⟩ := well_cons x
    have q : plW d = true ∧ plWs ds = true := Bool.and_eq_true_iff.mp p
    exact .cons (dw_one KX ar d v x1 q.1 (hu _ (List.mem_cons_self ..))) (dw_all KX ar ds vs x2 q.2 fun u m => hu u (List.mem_cons_of_mem _ m))
end
end
/-! ### the call -/
/-! ### the row -/
theorem layable_weight {ds : List WData} (h : WData.layableAll ds = true) : ∀ d ∈ ds, d.weight ≤ 1048576 := fun d hd =>
  (PySem.W.layableW_iff.mp (List.all_eq_true.mp h d hd)).2.2
theorem encAll_len : ∀ (cs : List Codec) (a : Codec.denoteAll cs), (Codec.encAll cs a).length = cs.length
  | [], _ => rfl
  | c :: cs, a => by
    show (Codec.encAll cs a.2).length + 1 = cs.length + 1
    rw [encAll_len cs a.2]
end L2
-- rests on (row put in by the clerk, for the bench that shows a file only what it spells): KE.SpHead KE.OsShapes
end

section
set_option Elab.async false
set_option linter.all false
set_option maxRecDepth 100000
set_option maxHeartbeats 2000000
namespace Srt
open PySem PySem.Spec PyProof.Rows

/-- all objects are as they were -/
def Kp (h h' : Heap) : Prop := ∀ b o, h.get? b = some o → h'.get? b = some o
theorem Kp.rf (h : Heap) : Kp h h := fun _ _ e => e
theorem Kp.tr {h h1 h2 : Heap} (x : Kp h h1) (y : Kp h1 h2) : Kp h h2 := fun b o e => y b o (x b o e)
theorem Kp.upd {h h1 : Heap} (x : Kp h h1) {a : Addr} (f : Obj → Obj) (ha : h.objs.size ≤ a) : Kp h (h1.update a f) := fun b o e => by
  have hb : b ≠ a := Nat.ne_of_lt (Nat.lt_of_lt_of_le (Heap.lt_size e) ha)
  rw [Heap.get?_update_ne _ _ _ _ hb]
  exact x b o e
theorem Kp.psh {h h1 : Heap} (x : Kp h h1) (o : Obj) : Kp h (h1.push o) := fun b u e => Heap.get?_push_of_some _ (x b u e)

/-- a pair of key and item, the key read -/
def rdK (κ : KeyKind) (p : Keyed) : κ.α × Value := ((κ.keyOf p.1).getD κ.dflt, p.2)
def alikeK (κ : KeyKind) (c : κ.α) (p : κ.α × Value) : Bool := !κ.blt p.1 c && !κ.blt c p.1
/-- sorted by kz, like ones in their order -/
def SortedBy (κ : KeyKind) (b : Bool) (kz : List κ.α) (vs out : List Value) : Prop :=
  ∃ ps : List (κ.α × Value), ps.Perm (kz.zip vs) ∧ out = ps.map Prod.snd ∧ ps.Pairwise (fun p q => if b then κ.kle q.1 p.1 else κ.kle p.1 q.1) ∧
    ∀ c, ps.filter (alikeK κ c) = (kz.zip vs).filter (alikeK κ c)
def ReadAs (κ : KeyKind) (keys : List Value) (kz : List κ.α) : Prop := keys.map κ.keyOf = kz.map some
theorem ReadAs.length {κ : KeyKind} {keys : List Value} {kz : List κ.α} (h : ReadAs κ keys kz) : keys.length = kz.length := by
  have := congrArg List.length h
  rwa [List.length_map, List.length_map] at this
theorem ReadAs.zip {κ : KeyKind} : ∀ {keys : List Value} {kz : List κ.α} (vs : List Value), ReadAs κ keys kz → (keys.zip vs).map (rdK κ) = kz.zip vs
  | [], [], _, _ => by simp
  | [], _ :: _, _, h => by have := h.length; simp at this
  | _ :: _, [], _, h => by have := h.length; simp at this
  | k :: keys, z :: kz, [], _ => by simp
  | k :: keys, z :: kz, v :: vs, h => by
    have h1 : κ.keyOf k = some z ∧ ReadAs κ keys kz := by
      unfold ReadAs at h
      rw [List.map_cons, List.map_cons] at h
      injection h with h1 h2
      exact ⟨h1, h2⟩
    rw [List.zip_cons_cons, List.map_cons, List.zip_cons_cons, ReadAs.zip vs h1.2]
    unfold rdK
    rw [h1.1]
    rfl
theorem ReadAs.mem {κ : KeyKind} : ∀ {keys : List Value} {kz : List κ.α} {vs : List Value} {p : Keyed}, ReadAs κ keys kz → p ∈ keys.zip vs → ∃ a, κ.keyOf p.1 = some a
  | [], _, _, _, _, m => by simp at m
  | _ :: _, [], _, _, h, _ => by have := h.length; simp at this
  | _ :: _, _ :: _, [], _, _, m => by simp at m
  | k :: keys, z :: kz, v :: vs, p, h, m => by
    unfold ReadAs at h
    rw [List.map_cons, List.map_cons] at h
    injection h with h1 h2
    rw [List.zip_cons_cons] at m
    rcases List.mem_cons.mp m with e | m
    · rw [e]
      exact ⟨z, h1⟩
    · exact ReadAs.mem h2 m
theorem filter_rd {κ : KeyKind} {l : List Keyed} (h : ∀ p ∈ l, ∃ a, κ.keyOf p.1 = some a) (c : κ.α) : (l.map (rdK κ)).filter (alikeK κ c) = (rowOf κ c l).map (rdK κ) := by
  rw [List.filter_map]
  congr 1
  refine List.filter_congr fun p hp => ?_
  obtain ⟨a, e⟩ := h p hp
  show alikeK κ c (rdK κ p) = sameKey κ c p
  unfold alikeK rdK sameKey
  rw [e]
  rfl
theorem KK_rd {κ : KeyKind} {xs : Array Keyed} {i : Nat} (h : i < xs.size) : KK κ xs i = (rdK κ xs[i]).1 := by
  unfold KK
  rw [Array.getElem?_eq_getElem h]
  rfl
theorem sorted_by {κ : KeyKind} {keys : Array Value} {kz : List κ.α} {vs : List Value} {xs : Array Keyed} {b : Bool} (hk : ReadAs κ keys.toList kz) (hp : xs.Perm (keys.zip vs.toArray)) (hs : SortedToK κ xs xs.size)
    (hst : Stable κ xs (if b = true then (keys.zip vs.toArray).reverse else keys.zip vs.toArray)) : SortedBy κ b kz vs (if b then (xs.map (·.2)).reverse else xs.map (·.2)).toList := by
  have ez : (keys.zip vs.toArray).toList = keys.toList.zip vs := by simp
  have hl := Array.perm_iff_toList_perm.mp hp
  rw [ez] at hl
  have hz : ∀ p ∈ keys.toList.zip vs, ∃ a, κ.keyOf p.1 = some a := fun p m => hk.mem m
  have hx : ∀ p ∈ xs.toList, ∃ a, κ.keyOf p.1 = some a := fun p m => hz p (hl.mem_iff.mp m)
  have e1 := hk.zip vs
  have h1 : (xs.toList.map (rdK κ)).Perm (kz.zip vs) := e1 ▸ hl.map _
  have h2 : (xs.map (·.2)).toList = (xs.toList.map (rdK κ)).map Prod.snd := by
    rw [Array.toList_map, List.map_map]
    rfl
  have h3 : (xs.toList.map (rdK κ)).Pairwise fun p q => κ.kle p.1 q.1 := by
    rw [List.pairwise_iff_getElem]
    intro i j hi hj hij
    have hi' : i < xs.size := by simpa using hi
    have hj' : j < xs.size := by simpa using hj
    have q := hs i j (Nat.le_of_lt hij) hj'
    rw [KK_rd hi', KK_rd hj'] at q
    simpa using q
  have h4 : ∀ c, (xs.toList.map (rdK κ)).filter (alikeK κ c) = (rowOf κ c xs.toList).map (rdK κ) := fun c => filter_rd hx c
  have h5 : ∀ c, (kz.zip vs).filter (alikeK κ c) = (rowOf κ c (keys.toList.zip vs)).map (rdK κ) := fun c => by
    rw [← e1]
    exact filter_rd hz c
  cases b with
  | false =>
    refine ⟨xs.toList.map (rdK κ), h1, h2, h3, fun c => ?_⟩
    have t : rowOf κ c xs.toList = rowOf κ c (keys.zip vs.toArray).toList := hst c
    rw [h4, h5, t, ez]
  | true =>
    refine ⟨(xs.toList.map (rdK κ)).reverse, (List.reverse_perm _).trans h1, ?_, ?_, fun c => ?_⟩
    · show ((xs.map (·.2)).reverse).toList = _
      rw [Array.toList_reverse, h2, List.map_reverse]
    · show List.Pairwise (fun p q : κ.α × Value => κ.kle q.1 p.1) _
      rw [List.pairwise_reverse]
      exact h3
    · have t : rowOf κ c xs.toList = rowOf κ c (keys.zip vs.toArray).reverse.toList := hst c
      rw [Array.toList_reverse, ez] at t
      rw [List.filter_reverse, h4, h5, t]
      unfold rowOf
      rw [List.filter_reverse, List.map_reverse, List.reverse_reverse]

section
variable {prog : Program} {w : World} {A : Around} {E : Value → Shared → Prop} {s : Shared} {h0 : Heap} {a kS : Addr} {b : Bool} {vs : List Value} {keys : Array Value} {e e1 : Nat} {P : PySem.Fin → Shared → Prop} {κ : KeyKind} {kz : List κ.α} {kd : SortKind}

theorem at_tail {st : SortSt} (kp : Kp h0 s.heap) (ha : h0.objs.size ≤ a) (hk : h0.objs.size ≤ kS) (hka : kS ≠ a) (hoa : s.heap.get? a = some (seqObj "list" #[] e1)) (hok : s.heap.get? kS = some (seqObj "list" keys e)) (hks : keys.size ≤ sizeLine)
    (hz : (if b then ((arrOf st).map (·.2)).reverse else (arrOf st).map (·.2)).size ≤ sizeLine) (hfl : failedOf st = none)
    (h : ∀ h' c, Kp h0 h' → h'.get? a = some (seqObj "list" (if b then ((arrOf st).map (·.2)).reverse else (arrOf st).map (·.2)) c) → P (.done (.ret .none)) { s with heap := h' }) :
    wpAny (model prog w) A (ksk_tail a b e1 (.ref kS) st) P E s := by
  have hoa1 : (s.heap.update kS (Obj.mapSeq fun _ => (#[] : Array Value))).get? a = some (seqObj "list" #[] e1) := by
    rw [Heap.get?_update_ne _ _ _ _ hka.symm]
    exact hoa
  unfold ksk_tail
  try dsimp only
  refine wpAny_bind (listUpdate_at hok rfl ?_ hks (Nat.zero_le _))
  refine wpAny_bind (wpAny_letGo ?_)
  refine wpAny_bind (seqEpoch_at hoa1 rfl ?_)
  refine wpAny_bind (listUpdate_at hoa1 rfl ?_ (Nat.zero_le _) (Nat.le_succ_of_le hz))
  rw [hfl]
  simp only [bne_self_eq_false, Bool.false_eq_true, if_false]
  refine wpAny_pure (h _ _ ((kp.upd _ hk).upd _ ha) (get?_update_seq hoa1 _))

end
end Srt
end

section
set_option Elab.async false
set_option linter.all false
set_option maxRecDepth 100000
set_option maxHeartbeats 2000000
namespace Srt
open PySem

/-- a run ends in one way alone -/
theorem runs_one {M : Model} {Γ : Ctx} {p : Pos} {t : Sem PySem.Fin} {fs : List Frame} {s : Shared} {e : End} {s' : Shared} (h : Runs M Γ p t fs s e s') : ∀ {e2 : End} {s2 : Shared}, Runs M Γ p t fs s e2 s2 → e = e2 ∧ s' = s2 := by
  induction h with
  | done => intro e2 s2 h; cases h; exact ⟨rfl, rfl⟩
  | raise => intro e2 s2 h; cases h; exact ⟨rfl, rfl⟩
  | again _ _ ih => intro e2 s2 h; cases h; exact ih (by assumption)
  | rule _ ih => intro e2 s2 h; cases h; exact ih (by assumption)
  | «at» _ ih => intro e2 s2 h; cases h; exact ih (by assumption)
  | load q _ ih =>
    intro e2 s2 h
    cases h with
    | load q2 h2 => rw [q] at q2; cases q2; exact ih h2
  | update _ _ ih => intro e2 s2 h; cases h; exact ih (by assumption)
  | loadIfAlive _ ih => intro e2 s2 h; cases h; exact ih (by assumption)
  | point _ ih => intro e2 s2 h; cases h; exact ih (by assumption)
  | alloc _ ih => intro e2 s2 h; cases h; exact ih (by assumption)
  | fresh _ ih => intro e2 s2 h; cases h; exact ih (by assumption)
  | ask _ ih => intro e2 s2 h; cases h; exact ih (by assumption)
  | choose _ _ ih => intro e2 s2 h; cases h; exact ih (by assumption)
  | os _ ih => intro e2 s2 h; cases h; exact ih (by assumption)
  | handled _ ih => intro e2 s2 h; cases h; exact ih (by assumption)
  | genState q _ ih =>
    intro e2 s2 h
    cases h with
    | genState q2 h2 => rw [q] at q2; cases q2; exact ih h2
  | stack _ ih => intro e2 s2 h; cases h; exact ih (by assumption)
  | thread _ ih => intro e2 s2 h; cases h; exact ih (by assumption)
  | newGen _ ih => intro e2 s2 h; cases h; exact ih (by assumption)
  | call _ _ ih1 ih2 =>
    intro e2 s2 h
    cases h with
    | call h1 h2 =>
      obtain ⟨a, b⟩ := ih1 h1
      cases a
      subst b
      exact ih2 h2
    | callSusp h1 =>
      obtain ⟨a, b⟩ := ih1 h1
      cases a
  | callSusp _ ih =>
    intro e2 s2 h
    cases h with
    | call h1 h2 =>
      obtain ⟨a, b⟩ := ih h1
      cases a
    | callSusp h1 =>
      obtain ⟨a, b⟩ := ih h1
      cases a
      subst b
      exact ⟨rfl, rfl⟩
  | yield => intro e2 s2 h; cases h; exact ⟨rfl, rfl⟩
  | resumeFresh q _ _ _ ih1 ih2 =>
    intro e2 s2 h
    cases h with
    | resumeFresh q2 h1 _ h2 =>
      rw [q] at q2
      cases q2
      obtain ⟨a, b⟩ := ih1 h1
      subst a b
      exact ih2 h2
    | resumeSuspended q2 => rw [q] at q2; cases q2
    | resumeJustStarted q2 n _ => exact absurd rfl n
    | resumeRunning q2 => rw [q] at q2; cases q2
    | resumeFinished q2 => rw [q] at q2; cases q2
  | resumeSuspended q _ _ _ ih1 ih2 =>
    intro e2 s2 h
    cases h with
    | resumeFresh q2 => rw [q] at q2; cases q2
    | resumeSuspended q2 h1 _ h2 =>
      rw [q] at q2
      cases q2
      obtain ⟨a, b⟩ := ih1 h1
      subst a b
      exact ih2 h2
    | resumeJustStarted q2 => rw [q] at q2; cases q2
    | resumeThrowFresh q2 => rw [q] at q2; cases q2
    | resumeRunning q2 => rw [q] at q2; cases q2
    | resumeFinished q2 => rw [q] at q2; cases q2
  | resumeJustStarted q n _ ih =>
    intro e2 s2 h
    cases h with
    | resumeFresh q2 => exact absurd rfl n
    | resumeSuspended q2 => rw [q] at q2; cases q2
    | resumeJustStarted _ _ h2 => exact ih h2
    | resumeRunning q2 => rw [q] at q2; cases q2
    | resumeFinished q2 => rw [q] at q2; cases q2
  | resumeThrowFresh q _ ih =>
    intro e2 s2 h
    cases h with
    | resumeSuspended q2 => rw [q] at q2; cases q2
    | resumeThrowFresh _ h2 => exact ih h2
    | resumeRunning q2 => rw [q] at q2; cases q2
    | resumeFinished q2 => rw [q] at q2; cases q2
  | resumeRunning q _ ih =>
    intro e2 s2 h
    cases h with
    | resumeFresh q2 => rw [q] at q2; cases q2
    | resumeSuspended q2 => rw [q] at q2; cases q2
    | resumeJustStarted q2 => rw [q] at q2; cases q2
    | resumeThrowFresh q2 => rw [q] at q2; cases q2
    | resumeRunning _ h2 => exact ih h2
    | resumeFinished q2 => rw [q] at q2; cases q2
  | resumeFinished q _ ih =>
    intro e2 s2 h
    cases h with
    | resumeFresh q2 => rw [q] at q2; cases q2
    | resumeSuspended q2 => rw [q] at q2; cases q2
    | resumeJustStarted q2 => rw [q] at q2; cases q2
    | resumeThrowFresh q2 => rw [q] at q2; cases q2
    | resumeRunning q2 => rw [q] at q2; cases q2
    | resumeFinished _ h2 => exact ih h2
  | segRet _ _ ih1 ih2 =>
    intro e2 s2 h
    cases h with
    | segRet h1 h2 =>
      obtain ⟨a, b⟩ := ih1 h1
      cases a
      subst b
      exact ih2 h2
    | segSuspOut _ h1 => obtain ⟨a, b⟩ := ih1 h1; cases a
    | segSuspGen _ h1 => obtain ⟨a, b⟩ := ih1 h1; cases a
  | segGen _ _ ih1 ih2 =>
    intro e2 s2 h
    cases h with
    | segGen h1 h2 =>
      obtain ⟨a, b⟩ := ih1 h1
      cases a
      subst b
      exact ih2 h2
    | segSuspOut _ h1 => obtain ⟨a, b⟩ := ih1 h1; cases a
    | segSuspGen _ h1 => obtain ⟨a, b⟩ := ih1 h1; cases a
  | segSuspOut q _ ih =>
    intro e2 s2 h
    cases h with
    | segRet h1 h2 => obtain ⟨a, b⟩ := ih h1; cases a
    | segGen h1 h2 => obtain ⟨a, b⟩ := ih h1; cases a
    | segSuspOut _ h1 =>
      obtain ⟨a, b⟩ := ih h1
      cases a
      subst b
      exact ⟨rfl, rfl⟩
    | segSuspGen q2 h1 => rw [q] at q2; cases q2
  | segSuspGen q _ _ _ ih1 ih2 =>
    intro e2 s2 h
    cases h with
    | segRet h1 h2 => obtain ⟨a, b⟩ := ih1 h1; cases a
    | segGen h1 h2 => obtain ⟨a, b⟩ := ih1 h1; cases a
    | segSuspOut q2 h1 => rw [q] at q2; cases q2
    | segSuspGen q2 h1 _ h2 =>
      rw [q] at q2
      cases q2
      obtain ⟨a, b⟩ := ih1 h1
      cases a
      subst b
      exact ih2 h2

theorem wakes_one {M : Model} {Γ : Ctx} {p : Pos} {g : Nat} {r : Resume} {s s1 s2 : Shared} {a b : GenResult} (h1 : Wakes M Γ p g r s a s1) (h2 : Wakes M Γ p g r s b s2) : a = b ∧ s1 = s2 := by
  unfold Wakes at h1 h2
  cases q : s.gens[g]? with
  | none => rw [q] at h1; exact h1.elim
  | some st =>
    rw [q] at h1 h2
    cases st with
    | fresh c =>
      cases r with
      | send v =>
        by_cases hv : v = .none
        · subst hv
          obtain ⟨e, u, x1, x2, x3, x4⟩ := h1
          obtain ⟨e', u', y1, y2, y3, y4⟩ := h2
          obtain ⟨z1, z2⟩ := runs_one x1 y1
          subst z1 z2 x3 x4 y3 y4
          exact ⟨rfl, rfl⟩
        · cases v <;> first | exact absurd rfl hv | exact ⟨h1.1.trans h2.1.symm, h1.2.trans h2.2.symm⟩
      | throw x => exact ⟨h1.1.trans h2.1.symm, h1.2.trans h2.2.symm⟩
    | suspended k l c p fs cl =>
      obtain ⟨e, u, x1, x2, x3, x4⟩ := h1
      obtain ⟨e', u', y1, y2, y3, y4⟩ := h2
      obtain ⟨z1, z2⟩ := runs_one x1 y1
      subst z1 z2 x3 x4 y3 y4
      exact ⟨rfl, rfl⟩
    | running => exact ⟨h1.1.trans h2.1.symm, h1.2.trans h2.2.symm⟩
    | finished => exact ⟨h1.1.trans h2.1.symm, h1.2.trans h2.2.symm⟩
/-- what is true of a run in two ways is true of one end -/
theorem wp_both {α : Type} {M : Model} {Γ : Ctx} {Q1 Q2 : α → Pos → Shared → Prop} {E1 E2 : Value → Pos → Shared → Prop} : ∀ (t : Sem α) (p : Pos) (s : Shared), Sem.wp M Γ t Q1 E1 p s → Sem.wp M Γ t Q2 E2 p s →
    ∃ s', (∃ a p', Q1 a p' s' ∧ Q2 a p' s') ∨ (∃ e p', E1 e p' s' ∧ E2 e p' s') := by
  intro t
  induction t with
  | pure a => intro p s h1 h2; rw [Sem.wp] at h1 h2; exact ⟨s, .inl ⟨a, p, h1, h2⟩⟩
  | raise e => intro p s h1 h2; rw [Sem.wp] at h1 h2; exact ⟨s, .inr ⟨e, p, h1, h2⟩⟩
  | unsupported w => intro p s h1 h2; rw [Sem.wp] at h1; exact h1.elim
  | finish e => intro p s h1 h2; rw [Sem.wp] at h1; exact h1.elim
  | rule tag k ih => intro p s h1 h2; rw [Sem.wp] at h1 h2; exact ih _ _ _ h1 h2
  | «at» q k ih => intro p s h1 h2; rw [Sem.wp] at h1 h2; exact ih _ _ _ h1 h2
  | load a part k ih =>
    intro p s h1 h2
    rw [Sem.wp] at h1 h2
    obtain ⟨o, e1, h1⟩ := h1
    obtain ⟨o', e2, h2⟩ := h2
    rw [e1] at e2
    cases e2
    exact ih _ _ _ h1 h2
  | update a part f k ih => intro p s h1 h2; rw [Sem.wp] at h1 h2; exact ih _ _ _ h1.2 h2.2
  | alloc o k ih => intro p s h1 h2; rw [Sem.wp] at h1 h2; exact ih _ _ _ h1 h2
  | loadIfAlive a k ih => intro p s h1 h2; rw [Sem.wp] at h1 h2; exact ih _ _ _ h1 h2
  | point l k ih => intro p s h1 h2; rw [Sem.wp] at h1 h2; exact ih _ _ _ h1 h2
  | register a k ih => intro p s h1 h2; rw [Sem.wp] at h1; exact h1.elim
  | fresh k ih => intro p s h1 h2; rw [Sem.wp] at h1 h2; exact ih _ _ _ h1 h2
  | ask k ih => intro p s h1 h2; rw [Sem.wp] at h1 h2; exact ih _ _ _ h1 h2
  | choose src n k ih => intro p s h1 h2; rw [Sem.wp] at h1 h2; exact ih _ _ _ h1.2 h2.2
  | os q l k ih => intro p s h1 h2; rw [Sem.wp] at h1 h2; exact ih _ _ _ h1 h2
  | call c h g l k ih =>
    intro p s h1 h2
    rw [Sem.wp] at h1 h2
    obtain ⟨r, u, x1, h1⟩ := h1
    obtain ⟨r', u', y1, h2⟩ := h2
    obtain ⟨z1, z2⟩ := runs_one x1 y1
    cases z1
    subst z2
    exact ih _ _ _ h1 h2
  | handled own k ih => intro p s h1 h2; rw [Sem.wp] at h1 h2; exact ih _ _ _ h1 h2
  | newGen c k ih => intro p s h1 h2; rw [Sem.wp] at h1 h2; exact ih _ _ _ h1 h2
  | genState g k ih =>
    intro p s h1 h2
    rw [Sem.wp] at h1 h2
    obtain ⟨o, e1, h1⟩ := h1
    obtain ⟨o', e2, h2⟩ := h2
    rw [e1] at e2
    cases e2
    exact ih _ _ _ h1 h2
  | resume g r l k ih =>
    intro p s h1 h2
    rw [Sem.wp] at h1 h2
    obtain ⟨r, u, x1, h1⟩ := h1
    obtain ⟨r', u', y1, h2⟩ := h2
    obtain ⟨z1, z2⟩ := wakes_one x1 y1
    subst z1 z2
    exact ih _ _ _ h1 h2
  | yield v g l k ih => intro p s h1 h2; rw [Sem.wp] at h1; exact h1.elim
  | stack k ih => intro p s h1 h2; rw [Sem.wp] at h1 h2; exact ih _ _ _ h1 h2
  | fork c k ih => intro p s h1 h2; rw [Sem.wp] at h1; exact h1.elim
  | thread k ih => intro p s h1 h2; rw [Sem.wp] at h1 h2; exact ih _ _ _ h1 h2
  | await a take timed live k ih => intro p s h1 h2; rw [Sem.wp] at h1; exact h1.elim
end Srt
end

section
set_option Elab.async false
set_option linter.all false
set_option maxRecDepth 100000
set_option maxHeartbeats 2000000
namespace Srt
open PySem PySem.Spec PyProof.Rows PySem.W

/-- the tree of questions walked with an oracle -/
def runO {α : Type} (o : Nat → Nat → Bool) : KasT α → α
  | .ret a => a
  | .ask i j k => runO o (k (o i j))
/-- each question is of numbers below N, each end is a P -/
def Askd {α : Type} (N : Nat) (P : α → Prop) : KasT α → Prop
  | .ret a => P a
  | .ask i j k => i < N ∧ j < N ∧ ∀ b, Askd N P (k b)
theorem Askd.bind {α β : Type} {N : Nat} {P : α → Prop} {P' : β → Prop} {f : α → KasT β} (hf : ∀ a, P a → Askd N P' (f a)) : ∀ t : KasT α, Askd N P t → Askd N P' (t.bind f)
  | .ret a, h => hf a h
  | .ask i j k, h => ⟨h.1, h.2.1, fun b => Askd.bind hf (k b) (h.2.2 b)⟩
theorem Askd.wp {α : Type} {N : Nat} {P : α → Prop} {o : Nat → Nat → Bool} {cmp : Nat → Nat → (Bool → Shared → Prop) → Shared → Prop} {s : Shared} (hc : ∀ i j, i < N → j < N → ∀ C : Bool → Shared → Prop, C (o i j) s → cmp i j C s) {G : α → Shared → Prop} :
    ∀ t : KasT α, Askd N P t → G (runO o t) s → t.kasWp cmp G s
  | .ret a, _, g => g
  | .ask i j k, h, g => hc i j h.1 h.2.1 _ (Askd.wp hc (k (o i j)) (h.2.2 _) g)

def AllB (N : Nat) (p : Array Nat) : Prop := ∀ x ∈ p.toList, x < N
theorem AllB.get {N : Nat} {p : Array Nat} (h : AllB N p) (hN : 0 < N) (i : Nat) : p.getD i 0 < N := by
  rw [Array.getD_eq_getD_getElem?]
  cases e : p[i]? with
  | none => exact hN
  | some x => exact h x (Array.mem_toList_iff.mpr (Array.mem_of_getElem? e))
theorem AllB.perm {N : Nat} {p q : Array Nat} (h : AllB N p) (e : q.Perm p) : AllB N q := fun x m => h x ((Array.perm_iff_toList_perm.mp e).mem_iff.mp m)
section
variable {N : Nat} (hN : 0 < N)
include hN
theorem ask_asc {p : Array Nat} (h : AllB N p) : ∀ f n, Askd N (fun _ => True) (kas_asc p f n)
  | 0, _ => trivial
  | f + 1, n => ⟨h.get hN _, h.get hN _, fun b => by
    cases b with
    | true => exact trivial
    | false => exact ask_asc h f (n + 1)⟩
theorem ask_desc : ∀ f p n q, AllB N p → Askd N (fun r : Array Nat × Nat × Nat => AllB N r.1) (kas_desc f p n q)
  | 0, p, n, q, h => h
  | f + 1, p, n, q, h => ⟨h.get hN _, h.get hN _, fun b => by
    cases b with
    | true =>
      show Askd N _ (if q > 0 then _ else _)
      split
      · exact ask_desc f _ _ _ (h.perm (mirror_perm _ _ _ _))
      · exact ask_desc f _ _ _ h
    | false =>
      refine ⟨h.get hN _, h.get hN _, fun d => ?_⟩
      cases d with
      | true => exact h
      | false => exact ask_desc f _ _ _ h⟩
theorem ask_tail {p : Array Nat} (h : AllB N p) (n m : Nat) : Askd N (fun r : Nat × Array Nat => AllB N r.2) (kas_tail3 n m p) := by
  have h1 : AllB N (kas_rev p 0 n) := h.perm (mirror_perm _ _ _ _)
  refine Askd.bind (P := fun _ => True) (fun a _ => ?_) _ (ask_asc hN h1 _ _)
  exact h1
theorem ask_part {p : Array Nat} (h : AllB N p) (n m : Nat) : Askd N (fun r : Nat × Array Nat => AllB N r.2) (kas_descPart n m p) := by
  refine Askd.bind (fun r hr => ?_) _ (ask_desc hN _ _ _ _ h)
  split
  · exact ask_tail hN (hr.perm (mirror_perm _ _ _ _)) _ _
  · exact ask_tail hN hr _ _
theorem ask_count {p : Array Nat} (h : AllB N p) (m : Nat) : Askd N (fun r : Nat × Array Nat => AllB N r.2) (kas_count m p) := by
  refine Askd.bind (fun n _ => ?_) _ (ask_asc hN h _ _)
  split
  · exact h
  · split
    · refine ⟨h.get hN _, h.get hN _, fun b => ?_⟩
      cases b with
      | true => exact h
      | false => exact ask_part hN (h.perm (mirror_perm _ _ _ _)) _ _
    · exact ask_part hN h _ _
theorem ask_place {p : Array Nat} (h : AllB N p) (k : Nat) : ∀ f l r, Askd N (fun _ => True) (kas_place p k f l r)
  | 0, _, _ => trivial
  | f + 1, l, r => by
    unfold kas_place
    split
    · exact trivial
    · refine ⟨h.get hN _, h.get hN _, fun b => ?_⟩
      cases b with
      | true => exact ask_place h k f _ _
      | false => exact ask_place h k f _ _
theorem ask_bin : ∀ f p k, AllB N p → Askd N (fun _ => True) (kas_bin f p k)
  | 0, _, _, _ => trivial
  | f + 1, p, k, h => Askd.bind (fun _ _ => ask_bin f _ _ (h.perm (bubble_perm _ _ _))) _ (ask_place hN h k _ _ _)
end
theorem ask_sort {n : Nat} (hn : 0 < n) : Askd n (fun _ => True) (kas_sort n) := by
  have h0 : AllB n (List.toArray (List.range n)) := fun x m => by
    rw [List.toList_toArray] at m
    exact List.mem_range.mp m
  refine Askd.bind (fun r hr => ?_) _ (ask_count hn h0 n)
  split
  · exact ask_bin hn _ _ _ hr
  · exact trivial

/-! ### ranks -/
section
variable (o : Nat → Nat → Bool) (n : Nat)
def rank (i : Nat) : Nat := ((List.range n).filter fun j => o j i).length
structure IsOrd : Prop where
  irr : ∀ a, o a a = false
  tra : ∀ a b c, o a b = true → o b c = true → o a c = true
  neg : ∀ a b c, o a c = true → o a b = true ∨ o b c = true
end
theorem filter_le_of {α : Type} {p q : α → Bool} : ∀ l : List α, (∀ x ∈ l, p x = true → q x = true) → (l.filter p).length ≤ (l.filter q).length
  | [], _ => Nat.le_refl _
  | x :: l, h => by
    have ih := filter_le_of l fun y m => h y (List.mem_cons_of_mem _ m)
    rw [List.filter_cons, List.filter_cons]
    cases hp : p x with
    | true =>
      rw [if_pos rfl, if_pos (h x (List.mem_cons_self ..) hp), List.length_cons, List.length_cons]
      omega
    | false =>
      rw [if_neg Bool.false_ne_true]
      split
      · rw [List.length_cons]
        omega
      · exact ih
theorem filter_lt_of {α : Type} {p q : α → Bool} {a : α} : ∀ l : List α, (∀ x ∈ l, p x = true → q x = true) → a ∈ l → p a = false → q a = true → (l.filter p).length < (l.filter q).length
  | [], _, m, _, _ => by cases m
  | x :: l, h, m, h1, h2 => by
    have hl := fun y m => h y (List.mem_cons_of_mem x m)
    rw [List.filter_cons, List.filter_cons]
    by_cases e : a = x
    · subst e
      rw [h1, h2, if_neg Bool.false_ne_true, if_pos rfl, List.length_cons]
      have := filter_le_of l hl
      omega
    · have ih := filter_lt_of l hl (by rcases List.mem_cons.mp m with z | z; exact absurd z e; exact z) h1 h2
      cases hp : p x with
      | true =>
        rw [if_pos rfl, if_pos (h x (List.mem_cons_self ..) hp), List.length_cons, List.length_cons]
        omega
      | false =>
        rw [if_neg Bool.false_ne_true]
        split
        · rw [List.length_cons]
          omega
        · exact ih
theorem rank_lt {o : Nat → Nat → Bool} (h : IsOrd o) {n i j : Nat} (hi : i < n) : o i j = decide (rank o n i < rank o n j) := by
  cases e : o i j with
  | true =>
    symm
    rw [decide_eq_true_iff]
    exact filter_lt_of _ (fun x _ hx => h.tra _ _ _ hx e) (List.mem_range.mpr hi) (h.irr i) e
  | false =>
    symm
    rw [decide_eq_false_iff_not, Nat.not_lt]
    refine filter_le_of _ fun x _ hx => ?_
    rcases h.neg x i j hx with z | z
    · exact z
    · rw [e] at z
      cases z

/-! ### what the tree's end is, by the library's own theorem at whole numbers -/
def intPairs (o : Nat → Nat → Bool) (n : Nat) : Array Keyed := (List.toArray (List.range n)).map fun i => (Value.int (rank o n i) 0, Value.int i 0)
theorem item_int {o : Nat → Nat → Bool} {n i : Nat} (h : i < n) : kas_item (intPairs o n) i = (Value.int (rank o n i) 0, Value.int i 0) := by
  unfold kas_item intPairs
  rw [Array.getD_eq_getD_getElem?]
  simp [h]
def intF (o : Nat → Nat → Bool) (n i : Nat) : Keyed := (Value.int (rank o n i) 0, Value.int i 0)
def unF (p : Keyed) : Nat := match p.2 with
  | .int i _ => i.toNat
  | _ => 0
def GoodTree (o : Nat → Nat → Bool) (n : Nat) (p : Array Nat) : Prop :=
  p.toList.Perm (List.range n) ∧ p.toList.Pairwise (fun i j => o j i = false) ∧ ∀ c, c < n → p.toList.filter (fun i => !o i c && !o c i) = (List.range n).filter fun i => !o i c && !o c i
theorem tree_good {prog : Program} {w : World} {A : Around} {s : Shared} {o : Nat → Nat → Bool} {n : Nat} (h : IsOrd o) (h2 : 2 ≤ n) (h64 : n < 64) {Γ : PySem.Ctx} (hΓ : Γ.In A) : GoodTree o n (runO o (kas_sort n)) := by
  have hsz : (intPairs o n).size = n := by unfold intPairs; simp
  have hst : kas_st oneType' (intPairs o n) (List.toArray (List.range n)) = SortSt.mk' oneType' (intPairs o n) #[] 7 none := by
    unfold kas_st
    congr 1
    have := kas_range (intPairs o n)
    rwa [hsz] at this
  have k1 : kasC (model prog w) A (fun _ _ => False) sortRuns' (fun _ st' s' => (runO o (kas_sort n)).size = n ∧ arrOf st' = (runO o (kas_sort n)).map (kas_item (intPairs o n))) (kas_st oneType' (intPairs o n) (List.toArray (List.range n))) s := by
    refine kas_runs (G := fun p _ => p = runO o (kas_sort n)) h2 h64 (fun p' st' s' e1 e2 e3 e4 => ?_) (Askd.wp (o := o) (fun i j hi hj C c => ?_) _ (ask_sort (by omega)) rfl)
    · subst e4
      exact ⟨e1, e2⟩
    · unfold kas_cmp
      rw [item_int hi, item_int hj]
      refine kat_lt_int ?_
      rw [rank_lt h (n := n) hi] at c
      rwa [show decide ((rank o n i : Int) < (rank o n j : Int)) = decide (rank o n i < rank o n j) by rw [Bool.eq_iff_iff, decide_eq_true_iff, decide_eq_true_iff]; omega]
  have hK : KeysOf PyProof.Rows.intKind (intPairs o n) := fun p m => by
    unfold intPairs at m
    rw [Array.toList_map] at m
    obtain ⟨i, _, rfl⟩ := List.mem_map.mp m
    exact ⟨_, rfl⟩
  have k2 := G.wpS_sortRunsSt (prog := prog) (w := w) (A := A) (E := fun _ _ => False) (s := s) (κ := PyProof.Rows.intKind) (kd := oneType') (a₀ := intPairs o n) (st := SortSt.mk' oneType' (intPairs o n) #[] 7 none)
    (Q := fun _ st' => (arrOf st').Perm (intPairs o n) ∧ SortedToK PyProof.Rows.intKind (arrOf st') (intPairs o n).size ∧ Stable PyProof.Rows.intKind (arrOf st') (intPairs o n))
    (fun A' E' x y a b Q ha hb q => by
      cases x <;> simp only [PyProof.Rows.intKind, reduceCtorEq, Option.some.injEq] at ha
      cases y <;> simp only [PyProof.Rows.intKind, reduceCtorEq, Option.some.injEq] at hb
      subst ha hb
      exact kat_lt_int q)
    hK ⟨Array.Perm.refl _, rfl, rfl⟩ rfl (Stable.refl _) (by rw [hsz]; exact h2) fun st' a1 a2 a3 a4 => ⟨a1, a3, a4⟩
  rw [hst] at k1
  obtain ⟨s', ⟨⟨u, st'⟩, p', q1, q2⟩ | ⟨e, p', q1, _⟩⟩ := wp_both _ default s (k1 Γ default hΓ) (k2 Γ default hΓ)
  · obtain ⟨e1, e2⟩ := q1
    obtain ⟨_, r1, r2, r3⟩ := q2
    generalize hP : runO o (kas_sort n) = P at e1 e2 ⊢
    have e2 : arrOf st' = P.map (kas_item (intPairs o n)) := e2
    have r1 : (arrOf st').Perm (intPairs o n) := r1
    have r2 : SortedToK PyProof.Rows.intKind (arrOf st') (intPairs o n).size := r2
    have r3 : Stable PyProof.Rows.intKind (arrOf st') (intPairs o n) := r3
    rw [e2] at r1 r2 r3
    rw [hsz] at r2
    have l1 := Array.perm_iff_toList_perm.mp r1
    have eL : (intPairs o n).toList = (List.range n).map (intF o n) := by unfold intPairs intF; simp
    have hlt : ∀ x ∈ P.toList, x < n := fun x m => by
      have m2 : kas_item (intPairs o n) x ∈ (intPairs o n).toList := l1.mem_iff.mp (by rw [Array.toList_map]; exact List.mem_map_of_mem m)
      by_cases hx : x < n
      · exact hx
      · have : kas_item (intPairs o n) x = (Value.none, Value.none) := by
          unfold kas_item
          rw [Array.getD_eq_getD_getElem?, Array.getElem?_eq_none (by omega)]
          rfl
        rw [this, eL] at m2
        obtain ⟨i, _, z⟩ := List.mem_map.mp m2
        unfold intF at z
        injection z with z _
        cases z
    have eM : (P.map (kas_item (intPairs o n))).toList = P.toList.map (intF o n) := by
      rw [Array.toList_map]
      exact List.map_congr_left fun x m => item_int (hlt x m)
    have back : ∀ l : List Nat, (l.map (intF o n)).map unF = l := fun l => by
      rw [List.map_map]
      refine (List.map_congr_left (g := id) fun x _ => ?_).trans (List.map_id _)
      rfl
    rw [eM, eL] at l1
    have l2 := l1.map unF
    rw [back, back] at l2
    refine ⟨l2, ?_, fun c hc => ?_⟩
    · rw [List.pairwise_iff_getElem]
      intro i j hi hj hij
      rw [Array.length_toList] at hi hj
      have q := r2 i j (Nat.le_of_lt hij) (by omega)
      have k1 : ∀ k (hk : k < P.size), KK PyProof.Rows.intKind (P.map (kas_item (intPairs o n))) k = (rank o n P[k] : Int) := fun k hk => by
        unfold KK
        rw [Array.getElem?_map, Array.getElem?_eq_getElem hk, Option.map_some]
        have := hlt P[k] (by simp)
        rw [item_int this]
        rfl
      rw [k1 i hi, k1 j hj] at q
      have hjn : P[j] < n := hlt P[j] (by simp)
      show o P.toList[j] P.toList[i] = false
      rw [Array.getElem_toList, Array.getElem_toList, rank_lt h (n := n) hjn, decide_eq_false_iff_not]
      have q2 : decide ((rank o n P[j] : Int) < (rank o n P[i] : Int)) = false := q
      rw [decide_eq_false_iff_not] at q2
      omega
    · have q := r3 (rank o n c : Int)
      rw [eM, eL] at q
      have key : ∀ l : List Nat, (∀ x ∈ l, x < n) → rowOf PyProof.Rows.intKind (rank o n c : Int) (l.map (intF o n)) = (l.filter fun i => !o i c && !o c i).map (intF o n) := fun l hl => by
        unfold rowOf
        rw [List.filter_map]
        congr 1
        refine List.filter_congr fun x m => ?_
        show (!decide ((rank o n x : Int) < (rank o n c : Int)) && !decide ((rank o n c : Int) < (rank o n x : Int))) = _
        rw [rank_lt h (n := n) (hl x m), rank_lt h (n := n) hc]
        congr 2 <;> (rw [Bool.eq_iff_iff, decide_eq_true_iff, decide_eq_true_iff]; omega)
      rw [key _ hlt, key _ fun x m => List.mem_range.mp m] at q
      have q2 := congrArg (List.map unF) q
      rwa [back, back] at q2
  · exact q1.elim

/-! ### the sort itself, keys of any kind, fewer than 64 -/
def LtA (prog : Program) (w : World) (A : Around) (s : Shared) (κ : PyProof.Rows.KeyKind) (kd : SortKind) : Prop :=
  ∀ (x y : Value) (a b : κ.α), κ.keyOf x = some a → κ.keyOf y = some b → ∀ Q : Bool → Shared → Prop, Q (κ.blt a b) s → wpAny (model prog w) A (keyLt' kd x y) Q (fun _ _ => False) s
theorem runs_any {prog : Program} {w : World} {A : Around} {E : Value → Shared → Prop} {s : Shared} {κ : PyProof.Rows.KeyKind} {kd : SortKind} {it : Array Keyed} (hO : LtA prog w A s κ kd) (h0 : KeysOf κ it) (h2 : 2 ≤ it.size) (h64 : it.size < 64) :
    wpAny (model prog w) A (sortRuns'.run (SortSt.mk' kd it #[] 7 none)) (fun r s' => s' = s ∧ (arrOf r.2).Perm it ∧ failedOf r.2 = none ∧ SortedToK κ (arrOf r.2) (arrOf r.2).size ∧ Stable κ (arrOf r.2) it) E s := by
  intro Γ p hΓ
  let o : Nat → Nat → Bool := fun i j => κ.blt (KK κ it i) (KK κ it j)
  have ho : IsOrd o := ⟨fun a => κ.irrefl _, fun a b c => κ.trans _ _ _, fun a b c => κ.negTrans _ _ _⟩
  obtain ⟨g1, g2, g3⟩ := tree_good (prog := prog) (w := w) (s := s) ho h2 h64 hΓ
  have hitem : ∀ i, i < it.size → κ.keyOf (kas_item it i).1 = some (KK κ it i) := fun i hi => by
    have e : kas_item it i = it[i] := by unfold kas_item; simp [Array.getD, hi]
    obtain ⟨a, ha⟩ := h0 it[i] (by simp)
    rw [e, ha, KK_rd hi]
    unfold rdK
    rw [ha]
    rfl
  have hst : kas_st kd it (List.toArray (List.range it.size)) = SortSt.mk' kd it #[] 7 none := by
    unfold kas_st
    rw [kas_range it]
  have k1 : kasC (model prog w) A E sortRuns' (fun _ st' s' => s' = s ∧ (runO o (kas_sort it.size)).size = it.size ∧ arrOf st' = (runO o (kas_sort it.size)).map (kas_item it) ∧ failedOf st' = none) (kas_st kd it (List.toArray (List.range it.size))) s := by
    refine kas_runs (G := fun p s' => p = runO o (kas_sort it.size) ∧ s' = s) h2 h64 (fun p' st' s' e1 e2 e3 e4 => ?_) (Askd.wp (o := o) (fun i j hi hj C c => ?_) _ (ask_sort (by omega)) ⟨rfl, rfl⟩)
    · obtain ⟨e4, e5⟩ := e4
      subst e4
      exact ⟨e5, e1, e2, e3⟩
    · exact hO _ _ _ _ (hitem i hi) (hitem j hj) C c
  rw [hst] at k1
  refine wpAny_mono k1 (fun r s' q => ?_) (fun _ _ z => z) Γ p hΓ
  obtain ⟨q0, q1, q2, q3⟩ := q
  refine ⟨q0, ?_⟩
  generalize hP : runO o (kas_sort it.size) = P at g1 g2 g3 q1 q2
  rw [q2]
  have eI : it.toList = (List.range it.size).map (kas_item it) := by
    have := congrArg Array.toList (kas_range it)
    rw [Array.toList_map, List.toList_toArray] at this
    exact this.symm
  have hlt : ∀ x ∈ P.toList, x < it.size := fun x m => List.mem_range.mp (g1.mem_iff.mp m)
  refine ⟨Array.perm_iff_toList_perm.mpr ?_, q3, ?_, fun c => ?_⟩
  · rw [Array.toList_map]
    exact eI ▸ g1.map _
  · intro i j hij hj
    rw [Array.size_map] at hj
    have k2 : ∀ k (hk : k < P.size), KK κ (P.map (kas_item it)) k = KK κ it P[k] := fun k hk => by
      unfold KK
      rw [Array.getElem?_map, Array.getElem?_eq_getElem hk, Option.map_some]
      have hk2 := hlt P[k] (by simp)
      have e : kas_item it P[k] = it[P[k]] := by unfold kas_item; simp [Array.getD, hk2]
      rw [Array.getElem?_eq_getElem hk2, e]
    rw [k2 i (by omega), k2 j hj]
    by_cases e : i = j
    · subst e
      exact KeyOrd.kle_refl _
    · have := List.pairwise_iff_getElem.mp g2 i j (by rw [Array.length_toList]; omega) (by rw [Array.length_toList]; omega) (by omega)
      rw [Array.getElem_toList, Array.getElem_toList] at this
      exact this
  · unfold rowOf
    rw [Array.toList_map, eI, List.filter_map, List.filter_map]
    congr 1
    have hs : ∀ i, i < it.size → (sameKey κ c ∘ kas_item it) i = (!κ.blt (KK κ it i) c && !κ.blt c (KK κ it i)) := fun i hi => by
      show sameKey κ c (kas_item it i) = _
      unfold sameKey
      rw [hitem i hi]
    rw [List.filter_congr fun x m => hs x (hlt x m), List.filter_congr (l := List.range it.size) fun x m => hs x (List.mem_range.mp m)]
    by_cases hc : ∃ c0, c0 < it.size ∧ (!κ.blt (KK κ it c0) c && !κ.blt c (KK κ it c0)) = true
    · obtain ⟨c0, h1, h3⟩ := hc
      rw [Bool.and_eq_true, Bool.not_eq_true', Bool.not_eq_true'] at h3
      have : KK κ it c0 = c := κ.total _ _ h3.1 h3.2
      subst this
      exact g3 c0 h1
    · rw [List.filter_eq_nil_iff.mpr fun x m z => hc ⟨x, hlt x m, z⟩, List.filter_eq_nil_iff.mpr fun x m z => hc ⟨x, List.mem_range.mp m, z⟩]
end Srt
end

section
set_option Elab.async false
set_option linter.all false
set_option maxRecDepth 100000
set_option maxHeartbeats 2000000
namespace Srt
open PySem PySem.Spec PyProof.Rows
section
variable {prog : Program} {w : World} {A : Around} {E : Value → Shared → Prop} {s : Shared} {h0 : Heap} {a kS : Addr} {b : Bool} {vs : List Value} {keys : Array Value} {e e1 : Nat} {P : PySem.Fin → Shared → Prop} {κ : KeyKind} {kz : List κ.α} {kd : SortKind}
theorem at_end (hkey : ReadAs κ keys.toList kz) (hlen : kz.length = vs.length) (hZ : vs.length ≤ sizeLine) (h64 : vs.length < 64) (hO : LtA prog w A s κ kd) (hkk : 2 ≤ vs.length → ∀ {Q : SortKind → Shared → Prop}, Q kd s → wpAny (model prog w) A (keyKind' keys) Q E s)
    (kp : Kp h0 s.heap) (ha : h0.objs.size ≤ a) (hk : h0.objs.size ≤ kS) (hka : kS ≠ a) (hoa : s.heap.get? a = some (seqObj "list" #[] e1)) (hok : s.heap.get? kS = some (seqObj "list" keys e))
    (h : ∀ h' out c, Kp h0 h' → h'.get? a = some (seqObj "list" out c) → SortedBy κ b kz vs out.toList → P (.done (.ret .none)) { s with heap := h' }) :
    wpAny (model prog w) A (ksk_end a b vs.toArray e1 (.ref kS) keys) P E s := by
  have hsz : keys.size = vs.length := by
    have := hkey.length
    rw [Array.length_toList] at this
    omega
  have hzs : (keys.zip vs.toArray).size = vs.length := by rw [Array.size_zip, hsz, List.size_toArray, Nat.min_self]
  have go : ∀ t : Sem PySem.Fin, wpAny (model prog w) A t P E s → wpAny (model prog w) A (if b = true then (do let _ ← rule "list.sort.reverse"; t) else t) P E s := by
    intro t ht
    split
    · exact wpAny_bind (wpAny_rule ht)
    · exact ht
  have hp0 : (if b = true then (keys.zip vs.toArray).reverse else keys.zip vs.toArray).Perm (keys.zip vs.toArray) := by
    cases b with
    | false => exact Array.Perm.refl _
    | true =>
      refine Array.perm_iff_toList_perm.mpr ?_
      rw [if_pos rfl, Array.toList_reverse]
      exact List.reverse_perm _
  have fin : ∀ st : SortSt, (arrOf st).Perm (keys.zip vs.toArray) → failedOf st = none → SortedToK κ (arrOf st) (arrOf st).size → Stable κ (arrOf st) (if b = true then (keys.zip vs.toArray).reverse else keys.zip vs.toArray) →
      wpAny (model prog w) A (ksk_tail a b e1 (.ref kS) st) P E s := fun st h1 h2 h3 h4 => by
    refine at_tail kp ha hk hka hoa hok (by omega) ?_ h2 fun h' c k1 k2 => h h' _ c k1 k2 (sorted_by hkey h1 h3 h4)
    have hn : (arrOf st).size = vs.length := by rw [h1.size_eq, hzs]
    cases b with
    | false =>
      rw [if_neg Bool.false_ne_true, Array.size_map]
      omega
    | true =>
      rw [if_pos rfl, Array.size_reverse, Array.size_map]
      omega
  unfold ksk_end
  try dsimp only
  refine go _ ?_
  by_cases h2 : vs.toArray.size < 2
  · rw [if_pos h2, if_pos h2]
    refine wpAny_bind (wpAny_pure ?_)
    rw [StateT.run_pure]
    refine wpAny_bind (wpAny_pure ?_)
    try dsimp only
    refine fin (SortSt.mk' general' (if b = true then (keys.zip vs.toArray).reverse else keys.zip vs.toArray) #[] 7 none) hp0 rfl ?_ (Stable.refl _)
    intro i j hij hj
    have hj2 : j < (if b = true then (keys.zip vs.toArray).reverse else keys.zip vs.toArray).size := hj
    rw [hp0.size_eq, hzs] at hj2
    rw [List.size_toArray] at h2
    have : i = j := by omega
    subst this
    exact KeyOrd.kle_refl _
  · rw [if_neg h2, if_neg h2]
    rw [List.size_toArray] at h2
    refine wpAny_bind (hkk (by omega) ?_)
    have hss : (if b = true then (keys.zip vs.toArray).reverse else keys.zip vs.toArray).size = vs.length := by rw [hp0.size_eq, hzs]
    have h0k : KeysOf κ (if b = true then (keys.zip vs.toArray).reverse else keys.zip vs.toArray) := fun p m => by
      have m2 := (Array.perm_iff_toList_perm.mp hp0).mem_iff.mp m
      rw [show (keys.zip vs.toArray).toList = keys.toList.zip vs by simp] at m2
      exact hkey.mem m2
    refine wpAny_bind (wpAny_mono (runs_any (E := E) hO h0k (by rw [hss]; omega) (by rw [hss]; omega)) ?_ fun _ _ z => z)
    rintro ⟨⟨⟩, st'⟩ s' ⟨rfl, hp, hf, hs, hst⟩
    try dsimp only
    exact fin st' (hp.trans hp0) hf hs hst
end
section
variable {prog : Program} {w : World} {A : Around} {E : Value → Shared → Prop} {s : Shared} {h0 : Heap} {a kS : Addr} {b : Bool} {vs : List Value} {e1 : Nat} {P : PySem.Fin → Shared → Prop} {κ : KeyKind} {kz : List κ.α} {kd : SortKind} {f : Value}

/-- the key of each item, whatever was laid in between -/
def Keyed1 (prog : Program) (w : World) (A : Around) (s : Shared) (h0 : Heap) (f : Value) (vs : List Value) (κ : KeyKind) (kz : List κ.α) : Prop :=
  ∀ (i : Nat) (v : Value), vs[i]? = some v → ∀ (h : Heap) (tk : Nat), Kp h0 h →
    wpAny (model prog w) A (call f [v]) (fun u s' => ∃ h' tk', s' = { s with heap := h', toks := tk' } ∧ Kp h h' ∧ ∃ z, kz[i]? = some z ∧ κ.keyOf u = some z) (fun _ _ => False) { s with heap := h, toks := tk }
/-- how keys compare -/
structure Ordered (prog : Program) (w : World) (A : Around) (E : Value → Shared → Prop) (s : Shared) (h0 : Heap) (κ : KeyKind) (kz : List κ.α) (kd : SortKind) : Prop where
  lt : ∀ (h : Heap) (tk : Nat), Kp h0 h → LtA prog w A { s with heap := h, toks := tk } κ kd
  kind : ∀ (h : Heap) (tk : Nat) (keys : Array Value), Kp h0 h → ReadAs κ keys.toList kz → 2 ≤ kz.length → ∀ {Q : SortKind → Shared → Prop}, Q kd { s with heap := h, toks := tk } → wpAny (model prog w) A (keyKind' keys) Q E { s with heap := h, toks := tk }

theorem at_rest (hlen : kz.length = vs.length) (hZ : vs.length ≤ sizeLine) (h64 : vs.length < 64) (turn : Keyed1 prog w A s h0 f vs κ kz) (ord : Ordered prog w A E s h0 κ kz kd)
    (kp : Kp h0 s.heap) (ha : h0.objs.size ≤ a) (hk : h0.objs.size ≤ kS) (hka : kS ≠ a) (hoa : s.heap.get? a = some (seqObj "list" #[] e1)) (hok : s.heap.get? kS = some (seqObj "list" #[] 0))
    (h : ∀ h' tk out c, Kp h0 h' → h'.get? a = some (seqObj "list" out c) → SortedBy κ b kz vs out.toList → P (.done (.ret .none)) { s with heap := h', toks := tk }) :
    wpAny (model prog w) A (ksk_rest a f b vs.toArray e1 (.ref kS)) P E s := by
  unfold ksk_rest
  refine wpAny_bind (wpAny_rule ?_)
  first
    | rw [List.forIn_toArray]
    | (rw [← Array.forIn_toList]; simp only [List.toList_toArray])
    | rw [← Array.forIn_toList]
  refine wpAny_bind (ksk_fold (fun i s' => ∃ h' tk kA n, s' = { s with heap := h', toks := tk } ∧ Kp h0 h' ∧ h'.get? a = some (seqObj "list" #[] e1) ∧ h'.get? kS = some (seqObj "list" kA n) ∧ ReadAs κ kA.toList (kz.take i)) vs 0 s
    ⟨s.heap, s.toks, #[], 0, rfl, kp, hoa, hok, rfl⟩ ?step ?done)
  case step =>
    rintro j x s' hx ⟨h', tk, kA, n, rfl, kp', ho1, ho2, hr⟩
    simp only [Nat.zero_add] at hr ⊢
    have hj : j < vs.length := (List.getElem?_eq_some_iff.mp hx).1
    have hz : kA.size ≤ vs.length := by
      have h1 := hr.length
      rw [Array.length_toList, List.length_take] at h1
      omega
    refine wpAny_bind (wpAny_attempt (wpAny_mono (turn j x hx h' tk kp') (fun u s'' he => ?_) fun _ _ hF => hF.elim))
    obtain ⟨g, tk2, rfl, kg, z, hz1, hz2⟩ := he
    try dsimp only
    have hoa2 := kg _ _ ho1
    have hok2 := kg _ _ ho2
    have ek : kz.take (j + 1) = kz.take j ++ [z] := by
      rw [List.take_add_one, hz1]
      rfl
    refine wpAny_bind (listUpdate_at hok2 rfl ?_ (by omega) (Nat.le_trans (Nat.le_of_eq (Array.size_push ..)) (by omega)))
    refine wpAny_pure ⟨rfl, _, _, kA.push u, _, rfl, (kp'.tr kg).upd _ hk, ?_, get?_update_seq hok2 _, ?_⟩
    · rw [Heap.get?_update_ne _ _ _ _ hka.symm]
      exact hoa2
    · unfold ReadAs at hr ⊢
      rw [ek, Array.toList_push, List.map_append, List.map_append, hr, List.map_cons, List.map_cons, hz2]
      rfl
  case done =>
    rintro s' ⟨h', tk, kA, n, rfl, kp', ho1, ho2, hr⟩
    have hr2 : ReadAs κ kA.toList kz := by
      rw [List.take_of_length_le (by omega)] at hr
      exact hr
    try dsimp only
    refine wpAny_bind (listItems_at ho2 rfl ?_)
    exact at_end hr2 hlen hZ h64 (ord.lt h' tk kp') (fun h2 {Q} q => ord.kind h' tk kA kp' hr2 (by omega) q) kp' ha hk hka ho1 ho2 fun h3 out c k1 k2 k3 => h h3 tk out c k1 k2 k3

theorem at_sort {n : Nat} (hlen : kz.length = vs.length) (hZ : vs.length ≤ sizeLine) (h64 : vs.length < 64) (turn : Keyed1 prog w A s h0 f vs κ kz) (ord : Ordered prog w A E s h0 κ kz kd)
    (kp : Kp h0 s.heap) (ha : h0.objs.size ≤ a) (hoa : s.heap.get? a = some (seqObj "list" vs.toArray n))
    (h : ∀ h' tk out c, Kp h0 h' → h'.get? a = some (seqObj "list" out c) → SortedBy κ b kz vs out.toList → P (.done (.ret .none)) { s with heap := h', toks := tk }) :
    wpAny (model prog w) A (ksk_tree a f b) P E s := by
  have hlt : a < s.heap.objs.size := Heap.lt_size hoa
  have hoa1 := get?_update_seq hoa fun _ => (#[] : Array Value)
  have hkS : ((s.heap.update a (Obj.mapSeq fun _ => (#[] : Array Value))).push (seqObj "tuple" vs.toArray 0)).objs.size = s.heap.objs.size + 1 := by rw [size_push', Heap.size_update]
  unfold ksk_tree
  refine wpAny_bind (listItems_at hoa rfl ?_)
  refine wpAny_bind (listUpdate_at hoa rfl ?_ (by rw [List.size_toArray]; omega) (Nat.zero_le _))
  refine wpAny_bind (seqEpoch_at hoa1 rfl ?_)
  refine wpAny_bind (wpAny_newTuple ?_ (by show vs.length ≤ _; omega))
  refine wpAny_bind (wpAny_newList ?_ (Nat.zero_le _))
  refine wpAny_holding ?_
  refine at_rest (s := { s with heap := ((s.heap.update a (Obj.mapSeq fun _ => (#[] : Array Value))).push (seqObj "tuple" vs.toArray 0)).push (seqObj "list" #[] 0) })
    (kS := ((s.heap.update a (Obj.mapSeq fun _ => (#[] : Array Value))).push (seqObj "tuple" vs.toArray 0)).objs.size) hlen hZ h64 turn ⟨ord.lt, ord.kind⟩
    (((kp.upd _ ha).psh _).psh _) ha ?_ ?_ (Heap.get?_push_of_some _ (Heap.get?_push_of_some _ hoa1)) (Heap.get?_push_size _ rfl) h
  · rw [hkS]
    exact Nat.le_trans ha (Nat.le_succ_of_le (Nat.le_of_lt hlt))
  · rw [hkS]
    exact Nat.ne_of_gt (Nat.lt_succ_of_lt hlt)
end
section
variable {prog : Program} {w : World} {A : Around} {E : Value → Shared → Prop} {s : Shared} {b : Bool} {vs : List Value} {κ : KeyKind} {kz : List κ.α} {kd : SortKind} {f arg : Value} {kw : List (Str × Value)} {Q : Value → Shared → Prop}
/-- sorted(arg, key = f ..): arg's items are vs -/
theorem sorted_key {Is : List Value → Prop} (hcol : ∀ {Q' : List Value → Shared → Prop}, (∀ h1 tk vs, Is vs → Kp s.heap h1 → s.heap.objs.size ≤ h1.objs.size → Q' vs { s with heap := h1, toks := tk }) → wpAny (model prog w) A.in1 (collect arg) Q' E s) (hlen : ∀ vs, Is vs → kz.length = vs.length) (h64 : kz.length < 64)
    (ha1 : argsOk "sorted" ⟨[arg], kw⟩) (ha2 : ∀ x, argsOk "list.sort" ⟨[.ref x], kw⟩) (ht : ∀ x, Builtin.«list.sort» ⟨[.ref x], kw⟩ = ksk_tree x f b)
    (turn : ∀ vs, Is vs → Keyed1 prog w A.in1.in1 s s.heap f vs κ kz) (ord : Ordered prog w A.in1.in1 E s s.heap κ kz kd)
    (h : ∀ D h' tk vs out c, Is vs → Kp s.heap h' → s.heap.objs.size ≤ D → h'.get? D = some (seqObj "list" out c) → SortedBy κ b kz vs out.toList → Q (.ref D) { s with heap := h', toks := tk }) :
    wpAny (model prog w) A (call (.builtin "sorted") [arg] kw) Q E s := by
  refine call_function_entry_kw kind_sorted plain_sorted entry_sorted ha1 ?_
  unfold Builtin.«sorted»
  refine wpAny_bind (m := checkCount "sorted" 1 1 _) (wpAny_pure ?_)
  refine wpAny_bind (hcol fun h1 tk1 vs is k1 hsz => ?_)
  have hl := hlen vs is
  have hZ : kz.length ≤ sizeLine := by rw [sizeLine_eq]; omega
  refine wpAny_bind (wpAny_newList ?_ (by omega))
  have ho : (h1.push (seqObj "list" vs.toArray 0)).get? h1.objs.size = some (seqObj "list" vs.toArray 0) := Heap.get?_push_size _ rfl
  refine wpAny_bind (wpAny_holding (wpAny_call_entry_kw slot_list_sort ⟨_, ho, rfl⟩ entry_list_sort ?body (ha2 _)))
  case body =>
    show wpAny (model prog w) A.in1.in1 (Builtin.«list.sort» ⟨[.ref h1.objs.size], kw⟩) _ _ _
    rw [ht h1.objs.size]
    refine at_sort (s := { s with heap := h1.push (seqObj "list" vs.toArray 0), toks := tk1 }) (h0 := s.heap) (kd := kd) hl (by omega) (by omega) (turn vs is) ⟨ord.lt, ord.kind⟩ (k1.psh _) hsz ho fun h' tk out c q1 q2 q3 => ⟨_, rfl, ?_⟩
    exact wpAny_pure ⟨_, rfl, h _ h' tk vs out c is q1 hsz q2 q3⟩
theorem grown {h h' : Heap} {o : Obj} (k : Kp (h.push o) h') (ho : (h.push o).get? h.objs.size = some o) : h.objs.size ≤ h'.objs.size := Nat.le_of_lt (Heap.lt_size (k _ _ ho))
/-- the items of a list -/
theorem col_list {l : Addr} {A : Around} (hl : s.heap.IsList l vs.toArray) (hZ : vs.length ≤ sizeLine) {Q' : List Value → Shared → Prop} (h : ∀ h1 tk us, us = vs → Kp s.heap h1 → s.heap.objs.size ≤ h1.objs.size → Q' us { s with heap := h1, toks := tk }) :
    wpAny (model prog w) A (collect (.ref l)) Q' E s := by
  refine collect_list hl ?_ hZ
  refine h _ s.toks vs rfl (fun b o e => ?_) ?_
  · have hb : b ≠ s.heap.objs.size := Nat.ne_of_lt (Heap.lt_size e)
    rw [Heap.get?_update_ne _ _ _ _ hb]
    exact Heap.get?_push_of_some _ e
  · rw [Heap.size_update, size_push']
    exact Nat.le_succ _
/-- the items of range(n) -/
theorem col_range {r : Addr} {A : Around} {n : Nat} {t u v : Tok} (hh : A.handled = none) (hr : IsRange s.heap r 0 n 1 t u v) (hn : n ≤ 1000) {Q' : List Value → Shared → Prop}
    (h : ∀ h1 tk us, L2.Vals ((List.range n).map fun (i : Nat) => L2.V.int (i : Int)) us → Kp s.heap h1 → s.heap.objs.size ≤ h1.objs.size → Q' us { s with heap := h1, toks := tk }) :
    wpAny (model prog w) A (collect (.ref r)) Q' E s := by
  unfold collect
  refine wpAny_bind (wpAny_runValue (codeAny_builtin entry_proto_collect' ?_))
  show wpAny _ _ (do again (.builtin "list.__iadd__" ⟨[← newList [], .ref r], []⟩)) _ _ s
  refine wpAny_bind (wpAny_newList (wpAny_pure ⟨Code.quiet_builtin _ (by decide +kernel), codeAny_builtin entry_list_iadd' ?_⟩))
  have hS : (s.heap.push (seqObj "list" #[] 0)).get? s.heap.objs.size = some (seqObj "list" #[] 0) := Heap.get?_push_size _ rfl
  show wpAny (model prog w) A.in1 (Builtin.List.listExtendWith (.ref s.heap.objs.size) (.ref r) (.ref s.heap.objs.size)) _ _ { s with heap := s.heap.push (seqObj "list" #[] 0) }
  refine wpAny_extend_range (A := A) (R := fun r s' => match r with
      | .ok (.ret v) => wpAny (model prog w) A (match v with
          | .ref a => do
            let o ← load a
            match o.data with
            | .seq xs _ => pure xs.toList
            | _ => unsupported "internal:collect"
          | _ => unsupported "internal:collect") Q' E s'
      | .ok _ => False
      | .error e => E e s') (s := { s with heap := s.heap.push (seqObj "list" #[] 0) }) (a := 0) (b := n) (c := 1) (n := n) hh (Heap.get?_push_of_some _ hr) (small_one (by omega) (by omega) (by omega) (by omega)) ?_ (by omega) _ _ _ hS fun h' tk acc c' hk hS' hacc => ?_
  · rw [rangeSize_nat]
    congr 1
  · show wpAny (model prog w) A (do
        let o ← load s.heap.objs.size
        match o.data with
        | .seq xs _ => pure xs.toList
        | _ => unsupported "internal:collect") Q' E { s with heap := h', toks := tk }
    refine wpAny_bind (wpAny_load hS' ?_)
    refine wpAny_pure (h h' tk acc.toList ?_ (fun b o e => hk b o (Nat.ne_of_lt (Heap.lt_size e)) (Heap.get?_push_of_some _ e)) (Nat.le_of_lt (Heap.lt_size hS')))
    have e1 : acc.toList.length = n := by
      rw [Array.length_toList]
      exact hacc.1
    have key : ∀ (l : List Value) (k : Nat), (∀ j v, l[j]? = some v → ∃ t, v = Value.int ((k + j : Nat) : Int) t) → L2.Vals ((List.range' k l.length).map fun (i : Nat) => L2.V.int (i : Int)) l := by
      intro l
      induction l with
      | nil => intro k _; exact .nil
      | cons x r ih =>
        intro k hx
        rw [List.length_cons, List.range'_succ, List.map_cons]
        refine .cons (hx 0 x rfl) (ih (k + 1) fun j v hj => ?_)
        have := hx (j + 1) v (by simpa using hj)
        rwa [show k + (j + 1) = k + 1 + j by omega] at this
    have := key acc.toList 0 fun j v hj => by
      obtain ⟨t, q⟩ := hacc.2 j v (by rw [Array.getElem?_toList] at hj; exact hj)
      refine ⟨t, ?_⟩
      rw [q]
      congr 1
      omega
    rwa [e1, ← List.range_eq_range'] at this
end
end Srt
end

section
set_option Elab.async false
set_option linter.all false
set_option maxRecDepth 100000
set_option maxHeartbeats 2000000
namespace Srt
open PySem PySem.Spec PyProof.Rows
open PySem.SeqAt PySem.MeetsSeq PySem.MeetsSeq2 PySem.MeetsSeq3
open PySem.AutoSeq1 (wpAny_loadPart')
open HT (lexLt)

abbrev lstObj (xs : Array Value) (n : Nat) : Obj := { cls := .type "list", dict := none, data := .seq xs n, slots := #[] }
/-- a list of whole numbers -/
def IsInts (h : Heap) (l : Addr) (ns : List Int) : Prop := ∃ xs n, h.get? l = some (lstObj xs n) ∧ IntsAre xs.toList ns
theorem IsInts.kp {h h' : Heap} {l : Addr} {ns : List Int} (x : IsInts h l ns) (k : Kp h h') : IsInts h' l ns := let ⟨xs, n, a, b⟩ := x; ⟨xs, n, k _ _ a, b⟩
theorem ints_ix : ∀ {vs : List Value} {ns : List Int} {j : Nat} {v : Value}, IntsAre vs ns → vs[j]? = some v → ∃ (z : Int) (t : Tok), ns[j]? = some z ∧ v = .int z t
  | _, _, 0, _, .cons n t _, e => by
    simp at e
    exact ⟨n, t, rfl, e.symm⟩
  | _, _, j + 1, v, .cons n t r, e => by
    obtain ⟨z, t', h1, h2⟩ := ints_ix (j := j) (v := v) r (by simpa using e)
    exact ⟨z, t', by simpa using h1, h2⟩
  | _, _, _, _, .nil, e => by simp at e

/-- from place i on, the one list is before the other -/
theorem lt_loop (l b : Addr) (xs ys : Array Value) (n m : Nat) (ns ms : List Int) (hi : IntsAre xs.toList ns) (hj : IntsAre ys.toList ms) (k : Nat) :
    ∀ i : Nat, min xs.size ys.size - i = k → i ≤ min xs.size ys.size → Meets (Builtin.«list.__eq__.loop» ⟨[.ref l, .ref b, rawInt i, rawInt 0], []⟩)
      (fun A R s => s.heap.get? l = some (lstObj xs n) ∧ s.heap.get? b = some (lstObj ys m) ∧ R (.ok (.ret (.bool (lexLt (ns.drop i) (ms.drop i))))) s) := by
  have z1 : xs.size = ns.length := by rw [← hi.length]; simp
  have z2 : ys.size = ms.length := by rw [← hj.length]; simp
  induction k with
  | zero =>
    intro i hk hle prog w A R s h
    obtain ⟨hp, g, d, tk, os⟩ := s; obtain ⟨h1, h2, h⟩ := h
    wp_walk using wpAny_loadPart' h1, wpAny_loadPart' h2
    have hR : lexLt (ns.drop i) (ms.drop i) = decide (xs.size < ys.size) := by
      by_cases c : xs.size < ys.size
      · rw [decide_eq_true c]
        have e1 : ns.drop i = [] := List.drop_eq_nil_of_le (by omega)
        rw [e1, List.drop_eq_getElem_cons (show i < ms.length by omega)]
        rfl
      · rw [decide_eq_false c]
        have e1 : ms.drop i = [] := List.drop_eq_nil_of_le (by omega)
        rw [e1]
        cases ns.drop i <;> rfl
    rw [hR] at h
    by_cases c : i < xs.size
    · have e1 : xs[((i : Nat) : Int).toNat]? = some xs[i] := by simp [c]
      have e2 : ys[((i : Nat) : Int).toNat]? = none := by simp; omega
      rw [e1, e2]
      wp_walk using wpAny_loadPart' h1, wpAny_loadPart' h2
      exact h
    · have e1 : xs[((i : Nat) : Int).toNat]? = none := by simp; omega
      rw [e1]
      wp_walk using wpAny_loadPart' h1, wpAny_loadPart' h2
      exact h
  | succ k ih =>
    intro i hk hle prog w A R s h
    obtain ⟨hp, g, d, tk, os⟩ := s; obtain ⟨h1, h2, h⟩ := h
    wp_walk using wpAny_loadPart' h1, wpAny_loadPart' h2
    have c1 : i < xs.size := by omega
    have c2 : i < ys.size := by omega
    have e1 : xs[((i : Nat) : Int).toNat]? = some xs[i] := by simp [c1]
    have e2 : ys[((i : Nat) : Int).toNat]? = some ys[i] := by simp [c2]
    obtain ⟨a, t, q1, q2⟩ := ints_ix (j := i) hi (by rw [Array.getElem?_toList]; exact Array.getElem?_eq_getElem c1)
    obtain ⟨c, u, q3, q4⟩ := ints_ix (j := i) hj (by rw [Array.getElem?_toList]; exact Array.getElem?_eq_getElem c2)
    have d1 : ns.drop i = a :: ns.drop (i + 1) := by
      obtain ⟨y1, y2⟩ := List.getElem?_eq_some_iff.mp q1
      rw [List.drop_eq_getElem_cons y1, y2]
    have d2 : ms.drop i = c :: ms.drop (i + 1) := by
      obtain ⟨y1, y2⟩ := List.getElem?_eq_some_iff.mp q3
      rw [List.drop_eq_getElem_cons y1, y2]
    have hc : ((i : Int) + 1) = ((i + 1 : Nat) : Int) := by push_cast; rfl
    rw [d1, d2, HT.lexLt_cons] at h
    rw [e1, e2, q2, q4]
    refine wpAny_bind (EqAt.int_int a t c u prog w _ _ ?_)
    by_cases e : a = c
    · rw [if_pos e] at h
      rw [show (a == c) = true by simpa using e]
      wp_walk
      rw [hc]
      exact ⟨plainId_quiet plain_eq_loop _, codeAny_builtin entry_eq_loop (by
        rw [Around.under_plainId plain_eq_loop _]
        exact ih (i + 1) (by omega) (by omega) prog w A R _ ⟨h1, h2, h⟩)⟩
    · rw [if_neg e] at h
      rw [show (a == c) = false by simpa using e]
      wp_walk using wpAny_loadPart' h1, wpAny_loadPart' h2
      rw [e1, e2, q2, q4]
      have hri := HT.rcLt_int A.in1 ⟨hp, g, d, tk, os⟩ a t c u prog w
      wp_walk using hri
      exact h
theorem list_lt (l b : Addr) (xs ys : Array Value) (n m : Nat) (ns ms : List Int) (hi : IntsAre xs.toList ns) (hj : IntsAre ys.toList ms) :
    Meets (Builtin.«list.__lt__» ⟨[.ref l, .ref b], []⟩) (fun A R s => s.heap.get? l = some (lstObj xs n) ∧ s.heap.get? b = some (lstObj ys m) ∧ R (.ok (.ret (.bool (lexLt ns ms)))) s) := by
  intro prog w A R s h
  obtain ⟨hp, g, d, tk, os⟩ := s; obtain ⟨h1, h2, h⟩ := h
  have f3 := AutoSeq1.sub_list_list
  wp_walk using wpAny_loadPart' h1, wpAny_loadPart' h2
  exact ⟨plainId_quiet plain_eq_loop _, codeAny_builtin entry_eq_loop (by
    rw [Around.under_plainId plain_eq_loop _]
    exact lt_loop l b xs ys n m ns ms hi hj _ 0 rfl (Nat.zero_le _) prog w A R _ ⟨h1, h2, h⟩)⟩
section
variable {prog : Program} {w : World} {A : Around} {E : Value → Shared → Prop} {s : Shared} {l b : Addr} {ns ms : List Int}
theorem lt_lists {Q : Value → Shared → Prop} (h1 : IsInts s.heap l ns) (h2 : IsInts s.heap b ms) (hu : A.units < cLine) (h : Q (.bool (lexLt ns ms)) s) : wpAny (model prog w) A (compareOp .Lt (.ref l) (.ref b)) Q E s := by
  obtain ⟨xs, n, o1, i1⟩ := h1
  obtain ⟨ys, m, o2, i2⟩ := h2
  exact richCompare_meets_room (op := .Lt) ⟨_, o1, rfl⟩ ⟨_, o2, rfl⟩ PySem.F.slot_list_lt PySem.F.entry_list_lt (PySem.F.args_list_lt_2 _ _) (list_lt l b xs ys n m ns ms i1 i2)
    ⟨o1, o2, show Value.bool (lexLt ns ms) ≠ Value.notImplemented ∧ Q (.bool (lexLt ns ms)) s from ⟨(fun x => nomatch x), h⟩⟩ hu
theorem ints_ext {xs ys : List Int} (hl : xs.length = ys.length) (h : ∀ j, j < xs.length → xs[j]? = ys[j]?) : xs = ys := List.ext_getElem? fun i => by
  by_cases c : i < xs.length
  · exact h i c
  · rw [List.getElem?_eq_none (by omega), List.getElem?_eq_none (by omega)]
theorem eq_lists (h1 : IsInts s.heap l ns) (h2 : IsInts s.heap b ms) (hu : A.units < cLine) : EqAt A s (.ref l) (.ref b) (decide (ns = ms)) := by
  obtain ⟨xs, n, o1, i1⟩ := h1
  obtain ⟨ys, m, o2, i2⟩ := h2
  by_cases e : l = b
  · subst e
    rw [o1] at o2
    injection o2 with o2
    injection o2 with _ _ o2 _
    injection o2 with o2 _
    subst o2
    have : ns = ms := by
      have a1 := i1.nums
      have a2 := i2.nums
      rw [← a1, ← a2]
    rw [decide_eq_true this]
    exact EqAt.same _
  · refine EqAt.of_refs e fun prog w E Q h => ?_
    have z1 : xs.size = ns.length := by rw [← i1.length]; simp
    have z2 : ys.size = ms.length := by rw [← i2.length]; simp
    by_cases hz : xs.size = ys.size
    · have hall : ((List.range xs.size).all fun j => ns.getD j 0 == ms.getD j 0) = decide (ns = ms) := by
        rw [Bool.eq_iff_iff, List.all_eq_true, decide_eq_true_iff]
        constructor
        · intro hh
          refine ints_ext (by omega) fun j hj => ?_
          have := hh j (List.mem_range.mpr (by omega))
          rw [beq_iff_eq, List.getD_eq_getElem?_getD, List.getD_eq_getElem?_getD, List.getElem?_eq_getElem hj, List.getElem?_eq_getElem (by omega)] at this
          rw [List.getElem?_eq_getElem hj, List.getElem?_eq_getElem (by omega)]
          exact congrArg some this
        · intro hh j _
          rw [hh]
          simp
      rw [← hall] at h
      refine richCompare_meets_room (op := .Eq) ⟨_, o1, rfl⟩ ⟨_, o2, rfl⟩ PySem.F.slot_list_eq PySem.F.entry_list_eq (PySem.F.args_list_eq_2 _ _) (list_eqAt l b xs ys n m none none #[] #[] hz fun j => ns.getD j 0 == ms.getD j 0)
        ⟨o1, o2, fun j c1 c2 => ?_, show Value.bool _ ≠ Value.notImplemented ∧ Q _ s from ⟨(fun x => nomatch x), h⟩⟩ hu
      obtain ⟨a, t, q1, q2⟩ := ints_ix (j := j) i1 (by rw [Array.getElem?_toList]; exact Array.getElem?_eq_getElem c1)
      obtain ⟨c, u, q3, q4⟩ := ints_ix (j := j) i2 (by rw [Array.getElem?_toList]; exact Array.getElem?_eq_getElem c2)
      rw [q2, q4, List.getD_eq_getElem?_getD, List.getD_eq_getElem?_getD, q1, q3]
      exact EqAt.int_int a t c u
    · have : ¬ ns = ms := fun z => hz (by rw [z1, z2, z])
      rw [decide_eq_false this] at h
      exact richCompare_meets_room (op := .Eq) ⟨_, o1, rfl⟩ ⟨_, o2, rfl⟩ PySem.F.slot_list_eq PySem.F.entry_list_eq (PySem.F.args_list_eq_2 _ _) (list_eq_lengthsAt l b xs ys n m none none #[] #[] (by simpa using hz))
        ⟨o1, o2, show Value.bool _ ≠ Value.notImplemented ∧ Q _ s from ⟨(fun x => nomatch x), h⟩⟩ hu
end
end Srt
end

section
set_option Elab.async false
set_option linter.all false
set_option maxRecDepth 100000
set_option maxHeartbeats 2000000
namespace Srt
open PySem PySem.Spec PyProof.Rows PySem.W
open PySem.SeqAt PySem.MeetsSeq PySem.MeetsSeq2 PySem.MeetsSeq3
open PySem.AutoSeq1 (wpAny_loadPart')
open HT (lexLt)

theorem lex_irr : ∀ x : List Int, lexLt x x = false
  | [] => rfl
  | a :: x => by rw [HT.lexLt_cons, if_pos rfl, lex_irr x]
theorem lex_tot : ∀ x y : List Int, lexLt x y = false → lexLt y x = false → x = y
  | [], [], _, _ => rfl
  | [], _ :: _, h, _ => by cases h
  | _ :: _, [], _, h => by cases h
  | a :: x, b :: y, h1, h2 => by
    rw [HT.lexLt_cons] at h1 h2
    by_cases e : a = b
    · subst e
      rw [if_pos rfl] at h1 h2
      rw [lex_tot x y h1 h2]
    · rw [if_neg e, decide_eq_false_iff_not] at h1
      rw [if_neg (Ne.symm e), decide_eq_false_iff_not] at h2
      omega
theorem lex_tra : ∀ x y z : List Int, lexLt x y = true → lexLt y z = true → lexLt x z = true
  | _, [], [], _, h => by cases h
  | _, _ :: _, [], _, h => by cases h
  | [], _, _ :: _, _, _ => rfl
  | _ :: _, [], _ :: _, h, _ => by cases h
  | a :: x, b :: y, c :: z, h1, h2 => by
    rw [HT.lexLt_cons] at h1 h2 ⊢
    by_cases e : a = b
    · subst e
      rw [if_pos rfl] at h1
      by_cases e2 : a = c
      · subst e2
        rw [if_pos rfl] at h2 ⊢
        exact lex_tra x y z h1 h2
      · rw [if_neg e2] at h2 ⊢
        exact h2
    · rw [if_neg e, decide_eq_true_iff] at h1
      by_cases e2 : b = c
      · subst e2
        rw [if_neg e, decide_eq_true_iff]
        exact h1
      · rw [if_neg e2, decide_eq_true_iff] at h2
        rw [if_neg (by omega), decide_eq_true_iff]
        omega
/-- what stands for a boat: the sum, the points kept, all points -/
abbrev K3 := Int × List Int × List Int
def lt3 (x y : K3) : Bool := if x.1 = y.1 then (if x.2.1 = y.2.1 then lexLt x.2.2 y.2.2 else lexLt x.2.1 y.2.1) else decide (x.1 < y.1)
theorem lt3_irr (x : K3) : lt3 x x = false := by
  unfold lt3
  rw [if_pos rfl, if_pos rfl, lex_irr]
theorem lt3_tot (x y : K3) (h1 : lt3 x y = false) (h2 : lt3 y x = false) : x = y := by
  obtain ⟨a, l, m⟩ := x
  obtain ⟨b, k, n⟩ := y
  unfold lt3 at h1 h2
  dsimp only at h1 h2
  by_cases e : a = b
  · subst e
    rw [if_pos rfl] at h1 h2
    by_cases e2 : l = k
    · subst e2
      rw [if_pos rfl] at h1 h2
      rw [lex_tot _ _ h1 h2]
    · rw [if_neg e2] at h1
      rw [if_neg (Ne.symm e2)] at h2
      exact absurd (lex_tot _ _ h1 h2) e2
  · rw [if_neg e, decide_eq_false_iff_not] at h1
    rw [if_neg (Ne.symm e), decide_eq_false_iff_not] at h2
    omega
theorem lt3_tra (x y z : K3) (h1 : lt3 x y = true) (h2 : lt3 y z = true) : lt3 x z = true := by
  obtain ⟨a, l, m⟩ := x
  obtain ⟨b, k, n⟩ := y
  obtain ⟨c, p, q⟩ := z
  unfold lt3 at h1 h2 ⊢
  dsimp only at h1 h2 ⊢
  by_cases e : a = b
  · subst e
    rw [if_pos rfl] at h1
    by_cases e2 : a = c
    · subst e2
      rw [if_pos rfl] at h2 ⊢
      by_cases e3 : l = k
      · subst e3
        rw [if_pos rfl] at h1
        by_cases e4 : l = p
        · subst e4
          rw [if_pos rfl] at h2 ⊢
          exact lex_tra _ _ _ h1 h2
        · rw [if_neg e4] at h2 ⊢
          exact h2
      · rw [if_neg e3] at h1
        by_cases e4 : k = p
        · subst e4
          rw [if_neg e3]
          exact h1
        · rw [if_neg e4] at h2
          have h3 := lex_tra _ _ _ h1 h2
          rw [if_neg fun z => by rw [z, lex_irr] at h3; cases h3]
          exact h3
    · rw [if_neg e2] at h2 ⊢
      exact h2
  · rw [if_neg e, decide_eq_true_iff] at h1
    by_cases e2 : b = c
    · subst e2
      rw [if_neg e, decide_eq_true_iff]
      exact h1
    · rw [if_neg e2, decide_eq_true_iff] at h2
      rw [if_neg (by omega), decide_eq_true_iff]
      omega
theorem lt3_neg (x y z : K3) (h : lt3 x z = true) : lt3 x y = true ∨ lt3 y z = true := by
  cases h1 : lt3 x y with
  | true => exact .inl rfl
  | false =>
    cases h2 : lt3 y z with
    | true => exact .inr rfl
    | false =>
      exfalso
      cases h3 : lt3 y x with
      | true =>
        have := lt3_tra _ _ _ h3 h
        rw [h2] at this
        cases this
      | false =>
        have := lt3_tot _ _ h1 h3
        subst this
        rw [h2] at h
        cases h
/-- keys that are tuples, by a table of what stands at an address -/
@[reducible] def kind3 (tab : Addr → Option K3) : PyProof.Rows.KeyKind where
  α := K3
  blt := lt3
  irrefl := lt3_irr
  trans := lt3_tra
  negTrans := lt3_neg
  total := lt3_tot
  keyOf v := match v with | .ref a => tab a | _ => none
  dflt := (0, [], [])
/-- such a tuple -/
def IsStand (h : Heap) (t : Addr) (k : K3) : Prop := ∃ (dd : Option Addr) (sl : Array (Option Value)) (n : Nat) (tk : Tok) (l1 l2 : Addr),
  h.get? t = some { cls := .type "tuple", dict := dd, data := .seq #[.int k.1 tk, .ref l1, .ref l2] n, slots := sl } ∧ IsInts h l1 k.2.1 ∧ IsInts h l2 k.2.2
theorem IsStand.kp {h h' : Heap} {t : Addr} {k : K3} (x : IsStand h t k) (kp : Kp h h') : IsStand h' t k := let ⟨dd, sl, n, tk, l1, l2, a, b, c⟩ := x; ⟨dd, sl, n, tk, l1, l2, kp _ _ a, b.kp kp, c.kp kp⟩
section
variable {prog : Program} {w : World} {A : Around} {E : Value → Shared → Prop} {s : Shared} {x y : Addr} {p q : K3}
theorem key_lt {Q : Bool → Shared → Prop} (h1 : IsStand s.heap x p) (h2 : IsStand s.heap y q) (hu : A.units < cLine) (h : Q (lt3 p q) s) : wpAny (model prog w) A (keyLt' (tuples' true) (.ref x) (.ref y)) Q (fun _ _ => False) s := by
  obtain ⟨dd, sl, n, tk, l1, l2, o1, i1, i2⟩ := h1
  obtain ⟨dd', sl', n', tk', k1, k2, o2, j1, j2⟩ := h2
  obtain ⟨a, l, m⟩ := p
  obtain ⟨c, l', m'⟩ := q
  unfold lt3 at h
  dsimp only at h i1 i2 j1 j2
  refine kat_lt o1 rfl o2 rfl ?_
  show KatLex _ _ _ _ _ _ [(.int a tk, .int c tk'), (.ref l1, .ref k1), (.ref l2, .ref k2)] 0 s
  refine kat_cons (EqAt.int_int a tk c tk' prog w _ _ ?_)
  by_cases e : a = c
  · rw [if_pos e] at h
    rw [show (a == c) = true by simpa using e]
    refine kat_yes (kat_cons (eq_lists i1 j1 hu prog w _ _ ?_))
    by_cases e2 : l = l'
    · rw [if_pos e2] at h
      rw [decide_eq_true e2]
      refine kat_yes (kat_cons (eq_lists i2 j2 hu prog w _ _ ?_))
      by_cases e3 : m = m'
      · rw [decide_eq_true e3]
        rw [e3, lex_irr] at h
        exact kat_yes (kat_nil h)
      · rw [decide_eq_false e3]
        exact kat_no (kat_one _ _ (lt_lists i2 j2 hu h))
    · rw [if_neg e2] at h
      rw [decide_eq_false e2]
      exact kat_no (kat_one _ _ (lt_lists i1 j1 hu h))
  · rw [if_neg e] at h
    rw [show (a == c) = false by simpa using e]
    exact kat_no (oneLt_int h)
/-- the first pair that differs tells -/
def firstNe : List (Bool × Bool) → Bool
  | [] => false
  | (e, r) :: t => if e = true then firstNe t else r
theorem tup_lt (l b : Addr) (xs ys : Array Value) (n m : Nat) (dd dd2 : Option Addr) (sl sl2 : Array (Option Value)) (hz : xs.size = ys.size) (bs : List (Bool × Bool)) :
    Meets (Builtin.«tuple.__lt__» ⟨[.ref l, .ref b], []⟩)
      (fun A R s => s.heap.get? l = some { cls := .type "tuple", dict := dd, data := .seq xs n, slots := sl } ∧ s.heap.get? b = some { cls := .type "tuple", dict := dd2, data := .seq ys m, slots := sl2 } ∧
        PySem.Paired (fun (pq : Value × Value) (er : Bool × Bool) => EqAt A.in1 s pq.1 pq.2 er.1 ∧ ∀ (prog : Program) (w : World) (E : Value → Shared → Prop) (Q : Value → Shared → Prop), Q (.bool er.2) s → wpAny (model prog w) A.in1 (richCompare .Lt pq.1 pq.2) Q E s) (xs.toList.zip ys.toList) bs ∧
        R (.ok (.ret (.bool (firstNe bs)))) s) :=
  .of_wp fun prog w A R s h => by
    obtain ⟨hp, g, d, tk, os⟩ := s; obtain ⟨h1, h2, hP, h⟩ := h
    have f2 := AutoSeq1.sub_tuple_tuple
    wp_walk using wpAny_loadPart' h1, wpAny_loadPart' h2, wpAny_forIn_list _ (fun rest c s' => c.1 = none ∧ s' = ⟨hp, g, d, tk, os⟩ ∧ ∃ bs' : List (Bool × Bool),
      PySem.Paired (fun (pq : Value × Value) (er : Bool × Bool) => EqAt A.in1 ⟨hp, g, d, tk, os⟩ pq.1 pq.2 er.1 ∧ ∀ (prog : Program) (w : World) (E : Value → Shared → Prop) (Q : Value → Shared → Prop), Q (.bool er.2) ⟨hp, g, d, tk, os⟩ → wpAny (model prog w) A.in1 (richCompare .Lt pq.1 pq.2) Q E ⟨hp, g, d, tk, os⟩) rest bs' ∧
      R (.ok (.ret (.bool (firstNe bs')))) ⟨hp, g, d, tk, os⟩) _
    case turn =>
      rintro ⟨u, v⟩ rest c s' ⟨hc, rfl, bs', hp', hR⟩
      cases hp' with
      | cons hq hr =>
        rename_i er brest
        obtain ⟨e, r⟩ := er
        obtain ⟨he, hl⟩ := hq
        refine wpAny_bind (he prog w _ _ ?_)
        unfold firstNe at hR
        cases e with
        | true =>
          rw [if_pos rfl] at hR
          wp_walk
          exact ⟨rfl, rfl, _, hr, hR⟩
        | false =>
          rw [if_neg Bool.false_ne_true] at hR
          have hri := hl prog w
          wp_walk using hri
          exact ⟨_, rfl, hR⟩
    case fin =>
      rintro ⟨c1, c2⟩ s' ⟨hc, rfl, bs', hp', hR⟩
      simp only at hc
      subst hc
      cases hp' with
      | nil =>
        wp_walk
        refine ⟨_, rfl, ?_⟩
        have : decide (xs.size < ys.size) = false := decide_eq_false (by omega)
        simpa [Builtin.Tuple.tupleCompareSizes, this, firstNe, hz] using hR
    case h =>
      exact ⟨rfl, rfl, bs, hP, h⟩
theorem lt_stand {Q : Value → Shared → Prop} (h1 : IsStand s.heap x p) (h2 : IsStand s.heap y q) (hu : A.units + 1 < cLine) (h : Q (.bool (lt3 p q)) s) : wpAny (model prog w) A (compareOp .Lt (.ref x) (.ref y)) Q E s := by
  obtain ⟨dd, sl, n, tk, l1, l2, o1, i1, i2⟩ := h1
  obtain ⟨dd', sl', n', tk', k1, k2, o2, j1, j2⟩ := h2
  obtain ⟨a, l, m⟩ := p
  obtain ⟨c, l', m'⟩ := q
  dsimp only at i1 i2 j1 j2
  have e0 : firstNe [((a == c), decide (a < c)), (decide (l = l'), lexLt l l'), (decide (m = m'), lexLt m m')] = lt3 (a, l, m) (c, l', m') := by
    unfold lt3 firstNe firstNe firstNe firstNe
    dsimp only
    by_cases e : a = c
    · rw [if_pos e, if_pos (by simpa using e)]
      by_cases e2 : l = l'
      · rw [if_pos e2, if_pos (decide_eq_true e2)]
        by_cases e3 : m = m'
        · rw [if_pos (decide_eq_true e3), e3, lex_irr]
        · rw [if_neg (by simpa using e3)]
      · rw [if_neg e2, if_neg (by simpa using e2)]
    · rw [if_neg e, if_neg (by simpa using e)]
  rw [← e0] at h
  have hu1 : A.in1.units < cLine := hu
  refine richCompare_meets_room (op := .Lt) ⟨_, o1, rfl⟩ ⟨_, o2, rfl⟩ PySem.F.slot_tuple_lt PySem.F.entry_tuple_lt (PySem.F.args_tuple_lt_2 _ _)
    (tup_lt x y #[.int a tk, .ref l1, .ref l2] #[.int c tk', .ref k1, .ref k2] n n' dd dd' sl sl' rfl [((a == c), decide (a < c)), (decide (l = l'), lexLt l l'), (decide (m = m'), lexLt m m')])
    ⟨o1, o2, ?_, show Value.bool _ ≠ Value.notImplemented ∧ Q _ s from ⟨(fun x => nomatch x), h⟩⟩ (by omega)
  exact .cons ⟨EqAt.int_int _ _ _ _, fun prog w E Q q => HT.rcLt_int _ _ _ _ _ _ prog w E Q q⟩ (.cons ⟨eq_lists i1 j1 hu1, fun prog w E Q q => lt_lists i1 j1 hu1 q⟩ (.cons ⟨eq_lists i2 j2 hu1, fun prog w E Q q => lt_lists i2 j2 hu1 q⟩ .nil))
end
end Srt
end

section
set_option Elab.async false
set_option linter.all false
set_option maxRecDepth 100000
set_option maxHeartbeats 2000000
namespace Srt
open PySem PySem.Spec PyProof.Rows L2
open PySem.W (CodeHd tabObj kla_obj kla_fn)

/-- all that was tracked is as it was, but the table at P -/
def StayB (P : Addr) (H H' : Hp) : Prop := ∀ b o, H b = some o → b ≠ P → H' b = some o
def cdO (c : Addr) (qual : Str) : HO := .ext fun h => h.CodeRec (.ref c) qual
/-- the table at P of a def with one lambda: nothing yet, or that lambda's code -/
def TabOk (H : Hp) (P : Addr) (lp : Pos) (qual : Str) : Prop := H P = some (.tbl #[]) ∨ ∃ c, H P = some (.tbl #[rawInt lp.line, rawInt lp.col, .ref c]) ∧ H c = some (cdO c qual)
theorem TabOk.at {H : Hp} {P : Addr} {lp : Pos} {qual : Str} (h : TabOk H P lp qual) : ∃ ps, H P = some (.tbl ps) := by
  rcases h with h | ⟨c, h, _⟩
  · exact ⟨_, h⟩
  · exact ⟨_, h⟩
/-- what a lambda that reads the name cap needs of its def -/
structure LamCx (X : Cx) (cap : Str) (lsc : Scope) (P c : Addr) : Prop where
  clos : closureFor lsc X.env = pure [(cap, c)]
  cell : X.env.cells.lookup cap = some c
  code : ∃ cd, X.env.code = .ref cd ∧ CodeHd X.base cd P
  blt : X.base.BuiltinsAt X.mg P
section
variable {X : Cx} {pins : List (Addr × Obj)} {σ : L2.St} {H : Hp} {s : Shared} {cap : Str} {lsc : Scope} {P c : Addr} {params : Arguments} {body : Expr} {lp : Pos}
theorem lam_eval (I : Inv X pins σ H s) (L : LamCx X cap lsc P c) (T : TabOk H P lp (X.env.qual ++ "<lambda>")) (hdef : defaultsOf params X.env = ([], [])) {Q : Value → Shared → Prop} {E : Value → Shared → Prop}
    (h : ∀ f c' ctv pm s' H', Inv X pins σ H' s' → StayB P H H' → TabOk H' P lp (X.env.qual ++ "<lambda>") → s'.heap.get? f = some (kla_obj "<lambda>" (X.env.qual ++ "<lambda>") params body lsc [(cap, c)] pm c' ctv) →
      s'.heap.CodeRec (.ref c') (X.env.qual ++ "<lambda>") → Q (.ref f) s') : wpAny (model X.prog X.w) X.A (eval (.Lambda params body lsc lp) X.env) Q E s := by
  refine PySem.W.kla_eval hdef ?_
  obtain ⟨cd, e1, C⟩ := L.code
  have hg : s.heap.Ns mainGlobals X.mg := I.mod.glob.keeps I.bk
  have hb : s.heap.BuiltinsAt X.mg P := by
    obtain ⟨bm, ob, b1, b2, b3, b4, b5, b6⟩ := L.blt
    exact ⟨bm, ob, b1, b2, b3, b4, I.bk _ _ b5, b6⟩
  have hgP : mainGlobals ≠ P := fun q => by
    obtain ⟨o, es, ep, e, _⟩ := I.mod.glob
    obtain ⟨ps, hp⟩ := T.at
    have := (I.bs _ _ e).2
    rw [q, hp] at this
    cases this
  rcases T with T | ⟨c0, T, Tc⟩
  · have hP : s.heap.get? P = some (tabObj #[]) := I.hok P _ T
    refine PySem.W.kla_makeFunction L.clos I.ok.glob hg e1 (C.keeps I.bk) hP trivial rfl hgP hb fun c' ctv h' tk hx hge hlt hrec htb => ?_
    have hcn : H c' = none := I.hok.fresh hge
    have hcP : c' ≠ P := fun q => by rw [q, T] at hcn; cases hcn
    have nP : ∀ {b : Addr}, H b = none → b ≠ P := fun e q => by rw [q, T] at e; cases e
    have hH' : ∀ b, b ≠ P → b ≠ c' → upd (upd H P (.tbl #[rawInt lp.line, rawInt lp.col, .ref c'])) c' (cdO c' (X.env.qual ++ "<lambda>")) b = H b := fun b h1 h2 => by rw [upd_ne h2, upd_ne h1]
    have hPt : upd (upd H P (.tbl #[rawInt lp.line, rawInt lp.col, .ref c'])) c' (cdO c' (X.env.qual ++ "<lambda>")) P = some (.tbl #[rawInt lp.line, rawInt lp.col, .ref c']) := by rw [upd_ne hcP.symm, upd_same]
    have kp : ∀ b o, b ≠ P → s.heap.get? b = some o → (h'.push (kla_obj "<lambda>" (X.env.qual ++ "<lambda>") params body lsc [(cap, c)] ((X.mg "__name__").getD .none) c' ctv)).get? b = some o := fun b o hb e => Heap.get?_push_of_some _ (hx b o hb e)
    have hP' : (h'.push (kla_obj "<lambda>" (X.env.qual ++ "<lambda>") params body lsc [(cap, c)] ((X.mg "__name__").getD .none) c' ctv)).get? P = some (tabObj #[rawInt lp.line, rawInt lp.col, .ref c']) := Heap.get?_push_of_some _ htb
    have ncs : ∀ {b : Addr} {o : Obj}, s.heap.get? b = some o → b ≠ c' := fun e => Nat.ne_of_lt (Nat.lt_of_lt_of_le (Heap.lt_size e) hge)
    have tr : ∀ {b : Addr} {o : HO}, H b = some o → b ≠ c' := fun e => ne_of_none e hcn
    have hrec' := hrec
    have hrec2 : (h'.push (kla_obj "<lambda>" (X.env.qual ++ "<lambda>") params body lsc [(cap, c)] ((X.mg "__name__").getD .none) c' ctv)).CodeRec (.ref c') (X.env.qual ++ "<lambda>") := by
      obtain ⟨c2, oc, vs, t, z1, z2, z3⟩ := hrec'
      exact ⟨c2, oc, vs, t, z1, Heap.get?_push_of_some _ z2, z3⟩
    have un : Un X.fs [] H (upd (upd H P (.tbl #[rawInt lp.line, rawInt lp.col, .ref c'])) c' (cdO c' (X.env.qual ++ "<lambda>"))) s.heap (h'.push (kla_obj "<lambda>" (X.env.qual ++ "<lambda>") params body lsc [(cap, c)] ((X.mg "__name__").getD .none) c' ctv)) := by
      refine ⟨fun b o e n _ _ => kp b o (nP n) e, fun b o e n _ _ => ⟨o.slots, kp b o (nP n) e⟩, fun b o e n _ => ?_, fun b o e _ => ?_, fun b xs e => ?_, fun b o u e => ?_, fun b ps e => ?_⟩
      · rw [hH' b (nP n) (ncs e)]
        exact n
      · by_cases hb : b = P
        · exact ⟨_, by rw [hb]; exact hP'⟩
        · exact ⟨o, kp b o hb e⟩
      · rw [hH' b (ne_of e T (by intro z; cases z)) (tr e)]
        exact e
      · rw [hH' b (ne_of e T (by intro z; cases z)) (tr e)]
        exact e
      · by_cases hb : b = P
        · subst hb
          rw [T] at e
          cases e
          exact ⟨#[rawInt lp.line, rawInt lp.col, .ref c'], by rw [hPt]; simp⟩
        · exact ⟨#[], by rw [hH' b hb (tr e), e]; simp⟩
    have hok : HOk X.prog X.w (upd (upd H P (.tbl #[rawInt lp.line, rawInt lp.col, .ref c'])) c' (cdO c' (X.env.qual ++ "<lambda>"))) (h'.push (kla_obj "<lambda>" (X.env.qual ++ "<lambda>") params body lsc [(cap, c)] ((X.mg "__name__").getD .none) c' ctv)) := by
      intro b o e
      by_cases hbc : b = c'
      · subst hbc
        rw [upd_same] at e
        cases e
        refine ⟨hrec2, ?_, fun h1 h2 z1 z2 => ?_⟩
        · obtain ⟨c2, oc, vs, t, z1, z2, z3⟩ := hrec2
          cases z1
          exact ⟨oc, z2⟩
        · obtain ⟨c2, oc, vs, t, y1, y2, y3⟩ := z1
          cases y1
          exact ⟨_, oc, vs, t, rfl, z2 _ y2, y3⟩
      · by_cases hb : b = P
        · subst hb
          rw [hPt] at e
          cases e
          exact hP'
        · rw [hH' b hb hbc] at e
          refine (I.hok b o e).stay (fun b2 u hc q => kp b2 u ?_ q) (fun b2 e2 => ?_) fun b2 xs e2 => ?_
          · rcases hc with z | z
            · rw [z]; exact hb
            · exact ne_of z T (by intro y; cases y)
          · rw [hH' b2 (ne_of e2 T (by intro y; cases y)) (tr e2)]
            exact e2
          · rw [hH' b2 (ne_of e2 T (by intro y; cases y)) (tr e2)]
            exact e2
    refine h h'.objs.size c' ctv _ _ _ (I.un (t' := tk) un hok) (fun b o e hb => ?_) (.inr ⟨c', hPt, by rw [upd_same]⟩) (Heap.get?_push_size _ rfl) hrec2
    rw [hH' b hb (tr e)]
    exact e
  · have hP : s.heap.get? P = some (tabObj #[rawInt lp.line, rawInt lp.col, .ref c0]) := I.hok P _ T
    obtain ⟨hrec, _, _⟩ := I.hok c0 _ Tc
    refine PySem.W.kla_makeFunctionHit (cv := .ref c0) L.clos I.ok.glob hg e1 (C.keeps I.bk) hP trivial ?_ hb fun ctv h' tk hk hsz => ?_
    · have := codeAmong_snoc (pos := lp) (c := .ref c0) [] trivial rfl
      simpa using this
    · have kp : ∀ b o, s.heap.get? b = some o → (h'.push (kla_obj "<lambda>" (X.env.qual ++ "<lambda>") params body lsc [(cap, c)] ((X.mg "__name__").getD .none) c0 ctv)).get? b = some o := fun b o e => Heap.get?_push_of_some _ (hk b o e)
      refine h h'.objs.size c0 ctv _ _ H (I.kept (t' := tk) kp) (fun b o e _ => e) (.inr ⟨c0, T, Tc⟩) (Heap.get?_push_size _ rfl) ?_
      obtain ⟨c2, oc, vs, t, z1, z2, z3⟩ := hrec
      exact ⟨c2, oc, vs, t, z1, kp _ _ z2, z3⟩
end
end Srt
end

section
set_option Elab.async false
set_option linter.all false
set_option maxRecDepth 100000
set_option maxHeartbeats 2000000
namespace Srt
open PySem PySem.Spec PyProof.Rows L2
open PySem.W (CodeHd tabObj kla_obj kla_fn)

/-- a lambda of one parameter that reads one name of its def: lambda par: cap[par] -/
structure LamTxt (cap par : Str) (params : Arguments) (lsc : Scope) : Prop where
  kind : lsc.kind = .function
  co : lsc.isCoroutine = false
  gen : lsc.isGenerator = false
  nocell : ∀ x ∈ lsc.names, x.2 ≠ .cell
  parL : lsc.names.lookup par = some .local
  capF : lsc.names.lookup cap = some .free
  bind : ∀ (q : Str) (body : Expr) (cl : List (Str × Addr)) (pm cd ct v : Value), bindArgs (kla_fn "<lambda>" q params body lsc cl pm cd ct) ⟨[v], []⟩ = pure [(par, v)]
  d1 : (cap == ("__debug__" : Str)) = false
  d2 : (par == ("__debug__" : Str)) = false
  d3 : (cap == ("__classdict__" : Str)) = false
theorem lam_call {prog : Program} {w : World} {A : Around} {s : Shared} {cap par : Str} {params : Arguments} {lsc : Scope} {p1 p2 p3 : Pos} {f c c' pl : Addr} {qual : Str} {pm ctv u : Value} {its : List Value} {i : Nat} {t : Tok} (T : LamTxt cap par params lsc)
    (hr : A.depth < recursionLimit) (hf : s.heap.get? f = some (kla_obj "<lambda>" qual params (.Subscript (.Name cap p1) (.Name par p2) p3) lsc [(cap, c)] pm c' ctv)) (hcd : s.heap.CodeRec (.ref c') qual) (hlim : s.heap.NoLimit)
    (hc : s.heap.IsCell c (some (.ref pl))) (hl : s.heap.IsList pl its.toArray) (hi : its[i]? = some u) (hz : i < 1000000) :
    wpAny (model prog w) A (call (.ref f) [.int i t]) (fun r s' => ∃ h' tk', s' = { s with heap := h', toks := tk' } ∧ Kp s.heap h' ∧ r = u) (fun _ _ => False) s := by
  refine wpAny_call (PySem.W.kla_callFunE hr hf rfl T.co T.gen rfl hcd ?_)
  rw [T.bind]
  refine wpAny_pure (wpAny_newFunctionEnv T.nocell (fun y m => ?_) (fun h1 hns hsb => ⟨hlim.fresh _ hsb, ?_⟩) T.kind)
  · rw [List.mem_singleton.mp m]
    exact T.parL
  · have kp : Kp s.heap h1 := fun b o e => hsb.extBut b o (Nat.ne_of_lt (Heap.lt_size e)) (Heap.get?_push_of_some _ e)
    refine PySem.W.kla_codeExpr ?_
    refine Subscript_ ?_
    have hc1 : h1.IsCell c (some (.ref pl)) := by
      obtain ⟨o, a1, a2⟩ := hc
      exact ⟨o, kp _ _ a1, a2⟩
    have hl1 : h1.IsList pl its.toArray := by
      obtain ⟨o, a1, a2⟩ := hl
      exact ⟨o, kp _ _ a1, a2⟩
    refine wpAny_Name (wpAny_loadName_free (c := c) T.kind T.capF ?_ hc1 ?_ T.d3) T.d1
    · show List.lookup cap [(cap, c)] = some c
      simp only [List.lookup, beq_self_eq_true]
    · refine wpAny_Name (wpAny_loadName_local (v := .int i t) T.kind T.parL hns ?_ ?_) T.d2
      · show List.lookup par ([(par, Value.int i t)].reverse) = _
        simp only [List.reverse_cons, List.reverse_nil, List.nil_append, List.lookup, beq_self_eq_true]
      · refine item_listR (items := its.toArray) hl1 (by omega) (by omega) ?_ ⟨h1, _, rfl, kp, rfl⟩ rfl
        rw [Int.toNat_natCast]
        simpa using hi
end Srt
end

section
set_option Elab.async false
set_option linter.all false
set_option maxRecDepth 100000
set_option maxHeartbeats 2000000
namespace Srt
open PySem PySem.Spec PyProof.Rows L2
open PySem.W (CodeHd tabObj kla_obj kla_fn)

def nV (n : Nat) : V := .int (n : Int)
/-- js is is, sorted by key, like ones in their order -/
def SortedN {α : Type} (lt : α → α → Bool) (b : Bool) (key : Nat → α) (is js : List Nat) : Prop :=
  js.Perm is ∧ js.Pairwise (fun i j => if b then lt (key i) (key j) = false else lt (key j) (key i) = false) ∧ ∀ c, js.filter (fun i => !lt (key i) c && !lt c (key i)) = is.filter fun i => !lt (key i) c && !lt c (key i)
def unV : Value → Nat
  | .int i _ => i.toNat
  | _ => 0
theorem vals_un : ∀ {is : List Nat} {vs : List Value}, Vals (is.map nV) vs → vs.map unV = is
  | [], [], _ => rfl
  | [], _ :: _, h => by have := h.length; simp at this
  | _ :: _, [], h => by have := h.length; simp at this
  | i :: is, v :: vs, h => by
    cases h with
    | cons a b =>
      obtain ⟨t, rfl⟩ := a
      rw [List.map_cons, vals_un b]
      rfl
theorem vals_mem : ∀ {is : List Nat} {vs : List Value} {v : Value}, Vals (is.map nV) vs → v ∈ vs → RelV (nV (unV v)) v
  | [], [], _, _, m => by cases m
  | [], _ :: _, _, h, _ => by have := h.length; simp at this
  | _ :: _, [], _, h, _ => by have := h.length; simp at this
  | i :: is, v :: vs, x, h, m => by
    cases h with
    | cons a b =>
      rcases List.mem_cons.mp m with e | m
      · rw [e]
        obtain ⟨t, rfl⟩ := a
        exact ⟨t, rfl⟩
      · exact vals_mem b m
theorem vals_map {l : List Value} (h : ∀ v ∈ l, RelV (nV (unV v)) v) : Vals ((l.map unV).map nV) l := by
  induction l with
  | nil => exact .nil
  | cons a r ih => exact .cons (h a (List.mem_cons_self ..)) (ih fun v m => h v (List.mem_cons_of_mem _ m))
theorem zip_key {α : Type} (key : Nat → α) : ∀ {is : List Nat} {vs : List Value}, Vals (is.map nV) vs → ((is.map key).zip vs).map (fun p => (p.1, unV p.2)) = is.map fun i => (key i, i)
  | [], [], _ => rfl
  | [], _ :: _, h => by have := h.length; simp at this
  | _ :: _, [], h => by have := h.length; simp at this
  | i :: is, v :: vs, h => by
    cases h with
    | cons a b =>
      obtain ⟨t, rfl⟩ := a
      rw [List.map_cons, List.zip_cons_cons, List.map_cons, zip_key key b, List.map_cons]
      rfl
theorem sortedN {κ : KeyKind} {b : Bool} {key : Nat → κ.α} {is : List Nat} {vs out : List Value} (hv : Vals (is.map nV) vs) (h : SortedBy κ b (is.map key) vs out) : ∃ js, SortedN κ.blt b key is js ∧ Vals (js.map nV) out := by
  obtain ⟨ps, h1, rfl, h3, h4⟩ := h
  have hz := zip_key key hv
  have m1 : ∀ p ∈ ps, p.1 = key (unV p.2) ∧ RelV (nV (unV p.2)) p.2 := fun p m => by
    have m2 := h1.mem_iff.mp m
    have m3 : (p.1, unV p.2) ∈ is.map fun i => (key i, i) := hz ▸ List.mem_map_of_mem (f := fun p : κ.α × Value => (p.1, unV p.2)) m2
    obtain ⟨i, _, e⟩ := List.mem_map.mp m3
    injection e with e1 e2
    refine ⟨by rw [← e1, e2], vals_mem hv (List.of_mem_zip m2).2⟩
  refine ⟨(ps.map Prod.snd).map unV, ⟨?_, ?_, fun c => ?_⟩, vals_map fun v m => ?_⟩
  · have := (h1.map fun p : κ.α × Value => (p.1, unV p.2)).map Prod.snd
    rw [hz, List.map_map, List.map_map] at this
    rw [List.map_map]
    have e : List.map (Prod.snd ∘ fun i => (key i, i)) is = is := by
      refine (List.map_congr_left (g := id) fun _ _ => rfl).trans (List.map_id _)
    rw [e] at this
    exact this
  · rw [List.pairwise_map, List.pairwise_map]
    refine h3.imp_of_mem fun {p q} mp mq hr => ?_
    rw [(m1 p mp).1, (m1 q mq).1] at hr
    exact hr
  · have key2 : ∀ l : List (κ.α × Value), (∀ p ∈ l, p.1 = key (unV p.2)) → ((l.map Prod.snd).map unV).filter (fun i => !κ.blt (key i) c && !κ.blt c (key i)) = ((l.filter (alikeK κ c)).map Prod.snd).map unV := fun l hl => by
      rw [List.map_map, List.filter_map, List.map_map]
      congr 1
      refine List.filter_congr fun p m => ?_
      show (!κ.blt (key (unV p.2)) c && !κ.blt c (key (unV p.2))) = alikeK κ c p
      rw [← hl p m]
      rfl
    rw [key2 ps fun p m => (m1 p m).1, h4 c, ← key2 ((is.map key).zip vs) fun p m => (m1 p (h1.mem_iff.mpr m)).1]
    congr 1
    rw [List.map_snd_zip (by rw [List.length_map]; have := hv.length; rw [List.length_map] at this; omega), vals_un hv]
  · obtain ⟨p, mp, rfl⟩ := List.mem_map.mp m
    exact (m1 p mp).2

/-! ### the two uses -/
def tSortL (K : PySem.W.Frag) (ci : Nat) (P : Addr) (lp : Pos) (q : Str) (te : TE) : TE := fun σ H Q => te σ H fun x H1 => ∃ (l pl : Addr) (is : List Nat) (ks : List Int), x = .ref l ∧ SqL K H1 l (is.map nV) ∧ σ[ci]? = some (some (.ref pl)) ∧ SqL K H1 pl (ks.map V.int) ∧
  (∀ i ∈ is, i < ks.length) ∧ is.length < 64 ∧ ks.length < 1000 ∧ TabOk H1 P lp q ∧
  ∀ (js : List Nat) (D : Addr) (H' : Hp), SortedN (fun a b : Int => decide (a < b)) true (fun i => ks.getD i 0) is js → StayB P H1 H' → TabOk H' P lp q → H1 D = none → H' D = some (.lst (js.map nV)) → Q (.ref D) H'
section
variable {X : Cx} {cap par : Str} {params : Arguments} {lsc : Scope} {P c : Addr} {lp p1 p2 p3 p pos kp kp2 cpos : Pos} {e : Expr} {te : TE} {ci j : Nat}
theorem argsR (a v u : Value) : argsOk "sorted" ⟨[a], [(Str.ofString "key", v), (Str.ofString "reverse", u)]⟩ := ksk_s2 a v u
/-- the name that the lambda reads: its cell -/
theorem cell_at {pins : List (Addr × Obj)} {σ : L2.St} {H : Hp} {s : Shared} {v : V} (I : Inv X pins σ H s) (hN : X.N[ci]? = some cap) (hs : X.env.scope.names.lookup cap = some .cell) (hc : X.env.cells.lookup cap = some c) (hσ : σ[ci]? = some (some v)) :
    ∃ u, RelV v u ∧ s.heap.IsCell c (some u) := by
  obtain ⟨m, hn, hl⟩ := I.loc
  obtain ⟨u, r, l⟩ := hl ci cap v hN hσ (.inr (.inl hs))
  refine ⟨u, r, ?_⟩
  rcases l with ⟨hk, _⟩ | ⟨_, c2, e, z⟩
  · have : X.env.scope.names.lookup cap = some .local := hk
    rw [hs] at this
    cases this
  · rw [hc] at e
    cases e
    exact z
theorem stay_in {P D : Addr} {H1 H2 : Hp} {o : HO} (k : StayB P H1 H2) (hP : ∃ ps, H2 P = some (.tbl ps)) (hD : H2 D = none) : H1 D = none ∧ StayB P H1 (upd H2 D o) := by
  have nP : D ≠ P := fun z => by
    obtain ⟨ps, h⟩ := hP
    rw [z, h] at hD
    cases hD
  refine ⟨?_, fun b u e hb => ?_⟩
  · cases q : H1 D with
    | none => rfl
    | some u =>
      rw [k D u q nP] at hD
      cases hD
  · have := k b u e hb
    rw [upd_ne (ne_of_none this hD)]
    exact this
theorem tab_in {P D : Addr} {H2 : Hp} {o : HO} {q : Str} (T : TabOk H2 P lp q) (hD : H2 D = none) : TabOk (upd H2 D o) P lp q := by
  rcases T with T | ⟨c, T, Tc⟩
  · exact .inl (by rw [upd_ne (ne_of_none T hD)]; exact T)
  · exact .inr ⟨c, by rw [upd_ne (ne_of_none T hD)]; exact T, by rw [upd_ne (ne_of_none Tc hD)]; exact Tc⟩
theorem StayB.sq {K : PySem.W.Frag} {P l : Addr} {H1 H2 : Hp} {xs : List V} (k : StayB P H1 H2) (hP : ∃ ps, H1 P = some (.tbl ps)) (h : SqL K H1 l xs) : SqL K H2 l xs := by
  obtain ⟨ps, hP⟩ := hP
  rcases h with (h | ⟨o, h⟩) | h
  · exact .inl (.inl (k _ _ h (ne_of h hP (by intro z; cases z))))
  · exact .inl (.inr ⟨o, k _ _ h (ne_of h hP (by intro z; cases z))⟩)
  · exact .inr h
theorem call_sortL {pins : List (Addr × Obj)} {σ : L2.St} {H2 : Hp} {s2 : Shared} {f c' l pl : Addr} {qual : Str} {pm ctv : Value} {is : List Nat} {ks : List Int} {Q' : VK} (hcl : X.env.cells.lookup cap = some c) (T : LamTxt cap par params lsc) (hr : Room j X.A) (hN : X.N[ci]? = some cap) (hsc : X.env.scope.names.lookup cap = some .cell)
    (I2 : Inv X pins σ H2 s2) (hf : s2.heap.get? f = some (kla_obj "<lambda>" qual params (.Subscript (.Name cap p1) (.Name par p2) p3) lsc [(cap, c)] pm c' ctv)) (hcd : s2.heap.CodeRec (.ref c') qual)
    (hl2 : SqL X.K H2 l (is.map nV)) (hpl2 : SqL X.K H2 pl (ks.map V.int)) (hσ : σ[ci]? = some (some (.ref pl))) (hix : ∀ i ∈ is, i < ks.length) (h64 : is.length < 64) (hks : ks.length < 1000)
    (k : ∀ (js : List Nat) (D : Addr), SortedN (fun a b : Int => decide (a < b)) true (fun i => ks.getD i 0) is js → H2 D = none → Q' (.ref D) (upd H2 D (.lst (js.map nV)))) :
    wpAny (model X.prog X.w) X.A (call (.builtin "sorted") [.ref l] [(Str.ofString "key", .ref f), (Str.ofString "reverse", .bool true)]) (EP X pins σ Q') X.xe s2 := by
  obtain ⟨its, rv, ho, hz⟩ := I2.list hl2
  obtain ⟨its2, rv2, ho2, hz2⟩ := I2.list hpl2
  obtain ⟨u, ru, hcell⟩ := cell_at I2 hN hsc hcl hσ
  cases ru
  have hkl : its2.length = ks.length := by
    have := rv2.length
    rw [List.length_map] at this
    exact this.symm
  have hil : is.length = its.length := by
    have := rv.length
    rwa [List.length_map] at this
  have hdp : X.A.in1.in1.depth < recursionLimit := by
    have := hr.dp
    show X.A.depth < _
    omega
  refine sorted_key (s := s2) (κ := PyProof.Rows.intKind) (kd := oneType') (b := true) (kz := is.map fun i => ks.getD i 0) (Is := fun us => us = its) (f := .ref f) (fun {Q'} hq => col_list (A := X.A.in1) ho.isList (by rw [← hil, sizeLine_eq]; omega) hq) (fun us e => by rw [e, List.length_map]; exact hil) (by rw [List.length_map]; exact h64)
    (ksk_s2 _ _ _) (fun x => ksk_l2 _ _ _) (fun x => ksk_t2 _ _ _) (fun us e i v hv h tk kp => ?_) ⟨fun h tk kp x y a b hx hy Q' q => ?_, fun h tk keys kp hk h2 {Q'} q => ?_⟩ fun D h' tk us out cc e kp hD ho' hsb => ?_
  · subst e
    have hi2 : i < is.length := by
      have := (List.getElem?_eq_some_iff.mp hv).1
      omega
    obtain ⟨u, eu, ru⟩ := rv.get (i := i) (x := nV is[i]) (by rw [List.getElem?_map, List.getElem?_eq_getElem hi2]; rfl)
    rw [hv] at eu
    cases eu
    obtain ⟨t, rfl⟩ := ru
    have hk3 : is[i] < ks.length := hix _ (List.getElem_mem hi2)
    obtain ⟨u2, eu2, ru2⟩ := rv2.get (i := is[i]) (x := V.int ks[is[i]]) (by rw [List.getElem?_map, List.getElem?_eq_getElem hk3]; rfl)
    obtain ⟨t2, rfl⟩ := ru2
    have hcd' : h.CodeRec (.ref c') qual := by
      obtain ⟨c2, oc, vs, t, z1, z2, z3⟩ := hcd
      exact ⟨c2, oc, vs, t, z1, kp _ _ z2, z3⟩
    have hcell' : h.IsCell c (some (.ref pl)) := by
      obtain ⟨o, a1, a2⟩ := hcell
      exact ⟨o, kp _ _ a1, a2⟩
    have hl' : h.IsList pl its2.toArray := by
      obtain ⟨o, a1, a2⟩ := ho2.isList
      exact ⟨o, kp _ _ a1, a2⟩
    refine thn (lam_call (s := { s2 with heap := h, toks := tk }) (A := X.A.in1.in1) T hdp (kp _ _ hf) hcd' (I2.nolimit.keeps kp) hcell' hl' eu2 (by omega)) fun r s' ⟨h3, tk3, e3, kp3, er⟩ => ⟨h3, tk3, e3, kp3, ks.getD is[i] 0, ?_, ?_⟩
    · rw [List.getElem?_map, List.getElem?_eq_getElem hi2]
      rfl
    · rw [er, List.getD_eq_getElem?_getD, List.getElem?_eq_getElem hk3]
      rfl
  · cases x <;> simp only [PyProof.Rows.intKind, reduceCtorEq, Option.some.injEq] at hx
    cases y <;> simp only [PyProof.Rows.intKind, reduceCtorEq, Option.some.injEq] at hy
    subst hx hy
    exact PySem.W.kat_lt_int q
  · have hI : ∀ (kl : List Value) (zl : List Int), ReadAs PyProof.Rows.intKind kl zl → IntsAre kl zl := by
      intro kl
      induction kl with
      | nil =>
        intro zl hz
        cases zl with
        | nil => exact .nil
        | cons _ _ => cases hz
      | cons a r ih =>
        intro zl hz
        cases zl with
        | nil => cases hz
        | cons z zr =>
          injection hz with z1 z2
          cases a <;> simp only [PyProof.Rows.intKind, reduceCtorEq, Option.some.injEq] at z1
          subst z1
          exact .cons _ _ (ih zr z2)
    rw [ksk_kind (hI _ _ hk) (by
      have := hk.length
      rw [Array.length_toList] at this
      omega)]
    exact wpAny_pure q
  · subst e
    obtain ⟨js, hjs, hvo⟩ := sortedN rv hsb
    have hDn : H2 D = none := I2.hok.fresh hD
    refine ⟨.ref D, upd H2 D (.lst (js.map nV)), I2.laid (t' := tk) kp hD ⟨?_, out.toList, cc, hvo, ?_⟩, rfl, k js D hjs hDn⟩
    case refine_2 => simpa using ho'
    rw [List.length_map, hjs.1.length_eq]
    rw [sizeLine_eq]
    omega
end
end Srt
end

section
set_option Elab.async false
set_option linter.all false
set_option maxRecDepth 100000
set_option maxHeartbeats 400000
namespace Srt
open PySem PySem.Spec PyProof.Rows L2
open PySem.W (CodeHd tabObj kla_obj kla_fn)
section
variable {X : Cx} {cap par : Str} {params : Arguments} {lsc : Scope} {P c : Addr} {lp p1 p2 p3 p pos kp kp2 cpos : Pos} {e : Expr} {te : TE} {ci j : Nat}
def wantL (K : PySem.W.Frag) (ci : Nat) (P : Addr) (lp : Pos) (q : Str) (σ : L2.St) (Q : VK) (x : V) (H1 : Hp) : Prop := ∃ (l pl : Addr) (is : List Nat) (ks : List Int), x = .ref l ∧ SqL K H1 l (is.map nV) ∧ σ[ci]? = some (some (.ref pl)) ∧ SqL K H1 pl (ks.map V.int) ∧
  (∀ i ∈ is, i < ks.length) ∧ is.length < 64 ∧ ks.length < 1000 ∧ TabOk H1 P lp q ∧
  ∀ (js : List Nat) (D : Addr) (H' : Hp), SortedN (fun a b : Int => decide (a < b)) true (fun i => ks.getD i 0) is js → StayB P H1 H' → TabOk H' P lp q → H1 D = none → H' D = some (.lst (js.map nV)) → Q (.ref D) H'
def one1 (R : V → Hp → Prop) : List V → Hp → Prop
  | [x], H => R x H
  | _, _ => False
theorem one1_of {R : V → Hp → Prop} {vs : List V} {us : List Value} {H : Hp} (h : one1 R vs H) (r : Vals vs us) : ∃ x u, vs = [x] ∧ us = [u] ∧ RelV x u ∧ R x H := by
  match vs, us, r, h with
  | [x], [u], .cons rx .nil, h => exact ⟨x, u, rfl, rfl, rx, h⟩
theorem args1 {R : V → Hp → Prop} {pins : List (Addr × Obj)} {s : Shared} {σ : L2.St} {H : Hp} (ha : PE X e te) (hst : starEach [e] X.env = [(false, eval e X.env)]) (I : Inv X pins σ H s) (h : te σ H R) :
    wpAny (model X.prog X.w) X.A (spliced (backTo pos (starEach [e] X.env))) (fun us s1 => ∃ x u H1, us = [u] ∧ Inv X pins σ H1 s1 ∧ RelV x u ∧ R x H1) X.xe s := by
  refine thn (pa_cons ha pa_nil (hs := hst) pos pins s σ H (one1 R) I h) fun us s1 ⟨vs1, H1, I1, r1, q1⟩ => ?_
  obtain ⟨x, u, rfl, rfl, rx, q⟩ := one1_of q1 r1
  exact ⟨x, u, H1, rfl, I1, rx, q⟩
theorem pe_sortL (L : LamCx X cap lsc P c) (T : LamTxt cap par params lsc) (hr : Room j X.A) (hN : X.N[ci]? = some cap) (hsc : X.env.scope.names.lookup cap = some .cell) (hg : Gl X "sorted") (hm : X.mg "sorted" = none) (ha : PE X e te)
    (hdef : defaultsOf params X.env = ([], [])) (hst : starEach [e] X.env = [(false, eval e X.env)]) :
    PE X (.Call (.Name "sorted" p) [e] [⟨some "key", .Lambda params (.Subscript (.Name cap p1) (.Name par p2) p3) lsc lp, kp⟩, ⟨some "reverse", .Constant (.bool true) 0 cpos, kp2⟩] pos) (tSortL X.K ci P lp (X.env.qual ++ "<lambda>") te) := by
  intro pins s σ H Q I h
  have h : te σ H (wantL X.K ci P lp (X.env.qual ++ "<lambda>") σ Q) := h
  refine wpAny_Call_Name_kw (ld_blt I hg hm boot_sorted ?_)
  refine callWith_kw ?_ (by rw [hst]; rfl) (by rw [hst]; rfl)
  refine thn (args1 ha hst I h) fun us s1 z => ?_
  obtain ⟨x, u, H1, rfl, I1, rx, q1⟩ := z
  obtain ⟨l, pl, is, ks, rfl, hl, hσ, hpl, hix, h64, hks, hT, k⟩ := q1
  cases rx
  refine wpAny_evalAll_cons (wpAny_bind (lam_eval (body := .Subscript (.Name cap p1) (.Name par p2) p3) I1 L hT hdef fun f c' ctv pm s2 H2 I2 st2 T2 hf hcd => wpAny_bind (wpAny_standAt (wpAny_pure ?_))))
  refine wpAny_evalAll_cons (wpAny_bind (Constant_bool (wpAny_bind (wpAny_standAt (wpAny_pure ?_)))))
  refine wpAny_evalAll_nil ?_
  exact call_sortL L.cell T hr hN hsc I2 hf hcd (st2.sq hT.at hl) (st2.sq hT.at hpl) hσ hix h64 hks fun js D hjs hDn =>
    let ⟨hDn1, st3⟩ := stay_in (o := .lst (js.map nV)) st2 T2.at hDn
    k js D _ hjs st3 (tab_in T2 hDn) hDn1 upd_same

/-- range(n) as a thing -/
def tRngV (ta : TA) : TE := fun σ H Q => ta σ H fun vs H1 => ∃ n : Nat, vs = [nV n] ∧ ∀ r, H1 r = none → Q (.ref r) (upd H1 r (.rng 0 n))
theorem pe_rangeV {a : Expr} {ta : TA} (hg : Gl X "range") (hm : X.mg "range" = none) (ha : PA X [a] ta) (hs : starEach [a] X.env = [(false, eval a X.env)] := by rfl) : PE X (.Call (.Name "range" p) [a] [] pos) (tRngV ta) := by
  intro pins s σ H Q I h
  refine Call_ (ld_blt I hg hm boot_range (PyProof.Rows.callWith_type1 (thn (ha pos pins s σ H _ I h) fun us s1 ⟨vs, H1, I1, r1, q1⟩ => ?_) hs rfl))
  obtain ⟨n, rfl, q⟩ := q1
  cases r1 with
  | cons r rr =>
  cases rr
  obtain ⟨t, rfl⟩ := r
  refine call_range_1 ?_
  refine ⟨.ref s1.heap.objs.size, upd H1 s1.heap.objs.size (.rng 0 n), I1.laid (fun b o e => Heap.get?_push_of_some _ e) (Nat.le_refl _) ⟨_, _, _, Heap.get?_push_size _ rfl⟩, rfl, q _ (I1.hok.fresh (Nat.le_refl _))⟩
/-- what stands for a boat, tracked -/
def StandH (H : Hp) (t : Addr) (k : K3) : Prop := ∃ l1 l2, H t = some (.tup [.int k.1, .ref l1, .ref l2]) ∧ H l1 = some (.lst (k.2.1.map V.int)) ∧ H l2 = some (.lst (k.2.2.map V.int))
theorem mapInt_inj : ∀ {x y : List Int}, x.map V.int = y.map V.int → x = y
  | [], [], _ => rfl
  | [], _ :: _, h => by cases h
  | _ :: _, [], h => by cases h
  | a :: x, b :: y, h => by
    rw [List.map_cons, List.map_cons] at h
    injection h with h1 h2
    injection h1 with h1
    rw [h1, mapInt_inj h2]
theorem StandH.one {H : Hp} {t : Addr} {k k' : K3} (h : StandH H t k) (h' : StandH H t k') : k = k' := by
  obtain ⟨l1, l2, a, b, c⟩ := h
  obtain ⟨l1', l2', a', b', c'⟩ := h'
  rw [a] at a'
  injection a' with a'
  injection a' with a'
  injection a' with z1 a'
  injection a' with z2 a'
  injection a' with z3 _
  injection z1 with z1
  injection z2 with z2
  injection z3 with z3
  subst z2 z3
  rw [b] at b'
  rw [c] at c'
  injection b' with b'
  injection c' with c'
  injection b' with b'
  injection c' with c'
  obtain ⟨x, y, z⟩ := k
  obtain ⟨x', y', z'⟩ := k'
  dsimp only at *
  rw [z1, mapInt_inj b', mapInt_inj c']
theorem StandH.stay {H H' : Hp} {P t : Addr} {k : K3} (h : StandH H t k) (hP : ∃ ps, H P = some (.tbl ps)) (st : StayB P H H') : StandH H' t k := by
  obtain ⟨l1, l2, a, b, c⟩ := h
  obtain ⟨ps, hP⟩ := hP
  exact ⟨l1, l2, st _ _ a (ne_of a hP (by intro z; cases z)), st _ _ b (ne_of b hP (by intro z; cases z)), st _ _ c (ne_of c hP (by intro z; cases z))⟩
theorem vals_ints : ∀ {ns : List Int} {us : List Value}, Vals (ns.map V.int) us → IntsAre us ns
  | [], [], _ => .nil
  | [], _ :: _, h => by have := h.length; simp at this
  | _ :: _, [], h => by have := h.length; simp at this
  | n :: ns, u :: us, h => by
    cases h with
    | cons a b =>
      obtain ⟨t, rfl⟩ := a
      exact .cons _ _ (vals_ints b)
theorem isInts_of {pins : List (Addr × Obj)} {σ : L2.St} {H : Hp} {s : Shared} (I : Inv X pins σ H s) {l : Addr} {ns : List Int} (h : H l = some (.lst (ns.map V.int))) : IsInts s.heap l ns := by
  obtain ⟨_, its, n, rv, ho⟩ := I.hok l _ h
  exact ⟨its.toArray, n, ho, by simpa using vals_ints rv⟩
theorem StandH.at {pins : List (Addr × Obj)} {σ : L2.St} {H : Hp} {s : Shared} (I : Inv X pins σ H s) {t : Addr} {k : K3} (h : StandH H t k) : IsStand s.heap t k := by
  obtain ⟨l1, l2, a, b, c⟩ := h
  obtain ⟨_, its, rv, ⟨o, ho, hc, n, hd⟩⟩ := I.hok t _ a
  match its, rv with
  | [u1, u2, u3], .cons ⟨tk, e1⟩ (.cons e2 (.cons e3 .nil)) =>
  subst e1
  cases e2
  cases e3
  obtain ⟨cls, dd, dat, sl⟩ := o
  simp only at hc hd
  subst hc hd
  exact ⟨dd, sl, n, tk, l1, l2, ho, isInts_of I b, isInts_of I c⟩
open Classical in
/-- the table of what stands where -/
noncomputable def tabOf (H : Hp) (a : Addr) : Option K3 := if h : ∃ k, StandH H a k then some h.choose else none
theorem tabOf_is {H : Hp} {a : Addr} {k : K3} (h : StandH H a k) : tabOf H a = some k := by
  unfold tabOf
  rw [dif_pos ⟨k, h⟩]
  exact congrArg some ((Exists.choose_spec (⟨k, h⟩ : ∃ k, StandH H a k)).one h)
theorem of_tabOf {H : Hp} {a : Addr} {k : K3} (h : tabOf H a = some k) : StandH H a k := by
  unfold tabOf at h
  split at h
  · rename_i q
    rw [← Option.some.inj h]
    exact q.choose_spec
  · cases h
def wantR (K : PySem.W.Frag) (ci : Nat) (P : Addr) (lp : Pos) (q : Str) (σ : L2.St) (Q : VK) (x : V) (H1 : Hp) : Prop := ∃ (r pl : Addr) (ts : List Addr) (ks : List K3), x = .ref r ∧ H1 r = some (.rng 0 ks.length) ∧ σ[ci]? = some (some (.ref pl)) ∧ H1 pl = some (.lst (ts.map V.ref)) ∧
  ts.length = ks.length ∧ (∀ (i : Nat) (t : Addr) (k : K3), ts[i]? = some t → ks[i]? = some k → StandH H1 t k) ∧ ks.length < 64 ∧ TabOk H1 P lp q ∧
  ∀ (js : List Nat) (D : Addr) (H' : Hp), SortedN lt3 false (fun i => ks.getD i (0, [], [])) (List.range ks.length) js → StayB P H1 H' → TabOk H' P lp q → H1 D = none → H' D = some (.lst (js.map nV)) → Q (.ref D) H'
def tSortR (K : PySem.W.Frag) (ci : Nat) (P : Addr) (lp : Pos) (q : Str) (te : TE) : TE := fun σ H Q => te σ H (wantR K ci P lp q σ Q)
theorem call_sortR {pins : List (Addr × Obj)} {σ : L2.St} {H2 : Hp} {s2 : Shared} {f c' r pl : Addr} {qual : Str} {pm ctv : Value} {ts : List Addr} {ks : List K3} {Q' : VK} (hcl : X.env.cells.lookup cap = some c) (T : LamTxt cap par params lsc) (hr : Room j X.A) (hcalm : X.calm = true) (hN : X.N[ci]? = some cap) (hsc : X.env.scope.names.lookup cap = some .cell)
    (I2 : Inv X pins σ H2 s2) (hf : s2.heap.get? f = some (kla_obj "<lambda>" qual params (.Subscript (.Name cap p1) (.Name par p2) p3) lsc [(cap, c)] pm c' ctv)) (hcd : s2.heap.CodeRec (.ref c') qual)
    (hr2 : H2 r = some (.rng 0 ks.length)) (hpl2 : H2 pl = some (.lst (ts.map V.ref))) (hσ : σ[ci]? = some (some (.ref pl))) (hlen : ts.length = ks.length) (hst : ∀ (i : Nat) (t : Addr) (k : K3), ts[i]? = some t → ks[i]? = some k → StandH H2 t k) (h64 : ks.length < 64)
    (k : ∀ (js : List Nat) (D : Addr), SortedN lt3 false (fun i => ks.getD i (0, [], [])) (List.range ks.length) js → H2 D = none → Q' (.ref D) (upd H2 D (.lst (js.map nV)))) :
    wpAny (model X.prog X.w) X.A (call (.builtin "sorted") [.ref r] [(Str.ofString "key", .ref f)]) (EP X pins σ Q') X.xe s2 := by
  obtain ⟨t1, t2, t3, hro⟩ := I2.hok r _ hr2
  obtain ⟨hz2, its2, n2, rv2, ho2⟩ := I2.hok pl _ hpl2
  obtain ⟨u, ru, hcell⟩ := cell_at I2 hN hsc hcl hσ
  cases ru
  have hdp : X.A.in1.in1.depth < recursionLimit := by
    have := hr.dp
    show X.A.depth < _
    omega
  have hun : X.A.in1.in1.units < cLine := by
    have := hr.un
    show X.A.units + 1 + 1 < cLine
    omega
  have ekz : ((List.range ks.length).map fun i => ks.getD i ((0 : Int), ([] : List Int), ([] : List Int))) = ks := by
    refine List.ext_getElem? fun i => ?_
    rw [List.getElem?_map]
    by_cases hi : i < ks.length
    · rw [List.getElem?_range hi, List.getElem?_eq_getElem hi]
      simp [hi]
    · rw [List.getElem?_eq_none (by simpa using hi), List.getElem?_eq_none (by omega)]
      rfl
  refine sorted_key (s := s2) (κ := kind3 (tabOf H2)) (kd := tuples' true) (b := false) (kz := (List.range ks.length).map fun i => ks.getD i ((0 : Int), ([] : List Int), ([] : List Int))) (Is := fun us => Vals ((List.range ks.length).map nV) us) (f := .ref f)
    (fun {Q'} hq => col_range (A := X.A.in1) (I2.ok.hd hcalm) hro (by omega) hq) (fun us e => ?_) (by rw [List.length_map, List.length_range]; exact h64)
    (ksk_s1 _ _) (fun x => ksk_l1 _ _) (fun x => ksk_t1 _ _) (fun us e i v hv h tk kp => ?_) ⟨fun h tk kp x y a b hx hy Q' q => ?_, fun h tk keys kp hk h2 {Q'} q => ?_⟩ fun D h' tk us out cc e kp hD ho' hsb => ?_
  · have := e.length
    rw [List.length_map] at this ⊢
    exact this
  · have hi2 : i < ks.length := by
      have h1 := (List.getElem?_eq_some_iff.mp hv).1
      have h2 := e.length
      rw [List.length_map, List.length_range] at h2
      omega
    obtain ⟨u, eu, ru⟩ := e.get (i := i) (x := nV i) (by rw [List.getElem?_map, List.getElem?_range hi2]; rfl)
    rw [hv] at eu
    cases eu
    obtain ⟨t, rfl⟩ := ru
    obtain ⟨u2, eu2, ru2⟩ := rv2.get (i := i) (x := V.ref ts[i]) (by rw [List.getElem?_map, List.getElem?_eq_getElem (by omega)]; rfl)
    cases ru2
    have hcd' : h.CodeRec (.ref c') qual := by
      obtain ⟨c2, oc, vs, t, z1, z2, z3⟩ := hcd
      exact ⟨c2, oc, vs, t, z1, kp _ _ z2, z3⟩
    have hcell' : h.IsCell c (some (.ref pl)) := by
      obtain ⟨o, a1, a2⟩ := hcell
      exact ⟨o, kp _ _ a1, a2⟩
    have hl' : h.IsList pl its2.toArray := ⟨_, kp _ _ ho2, rfl, n2, rfl⟩
    refine thn (lam_call (s := { s2 with heap := h, toks := tk }) (A := X.A.in1.in1) T hdp (kp _ _ hf) hcd' (I2.nolimit.keeps kp) hcell' hl' eu2 (by omega)) fun r s' ⟨h3, tk3, e3, kp3, er⟩ => ⟨h3, tk3, e3, kp3, ks[i], ?_, ?_⟩
    · rw [ekz]
      exact List.getElem?_eq_getElem hi2
    · rw [er]
      exact tabOf_is (hst i _ _ (List.getElem?_eq_getElem (by omega)) (List.getElem?_eq_getElem hi2))
  · match x, y, hx, hy with
    | .ref xa, .ref ya, hx, hy => exact key_lt (((of_tabOf hx).at I2).kp kp) (((of_tabOf hy).at I2).kp kp) hun q
  · rw [ekz] at hk h2
    have hK : ∀ (kl : List Value) (zl : List K3), ReadAs (kind3 (tabOf H2)) kl zl → ∃ fs, PySem.W.KatTups h kl fs ∧ fs.length = kl.length ∧ ∀ v ∈ fs, ∃ n t, v = Value.int n t := by
      intro kl
      induction kl with
      | nil => intro zl _; exact ⟨[], trivial, rfl, fun v m => by cases m⟩
      | cons a r ih =>
        intro zl hz
        cases zl with
        | nil => cases hz
        | cons z zr =>
          injection hz with z1 z2
          obtain ⟨fs, f1, f2, f3⟩ := ih zr z2
          match a, z1 with
          | .ref xa, z1 =>
          obtain ⟨dd, sl, n, tk, l1, l2, o1, _, _⟩ := ((of_tabOf z1).at I2).kp kp
          refine ⟨.int z.1 tk :: fs, PySem.W.KatTups.cons o1 rfl rfl rfl f1, by rw [List.length_cons, List.length_cons, f2], fun v m => ?_⟩
          rcases List.mem_cons.mp m with e | m
          · exact ⟨_, _, e⟩
          · exact f3 v m
    obtain ⟨fs, f1, f2, f3⟩ := hK _ _ hk
    have hkl := hk.length
    rw [Array.length_toList] at hkl
    have : keys = keys.toList.toArray := by simp
    rw [this]
    refine PySem.W.kat_kind (T := .type "int") f1 (by rw [f2, Array.length_toList]; omega) (fun v m => ?_) rfl q
    obtain ⟨n, t, rfl⟩ := f3 v m
    exact .now
  · obtain ⟨js, hjs, hvo⟩ := sortedN e hsb
    have hDn : H2 D = none := I2.hok.fresh hD
    refine ⟨.ref D, upd H2 D (.lst (js.map nV)), I2.laid (t' := tk) kp hD ⟨?_, out.toList, cc, hvo, ?_⟩, rfl, k js D hjs hDn⟩
    case refine_2 => simpa using ho'
    rw [List.length_map, hjs.1.length_eq, List.length_range]
    rw [sizeLine_eq]
    omega
theorem pe_sortR (L : LamCx X cap lsc P c) (T : LamTxt cap par params lsc) (hr : Room j X.A) (hcalm : X.calm = true) (hN : X.N[ci]? = some cap) (hsc : X.env.scope.names.lookup cap = some .cell) (hg : Gl X "sorted") (hm : X.mg "sorted" = none) (ha : PE X e te)
    (hdef : defaultsOf params X.env = ([], [])) (hst : starEach [e] X.env = [(false, eval e X.env)]) :
    PE X (.Call (.Name "sorted" p) [e] [⟨some "key", .Lambda params (.Subscript (.Name cap p1) (.Name par p2) p3) lsc lp, kp⟩] pos) (tSortR X.K ci P lp (X.env.qual ++ "<lambda>") te) := by
  intro pins s σ H Q I h
  have h : te σ H (wantR X.K ci P lp (X.env.qual ++ "<lambda>") σ Q) := h
  refine wpAny_Call_Name_kw (ld_blt I hg hm boot_sorted ?_)
  refine callWith_kw ?_ (by rw [hst]; rfl) (by rw [hst]; rfl)
  refine thn (args1 ha hst I h) fun us s1 z => ?_
  obtain ⟨x, u, H1, rfl, I1, rx, q1⟩ := z
  obtain ⟨l, pl, ts, ks, rfl, hl, hσ, hpl, hlen, hsd, h64, hT, k⟩ := q1
  cases rx
  refine wpAny_evalAll_cons (wpAny_bind (lam_eval (body := .Subscript (.Name cap p1) (.Name par p2) p3) I1 L hT hdef fun f c' ctv pm s2 H2 I2 st2 T2 hf hcd => wpAny_bind (wpAny_standAt (wpAny_pure ?_))))
  refine wpAny_evalAll_nil ?_
  obtain ⟨ps, hP⟩ := hT.at
  exact call_sortR L.cell T hr hcalm hN hsc I2 hf hcd (st2 _ _ hl (ne_of hl hP (by intro z; cases z))) (st2 _ _ hpl (ne_of hpl hP (by intro z; cases z))) hσ hlen (fun i t k h1 h2 => (hsd i t k h1 h2).stay hT.at st2) h64 fun js D hjs hDn =>
    let ⟨hDn1, st3⟩ := stay_in (o := .lst (js.map nV)) st2 T2.at hDn
    k js D _ hjs st3 (tab_in T2 hDn) hDn1 upd_same
end
end Srt
end

section
set_option Elab.async false
set_option linter.all false
set_option maxRecDepth 100000
set_option maxHeartbeats 2000000
namespace Srt
open PySem PySem.Spec PyProof.Rows L2
open PySem.W (WData Codec OpenSpec Well WellAll ReadsW ReadsAllW CodeHd tabObj)

/-- what was handed in is tracked, and the tables at ts -/
def withT (H : Hp) (ts : List Addr) : Hp := fun b => if b ∈ ts then some (.tbl #[]) else H b
theorem withT_tab {H : Hp} {ts : List Addr} {b : Addr} (h : b ∈ ts) : withT H ts b = some (.tbl #[]) := by unfold withT; rw [if_pos h]
theorem withT_out {H : Hp} {ts : List Addr} {b : Addr} (h : b ∉ ts) : withT H ts b = H b := by unfold withT; rw [if_neg h]
theorem spec_callT {P : Program} {w : World} {K : PySem.W.Frag} {mg mb : Str → Option Value} {CX : CXT} {k : Nat} {fa : Addr} {fd : FuncData} {ps : List Str} {sp : Sp} {s1 : Shared} {vals : List Value} {ds : List WData} {R : PySem.W.WRecords} {cl : Str → Option Addr} {d0 : WData} {ts : List Addr}
    (KX : K.In s1.heap) (hns : s1.heap.Ns mainGlobals mg) (hb : s1.heap.Ns builtinsNs mb) (hbb : ∀ x : Str, x ≠ "__name__" → mb x = bootBuiltins x) (hlim : s1.heap.NoLimit) (hg : s1.gens = #[])
    (hts : ∀ t ∈ ts, s1.heap.get? t = some (tabObj #[]) ∧ K.lookup t = none ∧ ∃ c, CodeHd s1.heap c t)
    (hbm : ∃ bm ob, mg "__builtins__" = some (.ref bm) ∧ bm ≠ builtinsNs ∧ s1.heap.get? bm = some ob ∧ ob.cls = .type "module" ∧ ob.dict = some builtinsNs ∧ ob.data = .plain)
    (hwl : WellAll w.params s1.heap vals ds) (hpl : plWs ds = true) (hwt : ∀ d ∈ ds, d.weight ≤ 1048576) (hr : Room k callerA)
    (F : ∀ base : Heap, K.In base → base.Ns mainGlobals mg → (∀ t ∈ ts, base.BuiltinsAt mg t) → FnOk P w K mg base CX k fa fd ps sp) (hbind : ∀ (s : Shared) (us : List Value), us.length = ps.length → BindsTo s fd ⟨us, []⟩ (ps.zip us)) (hlen : ds.length = ps.length)
    (hsp : ∀ (H0 H : Hp) (xs : List V), OnlyF H0 → (∀ b o, H0 b = some o → H b = some o) → (∀ t ∈ ts, H t = some (.tbl #[])) → DwAll K H0 xs ds → sp xs H (fun v H' => Dw K H' v d0) fun _ _ _ => False)
    (hCX : ∀ H e s', CX [] H s1 (fun _ _ _ => False) e s' → False) :
    codeAny (model P w) callerA (.call (.ref fa) ⟨vals, []⟩) (fun r s' => ∃ u as, r = .ok (.ret u) ∧ ReadsW R cl s'.heap u d0 as ∧ OldK s1.heap s'.heap ∧ s'.os = s1.os ∧ AllBare s'.gens) s1 := by
  obtain ⟨A, ho, ar⟩ := area_all ds vals hwl hpl hwt
  have hO : OnlyF (argH K s1.heap A) := argH_only ar
  have hok0 : HOk P w (argH K s1.heap A) s1.heap := argH_ok ar
  have hS := dw_all KX ar ds vals hwl hpl ho
  have hV := vals_toV ho
  have hK : ∀ b u, argH K s1.heap A b = some u → K.lookup b = none := fun b u q => (argH_is ar q).1
  have isQ : ∀ {b : Addr} {o : Obj}, s1.heap.get? b = some o → (∀ vs n, o.data ≠ .seq vs n) → argH K s1.heap A b = none := fun {b o} e d => by
    cases q : argH K s1.heap A b with
    | none => rfl
    | some u =>
      obtain ⟨_, vs, _, _, ⟨e2, _⟩ | ⟨e2, _⟩⟩ := argH_is ar q
      · rw [e2] at e
        cases e
        exact absurd rfl (d _ _)
      · rw [e2] at e
        cases e
        exact absurd rfl (d _ _)
  generalize argH K s1.heap A = H0 at hO hok0 hS hK isQ
  have tN : ∀ t ∈ ts, H0 t = none := fun t m => isQ (hts t m).1 fun vs n z => by cases z
  have sm : ∀ b o, H0 b = some o → withT H0 ts b = some o := fun b o e => by
    rw [withT_out fun m => by rw [tN b m] at e; cases e]
    exact e
  have hok : HOk P w (withT H0 ts) s1.heap := fun b o e => by
    by_cases m : b ∈ ts
    · rw [withT_tab m] at e
      cases e
      exact (hts b m).1
    · rw [withT_out m] at e
      exact (hok0 b o e).stay (fun _ _ _ q => q) (fun b2 q => sm _ _ q) fun b2 xs q => sm _ _ q
  have noD : ∀ {b : Addr} {o : Obj} {es : Array DictEntry} {ep : Nat}, s1.heap.get? b = some o → o.data = .dict es ep → withT H0 ts b = none := fun {b o es ep} e d => by
    have m : b ∉ ts := fun m => by
      rw [(hts b m).1] at e
      cases e
      cases d
    rw [withT_out m]
    exact isQ e fun vs n z => by rw [d] at z; cases z
  have nK : ∀ b o, K.lookup b = some o → withT H0 ts b = none := fun b o e => by
    have m : b ∉ ts := fun m => by
      rw [(hts b m).2.1] at e
      cases e
    rw [withT_out m]
    cases q : H0 b with
    | none => rfl
    | some u =>
      rw [hK b u q] at e
      cases e
  generalize hH : withT H0 ts = H at hok noD nK sm
  have hT : ∀ t ∈ ts, H t = some (.tbl #[]) := fun t m => by rw [← hH]; exact withT_tab m
  have only : ∀ b, H b = none ∨ (∃ o u, H b = some (.frz o u)) ∨ b ∈ ts := fun b => by
    by_cases m : b ∈ ts
    · exact .inr (.inr m)
    · rcases hO b with z | ⟨o, u, z⟩
      · exact .inl (by rw [← hH, withT_out m]; exact z)
      · exact .inr (.inl ⟨o, u, sm _ _ z⟩)
  have base_of : ∀ {b : Addr} {o : Obj}, s1.heap.get? b = some o → H b = none → (hidT s1.heap H).get? b = some o := fun e n => hidT_get e n
  have nsK : ∀ {b : Addr} {m : Str → Option Value}, s1.heap.Ns b m → (hidT s1.heap H).Ns b m := fun {b m} ⟨o, es, ep, e, d, r⟩ => ⟨o, es, ep, base_of e (noD e d), d, r⟩
  have hKb : K.In (hidT s1.heap H) := fun b o e => base_of (KX b o e) (nK b o e)
  have hBA : ∀ t ∈ ts, (hidT s1.heap H).BuiltinsAt mg t := fun t m => by
    obtain ⟨bm, ob, b1, b2, b3, b4, b5, b6⟩ := hbm
    have hbt : bm ∉ ts := fun m => by
      rw [(hts bm m).1] at b3
      cases b3
      cases b6
    have hbn : H bm = none := by
      rw [← hH, withT_out hbt]
      exact isQ b3 fun vs n z => by rw [b6] at z; cases z
    refine ⟨bm, ob, b1, b2, fun z => ?_, fun z => hbt (z ▸ m), base_of b3 hbn, b4, b5, b6⟩
    obtain ⟨o, es, ep, e, hd, _⟩ := hns
    rw [z, e] at b3
    cases b3
    rw [hd] at b6
    cases b6
  have hM : Mod K mg (hidT s1.heap H) := ⟨hKb, nsK hns, ⟨mb, nsK hb, hbb⟩, let ⟨mc, h1, h2⟩ := hlim; ⟨mc, nsK h1, h2⟩⟩
  have e0 : Env0 P w K mg (hidT s1.heap H) callerA [] s1 H := ⟨rfl, hM, fun b o e => of_hidT e, Nat.le_of_eq (hidT_size _ _), trivial, fun b hb => absurd (show b ∈ ([] : List Addr) from hb) (by simp), hok, .of_eq hg⟩
  have hl : vals.length = ps.length := by rw [wellAll_len hwl]; exact hlen
  refine codeAny_mono ((F _ hKb (nsK hns) hBA).run callerA [] s1 H ⟨vals, []⟩ vals (vals.map toV) _ _ hr e0 (hbind s1 vals hl) hV (hsp H0 H _ hO sm hT hS)) fun r s' x => ?_
  cases r with
  | error e => exact (hCX H e s' x).elim
  | ok fl =>
    cases fl with
    | next => exact False.elim x
    | brk => exact False.elim x
    | cont => exact False.elim x
    | ret u =>
      obtain ⟨v, H', os, bare, un, hok', r', q⟩ := x
      have kept : ∀ b o, s1.heap.get? b = some o → b ∉ ts → s'.heap.get? b = some o := fun b o e nt => by
        rcases only b with z | ⟨ob, u3, z⟩ | z
        · exact un.keep b o e z (by intro z; exact absurd (show b ∈ ([] : List Addr) from z) (by simp)) (by simp)
        · have z2 := un.frzs b ob _ z
          obtain ⟨e1, _⟩ := hok b _ z
          obtain ⟨e2, _⟩ := hok' b _ z2
          rw [e] at e1
          cases e1
          exact e2
        · exact absurd z nt
      have KX' : K.In s'.heap := fun b o e => kept b o (KX b o e) fun m => by
        rw [(hts b m).2.1] at e
        cases e
      obtain ⟨as, hrd⟩ := Dw.reads (R := R) (cl := cl) hok' KX' d0 v u q r'
      refine ⟨u, as, rfl, hrd, ⟨fun b o e => ?_, fun b o e => ?_⟩, os, bare⟩
      · by_cases m : b ∈ ts
        · obtain ⟨more, z⟩ := un.tbls b _ (hT b m)
          have z2 : s'.heap.get? b = some (tabObj (#[] ++ more)) := hok' b _ z
          obtain ⟨e1, _, c, hc⟩ := hts b m
          rw [e1] at e
          cases e
          exact .inr (.inl ⟨(hc.tab e1).isCodeTable, rfl, #[], more, rfl, z2⟩)
        · exact .inl (kept b o e m)
      · by_cases m : b ∈ ts
        · obtain ⟨more, z⟩ := un.tbls b _ (hT b m)
          exact ⟨_, show s'.heap.get? b = some (tabObj (#[] ++ more)) from hok' b _ z⟩
        · exact ⟨o, kept b o e m⟩
theorem walk_specT {r : OpenSpec} {k : Nat} {q : Program} {loose : List Str} {XP : (Str → Option Value) → Heap → Prop} {YP : World → Heap → Prop} {d : DefRec} {K : Params → PySem.W.Frag} {CX : CXT} {ps : List Str} {sp : PySem.W.Frag → Sp} {ts : List Addr}
    (hwell : r.wellSaid = true) (hdf : d.params.defaults = []) (hlen : r.args.length = ps.length) (hr : Room k callerA)
    (hY : ∀ (w : World) (h : Heap), YP w h → (K w.params).In h) (hT : ∀ (w : World) (h : Heap), YP w h → ∀ t ∈ ts, h.get? t = some (tabObj #[]))
    (hKT : ∀ (w : World) (h : Heap), (K w.params).In h → ∀ t ∈ ts, (K w.params).lookup t = none ∧ ∃ c, CodeHd h c t)
    (F : ∀ (w : World) (mg : Str → Option Value) (fa : Addr) (h : Heap), YP w h → (K w.params).In h → h.Ns mainGlobals mg → mg d.name = some (.ref fa) →
      ∃ fd : FuncData, (∀ (s : Shared) (us : List Value), us.length = ps.length → BindsTo s fd ⟨us, []⟩ (ps.zip us)) ∧
        ∀ base : Heap, (K w.params).In base → base.Ns mainGlobals mg → (∀ t ∈ ts, base.BuiltinsAt mg t) → FnOk r.prog w (K w.params) mg base CX k fa fd ps (sp (K w.params)))
    (hsp : ∀ (K : PySem.W.Frag) (H0 H : Hp) (xs : List V) (a : Codec.denoteAll r.args), OnlyF H0 → (∀ b o, H0 b = some o → H b = some o) → (∀ t ∈ ts, H t = some (.tbl #[])) → Codec.withinAll r.args a = true → Codec.app r.args r.asked a = true → DwAll K H0 xs (Codec.encAll r.args a) →
      sp K xs H (fun v H' => Dw K H' v (r.ret.enc (Codec.app r.args r.f a))) fun _ _ _ => False)
    (hCX : ∀ (H : Hp) (s : Shared) (e : Value) (s' : Shared), CX [] H s (fun _ _ _ => False) e s' → False) :
    PySem.W.WalkOS q loose XP YP r d [] (fun f vs => PySem.call f vs) := by
  intro w s_0 s1 mg mb G Y fa o pm cd doc dV kV ho hd hcd hD hmg hg args vals as hpre hlay hrd hwl hlo
  obtain ⟨a, e1, e2⟩ := PySem.W.os_pre_some hpre
  obtain ⟨e3, hwi⟩ := Codec.encAll_of_decAll r.args args a e1
  subst e3
  have KX := hY w _ Y
  obtain ⟨fd, hb, hF⟩ := F w mg fa _ Y KX G.T.g hmg
  refine PySem.W.enter_call (codeAny_mono (spec_callT (R := []) (cl := classAt s_0.heap) (d0 := r.ret.enc (Codec.app r.args r.f a)) (ts := ts) KX G.T.g G.T.b G.T.builtins G.T.nolimit hg (fun t m => ⟨hT w _ Y t m, hKT w _ KX t m⟩) G.T.bmain hwl (pl_encAll _ _) (layable_weight hlay) hr hF hb (by rw [encAll_len]; exact hlen)
    (fun H0 H xs hO hs ht hS => hsp (K w.params) H0 H xs a hO hs ht hwi e2 hS) fun H e s' => hCX H s1 e s') fun r' s' hq => ?_)
  obtain ⟨u, as', rfl, h1, h2, h3, h4⟩ := hq
  exact ⟨.inl ⟨u, _, as', rfl, fun _ => rfl, h1, (OpenSpec.post_iff hwell hwi _ _).mpr rfl, fun z => Bool.noConfusion (show false = true from z)⟩, h2, h3, h4⟩
end Srt
end

section
set_option Elab.async false
set_option linter.all false
set_option maxRecDepth 100000
set_option maxHeartbeats 2000000
namespace Srt
open PySem PySem.Spec PyProof.Rows L2

/-! ### xs.count(x) -/
section
variable {X : Cx}
def rCount (K : PySem.W.Frag) : V → List V → Hp → VK → Prop := fun x xs H Q => ∃ (a : Addr) (ns : List Nat) (n : Nat), x = V.ref a ∧ xs = [nV n] ∧ SqL K H a (ns.map nV) ∧ Q (nV (ns.count n)) H
theorem countP_un {n : Nat} : ∀ {ns : List Nat} {us : List Value}, Vals (ns.map nV) us → us.countP (eqU (nV n)) = ns.count n
  | [], [], _ => rfl
  | [], _ :: _, h => by have := h.length; simp at this
  | _ :: _, [], h => by have := h.length; simp at this
  | m :: ns, u :: us, h => by
    cases h with
    | cons a b =>
      rw [List.countP_cons, List.count_cons, countP_un b, eqU_of a rfl]
      have e : eqV (nV m) (nV n) = (m == n) := by
        show ((m : Int) == (n : Int)) = (m == n)
        rw [Bool.eq_iff_iff, beq_iff_eq, beq_iff_eq]
        omega
      rw [e]
theorem all_flat (ns : List Nat) : (ns.map nV).all flatV = true := by
  rw [List.all_eq_true]
  intro v m
  obtain ⟨n, _, rfl⟩ := List.mem_map.mp m
  rfl
theorem mt_countL : MtR X "list.count" (rCount X.K) := by
  intro pins s σ H x xs v us Q I rx rxs h
  obtain ⟨a, ns, n, rfl, rfl, hs, q⟩ := h
  cases rx
  cases rxs with
  | cons ry rt =>
    rename_i uy ut
    cases rt
    obtain ⟨its, rv, ⟨⟨cls, dd, data, sl⟩, m, ho, hc, hdn, hd⟩, hlen⟩ := I.list hs
    simp only at hc hd
    subst hc hd
    refine call_meets PySem.F.slot_list_count ⟨_, ho, rfl⟩ PySem.F.entry_list_count (PySem.F.args_list_count_2 _ _)
      (SeqAt.list_countAt a its.toArray m dd sl uy (eqU (nV n))) ⟨ho, fun u' hu' => mem_eqAt ry rfl rv (all_flat ns) u' (by simpa using hu'), ?_⟩
    refine ⟨nV (ns.count n), H, I.tok _, ⟨s.toks, ?_⟩, q⟩
    rw [List.toList_toArray, countP_un rv]
end
/-! ### list(reversed(xs)) -/
theorem nolen_lri : typeLookup (.type "list_reverseiterator") "__len__" = pure none := by rw [typeLookup_type, builtinLookup_eq_fast]; kernel_rfl
theorem hint_lri : typeLookup (.type "list_reverseiterator") "__length_hint__" = pure (some (.builtin "list_reverseiterator.__length_hint__")) := by rw [typeLookup_type, builtinLookup_eq_fast]; kernel_rfl
section
variable {prog : Program} {w : World} {A : Around} {E : Value → Shared → Prop} {s : Shared}
theorem list_rev {Q : Value → Shared → Prop} {l it : Addr} {items : Array Value} (hh : A.handled = none) (hl : s.heap.IsList l items) (hi : s.heap.get? it = some (revObj l ((items.size : Int) - 1))) (hn : items.size ≤ sizeLine)
    (hQ : ∀ h' tk acc c, (∀ b o, b ≠ it → s.heap.get? b = some o → h'.get? b = some o) → h'.get? s.heap.objs.size = some { cls := .type "list", dict := none, data := .seq acc c, slots := #[] } → ItemsOf (fun i v => items[items.size - 1 - i]? = some v) acc items.size → Q (.ref s.heap.objs.size) { s with heap := h', toks := tk }) :
    wpAny (model prog w) A (call (.type "list") [.ref it]) Q E s := by
  have hne : l ≠ it := fun e => by
    obtain ⟨o, ho, hc, n, hd⟩ := hl
    rw [e, hi] at ho
    cases ho
    have z : Value.type "list_reverseiterator" = Value.type "list" := hc
    injection z with z
    exact absurd z (by decide)
  have hlt : it < s.heap.objs.size := Heap.lt_size hi
  have hll : l < s.heap.objs.size := by
    obtain ⟨o, ho, _⟩ := hl
    exact Heap.lt_size ho
  refine callType_codes (Q₁ := fun obj s₁ => obj = .ref s.heap.objs.size ∧ s₁ = { s with heap := s.heap.push { cls := .type "list", data := .seq #[] } }) F.called_list (F.typeCall_list_1 _) F.entry_list_init
    (code_list_new _ ⟨rfl, rfl⟩) fun obj s₁ h₁ => ?_
  obtain ⟨rfl, rfl⟩ := h₁
  have hS : (s.heap.push { cls := .type "list", data := .seq #[] }).get? s.heap.objs.size = some { cls := .type "list", data := .seq #[] } := Heap.get?_push_size _ rfl
  refine ⟨⟨_, hS, rfl⟩, F.args_list_init_2 _ _, ?_⟩
  show wpAny _ A.in1.in1 (do let old ← Builtin.List.listItems (.ref s.heap.objs.size); Builtin.List.listUpdate (.ref s.heap.objs.size) (fun _ => #[]); letGo old.toList.reverse; Builtin.List.listExtendWith (.ref s.heap.objs.size) (.ref it) .none) _ _ _
  refine wpAny_bind (listItems_at hS rfl ?_)
  refine wpAny_bind (listUpdate_at hS rfl ?_ (Nat.zero_le _) (Nat.zero_le _))
  have hS2 := get?_update_seq hS fun _ => (#[] : Array Value)
  refine wpAny_bind (wpAny_letGo ?_)
  have kp : ∀ b o, b ≠ s.heap.objs.size → s.heap.get? b = some o → ((s.heap.push { cls := .type "list", data := .seq #[] }).update s.heap.objs.size (Obj.mapSeq fun _ => (#[] : Array Value))).get? b = some o := fun b o hb e => by
    rw [Heap.get?_update_ne _ _ _ _ hb]
    exact Heap.get?_push_of_some _ e
  generalize hh2 : (s.heap.push { cls := .type "list", data := .seq #[] }).update s.heap.objs.size (Obj.mapSeq fun _ => (#[] : Array Value)) = h2 at hS2 kp ⊢
  have hl2 : h2.IsList l items := by
    obtain ⟨o, ho, r⟩ := hl
    exact ⟨o, kp _ _ (Nat.ne_of_lt hll) ho, r⟩
  have hi2 : h2.IsRevIter it l ((items.size : Int) - 1) := ⟨_, kp _ _ (Nat.ne_of_lt hlt) hi, rfl, rfl⟩
  have hsi : s.heap.objs.size ≠ it := Nat.ne_of_gt hlt
  have W := (Walks.listRev (prog := prog) (w := w) (A := A.in1.in1) hh it l hne items).toS
  have h1 : Builtin.List.listSameRef (.ref s.heap.objs.size) (.ref it) = false := by simp [Builtin.List.listSameRef, hsi]
  unfold Builtin.List.listExtendWith
  refine wpAny_bind (wpAny_typeOf (T := "list_reverseiterator") hi2.typeIs ?_)
  rw [if_neg (by rw [h1]; decide)]
  refine wpAny_bind (wpAny_pyIter_revIter hi2 ?_)
  refine wpAny_bind (wpAny_holding ?_)
  unfold Builtin.List.listLengthHint
  refine wpAny_bind (wpAny_specialOf hi2.typeIs nolen_lri ?_)
  show wpAny _ _ (specialOf (Value.ref it) (Str.ofString "__length_hint__") >>= _) _ _ _
  refine wpAny_bind (wpAny_specialOf hi2.typeIs hint_lri ?_)
  generalize hid : ("list_reverseiterator.__length_hint__" : String) = id0
  wp_delta
  rw [show splitId id0 = some ("list_reverseiterator", "__length_hint__") from by subst hid; decide +kernel]
  subst hid
  refine wpAny_bind (wpAny_isInstance (b := true) hi2.typeIs (by rw [isSubtype_type]; kernel_rfl) ?_)
  refine wpAny_pure ?_
  rw [if_neg (by decide)]
  have st0 : (0 : Nat) ≤ items.size ∧ h2.IsRevIter it l ((items.size : Int) - 1 - ((0 : Nat) : Int)) ∧ h2.IsList l items := ⟨Nat.zero_le _, by simpa using hi2, hl2⟩
  refine wpAny_pure ⟨plainId_quiet F.plain_extend_loop _, codeAny_extend_loopS W hn s.heap.objs.size ?_ _ items.size 0 _ _ _ rfl (Nat.zero_le _) st0 hS2 (ItemsOf.nil _) fun s' acc' c' hm hS' hacc => ?_⟩
  · intro m
    rcases List.mem_cons.mp m with z | z
    · exact hsi z
    · rw [List.mem_singleton.mp z] at hll
      exact absurd hll (Nat.lt_irrefl _)
  · rw [Moved.eq_with hm]
    refine ⟨rfl, hQ s'.heap s'.toks acc' c' (fun b o hb e => hm.heap b o (fun m => ?_) (kp b o (Nat.ne_of_lt (Heap.lt_size e)) e)) hS' hacc⟩
    rcases List.mem_cons.mp m with z | z
    · exact absurd (Heap.lt_size e) (by rw [z]; exact Nat.lt_irrefl _)
    · exact hb (List.mem_singleton.mp z)
end

section
variable {X : Cx} {e : Expr} {te : TE} {p p' pos pos' : Pos}
def tListRev (K : PySem.W.Frag) (te : TE) : TE := fun σ H Q => te σ H fun x H1 => ∃ (a : Addr) (xs : List V), x = .ref a ∧ SqL K H1 a xs ∧ ∀ D, H1 D = none → Q (.ref D) (upd H1 D (.lst xs.reverse))
theorem boot_list1 : bootBuiltins "list" = some (.type "list") := by decide +kernel
theorem rev_items {xs : List V} {its : List Value} {acc : Array Value} (rv : Vals xs its) (h : ItemsOf (fun i v => its.toArray[its.toArray.size - 1 - i]? = some v) acc its.toArray.size) : Vals xs.reverse acc.toList := by
  have h2 : acc.size = its.length := by
    have := h.1
    simpa using this
  have e : acc.toList = its.reverse := by
    refine List.ext_getElem? fun i => ?_
    rw [Array.getElem?_toList]
    by_cases hi : i < acc.size
    · have h1 := h.2 i acc[i] (Array.getElem?_eq_getElem hi)
      rw [List.size_toArray] at h1
      rw [Array.getElem?_eq_getElem hi, ← h1, List.getElem?_reverse (by omega)]
      simp
    · rw [Array.getElem?_eq_none (by omega), List.getElem?_eq_none (by rw [List.length_reverse]; omega)]
  rw [e]
  have key : ∀ {xs : List V} {us : List Value}, Vals xs us → Vals xs.reverse us.reverse := by
    intro xs us h
    induction h with
    | nil => exact .nil
    | cons a b ih =>
      rw [List.reverse_cons, List.reverse_cons]
      exact Vals.append ih (.cons a .nil)
  exact key rv
theorem pe_listRev (hg : Gl X "list") (hm : X.mg "list" = none) (hg2 : Gl X "reversed") (hm2 : X.mg "reversed" = none) (hcalm : X.calm = true) (ha : PE X e te) (hs : starEach [e] X.env = [(false, eval e X.env)])
    (hs2 : starEach [.Call (.Name "reversed" p') [e] [] pos'] X.env = [(false, eval (.Call (.Name "reversed" p') [e] [] pos') X.env)]) :
    PE X (.Call (.Name "list" p) [.Call (.Name "reversed" p') [e] [] pos'] [] pos) (tListRev X.K te) := by
  intro pins s σ H Q I h
  refine Call_ (ld_blt I hg hm boot_list1 (PyProof.Rows.callWith_type1 ?_ hs2 rfl))
  rw [hs2]
  refine Calls.spliced_cons ?_
  refine Call_ (ld_blt I hg2 hm2 boot_reversed5 (PyProof.Rows.callWith_type1 (thn (args1 ha hs I h) fun us s1 z => ?_) hs rfl))
  obtain ⟨x, u, H1, rfl, I1, rx, a, xs, rfl, hsq, k⟩ := z
  cases rx
  obtain ⟨its, rv, pl, hz⟩ := I1.list hsq
  refine call_reversed_list pl.isList ?_
  refine Calls.spliced_nil ?_
  have hk1 : ∀ b o, s1.heap.get? b = some o → (s1.heap.push (revObj a ((its.toArray.size : Int) - 1))).get? b = some o := fun b o e => Heap.get?_push_of_some _ e
  have hl1 : (s1.heap.push (revObj a ((its.toArray.size : Int) - 1))).IsList a its.toArray := by
    obtain ⟨o, ho, r⟩ := pl.isList
    exact ⟨o, hk1 _ _ ho, r⟩
  have hlen := rv.length
  refine list_rev (s := { s1 with heap := s1.heap.push (revObj a ((its.toArray.size : Int) - 1)) }) (I1.ok.hd hcalm) hl1 (Heap.get?_push_size _ rfl) (by rw [List.size_toArray]; omega) fun h' tk acc c hk hD hacc => ?_
  have hsz : s1.heap.objs.size ≤ (s1.heap.push (revObj a ((its.toArray.size : Int) - 1))).objs.size := by rw [size_push']; exact Nat.le_succ _
  refine ⟨.ref _, upd H1 _ (.lst xs.reverse), I1.laid (t' := tk) (fun b o e => hk b o (Nat.ne_of_lt (Heap.lt_size e)) (hk1 b o e)) hsz ⟨by rw [List.length_reverse]; omega, acc.toList, c, rev_items rv hacc, ?_⟩, rfl, k _ (I1.hok.fresh hsz)⟩
  rw [hD]
end
end Srt
end

section
set_option maxRecDepth 100000
namespace Rg

theorem whole_id (c : List (List Int)) : PyKyr.whole c = c := by
  unfold PyKyr.whole
  split <;> rfl
theorem map_whole (cs : List (List (List Int))) : cs.map PyKyr.whole = cs := by
  induction cs with
  | nil => rfl
  | cons c r ih => rw [List.map_cons, whole_id, ih]

theorem shape_zero {p : Int} {n k : Nat} (h : PyKyr.shape p = some (n, k)) : k = 0 := by
  unfold PyKyr.shape at h
  repeat (split at h; · (injection h with h; injection h with h1 h2; exact h2.symm))
  cases h

theorem calls_cons {f : Nat} {p : Int} {r : List Int} {cs : List (List (List Int))} (h : PyFlat.calls PyKyr.shape f (p :: r) = some cs) :
    ∃ (n f' : Nat) (cs' : List (List (List Int))), PyKyr.shape p = some (n, 0) ∧ n ≤ r.length ∧ cs = [p :: r.take n] :: cs' ∧ PyFlat.calls PyKyr.shape f' (r.drop n) = some cs' := by
  cases f with
  | zero => simp [PyFlat.calls] at h
  | succ f =>
    rw [PyFlat.calls] at h
    split at h
    · cases h
    · rename_i c t hc
      split at h
      · cases h
      · rename_i cs' hcs
        injection h with h
        simp only [PyFlat.call] at hc
        split at hc
        · cases hc
        · rename_i n k hs
          have hk := shape_zero hs
          subst hk
          split at hc
          · cases hc
          · rename_i hl
            simp only [PyFlat.rows] at hc
            injection hc with hc
            injection hc with h1 h2
            subst h1 h2
            exact ⟨n, f, cs', hs, by omega, h.symm, hcs⟩

/-- A call's number, its numbers, the call. -/
inductive Code : Int → List Nat → Kyr.Call → Prop
  | start (a b c : Nat) : Code 0 [a, b, c] (.start a b c)
  | boat (a : Nat) : Code 1 [a] (.boat a)
  | race : Code 2 [] .race
  | finish (a b c d : Nat) : Code 3 [a, b, c, d] (.finish a b c d)
  | note (a b c : Nat) : Code 4 [a, b, c] (.note a b c)
  | points (a b : Nat) : Code 5 [a, b] (.points a b)
  | total (a : Nat) : Code 6 [a] (.total a)
  | place (a : Nat) : Code 7 [a] (.place a)
  | order : Code 8 [] .order

def toI (l : List Nat) : List Int := l.map fun (x : Nat) => (x : Int)

theorem nat_of {z : Int} (h : KyrNeutral.natural z 32 = true) : ∃ n : Nat, z = (n : Int) ∧ n < 4294967296 := by
  unfold KyrNeutral.natural at h
  rw [Bool.and_eq_true, decide_eq_true_eq, decide_eq_true_eq] at h
  obtain ⟨h1, h2⟩ := h
  have h3 : z < 4294967296 := h2
  exact ⟨z.toNat, by omega, by omega⟩

theorem shape_cases {p : Int} {n : Nat} (h : PyKyr.shape p = some (n, 0)) : (p = 0 ∧ n = 3) ∨ (p = 1 ∧ n = 1) ∨ (p = 2 ∧ n = 0) ∨ (p = 3 ∧ n = 4) ∨ (p = 4 ∧ n = 3) ∨ (p = 5 ∧ n = 2) ∨ (p = 6 ∧ n = 1) ∨ (p = 7 ∧ n = 1) ∨ (p = 8 ∧ n = 0) := by
  unfold PyKyr.shape at h
  repeat (split at h; · (rename_i e; injection h with h; injection h with h1 h2; subst e; omega))
  cases h

theorem len0 {l : List Int} (h : l.length = 0) : l = [] := List.length_eq_zero_iff.mp h
theorem len1 {l : List Int} (h : l.length = 1) : ∃ a, l = [a] := by
  match l, h with
  | [a], _ => exact ⟨a, rfl⟩
theorem len2 {l : List Int} (h : l.length = 2) : ∃ a b, l = [a, b] := by
  match l, h with
  | [a, b], _ => exact ⟨a, b, rfl⟩
theorem len3 {l : List Int} (h : l.length = 3) : ∃ a b c, l = [a, b, c] := by
  match l, h with
  | [a, b, c], _ => exact ⟨a, b, c, rfl⟩
theorem len4 {l : List Int} (h : l.length = 4) : ∃ a b c d, l = [a, b, c, d] := by
  match l, h with
  | [a, b, c, d], _ => exact ⟨a, b, c, d, rfl⟩

/-- what one call is -/
theorem code_of {p : Int} {l : List Int} {n : Nat} (hs : PyKyr.shape p = some (n, 0)) (hl : l.length = n) (ha : KyrNeutral.asked1 [p :: l] = true) :
    ∃ (gs : List Nat) (c : Kyr.Call), Code p gs c ∧ l = toI gs ∧ (∀ g ∈ gs, g < 4294967296) ∧ KyrNeutral.callOf [p :: l] = some c := by
  rcases shape_cases hs with ⟨rfl, rfl⟩ | ⟨rfl, rfl⟩ | ⟨rfl, rfl⟩ | ⟨rfl, rfl⟩ | ⟨rfl, rfl⟩ | ⟨rfl, rfl⟩ | ⟨rfl, rfl⟩ | ⟨rfl, rfl⟩ | ⟨rfl, rfl⟩
  · obtain ⟨a, b, c, rfl⟩ := len3 hl
    simp only [KyrNeutral.asked1, Bool.and_eq_true] at ha
    obtain ⟨x, rfl, hx⟩ := nat_of ha.1
    obtain ⟨y, rfl, hy⟩ := nat_of ha.2.1
    obtain ⟨z, rfl, hz⟩ := nat_of ha.2.2
    exact ⟨_, _, .start x y z, rfl, by simp [hx, hy, hz], rfl⟩
  · obtain ⟨a, rfl⟩ := len1 hl
    obtain ⟨x, rfl, hx⟩ := nat_of ha
    exact ⟨_, _, .boat x, rfl, by simp [hx], rfl⟩
  · have e := len0 hl
    subst e
    exact ⟨_, _, .race, rfl, by simp, rfl⟩
  · obtain ⟨a, b, c, d, rfl⟩ := len4 hl
    simp only [KyrNeutral.asked1, Bool.and_eq_true] at ha
    obtain ⟨x, rfl, hx⟩ := nat_of ha.1
    obtain ⟨y, rfl, hy⟩ := nat_of ha.2.1
    obtain ⟨z, rfl, hz⟩ := nat_of ha.2.2.1
    obtain ⟨u, rfl, hu⟩ := nat_of ha.2.2.2
    exact ⟨_, _, .finish x y z u, rfl, by simp [hx, hy, hz, hu], rfl⟩
  · obtain ⟨a, b, c, rfl⟩ := len3 hl
    simp only [KyrNeutral.asked1, Bool.and_eq_true] at ha
    obtain ⟨x, rfl, hx⟩ := nat_of ha.1
    obtain ⟨y, rfl, hy⟩ := nat_of ha.2.1
    obtain ⟨z, rfl, hz⟩ := nat_of ha.2.2
    exact ⟨_, _, .note x y z, rfl, by simp [hx, hy, hz], rfl⟩
  · obtain ⟨a, b, rfl⟩ := len2 hl
    simp only [KyrNeutral.asked1, Bool.and_eq_true] at ha
    obtain ⟨x, rfl, hx⟩ := nat_of ha.1
    obtain ⟨y, rfl, hy⟩ := nat_of ha.2
    exact ⟨_, _, .points x y, rfl, by simp [hx, hy], rfl⟩
  · obtain ⟨a, rfl⟩ := len1 hl
    obtain ⟨x, rfl, hx⟩ := nat_of ha
    exact ⟨_, _, .total x, rfl, by simp [hx], rfl⟩
  · obtain ⟨a, rfl⟩ := len1 hl
    obtain ⟨x, rfl, hx⟩ := nat_of ha
    exact ⟨_, _, .place x, rfl, by simp [hx], rfl⟩
  · have e := len0 hl
    subst e
    exact ⟨_, _, .order, rfl, by simp, rfl⟩

/-- what an answer is, as numbers -/
def said (a : Kyr.Ans) : List Int := a.value :: toI a.out

/-- the loop over the calls: the place, the specification's state, what has been answered -/
structure Run (ns : List Int) (pos : Nat) (s : Option Kyr.Regatta) (out : List Int) : Prop where
  le : pos ≤ ns.length
  ex : ∃ (f : Nat) (cs : List (List (List Int))), PyFlat.calls PyKyr.shape f (ns.drop pos) = some cs ∧ KyrNeutral.may s cs = true ∧ cs.all KyrNeutral.asked1 = true ∧
    PyKyr.answers ns = out ++ PyFlat.told (PyFlat.played KyrNeutral.step s cs)

theorem Run.start {ns : List Int} (h : PyKyr.answers_asked ns = true) : Run ns 0 none [] := by
  unfold PyKyr.answers_asked at h
  split at h
  · cases h
  · rename_i cs hcs
    have hc := hcs
    unfold PyKyr.calls at hcs
    split at hcs
    · cases hcs
    · rename_i cs' e
      injection hcs with hcs
      rw [map_whole] at hcs
      subst hcs
      rw [Bool.and_eq_true] at h
      have h2 := h.2
      unfold KyrNeutral.asked at h2
      rw [Bool.and_eq_true, Bool.and_eq_true] at h2
      refine ⟨Nat.zero_le _, _, cs', e, h2.2, h2.1.2, ?_⟩
      unfold PyKyr.answers
      rw [hc]
      rfl

theorem Run.done {ns : List Int} {pos : Nat} {s : Option Kyr.Regatta} {out : List Int} (R : Run ns pos s out) (h : ns.length ≤ pos) : out = PyKyr.answers ns := by
  obtain ⟨f, cs, h1, _, _, h4⟩ := R.ex
  rw [List.drop_eq_nil_of_le h] at h1
  have e : cs = [] := by
    cases f <;> (simp only [PyFlat.calls] at h1; injection h1 with h1; exact h1.symm)
  subst e
  rw [h4]
  simp [PyFlat.played, PyFlat.told]

theorem step_some {s t : Option Kyr.Regatta} {k : List (List Int)} {c : Kyr.Call} {a : Kyr.Ans} (hc : KyrNeutral.callOf k = some c) (h : Kyr.acts s c = some (t, a)) : KyrNeutral.step s k = (t, said a) := by
  unfold KyrNeutral.step
  rw [hc]
  simp only [Option.bind_some, h]
  rfl

theorem Run.turn {ns : List Int} {pos : Nat} {s : Option Kyr.Regatta} {out : List Int} (R : Run ns pos s out) {p : Int} (hp : ns[pos]? = some p) :
    ∃ (gs : List Nat) (c : Kyr.Call) (t : Option Kyr.Regatta) (a : Kyr.Ans), Code p gs c ∧ (ns.drop (pos + 1)).take gs.length = toI gs ∧ (∀ g ∈ gs, g < 4294967296) ∧ pos + 1 + gs.length ≤ ns.length ∧
      Kyr.acts s c = some (t, a) ∧ Run ns (pos + 1 + gs.length) t (out ++ ((said a).length : Int) :: said a) := by
  obtain ⟨hlt, ep⟩ := List.getElem?_eq_some_iff.mp hp
  obtain ⟨f, cs, h1, h2, h3, h4⟩ := R.ex
  rw [List.drop_eq_getElem_cons hlt, ep] at h1
  obtain ⟨n, f', cs', hs, hn, rfl, h5⟩ := calls_cons h1
  rw [List.length_drop] at hn
  rw [List.all_cons, Bool.and_eq_true] at h3
  have hl : ((ns.drop (pos + 1)).take n).length = n := by
    rw [List.length_take, List.length_drop]
    omega
  obtain ⟨gs, c, hC, hg, hb, hco⟩ := code_of hs hl h3.1
  have en : gs.length = n := by
    rw [← hl, hg, toI, List.length_map]
  rw [KyrNeutral.may, Bool.and_eq_true] at h2
  cases ha : Kyr.acts s c with
  | none =>
    have q : KyrNeutral.step s [p :: (ns.drop (pos + 1)).take n] = (s, []) := by
      unfold KyrNeutral.step
      rw [hco]
      simp only [Option.bind_some, ha]
    rw [q] at h2
    simp at h2
  | some ta =>
    obtain ⟨t, a⟩ := ta
    have q := step_some hco ha
    rw [q] at h2
    refine ⟨gs, c, t, a, hC, by rw [en]; exact hg, hb, by omega, ha, by omega, f', cs', ?_, h2.2, h3.2, ?_⟩
    · rw [en, ← List.drop_drop]
      exact h5
    · rw [h4, PyFlat.played, q]
      simp only [PyFlat.told, List.flatMap_cons, List.append_assoc, List.cons_append]

end Rg
end

section
set_option maxRecDepth 100000
namespace Rg
open Kyr (Regatta Told told nothing boats)

structure Wf (g : Regatta) : Prop where
  marks : ∃ a b c : Nat, g.marks = [a, b, c] ∧ Kyr.okMarks 0 [a, b, c] = true
  boats : g.ratings.length ≤ 32
  rat : ∀ q ∈ g.ratings, 500 ≤ q ∧ q ≤ 2000
  races : g.races.length ≤ 20
  rows : ∀ l ∈ g.races, l.length = g.ratings.length
  secs : ∀ r b, (told g r b).seconds ≤ 1000000
  kind : ∀ r b, (told g r b).kind ≤ 7
  fined : ∀ r b, (told g r b).fined ≤ 1

theorem getD_none {α : Type} {l : List α} {i : Nat} {d : α} (h : l.length ≤ i) : l.getD i d = d := by
  rw [List.getD_eq_getElem?_getD, List.getElem?_eq_none h]
  rfl
theorem getD_some {α : Type} {l : List α} {i : Nat} {d : α} (h : i < l.length) : l.getD i d = l[i] := by
  rw [List.getD_eq_getElem?_getD, List.getElem?_eq_getElem h]
  rfl
theorem getD_snoc {α : Type} (l : List α) (d : α) (i : Nat) : (l ++ [d]).getD i d = l.getD i d := by
  rw [List.getD_eq_getElem?_getD, List.getD_eq_getElem?_getD]
  by_cases h : i < l.length
  · rw [List.getElem?_append_left h]
  · rw [List.getElem?_append_right (by omega), List.getElem?_eq_none (by omega : l.length ≤ i)]
    by_cases h2 : i - l.length = 0
    · rw [h2]
      rfl
    · rw [List.getElem?_eq_none (by simp; omega)]

theorem told_out_race {g : Regatta} {r b : Nat} (h : g.races.length ≤ r) : told g r b = nothing := by
  unfold told
  rw [getD_none h]
  rfl
theorem told_out_boat {g : Regatta} (W : Wf g) {r b : Nat} (h : boats g ≤ b) : told g r b = nothing := by
  by_cases hr : r < g.races.length
  · unfold told
    rw [getD_some hr, getD_none]
    rw [W.rows _ (List.getElem_mem hr)]
    exact h
  · exact told_out_race (by omega)

theorem told_begun (l : List Nat) (r b : Nat) : told (Kyr.begun l) r b = nothing := told_out_race (Nat.zero_le _)

def moreBoat (g : Regatta) (q : Nat) : Regatta := { g with ratings := g.ratings ++ [q], races := g.races.map fun l => l ++ [nothing] }
def moreRace (g : Regatta) : Regatta := { g with races := g.races ++ [List.replicate (boats g) nothing] }

theorem told_boat (g : Regatta) (q r b : Nat) : told (moreBoat g q) r b = told g r b := by
  show ((g.races.map fun l => l ++ [nothing]).getD r []).getD b nothing = (g.races.getD r []).getD b nothing
  by_cases hr : r < g.races.length
  · rw [getD_some (l := g.races.map _) (by simpa using hr), getD_some (l := g.races) hr, List.getElem_map, getD_snoc]
  · rw [getD_none (l := g.races.map _) (by simpa using hr), getD_none (l := g.races) (by omega)]
theorem told_race (g : Regatta) (r b : Nat) : told (moreRace g) r b = told g r b := by
  show ((g.races ++ [List.replicate (boats g) nothing]).getD r []).getD b nothing = (g.races.getD r []).getD b nothing
  by_cases hr : r < g.races.length
  · rw [List.getD_eq_getElem?_getD (l := g.races ++ _), List.getElem?_append_left hr, ← List.getD_eq_getElem?_getD]
  · rw [getD_none (l := g.races) (by omega), List.getD_eq_getElem?_getD (l := g.races ++ _), List.getElem?_append_right (by omega)]
    by_cases h2 : r - g.races.length = 0
    · rw [h2]
      show (List.replicate (boats g) nothing).getD b nothing = nothing
      rw [List.getD_eq_getElem?_getD, List.getElem?_replicate]
      split <;> rfl
    · rw [List.getElem?_eq_none (by simp; omega)]
      rfl
theorem told_put {g : Regatta} (W : Wf g) {r b : Nat} (hr : r < g.races.length) (hb : b < boats g) (t : Told) (r' b' : Nat) :
    told (Kyr.put g r b t) r' b' = if r' = r ∧ b' = b then t else told g r' b' := by
  unfold told Kyr.put
  show (((g.races.set r ((g.races.getD r []).set b t))).getD r' []).getD b' nothing = _
  by_cases e : r' = r
  · subst e
    rw [List.getD_eq_getElem?_getD (l := List.set _ _ _), List.getElem?_set_self hr]
    show ((g.races.getD r' []).set b t).getD b' nothing = _
    have hl : (g.races.getD r' []).length = boats g := by
      rw [getD_some hr]
      exact W.rows _ (List.getElem_mem hr)
    by_cases e2 : b' = b
    · subst e2
      rw [if_pos ⟨rfl, rfl⟩, List.getD_eq_getElem?_getD, List.getElem?_set_self (by rw [hl]; exact hb)]
      rfl
    · rw [if_neg (fun z => e2 z.2), List.getD_eq_getElem?_getD, List.getElem?_set_ne (Ne.symm e2), ← List.getD_eq_getElem?_getD]
  · rw [if_neg (fun z => e z.1), List.getD_eq_getElem?_getD (l := List.set _ _ _), List.getElem?_set_ne (Ne.symm e), ← List.getD_eq_getElem?_getD]

theorem wf_begun {a b c : Nat} (h : Kyr.okMarks 0 [a, b, c] = true) : Wf (Kyr.begun [a, b, c]) where
  marks := ⟨a, b, c, rfl, h⟩
  boats := Nat.zero_le _
  rat := fun q hq => by cases hq
  races := Nat.zero_le _
  rows := fun l hl => by cases hl
  secs := fun r b => by rw [told_begun]; exact Nat.zero_le _
  kind := fun r b => by rw [told_begun]; exact Nat.zero_le _
  fined := fun r b => by rw [told_begun]; exact Nat.zero_le _
theorem Wf.boat {g : Regatta} (W : Wf g) {q : Nat} (h1 : 500 ≤ q) (h2 : q ≤ 2000) (h3 : g.ratings.length < 32) : Wf (moreBoat g q) where
  marks := W.marks
  boats := by
    show (g.ratings ++ [q]).length ≤ 32
    rw [List.length_append]
    show g.ratings.length + 1 ≤ 32
    omega
  rat := fun x hx => by
    have hx : x ∈ g.ratings ++ [q] := hx
    rcases List.mem_append.mp hx with m | m
    · exact W.rat x m
    · rw [List.mem_singleton.mp m]
      exact ⟨h1, h2⟩
  races := by
    show (g.races.map _).length ≤ 20
    rw [List.length_map]
    exact W.races
  rows := fun l hl => by
    have hl : l ∈ g.races.map fun l => l ++ [nothing] := hl
    obtain ⟨x, hx, rfl⟩ := List.mem_map.mp hl
    show (x ++ [nothing]).length = (g.ratings ++ [q]).length
    rw [List.length_append, List.length_append, W.rows x hx]
    rfl
  secs := fun r b => by rw [told_boat]; exact W.secs r b
  kind := fun r b => by rw [told_boat]; exact W.kind r b
  fined := fun r b => by rw [told_boat]; exact W.fined r b
theorem Wf.race {g : Regatta} (W : Wf g) (h3 : g.races.length < 20) : Wf (moreRace g) where
  marks := W.marks
  boats := W.boats
  rat := W.rat
  races := by
    show (g.races ++ [_]).length ≤ 20
    rw [List.length_append]
    show g.races.length + 1 ≤ 20
    omega
  rows := fun l hl => by
    have hl : l ∈ g.races ++ [List.replicate (Kyr.boats g) nothing] := hl
    rcases List.mem_append.mp hl with m | m
    · exact W.rows l m
    · rw [List.mem_singleton.mp m, List.length_replicate]
      rfl
  secs := fun r b => by rw [told_race]; exact W.secs r b
  kind := fun r b => by rw [told_race]; exact W.kind r b
  fined := fun r b => by rw [told_race]; exact W.fined r b
theorem Wf.put {g : Regatta} (W : Wf g) {r b : Nat} (hr : r < g.races.length) (hb : b < Kyr.boats g) {t : Told} (h1 : t.seconds ≤ 1000000) (h2 : t.kind ≤ 7) (h3 : t.fined ≤ 1) : Wf (Kyr.put g r b t) where
  marks := W.marks
  boats := W.boats
  rat := W.rat
  races := by
    show (g.races.set _ _).length ≤ 20
    rw [List.length_set]
    exact W.races
  rows := fun l hl => by
    have hl : l ∈ g.races.set r ((g.races.getD r []).set b t) := hl
    show l.length = g.ratings.length
    rcases List.mem_or_eq_of_mem_set hl with m | m
    · exact W.rows l m
    · rw [m, List.length_set, getD_some hr]
      exact W.rows _ (List.getElem_mem hr)
  secs := fun r' b' => by
    rw [told_put W hr hb]
    split
    · exact h1
    · exact W.secs r' b'
  kind := fun r' b' => by
    rw [told_put W hr hb]
    split
    · exact h2
    · exact W.kind r' b'
  fined := fun r' b' => by
    rw [told_put W hr hb]
    split
    · exact h3
    · exact W.fined r' b'
theorem races_put (g : Regatta) (r b : Nat) (t : Told) : (Kyr.put g r b t).races.length = g.races.length := by
  show (g.races.set _ _).length = _
  rw [List.length_set]
theorem boats_put (g : Regatta) (r b : Nat) (t : Told) : boats (Kyr.put g r b t) = boats g := rfl

/-- the object as it is ahead of the first start -/
def gOf (s : Option Regatta) : Regatta := s.getD (Kyr.begun [0, 0, 0])
theorem wf_none : Wf (gOf none) := wf_begun (by decide)
end Rg
end

section
set_option Elab.async false
set_option linter.all false
set_option maxRecDepth 100000
set_option maxHeartbeats 2000000
namespace Rg
open PySem PySem.Spec PyProof.Rows L2
open Kyr (Regatta Told told nothing boats)

/-! ### the text by places -/
def top (i : Nat) : Stmt := PySem.Challenge.pw_regattapoints_s01_answers.main.body.getD i (.Pass ⟨0, 0, 0, 0⟩)

/-! ### a def of the text, what it promises -/
section
variable (P : Program) (w : World) (K : PySem.W.Frag) (mg : Str → Option Value) (base : Heap)
/-- a def at the top: where it lies, how it binds -/
def DefG (x : Str) (st : Stmt) (ps : List Str) (f : Addr) (fd : FuncData) : Prop := Fun K x x st f fd ∧ Binds K fd ps [] ∧ mg x = some (.ref f)
/-- a method -/
def DefM (C : Addr) (x qual : Str) (st : Stmt) (ps : List Str) (f : Addr) (fd : FuncData) : Prop := Fun K x qual st f fd ∧ Binds K fd ps [] ∧ Meth K C x f
/-- a def at the top that keeps its promise -/
structure GOk (k : Nat) (x : Str) (ps : List Str) (sp : Sp) : Prop where
  ex : ∃ f fd, FnOk P w K mg base CX0 k f fd ps sp ∧ Binds K fd ps [] ∧ mg x = some (.ref f) ∧ PySem.W.keepIn K (.ref f) = true
/-- a method that keeps its promise -/
structure MOk (C : Addr) (k : Nat) (x : Str) (ps : List Str) (sp : Sp) : Prop where
  ex : ∃ f fd, FnOk P w K mg base CX0 k f fd ps sp ∧ Binds K fd ps [] ∧ Meth K C x f
end
theorem GOk.mono {P : Program} {w : World} {K : PySem.W.Frag} {mg : Str → Option Value} {base : Heap} {j k : Nat} {x : Str} {ps : List Str} {sp : Sp} (G : GOk P w K mg base j x ps sp) (h : j ≤ k) : GOk P w K mg base k x ps sp := by
  obtain ⟨f, fd, F, r⟩ := G.ex
  exact ⟨f, fd, F.mono h, r⟩
theorem MOk.mono {P : Program} {w : World} {K : PySem.W.Frag} {mg : Str → Option Value} {base : Heap} {C : Addr} {j k : Nat} {x : Str} {ps : List Str} {sp : Sp} (G : MOk P w K mg base C j x ps sp) (h : j ≤ k) : MOk P w K mg base C k x ps sp := by
  obtain ⟨f, fd, F, r⟩ := G.ex
  exact ⟨f, fd, F.mono h, r⟩
section
variable {X : Cx} {k j : Nat} {C : Addr} {ps : List Str} {sp : Sp} {x m : Str} {p pos apos : Pos} {e o : Expr} {es : List Expr} {ta : TE} {t : TA}
theorem pe_g (G : GOk X.prog X.w X.K X.mg X.base k x ps sp) (hr : Room j X.A) (hkj : k ≤ j) (hg : Gl X x) (ha : PA X (e :: es) t) (hdb : (x == ("__debug__" : Str)) = false := by decide)
    (he : starEach (e :: es) X.env = (false, eval e X.env) :: starEach es X.env := by rfl) (hpl : (backTo pos (starEach es X.env)).any (·.1) = false := by rfl) :
    PE X (.Call (.Name x p) (e :: es) [] pos) (tCall sp [] E0 t) := by
  obtain ⟨f, fd, F, b, hm, hk⟩ := G.ex
  exact pe_call F (hr.mono hkj) hg hm hk b .nil pass0 ha hdb he hpl
theorem pe_m {pl : Sem Bool} (G : MOk X.prog X.w X.K X.mg X.base C k m ps sp) (c : Cls X.K C) (hr : Room j X.A) (hkj : k ≤ j) (ho : PE X o ta) (ha : PA X (e :: es) t)
    (hst : starEach (e :: es) X.env = (false, eval e X.env) :: starEach es X.env := by rfl) (hpl : (backTo pos (starEach es X.env)).any (·.1) = false := by rfl)
    (ht : eval (.Call (.Attribute o m apos) (e :: es) [] pos) X.env = (do
      let ov ← eval o X.env
      standAt apos.atName
      let (f, first) ← holding [ov] (getMethod ov m pl)
      callWith pos f first (backTo pos (starEach (e :: es) X.env)) (backToKw pos (keywordEach [] X.env))) := by rfl) :
    PE X (.Call (.Attribute o m apos) (e :: es) [] pos) (tMeth C m sp [] E0 ta t) := by
  obtain ⟨f, fd, F, b, hm⟩ := G.ex
  exact pe_meth ho c hm F (hr.mono hkj) b .nil pass0 ha hst hpl ht
theorem pe_m0 {pl : Sem Bool} (G : MOk X.prog X.w X.K X.mg X.base C k m ps sp) (c : Cls X.K C) (hr : Room j X.A) (hkj : k ≤ j) (ho : PE X o ta)
    (ht : eval (.Call (.Attribute o m apos) [] [] pos) X.env = (do
      let ov ← eval o X.env
      standAt apos.atName
      let (f, first) ← holding [ov] (getMethod ov m pl)
      callWith pos f first (backTo pos (starEach [] X.env)) (backToKw pos (keywordEach [] X.env))) := by rfl) :
    PE X (.Call (.Attribute o m apos) [] [] pos) (tMeth C m sp [] E0 ta tNil) := by
  obtain ⟨f, fd, F, b, hm⟩ := G.ex
  exact pe_meth0 ho c hm F (hr.mono hkj) b .nil pass0 ht
/-- a whole number of the file's top -/
theorem pe_gI {i : Int} (h : ∃ t, X.mg x = some (.int i t)) (hg : Gl X x := by rfl) (hd : (x == ("__debug__" : Str)) = false := by decide) : PE X (.Name x pos) (tC (.int i)) := by
  obtain ⟨t, h⟩ := h
  exact pe_glob hg h ⟨t, rfl⟩ hd
/-- a tuple, a list of the file's top -/
theorem pe_gR {a : Addr} (h : X.mg x = some (.ref a)) (hg : Gl X x := by rfl) (hd : (x == ("__debug__" : Str)) = false := by decide) : PE X (.Name x pos) (tC (.ref a)) := pe_glob hg h rfl hd
end
/-! ### numbers, heaps -/
abbrev nI (n : Nat) : V := Srt.nV n
theorem nI_inj {a b : Nat} (h : nI a = nI b) : a = b := by
  injection h with h
  omega
/-- all that was tracked is as it was, but what lies at bs -/
def Keep (H H' : Hp) (bs : List Addr) : Prop := ∀ b o, H b = some o → b ∉ bs → H' b = some o
theorem Keep.of {H H' : Hp} (s : Same H H') (bs : List Addr) : Keep H H' bs := fun b o e _ => s b o e
theorem Keep.trans {H H1 H2 : Hp} {bs : List Addr} (a : Keep H H1 bs) (b : Keep H1 H2 bs) : Keep H H2 bs := fun c o h n => b c o (a c o h n) n
theorem Keep.same {H H1 : Hp} (a : Keep H H1 []) : Same H H1 := fun c o h => a c o h (by simp)
theorem same_upd {H : Hp} {p : Addr} {o : HO} (h : H p = none) : Same H (upd H p o) := fun b u e => by
  rw [upd_ne (ne_of_none e h)]
  exact e
theorem Same.sqT {K : PySem.W.Frag} {H H' : Hp} {a : Addr} {xs : List V} (e : Same H H') (h : SqT K H a xs) : SqT K H' a xs := by
  rcases h with (h | ⟨o, h⟩) | h
  · exact .inl (.inl (e _ _ h))
  · exact .inl (.inr ⟨o, e _ _ h⟩)
  · exact .inr h
/-! ### attributes -/
theorem lk_hd {f : Str} {v : V} {r : List (Str × V)} : List.lookup f ((f, v) :: r) = some v := by
  simp only [List.lookup, beq_self_eq_true]
theorem lk_tl {f g : Str} {v : V} {r : List (Str × V)} (h : ¬ f = g) : List.lookup f ((g, v) :: r) = List.lookup f r := by
  have hb : (f == g) = false := beq_eq_false_iff_ne.mpr h
  simp only [List.lookup, hb]
theorem pf_hd {f : Str} {v x : V} {r : List (Str × V)} : putF f v ((f, x) :: r) = (f, v) :: r := by
  show (if f = f then _ else _) = _
  rw [if_pos rfl]
theorem pf_tl {f g : Str} {v x : V} {r : List (Str × V)} (h : ¬ g = f) : putF f v ((g, x) :: r) = (g, x) :: putF f v r := by
  show (if g = f then _ else _) = _
  rw [if_neg h]
def flds (la lr lc : Addr) : List (Str × V) := [("limits", .ref la), ("ratings", .ref lr), ("races", .ref lc)]
section
variable (la lr lc : Addr)
theorem fl_limits : (flds la lr lc).lookup ("limits" : Str) = some (.ref la) := lk_hd
theorem fl_ratings : (flds la lr lc).lookup ("ratings" : Str) = some (.ref lr) := by
  unfold flds
  rw [lk_tl (by decide +kernel), lk_hd]
theorem fl_races : (flds la lr lc).lookup ("races" : Str) = some (.ref lc) := by
  unfold flds
  rw [lk_tl (by decide +kernel), lk_tl (by decide +kernel), lk_hd]
theorem fl_no {m : Str} (h : (["limits", "ratings", "races"] : List Str).contains m = false) : (flds la lr lc).lookup m = none := by
  have h' : ¬ m ∈ (["limits", "ratings", "races"] : List Str) := by
    intro z
    rw [List.contains_iff_mem.mpr z] at h
    cases h
  unfold flds
  rw [lk_tl fun e => h' (by rw [e]; simp), lk_tl fun e => h' (by rw [e]; simp), lk_tl fun e => h' (by rw [e]; simp)]
  rfl
theorem fl_len : (flds la lr lc).length < 1000 := by
  show 3 < 1000
  decide
theorem put_limits (x : Addr) : putF "limits" (.ref x) (flds la lr lc) = flds x lr lc := pf_hd
theorem put_ratings (x : Addr) : putF "ratings" (.ref x) (flds la lr lc) = flds la x lc := by
  unfold flds
  rw [pf_tl (by decide +kernel), pf_hd]
theorem put_races (x : Addr) : putF "races" (.ref x) (flds la lr lc) = flds la lr x := by
  unfold flds
  rw [pf_tl (by decide +kernel), pf_tl (by decide +kernel), pf_hd]
theorem put_all : putF "races" (.ref lc) (putF "ratings" (.ref lr) (putF "limits" (.ref la) [])) = flds la lr lc := by
  unfold flds
  show putF "races" (.ref lc) (putF "ratings" (.ref lr) [("limits", .ref la)]) = _
  rw [pf_tl (by decide +kernel)]
  show putF "races" (.ref lc) [("limits", .ref la), ("ratings", .ref lr)] = _
  rw [pf_tl (by decide +kernel), pf_tl (by decide +kernel)]
  rfl
end
/-! ### the object -/
/-- what is told of a boat in a race: its kind, its time corrected, fined or not -/
def toldV (g : Regatta) (r b : Nat) : List V := [nI (told g r b).kind, nI (Kyr.corrected g r b), nI (told g r b).fined]
def kvOf (bs : List Nat) (q : Nat → Addr) : List (Key × V) := bs.map fun (b : Nat) => ((Sum.inl (b : Int) : Key), V.ref (q b))
/-- the dict of race r, its boats in the order in which they came -/
def DictOk (H : Hp) (g : Regatta) (r : Nat) (d : Addr) : Prop := ∃ (bs : List Nat) (q : Nat → Addr), H d = some (.dK (kvOf bs q)) ∧ bs.Nodup ∧ (∀ b ∈ bs, b < boats g ∧ H (q b) = some (.tup (toldV g r b))) ∧ ∀ b, b ∉ bs → told g r b = nothing
/-- the two tables of code: of left_out, of order -/
def tabL : Addr := 177
def tabO : Addr := 131
def lpL : Pos := ⟨160, 39, 160, 64⟩
def lpO : Pos := ⟨124, 50, 124, 78⟩
def quL : Str := (("Regatta.left_out" : Str) ++ ".<locals>.") ++ "<lambda>"
def quO : Str := (("Regatta.order" : Str) ++ ".<locals>.") ++ "<lambda>"
def Tabs (H : Hp) : Prop := Srt.TabOk H tabL lpL quL ∧ Srt.TabOk H tabO lpO quO
/-- a Regatta stands at p, its ratings at lr, its races at lc, their dicts at ds -/
structure Reg (C : Addr) (H : Hp) (p lr lc : Addr) (ds : List Addr) (g : Regatta) : Prop where
  ob : ∃ dx la a b c, H p = some (.ins C dx (flds la lr lc)) ∧ g.marks = [a, b, c] ∧ H la = some (.tup [nI a, nI b, nI c])
  rat : H lr = some (.lst (g.ratings.map nI))
  rcs : H lc = some (.lst (ds.map V.ref))
  sep : lr ≠ lc
  len : ds.length = g.races.length
  nd : ds.Nodup
  dic : ∀ r d, ds[r]? = some d → DictOk H g r d
  wf : Wf g
  tabs : Tabs H
/-- all that was tracked is as it was, but tables of code -/
def notT : HO → Bool
  | .tbl _ => false
  | _ => true
structure Stay (H H' : Hp) : Prop where
  «at» : ∀ b o, H b = some o → notT o = true → H' b = some o
  dom : ∀ b, H' b = none → H b = none
theorem Stay.of {H H' : Hp} (s : Same H H') : Stay H H' := ⟨fun b o e _ => s b o e, fun b e => L2.Same.free s e⟩
theorem Stay.trans {H H1 H2 : Hp} (a : Stay H H1) (b : Stay H1 H2) : Stay H H2 := ⟨fun c o h n => b.at c o (a.at c o h n) n, fun c e => a.dom c (b.dom c e)⟩
theorem Stay.refl (H : Hp) : Stay H H := ⟨fun _ _ h _ => h, fun _ e => e⟩
theorem Stay.ofB {P : Addr} {H H' : Hp} {ps : Array Value} (hP : H P = some (.tbl ps)) (hP' : ∃ ps', H' P = some (.tbl ps')) (s : Srt.StayB P H H') : Stay H H' := by
  refine ⟨fun b o e n => s b o e fun z => ?_, fun b e => ?_⟩
  · rw [z, hP] at e
    cases e
    cases n
  · cases q : H b with
    | none => rfl
    | some o =>
      by_cases z : b = P
      · subst z
        obtain ⟨ps', hP'⟩ := hP'
        rw [hP'] at e
        cases e
      · rw [s b o q z] at e
        cases e
theorem Stay.sqT {K : PySem.W.Frag} {H H' : Hp} {a : Addr} {xs : List V} (e : Stay H H') (h : SqT K H a xs) : SqT K H' a xs := by
  rcases h with (h | ⟨o, h⟩) | h
  · exact .inl (.inl (e.at _ _ h rfl))
  · exact .inl (.inr ⟨o, e.at _ _ h rfl⟩)
  · exact .inr h
theorem Stay.seq {K : PySem.W.Frag} {H H' : Hp} {a : Addr} {xs : List V} (e : Stay H H') (h : SqL K H a xs) : SqL K H' a xs := by
  rcases h with (h | ⟨o, h⟩) | h
  · exact .inl (.inl (e.at _ _ h rfl))
  · exact .inl (.inr ⟨o, e.at _ _ h rfl⟩)
  · exact .inr h
theorem tab_same {H H' : Hp} {P : Addr} {lp : Pos} {q : Str} (s : Same H H') (T : Srt.TabOk H P lp q) : Srt.TabOk H' P lp q := by
  rcases T with T | ⟨c, T, Tc⟩
  · exact .inl (s _ _ T)
  · exact .inr ⟨c, s _ _ T, s _ _ Tc⟩
theorem Tabs.same {H H' : Hp} (T : Tabs H) (s : Same H H') : Tabs H' := ⟨tab_same s T.1, tab_same s T.2⟩
/-- behind the one table's growth the other is as it was -/
theorem tab_otherB {H H' : Hp} {P P' : Addr} {lp : Pos} {q : Str} {ps : Array Value} (hne : P' ≠ P) (hP : H P = some (.tbl ps)) (s : Srt.StayB P H H') (T : Srt.TabOk H P' lp q) : Srt.TabOk H' P' lp q := by
  rcases T with T | ⟨c, T, Tc⟩
  · exact .inl (s _ _ T hne)
  · exact .inr ⟨c, s _ _ T hne, s _ _ Tc (ne_of Tc hP (by intro z; cases z))⟩
theorem tab_keep {H H' : Hp} {P : Addr} {lp : Pos} {q : Str} {bs : List Addr} (k : Keep H H' bs) (hb : ∀ b ∈ bs, ∀ o, H b = some o → (∀ ps, o ≠ .tbl ps) ∧ ∀ φ, o ≠ .ext φ) (T : Srt.TabOk H P lp q) : Srt.TabOk H' P lp q := by
  rcases T with T | ⟨c, T, Tc⟩
  · exact .inl (k _ _ T fun m => (hb _ m _ T).1 _ rfl)
  · exact .inr ⟨c, k _ _ T fun m => (hb _ m _ T).1 _ rfl, k _ _ Tc fun m => (hb _ m _ Tc).2 _ rfl⟩
theorem Tabs.keep {H H' : Hp} {bs : List Addr} (T : Tabs H) (k : Keep H H' bs) (hb : ∀ b ∈ bs, ∀ o, H b = some o → (∀ ps, o ≠ .tbl ps) ∧ ∀ φ, o ≠ .ext φ) : Tabs H' := ⟨tab_keep k hb T.1, tab_keep k hb T.2⟩
theorem DictOk.stay {H H' : Hp} {g : Regatta} {r : Nat} {d : Addr} (h : DictOk H g r d) (s : Stay H H') : DictOk H' g r d := by
  obtain ⟨bs, q, h1, h2, h3, h4⟩ := h
  exact ⟨bs, q, s.at _ _ h1 rfl, h2, fun b m => ⟨(h3 b m).1, s.at _ _ (h3 b m).2 rfl⟩, h4⟩
theorem Reg.stay {C : Addr} {H H' : Hp} {p lr lc : Addr} {ds : List Addr} {g : Regatta} (R : Reg C H p lr lc ds g) (s : Stay H H') (T : Tabs H') : Reg C H' p lr lc ds g := by
  obtain ⟨⟨dx, la, a, b, c, h1, h2, h3⟩, h4, h5, hs, h6, h7, h8, wf, _⟩ := R
  exact ⟨⟨dx, la, a, b, c, s.at _ _ h1 rfl, h2, s.at _ _ h3 rfl⟩, s.at _ _ h4 rfl, s.at _ _ h5 rfl, hs, h6, h7, fun r d e => (h8 r d e).stay s, wf, T⟩
theorem Reg.same {C : Addr} {H H' : Hp} {p lr lc : Addr} {ds : List Addr} {g : Regatta} (R : Reg C H p lr lc ds g) (s : Same H H') : Reg C H' p lr lc ds g := R.stay (.of s) (R.tabs.same s)
theorem Reg.apart {C : Addr} {H : Hp} {p lr lc : Addr} {ds : List Addr} {g : Regatta} (R : Reg C H p lr lc ds g) : p ≠ lr ∧ p ≠ lc ∧ (∀ d ∈ ds, d ≠ p ∧ d ≠ lr ∧ d ≠ lc) := by
  obtain ⟨⟨dx, la, a, b, c, h1, h2, h3⟩, h4, h5, hs, h6, h7, h8, wf, _⟩ := R
  refine ⟨ne_of h1 h4 (by intro z; cases z), ne_of h1 h5 (by intro z; cases z), fun d m => ?_⟩
  obtain ⟨r, hr⟩ := List.getElem?_of_mem m
  obtain ⟨bs, q, e, _⟩ := h8 r d hr
  exact ⟨ne_of e h1 (by intro z; cases z), ne_of e h4 (by intro z; cases z), ne_of e h5 (by intro z; cases z)⟩
/-! ### a def whose table of code is known -/
structure FunT (K : PySem.W.Frag) (x qual : Str) (st : Stmt) (f : Addr) (fd : FuncData) (P : Addr) : Prop where
  ex : ∃ (oc : Value) (od : Option Addr) (kV doc pm : Value) (an : Option Addr) (c : Addr) (ct : Value) (osl : Array (Option Value)),
    fd = PySem.W.fnOf x qual (defArgs st) (defBody st) (defScope st) .none kV doc pm an (.ref c) ct ∧ K.lookup f = some ⟨oc, od, .func fd, osl⟩ ∧ PySem.W.codeIn K (.ref c) qual = true ∧ PySem.W.codeHdIn K c P = true
  kp : PySem.W.keepIn K (.ref f) = true
section
variable {P : Program} {w : World} {K : PySem.W.Frag} {mg : Str → Option Value} {base : Heap}
theorem FunT.ok {x qual : Str} {st : Stmt} {f : Addr} {fd : FuncData} {N ps : List Str} {k : Nat} {sp : Sp} {tb : Addr} (F : FunT K x qual st f fd tb) (KB : K.In base) (S : FnScope N ps (defScope st)) (len : ∀ vs H Q E, sp vs H Q E → vs.length = ps.length)
    (hbody : ∀ (c : Addr) (A : Around) (outer : List Env) (s : Shared) (H : Hp) (vs : List V) (Q : VK) (E : XK), PySem.W.CodeHd base c tb → Room k (A.deeper (envOfC qual (defScope st) s.heap.objs.size f (.ref c))) → sp vs H Q E →
      ∃ t, PSs (cxOf CX0 P w K mg base N qual (defScope st) f (.ref c) A outer s H E).nox (defBody st) t ∧ t { nx := fun _ H' => Q .non H', rt := Q } (start N vs) H) : FnOk P w K mg base CX0 (k + 1) f fd ps sp := by
  obtain ⟨oc, od, kV, doc, pm, an, c, ct, osl, rfl, lk, hcd, hch⟩ := F.ex
  refine fn_of lk hcd S len fun A outer s H vs Q E hr hsp => ?_
  obtain ⟨t, h, q⟩ := hbody c A outer s H vs Q E (PySem.W.codeHd_of_K KB hch) hr hsp
  exact ⟨t, h.nox, q⟩
theorem FunT.of {x qual : Str} {st : Stmt} {f : Addr} {fd : FuncData} {tb : Addr} (F : FunT K x qual st f fd tb) : Fun K x qual st f fd := by
  obtain ⟨oc, od, kV, doc, pm, an, c, ct, osl, h1, lk, hcd, hch⟩ := F.ex
  exact ⟨⟨oc, od, kV, doc, pm, an, .ref c, ct, osl, h1, lk, hcd⟩, F.kp⟩
theorem funT_mk {x qual : Str} {st : Stmt} {f c tb : Addr} {oc : Value} {od an : Option Addr} {osl : Array (Option Value)} {kV doc pm ct : Value} (l : K.lookup f = some ⟨oc, od, .func (PySem.W.fnOf x qual (defArgs st) (defBody st) (defScope st) .none kV doc pm an (.ref c) ct), osl⟩)
    (h : PySem.W.codeIn K (.ref c) qual = true) (k : PySem.W.keepIn K (.ref f) = true) (ch : PySem.W.codeHdIn K c tb = true) : FunT K x qual st f (PySem.W.fnOf x qual (defArgs st) (defBody st) (defScope st) .none kV doc pm an (.ref c) ct) tb := ⟨⟨oc, od, kV, doc, pm, an, c, ct, osl, rfl, l, h, ch⟩, k⟩
end
end Rg
end

section
set_option Elab.async false
set_option linter.all false
set_option maxRecDepth 100000
set_option maxHeartbeats 2000000
namespace Rg
open PySem PySem.Spec PyProof.Rows L2
open Kyr (Regatta Told told nothing boats)

abbrev sLim : Stmt := top 25
abbrev sUnf : Stmt := top 26
abbrev sFine : Stmt := top 27
abbrev sFin : Stmt := top 28
abbrev sSail : Stmt := top 29
abbrev sMade : Stmt := top 30
abbrev sKept : Stmt := top 31
abbrev sCls : Stmt := top 32
abbrev sCall : Stmt := top 33
abbrev sAns : Stmt := top 34
abbrev sInit : Stmt := inClass sCls 0
abbrev sStart : Stmt := inClass sCls 1
abbrev sBoat : Stmt := inClass sCls 2
abbrev sRace : Stmt := inClass sCls 3
abbrev sFinish : Stmt := inClass sCls 4
abbrev sNote : Stmt := inClass sCls 5
abbrev sPoints : Stmt := inClass sCls 6
abbrev sTotal : Stmt := inClass sCls 7
abbrev sPlace : Stmt := inClass sCls 8
abbrev sOrder : Stmt := inClass sCls 9
abbrev sHasB : Stmt := inClass sCls 10
abbrev sHas : Stmt := inClass sCls 11
abbrev sToldOf : Stmt := inClass sCls 12
abbrev sTimes : Stmt := inClass sCls 13
abbrev sTimesAll : Stmt := inClass sCls 14
abbrev sPtsOf : Stmt := inClass sCls 15
abbrev sHowM : Stmt := inClass sCls 16
abbrev sLeft : Stmt := inClass sCls 17
abbrev sStand : Stmt := inClass sCls 18
abbrev sStands : Stmt := inClass sCls 19

/-- what the top has written -/
structure Txt (K : PySem.W.Frag) (mg : Str → Option Value) (C : Addr) : Prop where
  cl : Cls K C
  nL : NoAttr K C "limits"
  nR : NoAttr K C "ratings"
  nC : NoAttr K C "races"
  mgC : mg "Regatta" = some (.ref C)
  len : mg "len" = none
  range : mg "range" = none
  sum : mg "sum" = none
  min : mg "min" = none
  sorted : mg "sorted" = none
  lst : mg "list" = none
  rev : mg "reversed" = none
  noSuch : ∃ t, mg "NO_SUCH" = some (.int (-2) t)
  notAs : ∃ t, mg "NOT_AS_TOLD" = some (.int (-22) t)
  noRoom : ∃ t, mg "NO_ROOM" = some (.int (-28) t)
  mostB : ∃ t, mg "MOST_BOATS" = some (.int 32 t)
  mostR : ∃ t, mg "MOST_RACES" = some (.int 20 t)
  highest : ∃ t, mg "HIGHEST_LIMIT" = some (.int 20 t)
  leastQ : ∃ t, mg "LEAST_RATING" = some (.int 500 t)
  mostQ : ∃ t, mg "MOST_RATING" = some (.int 2000 t)
  mostS : ∃ t, mg "MOST_SECONDS" = some (.int 1000000 t)
  fin : ∃ t, mg "FINISHED" = some (.int 1 t)
  struck : ∃ t, mg "STRUCK_OUT_FOR_GOOD" = some (.int 6 t)
  good : ∃ t, mg "MADE_GOOD" = some (.int 7 t)
  point : ∃ t, mg "POINT" = some (.int 20 t)
  tenth : ∃ t, mg "TENTH" = some (.int 2 t)
  cStart : ∃ t, mg "START" = some (.int 0 t)
  cBoat : ∃ t, mg "BOAT" = some (.int 1 t)
  cRace : ∃ t, mg "RACE" = some (.int 2 t)
  cFinish : ∃ t, mg "FINISH" = some (.int 3 t)
  cNote : ∃ t, mg "NOTE" = some (.int 4 t)
  cPoints : ∃ t, mg "POINTS" = some (.int 5 t)
  cTotal : ∃ t, mg "TOTAL" = some (.int 6 t)
  cPlace : ∃ t, mg "PLACE" = some (.int 7 t)
  noth : ∃ a, mg "NOTHING_TOLD" = some (.ref a) ∧ ∀ H, SqT K H a [nI 0, nI 0, nI 0]
  widths : ∃ a, mg "WIDTHS" = some (.ref a) ∧ ∀ H, SqT K H a (([3, 1, 0, 4, 3, 2, 1, 1, 0] : List Nat).map nI)

/-! ### limits_are_as_told -/
def lim : Nat → List Nat → Bool
  | _, [] => true
  | p, m :: l => if m = 0 then lim 20 l else decide (p < m) && decide (m ≤ 20) && lim m l
theorem lim20 : ∀ l : List Nat, lim 20 l = l.all fun x => x == 0
  | [] => rfl
  | m :: l => by
    rw [lim, List.all_cons]
    by_cases h : m = 0
    · rw [if_pos h, lim20 l, h]
      rfl
    · rw [if_neg h]
      have h1 : (m == 0) = false := beq_eq_false_iff_ne.mpr h
      rw [h1, Bool.false_and]
      by_cases h2 : 20 < m
      · rw [decide_eq_false (show ¬ m ≤ 20 by omega), Bool.and_false, Bool.false_and]
      · rw [decide_eq_false h2, Bool.false_and, Bool.false_and]
theorem lim_ok : ∀ (p : Nat) (l : List Nat), lim p l = Kyr.okMarks p l
  | _, [] => rfl
  | p, m :: l => by
    rw [lim, Kyr.okMarks]
    by_cases h : m = 0
    · rw [if_pos h, if_pos h, lim20]
    · rw [if_neg h, if_neg h, lim_ok m l]
def spLim (K : PySem.W.Frag) : Sp := fun vs H Q _ => ∃ (a : Addr) (l : List Nat), vs = [.ref a] ∧ SqT K H a (l.map nI) ∧ Q (.bl (Kyr.okMarks 0 l)) H
section
variable {P : Program} {w : World} {K : PySem.W.Frag} {mg : Str → Option Value} {base : Heap} {C : Addr}
theorem scLim : FnScope ["limits", "before", "limit"] ["limits"] (defScope sLim) := ⟨rfl, rfl, rfl, by decide +kernel, rfl, by decide +kernel, by decide +kernel⟩
theorem ok_lim {f : Addr} {fd : FuncData} (T : Txt K mg C) (D : DefG K mg "limits_are_as_told" sLim ["limits"] f fd) : GOk P w K mg base 1 "limits_are_as_told" ["limits"] (spLim K) := by
  obtain ⟨F, b, hm⟩ := D
  refine ⟨f, fd, F.ok scLim (fun vs H Q E h => ?_) (fun cdv A outer s H vs Q E hr h => ?_), b, hm, F.kp⟩
  · obtain ⟨a, l, rfl, _⟩ := h
    rfl
  · obtain ⟨a, l, rfl, hS, k⟩ := h
    refine ⟨_, pss_cons (ps_set (i := 1) scLim.nd rfl (Or.inl rfl) pe_int)
      (pss_cons (ps_for PassesOwn.never rfl (pi_tup (pv 0)) (pg_name (i := 2) scLim.nd rfl (Or.inl rfl))
        (pss_one (ps_if (pt_cmpR op_eq (pv 2) pe_int (nomark _)) (pss_one (ps_set (i := 1) scLim.nd rfl (Or.inl rfl) (pe_gI T.highest)))
          (pss_one (ps_if (pt_chain op_lt op_le (pv 1) (pv 2) (pe_gI T.highest)) (pss_one (ps_set (i := 1) scLim.nd rfl (Or.inl rfl) (pv 2))) (pss_one (ps_ret pe_bl)))))))
      (pss_one (ps_ret pe_bl))), ?_⟩
    refine ⟨_, rfl, a, rfl, ⟨_, hS⟩, for_tup (K := K) (a := a) (xs := l.map nI) (fun i σ H' => ∃ (bf : Nat) (v : Option V), σ = [some (.ref a), some (nI bf), v] ∧ H' = H ∧ lim 0 l = lim bf (l.drop i))
      ⟨0, none, rfl, rfl, rfl⟩ (fun i σ H' _ ⟨_, _, _, e, _⟩ => by rw [e]; exact hS) ?_ ?_⟩
    · rintro i y σ H' hi ⟨bf, v, rfl, rfl, e⟩
      obtain ⟨z, hz, rfl⟩ : ∃ z, l[i]? = some z ∧ y = nI z := by
        rw [List.getElem?_map] at hi
        cases q : l[i]? with
        | none => rw [q] at hi; cases hi
        | some z => rw [q] at hi; exact ⟨z, rfl, (Option.some.inj hi).symm⟩
      obtain ⟨hlt, ez⟩ := List.getElem?_eq_some_iff.mp hz
      rw [List.drop_eq_getElem_cons hlt, ez, lim] at e
      refine ⟨_, rfl, rfl, _, rfl, ?_⟩
      refine ite2 (fun h => ?_) (fun h => ?_)
      · have h0 : z = 0 := by
          have h1 := of_decide_eq_true h
          injection h1 with h1
          omega
        rw [if_pos h0] at e
        exact ⟨20, _, rfl, rfl, e⟩
      · have h0 : ¬ z = 0 := fun q => h (decide_eq_true (by rw [q]; rfl))
        rw [if_neg h0] at e
        refine ⟨_, rfl, _, rfl, _, _, rfl, rfl, _, rfl, ?_⟩
        refine ite2 (fun h1 => ?_) (fun h1 => ?_)
        · have h2 : bf < z := by
            have := of_decide_eq_true h1
            omega
          refine ⟨_, _, rfl, rfl, _, rfl, ?_⟩
          refine ite2 (fun h3 => ?_) (fun h3 => ?_)
          · have h4 : z ≤ 20 := by
              have := of_decide_eq_true h3
              omega
            rw [decide_eq_true h2, decide_eq_true h4] at e
            exact ⟨_, rfl, z, _, rfl, rfl, e⟩
          · have h4 : ¬ z ≤ 20 := fun q => h3 (decide_eq_true (by omega))
            rw [decide_eq_false h4, Bool.and_false, Bool.false_and, lim_ok] at e
            rw [e] at k
            exact k
        · have h2 : ¬ bf < z := fun q => h1 (decide_eq_true (by omega))
          rw [decide_eq_false h2, Bool.false_and, Bool.false_and, lim_ok] at e
          rw [e] at k
          exact ⟨_, rfl, iteF k⟩
    · rintro σ H' ⟨bf, v, rfl, rfl, e⟩
      rw [List.length_map, List.drop_length, lim_ok] at e
      rw [e] at k
      exact k
end
end Rg
end

section
set_option Elab.async false
set_option linter.all false
set_option maxRecDepth 100000
set_option maxHeartbeats 2000000
namespace Rg
open PySem PySem.Spec PyProof.Rows L2
open Kyr (Regatta Told told nothing boats)

def unf (n : Nat) : Nat := 20 * (n + 1)
def fineP (n : Nat) : Nat := 20 * ((2 * n + 5) / 10)
def finP (ts : List Nat) (t : Nat) : Nat := 20 * ((ts.idxOf t + 1) + (ts.idxOf t + ts.count t)) / 2
def sailP (k t f : Nat) (ts : List Nat) (n : Nat) : Nat := if k = 1 then (if f = 0 then finP ts t else min (unf n) (finP ts t + fineP n)) else unf n
def madeP (l : List Nat) (n : Nat) : Nat := if l = [] then unf n else 2 * ((2 * l.sum + 2 * l.length) / (2 * (2 * l.length)))
def spUnf : Sp := fun vs H Q _ => ∃ n : Nat, vs = [nI n] ∧ n ≤ 1000 ∧ Q (nI (unf n)) H
def spFine : Sp := fun vs H Q _ => ∃ n : Nat, vs = [nI n] ∧ n ≤ 1000 ∧ Q (nI (fineP n)) H
def spFin (K : PySem.W.Frag) : Sp := fun vs H Q _ => ∃ (a : Addr) (ts : List Nat) (t : Nat), vs = [.ref a, nI t] ∧ SqL K H a (ts.map nI) ∧ ts.length < 1000 ∧ t ∈ ts ∧ Q (nI (finP ts t)) H
def spSail (K : PySem.W.Frag) : Sp := fun vs H Q _ => ∃ (q a : Addr) (ts : List Nat) (k t f n : Nat), vs = [.ref q, .ref a, nI n] ∧ SqT K H q [nI k, nI t, nI f] ∧ SqL K H a (ts.map nI) ∧ ts.length < 1000 ∧ n ≤ 1000 ∧ (k = 1 → t ∈ ts) ∧ Q (nI (sailP k t f ts n)) H
def spMade (K : PySem.W.Frag) : Sp := fun vs H Q _ => ∃ (a : Addr) (l : List Nat) (n : Nat), vs = [.ref a, nI n] ∧ SqL K H a (l.map nI) ∧ l.length < 1000 ∧ n ≤ 1000 ∧ Q (nI (madeP l n)) H
section
variable {P : Program} {w : World} {K : PySem.W.Frag} {mg : Str → Option Value} {base : Heap} {C : Addr}
theorem scUnf : FnScope ["boat_count"] ["boat_count"] (defScope sUnf) := ⟨rfl, rfl, rfl, by decide +kernel, rfl, by decide +kernel, by decide +kernel⟩
theorem ok_unf {f : Addr} {fd : FuncData} (T : Txt K mg C) (D : DefG K mg "points_unfinished" sUnf ["boat_count"] f fd) : GOk P w K mg base 1 "points_unfinished" ["boat_count"] spUnf := by
  obtain ⟨F, b, hm⟩ := D
  refine ⟨f, fd, F.ok scUnf (fun vs H Q E h => ?_) (fun cdv A outer s H vs Q E hr h => ?_), b, hm, F.kp⟩
  · obtain ⟨n, rfl, _⟩ := h
    rfl
  · obtain ⟨n, rfl, hn, k⟩ := h
    refine ⟨_, pss_one (ps_ret (pe_op op_mul (pe_gI T.point) (pe_op op_add (pv 0) pe_int))), ?_⟩
    refine ⟨_, rfl, _, _, rfl, rfl, _, _, rfl, rfl, .inl ⟨by decide, by decide⟩, ?_⟩
    have e : V.int (20 * ((n : Int) + 1)) = nI (unf n) := by
      show V.int _ = V.int ((20 * (n + 1) : Nat) : Int)
      congr 1
    dsimp only
    rw [e]
    exact k
theorem scFine : FnScope ["boat_count"] ["boat_count"] (defScope sFine) := ⟨rfl, rfl, rfl, by decide +kernel, rfl, by decide +kernel, by decide +kernel⟩
theorem ok_fine {f : Addr} {fd : FuncData} (T : Txt K mg C) (D : DefG K mg "points_fined" sFine ["boat_count"] f fd) : GOk P w K mg base 1 "points_fined" ["boat_count"] spFine := by
  obtain ⟨F, b, hm⟩ := D
  refine ⟨f, fd, F.ok scFine (fun vs H Q E h => ?_) (fun cdv A outer s H vs Q E hr h => ?_), b, hm, F.kp⟩
  · obtain ⟨n, rfl, _⟩ := h
    rfl
  · obtain ⟨n, rfl, hn, k⟩ := h
    refine ⟨_, pss_one (ps_ret (pe_op op_mul (pe_gI T.point) (pe_op op_fdiv (pe_op op_add (pe_op op_mul pe_int (pv 0)) pe_int) pe_int))), ?_⟩
    refine ⟨_, rfl, _, _, rfl, rfl, .inl ⟨by decide, by decide⟩, _, _, rfl, rfl, _, _, rfl, rfl, ⟨by decide, by decide⟩, _, _, rfl, rfl, .inl ⟨by decide, by decide⟩, ?_⟩
    have e : V.int (20 * ((2 * (n : Int) + 5) / 10)) = nI (fineP n) := by
      show V.int _ = V.int ((20 * ((2 * n + 5) / 10) : Nat) : Int)
      congr 1
    dsimp only
    rw [e]
    exact k
theorem idx_is {ts : List Nat} {t : Nat} (h : t ∈ ts) : (ts.map nI)[ts.idxOf t]? = some (nI t) ∧ ∀ (m : Nat) (z : V), m < ts.idxOf t → (ts.map nI)[m]? = some z → eqV z (nI t) = false := by
  have hl := List.idxOf_lt_length_of_mem h
  refine ⟨?_, fun m z hm hz => ?_⟩
  · rw [List.getElem?_map, List.getElem?_eq_getElem hl, List.getElem_idxOf]
    rfl
  · have hml : m < ts.length := Nat.lt_trans hm hl
    rw [List.getElem?_map, List.getElem?_eq_getElem hml] at hz
    have hz := Option.some.inj hz
    rw [← hz]
    show ((ts[m] : Int) == (t : Int)) = false
    rw [beq_eq_false_iff_ne]
    intro e
    have e2 : ts[m] = t := by omega
    have := List.not_of_lt_findIdx (p := fun x => x == t) (xs := ts) hm
    simp [e2] at this
theorem scFin : FnScope ["times", "own_time", "first", "last"] ["times", "own_time"] (defScope sFin) := ⟨rfl, rfl, rfl, by decide +kernel, rfl, by decide +kernel, by decide +kernel⟩
theorem ok_fin {f : Addr} {fd : FuncData} (T : Txt K mg C) (D : DefG K mg "points_finished" sFin ["times", "own_time"] f fd) : GOk P w K mg base 1 "points_finished" ["times", "own_time"] (spFin K) := by
  obtain ⟨F, b, hm⟩ := D
  refine ⟨f, fd, F.ok scFin (fun vs H Q E h => ?_) (fun cdv A outer s H vs Q E hr h => ?_), b, hm, F.kp⟩
  · obtain ⟨a, ts, t, rfl, _⟩ := h
    rfl
  · obtain ⟨a, ts, t, rfl, hs, hl, hmem, k⟩ := h
    refine ⟨_, pss_cons (ps_set (i := 2) scFin.nd rfl (Or.inl rfl) (pe_op op_add (pe_bm PySem.F.plainAttrs_list PySem.F.slot_list_index PySem.F.type_list_index mt_index (pv 0) (pa_cons (pv 1) pa_nil)) pe_int))
      (pss_cons (ps_set (i := 3) scFin.nd rfl (Or.inl rfl) (pe_op op_sub (pe_op op_add (pv 2) (pe_bm PySem.F.plainAttrs_list PySem.F.slot_list_count PySem.F.type_list_count Srt.mt_countL (pv 0) (pa_cons (pv 1) pa_nil))) pe_int))
      (pss_one (ps_ret (pe_op op_fdiv (pe_op op_mul (pe_gI T.point) (pe_op op_add (pv 2) (pv 3))) pe_int)))), ?_⟩
    obtain ⟨i1, i2⟩ := idx_is hmem
    refine ⟨_, rfl, .inl ⟨rfl, _, hs⟩, _, rfl, a, _, _, ts.idxOf t, _, rfl, rfl, hs, rfl, Srt.all_flat ts, i1, ?_, i2, _, _, rfl, rfl, ?_⟩
    · show ((t : Int) == (t : Int)) = true
      exact beq_self_eq_true _
    refine ⟨_, rfl, _, rfl, .inl ⟨rfl, _, hs⟩, _, rfl, a, ts, t, rfl, rfl, hs, _, _, rfl, rfl, _, _, rfl, rfl, ?_⟩
    refine ⟨_, rfl, _, rfl, _, _, rfl, rfl, _, _, rfl, rfl, .inl ⟨by decide, by decide⟩, _, _, rfl, rfl, ⟨by decide, by decide⟩, ?_⟩
    have e : V.int (20 * ((((ts.idxOf t : Nat) : Int) + 1) + ((((ts.idxOf t : Nat) : Int) + 1) + ((ts.count t : Nat) : Int) - 1)) / 2) = nI (finP ts t) := by
      show V.int _ = V.int ((20 * ((ts.idxOf t + 1) + (ts.idxOf t + ts.count t)) / 2 : Nat) : Int)
      congr 1
      omega
    dsimp only
    exact e ▸ k
theorem scSail : FnScope ["told", "times", "boat_count", "points"] ["told", "times", "boat_count"] (defScope sSail) := ⟨rfl, rfl, rfl, by decide +kernel, rfl, by decide +kernel, by decide +kernel⟩
theorem ok_sail {f : Addr} {fd : FuncData} (T : Txt K mg C) (D : DefG K mg "points_sailed" sSail ["told", "times", "boat_count"] f fd) (GU : GOk P w K mg base 1 "points_unfinished" ["boat_count"] spUnf) (GF : GOk P w K mg base 1 "points_fined" ["boat_count"] spFine)
    (GN : GOk P w K mg base 1 "points_finished" ["times", "own_time"] (spFin K)) : GOk P w K mg base 2 "points_sailed" ["told", "times", "boat_count"] (spSail K) := by
  obtain ⟨F, b, hm⟩ := D
  refine ⟨f, fd, F.ok scSail (fun vs H Q E h => ?_) (fun cdv A outer s H vs Q E hr h => ?_), b, hm, F.kp⟩
  · obtain ⟨q, a, ts, k, t, f, n, rfl, _⟩ := h
    rfl
  · obtain ⟨q, a, ts, k, t, f, n, rfl, hq, hs, hl, hn, hmem, kk⟩ := h
    refine ⟨_, pss_cons (ps_if (pt_cmpR op_ne (pe_ix ix_tup (pv 0) pe_int (fun _ _ => rfl)) (pe_gI T.fin) (nomark _)) (pss_one (ps_ret (pe_g GU hr (by decide) rfl (pa_cons (pv 2) pa_nil)))) pss_nil)
      (pss_cons (ps_set (i := 3) scSail.nd rfl (Or.inl rfl) (pe_g GN hr (by decide) rfl (pa_cons (pv 1) (pa_cons (pe_ix ix_tup (pv 0) pe_int (fun _ _ => rfl)) pa_nil))))
      (pss_cons (ps_if (pt_cmpR op_eq (pe_ix ix_tup (pv 0) pe_int (fun _ _ => rfl)) pe_int (nomark _)) (pss_one (ps_ret (pv 3))) pss_nil)
      (pss_one (ps_ret (pe_callB (call_min2 rfl) (by rfl) T.min boot_min (pa_cons (pe_op op_add (pv 3) (pe_g GF hr (by decide) rfl (pa_cons (pv 2) pa_nil))) (pa_cons (pe_g GU hr (by decide) rfl (pa_cons (pv 2) pa_nil)) pa_nil))))))), ?_⟩
    refine ⟨_, rfl, q, _, _, _, rfl, rfl, hq, at_of (j := 0) rfl rfl, rfl, _, rfl, ?_⟩
    unfold sailP at kk
    refine ite2 (fun h1 => ?_) (fun h1 => ?_)
    · have h2 : ¬ k = 1 := fun z => by
        rw [z] at h1
        exact absurd h1 (by decide)
      rw [if_neg h2] at kk
      exact ⟨_, rfl, n, rfl, hn, kk⟩
    · have h2 : k = 1 := by
        by_cases z : k = 1
        · exact z
        · exact absurd (by
            rw [Bool.not_eq_true', decide_eq_false_iff_not]
            intro y
            injection y with y
            omega) h1
      rw [if_pos h2] at kk
      refine ⟨_, rfl, _, rfl, q, _, _, _, rfl, rfl, hq, at_of (j := 1) rfl rfl, a, ts, t, rfl, hs, hl, hmem h2, ?_⟩
      refine ⟨_, rfl, q, _, _, _, rfl, rfl, hq, at_of (j := 2) rfl rfl, rfl, _, rfl, ?_⟩
      refine ite2 (fun h3 => ?_) (fun h3 => ?_)
      · have h4 : f = 0 := by
          have h5 := of_decide_eq_true h3
          injection h5 with h5
          omega
        rw [if_pos h4] at kk
        exact ⟨_, rfl, kk⟩
      · have h4 : ¬ f = 0 := fun z => h3 (decide_eq_true (by rw [z]; rfl))
        rw [if_neg h4] at kk
        refine ⟨_, rfl, _, rfl, n, rfl, hn, _, _, rfl, rfl, _, rfl, n, rfl, hn, _, _, rfl, ?_⟩
        have e : V.int (if ((unf n : Nat) : Int) < ((finP ts t : Nat) : Int) + ((fineP n : Nat) : Int) then ((unf n : Nat) : Int) else ((finP ts t : Nat) : Int) + ((fineP n : Nat) : Int)) = nI (min (unf n) (finP ts t + fineP n)) := by
          show V.int _ = V.int ((min (unf n) (finP ts t + fineP n) : Nat) : Int)
          congr 1
          split <;> omega
        exact e ▸ kk
theorem scMade : FnScope ["sailed", "boat_count", "divisor"] ["sailed", "boat_count"] (defScope sMade) := ⟨rfl, rfl, rfl, by decide +kernel, rfl, by decide +kernel, by decide +kernel⟩
theorem ok_made {f : Addr} {fd : FuncData} (T : Txt K mg C) (D : DefG K mg "points_made_good" sMade ["sailed", "boat_count"] f fd) (GU : GOk P w K mg base 1 "points_unfinished" ["boat_count"] spUnf) : GOk P w K mg base 2 "points_made_good" ["sailed", "boat_count"] (spMade K) := by
  obtain ⟨F, b, hm⟩ := D
  refine ⟨f, fd, F.ok scMade (fun vs H Q E h => ?_) (fun cdv A outer s H vs Q E hr h => ?_), b, hm, F.kp⟩
  · obtain ⟨a, l, n, rfl, _⟩ := h
    rfl
  · obtain ⟨a, l, n, rfl, hs, hl, hn, kk⟩ := h
    refine ⟨_, pss_cons (ps_if (pt_cmpR op_eq (pe_callB call_len_seq (by rfl) T.len PySem.boot_len (pa_cons (pv 0) pa_nil)) pe_int (nomark _)) (pss_one (ps_ret (pe_g GU hr (by decide) rfl (pa_cons (pv 1) pa_nil)))) pss_nil)
      (pss_cons (ps_set (i := 2) scMade.nd rfl (Or.inl rfl) (pe_op op_mul (pe_gI T.tenth) (pe_callB call_len_seq (by rfl) T.len PySem.boot_len (pa_cons (pv 0) pa_nil))))
      (pss_one (ps_ret (pe_op op_mul (pe_gI T.tenth) (pe_op op_fdiv (pe_op op_add (pe_op op_mul pe_int (pe_callB (cr_sum rfl) (by rfl) T.sum boot_sum (pa_cons (pv 0) pa_nil))) (pv 2)) (pe_op op_mul pe_int (pv 2))))))), ?_⟩
    refine ⟨_, rfl, a, _, rfl, .inl hs, rfl, _, rfl, ?_⟩
    rw [List.length_map]
    unfold madeP at kk
    refine ite2 (fun h1 => ?_) (fun h1 => ?_)
    · have h2 : l = [] := by
        have h3 := of_decide_eq_true h1
        injection h3 with h3
        exact List.length_eq_zero_iff.mp (by omega)
      rw [if_pos h2] at kk
      exact ⟨_, rfl, n, rfl, hn, kk⟩
    · have h2 : ¬ l = [] := fun z => h1 (decide_eq_true (by rw [z]; rfl))
      rw [if_neg h2] at kk
      have hp : 0 < l.length := List.length_pos_iff.mpr h2
      refine ⟨_, rfl, a, _, rfl, .inl hs, _, _, rfl, rfl, .inl ⟨by decide, by decide⟩, ?_⟩
      have es : l.map nI = (l.map fun x : Nat => (x : Int)).map V.int := by rw [List.map_map]; rfl
      refine ⟨_, rfl, a, (l.map fun x : Nat => (x : Int)), rfl, es ▸ hs, _, _, rfl, rfl, .inl ⟨by decide, by decide⟩, _, rfl, _, _, rfl, rfl, _, rfl, _, _, rfl, rfl, .inl ⟨by decide, by decide⟩, _, _, rfl, rfl, ?_, _, _, rfl, rfl, .inl ⟨by decide, by decide⟩, ?_⟩
      · rw [List.length_map]
        exact ⟨by omega, by omega⟩
      · have e0 : ((l.map fun x : Nat => (x : Int)).sum) = ((l.sum : Nat) : Int) := by
          have : ∀ l : List Nat, ((l.map fun x : Nat => (x : Int)).sum) = ((l.sum : Nat) : Int) := by
            intro l
            induction l with
            | nil => rfl
            | cons a r ih => rw [List.map_cons, List.sum_cons, List.sum_cons, ih]; omega
          exact this l
        have e : V.int (2 * ((2 * (l.map fun x : Nat => (x : Int)).sum + 2 * (((l.map nI).length : Nat) : Int)) / (2 * (2 * (((l.map nI).length : Nat) : Int))))) = nI (2 * ((2 * l.sum + 2 * l.length) / (2 * (2 * l.length)))) := by
          show V.int _ = V.int ((2 * ((2 * l.sum + 2 * l.length) / (2 * (2 * l.length))) : Nat) : Int)
          rw [List.length_map, e0]
          congr 1
        dsimp only
        rw [e]
        exact kk
end
end Rg
end

section
set_option Elab.async false
set_option linter.all false
set_option maxRecDepth 100000
set_option maxHeartbeats 2000000
namespace Rg
open PySem PySem.Spec PyProof.Rows L2
open Kyr (Regatta Told told nothing boats)
section
variable {X : Cx} {K : PySem.W.Frag}
theorem ixL (h : X.K = K := by rfl) : IxR X (rIxL K) := h ▸ ix_list
theorem ixT (h : X.K = K := by rfl) : IxR X (rIxT K) := h ▸ ix_tup
theorem lenS (h : X.K = K := by rfl) : CallR X (.builtin "len") (fun xs H Q => ∃ p ys, xs = [.ref p] ∧ (SqL K H p ys ∨ SqT K H p ys) ∧ Q (.int ys.length) H) := h ▸ call_len_seq
theorem peF {e : Expr} {f : Str} {pos : Pos} {ta : TE} (he : PE X e ta) (hb : attributeBase e f X.env (eval e X.env) = eval e X.env) (h : X.K = K := by rfl) : PE X (.Attribute e f pos) (tFld K ta f) := h ▸ pe_fld he hb
theorem opNotIn (h : X.K = K := by rfl) : OpR X (compareOp .NotIn) (rIn K true) := h ▸ op_notIn_seq
end
def keptP (ps out : List Nat) : List Nat := ((List.range ps.length).filter fun r => !out.contains r).map fun r => ps.getD r 0
def spKept (K : PySem.W.Frag) : Sp := fun vs H Q _ => ∃ (a o : Addr) (ps out : List Nat), vs = [.ref a, .ref o] ∧ SqL K H a (ps.map nI) ∧ SqL K H o (out.map nI) ∧ ps.length ≤ 1000 ∧
  ∀ (D : Addr) (H' : Hp), Same H H' → H D = none → H' D = some (.lst ((keptP ps out).map nI)) → Q (.ref D) H'
/-- the new list of a comprehension, the rest as it was -/
def Grow (H : Hp) (D : Addr) (xs : List V) (H' : Hp) : Prop := Same H H' ∧ H' D = some (.lst xs)
theorem Grow.start {H : Hp} {D : Addr} (h : H D = none) : Grow H D [] (upd H D (.lst [])) := ⟨same_upd h, upd_same⟩
theorem Grow.more {H H1 H2 : Hp} {D : Addr} {xs : List V} {y : V} (hD : H D = none) (g : Grow H D xs H1) (s : Same H1 H2) : Grow H D (xs ++ [y]) (upd H2 D (.lst (xs ++ [y]))) :=
  ⟨fun b o e => by rw [upd_ne (ne_of_none e hD)]; exact s _ _ (g.1 b o e), upd_same⟩
theorem Grow.same {H H1 H2 : Hp} {D : Addr} {xs : List V} (g : Grow H D xs H1) (s : Same H1 H2) : Grow H D xs H2 := ⟨Same.trans g.1 s, s _ _ g.2⟩
theorem nI_get {l : List Nat} {i : Nat} (h : i < l.length) : (l.map nI)[i]? = some (nI (l.getD i 0)) := by
  rw [List.getElem?_map, List.getElem?_eq_getElem h, getD_some h]
  rfl
theorem inV_nat (n : Nat) : ∀ l : List Nat, inV (nI n) (l.map nI) = l.contains n
  | [] => rfl
  | m :: l => by
    have ih := inV_nat n l
    have h1 : inV (nI n) ((m :: l).map nI) = (eqV (nI m) (nI n) || inV (nI n) (l.map nI)) := rfl
    rw [h1, ih, List.contains_cons]
    congr 1
    show ((m : Int) == (n : Int)) = (n == m)
    rw [Bool.eq_iff_iff, beq_iff_eq, beq_iff_eq]
    omega
theorem filter_range_succ (q : Nat → Bool) (n : Nat) : (List.range (n + 1)).filter q = (List.range n).filter q ++ (if q n = true then [n] else []) := by
  rw [List.range_succ, List.filter_append]
  congr 1
  by_cases h : q n = true
  · rw [if_pos h, List.filter_cons, if_pos h]
    rfl
  · rw [if_neg h, List.filter_cons, if_neg h]
    rfl
section
variable {P : Program} {w : World} {K : PySem.W.Frag} {mg : Str → Option Value} {base : Heap} {C : Addr}
theorem scKept : FnScope ["points", "out", "race"] ["points", "out"] (defScope sKept) := ⟨rfl, rfl, rfl, by decide +kernel, rfl, by decide +kernel, by decide +kernel⟩
theorem ok_kept {f : Addr} {fd : FuncData} (T : Txt K mg C) (D : DefG K mg "points_kept" sKept ["points", "out"] f fd) : GOk P w K mg base 1 "points_kept" ["points", "out"] (spKept K) := by
  obtain ⟨F, b, hm⟩ := D
  refine ⟨f, fd, F.ok scKept (fun vs H Q E h => ?_) (fun cdv A outer s H vs Q E hr h => ?_), b, hm, F.kp⟩
  · obtain ⟨a, o, ps, out, rfl, _⟩ := h
    rfl
  · obtain ⟨a, o, ps, out, rfl, hs, ho, hl, k⟩ := h
    refine ⟨_, pss_one (ps_ret (pe_lc (own := [("race", 2)]) rfl scKept.nd (pi_range1 rfl T.range (pa_cons (pe_callB call_len_seq (by rfl) T.len PySem.boot_len (pa_cons (pv 0) pa_nil)) pa_nil)) (by refine blkOk_by (N := ["points", "out", "race"]) (sc := defScope sKept) ?_; decide +kernel)
      (fun s H C cl fp => pg_name (i := 2) scKept.nd rfl (Or.inl rfl)) (fun s H C cl fp => pts_one (pt_cmpR (opNotIn (K := K)) (pv 2) (pv 1) (by with_unfolding_all rfl))) (fun s H C cl fp => pe_ix (ixL (K := K)) (pv 0) (pv 2) (fun _ _ => rfl)))), ?_⟩
    refine ⟨_, rfl, a, _, rfl, .inl hs, _, rfl, ?_, ?_, fun D hD => ?_⟩
    · rw [List.length_map]
      omega
    · rw [List.length_map]
      omega
    rw [List.length_map, Int.toNat_natCast]
    refine lc_range (n := ps.length) (fun i H' => Grow H D ((((List.range i).filter fun r => !out.contains r).map fun r => ps.getD r 0).map nI) H') (Grow.start hD) (fun i H2 hi g => ?_) fun H2 g => k D H2 g.1 hD g.2
    have ei : V.int (0 + (i : Int)) = nI i := by
      rw [Int.zero_add]
      rfl
    rw [ei]
    refine ⟨rfl, _, rfl, _, rfl, o, _, rfl, .inl (g.1.seq ho), rfl, Srt.all_flat out, _, rfl, ?_⟩
    dsimp only
    rw [if_pos rfl, inV_nat, filter_range_succ]
    cases e : out.contains i with
    | true =>
      refine iteF ?_
      rw [if_neg (by decide), List.append_nil]
      exact g
    | false =>
      refine iteT ?_
      rw [if_pos (show (!false) = true from rfl), List.map_append, List.map_append]
      refine ⟨_, rfl, _, rfl, a, _, _, _, rfl, rfl, g.1.seq hs, at_of (j := i) rfl (nI_get hi), _, g.2, ?_, ?_⟩
      · rw [List.length_map, List.length_map]
        have := List.length_filter_le (fun r => !out.contains r) (List.range i)
        rw [List.length_range] at this
        rw [sizeLine_eq]
        omega
      · exact g.more hD (fun b o e => e)
end
end Rg
end

section
set_option Elab.async false
set_option linter.all false
set_option maxRecDepth 100000
set_option maxHeartbeats 2000000
namespace Rg
open PySem PySem.Spec PyProof.Rows L2
open Kyr (Regatta Told told nothing boats)

/-! ### dicts -/
theorem val_kv (q : Nat → Addr) (b : Nat) : ∀ bs : List Nat, valV (kvOf bs q) (Sum.inl (b : Int)) = if b ∈ bs then some (.ref (q b)) else none
  | [] => rfl
  | c :: bs => by
    have ih := val_kv q b bs
    show valV ((Sum.inl (c : Int), V.ref (q c)) :: kvOf bs q) (Sum.inl (b : Int)) = _
    by_cases e : c = b
    · subst e
      rw [valV_pos rfl, if_pos (List.mem_cons_self ..)]
    · rw [valV_neg (fun z => e (by injection z with z; omega)), ih]
      by_cases m : b ∈ bs
      · rw [if_pos m, if_pos (List.mem_cons_of_mem _ m)]
      · rw [if_neg m, if_neg fun z => by rcases List.mem_cons.mp z with y | y; exact e y.symm; exact m y]
def setQ (q : Nat → Addr) (b : Nat) (a : Addr) : Nat → Addr := fun c => if c = b then a else q c
def addB (bs : List Nat) (b : Nat) : List Nat := if b ∈ bs then bs else bs ++ [b]
theorem kv_congr {bs : List Nat} {q q' : Nat → Addr} (h : ∀ b ∈ bs, q b = q' b) : kvOf bs q = kvOf bs q' := List.map_congr_left fun b m => by rw [h b m]
theorem put_kv (q : Nat → Addr) (b : Nat) (a : Addr) (bs : List Nat) : putK (kvOf bs q) (Sum.inl (b : Int)) (.ref a) = kvOf (addB bs b) (setQ q b a) := by
  unfold putK
  have any : ((kvOf bs q).any fun kv => decide (kv.1 = (Sum.inl (b : Int) : Key))) = decide (b ∈ bs) := by
    rw [Bool.eq_iff_iff, List.any_eq_true, decide_eq_true_iff]
    constructor
    · rintro ⟨kv, m, e⟩
      obtain ⟨c, mc, rfl⟩ := List.mem_map.mp m
      have e := of_decide_eq_true e
      have : c = b := by
        injection e with e
        omega
      rw [← this]
      exact mc
    · intro m
      exact ⟨_, List.mem_map_of_mem m, decide_eq_true rfl⟩
  rw [any]
  unfold addB
  by_cases m : b ∈ bs
  · rw [if_pos (decide_eq_true m), if_pos m]
    unfold kvOf
    rw [List.map_map]
    refine List.map_congr_left fun c mc => ?_
    show (if (Sum.inl (c : Int) : Key) = Sum.inl (b : Int) then ((Sum.inl (c : Int) : Key), V.ref a) else (Sum.inl (c : Int), V.ref (q c))) = (Sum.inl (c : Int), V.ref (setQ q b a c))
    unfold setQ
    by_cases e : c = b
    · rw [if_pos (by rw [e]), if_pos e]
    · rw [if_neg fun z => e (by injection z with z; omega), if_neg e]
  · rw [if_neg (by rw [decide_eq_false m]; decide), if_neg m]
    unfold kvOf
    rw [List.map_append]
    congr 1
    · refine List.map_congr_left fun c mc => ?_
      unfold setQ
      rw [if_neg fun z => m (by rw [← z]; exact mc)]
    · show [((Sum.inl (b : Int) : Key), V.ref a)] = [((Sum.inl (b : Int) : Key), V.ref (setQ q b a b))]
      unfold setQ
      rw [if_pos rfl]
theorem mem_addB {bs : List Nat} {b c : Nat} : c ∈ addB bs b ↔ c ∈ bs ∨ c = b := by
  unfold addB
  by_cases m : b ∈ bs
  · rw [if_pos m]
    exact ⟨.inl, fun h => h.elim id fun e => by rw [e]; exact m⟩
  · rw [if_neg m, List.mem_append, List.mem_singleton]
theorem nodup_addB {bs : List Nat} {b : Nat} (h : bs.Nodup) : (addB bs b).Nodup := by
  unfold addB
  by_cases m : b ∈ bs
  · rw [if_pos m]
    exact h
  · rw [if_neg m, List.nodup_append]
    exact ⟨h, List.nodup_cons.mpr ⟨List.not_mem_nil, List.nodup_nil⟩, fun x mx y my => by rw [List.mem_singleton.mp my]; intro z; exact m (by rw [← z]; exact mx)⟩
theorem perm_nodup {l m : List Nat} (h1 : l.Nodup) (h2 : m.Nodup) (h : ∀ x, x ∈ l ↔ x ∈ m) : l.Perm m := (List.perm_ext_iff_of_nodup h1 h2).mpr h
theorem nodup_le {l : List Nat} {n : Nat} (h : l.Nodup) (hb : ∀ x ∈ l, x < n) : l.length ≤ n := by
  have hp : l.Perm ((List.range n).filter fun x => decide (x ∈ l)) := perm_nodup h (List.nodup_range.filter _) fun x => by
    rw [List.mem_filter, List.mem_range, decide_eq_true_iff]
    exact ⟨fun m => ⟨hb x m, m⟩, fun m => m.2⟩
  have h1 := hp.length_eq
  have h2 := List.length_filter_le (fun x => decide (x ∈ l)) (List.range n)
  rw [List.length_range] at h2
  omega
/-! ### what is told, as things change -/
theorem corr_boat {g : Regatta} {q r b : Nat} (hb : b < boats g) : toldV (moreBoat g q) r b = toldV g r b := by
  unfold toldV Kyr.corrected
  rw [told_boat]
  have e : (moreBoat g q).ratings.getD b 0 = g.ratings.getD b 0 := by
    show (g.ratings ++ [q]).getD b 0 = _
    rw [List.getD_eq_getElem?_getD, List.getElem?_append_left hb, ← List.getD_eq_getElem?_getD]
  rw [e]
theorem corr_race {g : Regatta} {r b : Nat} : toldV (moreRace g) r b = toldV g r b := by
  unfold toldV Kyr.corrected
  rw [told_race]
  rfl
theorem corr_put {g : Regatta} (W : Wf g) {r b : Nat} (hr : r < g.races.length) (hb : b < boats g) (t : Told) (r' b' : Nat) :
    toldV (Kyr.put g r b t) r' b' = if r' = r ∧ b' = b then [nI t.kind, nI (t.seconds * g.ratings.getD b 0), nI t.fined] else toldV g r' b' := by
  unfold toldV Kyr.corrected
  rw [told_put W hr hb]
  by_cases e : r' = r ∧ b' = b
  · rw [if_pos e, if_pos e, e.2]
    rfl
  · rw [if_neg e, if_neg e]
    rfl
/-- all that was tracked is as it was, but what lies at bs, and tables of code -/
def KeepS (H H' : Hp) (bs : List Addr) : Prop := ∀ b o, H b = some o → b ∉ bs → notT o = true → H' b = some o
theorem KeepS.of {H H' : Hp} (s : Stay H H') (bs : List Addr) : KeepS H H' bs := fun b o e _ n => s.at b o e n
theorem KeepS.ofK {H H' : Hp} {bs : List Addr} (s : Keep H H' bs) : KeepS H H' bs := fun b o e m _ => s b o e m
theorem KeepS.trans {H H1 H2 : Hp} {bs : List Addr} (a : KeepS H H1 bs) (b : KeepS H1 H2 bs) : KeepS H H2 bs := fun c o h n t => b c o (a c o h n t) n t
theorem KeepS.more {H H' : Hp} {bs cs : List Addr} (a : KeepS H H' bs) (h : ∀ b ∈ bs, b ∈ cs) : KeepS H H' cs := fun c o e n t => a c o e (fun m => n (h c m)) t
/-- what is written is no table and no code -/
theorem plainL {H : Hp} {a : Addr} {xs : List V} (h : H a = some (.lst xs)) : ∀ o, H a = some o → (∀ ps, o ≠ .tbl ps) ∧ ∀ φ, o ≠ .ext φ := fun o e => by
  rw [h] at e
  cases e
  exact ⟨(fun _ z => by cases z), (fun _ z => by cases z)⟩
theorem plainI {H : Hp} {a C dx : Addr} {fs : List (Str × V)} (h : H a = some (.ins C dx fs)) : ∀ o, H a = some o → (∀ ps, o ≠ .tbl ps) ∧ ∀ φ, o ≠ .ext φ := fun o e => by
  rw [h] at e
  cases e
  exact ⟨(fun _ z => by cases z), (fun _ z => by cases z)⟩
theorem plainD {H : Hp} {a : Addr} {kvs : List (Key × V)} (h : H a = some (.dK kvs)) : ∀ o, H a = some o → (∀ ps, o ≠ .tbl ps) ∧ ∀ φ, o ≠ .ext φ := fun o e => by
  rw [h] at e
  cases e
  exact ⟨(fun _ z => by cases z), (fun _ z => by cases z)⟩

def spInit (C : Addr) : Sp := fun vs H Q _ => ∃ (p dx : Addr), vs = [.ref p] ∧ H p = some (.ins C dx []) ∧ Tabs H ∧ ∀ (lr lc : Addr) (H' : Hp), H lr = none → H lc = none → Reg C H' p lr lc [] (Kyr.begun [0, 0, 0]) → Keep H H' [p] → Q .non H'
def spStart (C : Addr) : Sp := fun vs H Q _ => ∃ (p lr lc la : Addr) (ds : List Addr) (g : Regatta) (a b c : Nat), vs = [.ref p, .ref la] ∧ Reg C H p lr lc ds g ∧ H la = some (.tup [nI a, nI b, nI c]) ∧
  if Kyr.okMarks 0 [a, b, c] then ∀ (lr' lc' : Addr) (H' : Hp), H lr' = none → H lc' = none → Reg C H' p lr' lc' [] (Kyr.begun [a, b, c]) → Keep H H' [p] → Q (.int 0) H' else Q (.int (-22)) H
def spBoat (C : Addr) : Sp := fun vs H Q _ => ∃ (p lr lc : Addr) (ds : List Addr) (g : Regatta) (q : Nat), vs = [.ref p, nI q] ∧ Reg C H p lr lc ds g ∧
  if q < 500 ∨ 2000 < q then Q (.int (-22)) H else if boats g = 32 then Q (.int (-28)) H else ∀ (H' : Hp), Reg C H' p lr lc ds (moreBoat g q) → Keep H H' [lr] → Q (nI (boats g)) H'
def spRace (C : Addr) : Sp := fun vs H Q _ => ∃ (p lr lc : Addr) (ds : List Addr) (g : Regatta), vs = [.ref p] ∧ Reg C H p lr lc ds g ∧
  if g.races.length = 20 then Q (.int (-28)) H else ∀ (d : Addr) (H' : Hp), H d = none → Reg C H' p lr lc (ds ++ [d]) (moreRace g) → Keep H H' [lc] → Q (nI g.races.length) H'
def spHasB (C : Addr) : Sp := fun vs H Q _ => ∃ (p lr lc : Addr) (ds : List Addr) (g : Regatta) (b : Nat), vs = [.ref p, nI b] ∧ Reg C H p lr lc ds g ∧ Q (.bl (decide (b < boats g))) H
def spHas (C : Addr) : Sp := fun vs H Q _ => ∃ (p lr lc : Addr) (ds : List Addr) (g : Regatta) (r b : Nat), vs = [.ref p, nI r, nI b] ∧ Reg C H p lr lc ds g ∧ Q (.bl (decide (r < g.races.length) && decide (b < boats g))) H
section
variable {P : Program} {w : World} {K : PySem.W.Frag} {mg : Str → Option Value} {base : Heap} {C : Addr}
theorem wf_zero : Wf (Kyr.begun [0, 0, 0]) := wf_none
/-! ### __init__ -/
theorem scInit : FnScope ["self"] ["self"] (defScope sInit) := ⟨rfl, rfl, rfl, by decide +kernel, rfl, by decide +kernel, by decide +kernel⟩
theorem ok_init {f : Addr} {fd : FuncData} (T : Txt K mg C) (F : Fun K "__init__" "Regatta.__init__" sInit f fd) : FnOk P w K mg base CX0 1 f fd ["self"] (spInit C) := by
  refine F.ok scInit (fun vs H Q E h => ?_) (fun cdv A outer s H vs Q E hr h => ?_)
  · obtain ⟨p, dx, rfl, _⟩ := h
    rfl
  · obtain ⟨p, dx, rfl, hp, hT, k⟩ := h
    refine ⟨_, pss_cons (ps_fld (pv 0) (pe_tup (pa_cons pe_int (pa_cons pe_int (pa_cons pe_int pa_nil)))) rfl)
      (pss_cons (ps_fld (pv 0) (pe_lst pa_nil) rfl)
      (pss_one (ps_fld (pv 0) (pe_lst pa_nil) rfl))), ?_⟩
    refine ⟨(by show 3 ≤ sizeLine; decide), fun la hla => ?_⟩
    have n1 : p ≠ la := ne_of_none hp hla
    refine ⟨_, rfl, p, C, dx, [], rfl, (by rw [upd_ne n1]; exact hp), T.cl, T.nL, (by show 0 < 1000; decide), ?_⟩
    refine ⟨Nat.zero_le _, fun lr hlr => ?_⟩
    have n2 : p ≠ lr := ne_of_none (by rw [upd_same]) hlr
    have n3 : la ≠ lr := ne_of_none (by rw [upd_ne n1.symm, upd_same]) hlr
    refine ⟨_, rfl, p, C, dx, _, rfl, (by rw [upd_ne n2, upd_same]), T.cl, T.nR, (by show 1 < 1000; decide), ?_⟩
    refine ⟨Nat.zero_le _, fun lc hlc => ?_⟩
    have n4 : p ≠ lc := ne_of_none (by rw [upd_same]) hlc
    have n5 : lr ≠ lc := ne_of_none (by rw [upd_ne n2.symm, upd_same]) hlc
    have n6 : la ≠ lc := ne_of_none (by rw [upd_ne n1.symm, upd_ne n3, upd_ne n1.symm, upd_same]) hlc
    refine ⟨_, rfl, p, C, dx, _, rfl, (by rw [upd_ne n4, upd_same]), T.cl, T.nC, (by rw [show (putF "ratings" (V.ref lr) (putF "limits" (V.ref la) [])).length = 2 from rfl]; decide), ?_⟩
    have hlr0 : H lr = none := by rw [upd_ne n2.symm, upd_ne n3.symm] at hlr; exact hlr
    have hlc0 : H lc = none := by rw [upd_ne n4.symm, upd_ne n5.symm, upd_ne n4.symm, upd_ne n6.symm] at hlc; exact hlc
    have kp : Keep H (upd (upd (upd (upd (upd (upd H la (.tup [V.int 0, V.int 0, V.int 0])) p (.ins C dx (putF "limits" (V.ref la) []))) lr (.lst [])) p (.ins C dx (putF "ratings" (V.ref lr) (putF "limits" (V.ref la) [])))) lc (.lst [])) p (.ins C dx (putF "races" (V.ref lc) (putF "ratings" (V.ref lr) (putF "limits" (V.ref la) []))))) [p] := fun b o e hb => by
      have b1 : b ≠ p := fun q => hb (by rw [q]; simp)
      rw [upd_ne b1, upd_ne (ne_of_none e hlc0), upd_ne b1, upd_ne (ne_of_none e hlr0), upd_ne b1, upd_ne (ne_of_none e hla)]
      exact e
    refine k lr lc _ hlr0 hlc0 ⟨⟨dx, la, 0, 0, 0, ?_, rfl, ?_⟩, ?_, ?_, n5, rfl, List.nodup_nil, fun r d e => by simp at e, wf_zero, hT.keep kp fun b m => by rw [List.mem_singleton.mp m]; exact plainI hp⟩ kp
    · rw [upd_same]
      exact congrArg (fun q => some (HO.ins C dx q)) (put_all la lr lc)
    · rw [upd_ne n1.symm, upd_ne n6, upd_ne n1.symm, upd_ne n3, upd_ne n1.symm, upd_same]
      rfl
    · rw [upd_ne n2.symm, upd_ne n5, upd_ne n2.symm, upd_same]
      rfl
    · rw [upd_ne n4.symm, upd_same]
      rfl
/-! ### start -/
theorem scStart : FnScope ["self", "limits"] ["self", "limits"] (defScope sStart) := ⟨rfl, rfl, rfl, by decide +kernel, rfl, by decide +kernel, by decide +kernel⟩
theorem ok_start {f : Addr} {fd : FuncData} (T : Txt K mg C) (D : DefM K C "start" "Regatta.start" sStart ["self", "limits"] f fd) (GL : GOk P w K mg base 1 "limits_are_as_told" ["limits"] (spLim K)) :
    MOk P w K mg base C 2 "start" ["self", "limits"] (spStart C) := by
  obtain ⟨F, b, hm⟩ := D
  refine ⟨f, fd, F.ok scStart (fun vs H Q E h => ?_) (fun cdv A outer s H vs Q E hr h => ?_), b, hm⟩
  · obtain ⟨p, lr, lc, la, ds, g, a, b, c, rfl, _⟩ := h
    rfl
  · obtain ⟨p, lr, lc, la, ds, g, x, y, z, rfl, R, hla, k⟩ := h
    obtain ⟨dx, la0, a0, b0, c0, hp, _, _⟩ := R.ob
    refine ⟨_, pss_cons (ps_if (pt_not (pt_val (pe_g GL hr (Nat.le_refl _) rfl (pa_cons (pv 1) pa_nil)))) (pss_one (ps_ret (pe_gI T.notAs))) pss_nil)
      (pss_cons (ps_fld (pv 0) (pv 1) rfl)
      (pss_cons (ps_fld (pv 0) (pe_lst pa_nil) rfl)
      (pss_cons (ps_fld (pv 0) (pe_lst pa_nil) rfl)
      (pss_one (ps_ret pe_int))))), ?_⟩
    refine ⟨_, rfl, la, [x, y, z], rfl, SqT.of hla, _, rfl, ?_⟩
    cases e : Kyr.okMarks 0 [x, y, z] with
    | false =>
      rw [e] at k
      exact k
    | true =>
      rw [e, if_pos rfl] at k
      refine iteF ?_
      have n1 : la ≠ p := ne_of hla hp (by intro q; cases q)
      refine ⟨_, rfl, _, rfl, p, C, dx, _, rfl, hp, T.cl, T.nL, fl_len _ _ _, ?_⟩
      refine ⟨Nat.zero_le _, fun lr' hlr' => ?_⟩
      have n2 : p ≠ lr' := ne_of_none (by rw [upd_same]) hlr'
      have hlr0 : H lr' = none := by rw [upd_ne n2.symm] at hlr'; exact hlr'
      have n3 : la ≠ lr' := ne_of_none hla hlr0
      refine ⟨_, rfl, p, C, dx, _, rfl, (by rw [upd_ne n2, upd_same, put_limits]), T.cl, T.nR, fl_len _ _ _, ?_⟩
      refine ⟨Nat.zero_le _, fun lc' hlc' => ?_⟩
      have n4 : p ≠ lc' := ne_of_none (by rw [upd_same]) hlc'
      have n5 : lr' ≠ lc' := ne_of_none (by rw [upd_ne n2.symm, upd_same]) hlc'
      have hlc0 : H lc' = none := by rw [upd_ne n4.symm, upd_ne n5.symm, upd_ne n4.symm] at hlc'; exact hlc'
      have n6 : la ≠ lc' := ne_of_none hla hlc0
      refine ⟨_, rfl, p, C, dx, _, rfl, (by rw [upd_ne n4, upd_same, put_ratings]), T.cl, T.nC, fl_len _ _ _, ?_⟩
      have kp : ∀ b o, H b = some o → b ≠ p → (upd (upd (upd (upd (upd H p (.ins C dx (putF "limits" (V.ref la) (flds la0 lr lc)))) lr' (.lst [])) p (.ins C dx (putF "ratings" (V.ref lr') (flds la lr lc)))) lc' (.lst [])) p (.ins C dx (putF "races" (V.ref lc') (flds la lr' lc)))) b = some o := fun b o e b1 => by
        rw [upd_ne b1, upd_ne (ne_of_none e hlc0), upd_ne b1, upd_ne (ne_of_none e hlr0), upd_ne b1]
        exact e
      have kp2 : Keep H _ [p] := fun b o e hb => kp b o e fun q => hb (by rw [q]; simp)
      refine k lr' lc' _ hlr0 hlc0 ⟨⟨dx, la, x, y, z, ?_, rfl, kp _ _ hla n1⟩, ?_, ?_, n5, rfl, List.nodup_nil, fun r d e => by simp at e, wf_begun e, R.tabs.keep kp2 fun b m => by rw [List.mem_singleton.mp m]; exact plainI hp⟩ kp2
      · rw [upd_same, put_races]
      · rw [upd_ne n2.symm, upd_ne n5, upd_ne n2.symm, upd_same]
        rfl
      · rw [upd_ne n4.symm, upd_same]
        rfl
/-! ### add_boat -/
theorem scBoat : FnScope ["self", "rating"] ["self", "rating"] (defScope sBoat) := ⟨rfl, rfl, rfl, by decide +kernel, rfl, by decide +kernel, by decide +kernel⟩
theorem ok_boat {f : Addr} {fd : FuncData} (T : Txt K mg C) (D : DefM K C "add_boat" "Regatta.add_boat" sBoat ["self", "rating"] f fd) : MOk P w K mg base C 1 "add_boat" ["self", "rating"] (spBoat C) := by
  obtain ⟨F, b, hm⟩ := D
  refine ⟨f, fd, F.ok scBoat (fun vs H Q E h => ?_) (fun cdv A outer s H vs Q E hr h => ?_), b, hm⟩
  · obtain ⟨p, lr, lc, ds, g, q, rfl, _⟩ := h
    rfl
  · obtain ⟨p, lr, lc, ds, g, q, rfl, R, k⟩ := h
    obtain ⟨apr, apc, apd⟩ := R.apart
    obtain ⟨⟨dx, la, a, b, c, hp, hmk, hla⟩, hlr, hlc, hsep, hlen, hnd, hdic, wf, hT⟩ := id R
    refine ⟨_, pss_cons (ps_if (pt_not (pt_chain op_le op_le (pe_gI T.leastQ) (pv 1) (pe_gI T.mostQ))) (pss_one (ps_ret (pe_gI T.notAs))) pss_nil)
      (pss_cons (ps_if (pt_cmpR op_eq (pe_callB call_len_seq (by rfl) T.len PySem.boot_len (pa_cons (pe_fld (pv 0) rfl) pa_nil)) (pe_gI T.mostB) (nomark _)) (pss_one (ps_ret (pe_gI T.noRoom))) pss_nil)
      (pss_cons (ps_expr (pe_bm PySem.F.plainAttrs_list PySem.F.slot_list_append PySem.F.type_list_append mt_append (pe_fld (pv 0) rfl) (pa_cons (pv 1) pa_nil)))
      (pss_one (ps_ret (pe_op op_sub (pe_callB call_len_seq (by rfl) T.len PySem.boot_len (pa_cons (pe_fld (pv 0) rfl) pa_nil)) pe_int))))), ?_⟩
    refine ⟨_, rfl, _, _, rfl, rfl, _, rfl, ?_⟩
    refine ite2 (fun h1 => ?_) (fun h1 => ?_)
    · have h1 := of_decide_eq_true h1
      refine ⟨_, _, rfl, rfl, _, rfl, ?_⟩
      refine ite2 (fun h2 => ?_) (fun h2 => ?_)
      · have h2 : ¬ q ≤ 2000 := fun z => by
          rw [decide_eq_true (show (q : Int) ≤ 2000 by omega)] at h2
          cases h2
        rw [if_pos (by omega)] at k
        exact k
      · have h2 : q ≤ 2000 := by
          by_cases z : q ≤ 2000
          · exact z
          · exact absurd (by rw [decide_eq_false (show ¬ (q : Int) ≤ 2000 by omega)]; rfl) h2
        rw [if_neg (by omega)] at k
        refine ⟨_, rfl, p, C, dx, _, _, rfl, hp, T.cl, T.nR, fl_ratings _ _ _, lr, _, rfl, .inl (SqL.of hlr), rfl, _, rfl, ?_⟩
        rw [List.length_map]
        refine ite2 (fun h3 => ?_) (fun h3 => ?_)
        · have h4 : boats g = 32 := by
            have h5 := of_decide_eq_true h3
            injection h5 with h5
            show g.ratings.length = 32
            omega
          rw [if_pos h4] at k
          exact k
        · have h4 : ¬ boats g = 32 := fun z => h3 (decide_eq_true (by rw [show g.ratings.length = 32 from z]; rfl))
          rw [if_neg h4] at k
          have h5 : g.ratings.length < 32 := by
            have z1 := wf.boats
            have z2 : ¬ g.ratings.length = 32 := h4
            omega
          refine ⟨_, rfl, p, C, dx, _, _, rfl, hp, T.cl, T.nR, fl_ratings _ _ _, .inl ⟨rfl, _, SqL.of hlr⟩, _, rfl, lr, _, _, rfl, rfl, hlr, (by rw [List.length_map]; exact small1000 (by omega)), ?_⟩
          refine ⟨_, rfl, p, C, dx, _, _, rfl, (by rw [upd_ne apr]; exact hp), T.cl, T.nR, fl_ratings _ _ _, lr, _, rfl, .inl (SqL.of upd_same), _, _, rfl, rfl, ?_⟩
          have e1 : V.int (((g.ratings.map nI ++ [nI q]).length : Int) - 1) = nI (boats g) := by
            rw [List.length_append, List.length_map]
            show V.int _ = V.int _
            congr 1
            show ((g.ratings.length + 1 : Nat) : Int) - 1 = (g.ratings.length : Int)
            omega
          dsimp only
          rw [e1]
          have st : ∀ {z : Addr} {o : HO}, H z = some o → z ≠ lr → (upd H lr (.lst (g.ratings.map nI ++ [nI q]))) z = some o := fun e n => by rw [upd_ne n]; exact e
          have kp : Keep H (upd H lr (.lst (g.ratings.map nI ++ [nI q]))) [lr] := fun z o e n => st e fun y => n (by rw [y]; simp)
          refine k _ ⟨⟨dx, la, a, b, c, st hp apr, hmk, st hla (ne_of hla hlr (by intro z; cases z))⟩, ?_, st hlc hsep.symm, hsep, ?_, hnd, fun r d e => ?_, wf.boat (by omega) h2 h5, hT.keep kp fun b m => by rw [List.mem_singleton.mp m]; exact plainL hlr⟩ kp
          · rw [upd_same]
            show _ = some (HO.lst ((g.ratings ++ [q]).map nI))
            rw [List.map_append]
            rfl
          · show ds.length = (g.races.map _).length
            rw [List.length_map]
            exact hlen
          · obtain ⟨bs, qq, h6, h7, h8, h9⟩ := hdic r d e
            refine ⟨bs, qq, st h6 (ne_of h6 hlr (by intro z; cases z)), h7, fun b m => ⟨?_, ?_⟩, fun b m => by rw [told_boat]; exact h9 b m⟩
            · show b < (g.ratings ++ [q]).length
              rw [List.length_append]
              exact Nat.lt_succ_of_lt (h8 b m).1
            · rw [corr_boat (h8 b m).1]
              exact st (h8 b m).2 (ne_of (h8 b m).2 hlr (by intro z; cases z))
    · have h1 : ¬ 500 ≤ q := fun z => h1 (decide_eq_true (by omega))
      rw [if_pos (by omega)] at k
      exact ⟨_, rfl, k⟩
end
end Rg
end

section
set_option Elab.async false
set_option linter.all false
set_option maxRecDepth 100000
set_option maxHeartbeats 2000000
namespace Rg
open PySem PySem.Spec PyProof.Rows L2
open Kyr (Regatta Told told nothing boats)
section
variable {P : Program} {w : World} {K : PySem.W.Frag} {mg : Str → Option Value} {base : Heap} {C : Addr}
/-! ### add_race -/
theorem scRace : FnScope ["self"] ["self"] (defScope sRace) := ⟨rfl, rfl, rfl, by decide +kernel, rfl, by decide +kernel, by decide +kernel⟩
theorem ok_race {f : Addr} {fd : FuncData} (T : Txt K mg C) (D : DefM K C "add_race" "Regatta.add_race" sRace ["self"] f fd) : MOk P w K mg base C 1 "add_race" ["self"] (spRace C) := by
  obtain ⟨F, b, hm⟩ := D
  refine ⟨f, fd, F.ok scRace (fun vs H Q E h => ?_) (fun cdv A outer s H vs Q E hr h => ?_), b, hm⟩
  · obtain ⟨p, lr, lc, ds, g, rfl, _⟩ := h
    rfl
  · obtain ⟨p, lr, lc, ds, g, rfl, R, k⟩ := h
    obtain ⟨apr, apc, apd⟩ := R.apart
    obtain ⟨⟨dx, la, a, b, c, hp, hmk, hla⟩, hlr, hlc, hsep, hlen, hnd, hdic, wf, hT⟩ := id R
    refine ⟨_, pss_cons (ps_if (pt_cmpR op_eq (pe_callB call_len_seq (by rfl) T.len PySem.boot_len (pa_cons (pe_fld (pv 0) rfl) pa_nil)) (pe_gI T.mostR) (nomark _)) (pss_one (ps_ret (pe_gI T.noRoom))) pss_nil)
      (pss_cons (ps_expr (pe_bm PySem.F.plainAttrs_list PySem.F.slot_list_append PySem.F.type_list_append mt_append (pe_fld (pv 0) rfl) (pa_cons pe_dnewK pa_nil)))
      (pss_one (ps_ret (pe_op op_sub (pe_callB call_len_seq (by rfl) T.len PySem.boot_len (pa_cons (pe_fld (pv 0) rfl) pa_nil)) pe_int)))), ?_⟩
    refine ⟨_, rfl, p, C, dx, _, _, rfl, hp, T.cl, T.nC, fl_races _ _ _, lc, _, rfl, .inl (SqL.of hlc), rfl, _, rfl, ?_⟩
    rw [List.length_map]
    refine ite2 (fun h => ?_) (fun h => ?_)
    · have h1 : g.races.length = 20 := by
        have h2 := of_decide_eq_true h
        injection h2 with h2
        omega
      rw [if_pos h1] at k
      exact k
    · have h1 : ¬ g.races.length = 20 := fun z => h (decide_eq_true (by rw [hlen, z]; rfl))
      rw [if_neg h1] at k
      have hr20 := wf.races
      refine ⟨_, rfl, p, C, dx, _, _, rfl, hp, T.cl, T.nC, fl_races _ _ _, .inl ⟨rfl, _, SqL.of hlc⟩, fun d hd => ?_⟩
      have n1 : lc ≠ d := ne_of_none hlc hd
      refine ⟨lc, _, _, rfl, rfl, (by rw [upd_ne n1]; exact hlc), (by rw [List.length_map]; exact small1000 (by omega)), ?_⟩
      refine ⟨_, rfl, p, C, dx, _, _, rfl, (by rw [upd_ne apc, upd_ne (ne_of_none hp hd)]; exact hp), T.cl, T.nC, fl_races _ _ _, lc, _, rfl, .inl (SqL.of upd_same), _, _, rfl, rfl, ?_⟩
      have e1 : V.int (((ds.map V.ref ++ [V.ref d]).length : Int) - 1) = nI g.races.length := by
        rw [List.length_append, List.length_map]
        show V.int _ = V.int _
        congr 1
        show ((ds.length + 1 : Nat) : Int) - 1 = (g.races.length : Int)
        omega
      dsimp only
      rw [e1]
      have st : ∀ {z : Addr} {o : HO}, H z = some o → z ≠ lc → (upd (upd H d (.dK [])) lc (.lst (ds.map V.ref ++ [V.ref d]))) z = some o := fun e n => by rw [upd_ne n, upd_ne (ne_of_none e hd)]; exact e
      have kp : Keep H (upd (upd H d (.dK [])) lc (.lst (ds.map V.ref ++ [V.ref d]))) [lc] := fun z o e n => st e fun y => n (by rw [y]; simp)
      have hdd : d ∉ ds := fun m => by
        obtain ⟨r, hr⟩ := List.getElem?_of_mem m
        obtain ⟨bs, q, e, _⟩ := hdic r d hr
        rw [e] at hd
        cases hd
      refine k d _ hd ⟨⟨dx, la, a, b, c, st hp apc, hmk, st hla (ne_of hla hlc (by intro z; cases z))⟩, st hlr hsep, ?_, hsep, ?_, ?_, fun r d' e => ?_, wf.race (by omega), hT.keep kp fun b m => by rw [List.mem_singleton.mp m]; exact plainL hlc⟩ kp
      · rw [upd_same, List.map_append]
        rfl
      · show (ds ++ [d]).length = (g.races ++ [_]).length
        rw [List.length_append, List.length_append, hlen]
        rfl
      · rw [List.nodup_append]
        exact ⟨hnd, List.nodup_cons.mpr ⟨List.not_mem_nil, List.nodup_nil⟩, fun x mx y my => by rw [List.mem_singleton.mp my]; intro z; exact hdd (by rw [← z]; exact mx)⟩
      · by_cases hlt : r < ds.length
        · rw [List.getElem?_append_left hlt] at e
          obtain ⟨bs, qq, h6, h7, h8, h9⟩ := hdic r d' e
          refine ⟨bs, qq, st h6 (ne_of h6 hlc (by intro z; cases z)), h7, fun b m => ⟨(h8 b m).1, ?_⟩, fun b m => by rw [told_race]; exact h9 b m⟩
          rw [corr_race]
          exact st (h8 b m).2 (ne_of (h8 b m).2 hlc (by intro z; cases z))
        · rw [List.getElem?_append_right (by omega)] at e
          by_cases h0 : r - ds.length = 0
          · rw [h0] at e
            have e := Option.some.inj e
            subst e
            refine ⟨[], fun _ => 0, ?_, List.nodup_nil, fun b m => (by cases m), fun b _ => by rw [told_race]; exact told_out_race (by omega)⟩
            rw [upd_ne n1.symm, upd_same]
            rfl
          · rw [List.getElem?_eq_none (by simp; omega)] at e
            cases e
/-! ### has_boat, has -/
theorem scHasB : FnScope ["self", "boat"] ["self", "boat"] (defScope sHasB) := ⟨rfl, rfl, rfl, by decide +kernel, rfl, by decide +kernel, by decide +kernel⟩
theorem ok_hasB {f : Addr} {fd : FuncData} (T : Txt K mg C) (D : DefM K C "has_boat" "Regatta.has_boat" sHasB ["self", "boat"] f fd) : MOk P w K mg base C 1 "has_boat" ["self", "boat"] (spHasB C) := by
  obtain ⟨F, b, hm⟩ := D
  refine ⟨f, fd, F.ok scHasB (fun vs H Q E h => ?_) (fun cdv A outer s H vs Q E hr h => ?_), b, hm⟩
  · obtain ⟨p, lr, lc, ds, g, b, rfl, _⟩ := h
    rfl
  · obtain ⟨p, lr, lc, ds, g, b, rfl, R, k⟩ := h
    obtain ⟨dx, la, a, b', c, hp, hmk, hla⟩ := R.ob
    refine ⟨_, pss_one (ps_ret (pe_cmpR op_lt (pv 1) (pe_callB call_len_seq (by rfl) T.len PySem.boot_len (pa_cons (pe_fld (pv 0) rfl) pa_nil)) (nomark _))), ?_⟩
    refine ⟨_, rfl, _, rfl, p, C, dx, _, _, rfl, hp, T.cl, T.nR, fl_ratings _ _ _, lr, _, rfl, .inl (SqL.of R.rat), _, _, rfl, rfl, ?_⟩
    rw [List.length_map]
    have e : decide ((b : Int) < (g.ratings.length : Int)) = decide (b < boats g) := by
      rw [Bool.eq_iff_iff, decide_eq_true_iff, decide_eq_true_iff]
      show _ ↔ b < g.ratings.length
      omega
    dsimp only
    rw [e]
    exact k
theorem scHas : FnScope ["self", "race", "boat"] ["self", "race", "boat"] (defScope sHas) := ⟨rfl, rfl, rfl, by decide +kernel, rfl, by decide +kernel, by decide +kernel⟩
theorem ok_has {f : Addr} {fd : FuncData} (T : Txt K mg C) (D : DefM K C "has" "Regatta.has" sHas ["self", "race", "boat"] f fd) (GB : MOk P w K mg base C 1 "has_boat" ["self", "boat"] (spHasB C)) : MOk P w K mg base C 2 "has" ["self", "race", "boat"] (spHas C) := by
  obtain ⟨F, b, hm⟩ := D
  refine ⟨f, fd, F.ok scHas (fun vs H Q E h => ?_) (fun cdv A outer s H vs Q E hr h => ?_), b, hm⟩
  · obtain ⟨p, lr, lc, ds, g, r, b, rfl, _⟩ := h
    rfl
  · obtain ⟨p, lr, lc, ds, g, r, b, rfl, R, k⟩ := h
    obtain ⟨dx, la, a, b', c, hp, hmk, hla⟩ := R.ob
    refine ⟨_, pss_one (ps_ret (pe_and (pe_cmpR op_lt (pv 1) (pe_callB call_len_seq (by rfl) T.len PySem.boot_len (pa_cons (pe_fld (pv 0) rfl) pa_nil)) (nomark _)) (pe_one (pe_m GB T.cl hr (by decide) (pv 0) (pa_cons (pv 2) pa_nil))))), ?_⟩
    refine ⟨_, rfl, _, rfl, p, C, dx, _, _, rfl, hp, T.cl, T.nC, fl_races _ _ _, lc, _, rfl, .inl (SqL.of R.rcs), _, _, rfl, rfl, _, rfl, ?_⟩
    rw [List.length_map, R.len]
    by_cases h1 : r < g.races.length
    · rw [decide_eq_true (show (r : Int) < (g.races.length : Int) by omega)]
      refine iteT ?_
      rw [decide_eq_true h1, Bool.true_and] at k
      exact ⟨_, rfl, p, dx, _, rfl, hp, fl_no _ _ _ (by decide +kernel), _, rfl, p, lr, lc, ds, g, b, rfl, R, k⟩
    · rw [decide_eq_false (show ¬ (r : Int) < (g.races.length : Int) by omega)]
      refine iteF ?_
      rw [decide_eq_false h1, Bool.false_and] at k
      exact k
/-! ### told_of -/
def spToldOf (K : PySem.W.Frag) (C : Addr) : Sp := fun vs H Q _ => ∃ (p lr lc : Addr) (ds : List Addr) (g : Regatta) (b : Nat), vs = [.ref p, nI b] ∧ Reg C H p lr lc ds g ∧
  ∀ (D : Addr) (qs : List Addr) (H' : Hp), Same H H' → H D = none → qs.length = g.races.length → H' D = some (.lst (qs.map V.ref)) → (∀ r q, qs[r]? = some q → SqT K H' q (toldV g r b)) → Q (.ref D) H'
theorem toldV_no {g : Regatta} {r b : Nat} (h : told g r b = nothing) : toldV g r b = [nI 0, nI 0, nI 0] := by
  unfold toldV Kyr.corrected
  rw [h]
  show [nI 0, nI (0 * _), nI 0] = _
  rw [Nat.zero_mul]
theorem scToldOf : FnScope ["self", "boat", "told"] ["self", "boat"] (defScope sToldOf) := ⟨rfl, rfl, rfl, by decide +kernel, rfl, by decide +kernel, by decide +kernel⟩
theorem ok_toldOf {f : Addr} {fd : FuncData} (T : Txt K mg C) (D : DefM K C "told_of" "Regatta.told_of" sToldOf ["self", "boat"] f fd) : MOk P w K mg base C 1 "told_of" ["self", "boat"] (spToldOf K C) := by
  obtain ⟨F, b, hm⟩ := D
  refine ⟨f, fd, F.ok scToldOf (fun vs H Q E h => ?_) (fun cdv A outer s H vs Q E hr h => ?_), b, hm⟩
  · obtain ⟨p, lr, lc, ds, g, b, rfl, _⟩ := h
    rfl
  · obtain ⟨p, lr, lc, ds, g, b, rfl, R, k⟩ := h
    obtain ⟨dx, la, a, b', c, hp, hmk, hla⟩ := R.ob
    obtain ⟨an, mn, sn⟩ := T.noth
    have hu := hu_of hr
    refine ⟨_, pss_one (ps_ret (pe_lc (own := [("told", 2)]) rfl scToldOf.nd (pi_list (pe_fld (pv 0) rfl)) (by refine blkOk_by (N := ["self", "boat", "told"]) (sc := defScope sToldOf) ?_; decide +kernel)
      (fun s H C cl fp => pg_name (i := 2) scToldOf.nd rfl (Or.inl rfl)) (fun s H C cl fp => pts_nil) (fun s H C cl fp => pe_dget2 hu (pv 2) (pv 1) (pe_gR mn) ⟨rfl, rfl, rfl, rfl⟩))), ?_⟩
    have hl20 := R.wf.races
    have hlen := R.len
    refine ⟨_, rfl, p, C, dx, _, _, rfl, hp, T.cl, T.nC, fl_races _ _ _, lc, rfl, ⟨_, SqL.of R.rcs⟩, fun D hD => ?_⟩
    refine lc_list (K := K) (a := lc) (xs := ds.map V.ref) (fun i H' => ∃ qs : List Addr, qs.length = i ∧ Grow H D (qs.map V.ref) H' ∧ ∀ r q, qs[r]? = some q → SqT K H' q (toldV g r b)) ⟨[], rfl, Grow.start hD, fun r q e => by simp at e⟩ (fun i H' _ ⟨qs, _, gr, _⟩ => gr.1.seq (SqL.of R.rcs)) (fun i x H2 hi ⟨qs, h1, gr, h2⟩ => ?_) fun H2 ⟨qs, h1, gr, h2⟩ => ?_
    · have hi2 : i < ds.length := by
        have := (List.getElem?_eq_some_iff.mp hi).1
        rwa [List.length_map] at this
      have ex : x = V.ref ds[i] := by
        rw [List.getElem?_map, List.getElem?_eq_getElem hi2] at hi
        exact (Option.some.inj hi).symm
      subst ex
      obtain ⟨bs, q, d1, d2, d3, d4⟩ := R.dic i ds[i] (List.getElem?_eq_getElem hi2)
      have d1' := gr.1 _ _ d1
      refine ⟨rfl, ?_⟩
      unfold tYes
      dsimp only
      rw [if_pos rfl]
      refine ⟨_, rfl, ds[i], rfl, .inl ⟨_, .inl d1'⟩, _, rfl, _, DGet.k (k := Sum.inl (b : Int)) d1', ?_⟩
      rw [val_kv]
      have fin : ∀ y : Addr, SqT K H2 y (toldV g i b) → ∃ acc, H2 D = some (.lst acc) ∧ acc.length < sizeLine ∧ ∃ qs : List Addr, qs.length = i + 1 ∧ Grow H D (qs.map V.ref) (upd H2 D (.lst (acc ++ [V.ref y]))) ∧ ∀ r q, qs[r]? = some q → SqT K (upd H2 D (.lst (acc ++ [V.ref y]))) q (toldV g r b) := fun y hy => by
        have keepT : ∀ {z : Addr} {xs : List V}, SqT K H2 z xs → SqT K (upd H2 D (.lst (qs.map V.ref ++ [V.ref y]))) z xs := fun {z xs} hz => by
          rcases hz with (hz | ⟨o, hz⟩) | hz
          · exact .inl (.inl (by rw [upd_ne (ne_of hz gr.2 (by intro z; cases z))]; exact hz))
          · exact .inl (.inr ⟨o, by rw [upd_ne (ne_of hz gr.2 (by intro z; cases z))]; exact hz⟩)
          · exact .inr hz
        refine ⟨_, gr.2, by rw [List.length_map]; exact small1000 (by omega), qs ++ [y], by rw [List.length_append, h1]; rfl, ?_, fun r q e => ?_⟩
        · rw [List.map_append]
          exact gr.more hD (fun b o e => e)
        · by_cases hlt : r < qs.length
          · rw [List.getElem?_append_left hlt] at e
            exact keepT (h2 r q e)
          · rw [List.getElem?_append_right (by omega)] at e
            by_cases h0 : r - qs.length = 0
            · rw [h0] at e
              have e := Option.some.inj e
              subst e
              rw [show r = i by omega]
              exact keepT hy
            · rw [List.getElem?_eq_none (by simp; omega)] at e
              cases e
      by_cases m : b ∈ bs
      · rw [if_pos m]
        exact fin (q b) (SqT.of (gr.1 _ _ (d3 b m).2))
      · rw [if_neg m]
        refine fin an ?_
        rw [toldV_no (d4 b m)]
        exact sn _
    · rw [List.length_map] at h1
      exact k D qs H2 gr.1 hD (by rw [h1, R.len]) gr.2 h2
/-! ### times_in -/
/-- the times of all that finished race r, the least first -/
def IsTimes (g : Regatta) (r : Nat) (ts : List Nat) : Prop := ts.Perm (((List.range (boats g)).filter (Kyr.finished g r)).map (Kyr.corrected g r)) ∧ ts.Pairwise (· ≤ ·)
def spTimes (C : Addr) : Sp := fun vs H Q _ => ∃ (p lr lc : Addr) (ds : List Addr) (g : Regatta) (r : Nat), vs = [.ref p, nI r] ∧ Reg C H p lr lc ds g ∧ r < g.races.length ∧
  ∀ (D : Addr) (ts : List Nat) (H' : Hp), IsTimes g r ts → Same H H' → H D = none → H' D = some (.lst (ts.map nI)) → Q (.ref D) H'
/-- over a dict's values: Pv by the turn and the heap -/
theorem lc_vals {d : Addr} {o : Obj} {kvs : List (Key × V)} {g : TG} {tt : TT} {te : TE} {vs : List Nat} {σ : L2.St} {H1 : Hp} {D : Addr} {Qd : Hp → Prop} (Pv : Nat → Hp → Prop) (h0 : Pv 0 (upd H1 D (.lst []))) (hl : ∀ i H, i ≤ kvs.length → Pv i H → H d = some (.frz o (.dK kvs)))
    (hs : ∀ i k x H, kvs[i]? = some (k, x) → Pv i H → g x (wipe σ vs) H fun σ2 H2 => wipe σ2 vs = wipe σ vs ∧ tt σ2 H2 fun b H3 =>
      if b = true then te σ2 H3 fun y H4 => ∃ acc, H4 D = some (.lst acc) ∧ acc.length < sizeLine ∧ Pv (i + 1) (upd H4 D (.lst (acc ++ [y]))) else Pv (i + 1) H3) (hd : ∀ H, Pv kvs.length H → Qd H) :
    ∃ W : Nat → Nat → Hp → Prop, (∃ m, W 0 m (upd H1 D (.lst []))) ∧ ∀ i m H, W i m H →
      ((Itd d o kvs).stop i H ∧ Qd H) ∨ ((Itd d o kvs).go i H ∧ ∃ Nx : Hp → Prop, (∀ H', Nx H' → ∃ m', m' < m ∧ W (i + 1) m' H') ∧ ∀ x H', (Itd d o kvs).yld i H x H' → g x (wipe σ vs) H' fun σ2 H2 => wipe σ2 vs = wipe σ vs ∧ tt σ2 H2 fun b H3 =>
        if b = true then te σ2 H3 fun y H4 => ∃ acc, H4 D = some (.lst acc) ∧ acc.length < sizeLine ∧ Nx (upd H4 D (.lst (acc ++ [y]))) else Nx H3) := by
  refine ⟨fun i m H => m = kvs.length - i ∧ i ≤ kvs.length ∧ Pv i H, ⟨kvs.length, by simp, Nat.zero_le _, h0⟩, ?_⟩
  rintro i m H ⟨rfl, hi, p⟩
  have q := hl i H hi p
  by_cases hlt : i < kvs.length
  · refine .inr ⟨⟨q, hlt⟩, Pv (i + 1), fun H' p' => ⟨kvs.length - (i + 1), by omega, rfl, hlt, p'⟩, fun x H' y => ?_⟩
    obtain ⟨rfl, k, y⟩ := y
    exact hs i k x _ y p
  · have e : i = kvs.length := by omega
    subst e
    exact .inl ⟨⟨q, Nat.le_refl _⟩, hd H p⟩
theorem perm_nat {ns : List Int} {l : List Nat} (h : ns.Perm (l.map fun x : Nat => (x : Int))) : ∃ ts : List Nat, ns = ts.map (fun x : Nat => (x : Int)) ∧ ts.Perm l := by
  refine ⟨ns.map Int.toNat, ?_, ?_⟩
  · rw [List.map_map]
    refine ((List.map_congr_left (g := id) fun x m => ?_).trans (List.map_id _)).symm
    obtain ⟨y, _, rfl⟩ := List.mem_map.mp (h.mem_iff.mp m)
    rfl
  · have := h.map Int.toNat
    rw [List.map_map] at this
    have e : List.map (Int.toNat ∘ fun x : Nat => (x : Int)) l = l := (List.map_congr_left (g := id) fun x m => rfl).trans (List.map_id _)
    rwa [e] at this
theorem take_filter_succ {bs : List Nat} {i b : Nat} {q : Nat → Bool} (h : bs[i]? = some b) : (bs.take (i + 1)).filter q = (bs.take i).filter q ++ (if q b = true then [b] else []) := by
  rw [List.take_add_one, h, List.filter_append]
  congr 1
  by_cases hb : q b = true
  · rw [if_pos hb]
    show List.filter q [b] = [b]
    rw [List.filter_cons, if_pos hb]
    rfl
  · rw [if_neg hb]
    show List.filter q [b] = []
    rw [List.filter_cons, if_neg hb]
    rfl
theorem scTimes : FnScope ["self", "race", "told"] ["self", "race"] (defScope sTimes) := ⟨rfl, rfl, rfl, by decide +kernel, rfl, by decide +kernel, by decide +kernel⟩
theorem ok_times {f : Addr} {fd : FuncData} (T : Txt K mg C) (D : DefM K C "times_in" "Regatta.times_in" sTimes ["self", "race"] f fd) : MOk P w K mg base C 1 "times_in" ["self", "race"] (spTimes C) := by
  obtain ⟨F, b, hm⟩ := D
  refine ⟨f, fd, F.ok scTimes (fun vs H Q E h => ?_) (fun cdv A outer s H vs Q E hr h => ?_), b, hm⟩
  · obtain ⟨p, lr, lc, ds, g, r, rfl, _⟩ := h
    rfl
  · obtain ⟨p, lr, lc, ds, g, r, rfl, R, hr1, k⟩ := h
    obtain ⟨dx, la, a, b', c, hp, hmk, hla⟩ := R.ob
    obtain ⟨apr, apc, apd⟩ := R.apart
    refine ⟨_, pss_one (ps_lock (ps_ret (pe_callB cr_sorted (by rfl) T.sorted boot_sorted (pa_cons (pe_lc (own := [("told", 2)]) rfl scTimes.nd (pi_values (pe_ix (ixL (K := K)) (pe_fld (pv 0) rfl) (pv 1) (fun _ _ => rfl))) (by refine blkOk_by (N := ["self", "race", "told"]) (sc := defScope sTimes) ?_; decide +kernel)
      (fun s H C cl fp => pg_name (i := 2) scTimes.nd rfl (Or.inl rfl)) (fun s H C cl fp => pts_one (pt_cmpR op_eq (pe_ix (ixT (K := K)) (pv 2) pe_int (fun _ _ => rfl)) (pe_gI T.fin) (nomark _))) (fun s H C cl fp => pe_ix (ixT (K := K)) (pv 2) pe_int (fun _ _ => rfl))) pa_nil)))), ?_⟩
    have hr2 : r < ds.length := by rw [R.len]; exact hr1
    obtain ⟨bs, q, d1, d2, d3, d4⟩ := R.dic r ds[r] (List.getElem?_eq_getElem hr2)
    obtain ⟨ap1, ap2, ap3⟩ := apd ds[r] (List.getElem_mem hr2)
    refine ⟨ds[r], _, d1, trivial, fun od => ?_⟩
    have sd : ∀ {z : Addr} {o : HO}, H z = some o → z ≠ ds[r] → (upd H ds[r] (.frz od (.dK (kvOf bs q)))) z = some o := fun e n => by rw [upd_ne n]; exact e
    refine ⟨_, rfl, p, C, dx, _, _, rfl, sd hp ap1.symm, T.cl, T.nC, fl_races _ _ _, _, rfl, lc, _, _, _, rfl, rfl, SqL.of (sd R.rcs ap3.symm), at_of (j := r) rfl (by rw [List.getElem?_map, List.getElem?_eq_getElem hr2]; rfl), ds[r], od, _, rfl, upd_same, fun D hD => ?_⟩
    have hDd : D ≠ ds[r] := fun z => by rw [z, upd_same] at hD; cases hD
    have hD0 : H D = none := by rw [upd_ne hDd] at hD; exact hD
    have hlb : bs.length ≤ 32 := Nat.le_trans (nodup_le d2 fun b m => (d3 b m).1) R.wf.boats
    have hkl : (kvOf bs q).length = bs.length := List.length_map _
    refine lc_vals (d := ds[r]) (o := od) (kvs := kvOf bs q) (fun i H' => Grow (upd H ds[r] (.frz od (.dK (kvOf bs q)))) D ((((bs.take i).filter (Kyr.finished g r)).map (Kyr.corrected g r)).map nI) H') (Grow.start hD) (fun i H' _ gr => gr.1 _ _ upd_same) (fun i kk x H2 hi gr => ?_) fun H2 gr => ?_
    · obtain ⟨b, hb, e1⟩ : ∃ b, bs[i]? = some b ∧ x = V.ref (q b) := by
        unfold kvOf at hi
        rw [List.getElem?_map] at hi
        cases z : bs[i]? with
        | none => rw [z] at hi; cases hi
        | some b =>
          rw [z] at hi
          injection hi with hi
          injection hi with _ hi
          exact ⟨b, rfl, hi.symm⟩
      subst e1
      have mb : b ∈ bs := List.mem_of_getElem? hb
      have hq : SqT K H2 (q b) (toldV g r b) := SqT.of (gr.1 _ _ (sd (d3 b mb).2 (ne_of (d3 b mb).2 d1 (by intro z; cases z))))
      refine ⟨rfl, _, rfl, q b, _, _, _, rfl, rfl, hq, at_of (j := 0) rfl rfl, rfl, _, rfl, ?_⟩
      have ef : decide (nI (told g r b).kind = V.int 1) = Kyr.finished g r b := by
        unfold Kyr.finished
        rw [Bool.eq_iff_iff, decide_eq_true_iff, beq_iff_eq]
        constructor
        · intro h
          injection h with h
          omega
        · intro h
          rw [h]
          rfl
      rw [ef, take_filter_succ hb]
      cases e : Kyr.finished g r b with
      | false =>
        refine iteF ?_
        rw [if_neg (by decide), List.append_nil]
        exact gr
      | true =>
        refine iteT ?_
        rw [if_pos rfl, List.map_append, List.map_append]
        refine ⟨_, rfl, q b, _, _, _, rfl, rfl, hq, at_of (j := 1) rfl rfl, _, gr.2, ?_, gr.more hD (fun b o e => e)⟩
        rw [List.length_map, List.length_map]
        have := List.length_filter_le (Kyr.finished g r) (bs.take i)
        rw [List.length_take] at this
        exact small1000 (by omega)
    · rw [hkl, List.take_length] at gr
      have es : (((bs.filter (Kyr.finished g r)).map (Kyr.corrected g r)).map nI) = (((bs.filter (Kyr.finished g r)).map (Kyr.corrected g r)).map fun x : Nat => (x : Int)).map V.int := by rw [List.map_map (g := V.int)]; rfl
      have g2 := gr.2
      rw [es] at g2
      refine ⟨D, _, rfl, SqL.of g2, ?_, fun ns' y h1 h2 hy => ?_⟩
      · rw [List.length_map, List.length_map]
        have := List.length_filter_le (Kyr.finished g r) bs
        omega
      · obtain ⟨ts, rfl, hts⟩ := perm_nat h1
        have hyd : y ≠ ds[r] := fun z => by rw [z, gr.1 _ _ upd_same] at hy; cases hy
        refine ⟨by rw [upd_ne hyd.symm]; exact gr.1 _ _ upd_same, ?_⟩
        have sm : Same H (upd (upd H2 y (.lst ((ts.map fun x : Nat => (x : Int)).map V.int))) ds[r] (.dK (kvOf bs q))) := fun z o e => by
          by_cases hz : z = ds[r]
          · subst hz
            rw [d1] at e
            cases e
            rw [upd_same]
          · rw [upd_ne hz]
            have e2 := gr.1 _ _ (sd e hz)
            rw [upd_ne (ne_of_none e2 hy)]
            exact e2
        have hy0 : H y = none := by
          cases z : H y with
          | none => rfl
          | some o =>
            have e2 := gr.1 _ _ (sd z hyd)
            rw [hy] at e2
            cases e2
        refine k y ts _ ⟨hts.trans ?_, ?_⟩ sm hy0 ?_
        · refine List.Perm.map _ (perm_nodup (d2.filter _) (List.nodup_range.filter _) fun x => ?_)
          rw [List.mem_filter, List.mem_filter, List.mem_range]
          constructor
          · exact fun h => ⟨(d3 x h.1).1, h.2⟩
          · intro h
            refine ⟨?_, h.2⟩
            by_cases m : x ∈ bs
            · exact m
            · have h3 := h.2
              unfold Kyr.finished at h3
              rw [d4 x m] at h3
              exact absurd h3 (by decide)
        · rw [List.pairwise_map] at h2
          exact h2.imp fun h => by omega
        · rw [upd_ne hyd, upd_same, List.map_map]
          rfl
end
end Rg
end

section
set_option Elab.async false
set_option linter.all false
set_option maxRecDepth 100000
set_option maxHeartbeats 2000000
namespace Rg
open Kyr (Regatta Told told nothing boats)

/-- in a sorted list the place of the first x is how many are less -/
theorem idx_sorted {x : Nat} : ∀ {l : List Nat}, l.Pairwise (· ≤ ·) → x ∈ l → l.idxOf x = (l.filter fun y => decide (y < x)).length
  | [], _, m => by cases m
  | a :: l, h, m => by
    rw [List.pairwise_cons] at h
    rw [List.idxOf_cons, List.filter_cons]
    by_cases e : a = x
    · subst e
      rw [beq_self_eq_true, cond_true]
      rw [if_neg (by simp)]
      symm
      rw [List.length_eq_zero_iff, List.filter_eq_nil_iff]
      intro y hy z
      have := h.1 y hy
      have := of_decide_eq_true z
      omega
    · have m2 : x ∈ l := by
        rcases List.mem_cons.mp m with z | z
        · exact absurd z.symm e
        · exact z
      have hax : a < x := by
        have := h.1 x m2
        omega
      rw [beq_eq_false_iff_ne.mpr e, cond_false, if_pos (decide_eq_true hax), idx_sorted h.2 m2]
      rfl
theorem mem_times {g : Regatta} {r b : Nat} {ts : List Nat} (h : IsTimes g r ts) (hb : b < boats g) (hf : Kyr.finished g r b = true) : Kyr.corrected g r b ∈ ts :=
  h.1.mem_iff.mpr (List.mem_map_of_mem (List.mem_filter.mpr ⟨List.mem_range.mpr hb, hf⟩))
theorem idx_before {g : Regatta} {r b : Nat} {ts : List Nat} (h : IsTimes g r ts) (hb : b < boats g) (hf : Kyr.finished g r b = true) : ts.idxOf (Kyr.corrected g r b) = Kyr.before g r b := by
  rw [idx_sorted h.2 (mem_times h hb hf), (h.1.filter _).length_eq, List.filter_map, List.length_map, List.filter_filter]
  unfold Kyr.before
  congr 1
  refine List.filter_congr fun c _ => ?_
  show (decide (Kyr.corrected g r c < Kyr.corrected g r b) && Kyr.finished g r c) = _
  rw [Bool.and_comm]
theorem count_level {g : Regatta} {r b : Nat} {ts : List Nat} (h : IsTimes g r ts) : ts.count (Kyr.corrected g r b) = Kyr.level g r b := by
  rw [h.1.count_eq, List.count, List.countP_eq_length_filter, List.filter_map, List.length_map, List.filter_filter]
  unfold Kyr.level
  congr 1
  refine List.filter_congr fun c _ => ?_
  show ((Kyr.corrected g r c == Kyr.corrected g r b) && Kyr.finished g r c) = _
  rw [Bool.and_comm]
theorem level_pos {g : Regatta} {r b : Nat} (hb : b < boats g) (hf : Kyr.finished g r b = true) : 0 < Kyr.level g r b := by
  unfold Kyr.level
  refine List.length_pos_of_mem (a := b) (List.mem_filter.mpr ⟨List.mem_range.mpr hb, ?_⟩)
  rw [hf]
  simp
theorem len_times {g : Regatta} {r : Nat} {ts : List Nat} (h : IsTimes g r ts) (W : Wf g) : ts.length ≤ 32 := by
  rw [h.1.length_eq, List.length_map]
  have := List.length_filter_le (Kyr.finished g r) (List.range (boats g))
  rw [List.length_range] at this
  exact Nat.le_trans this W.boats
theorem sail_plain {g : Regatta} {r b : Nat} {ts : List Nat} (W : Wf g) (h : IsTimes g r ts) (hb : b < boats g) : sailP (told g r b).kind (Kyr.corrected g r b) (told g r b).fined ts (boats g) = Kyr.plain g r b := by
  unfold sailP Kyr.plain
  by_cases hf : Kyr.finished g r b = true
  · have hk : (told g r b).kind = 1 := by
      unfold Kyr.finished at hf
      exact beq_iff_eq.mp hf
    rw [if_pos hk, if_pos hf]
    have e : finP ts (Kyr.corrected g r b) = 20 * (Kyr.before g r b + 1) + 10 * (Kyr.level g r b - 1) := by
      unfold finP
      rw [idx_before h hb hf, count_level h]
      have := level_pos hb hf
      omega
    have hfi := W.fined r b
    dsimp only
    by_cases h0 : (told g r b).fined = 0
    · rw [if_pos h0, if_neg (by omega), e]
    · rw [if_neg h0, if_pos (by omega), e]
      rfl
  · have hk : ¬ (told g r b).kind = 1 := fun z => hf (by unfold Kyr.finished; rw [z]; rfl)
    rw [if_neg hk, if_neg hf]
    rfl
theorem foldl_sum (l : List Nat) : l.foldl (· + ·) 0 = l.sum := by
  have : ∀ (l : List Nat) (a : Nat), l.foldl (· + ·) a = a + l.sum := by
    intro l
    induction l with
    | nil => intro a; rfl
    | cons x r ih => intro a; rw [List.foldl_cons, ih, List.sum_cons]; omega
  rw [this, Nat.zero_add]
theorem made_is (g : Regatta) (b : Nat) : madeP (((List.range g.races.length).filter fun r => (told g r b).kind != 7).map fun r => Kyr.plain g r b) (boats g) = Kyr.made g b := by
  unfold madeP Kyr.made
  generalize (List.range g.races.length).filter (fun r => (told g r b).kind != 7) = l
  dsimp only
  cases l with
  | nil => rfl
  | cons a l =>
    rw [if_neg (by simp), if_neg (by simp), foldl_sum, List.length_map]
    congr 1
    rw [show 2 * (List.map (fun r => Kyr.plain g r b) (a :: l)).sum + 2 * (a :: l).length = 2 * ((List.map (fun r => Kyr.plain g r b) (a :: l)).sum + (a :: l).length) by omega]
    exact Nat.mul_div_mul_left _ _ (by decide)
end Rg
end

section
set_option Elab.async false
set_option linter.all false
set_option maxRecDepth 100000
set_option maxHeartbeats 2000000
namespace Rg
open PySem PySem.Spec PyProof.Rows L2
open Kyr (Regatta Told told nothing boats)
/-- a list of the times of all races -/
def AllTimes (H : Hp) (g : Regatta) (D : Addr) : Prop := ∃ as : List Addr, H D = some (.lst (as.map V.ref)) ∧ as.length = g.races.length ∧ ∀ r a, as[r]? = some a → ∃ ts, IsTimes g r ts ∧ H a = some (.lst (ts.map nI))
theorem AllTimes.stay {H H' : Hp} {g : Regatta} {D : Addr} (h : AllTimes H g D) (s : Stay H H') : AllTimes H' g D := by
  obtain ⟨as, h1, h2, h3⟩ := h
  refine ⟨as, s.at _ _ h1 rfl, h2, fun r a e => ?_⟩
  obtain ⟨ts, x, y⟩ := h3 r a e
  exact ⟨ts, x, s.at _ _ y rfl⟩
def spTimesAll (C : Addr) : Sp := fun vs H Q _ => ∃ (p lr lc : Addr) (ds : List Addr) (g : Regatta), vs = [.ref p] ∧ Reg C H p lr lc ds g ∧ ∀ (D : Addr) (H' : Hp), Same H H' → H D = none → AllTimes H' g D → Q (.ref D) H'
def spPtsOf (C : Addr) : Sp := fun vs H Q _ => ∃ (p lr lc tA : Addr) (ds : List Addr) (g : Regatta) (b : Nat), vs = [.ref p, nI b, .ref tA] ∧ Reg C H p lr lc ds g ∧ b < boats g ∧ AllTimes H g tA ∧
  ∀ (D : Addr) (H' : Hp), Same H H' → H D = none → H' D = some (.lst ((Kyr.row g b).map nI)) → Q (.ref D) H'
def spHowM (C : Addr) : Sp := fun vs H Q _ => ∃ (p lr lc : Addr) (ds : List Addr) (g : Regatta), vs = [.ref p] ∧ Reg C H p lr lc ds g ∧ ∀ H' : Hp, Same H H' → Q (nI (Kyr.howMany g)) H'
def spFinish (C : Addr) : Sp := fun vs H Q _ => ∃ (p lr lc : Addr) (ds : List Addr) (g : Regatta) (r b t f : Nat), vs = [.ref p, nI r, nI b, nI t, nI f] ∧ Reg C H p lr lc ds g ∧
  if g.races.length ≤ r ∨ boats g ≤ b then Q (.int (-2)) H else if t < 1 ∨ 1000000 < t ∨ 1 < f then Q (.int (-22)) H else
    ∀ (H' : Hp), Reg C H' p lr lc ds (Kyr.put g r b ⟨1, t, f⟩) → Keep H H' ds → Q (nI (Kyr.before (Kyr.put g r b ⟨1, t, f⟩) r b + 1)) H'
def spNote (C : Addr) : Sp := fun vs H Q _ => ∃ (p lr lc : Addr) (ds : List Addr) (g : Regatta) (r b k : Nat), vs = [.ref p, nI r, nI b, nI k] ∧ Reg C H p lr lc ds g ∧
  if g.races.length ≤ r ∨ boats g ≤ b then Q (.int (-2)) H else if k = 1 ∨ 7 < k then Q (.int (-22)) H else
    ∀ (H' : Hp), Reg C H' p lr lc ds (Kyr.put g r b ⟨k, 0, 0⟩) → Keep H H' ds → Q (.int 0) H'
/-- the dict of race r is told of boat b -/
theorem Reg.put {C : Addr} {H : Hp} {p lr lc : Addr} {ds : List Addr} {g : Regatta} {r b : Nat} {t : Told} {y : Addr} {bs : List Nat} {q : Nat → Addr} (R : Reg C H p lr lc ds g) (hr : r < ds.length) (hb : b < boats g) (h1 : t.seconds ≤ 1000000) (h2 : t.kind ≤ 7) (h3 : t.fined ≤ 1)
    (d1 : H ds[r] = some (.dK (kvOf bs q))) (d2 : bs.Nodup) (d3 : ∀ b ∈ bs, b < boats g ∧ H (q b) = some (.tup (toldV g r b))) (d4 : ∀ b, b ∉ bs → told g r b = nothing) (hy : H y = some (.tup [nI t.kind, nI (t.seconds * g.ratings.getD b 0), nI t.fined])) :
    Reg C (upd H ds[r] (.dK (kvOf (addB bs b) (setQ q b y)))) p lr lc ds (Kyr.put g r b t) ∧ Keep H (upd H ds[r] (.dK (kvOf (addB bs b) (setQ q b y)))) ds := by
  obtain ⟨apr, apc, apd⟩ := R.apart
  obtain ⟨⟨dx, la, a, b', c, hp, hmk, hla⟩, hlr, hlc, hsep, hlen, hnd, hdic, wf, hT⟩ := R
  obtain ⟨ap1, ap2, ap3⟩ := apd ds[r] (List.getElem_mem hr)
  have hr2 : r < g.races.length := by omega
  have st : ∀ {z : Addr} {o : HO}, H z = some o → z ≠ ds[r] → (upd H ds[r] (.dK (kvOf (addB bs b) (setQ q b y)))) z = some o := fun e n => by rw [upd_ne n]; exact e
  have kp : Keep H (upd H ds[r] (.dK (kvOf (addB bs b) (setQ q b y)))) ds := fun z o e n => st e fun w => n (by rw [w]; exact List.getElem_mem hr)
  have tp : ∀ {z : Addr} {xs : List V}, H z = some (.tup xs) → (upd H ds[r] (.dK (kvOf (addB bs b) (setQ q b y)))) z = some (.tup xs) := fun e => st e (ne_of e d1 (by intro z; cases z))
  refine ⟨⟨⟨dx, la, a, b', c, st hp ap1.symm, hmk, tp hla⟩, st hlr ap2.symm, st hlc ap3.symm, hsep, by rw [races_put]; exact hlen, hnd, fun r' d' e => ?_, wf.put hr2 hb h1 h2 h3, hT.keep kp fun z m => ?_⟩, kp⟩
  · by_cases hrr : r' = r
    · subst hrr
      rw [List.getElem?_eq_getElem hr] at e
      have e := Option.some.inj e
      subst e
      refine ⟨addB bs b, setQ q b y, upd_same, nodup_addB d2, fun c mc => ?_, fun c mc => ?_⟩
      · rw [corr_put wf hr2 hb]
        by_cases ec : c = b
        · subst ec
          rw [if_pos ⟨rfl, rfl⟩]
          unfold setQ
          rw [if_pos rfl]
          exact ⟨hb, tp hy⟩
        · rw [if_neg fun z => ec z.2]
          unfold setQ
          rw [if_neg ec]
          rcases mem_addB.mp mc with m | m
          · exact ⟨(d3 c m).1, tp (d3 c m).2⟩
          · exact absurd m ec
      · rw [told_put wf hr2 hb, if_neg fun z => mc (mem_addB.mpr (.inr z.2))]
        exact d4 c fun m => mc (mem_addB.mpr (.inl m))
    · obtain ⟨bs', q', e1, e2, e3, e4⟩ := hdic r' d' e
      have hne : d' ≠ ds[r] := fun z => hrr (nd_ix hnd e (by rw [z]; exact List.getElem?_eq_getElem hr))
      refine ⟨bs', q', st e1 hne, e2, fun c mc => ⟨(e3 c mc).1, ?_⟩, fun c mc => ?_⟩
      · rw [corr_put wf hr2 hb, if_neg fun z => hrr z.1]
        exact tp (e3 c mc).2
      · rw [told_put wf hr2 hb, if_neg fun z => hrr z.1]
        exact e4 c mc
  · obtain ⟨i, hi⟩ := List.getElem?_of_mem m
    obtain ⟨bs', q', e1, _⟩ := hdic i z hi
    exact plainD e1
section
variable {P : Program} {w : World} {K : PySem.W.Frag} {mg : Str → Option Value} {base : Heap} {C : Addr}
/-! ### times_of_all -/
theorem scTimesAll : FnScope ["self", "race"] ["self"] (defScope sTimesAll) := ⟨rfl, rfl, rfl, by decide +kernel, rfl, by decide +kernel, by decide +kernel⟩
theorem ok_timesAll {f : Addr} {fd : FuncData} (T : Txt K mg C) (D : DefM K C "times_of_all" "Regatta.times_of_all" sTimesAll ["self"] f fd) (GT : MOk P w K mg base C 1 "times_in" ["self", "race"] (spTimes C)) : MOk P w K mg base C 2 "times_of_all" ["self"] (spTimesAll C) := by
  obtain ⟨F, b, hm⟩ := D
  refine ⟨f, fd, F.ok scTimesAll (fun vs H Q E h => ?_) (fun cdv A outer s H vs Q E hr h => ?_), b, hm⟩
  · obtain ⟨p, lr, lc, ds, g, rfl, _⟩ := h
    rfl
  · obtain ⟨p, lr, lc, ds, g, rfl, R, k⟩ := h
    obtain ⟨dx, la, a, b', c, hp, hmk, hla⟩ := R.ob
    have hlen := R.len
    have h20 := R.wf.races
    refine ⟨_, pss_one (ps_ret (pe_lc (own := [("race", 1)]) rfl scTimesAll.nd (pi_range1 rfl T.range (pa_cons (pe_callB call_len_seq (by rfl) T.len PySem.boot_len (pa_cons (pe_fld (pv 0) rfl) pa_nil)) pa_nil)) (by refine blkOk_by (N := ["self", "race"]) (sc := defScope sTimesAll) ?_; decide +kernel)
      (fun s H C cl fp => pg_name (i := 1) scTimesAll.nd rfl (Or.inl rfl)) (fun s H C cl fp => pts_nil) (fun s' H' C' cl fp => pe_m (C := C) GT T.cl hr (by decide) (pv 0) (pa_cons (pv 1) pa_nil)))), ?_⟩
    refine ⟨_, rfl, p, C, dx, _, _, rfl, hp, T.cl, T.nC, fl_races _ _ _, lc, _, rfl, .inl (SqL.of R.rcs), _, rfl, ?_, ?_, fun D hD => ?_⟩
    · rw [List.length_map]
      omega
    · rw [List.length_map]
      omega
    rw [List.length_map, Int.toNat_natCast]
    refine lc_range (n := ds.length) (fun i H' => ∃ as : List Addr, as.length = i ∧ Grow H D (as.map V.ref) H' ∧ ∀ r a, as[r]? = some a → ∃ ts, IsTimes g r ts ∧ H' a = some (.lst (ts.map nI))) ⟨[], rfl, Grow.start hD, fun r q e => by simp at e⟩ (fun i H2 hi ⟨as, h1, gr, h2⟩ => ?_) fun H2 ⟨as, h1, gr, h2⟩ => k D H2 gr.1 hD ⟨as, gr.2, by omega, h2⟩
    have ei : V.int (0 + (i : Int)) = nI i := by
      rw [Int.zero_add]
      rfl
    rw [ei]
    refine ⟨rfl, ?_⟩
    unfold tYes
    dsimp only
    rw [if_pos rfl]
    refine ⟨_, rfl, p, dx, _, rfl, gr.1 _ _ hp, fl_no _ _ _ (by decide +kernel), _, rfl, p, lr, lc, ds, g, i, rfl, R.same gr.1, by omega, fun D2 ts H3 hts s3 hD2 hl2 => ?_⟩
    have hne : D2 ≠ D := fun z => by rw [z, gr.2] at hD2; cases hD2
    refine ⟨_, s3 _ _ gr.2, by rw [List.length_map]; exact small1000 (by omega), as ++ [D2], by rw [List.length_append, h1]; rfl, ?_, fun r a e => ?_⟩
    · rw [List.map_append]
      exact gr.more hD s3
    · by_cases hlt : r < as.length
      · rw [List.getElem?_append_left hlt] at e
        obtain ⟨ts', x, y⟩ := h2 r a e
        have hal : a ≠ D := fun z => by
          subst z
          rw [gr.2] at y
          injection y with y
          injection y with y
          cases as with
          | nil => simp at hlt
          | cons u v => cases ts' with
            | nil => cases y
            | cons _ _ => cases y
        exact ⟨ts', x, by rw [upd_ne hal]; exact s3 _ _ y⟩
      · rw [List.getElem?_append_right (by omega)] at e
        by_cases h0 : r - as.length = 0
        · rw [h0] at e
          have e := Option.some.inj e
          subst e
          rw [show r = i by omega]
          exact ⟨ts, hts, by rw [upd_ne hne]; exact hl2⟩
        · rw [List.getElem?_eq_none (by simp; omega)] at e
          cases e
/-! ### finish -/
theorem scFinish : FnScope ["self", "race", "boat", "seconds", "fined", "own_time"] ["self", "race", "boat", "seconds", "fined"] (defScope sFinish) := ⟨rfl, rfl, rfl, by decide +kernel, rfl, by decide +kernel, by decide +kernel⟩
theorem has_false {g : Regatta} {r b : Nat} (h : (decide (r < g.races.length) && decide (b < boats g)) = false) : g.races.length ≤ r ∨ boats g ≤ b := by
  by_cases h1 : r < g.races.length
  · by_cases h2 : b < boats g
    · rw [decide_eq_true h1, decide_eq_true h2] at h
      cases h
    · exact .inr (by omega)
  · exact .inl (by omega)
theorem has_true {g : Regatta} {r b : Nat} (h : (decide (r < g.races.length) && decide (b < boats g)) = true) : r < g.races.length ∧ b < boats g := by
  rw [Bool.and_eq_true, decide_eq_true_iff, decide_eq_true_iff] at h
  exact h
theorem ok_finish {f : Addr} {fd : FuncData} (T : Txt K mg C) (D : DefM K C "finish" "Regatta.finish" sFinish ["self", "race", "boat", "seconds", "fined"] f fd) (GH : MOk P w K mg base C 2 "has" ["self", "race", "boat"] (spHas C))
    (GT : MOk P w K mg base C 1 "times_in" ["self", "race"] (spTimes C)) : MOk P w K mg base C 3 "finish" ["self", "race", "boat", "seconds", "fined"] (spFinish C) := by
  obtain ⟨F, b, hm⟩ := D
  refine ⟨f, fd, F.ok scFinish (fun vs H Q E h => ?_) (fun cdv A outer s H vs Q E hr h => ?_), b, hm⟩
  · obtain ⟨p, lr, lc, ds, g, r, b, t, f, rfl, _⟩ := h
    rfl
  · obtain ⟨p, lr, lc, ds, g, r, b, t, f, rfl, R, k⟩ := h
    obtain ⟨dx, la, a, b', c, hp, hmk, hla⟩ := R.ob
    obtain ⟨apr, apc, apd⟩ := R.apart
    have hu := hu_of hr
    refine ⟨_, pss_cons (ps_if (pt_not (pt_val (pe_m GH T.cl hr (by decide) (pv 0) (pa_cons (pv 1) (pa_cons (pv 2) pa_nil))))) (pss_one (ps_ret (pe_gI T.noSuch))) pss_nil)
      (pss_cons (ps_if ((pw_or (pt_not (pt_chain op_le op_le pe_int (pv 3) (pe_gI T.mostS))) (pw_or1 (pt_cmpR op_gt (pv 4) pe_int (nomark _)))).pt) (pss_one (ps_ret (pe_gI T.notAs))) pss_nil)
      (pss_cons (ps_set (i := 5) scFinish.nd rfl (Or.inl rfl) (pe_op op_mul (pv 3) (pe_ix ix_list (pe_fld (pv 0) rfl) (pv 2) (fun _ _ => rfl))))
      (pss_cons (ps_dput hu (pe_ix ix_list (pe_fld (pv 0) rfl) (pv 1) (fun _ _ => rfl)) (pv 2) (pe_tup (pa_cons (pe_gI T.fin) (pa_cons (pv 5) (pa_cons (pv 4) pa_nil)))) rfl)
      (pss_one (ps_ret (pe_op op_add (pe_bm PySem.F.plainAttrs_list PySem.F.slot_list_index PySem.F.type_list_index mt_index (pe_m GT T.cl hr (by decide) (pv 0) (pa_cons (pv 1) pa_nil)) (pa_cons (pv 5) pa_nil)) pe_int)))))), ?_⟩
    refine ⟨_, rfl, p, dx, _, rfl, hp, fl_no _ _ _ (by decide +kernel), _, rfl, _, rfl, p, lr, lc, ds, g, r, b, rfl, R, _, rfl, ?_⟩
    cases e : decide (r < g.races.length) && decide (b < boats g) with
    | false =>
      rw [if_pos (has_false e)] at k
      exact k
    | true =>
      obtain ⟨hr1, hb1⟩ := has_true e
      rw [if_neg (by omega)] at k
      refine iteF ?_
      refine ⟨_, rfl, _, _, rfl, rfl, _, rfl, ?_⟩
      have bad : (t < 1 ∨ 1000000 < t ∨ 1 < f) → Q (.int (-22)) H := fun z => by
        rw [if_pos z] at k
        exact k
      refine ite2 (fun h1 => ?_) (fun h1 => ?_)
      · have h1 := of_decide_eq_true h1
        refine ⟨_, _, rfl, rfl, _, rfl, ?_⟩
        refine ite2 (fun h2 => ?_) (fun h2 => ?_)
        · refine iteT ?_
          have h2 : ¬ t ≤ 1000000 := fun z => by
            rw [decide_eq_true (show (t : Int) ≤ 1000000 by omega)] at h2
            cases h2
          exact bad (by omega)
        · have h2 : t ≤ 1000000 := by
            by_cases z : t ≤ 1000000
            · exact z
            · exact absurd (by rw [decide_eq_false (show ¬ (t : Int) ≤ 1000000 by omega)]; rfl) h2
          refine ⟨_, rfl, _, _, rfl, rfl, _, rfl, ?_⟩
          refine ite2 (fun h3 => ?_) (fun h3 => ?_)
          · have h3 := of_decide_eq_true h3
            exact bad (by omega)
          · have h3 : ¬ 1 < f := fun z => h3 (decide_eq_true (by omega))
            rw [if_neg (by omega)] at k
            have hb' : b < g.ratings.length := hb1
            have e1 : (g.ratings.map nI)[b]? = some (nI (g.ratings.getD b 0)) := nI_get hb'
            refine ⟨_, rfl, _, rfl, p, C, dx, _, _, rfl, hp, T.cl, T.nR, fl_ratings _ _ _, _, rfl, lr, _, _, _, rfl, rfl, SqL.of R.rat, at_of (j := b) rfl e1, _, _, rfl, rfl, .inl ⟨by omega, by omega⟩, ?_⟩
            have ev : V.int ((t : Int) * ((g.ratings.getD b 0 : Nat) : Int)) = nI (t * g.ratings.getD b 0) := by
              show V.int _ = V.int ((t * g.ratings.getD b 0 : Nat) : Int)
              rw [Int.natCast_mul]
            dsimp only
            rw [ev]
            refine ⟨_, rfl, _, rfl, (by show 3 ≤ sizeLine; decide), fun y hy => ?_⟩
            have s1 : Same H (upd H y (.tup [V.int 1, nI (t * g.ratings.getD b 0), nI f])) := same_upd hy
            have hr2 : r < ds.length := by rw [R.len]; exact hr1
            have R1 := R.same s1
            obtain ⟨bs, q, d1, d2, d3, d4⟩ := R1.dic r ds[r] (List.getElem?_eq_getElem hr2)
            have hlb : bs.length ≤ 32 := Nat.le_trans (nodup_le d2 fun b m => (d3 b m).1) R.wf.boats
            have hkl : (kvOf bs q).length = bs.length := List.length_map _
            refine ⟨_, rfl, p, C, dx, _, _, rfl, s1 _ _ hp, T.cl, T.nC, fl_races _ _ _, _, rfl, lc, _, _, _, rfl, rfl, SqL.of (s1 _ _ R.rcs), at_of (j := r) rfl (by rw [List.getElem?_map, List.getElem?_eq_getElem hr2]; rfl), _, rfl, ds[r], _, rfl, DPut.k (k := Sum.inl (b : Int)) d1 (by rw [hkl]; exact small1000 (by omega)), ?_⟩
            rw [put_kv]
            obtain ⟨R2, kp2⟩ := R1.put (t := ⟨1, t, f⟩) (y := y) hr2 hb1 h2 (by show 1 ≤ 7; decide) (by show f ≤ 1; omega) d1 d2 d3 d4 upd_same
            obtain ⟨dx2, la2, a2, b2, c2, hp2, _, _⟩ := R2.ob
            have hfin : Kyr.finished (Kyr.put g r b ⟨1, t, f⟩) r b = true := by
              unfold Kyr.finished
              rw [told_put R.wf hr1 hb1, if_pos ⟨rfl, rfl⟩]
              rfl
            have hcor : Kyr.corrected (Kyr.put g r b ⟨1, t, f⟩) r b = t * g.ratings.getD b 0 := by
              unfold Kyr.corrected
              rw [told_put R.wf hr1 hb1, if_pos ⟨rfl, rfl⟩]
              rfl
            refine ⟨_, rfl, p, dx2, _, rfl, hp2, fl_no _ _ _ (by decide +kernel), _, rfl, p, lr, lc, ds, _, r, rfl, R2, (by rw [races_put]; exact hr1), fun D2 ts H4 hts s4 hD2 hl2 => ?_⟩
            have hmem := mem_times hts hb1 hfin
            rw [hcor] at hmem
            obtain ⟨i1, i2⟩ := idx_is hmem
            refine ⟨.inl ⟨rfl, _, SqL.of hl2⟩, _, rfl, D2, _, _, ts.idxOf (t * g.ratings.getD b 0), _, rfl, rfl, SqL.of hl2, rfl, Srt.all_flat ts, i1, ?_, i2, _, _, rfl, rfl, ?_⟩
            · show (((t * g.ratings.getD b 0 : Nat) : Int) == ((t * g.ratings.getD b 0 : Nat) : Int)) = true
              exact beq_self_eq_true _
            · have ib := idx_before hts hb1 hfin
              rw [hcor] at ib
              rw [ib]
              refine k H4 (R2.same s4) fun z o e n => s4 _ _ (kp2 z o (s1 _ _ e) n)
      · have h1 : ¬ 1 ≤ t := fun z => h1 (decide_eq_true (by omega))
        refine ⟨_, rfl, ?_⟩
        exact iteT (bad (by omega))
/-! ### note -/
theorem scNote : FnScope ["self", "race", "boat", "kind"] ["self", "race", "boat", "kind"] (defScope sNote) := ⟨rfl, rfl, rfl, by decide +kernel, rfl, by decide +kernel, by decide +kernel⟩
theorem ok_note {f : Addr} {fd : FuncData} (T : Txt K mg C) (D : DefM K C "note" "Regatta.note" sNote ["self", "race", "boat", "kind"] f fd) (GH : MOk P w K mg base C 2 "has" ["self", "race", "boat"] (spHas C)) :
    MOk P w K mg base C 3 "note" ["self", "race", "boat", "kind"] (spNote C) := by
  obtain ⟨F, b, hm⟩ := D
  refine ⟨f, fd, F.ok scNote (fun vs H Q E h => ?_) (fun cdv A outer s H vs Q E hr h => ?_), b, hm⟩
  · obtain ⟨p, lr, lc, ds, g, r, b, x, rfl, _⟩ := h
    rfl
  · obtain ⟨p, lr, lc, ds, g, r, b, x, rfl, R, k⟩ := h
    obtain ⟨dx, la, a, b', c, hp, hmk, hla⟩ := R.ob
    have hu := hu_of hr
    refine ⟨_, pss_cons (ps_if (pt_not (pt_val (pe_m GH T.cl hr (by decide) (pv 0) (pa_cons (pv 1) (pa_cons (pv 2) pa_nil))))) (pss_one (ps_ret (pe_gI T.noSuch))) pss_nil)
      (pss_cons (ps_if ((pw_or (pt_cmpR op_eq (pv 3) (pe_gI T.fin) (nomark _)) (pw_or1 (pt_cmpR op_gt (pv 3) (pe_gI T.good) (nomark _)))).pt) (pss_one (ps_ret (pe_gI T.notAs))) pss_nil)
      (pss_cons (ps_dput hu (pe_ix ix_list (pe_fld (pv 0) rfl) (pv 1) (fun _ _ => rfl)) (pv 2) (pe_tup (pa_cons (pv 3) (pa_cons pe_int (pa_cons pe_int pa_nil)))) rfl)
      (pss_one (ps_ret pe_int)))), ?_⟩
    refine ⟨_, rfl, p, dx, _, rfl, hp, fl_no _ _ _ (by decide +kernel), _, rfl, _, rfl, p, lr, lc, ds, g, r, b, rfl, R, _, rfl, ?_⟩
    cases e : decide (r < g.races.length) && decide (b < boats g) with
    | false =>
      rw [if_pos (has_false e)] at k
      exact k
    | true =>
      obtain ⟨hr1, hb1⟩ := has_true e
      rw [if_neg (by omega)] at k
      refine iteF ?_
      refine ⟨_, rfl, rfl, _, rfl, ?_⟩
      have bad : (x = 1 ∨ 7 < x) → Q (.int (-22)) H := fun z => by
        rw [if_pos z] at k
        exact k
      refine ite2 (fun h1 => ?_) (fun h1 => ?_)
      · have h1 := of_decide_eq_true h1
        injection h1 with h1
        exact iteT (bad (by omega))
      · have h1 : ¬ x = 1 := fun z => h1 (decide_eq_true (by rw [z]; rfl))
        refine ⟨_, rfl, _, _, rfl, rfl, _, rfl, ?_⟩
        refine ite2 (fun h3 => ?_) (fun h3 => ?_)
        · have h3 := of_decide_eq_true h3
          exact bad (by omega)
        · have h3 : ¬ 7 < x := fun z => h3 (decide_eq_true (by omega))
          rw [if_neg (by omega)] at k
          refine ⟨_, rfl, (by show 3 ≤ sizeLine; decide), fun y hy => ?_⟩
          have s1 : Same H (upd H y (.tup [nI x, V.int 0, V.int 0])) := same_upd hy
          have hr2 : r < ds.length := by rw [R.len]; exact hr1
          have R1 := R.same s1
          obtain ⟨bs, q, d1, d2, d3, d4⟩ := R1.dic r ds[r] (List.getElem?_eq_getElem hr2)
          have hlb : bs.length ≤ 32 := Nat.le_trans (nodup_le d2 fun b m => (d3 b m).1) R.wf.boats
          have hkl : (kvOf bs q).length = bs.length := List.length_map _
          refine ⟨_, rfl, p, C, dx, _, _, rfl, s1 _ _ hp, T.cl, T.nC, fl_races _ _ _, _, rfl, lc, _, _, _, rfl, rfl, SqL.of (s1 _ _ R.rcs), at_of (j := r) rfl (by rw [List.getElem?_map, List.getElem?_eq_getElem hr2]; rfl), _, rfl, ds[r], _, rfl, DPut.k (k := Sum.inl (b : Int)) d1 (by rw [hkl]; exact small1000 (by omega)), ?_⟩
          rw [put_kv]
          obtain ⟨R2, kp2⟩ := R1.put (t := ⟨x, 0, 0⟩) (y := y) hr2 hb1 (Nat.zero_le _) (by show x ≤ 7; omega) (Nat.zero_le _) d1 d2 d3 d4 (by rw [Nat.zero_mul]; exact upd_same)
          exact k _ R2 fun z o e n => kp2 z o (s1 _ _ e) n
/-! ### how_many_left_out -/
theorem scHowM : FnScope ["self", "limit"] ["self"] (defScope sHowM) := ⟨rfl, rfl, rfl, by decide +kernel, rfl, by decide +kernel, by decide +kernel⟩
theorem ok_howM {f : Addr} {fd : FuncData} (T : Txt K mg C) (D : DefM K C "how_many_left_out" "Regatta.how_many_left_out" sHowM ["self"] f fd) : MOk P w K mg base C 1 "how_many_left_out" ["self"] (spHowM C) := by
  obtain ⟨F, b, hm⟩ := D
  refine ⟨f, fd, F.ok scHowM (fun vs H Q E h => ?_) (fun cdv A outer s H vs Q E hr h => ?_), b, hm⟩
  · obtain ⟨p, lr, lc, ds, g, rfl, _⟩ := h
    rfl
  · obtain ⟨p, lr, lc, ds, g, rfl, R, k⟩ := h
    obtain ⟨dx, la, a, b', c, hp, hmk, hla⟩ := R.ob
    have hlen := R.len
    refine ⟨_, pss_one (ps_ret (pe_callB call_len_seq (by rfl) T.len PySem.boot_len (pa_cons (pe_lc (own := [("limit", 1)]) rfl scHowM.nd (pi_tup (pe_fld (pv 0) rfl)) (by refine blkOk_by (N := ["self", "limit"]) (sc := defScope sHowM) ?_; decide +kernel)
      (fun s H C cl fp => pg_name (i := 1) scHowM.nd rfl (Or.inl rfl)) (fun s H C cl fp => pts_one (pt_chain op_lt op_le pe_int (pv 1) (pe_callB (lenS (K := K)) (by rfl) T.len PySem.boot_len (pa_cons (peF (K := K) (pv 0) rfl) pa_nil)))) (fun s H C cl fp => pv 1)) pa_nil))), ?_⟩
    refine ⟨_, rfl, p, C, dx, _, _, rfl, hp, T.cl, T.nL, fl_limits _ _ _, la, rfl, ⟨_, SqT.of hla⟩, fun D hD => ?_⟩
    have hm0 : g.marks.length = 3 := by rw [hmk]; rfl
    have hlm : ([nI a, nI b', nI c] : List V) = g.marks.map nI := by rw [hmk]; rfl
    rw [hlm] at hla
    refine lc_tup (K := K) (a := la) (xs := g.marks.map nI) (fun i H' => Grow H D (((g.marks.take i).filter fun m => m != 0 && decide (m ≤ g.races.length)).map nI) H') (Grow.start hD) (fun i H' _ gr => Rg.Same.sqT gr.1 (SqT.of hla)) (fun i x H2 hi gr => ?_) fun H2 gr => ?_
    · obtain ⟨z, hz, rfl⟩ : ∃ z, g.marks[i]? = some z ∧ x = nI z := by
        rw [List.getElem?_map] at hi
        cases y : g.marks[i]? with
        | none => rw [y] at hi; cases hi
        | some z => rw [y] at hi; exact ⟨z, rfl, (Option.some.inj hi).symm⟩
      have fin : ((z != 0 && decide (z ≤ g.races.length)) = true → ∃ acc, H2 D = some (.lst acc) ∧ acc.length < sizeLine ∧ Grow H D (((g.marks.take (i + 1)).filter fun m => m != 0 && decide (m ≤ g.races.length)).map nI) (upd H2 D (.lst (acc ++ [nI z])))) ∧
          ((z != 0 && decide (z ≤ g.races.length)) = false → Grow H D (((g.marks.take (i + 1)).filter fun m => m != 0 && decide (m ≤ g.races.length)).map nI) H2) := by
        rw [take_filter_succ hz]
        constructor
        · intro h
          rw [if_pos h, List.map_append]
          refine ⟨_, gr.2, ?_, gr.more hD (fun b o e => e)⟩
          rw [List.length_map]
          have h1 := List.length_filter_le (fun m => m != 0 && decide (m ≤ g.races.length)) (g.marks.take i)
          rw [List.length_take] at h1
          exact small1000 (by omega)
        · intro h
          rw [if_neg (by rw [h]; decide), List.append_nil]
          exact gr
      refine ⟨rfl, _, rfl, _, _, rfl, rfl, _, rfl, ?_⟩
      refine ite2 (fun h1 => ?_) (fun h1 => ?_)
      · have h2 : 0 < z := by
          have := of_decide_eq_true h1
          omega
        have h3 : (z != 0) = true := by
          rw [bne_iff_ne]
          omega
        refine ⟨_, rfl, p, C, dx, _, _, rfl, gr.1 _ _ hp, T.cl, T.nC, fl_races _ _ _, lc, _, rfl, .inl (SqL.of (gr.1 _ _ R.rcs)), _, _, rfl, rfl, _, rfl, ?_⟩
        rw [List.length_map, hlen]
        refine ite2 (fun h4 => ?_) (fun h4 => ?_)
        · have h5 : z ≤ g.races.length := by
            have := of_decide_eq_true h4
            omega
          exact ⟨_, rfl, fin.1 (by rw [h3, decide_eq_true h5]; rfl)⟩
        · have h5 : ¬ z ≤ g.races.length := fun y => h4 (decide_eq_true (by omega))
          exact fin.2 (by rw [h3, decide_eq_false h5]; rfl)
      · have h2 : z = 0 := by
          by_cases y : z = 0
          · exact y
          · exact absurd (decide_eq_true (by omega)) h1
        refine ⟨_, rfl, iteF ?_⟩
        exact fin.2 (by rw [h2]; rfl)
    · rw [List.length_map, List.take_length] at gr
      refine ⟨D, _, rfl, .inl (SqL.of gr.2), ?_⟩
      rw [List.length_map]
      exact k H2 gr.1
end
end Rg
end

section
set_option Elab.async false
set_option linter.all false
set_option maxRecDepth 100000
set_option maxHeartbeats 2000000
namespace Rg
open PySem PySem.Spec PyProof.Rows L2
open Kyr (Regatta Told told nothing boats)
abbrev nPts : List Str := ["self", "boat", "times", "boat_count", "told", "points", "sailed", "race", "made_good"]
theorem sail_mem {g : Regatta} {r b : Nat} {ts : List Nat} (h : IsTimes g r ts) (hb : b < boats g) (hk : (told g r b).kind = 1) : Kyr.corrected g r b ∈ ts := mem_times h hb (by unfold Kyr.finished; rw [hk]; rfl)
theorem range_map_succ {α : Type} (f : Nat → α) (n : Nat) : (List.range (n + 1)).map f = (List.range n).map f ++ [f n] := by
  rw [List.range_succ, List.map_append]
  rfl
section
variable {P : Program} {w : World} {K : PySem.W.Frag} {mg : Str → Option Value} {base : Heap} {C : Addr}
theorem scPtsOf : FnScope nPts ["self", "boat", "times"] (defScope sPtsOf) := ⟨rfl, rfl, rfl, by decide +kernel, rfl, by decide +kernel, by decide +kernel⟩
theorem ok_ptsOf {f : Addr} {fd : FuncData} (T : Txt K mg C) (D : DefM K C "points_of" "Regatta.points_of" sPtsOf ["self", "boat", "times"] f fd) (GT : MOk P w K mg base C 1 "told_of" ["self", "boat"] (spToldOf K C))
    (GS : GOk P w K mg base 2 "points_sailed" ["told", "times", "boat_count"] (spSail K)) (GM : GOk P w K mg base 2 "points_made_good" ["sailed", "boat_count"] (spMade K)) : MOk P w K mg base C 3 "points_of" ["self", "boat", "times"] (spPtsOf C) := by
  obtain ⟨F, b, hm⟩ := D
  refine ⟨f, fd, F.ok scPtsOf (fun vs H Q E h => ?_) (fun cdv A outer s H vs Q E hr h => ?_), b, hm⟩
  · obtain ⟨p, lr, lc, tA, ds, g, b, rfl, _⟩ := h
    rfl
  · obtain ⟨p, lr, lc, tA, ds, g, b, rfl, R, hb, hA, k⟩ := h
    obtain ⟨dx, la, a, b', c, hp, hmk, hla⟩ := R.ob
    obtain ⟨as, a1, a2, a3⟩ := hA
    have wf := R.wf
    have h20 := wf.races
    have h32 : boats g ≤ 32 := wf.boats
    refine ⟨_, pss_cons (ps_set (i := 3) scPtsOf.nd rfl (Or.inl rfl) (pe_callB call_len_seq (by rfl) T.len PySem.boot_len (pa_cons (pe_fld (pv 0) rfl) pa_nil)))
      (pss_cons (ps_set (i := 4) scPtsOf.nd rfl (Or.inr rfl) (pe_m GT T.cl hr (by decide) (pv 0) (pa_cons (pv 1) pa_nil)))
      (pss_cons (ps_set (i := 5) scPtsOf.nd rfl (Or.inr rfl) (pe_lst pa_nil))
      (pss_cons (ps_set (i := 6) scPtsOf.nd rfl (Or.inl rfl) (pe_lst pa_nil))
      (pss_cons (ps_for PassesOwn.never rfl (pi_range1 rfl T.range (pa_cons (pe_callB call_len_seq (by rfl) T.len PySem.boot_len (pa_cons (pv 4) pa_nil)) pa_nil)) (pg_name (i := 7) scPtsOf.nd rfl (Or.inl rfl))
        (pss_cons (ps_expr (pe_bm PySem.F.plainAttrs_list PySem.F.slot_list_append PySem.F.type_list_append mt_append (pv 5) (pa_cons (pe_g GS hr (by decide) rfl (pa_cons (pe_ix ix_list (pv 4) (pv 7) (fun _ _ => rfl)) (pa_cons (pe_ix ix_list (pv 2) (pv 7) (fun _ _ => rfl)) (pa_cons (pv 3) pa_nil)))) pa_nil)))
        (pss_one (ps_if (pt_cmpR op_ne (pe_ix ix_tup (pe_ix ix_list (pv 4) (pv 7) (fun _ _ => rfl)) pe_int (fun _ _ => rfl)) (pe_gI T.good) (nomark _))
          (pss_one (ps_expr (pe_bm PySem.F.plainAttrs_list PySem.F.slot_list_append PySem.F.type_list_append mt_append (pv 6) (pa_cons (pe_ix ix_list (pv 5) (pv 7) (fun _ _ => rfl)) pa_nil)))) pss_nil))))
      (pss_cons (ps_set (i := 8) scPtsOf.nd rfl (Or.inr rfl) (pe_g GM hr (by decide) rfl (pa_cons (pv 6) (pa_cons (pv 3) pa_nil))))
      (pss_one (ps_ret (pe_lc (own := [("race", 7)]) rfl scPtsOf.nd (pi_range1 rfl T.range (pa_cons (pe_callB call_len_seq (by rfl) T.len PySem.boot_len (pa_cons (pv 4) pa_nil)) pa_nil)) (by refine blkOk_by (N := nPts) (sc := defScope sPtsOf) ?_; decide +kernel)
        (fun s H C cl fp => pg_name (i := 7) scPtsOf.nd rfl (Or.inl rfl)) (fun s H C cl fp => pts_nil)
        (fun s H C cl fp => pe_ifExp (pt_cmpR op_eq (pe_ix (ixT (K := K)) (pe_ix (ixL (K := K)) (pv 4) (pv 7) (fun _ _ => rfl)) pe_int (fun _ _ => rfl)) (pe_gI T.good) (nomark _)) (pv 8) (pe_ix (ixL (K := K)) (pv 5) (pv 7) (fun _ _ => rfl))))))))))), ?_⟩
    refine ⟨_, rfl, p, C, dx, _, _, rfl, hp, T.cl, T.nR, fl_ratings _ _ _, lr, _, rfl, .inl (SqL.of R.rat), ?_⟩
    rw [List.length_map]
    refine ⟨_, rfl, p, dx, _, rfl, hp, fl_no _ _ _ (by decide +kernel), _, rfl, p, lr, lc, ds, g, b, rfl, R, fun D qs H1 s1 hD hq1 hq2 hq3 => ?_⟩
    refine ⟨Nat.zero_le _, fun lp hlp => ?_⟩
    refine ⟨Nat.zero_le _, fun ls hls => ?_⟩
    have npl : lp ≠ ls := ne_of_none (by rw [upd_same]) hls
    have hls1 : H1 ls = none := by rw [upd_ne npl.symm] at hls; exact hls
    have sm : ∀ z o, H1 z = some o → upd (upd H1 lp (.lst [])) ls (.lst []) z = some o := fun z o e => by rw [upd_ne (ne_of_none e hls1), upd_ne (ne_of_none e hlp)]; exact e
    refine ⟨_, rfl, D, _, rfl, .inl (SqL.of (sm _ _ hq2)), _, rfl, ?_, ?_, ?_⟩
    · rw [List.length_map]
      omega
    · rw [List.length_map]
      omega
    rw [List.length_map, Int.toNat_natCast, hq1]
    refine for_range (n := g.races.length) (fun i σ H' => ∃ v : Option V, σ = [some (.ref p), some (nI b), some (.ref tA), some (nI (boats g)), some (.ref D), some (.ref lp), some (.ref ls), v, none] ∧ (∀ z o, H1 z = some o → H' z = some o) ∧
      H' lp = some (.lst (((List.range i).map fun r => Kyr.plain g r b).map nI)) ∧ H' ls = some (.lst ((((List.range i).filter fun r => (told g r b).kind != 7).map fun r => Kyr.plain g r b).map nI))) ⟨none, rfl, sm, by rw [upd_ne npl, upd_same]; rfl, by rw [upd_same]; rfl⟩ ?_ ?_
    · rintro i σ H4 hi ⟨v, rfl, h1, h2, h3⟩
      have ei : V.int (0 + (i : Int)) = nI i := by
        rw [Int.zero_add]
        rfl
      rw [ei]
      have hiq : i < qs.length := by omega
      have hia : i < as.length := by omega
      have hD4 := h1 _ _ hq2
      have hA4 := h1 _ _ (s1 _ _ a1)
      obtain ⟨ts, t1, t2⟩ := a3 i as[i] (List.getElem?_eq_getElem hia)
      have t3 := h1 _ _ (s1 _ _ t2)
      have hq4 : SqT K H4 qs[i] (toldV g i b) := Rg.Same.sqT (fun z o e => h1 z o e) (hq3 i qs[i] (List.getElem?_eq_getElem hiq))
      have qg : (qs.map V.ref)[i]? = some (V.ref qs[i]) := by rw [List.getElem?_map, List.getElem?_eq_getElem hiq]; rfl
      have ag : (as.map V.ref)[i]? = some (V.ref as[i]) := by rw [List.getElem?_map, List.getElem?_eq_getElem hia]; rfl
      refine ⟨_, rfl, .inl ⟨rfl, _, SqL.of h2⟩, _, rfl, _, rfl, D, _, _, _, rfl, rfl, SqL.of hD4, at_of (j := i) rfl qg, _, rfl, _, rfl, tA, _, _, _, rfl, rfl, SqL.of hA4, at_of (j := i) rfl ag, _, rfl,
        qs[i], as[i], ts, _, _, _, boats g, rfl, hq4, SqL.of t3, ?_, by omega, sail_mem t1 hb, lp, _, _, rfl, rfl, h2, ?_, ?_⟩
      · have := len_times t1 wf
        omega
      · rw [List.length_map, List.length_map, List.length_range]
        exact small1000 (by omega)
      rw [sail_plain wf t1 hb]
      have e5 : ((List.range i).map fun r => Kyr.plain g r b).map nI ++ [nI (Kyr.plain g i b)] = ((List.range (i + 1)).map fun r => Kyr.plain g r b).map nI := by
        rw [range_map_succ, List.map_append]
        rfl
      rw [e5]
      have nD : D ≠ lp := ne_of_none hq2 hlp
      have h1' : ∀ z o, H1 z = some o → upd H4 lp (.lst (((List.range (i + 1)).map fun r => Kyr.plain g r b).map nI)) z = some o := fun z o e => by rw [upd_ne (ne_of_none e hlp)]; exact h1 z o e
      have h3' : upd H4 lp (.lst (((List.range (i + 1)).map fun r => Kyr.plain g r b).map nI)) ls = some (.lst ((((List.range i).filter fun r => (told g r b).kind != 7).map fun r => Kyr.plain g r b).map nI)) := by rw [upd_ne npl.symm]; exact h3
      have hq5 : SqT K (upd H4 lp (.lst (((List.range (i + 1)).map fun r => Kyr.plain g r b).map nI))) qs[i] (toldV g i b) := Rg.Same.sqT (fun z o e => h1' z o e) (hq3 i qs[i] (List.getElem?_eq_getElem hiq))
      refine ⟨_, rfl, _, rfl, D, _, _, _, rfl, rfl, SqL.of (h1' _ _ hq2), at_of (j := i) rfl qg, qs[i], _, _, _, rfl, rfl, hq5, at_of (j := 0) rfl rfl, rfl, _, rfl, ?_⟩
      refine ite2 (fun h6 => ?_) (fun h6 => ?_)
      · have h7 : ((told g i b).kind != 7) = true := by
          rw [bne_iff_ne]
          intro z
          rw [z] at h6
          exact absurd h6 (by decide)
        have pg : (((List.range (i + 1)).map fun r => Kyr.plain g r b).map nI)[i]? = some (nI (Kyr.plain g i b)) := by
          rw [List.getElem?_map, List.getElem?_map, List.getElem?_range (Nat.lt_succ_self i)]
          rfl
        refine ⟨_, rfl, .inl ⟨rfl, _, SqL.of h3'⟩, _, rfl, _, rfl, lp, _, _, _, rfl, rfl, SqL.of upd_same, at_of (j := i) rfl pg, ls, _, _, rfl, rfl, h3', ?_, ?_⟩
        · rw [List.length_map, List.length_map]
          have := List.length_filter_le (fun r => (told g r b).kind != 7) (List.range i)
          rw [List.length_range] at this
          exact small1000 (by omega)
        refine ⟨some (nI i), rfl, fun z o e => by rw [upd_ne (ne_of_none e hls1)]; exact h1' z o e, by rw [upd_ne npl, upd_same], ?_⟩
        rw [upd_same, filter_range_succ, if_pos h7, List.map_append, List.map_append]
        rfl
      · have h7 : (told g i b).kind = 7 := by
          by_cases z : (told g i b).kind = 7
          · exact z
          · exact absurd (by
              rw [Bool.not_eq_true', decide_eq_false_iff_not]
              intro y
              injection y with y
              omega) h6
        refine ⟨some (nI i), rfl, h1', upd_same, ?_⟩
        rw [h3', filter_range_succ, if_neg (by rw [h7]; decide), List.append_nil]
    · rintro σ H4 ⟨v, rfl, h1, h2, h3⟩
      refine ⟨_, rfl, _, rfl, ls, _, boats g, rfl, SqL.of h3, ?_, by omega, ?_⟩
      · rw [List.length_map]
        have := List.length_filter_le (fun r => (told g r b).kind != 7) (List.range g.races.length)
        rw [List.length_range] at this
        omega
      rw [made_is]
      have hD4 := h1 _ _ hq2
      refine ⟨_, rfl, D, _, rfl, .inl (SqL.of hD4), _, rfl, ?_, ?_, fun E hE => ?_⟩
      · rw [List.length_map]
        omega
      · rw [List.length_map]
        omega
      rw [List.length_map, Int.toNat_natCast, hq1]
      refine lc_range (n := g.races.length) (fun i H' => Grow H4 E (((List.range i).map fun r => Kyr.points g r b).map nI) H') (Grow.start hE) (fun i H5 hi gr => ?_) fun H5 gr => ?_
      · have ei : V.int (0 + (i : Int)) = nI i := by
          rw [Int.zero_add]
          rfl
        rw [ei]
        have hiq : i < qs.length := by omega
        have qg : (qs.map V.ref)[i]? = some (V.ref qs[i]) := by rw [List.getElem?_map, List.getElem?_eq_getElem hiq]; rfl
        have hq5 : SqT K H5 qs[i] (toldV g i b) := Rg.Same.sqT (fun z o e => gr.1 z o (h1 z o e)) (hq3 i qs[i] (List.getElem?_eq_getElem hiq))
        refine ⟨rfl, ?_⟩
        unfold tYes
        dsimp only
        rw [if_pos rfl]
        have fin : ∃ acc, H5 E = some (.lst acc) ∧ acc.length < sizeLine ∧ Grow H4 E (((List.range (i + 1)).map fun r => Kyr.points g r b).map nI) (upd H5 E (.lst (acc ++ [nI (Kyr.points g i b)]))) := by
          refine ⟨_, gr.2, ?_, ?_⟩
          · rw [List.length_map, List.length_map, List.length_range]
            exact small1000 (by omega)
          · rw [range_map_succ, List.map_append]
            exact gr.more hE (fun b o e => e)
        unfold Kyr.points at fin
        refine ⟨_, rfl, _, rfl, D, _, _, _, rfl, rfl, SqL.of (gr.1 _ _ hD4), at_of (j := i) rfl qg, qs[i], _, _, _, rfl, rfl, hq5, at_of (j := 0) rfl rfl, rfl, _, rfl, ?_⟩
        refine ite2 (fun h6 => ?_) (fun h6 => ?_)
        · have h7 : (told g i b).kind = 7 := by
            have h8 := of_decide_eq_true h6
            injection h8 with h8
            omega
          rw [if_pos h7] at fin
          exact ⟨_, rfl, fin⟩
        · have h7 : ¬ (told g i b).kind = 7 := fun z => h6 (decide_eq_true (by rw [z]; rfl))
          rw [if_neg h7] at fin
          have pg : (((List.range g.races.length).map fun r => Kyr.plain g r b).map nI)[i]? = some (nI (Kyr.plain g i b)) := by
            rw [List.getElem?_map, List.getElem?_map, List.getElem?_range hi]
            rfl
          exact ⟨_, rfl, _, rfl, lp, _, _, _, rfl, rfl, SqL.of (gr.1 _ _ h2), at_of (j := i) rfl pg, fin⟩
      · have sH : Same H H5 := fun z o e => gr.1 _ _ (h1 _ _ (s1 _ _ e))
        have hE0 : H E = none := by
          cases z : H E with
          | none => rfl
          | some o =>
            rw [h1 _ _ (s1 _ _ z)] at hE
            cases hE
        exact k E H5 sH hE0 gr.2
end
end Rg
end

section
set_option Elab.async false
set_option linter.all false
set_option maxRecDepth 100000
set_option maxHeartbeats 2000000
namespace Rg
open Kyr (Regatta Told told nothing boats)
open Srt (SortedN)

/-- in order by key, like ones by number -/
def Bef {α : Type} (lt : α → α → Bool) (b : Bool) (key : Nat → α) (i j : Nat) : Prop := (if b then lt (key i) (key j) = false else lt (key j) (key i) = false) ∧ ((lt (key i) (key j) = false ∧ lt (key j) (key i) = false) → i < j)
theorem strict_of {α : Type} {lt : α → α → Bool} {b : Bool} {key : Nat → α} (irr : ∀ a, lt a a = false) (tot : ∀ a c, lt a c = false → lt c a = false → a = c) : ∀ {js : List Nat}, js.Pairwise (fun i j => if b then lt (key i) (key j) = false else lt (key j) (key i) = false) →
    (∀ c, (js.filter fun i => !lt (key i) c && !lt c (key i)).Pairwise (· < ·)) → js.Pairwise (Bef lt b key)
  | [], _, _ => .nil
  | x :: l, h, hf => by
    rw [List.pairwise_cons] at h ⊢
    refine ⟨fun y hy => ⟨h.1 y hy, fun e => ?_⟩, strict_of irr tot h.2 fun c => ?_⟩
    · have hc := hf (key x)
      rw [List.filter_cons, if_pos (by rw [irr]; rfl), List.pairwise_cons] at hc
      exact hc.1 y (List.mem_filter.mpr ⟨hy, by rw [e.1, e.2]; rfl⟩)
    · have hc := hf c
      rw [List.filter_cons] at hc
      split at hc
      · exact (List.pairwise_cons.mp hc).2
      · exact hc
theorem SortedN.strict {α : Type} {lt : α → α → Bool} {b : Bool} {key : Nat → α} {is js : List Nat} (irr : ∀ a, lt a a = false) (tot : ∀ a c, lt a c = false → lt c a = false → a = c) (h : SortedN lt b key is js) (hi : is.Pairwise (· < ·)) : js.Pairwise (Bef lt b key) :=
  strict_of irr tot h.2.1 fun c => by
    rw [h.2.2 c]
    exact hi.sublist List.filter_sublist
theorem range_lt (n : Nat) : (List.range n).Pairwise (· < ·) := List.pairwise_lt_range
/-- two orders of the same numbers by a strict relation are one -/
theorem perm_one {R : Nat → Nat → Prop} (asym : ∀ a b, R a b → R b a → False) : ∀ {l m : List Nat}, l.Perm m → l.Pairwise R → m.Pairwise R → l = m
  | [], m, h, _, _ => (List.nil_perm.mp h).symm
  | a :: l, [], h, _, _ => by have := h.length_eq; simp at this
  | a :: l, b :: m, h, h1, h2 => by
    rw [List.pairwise_cons] at h1 h2
    have e : a = b := by
      have ha := h.mem_iff.mp (List.mem_cons_self (a := a) (l := l))
      have hb := h.mem_iff.mpr (List.mem_cons_self (a := b) (l := m))
      rcases List.mem_cons.mp ha with z | z
      · exact z
      · rcases List.mem_cons.mp hb with y | y
        · exact y.symm
        · exact (asym _ _ (h1.1 b y) (h2.1 a z)).elim
    subst e
    rw [perm_one asym (List.perm_cons a |>.mp h) h1.2 h2.2]
/-- the first that is as wanted, in a list that rises -/
theorem find_is {p : Nat → Bool} {x : Nat} : ∀ {l : List Nat}, l.Pairwise (· < ·) → x ∈ l → p x = true → (∀ r ∈ l, p r = true → x ≤ r) → l.find? p = some x
  | [], _, m, _, _ => by cases m
  | a :: l, h, m, hp, hm => by
    rw [List.pairwise_cons] at h
    rw [List.find?_cons]
    cases e : p a with
    | true =>
      have h1 := hm a (List.mem_cons_self ..) e
      rcases List.mem_cons.mp m with z | z
      · rw [z]
      · have := h.1 x z
        omega
    | false =>
      rcases List.mem_cons.mp m with z | z
      · rw [z, e] at hp
        cases hp
      · exact find_is h.2 z hp fun r hr => hm r (List.mem_cons_of_mem _ hr)
/-! ### what is left out -/
theorem row_get {g : Regatta} {b r : Nat} (h : r < g.races.length) : (Kyr.row g b).getD r 0 = Kyr.points g r b := by
  unfold Kyr.row
  rw [List.getD_eq_getElem?_getD, List.getElem?_map, List.getElem?_range h]
  rfl
theorem row_len (g : Regatta) (b : Nat) : (Kyr.row g b).length = g.races.length := by
  unfold Kyr.row
  rw [List.length_map, List.length_range]
theorem rowI_get {g : Regatta} {b r : Nat} (h : r < g.races.length) : ((Kyr.row g b).map fun x : Nat => (x : Int)).getD r 0 = ((Kyr.points g r b : Nat) : Int) := by
  rw [List.getD_eq_getElem?_getD, List.getElem?_map, ← row_get h, List.getElem?_eq_getElem (by rw [row_len]; exact h), getD_some (by rw [row_len]; exact h)]
  rfl
def freeOf (g : Regatta) (b : Nat) : List Nat := (List.range g.races.length).filter fun r => (told g r b).kind != 6
def keyOf (g : Regatta) (b : Nat) (i : Nat) : Int := ((Kyr.row g b).map fun x : Nat => (x : Int)).getD i 0
theorem left_is {g : Regatta} {b : Nat} {js : List Nat} (h : SortedN (fun x y : Int => decide (x < y)) true (keyOf g b) (freeOf g b) js) : js.take (Kyr.howMany g) = (Kyr.out_ g b).reverse := by
  have hs := SortedN.strict (fun a => by simp) (fun a c h1 h2 => by simp only [decide_eq_false_iff_not] at h1 h2; omega) h ((range_lt _).sublist List.filter_sublist)
  have hmem : ∀ x, x ∈ js ↔ x < g.races.length ∧ ((told g x b).kind != 6) = true := fun x => by
    rw [h.1.mem_iff]
    unfold freeOf
    rw [List.mem_filter, List.mem_range]
  have hnd : js.Nodup := h.1.nodup_iff.mpr (List.nodup_range.filter _)
  have hb : ∀ i j, i < g.races.length → j < g.races.length → Bef (fun x y : Int => decide (x < y)) true (keyOf g b) i j → Kyr.points g j b ≤ Kyr.points g i b ∧ (Kyr.points g i b = Kyr.points g j b → i < j) := fun i j hi hj hB => by
    obtain ⟨b1, b2⟩ := hB
    unfold keyOf at b1 b2
    rw [rowI_get hi, rowI_get hj] at b1 b2
    have b1 : decide (((Kyr.points g i b : Nat) : Int) < ((Kyr.points g j b : Nat) : Int)) = false := b1
    rw [decide_eq_false_iff_not] at b1
    refine ⟨by omega, fun e => b2 ⟨decide_eq_false (by omega), decide_eq_false (by omega)⟩⟩
  have key : ∀ (m k : Nat), Kyr.leftOut g b m (js.take k).reverse = (js.take (k + m)).reverse := by
    intro m
    induction m with
    | zero => intro k; rfl
    | succ m ih =>
      intro k
      rw [Kyr.leftOut]
      have hw : Kyr.worst g b (js.take k).reverse = js[k]? := by
        unfold Kyr.worst
        dsimp only
        have hl : ∀ x, x ∈ (List.range g.races.length).filter (fun r => Kyr.mayGo g r b && !((js.take k).reverse.contains r)) ↔ x ∈ js.drop k := fun x => by
          rw [List.mem_filter, List.mem_range, Bool.and_eq_true, Bool.not_eq_true', List.contains_eq_mem, decide_eq_false_iff_not, List.mem_reverse]
          have hnd2 := hnd
          rw [← List.take_append_drop k js, List.nodup_append] at hnd2
          constructor
          · rintro ⟨h1, h2, h3⟩
            have : x ∈ js := (hmem x).mpr ⟨h1, h2⟩
            rw [← List.take_append_drop k js] at this
            rcases List.mem_append.mp this with z | z
            · exact absurd z h3
            · exact z
          · intro hx
            have h1 := (hmem x).mp (List.mem_of_mem_drop hx)
            exact ⟨h1.1, h1.2, fun z => hnd2.2.2 x z x hx rfl⟩
        generalize hL : (List.range g.races.length).filter (fun r => Kyr.mayGo g r b && !((js.take k).reverse.contains r)) = L at hl
        have hLp : L.Pairwise (· < ·) := by
          rw [← hL]
          exact (range_lt _).sublist List.filter_sublist
        by_cases hk : k < js.length
        · rw [List.getElem?_eq_getElem hk]
          have hd : js.drop k = js[k] :: js.drop (k + 1) := List.drop_eq_getElem_cons hk
          have hsd : (js.drop k).Pairwise (Bef (fun x y : Int => decide (x < y)) true (keyOf g b)) := hs.sublist (List.drop_sublist _ _)
          rw [hd, List.pairwise_cons] at hsd
          have hx := (hmem js[k]).mp (List.getElem_mem hk)
          refine find_is hLp ((hl _).mpr (by rw [hd]; exact List.mem_cons_self ..)) ?_ fun r hr hp => ?_
          · rw [List.all_eq_true]
            intro q hq
            rw [decide_eq_true_iff]
            have hq2 := (hl q).mp hq
            rw [hd] at hq2
            rcases List.mem_cons.mp hq2 with z | z
            · rw [z]
              exact Nat.le_refl _
            · exact (hb _ _ hx.1 ((hmem q).mp (List.mem_of_mem_drop z)).1 (hsd.1 q z)).1
          · have hr2 := (hl r).mp hr
            rw [hd] at hr2
            rcases List.mem_cons.mp hr2 with z | z
            · rw [z]
              exact Nat.le_refl _
            · have h1 := hb _ _ hx.1 ((hmem r).mp (List.mem_of_mem_drop z)).1 (hsd.1 r z)
              rw [List.all_eq_true] at hp
              have h2 := of_decide_eq_true (hp js[k] ((hl _).mpr (by rw [hd]; exact List.mem_cons_self ..)))
              have := h1.2 (by omega)
              omega
        · rw [List.getElem?_eq_none (by omega)]
          have : L = [] := by
            cases L with
            | nil => rfl
            | cons a l =>
              have := (hl a).mp (List.mem_cons_self ..)
              rw [List.drop_eq_nil_of_le (by omega)] at this
              cases this
          rw [this]
          rfl
      rw [hw]
      by_cases hk : k < js.length
      · rw [List.getElem?_eq_getElem hk]
        dsimp only
        have e : js[k] :: (js.take k).reverse = (js.take (k + 1)).reverse := by
          rw [List.take_add_one, List.getElem?_eq_getElem hk, List.reverse_append]
          rfl
        rw [e, ih (k + 1)]
        congr 2
        omega
      · rw [List.getElem?_eq_none (by omega)]
        dsimp only
        rw [List.take_of_length_le (by omega), List.take_of_length_le (by omega)]
  have := key (Kyr.howMany g) 0
  rw [List.take_zero, List.reverse_nil, Nat.zero_add] at this
  unfold Kyr.out_
  rw [this, List.reverse_reverse]
/-! ### kept, total, bits -/
theorem kept_is (g : Regatta) (b : Nat) : keptP (Kyr.row g b) (Kyr.out_ g b).reverse = (Kyr.kept g b).map fun r => Kyr.points g r b := by
  unfold keptP Kyr.kept
  rw [row_len]
  have e : (fun r => !(Kyr.out_ g b).reverse.contains r) = fun r => !((Kyr.out_ g b).contains r) := by
    funext r
    rw [List.contains_eq_mem, List.contains_eq_mem]
    congr 2
    rw [List.mem_reverse]
  rw [e]
  refine List.map_congr_left fun r m => row_get (List.mem_range.mp (List.mem_filter.mp m).1)
theorem total_is (g : Regatta) (b : Nat) : ((Kyr.kept g b).map fun r => Kyr.points g r b).sum = Kyr.total g b := by
  unfold Kyr.total
  rw [foldl_sum]
theorem bits_is (l : List Nat) : (l.reverse.map fun i => 2 ^ i).sum = Kyr.bits l := by
  have : ∀ (l : List Nat) (a : Nat), l.foldl (fun m i => m + 2 ^ i) a = a + (l.map fun i => 2 ^ i).sum := by
    intro l
    induction l with
    | nil => intro a; rfl
    | cons x r ih => intro a; rw [List.foldl_cons, ih, List.map_cons, List.sum_cons]; omega
  unfold Kyr.bits
  rw [this, Nat.zero_add]
  have h : (l.reverse.map fun i => 2 ^ i).Perm (l.map fun i => 2 ^ i) := (List.reverse_perm l).map _
  exact h.sum_nat
end Rg
end

section
set_option Elab.async false
set_option linter.all false
set_option maxRecDepth 100000
set_option maxHeartbeats 2000000
namespace Rg
open Kyr (Regatta Told told nothing boats)
open Srt (SortedN K3 lt3 lt3_irr lt3_tot lt3_tra lex_irr lex_tot)
open HT (lexLt)

/-! ### sorted -/
theorem insert_perm (x : Nat) : ∀ l : List Nat, (Kyr.insert x l).Perm (x :: l)
  | [] => List.Perm.refl _
  | y :: l => by
    rw [Kyr.insert]
    split
    · exact List.Perm.refl _
    · exact ((insert_perm x l).cons y).trans (List.Perm.swap x y l)
theorem sorted_perm : ∀ l : List Nat, (Kyr.sorted l).Perm l
  | [] => List.Perm.refl _
  | x :: l => by
    rw [Kyr.sorted]
    exact (insert_perm x _).trans ((sorted_perm l).cons x)
theorem insert_sorted (x : Nat) : ∀ {l : List Nat}, l.Pairwise (· ≤ ·) → (Kyr.insert x l).Pairwise (· ≤ ·)
  | [], _ => by
    rw [Kyr.insert]
    exact List.pairwise_cons.mpr ⟨(fun y m => by cases m), List.Pairwise.nil⟩
  | y :: l, h => by
    rw [Kyr.insert]
    have h0 := h
    rw [List.pairwise_cons] at h
    split
    · rename_i hxy
      refine List.pairwise_cons.mpr ⟨fun z m => ?_, h0⟩
      rcases List.mem_cons.mp m with e | m
      · rw [e]
        exact hxy
      · have := h.1 z m
        omega
    · rename_i hxy
      refine List.pairwise_cons.mpr ⟨fun z m => ?_, insert_sorted x h.2⟩
      rcases List.mem_cons.mp ((insert_perm x l).mem_iff.mp m) with e | m
      · omega
      · exact h.1 z m
theorem sorted_sorted : ∀ l : List Nat, (Kyr.sorted l).Pairwise (· ≤ ·)
  | [] => .nil
  | x :: l => by
    rw [Kyr.sorted]
    exact insert_sorted x (sorted_sorted l)
theorem perm_le : ∀ {l m : List Nat}, l.Perm m → l.Pairwise (· ≤ ·) → m.Pairwise (· ≤ ·) → l = m
  | [], m, h, _, _ => (List.nil_perm.mp h).symm
  | a :: l, [], h, _, _ => by have := h.length_eq; simp at this
  | a :: l, b :: m, h, h1, h2 => by
    rw [List.pairwise_cons] at h1 h2
    have e : a = b := by
      have ha := h.mem_iff.mp (List.mem_cons_self (a := a) (l := l))
      have hb := h.mem_iff.mpr (List.mem_cons_self (a := b) (l := m))
      rcases List.mem_cons.mp ha with z | z
      · exact z
      · rcases List.mem_cons.mp hb with y | y
        · exact y.symm
        · have := h1.1 b y
          have := h2.1 a z
          omega
    subst e
    rw [perm_le (List.perm_cons a |>.mp h) h1.2 h2.2]
theorem sorted_is {ts l : List Nat} (h : ts.Perm l) (hs : ts.Pairwise (· ≤ ·)) : ts = Kyr.sorted l := perm_le (h.trans (sorted_perm l).symm) hs (sorted_sorted l)
/-! ### points are above 0 -/
theorem plain_pos {g : Regatta} {r b : Nat} : 20 ≤ Kyr.plain g r b := by
  unfold Kyr.plain
  have h1 : 20 ≤ Kyr.last g := by unfold Kyr.last; omega
  split
  · dsimp only
    split
    · exact Nat.le_min.mpr ⟨h1, by omega⟩
    · omega
  · exact h1
theorem sum_ge {l : List Nat} (h : ∀ x ∈ l, 20 ≤ x) : 20 * l.length ≤ l.sum := by
  induction l with
  | nil => exact Nat.le_refl _
  | cons a r ih =>
    rw [List.sum_cons, List.length_cons]
    have h1 := h a (List.mem_cons_self ..)
    have h2 := ih fun x m => h x (List.mem_cons_of_mem _ m)
    omega
theorem points_pos {g : Regatta} {r b : Nat} : 0 < Kyr.points g r b := by
  unfold Kyr.points
  split
  · unfold Kyr.made
    dsimp only
    generalize (List.range g.races.length).filter (fun r => (told g r b).kind != 7) = l
    split
    · unfold Kyr.last
      omega
    · rename_i h
      have hl : 0 < l.length := by
        cases l with
        | nil => exact absurd rfl h
        | cons _ _ => exact Nat.succ_pos _
      rw [foldl_sum]
      have h1 : 20 * l.length ≤ (l.map fun r => Kyr.plain g r b).sum := by
        have := sum_ge (l := l.map fun r => Kyr.plain g r b) fun x m => by
          obtain ⟨y, _, rfl⟩ := List.mem_map.mp m
          exact plain_pos
        rwa [List.length_map] at this
      have h2 : 1 ≤ ((l.map fun r => Kyr.plain g r b).sum + l.length) / (2 * l.length) := (Nat.le_div_iff_mul_le (by omega)).mpr (by omega)
      omega
  · have := plain_pos (g := g) (r := r) (b := b)
    omega
/-! ### compare -/
def toZ (l : List Nat) : List Int := l.map fun x : Nat => (x : Int)
theorem toZ_inj : ∀ {x y : List Nat}, toZ x = toZ y → x = y
  | [], [], _ => rfl
  | [], _ :: _, h => by cases h
  | _ :: _, [], h => by cases h
  | a :: x, b :: y, h => by
    have h : (a : Int) :: toZ x = (b : Int) :: toZ y := h
    injection h with h1 h2
    rw [toZ_inj h2, show a = b by omega]
theorem cmp_cases : ∀ x y : List Nat, (Kyr.compare x y = 0 ∧ lexLt (toZ x) (toZ y) = true) ∨ (Kyr.compare x y = 2 ∧ lexLt (toZ y) (toZ x) = true) ∨ (Kyr.compare x y = 1 ∧ ((∃ t, y = x ++ t) ∨ ∃ t, x = y ++ t))
  | [], y => .inr (.inr ⟨(by cases y <;> rfl), .inl ⟨y, rfl⟩⟩)
  | a :: x, [] => .inr (.inr ⟨rfl, .inr ⟨a :: x, rfl⟩⟩)
  | a :: x, b :: y => by
    have e1 : toZ (a :: x) = (a : Int) :: toZ x := rfl
    have e2 : toZ (b :: y) = (b : Int) :: toZ y := rfl
    rw [Kyr.compare, e1, e2, HT.lexLt_cons, HT.lexLt_cons]
    by_cases h1 : a < b
    · rw [if_pos h1]
      exact .inl ⟨rfl, by rw [if_neg (by omega), decide_eq_true (by omega)]⟩
    · rw [if_neg h1]
      by_cases h2 : b < a
      · rw [if_pos h2]
        exact .inr (.inl ⟨rfl, by rw [if_neg (by omega), decide_eq_true (by omega)]⟩)
      · rw [if_neg h2]
        have e : a = b := by omega
        subst e
        rw [if_pos rfl, if_pos rfl]
        rcases cmp_cases x y with h | h | ⟨h, ⟨t, ht⟩ | ⟨t, ht⟩⟩
        · exact .inl h
        · exact .inr (.inl h)
        · exact .inr (.inr ⟨h, .inl ⟨t, by rw [ht]; rfl⟩⟩)
        · exact .inr (.inr ⟨h, .inr ⟨t, by rw [ht]; rfl⟩⟩)
theorem sum_pos_nil {t : List Nat} (h : ∀ x ∈ t, 0 < x) (hs : t.sum = 0) : t = [] := by
  cases t with
  | nil => rfl
  | cons a r =>
    rw [List.sum_cons] at hs
    have := h a (List.mem_cons_self ..)
    omega
def stand (g : Regatta) (b : Nat) : K3 := ((Kyr.total g b : Nat), toZ (Kyr.best g b), toZ (Kyr.row g b).reverse)
theorem best_sum (g : Regatta) (b : Nat) : (Kyr.best g b).sum = Kyr.total g b := by
  unfold Kyr.best
  rw [(sorted_perm _).sum_nat, total_is]
theorem best_pos {g : Regatta} {b x : Nat} (h : x ∈ Kyr.best g b) : 0 < x := by
  unfold Kyr.best at h
  obtain ⟨r, _, rfl⟩ := List.mem_map.mp ((sorted_perm _).mem_iff.mp h)
  exact points_pos
theorem versus_is (g : Regatta) (a b : Nat) : (Kyr.versus g a b == 0) = lt3 (stand g a) (stand g b) := by
  unfold Kyr.versus lt3 stand
  dsimp only
  by_cases h1 : Kyr.total g a < Kyr.total g b
  · rw [if_pos h1, if_neg (by omega), decide_eq_true (by omega)]
    rfl
  · rw [if_neg h1]
    by_cases h2 : Kyr.total g b < Kyr.total g a
    · rw [if_pos h2, if_neg (by omega), decide_eq_false (by omega)]
      rfl
    · rw [if_neg h2]
      have ht : Kyr.total g a = Kyr.total g b := by omega
      have hs : (Kyr.best g a).sum = (Kyr.best g b).sum := by rw [best_sum, best_sum, ht]
      rw [if_pos (show ((Kyr.total g a : Nat) : Int) = ((Kyr.total g b : Nat) : Int) by rw [ht])]
      have no : ∀ {u v : List Int}, lexLt v u = true → lexLt u v = false := fun {u v} h => by
        cases z : lexLt u v with
        | false => rfl
        | true =>
          have := Srt.lex_tra _ _ _ h z
          rw [lex_irr] at this
          cases this
      have ne : ∀ {u v : List Int}, lexLt u v = true → ¬ u = v := fun {u v} h z => by
        rw [z, lex_irr] at h
        cases h
      rcases cmp_cases (Kyr.best g a) (Kyr.best g b) with ⟨e, h⟩ | ⟨e, h⟩ | ⟨e, h⟩
      · rw [if_pos (show Kyr.compare (Kyr.best g a) (Kyr.best g b) ≠ 1 by rw [e]; decide), if_neg (ne h), e, h]
        rfl
      · rw [if_pos (show Kyr.compare (Kyr.best g a) (Kyr.best g b) ≠ 1 by rw [e]; decide), if_neg (fun z => ne h z.symm), e, no h]
        rfl
      · have eb : Kyr.best g a = Kyr.best g b := by
          rcases h with ⟨t, h⟩ | ⟨t, h⟩
          · have : t = [] := sum_pos_nil (fun x m => best_pos (g := g) (b := b) (by rw [h]; exact List.mem_append_right _ m)) (by
              rw [h, List.sum_append] at hs
              omega)
            rw [h, this, List.append_nil]
          · have : t = [] := sum_pos_nil (fun x m => best_pos (g := g) (b := a) (by rw [h]; exact List.mem_append_right _ m)) (by
              rw [h, List.sum_append] at hs
              omega)
            rw [h, this, List.append_nil]
        rw [if_neg (show ¬ Kyr.compare (Kyr.best g a) (Kyr.best g b) ≠ 1 by rw [e]; decide), if_pos (show toZ (Kyr.best g a) = toZ (Kyr.best g b) by rw [eb])]
        have hl : (Kyr.row g a).reverse.length = (Kyr.row g b).reverse.length := by rw [List.length_reverse, List.length_reverse, row_len, row_len]
        rcases cmp_cases (Kyr.row g a).reverse (Kyr.row g b).reverse with ⟨e, h⟩ | ⟨e, h⟩ | ⟨e, h⟩
        · rw [e, h]
          rfl
        · rw [e, no h]
          rfl
        · rw [e]
          have er : (Kyr.row g a).reverse = (Kyr.row g b).reverse := by
            rcases h with ⟨t, h⟩ | ⟨t, h⟩
            · rw [h, List.length_append] at hl
              have : t = [] := List.length_eq_zero_iff.mp (by omega)
              rw [h, this, List.append_nil]
            · rw [h, List.length_append] at hl
              have : t = [] := List.length_eq_zero_iff.mp (by omega)
              rw [h, this, List.append_nil]
          rw [er, lex_irr]
          rfl
/-! ### place, order -/
theorem place_is (g : Regatta) (b : Nat) : Kyr.place g b = ((List.range (boats g)).filter fun c => lt3 (stand g c) (stand g b)).length + 1 := by
  unfold Kyr.place
  congr 2
  refine List.filter_congr fun c _ => versus_is g c b
theorem place_lt {g : Regatta} {a b : Nat} (ha : a < boats g) (h : lt3 (stand g a) (stand g b) = true) : Kyr.place g a < Kyr.place g b := by
  rw [place_is, place_is]
  have := Srt.filter_lt_of (p := fun c => lt3 (stand g c) (stand g a)) (q := fun c => lt3 (stand g c) (stand g b)) (List.range (boats g)) (fun x _ hx => lt3_tra _ _ _ hx h) (List.mem_range.mpr ha) (lt3_irr _) h
  omega
theorem place_eq {g : Regatta} {a b : Nat} (h : stand g a = stand g b) : Kyr.place g a = Kyr.place g b := by
  rw [place_is, place_is, h]
theorem place_le {g : Regatta} {b : Nat} (hb : b < boats g) : Kyr.place g b ≤ boats g := by
  rw [place_is]
  have := Srt.filter_lt_of (p := fun c => lt3 (stand g c) (stand g b)) (q := fun _ => true) (a := b) (List.range (boats g)) (fun _ _ _ => rfl) (List.mem_range.mpr hb) (lt3_irr _) rfl
  have h2 := List.length_filter_le (fun _ => true) (List.range (boats g))
  rw [List.length_range] at h2
  omega
def byPlace (g : Regatta) (i j : Nat) : Prop := Kyr.place g i < Kyr.place g j ∨ (Kyr.place g i = Kyr.place g j ∧ i < j)
theorem order_pw (g : Regatta) : (Kyr.order g).Pairwise (byPlace g) := by
  unfold Kyr.order
  rw [List.pairwise_flatMap]
  constructor
  · intro p _
    refine ((range_lt _).sublist List.filter_sublist).imp_of_mem fun {x y} hx hy h => ?_
    have h1 := beq_iff_eq.mp (List.mem_filter.mp hx).2
    have h2 := beq_iff_eq.mp (List.mem_filter.mp hy).2
    exact .inr ⟨by rw [h1, h2], h⟩
  · refine (range_lt _).imp fun {p q} h x hx y hy => ?_
    have h1 := beq_iff_eq.mp (List.mem_filter.mp hx).2
    have h2 := beq_iff_eq.mp (List.mem_filter.mp hy).2
    exact .inl (by omega)
theorem byPlace_asym {g : Regatta} (a b : Nat) (h1 : byPlace g a b) (h2 : byPlace g b a) : False := by
  rcases h1 with h1 | h1 <;> rcases h2 with h2 | h2 <;> omega
theorem order_mem (g : Regatta) (x : Nat) : x ∈ Kyr.order g ↔ x < boats g := by
  unfold Kyr.order
  rw [List.mem_flatMap]
  constructor
  · rintro ⟨p, _, m⟩
    exact List.mem_range.mp (List.mem_filter.mp m).1
  · intro h
    have h1 := place_le h
    have h2 : 1 ≤ Kyr.place g x := by rw [place_is]; omega
    exact ⟨Kyr.place g x - 1, List.mem_range.mpr (by omega), List.mem_filter.mpr ⟨List.mem_range.mpr h, beq_iff_eq.mpr (by omega)⟩⟩
theorem order_is {g : Regatta} {key : Nat → K3} {js : List Nat} (hk : ∀ i, i < boats g → key i = stand g i) (h : SortedN lt3 false key (List.range (boats g)) js) : js = Kyr.order g := by
  have hs := SortedN.strict lt3_irr lt3_tot h (range_lt _)
  have hm : ∀ x ∈ js, x < boats g := fun x m => List.mem_range.mp (h.1.mem_iff.mp m)
  have hp : js.Pairwise (byPlace g) := hs.imp_of_mem fun {x y} hx hy hB => by
    obtain ⟨b1, b2⟩ := hB
    rw [hk x (hm x hx), hk y (hm y hy)] at b1 b2
    have b1 : lt3 (stand g y) (stand g x) = false := b1
    cases e : lt3 (stand g x) (stand g y) with
    | true => exact .inl (place_lt (hm x hx) e)
    | false => exact .inr ⟨place_eq (lt3_tot _ _ e b1), b2 ⟨e, b1⟩⟩
  have hnd : (Kyr.order g).Nodup := (order_pw g).imp fun {a b} h z => by
    subst z
    rcases h with h | h <;> omega
  refine perm_one byPlace_asym (perm_nodup (h.1.nodup_iff.mpr List.nodup_range) hnd fun x => ?_) hp (order_pw g)
  rw [h.1.mem_iff, List.mem_range, order_mem]
theorem order_len (g : Regatta) : (Kyr.order g).length = boats g := by
  have hnd : (Kyr.order g).Nodup := (order_pw g).imp fun {a b} h z => by
    subst z
    rcases h with h | h <;> omega
  have := (perm_nodup hnd List.nodup_range fun x => by rw [order_mem, List.mem_range]).length_eq
  rwa [List.length_range] at this
/-! ### how many are left out -/
theorem worst_mem {g : Regatta} {b x : Nat} {out : List Nat} (h : Kyr.worst g b out = some x) : x < g.races.length ∧ x ∉ out := by
  unfold Kyr.worst at h
  have m := List.mem_of_find?_eq_some h
  have m2 := List.mem_filter.mp m
  refine ⟨List.mem_range.mp m2.1, fun z => ?_⟩
  have m3 := m2.2
  rw [Bool.and_eq_true, Bool.not_eq_true', List.contains_eq_mem, decide_eq_false_iff_not] at m3
  exact m3.2 z
theorem leftOut_ok {g : Regatta} {b : Nat} : ∀ (n : Nat) {out : List Nat}, out.Nodup → (∀ x ∈ out, x < g.races.length) → (Kyr.leftOut g b n out).Nodup ∧ ∀ x ∈ Kyr.leftOut g b n out, x < g.races.length
  | 0, out, h1, h2 => ⟨h1, h2⟩
  | n + 1, out, h1, h2 => by
    rw [Kyr.leftOut]
    split
    · exact ⟨h1, h2⟩
    · rename_i r hr
      have hw := worst_mem hr
      refine leftOut_ok n (List.nodup_cons.mpr ⟨hw.2, h1⟩) fun x m => ?_
      rcases List.mem_cons.mp m with e | m
      · rw [e]
        exact hw.1
      · exact h2 x m
theorem out_lt (g : Regatta) (b x : Nat) (h : x ∈ Kyr.out_ g b) : x < g.races.length := (leftOut_ok (Kyr.howMany g) List.nodup_nil (fun x m => by cases m)).2 x h
theorem out_len (g : Regatta) (b : Nat) (h20 : g.races.length ≤ 20) : (Kyr.out_ g b).length ≤ 1000 := by
  have := nodup_le (leftOut_ok (g := g) (b := b) (Kyr.howMany g) List.nodup_nil (fun x m => by cases m)).1 fun x m => out_lt g b x m
  unfold Kyr.out_
  omega
end Rg
end

section
set_option Elab.async false
set_option linter.all false
set_option maxRecDepth 100000
set_option maxHeartbeats 2000000
namespace Rg
open PySem PySem.Spec PyProof.Rows L2
open Kyr (Regatta Told told nothing boats)
def spLeft (C : Addr) : Sp := fun vs H Q _ => ∃ (p lr lc pl : Addr) (ds : List Addr) (g : Regatta) (b : Nat), vs = [.ref p, nI b, .ref pl] ∧ Reg C H p lr lc ds g ∧ H pl = some (.lst ((Kyr.row g b).map nI)) ∧
  ∀ (D : Addr) (H' : Hp), Stay H H' → Tabs H' → H D = none → H' D = some (.lst ((Kyr.out_ g b).reverse.map nI)) → Q (.ref D) H'
abbrev nLeft : List Str := ["self", "boat", "points", "told", "free", "worst_first", "race"]
def lamP (x : Str) (pos : Pos) : Arguments := { posonlyargs := [], args := [{ arg := x, annotation := none, pos := pos }], vararg := none, kwonlyargs := [], kw_defaults := [], kwarg := none, defaults := [] }
def lamS (par cap : Str) : Scope := { kind := .function, names := [(par, .local), (cap, .free)], isGenerator := false, isCoroutine := false, more := [] }
theorem lamL_txt (pos : Pos) : Srt.LamTxt "points" "race" (lamP "race" pos) (lamS "race" "points") :=
  ⟨rfl, rfl, rfl, by decide +kernel, rfl, rfl, fun _ _ _ _ _ _ _ => rfl, by decide +kernel, by decide +kernel, by decide +kernel⟩
theorem lamO_txt (pos : Pos) : Srt.LamTxt "standings" "boat" (lamP "boat" pos) (lamS "boat" "standings") :=
  ⟨rfl, rfl, rfl, by decide +kernel, rfl, rfl, fun _ _ _ _ _ _ _ => rfl, by decide +kernel, by decide +kernel, by decide +kernel⟩
theorem cut_to (js : List Nat) (n : Nat) : cutV (js.map nI) none (some (n : Int)) = (js.take n).map nI := by
  unfold cutV
  rw [HT.sIx_nat, HT.sIx_none, List.drop_zero, Nat.sub_zero, List.length_map, ← List.map_take]
  congr 1
  by_cases h : n ≤ js.length
  · rw [Nat.min_eq_left h]
  · rw [Nat.min_eq_right (by omega), List.take_of_length_le (Nat.le_refl _), List.take_of_length_le (by omega)]
theorem tabL_ne_O : tabL ≠ tabO := by decide
section
variable {P : Program} {w : World} {K : PySem.W.Frag} {mg : Str → Option Value} {base : Heap} {C : Addr}
theorem scLeft : FnScope nLeft ["self", "boat", "points"] (defScope sLeft) := ⟨rfl, rfl, rfl, by decide +kernel, rfl, by decide +kernel, by decide +kernel⟩
theorem ok_left {f : Addr} {fd : FuncData} (T : Txt K mg C) (KB : K.In base) (TB : base.BuiltinsAt mg tabL) (F : FunT K "left_out" "Regatta.left_out" sLeft f fd tabL) (b : Binds K fd ["self", "boat", "points"] []) (hm : Meth K C "left_out" f)
    (GT : MOk P w K mg base C 1 "told_of" ["self", "boat"] (spToldOf K C)) (GH : MOk P w K mg base C 1 "how_many_left_out" ["self"] (spHowM C)) : MOk P w K mg base C 2 "left_out" ["self", "boat", "points"] (spLeft C) := by
  refine ⟨f, fd, F.ok KB scLeft (fun vs H Q E h => ?_) (fun c A outer s H vs Q E hcd hr h => ?_), b, hm⟩
  · obtain ⟨p, lr, lc, pl, ds, g, b, rfl, _⟩ := h
    rfl
  · obtain ⟨p, lr, lc, pl, ds, g, b, rfl, R, hpl, k⟩ := h
    obtain ⟨dx, la, a, b', c', hp, hmk, hla⟩ := R.ob
    have wf := R.wf
    have h20 := wf.races
    refine ⟨_, pss_cons (ps_set (i := 3) scLeft.nd rfl (Or.inr rfl) (pe_m GT T.cl hr (by decide) (pv 0) (pa_cons (pv 1) pa_nil)))
      (pss_cons (ps_setLc (i := 4) (own := [("race", 6)]) rfl scLeft.nd rfl rfl (sw_true rfl rfl rfl rfl) (pi_range1 rfl T.range (pa_cons (pe_callB call_len_seq (by rfl) T.len PySem.boot_len (pa_cons (pv 3) pa_nil)) pa_nil)) (by refine blkOk_by (N := nLeft) (sc := defScope sLeft) ?_; decide +kernel)
        (fun s H C cl fp => pg_name (i := 6) scLeft.nd rfl (Or.inl rfl)) (fun s H C cl fp => pts_one (pt_cmpR op_ne (pe_ix (ixT (K := K)) (pe_ix (ixL (K := K)) (pv 3) (pv 6) (fun _ _ => rfl)) pe_int (fun _ _ => rfl)) (pe_gI T.struck) (nomark _))) (fun s H C cl fp => pv 6))
      (pss_cons (ps_set (i := 5) scLeft.nd rfl (Or.inl rfl) (Srt.pe_sortL (ci := 2) (c := s.heap.objs.size + 1) (P := tabL) (lp := lpL) ⟨rfl, rfl, ⟨c, rfl, hcd⟩, TB⟩ (lamL_txt _) hr rfl rfl rfl T.sorted (pv 4) rfl rfl))
      (pss_one (ps_ret (pe_slice sl_list (pv 5) po_none (po_some (pe_m0 GH T.cl hr (by decide) (pv 0)))))))), ?_⟩
    refine ⟨_, rfl, p, dx, _, rfl, hp, fl_no _ _ _ (by decide +kernel), _, rfl, p, lr, lc, ds, g, b, rfl, R, fun D qs H1 s1 hD hq1 hq2 hq3 => ?_⟩
    refine ⟨_, rfl, D, _, rfl, .inl (SqL.of hq2), _, rfl, ?_, ?_, fun E hE => ?_⟩
    · rw [List.length_map]
      omega
    · rw [List.length_map]
      omega
    rw [List.length_map, Int.toNat_natCast, hq1]
    refine lc_range (n := g.races.length) (fun i H' => Grow H1 E (((List.range i).filter fun r => (told g r b).kind != 6).map nI) H') (Grow.start hE) (fun i H2 hi gr => ?_) fun H2 gr => ?_
    · have ei : V.int (0 + (i : Int)) = nI i := by
        rw [Int.zero_add]
        rfl
      rw [ei]
      have hiq : i < qs.length := by omega
      have qg : (qs.map V.ref)[i]? = some (V.ref qs[i]) := by rw [List.getElem?_map, List.getElem?_eq_getElem hiq]; rfl
      have hq5 : SqT K H2 qs[i] (toldV g i b) := Rg.Same.sqT gr.1 (hq3 i qs[i] (List.getElem?_eq_getElem hiq))
      refine ⟨rfl, _, rfl, _, rfl, D, _, _, _, rfl, rfl, SqL.of (gr.1 _ _ hq2), at_of (j := i) rfl qg, qs[i], _, _, _, rfl, rfl, hq5, at_of (j := 0) rfl rfl, rfl, _, rfl, ?_⟩
      rw [filter_range_succ]
      refine ite2 (fun h6 => ?_) (fun h6 => ?_)
      · have h7 : ((told g i b).kind != 6) = true := by
          rw [bne_iff_ne]
          intro z
          rw [z] at h6
          exact absurd h6 (by decide)
        rw [if_pos h7, List.map_append]
        refine ⟨_, rfl, _, gr.2, ?_, gr.more hE (fun b o e => e)⟩
        rw [List.length_map]
        have := List.length_filter_le (fun r => (told g r b).kind != 6) (List.range i)
        rw [List.length_range] at this
        exact small1000 (by omega)
      · have h7 : (told g i b).kind = 6 := by
          by_cases z : (told g i b).kind = 6
          · exact z
          · exact absurd (by
              rw [Bool.not_eq_true', decide_eq_false_iff_not]
              intro y
              injection y with y
              omega) h6
        rw [if_neg (by rw [h7]; decide), List.append_nil]
        exact gr
    · have sm : Same H H2 := Same.trans s1 gr.1
      have R2 := R.same sm
      have er : (Kyr.row g b).map nI = (toZ (Kyr.row g b)).map V.int := by
        unfold toZ
        rw [List.map_map]
        rfl
      have hpl2 : SqL K H2 pl ((toZ (Kyr.row g b)).map V.int) := SqL.of (by rw [← er]; exact sm _ _ hpl)
      have hlen : (toZ (Kyr.row g b)).length = g.races.length := by
        unfold toZ
        rw [List.length_map, row_len]
      refine ⟨_, rfl, E, pl, freeOf g b, toZ (Kyr.row g b), rfl, SqL.of gr.2, rfl, hpl2, fun i m => ?_, ?_, by omega, R2.tabs.1, fun js D2 H3 hjs st tb hD2 hl2 => ?_⟩
      · rw [hlen]
        exact List.mem_range.mp (List.mem_filter.mp m).1
      · unfold freeOf
        have := List.length_filter_le (fun r => (told g r b).kind != 6) (List.range g.races.length)
        rw [List.length_range] at this
        omega
      obtain ⟨ps, hP⟩ := R2.tabs.1.at
      have st3 : Stay H2 H3 := Stay.ofB hP tb.at st
      have tb3 : Tabs H3 := ⟨tb, tab_otherB tabL_ne_O.symm hP st R2.tabs.2⟩
      have R3 := R2.stay st3 tb3
      obtain ⟨dx3, la3, a3, b3, c3, hp3, _, _⟩ := R3.ob
      refine ⟨_, rfl, _, rfl, p, dx3, _, rfl, hp3, fl_no _ _ _ (by decide +kernel), p, lr, lc, ds, g, rfl, R3, fun H4 s4 => ⟨_, rfl, D2, _, rfl, SqL.of (s4 _ _ hl2), fun y hy => ?_⟩⟩
      have e : cutV (js.map Srt.nV) none (some ((Kyr.howMany g : Nat) : Int)) = (Kyr.out_ g b).reverse.map nI := by
        rw [cut_to, left_is hjs]
      rw [e]
      have s5 := same_upd (o := .lst ((Kyr.out_ g b).reverse.map nI)) hy
      have stA : Stay H (upd H4 y (.lst ((Kyr.out_ g b).reverse.map nI))) := (Stay.of sm).trans (st3.trans ((Stay.of s4).trans (.of s5)))
      have hy0 : H y = none := sm |> fun sm => L2.Same.free sm (st3.dom _ (L2.Same.free s4 hy))
      exact k y _ stA ((tb3.same s4).same s5) hy0 upd_same
end
end Rg
end

section
set_option Elab.async false
set_option linter.all false
set_option maxRecDepth 100000
set_option maxHeartbeats 2000000
namespace Rg
open PySem PySem.Spec PyProof.Rows L2
open Kyr (Regatta Told told nothing boats)
open Srt (K3 lt3 StandH)
theorem map_toZ (l : List Nat) : l.map nI = (toZ l).map V.int := by
  unfold toZ
  rw [List.map_map]
  rfl
theorem sum_toZ (l : List Nat) : (toZ l).sum = ((l.sum : Nat) : Int) := by
  induction l with
  | nil => rfl
  | cons a r ih =>
    show (a : Int) + (toZ r).sum = _
    rw [ih, List.sum_cons]
    omega
/-- what stands for a boat, its lists none of D -/
def StandD (H : Hp) (D t : Addr) (k : K3) : Prop := ∃ l1 l2, l1 ≠ D ∧ l2 ≠ D ∧ H t = some (.tup [.int k.1, .ref l1, .ref l2]) ∧ H l1 = some (.lst (k.2.1.map V.int)) ∧ H l2 = some (.lst (k.2.2.map V.int))
theorem StandD.of {H : Hp} {D t : Addr} {k : K3} (h : StandD H D t k) : StandH H t k := by
  obtain ⟨l1, l2, _, _, a, b, c⟩ := h
  exact ⟨l1, l2, a, b, c⟩
theorem StandD.stay {H H' : Hp} {D t : Addr} {k : K3} (h : StandD H D t k) (s : Stay H H') : StandD H' D t k := by
  obtain ⟨l1, l2, n1, n2, a, b, c⟩ := h
  exact ⟨l1, l2, n1, n2, s.at _ _ a rfl, s.at _ _ b rfl, s.at _ _ c rfl⟩
theorem StandD.upd {H : Hp} {D t : Addr} {k : K3} {xs ys : List V} (h : StandD H D t k) (hD : H D = some (.lst xs)) : StandD (upd H D (.lst ys)) D t k := by
  obtain ⟨l1, l2, n1, n2, a, b, c⟩ := h
  exact ⟨l1, l2, n1, n2, by rw [upd_ne (ne_of a hD (by intro z; cases z))]; exact a, by rw [upd_ne n1]; exact b, by rw [upd_ne n2]; exact c⟩
theorem standS {H H' : Hp} {t : Addr} {k : K3} (h : StandH H t k) (s : Stay H H') : StandH H' t k := by
  obtain ⟨l1, l2, a, b, c⟩ := h
  exact ⟨l1, l2, s.at _ _ a rfl, s.at _ _ b rfl, s.at _ _ c rfl⟩
def spStand (C : Addr) : Sp := fun vs H Q _ => ∃ (p lr lc tA : Addr) (ds : List Addr) (g : Regatta) (b : Nat), vs = [.ref p, nI b, .ref tA] ∧ Reg C H p lr lc ds g ∧ b < boats g ∧ AllTimes H g tA ∧
  ∀ (t l1 l2 : Addr) (H' : Hp), Stay H H' → Tabs H' → H t = none → H l1 = none → H l2 = none → H' t = some (.tup [.int (stand g b).1, .ref l1, .ref l2]) → H' l1 = some (.lst ((stand g b).2.1.map V.int)) → H' l2 = some (.lst ((stand g b).2.2.map V.int)) → Q (.ref t) H'
def AllStands (H : Hp) (g : Regatta) (D : Addr) : Prop := ∃ ts : List Addr, H D = some (.lst (ts.map V.ref)) ∧ ts.length = boats g ∧ ∀ i t, ts[i]? = some t → StandH H t (stand g i)
theorem AllStands.stay {H H' : Hp} {g : Regatta} {D : Addr} (h : AllStands H g D) (s : Stay H H') : AllStands H' g D := by
  obtain ⟨ts, a, b, c⟩ := h
  exact ⟨ts, s.at _ _ a rfl, b, fun i t e => standS (c i t e) s⟩
def spStands (C : Addr) : Sp := fun vs H Q _ => ∃ (p lr lc : Addr) (ds : List Addr) (g : Regatta), vs = [.ref p] ∧ Reg C H p lr lc ds g ∧ ∀ (D : Addr) (H' : Hp), Stay H H' → Tabs H' → H D = none → AllStands H' g D → Q (.ref D) H'
def spPoints (C : Addr) : Sp := fun vs H Q _ => ∃ (p lr lc : Addr) (ds : List Addr) (g : Regatta) (r b : Nat), vs = [.ref p, nI r, nI b] ∧ Reg C H p lr lc ds g ∧
  if g.races.length ≤ r ∨ boats g ≤ b then Q (.int (-2)) H else ∀ H' : Hp, Same H H' → Q (nI (Kyr.points g r b)) H'
def spTotal (C : Addr) : Sp := fun vs H Q _ => ∃ (p lr lc : Addr) (ds : List Addr) (g : Regatta) (b : Nat), vs = [.ref p, nI b] ∧ Reg C H p lr lc ds g ∧
  if boats g ≤ b then ∀ (D : Addr) (H' : Hp), Stay H H' → Tabs H' → H D = none → H' D = some (.lst [.int (-2)]) → Q (.ref D) H'
  else ∀ (D : Addr) (H' : Hp), Stay H H' → Tabs H' → H D = none → H' D = some (.lst [nI (Kyr.total g b), nI (Kyr.bits (Kyr.out_ g b))]) → Q (.ref D) H'
def spPlace (C : Addr) : Sp := fun vs H Q _ => ∃ (p lr lc : Addr) (ds : List Addr) (g : Regatta) (b : Nat), vs = [.ref p, nI b] ∧ Reg C H p lr lc ds g ∧
  if boats g ≤ b then Q (.int (-2)) H else ∀ H' : Hp, Stay H H' → Tabs H' → Q (nI (Kyr.place g b)) H'
def spOrder (C : Addr) : Sp := fun vs H Q _ => ∃ (p lr lc : Addr) (ds : List Addr) (g : Regatta), vs = [.ref p] ∧ Reg C H p lr lc ds g ∧
  ∀ (D : Addr) (H' : Hp), Stay H H' → Tabs H' → H D = none → H' D = some (.lst (nI (boats g) :: (Kyr.order g).map nI)) → Q (.ref D) H'
section
variable {P : Program} {w : World} {K : PySem.W.Frag} {mg : Str → Option Value} {base : Heap} {C : Addr}
/-! ### standing -/
theorem scStand : FnScope ["self", "boat", "times", "points", "kept"] ["self", "boat", "times"] (defScope sStand) := ⟨rfl, rfl, rfl, by decide +kernel, rfl, by decide +kernel, by decide +kernel⟩
theorem ok_stand {f : Addr} {fd : FuncData} (T : Txt K mg C) (D : DefM K C "standing" "Regatta.standing" sStand ["self", "boat", "times"] f fd) (GP : MOk P w K mg base C 3 "points_of" ["self", "boat", "times"] (spPtsOf C))
    (GL : MOk P w K mg base C 2 "left_out" ["self", "boat", "points"] (spLeft C)) (GK : GOk P w K mg base 1 "points_kept" ["points", "out"] (spKept K)) : MOk P w K mg base C 4 "standing" ["self", "boat", "times"] (spStand C) := by
  obtain ⟨F, b, hm⟩ := D
  refine ⟨f, fd, F.ok scStand (fun vs H Q E h => ?_) (fun cdv A outer s H vs Q E hr h => ?_), b, hm⟩
  · obtain ⟨p, lr, lc, tA, ds, g, b, rfl, _⟩ := h
    rfl
  · obtain ⟨p, lr, lc, tA, ds, g, b, rfl, R, hb, hA, k⟩ := h
    obtain ⟨dx, la, a, b', c, hp, hmk, hla⟩ := R.ob
    have wf := R.wf
    have h20 := wf.races
    refine ⟨_, pss_cons (ps_set (i := 3) scStand.nd rfl (Or.inl rfl) (pe_m GP T.cl hr (by decide) (pv 0) (pa_cons (pv 1) (pa_cons (pv 2) pa_nil))))
      (pss_cons (ps_set (i := 4) scStand.nd rfl (Or.inl rfl) (pe_callB cr_sorted (by rfl) T.sorted boot_sorted (pa_cons (pe_g GK hr (by decide) rfl (pa_cons (pv 3) (pa_cons (pe_m GL T.cl hr (by decide) (pv 0) (pa_cons (pv 1) (pa_cons (pv 3) pa_nil))) pa_nil))) pa_nil)))
      (pss_one (ps_ret (pe_tup (pa_cons (pe_callB (cr_sum rfl) (by rfl) T.sum boot_sum (pa_cons (pv 4) pa_nil)) (pa_cons (pv 4) (pa_cons (Srt.pe_listRev rfl T.lst rfl T.rev rfl (pv 3) rfl rfl) pa_nil))))))), ?_⟩
    refine ⟨_, rfl, p, dx, _, rfl, hp, fl_no _ _ _ (by decide +kernel), _, rfl, _, rfl, p, lr, lc, tA, ds, g, b, rfl, R, hb, hA, fun D1 H1 s1 hD1 hl1 => ?_⟩
    have R1 := R.same s1
    refine ⟨_, rfl, _, rfl, p, dx, _, rfl, s1 _ _ hp, fl_no _ _ _ (by decide +kernel), _, rfl, _, rfl, p, lr, lc, D1, ds, g, b, rfl, R1, hl1, fun D2 H2 st2 tb2 hD2 hl2 => ?_⟩
    have hl1' := st2.at _ _ hl1 rfl
    refine ⟨D1, D2, _, _, rfl, SqL.of hl1', SqL.of hl2, by rw [row_len]; omega, fun D3 H3 s3 hD3 hl3 => ?_⟩
    rw [kept_is] at hl3
    have ez := map_toZ ((Kyr.kept g b).map fun r => Kyr.points g r b)
    rw [ez] at hl3
    have hkl : (Kyr.kept g b).length ≤ g.races.length := by
      unfold Kyr.kept
      have := List.length_filter_le (fun r => !((Kyr.out_ g b).contains r)) (List.range g.races.length)
      rwa [List.length_range] at this
    refine ⟨D3, _, rfl, SqL.of hl3, ?_, fun ns y h1 h2 hy => ?_⟩
    · unfold toZ
      rw [List.length_map, List.length_map]
      omega
    obtain ⟨ts, rfl, hts⟩ := perm_nat h1
    have hbest : ts = Kyr.best g b := sorted_is hts (by
      rw [List.pairwise_map] at h2
      exact h2.imp fun h => by omega)
    subst hbest
    have s4 := same_upd (o := .lst ((List.map (fun x : Nat => (x : Int)) (Kyr.best g b)).map V.int)) hy
    have es : V.int (List.map (fun x : Nat => (x : Int)) (Kyr.best g b)).sum = V.int (stand g b).1 := by
      show V.int (toZ (Kyr.best g b)).sum = _
      rw [sum_toZ, best_sum]
      rfl
    have hl1'' := s4 _ _ (s3 _ _ hl1')
    refine ⟨_, rfl, y, List.map (fun x : Nat => (x : Int)) (Kyr.best g b), rfl, SqL.of upd_same, _, rfl, _, rfl, D1, _, rfl, SqL.of hl1'', fun l2 hl2n => ?_⟩
    have s5 := same_upd (o := .lst ((Kyr.row g b).map nI).reverse) hl2n
    refine ⟨(by show 3 ≤ sizeLine; decide), fun t ht => ?_⟩
    rw [es]
    have s6 := same_upd (o := .tup [V.int (stand g b).1, V.ref y, V.ref l2]) ht
    have stA : Stay H H2 := (Stay.of s1).trans st2
    have stB := stA.trans (.of s3)
    have stC := stB.trans (.of s4)
    have stD := stC.trans (.of s5)
    have stE := stD.trans (.of s6)
    have tbE := (((tb2.same s3).same s4).same s5).same s6
    refine k t y l2 _ stE tbE (stD.dom _ ht) (stB.dom _ hy) (stC.dom _ hl2n) upd_same (s6 _ _ (s5 _ _ upd_same)) (s6 _ _ ?_)
    rw [upd_same]
    show some (HO.lst _) = some (HO.lst ((toZ (Kyr.row g b).reverse).map V.int))
    rw [← map_toZ, List.map_reverse]
/-! ### standings -/
theorem scStands : FnScope ["self", "times", "boat"] ["self"] (defScope sStands) := ⟨rfl, rfl, rfl, by decide +kernel, rfl, by decide +kernel, by decide +kernel⟩
theorem ok_stands {f : Addr} {fd : FuncData} (T : Txt K mg C) (D : DefM K C "standings" "Regatta.standings" sStands ["self"] f fd) (GA : MOk P w K mg base C 2 "times_of_all" ["self"] (spTimesAll C))
    (GS : MOk P w K mg base C 4 "standing" ["self", "boat", "times"] (spStand C)) : MOk P w K mg base C 5 "standings" ["self"] (spStands C) := by
  obtain ⟨F, b, hm⟩ := D
  refine ⟨f, fd, F.ok scStands (fun vs H Q E h => ?_) (fun cdv A outer s H vs Q E hr h => ?_), b, hm⟩
  · obtain ⟨p, lr, lc, ds, g, rfl, _⟩ := h
    rfl
  · obtain ⟨p, lr, lc, ds, g, rfl, R, k⟩ := h
    obtain ⟨dx, la, a, b', c, hp, hmk, hla⟩ := R.ob
    have wf := R.wf
    have h32 : g.ratings.length ≤ 32 := wf.boats
    refine ⟨_, pss_cons (ps_set (i := 1) scStands.nd rfl (Or.inr rfl) (pe_m0 GA T.cl hr (by decide) (pv 0)))
      (pss_one (ps_ret (pe_lc (own := [("boat", 2)]) rfl scStands.nd (pi_range1 rfl T.range (pa_cons (pe_callB call_len_seq (by rfl) T.len PySem.boot_len (pa_cons (pe_fld (pv 0) rfl) pa_nil)) pa_nil)) (by refine blkOk_by (N := ["self", "times", "boat"]) (sc := defScope sStands) ?_; decide +kernel)
      (fun s H C cl fp => pg_name (i := 2) scStands.nd rfl (Or.inl rfl)) (fun s H C cl fp => pts_nil) (fun s' H' C' cl fp => pe_m (C := C) GS T.cl hr (by decide) (pv 0) (pa_cons (pv 2) (pa_cons (pv 1) pa_nil)))))), ?_⟩
    refine ⟨_, rfl, p, dx, _, rfl, hp, fl_no _ _ _ (by decide +kernel), p, lr, lc, ds, g, rfl, R, fun tA H1 s1 htA hA => ?_⟩
    refine ⟨_, rfl, p, C, dx, _, _, rfl, s1 _ _ hp, T.cl, T.nR, fl_ratings _ _ _, lr, _, rfl, .inl (SqL.of (s1 _ _ R.rat)), _, rfl, ?_, ?_, fun D hD => ?_⟩
    · rw [List.length_map]
      omega
    · rw [List.length_map]
      omega
    rw [List.length_map, Int.toNat_natCast]
    have R1 := R.same s1
    have s2 := same_upd (o := .lst []) hD
    refine lc_range (n := g.ratings.length) (fun i H' => ∃ ts : List Addr, ts.length = i ∧ Stay H1 H' ∧ Tabs H' ∧ H' D = some (.lst (ts.map V.ref)) ∧ ∀ j t, ts[j]? = some t → StandD H' D t (stand g j)) ⟨[], rfl, .of s2, R1.tabs.same s2, upd_same, fun r q e => by simp at e⟩ (fun i H2 hi ⟨ts, h1, st, tb, hDl, h2⟩ => ?_) fun H2 ⟨ts, h1, st, tb, hDl, h2⟩ => ?_
    · have ei : V.int (0 + (i : Int)) = nI i := by
        rw [Int.zero_add]
        rfl
      rw [ei]
      refine ⟨rfl, ?_⟩
      unfold tYes
      dsimp only
      rw [if_pos rfl]
      have R2 := R1.stay st tb
      refine ⟨_, rfl, p, dx, _, rfl, st.at _ _ (s1 _ _ hp) rfl, fl_no _ _ _ (by decide +kernel), _, rfl, _, rfl, p, lr, lc, tA, ds, g, i, rfl, R2, hi, hA.stay st, fun t l1 l2 H3 st3 tb3 n0 n1 n2 e0 e1 e2 => ?_⟩
      have hD3 := st3.at _ _ hDl rfl
      have nD1 : l1 ≠ D := fun z => by rw [z, hDl] at n1; cases n1
      have nD2 : l2 ≠ D := fun z => by rw [z, hDl] at n2; cases n2
      have new : StandD H3 D t (stand g i) := ⟨l1, l2, nD1, nD2, e0, e1, e2⟩
      have kpD : Keep H3 (upd H3 D (.lst (ts.map V.ref ++ [V.ref t]))) [D] := fun z o e n => by
        rw [upd_ne fun y => n (by rw [y]; simp)]
        exact e
      refine ⟨_, hD3, by rw [List.length_map]; exact small1000 (by omega), ts ++ [t], by rw [List.length_append, h1]; rfl, ?_, tb3.keep kpD (fun z m => by rw [List.mem_singleton.mp m]; exact plainL hD3), ?_, fun j t' e => ?_⟩
      · refine ⟨fun z o e n => ?_, fun z e => ?_⟩
        · rw [upd_ne (ne_of_none e hD)]
          exact st3.at _ _ (st.at _ _ e n) n
        · by_cases hz : z = D
          · rw [hz]
            exact hD
          · rw [upd_ne hz] at e
            exact st.dom _ (st3.dom _ e)
      · rw [upd_same, List.map_append]
        rfl
      · by_cases hlt : j < ts.length
        · rw [List.getElem?_append_left hlt] at e
          exact ((h2 j t' e).stay st3).upd hD3
        · rw [List.getElem?_append_right (by omega)] at e
          by_cases h0 : j - ts.length = 0
          · rw [h0] at e
            have e := Option.some.inj e
            subst e
            rw [show j = i by omega]
            exact new.upd hD3
          · rw [List.getElem?_eq_none (by simp; omega)] at e
            cases e
    · exact k D H2 ((Stay.of s1).trans st) tb (L2.Same.free s1 hD) ⟨ts, hDl, h1, fun i t e => (h2 i t e).of⟩
end
end Rg
end

section
set_option Elab.async false
set_option linter.all false
set_option maxRecDepth 100000
set_option maxHeartbeats 2000000
namespace Rg
open PySem PySem.Spec PyProof.Rows L2
open Kyr (Regatta Told told nothing boats)
open Srt (K3 lt3 StandH)
/-- two that stand for boats, the one less -/
def rLtS : R2 := fun x y H Q => ∃ (t u : Addr) (k k' : K3), x = .ref t ∧ y = .ref u ∧ StandH H t k ∧ StandH H u k' ∧ Q (.bl (lt3 k k')) H
theorem op_ltS {X : Cx} (hu : X.A.units + 1 < cLine) : OpR X (compareOp .Lt) rLtS := by
  intro pins s σ H x y v u Q I rx ry h
  obtain ⟨t, u', k, k', rfl, rfl, h1, h2, q⟩ := h
  cases rx
  cases ry
  exact Srt.lt_stand (h1.at I) (h2.at I) hu ⟨.bl (lt3 k k'), H, I, rfl, q⟩
theorem pow_toZ (i : Nat) : V.int (1 * 2 ^ (Int.toNat (i : Int))) = nI (2 ^ i) := by
  show V.int _ = V.int ((2 ^ i : Nat) : Int)
  rw [Int.one_mul, Int.toNat_natCast, Int.natCast_pow]
  rfl
section
variable {P : Program} {w : World} {K : PySem.W.Frag} {mg : Str → Option Value} {base : Heap} {C : Addr}
/-! ### points -/
theorem scPoints : FnScope ["self", "race", "boat"] ["self", "race", "boat"] (defScope sPoints) := ⟨rfl, rfl, rfl, by decide +kernel, rfl, by decide +kernel, by decide +kernel⟩
theorem ok_points {f : Addr} {fd : FuncData} (T : Txt K mg C) (D : DefM K C "points" "Regatta.points" sPoints ["self", "race", "boat"] f fd) (GH : MOk P w K mg base C 2 "has" ["self", "race", "boat"] (spHas C)) (GA : MOk P w K mg base C 2 "times_of_all" ["self"] (spTimesAll C))
    (GP : MOk P w K mg base C 3 "points_of" ["self", "boat", "times"] (spPtsOf C)) : MOk P w K mg base C 4 "points" ["self", "race", "boat"] (spPoints C) := by
  obtain ⟨F, b, hm⟩ := D
  refine ⟨f, fd, F.ok scPoints (fun vs H Q E h => ?_) (fun cdv A outer s H vs Q E hr h => ?_), b, hm⟩
  · obtain ⟨p, lr, lc, ds, g, r, b, rfl, _⟩ := h
    rfl
  · obtain ⟨p, lr, lc, ds, g, r, b, rfl, R, k⟩ := h
    obtain ⟨dx, la, a, b', c, hp, hmk, hla⟩ := R.ob
    refine ⟨_, pss_cons (ps_if (pt_not (pt_val (pe_m GH T.cl hr (by decide) (pv 0) (pa_cons (pv 1) (pa_cons (pv 2) pa_nil))))) (pss_one (ps_ret (pe_gI T.noSuch))) pss_nil)
      (pss_one (ps_ret (pe_ix ix_list (pe_m GP T.cl hr (by decide) (pv 0) (pa_cons (pv 2) (pa_cons (pe_m0 GA T.cl hr (by decide) (pv 0)) pa_nil))) (pv 1) (fun _ _ => rfl)))), ?_⟩
    refine ⟨_, rfl, p, dx, _, rfl, hp, fl_no _ _ _ (by decide +kernel), _, rfl, _, rfl, p, lr, lc, ds, g, r, b, rfl, R, _, rfl, ?_⟩
    cases e : decide (r < g.races.length) && decide (b < boats g) with
    | false =>
      rw [if_pos (has_false e)] at k
      exact k
    | true =>
      obtain ⟨hr1, hb1⟩ := has_true e
      rw [if_neg (by omega)] at k
      refine iteF ?_
      refine ⟨_, rfl, p, dx, _, rfl, hp, fl_no _ _ _ (by decide +kernel), _, rfl, _, rfl, p, dx, _, rfl, hp, fl_no _ _ _ (by decide +kernel), p, lr, lc, ds, g, rfl, R, fun tA H1 s1 htA hA => ?_⟩
      refine ⟨p, lr, lc, tA, ds, g, b, rfl, R.same s1, hb1, hA, fun D2 H2 s2 hD2 hl2 => ?_⟩
      refine ⟨_, rfl, D2, _, _, _, rfl, rfl, SqL.of hl2, at_of (j := r) rfl (nI_get (by rw [row_len]; exact hr1)), ?_⟩
      rw [row_get hr1]
      exact k H2 (Same.trans s1 s2)
/-! ### total -/
theorem scTotal : FnScope ["self", "boat", "points", "out", "race"] ["self", "boat"] (defScope sTotal) := ⟨rfl, rfl, rfl, by decide +kernel, rfl, by decide +kernel, by decide +kernel⟩
theorem ok_total {f : Addr} {fd : FuncData} (T : Txt K mg C) (D : DefM K C "total" "Regatta.total" sTotal ["self", "boat"] f fd) (GB : MOk P w K mg base C 1 "has_boat" ["self", "boat"] (spHasB C)) (GA : MOk P w K mg base C 2 "times_of_all" ["self"] (spTimesAll C))
    (GP : MOk P w K mg base C 3 "points_of" ["self", "boat", "times"] (spPtsOf C)) (GL : MOk P w K mg base C 2 "left_out" ["self", "boat", "points"] (spLeft C)) (GK : GOk P w K mg base 1 "points_kept" ["points", "out"] (spKept K)) :
    MOk P w K mg base C 4 "total" ["self", "boat"] (spTotal C) := by
  obtain ⟨F, b, hm⟩ := D
  refine ⟨f, fd, F.ok scTotal (fun vs H Q E h => ?_) (fun cdv A outer s H vs Q E hr h => ?_), b, hm⟩
  · obtain ⟨p, lr, lc, ds, g, b, rfl, _⟩ := h
    rfl
  · obtain ⟨p, lr, lc, ds, g, b, rfl, R, k⟩ := h
    obtain ⟨dx, la, a, b', c, hp, hmk, hla⟩ := R.ob
    have h20 := R.wf.races
    refine ⟨_, pss_cons (ps_if (pt_not (pt_val (pe_m GB T.cl hr (by decide) (pv 0) (pa_cons (pv 1) pa_nil)))) (pss_one (ps_ret (pe_lst (pa_cons (pe_gI T.noSuch) pa_nil)))) pss_nil)
      (pss_cons (ps_set (i := 2) scTotal.nd rfl (Or.inl rfl) (pe_m GP T.cl hr (by decide) (pv 0) (pa_cons (pv 1) (pa_cons (pe_m0 GA T.cl hr (by decide) (pv 0)) pa_nil))))
      (pss_cons (ps_set (i := 3) scTotal.nd rfl (Or.inl rfl) (pe_m GL T.cl hr (by decide) (pv 0) (pa_cons (pv 1) (pa_cons (pv 2) pa_nil))))
      (pss_one (ps_ret (pe_lst (pa_cons (pe_callB (cr_sum rfl) (by rfl) T.sum boot_sum (pa_cons (pe_g GK hr (by decide) rfl (pa_cons (pv 2) (pa_cons (pv 3) pa_nil))) pa_nil))
        (pa_cons (pe_callB (cr_sum rfl) (by rfl) T.sum boot_sum (pa_cons (pe_lc (own := [("race", 4)]) rfl scTotal.nd (pi_list (pv 3)) (by refine blkOk_by (N := ["self", "boat", "points", "out", "race"]) (sc := defScope sTotal) ?_; decide +kernel)
          (fun s H C cl fp => pg_name (i := 4) scTotal.nd rfl (Or.inl rfl)) (fun s H C cl fp => pts_nil) (fun s H C cl fp => pe_op op_shl pe_int (pv 4))) pa_nil)) pa_nil))))))), ?_⟩
    refine ⟨_, rfl, p, dx, _, rfl, hp, fl_no _ _ _ (by decide +kernel), _, rfl, p, lr, lc, ds, g, b, rfl, R, _, rfl, ?_⟩
    by_cases hb : b < boats g
    · rw [if_neg (by omega)] at k
      rw [decide_eq_true hb]
      refine iteF ?_
      refine ⟨_, rfl, p, dx, _, rfl, hp, fl_no _ _ _ (by decide +kernel), _, rfl, _, rfl, p, dx, _, rfl, hp, fl_no _ _ _ (by decide +kernel), p, lr, lc, ds, g, rfl, R, fun tA H1 s1 htA hA => ?_⟩
      refine ⟨p, lr, lc, tA, ds, g, b, rfl, R.same s1, hb, hA, fun D2 H2 s2 hD2 hl2 => ?_⟩
      have s12 := Same.trans s1 s2
      refine ⟨_, rfl, p, dx, _, rfl, s12 _ _ hp, fl_no _ _ _ (by decide +kernel), _, rfl, _, rfl, p, lr, lc, D2, ds, g, b, rfl, R.same s12, hl2, fun D3 H3 st3 tb3 hD3 hl3 => ?_⟩
      have hl2' := st3.at _ _ hl2 rfl
      refine ⟨_, rfl, _, rfl, D2, D3, _, _, rfl, SqL.of hl2', SqL.of hl3, by rw [row_len]; omega, fun D4 H4 s4 hD4 hl4 => ?_⟩
      rw [kept_is, map_toZ] at hl4
      refine ⟨D4, _, rfl, SqL.of hl4, ?_⟩
      have e1 : V.int (toZ ((Kyr.kept g b).map fun r => Kyr.points g r b)).sum = nI (Kyr.total g b) := by
        rw [sum_toZ, total_is]
        rfl
      rw [e1]
      have hl3' := s4 _ _ hl3
      refine ⟨_, rfl, D3, rfl, ⟨_, SqL.of hl3'⟩, fun E hE => ?_⟩
      have hol : (Kyr.out_ g b).reverse.length ≤ 1000 := by
        have h5 : ((Kyr.out_ g b).reverse.map nI).length ≤ 1000 := by
          rw [List.length_map, List.length_reverse]
          exact out_len g b h20
        rwa [List.length_map] at h5
      refine lc_list (K := K) (a := D3) (xs := (Kyr.out_ g b).reverse.map nI) (fun i H' => Grow H4 E ((((Kyr.out_ g b).reverse.take i).map fun r => 2 ^ r).map nI) H') (Grow.start hE) (fun i H' _ gr => gr.1.seq (SqL.of hl3')) (fun i x H5 hi gr => ?_) fun H5 gr => ?_
      · obtain ⟨z, hz, rfl⟩ : ∃ z, (Kyr.out_ g b).reverse[i]? = some z ∧ x = nI z := by
          rw [List.getElem?_map] at hi
          cases y : (Kyr.out_ g b).reverse[i]? with
          | none => rw [y] at hi; cases hi
          | some z => rw [y] at hi; exact ⟨z, rfl, (Option.some.inj hi).symm⟩
        refine ⟨rfl, ?_⟩
        unfold tYes
        dsimp only
        rw [if_pos rfl]
        have hz20 : z < 1000 := by
          have := out_lt g b z (List.mem_reverse.mp (List.mem_of_getElem? hz))
          omega
        refine ⟨_, rfl, _, _, rfl, rfl, ⟨by omega, by omega, by decide⟩, _, gr.2, ?_, ?_⟩
        · rw [List.length_map, List.length_map, List.length_take]
          exact small1000 (by omega)
        · dsimp only
          rw [pow_toZ, List.take_add_one, hz, List.map_append, List.map_append]
          exact gr.more hE (fun b o e => e)
      · rw [List.length_map, List.take_length, map_toZ] at gr
        refine ⟨E, _, rfl, SqL.of gr.2, ?_⟩
        have e2 : V.int (toZ ((Kyr.out_ g b).reverse.map fun r => 2 ^ r)).sum = nI (Kyr.bits (Kyr.out_ g b)) := by
          rw [sum_toZ, bits_is]
          rfl
        rw [e2]
        refine ⟨(by show 2 ≤ sizeLine; decide), fun q hq => ?_⟩
        have s6 := same_upd (o := .lst [nI (Kyr.total g b), nI (Kyr.bits (Kyr.out_ g b))]) hq
        have stB : Stay H H5 := ((Stay.of s12).trans st3).trans ((Stay.of s4).trans (.of gr.1))
        exact k q _ (stB.trans (.of s6)) (((tb3.same s4).same gr.1).same s6) (stB.dom _ hq) upd_same
    · rw [if_pos (by omega)] at k
      rw [decide_eq_false hb]
      refine iteT ?_
      refine ⟨(by show 1 ≤ sizeLine; decide), fun q hq => ?_⟩
      have s6 := same_upd (o := .lst [V.int (-2)]) hq
      exact k q _ (.of s6) (R.tabs.same s6) hq upd_same
/-! ### place -/
theorem scPlace : FnScope ["self", "boat", "standings", "other"] ["self", "boat"] (defScope sPlace) := ⟨rfl, rfl, rfl, by decide +kernel, rfl, by decide +kernel, by decide +kernel⟩
theorem ok_place {f : Addr} {fd : FuncData} (T : Txt K mg C) (D : DefM K C "place" "Regatta.place" sPlace ["self", "boat"] f fd) (GB : MOk P w K mg base C 1 "has_boat" ["self", "boat"] (spHasB C)) (GS : MOk P w K mg base C 5 "standings" ["self"] (spStands C)) :
    MOk P w K mg base C 6 "place" ["self", "boat"] (spPlace C) := by
  obtain ⟨F, b, hm⟩ := D
  refine ⟨f, fd, F.ok scPlace (fun vs H Q E h => ?_) (fun cdv A outer s H vs Q E hr h => ?_), b, hm⟩
  · obtain ⟨p, lr, lc, ds, g, b, rfl, _⟩ := h
    rfl
  · obtain ⟨p, lr, lc, ds, g, b, rfl, R, k⟩ := h
    obtain ⟨dx, la, a, b', c, hp, hmk, hla⟩ := R.ob
    have h32 : boats g ≤ 32 := R.wf.boats
    have hu := hu_of hr
    refine ⟨_, pss_cons (ps_if (pt_not (pt_val (pe_m GB T.cl hr (by decide) (pv 0) (pa_cons (pv 1) pa_nil)))) (pss_one (ps_ret (pe_gI T.noSuch))) pss_nil)
      (pss_cons (ps_set (i := 2) scPlace.nd rfl (Or.inr rfl) (pe_m0 GS T.cl hr (by decide) (pv 0)))
      (pss_one (ps_ret (pe_op op_add pe_int (pe_callB call_len_seq (by rfl) T.len PySem.boot_len (pa_cons (pe_lc (own := [("other", 3)]) rfl scPlace.nd (pi_list (pv 2)) (by refine blkOk_by (N := ["self", "boat", "standings", "other"]) (sc := defScope sPlace) ?_; decide +kernel)
          (fun s H C cl fp => pg_name (i := 3) scPlace.nd rfl (Or.inl rfl)) (fun s H C cl fp => pts_one (pt_cmpR (op_ltS hu) (pv 3) (pe_ix (ixL (K := K)) (pv 2) (pv 1) (fun _ _ => rfl)) (nomark _))) (fun s H C cl fp => pv 3)) pa_nil)))))), ?_⟩
    refine ⟨_, rfl, p, dx, _, rfl, hp, fl_no _ _ _ (by decide +kernel), _, rfl, p, lr, lc, ds, g, b, rfl, R, _, rfl, ?_⟩
    by_cases hb : b < boats g
    · rw [if_neg (by omega)] at k
      rw [decide_eq_true hb]
      refine iteF ?_
      refine ⟨_, rfl, p, dx, _, rfl, hp, fl_no _ _ _ (by decide +kernel), p, lr, lc, ds, g, rfl, R, fun sD H1 st1 tb1 hsD hS => ?_⟩
      obtain ⟨ts, h1, h2, h3⟩ := hS
      refine ⟨_, rfl, sD, rfl, ⟨_, SqL.of h1⟩, fun E hE => ?_⟩
      have htb : b < ts.length := by omega
      have tg : ∀ j (hj : j < ts.length), (ts.map V.ref)[j]? = some (V.ref ts[j]) := fun j hj => by rw [List.getElem?_map, List.getElem?_eq_getElem hj]; rfl
      refine lc_list (K := K) (a := sD) (xs := ts.map V.ref) (fun i H' => ∃ xs : List V, xs.length = ((List.range i).filter fun c => lt3 (stand g c) (stand g b)).length ∧ Grow H1 E xs H') ⟨[], rfl, Grow.start hE⟩ (fun i H' _ ⟨xs, _, gr⟩ => gr.1.seq (SqL.of h1)) (fun i x H5 hi ⟨xs, hx, gr⟩ => ?_) fun H5 ⟨xs, hx, gr⟩ => ?_
      · have hi2 : i < ts.length := by
          have := (List.getElem?_eq_some_iff.mp hi).1
          rwa [List.length_map] at this
        have ex : x = V.ref ts[i] := by
          rw [tg i hi2] at hi
          exact (Option.some.inj hi).symm
        subst ex
        refine ⟨rfl, _, rfl, _, rfl, _, rfl, sD, _, _, _, rfl, rfl, SqL.of (gr.1 _ _ h1), at_of (j := b) rfl (tg b htb), _, _, _, _, rfl, rfl, standS (h3 i _ (List.getElem?_eq_getElem hi2)) (.of gr.1), standS (h3 b _ (List.getElem?_eq_getElem htb)) (.of gr.1), _, rfl, ?_⟩
        rw [filter_range_succ]
        cases e : lt3 (stand g i) (stand g b) with
        | false =>
          refine iteF ?_
          rw [if_neg (by decide), List.append_nil]
          exact ⟨xs, hx, gr⟩
        | true =>
          refine iteT ?_
          rw [if_pos rfl]
          refine ⟨_, rfl, xs, gr.2, ?_, xs ++ [V.ref ts[i]], by rw [List.length_append, List.length_append, hx]; rfl, gr.more hE (fun b o e => e)⟩
          rw [hx]
          have := List.length_filter_le (fun c => lt3 (stand g c) (stand g b)) (List.range i)
          rw [List.length_range] at this
          exact small1000 (by omega)
      · refine ⟨E, _, rfl, .inl (SqL.of gr.2), _, _, rfl, rfl, ?_⟩
        rw [List.length_map, h2] at hx
        have e : V.int (1 + ((xs.length : Nat) : Int)) = nI (Kyr.place g b) := by
          rw [place_is, hx]
          show V.int _ = V.int ((_ + 1 : Nat) : Int)
          congr 1
          omega
        dsimp only
        rw [e]
        exact k H5 (st1.trans (.of gr.1)) (tb1.same gr.1)
    · rw [if_pos (by omega)] at k
      rw [decide_eq_false hb]
      exact iteT k
/-! ### order -/
theorem scOrder : FnScope ["self", "boats", "standings"] ["self"] (defScope sOrder) := ⟨rfl, rfl, rfl, by decide +kernel, rfl, by decide +kernel, by decide +kernel⟩
theorem ok_order {f : Addr} {fd : FuncData} (T : Txt K mg C) (KB : K.In base) (TB : base.BuiltinsAt mg tabO) (F : FunT K "order" "Regatta.order" sOrder f fd tabO) (b : Binds K fd ["self"] []) (hm : Meth K C "order" f)
    (GS : MOk P w K mg base C 5 "standings" ["self"] (spStands C)) : MOk P w K mg base C 6 "order" ["self"] (spOrder C) := by
  refine ⟨f, fd, F.ok KB scOrder (fun vs H Q E h => ?_) (fun c A outer s H vs Q E hcd hr h => ?_), b, hm⟩
  · obtain ⟨p, lr, lc, ds, g, rfl, _⟩ := h
    rfl
  · obtain ⟨p, lr, lc, ds, g, rfl, R, k⟩ := h
    obtain ⟨dx, la, a, b', c', hp, hmk, hla⟩ := R.ob
    have h32 : boats g ≤ 32 := R.wf.boats
    refine ⟨_, pss_cons (ps_set (i := 2) scOrder.nd rfl (Or.inr rfl) (pe_m0 GS T.cl hr (by decide) (pv 0)))
      (pss_cons (ps_set (i := 1) scOrder.nd rfl (Or.inl rfl) (Srt.pe_sortR (ci := 2) (c := s.heap.objs.size + 1) (P := tabO) (lp := lpO) ⟨rfl, rfl, ⟨c, rfl, hcd⟩, TB⟩ (lamO_txt _) hr rfl rfl rfl rfl T.sorted (Srt.pe_rangeV rfl T.range (pa_cons (pe_callB call_len_seq (by rfl) T.len PySem.boot_len (pa_cons (pv 2) pa_nil)) pa_nil)) rfl rfl))
      (pss_one (ps_ret (pe_op op_cat (pe_lst (pa_cons (pe_callB call_len_seq (by rfl) T.len PySem.boot_len (pa_cons (pv 1) pa_nil)) pa_nil)) (pv 1))))), ?_⟩
    refine ⟨_, rfl, p, dx, _, rfl, hp, fl_no _ _ _ (by decide +kernel), p, lr, lc, ds, g, rfl, R, fun sD H1 st1 tb1 hsD hS => ?_⟩
    obtain ⟨ts, h1, h2, h3⟩ := hS
    refine ⟨_, rfl, sD, _, rfl, .inl (SqL.of h1), (ts.map V.ref).length, rfl, fun r hr0 => ?_⟩
    rw [List.length_map, h2]
    have s2 := same_upd (o := .rng 0 (boats g)) hr0
    have hkl : ((List.range (boats g)).map (stand g)).length = boats g := by rw [List.length_map, List.length_range]
    refine ⟨r, sD, ts, (List.range (boats g)).map (stand g), rfl, by rw [hkl]; exact upd_same, rfl, s2 _ _ h1, by rw [hkl]; exact h2, fun i t k e1 e2 => ?_, by omega, (tb1.same s2).2, fun js D2 H3 hjs st tb hD2 hl2 => ?_⟩
    · have hi : i < boats g := by
        have := (List.getElem?_eq_some_iff.mp e1).1
        omega
      rw [List.getElem?_map, List.getElem?_range hi] at e2
      have e2 := Option.some.inj e2
      subst e2
      exact standS (h3 i t e1) (.of s2)
    rw [hkl] at hjs
    have ho := order_is (g := g) (fun i hi => by rw [List.getD_eq_getElem?_getD, List.getElem?_map, List.getElem?_range hi]; rfl) hjs
    subst ho
    obtain ⟨ps, hP⟩ := (tb1.same s2).2.at
    have st3 : Stay (upd H1 r (.rng 0 (boats g))) H3 := Stay.ofB hP tb.at st
    have tb3 : Tabs H3 := ⟨tab_otherB tabL_ne_O hP st (tb1.same s2).1, tb⟩
    refine ⟨_, rfl, D2, _, rfl, .inl (SqL.of hl2), ?_⟩
    rw [List.length_map, order_len]
    refine ⟨(by show 1 ≤ sizeLine; decide), fun q hq => ?_⟩
    have s4 := same_upd (o := .lst [V.int ((boats g : Nat) : Int)]) hq
    refine ⟨_, rfl, q, D2, _, _, rfl, rfl, upd_same, s4 _ _ hl2, ?_, fun y hy => ?_⟩
    · rw [List.length_map, order_len]
      exact Nat.le_of_lt (small1000 (by show 1 + boats g ≤ 1000; omega))
    · have s5 := same_upd (o := .lst ([V.int ((boats g : Nat) : Int)] ++ (Kyr.order g).map Srt.nV)) hy
      have stB := (st1.trans (.of s2)).trans (st3.trans (.of s4))
      exact k y _ (stB.trans (.of s5)) ((tb3.same s4).same s5) (stB.dom _ hy) upd_same
end
end Rg
end

section
set_option Elab.async false
set_option linter.all false
set_option maxRecDepth 100000
set_option maxHeartbeats 2000000
namespace Rg
open PySem PySem.Spec PyProof.Rows L2
open Kyr (Regatta Told told nothing boats)

/-- a list that was handed in -/
def FL (K : PySem.W.Frag) (H : Hp) (a : Addr) (xs : List V) : Prop := (∃ o, H a = some (.frz o (.lst xs))) ∨ ∃ (o : Obj) (its : Array Value) (n : Nat), K.lookup a = some o ∧ o.cls = .type "list" ∧ o.dict = none ∧ o.data = .seq its n ∧ its.size ≤ sizeLine ∧ Vals xs its.toList
theorem FL.sq {K : PySem.W.Frag} {H : Hp} {a : Addr} {xs : List V} (h : FL K H a xs) : SqL K H a xs := by
  rcases h with ⟨o, h⟩ | h
  · exact .inl (.inr ⟨o, h⟩)
  · exact .inr h
theorem FL.of {K : PySem.W.Frag} {H : Hp} {a : Addr} {xs : List V} (h : SqL K H a xs) (f : OnlyF H) : FL K H a xs := by
  rcases h with (h | ⟨o, h⟩) | h
  · rcases f a with z | ⟨o, u, z⟩
    · rw [z] at h
      cases h
    · rw [z] at h
      cases h
  · exact .inl ⟨o, h⟩
  · exact .inr h
/-- what lies at bs may be written, the rest stays -/
theorem FL.keep {K : PySem.W.Frag} {H H' : Hp} {a : Addr} {xs : List V} {bs : List Addr} (h : FL K H a xs) (k : Keep H H' bs) (hb : ∀ b ∈ bs, ∀ o u, H b ≠ some (.frz o u)) : FL K H' a xs := by
  rcases h with ⟨o, h⟩ | h
  · exact .inl ⟨o, k _ _ h fun m => hb a m _ _ h⟩
  · exact .inr h
theorem FL.same {K : PySem.W.Frag} {H H' : Hp} {a : Addr} {xs : List V} (h : FL K H a xs) (k : Same H H') : FL K H' a xs := h.keep (bs := []) (fun b o e _ => k b o e) fun b m => absurd m (by simp)

theorem FL.keepS {K : PySem.W.Frag} {H H' : Hp} {a : Addr} {xs : List V} {bs : List Addr} (h : FL K H a xs) (k : KeepS H H' bs) (hb : ∀ b ∈ bs, ∀ o u, H b ≠ some (.frz o u)) : FL K H' a xs := by
  rcases h with ⟨o, h⟩ | h
  · exact .inl ⟨o, k _ _ h (fun m => hb a m _ _ h) rfl⟩
  · exact .inr h
/-- a list that is none of the object's is written -/
theorem Reg.other {C : Addr} {H : Hp} {p lr lc q : Addr} {ds : List Addr} {g : Regatta} {xs ys : List V} (R : Reg C H p lr lc ds g) (hq : H q = some (.lst xs)) (h1 : q ≠ lr) (h2 : q ≠ lc) : Reg C (upd H q (.lst ys)) p lr lc ds g := by
  obtain ⟨⟨dx, la, a, b, c, hp, hmk, hla⟩, hlr, hlc, hsep, hlen, hnd, hdic, wf, hT⟩ := R
  have st : ∀ {z : Addr} {o : HO}, H z = some o → z ≠ q → (upd H q (.lst ys)) z = some o := fun e n => by rw [upd_ne n]; exact e
  have kp : Keep H (upd H q (.lst ys)) [q] := fun z o e n => st e fun y => n (by rw [y]; simp)
  refine ⟨⟨dx, la, a, b, c, st hp (ne_of hp hq (by intro z; cases z)), hmk, st hla (ne_of hla hq (by intro z; cases z))⟩, st hlr h1.symm, st hlc h2.symm, hsep, hlen, hnd, fun r d e => ?_, wf, hT.keep kp fun b m => by rw [List.mem_singleton.mp m]; exact plainL hq⟩
  obtain ⟨bs, qq, h6, h7, h8, h9⟩ := hdic r d e
  exact ⟨bs, qq, st h6 (ne_of h6 hq (by intro z; cases z)), h7, fun b m => ⟨(h8 b m).1, st (h8 b m).2 (ne_of (h8 b m).2 hq (by intro z; cases z))⟩, h9⟩
/-- what answer_call is to reach -/
def CallEnd (C : Addr) (H : Hp) (p lr lc : Addr) (ds : List Addr) (t : Option Regatta) (a : Kyr.Ans) (Q : VK) : Prop :=
  ∀ (lr' lc' : Addr) (ds' : List Addr) (q : Addr) (H' : Hp), Reg C H' p lr' lc' ds' (gOf t) → (lr' = lr ∨ H lr' = none) → (lc' = lc ∨ H lc' = none) → KeepS H H' (p :: lr :: lc :: ds) → H q = none → q ≠ lr' → q ≠ lc' → (said a).length ≤ 40 → H' q = some (.lst ((said a).map V.int)) → Q (.ref q) H'
/-- answer_call's -/
def spCall (C : Addr) : Sp := fun vs H Q _ => ∃ (p lr lc al : Addr) (ds : List Addr) (s t : Option Regatta) (x : Int) (gs : List Nat) (c : Kyr.Call) (a : Kyr.Ans), vs = [.ref p, .int x, .ref al] ∧ Code x gs c ∧ Reg C H p lr lc ds (gOf s) ∧
  H al = some (.lst (gs.map nI)) ∧ Kyr.acts s c = some (t, a) ∧ CallEnd C H p lr lc ds t a Q
def spAns (K : PySem.W.Frag) : Sp := fun vs H Q _ => ∃ (a : Addr) (ns : List Int), vs = [.ref a] ∧ FL K H a (ns.map V.int) ∧ ns.length ≤ 31000 ∧ PyKyr.answers_asked ns = true ∧ Tabs H ∧
  ∀ (q : Addr) (H' : Hp), H' q = some (.lst ((PyKyr.answers ns).map V.int)) → Q (.ref q) H'
theorem cut_ns {ns : List Int} {a b : Nat} (h : b ≤ ns.length) (h2 : a ≤ b) : cutV (ns.map V.int) (some (a : Int)) (some (b : Int)) = ((ns.drop a).take (b - a)).map V.int := by
  unfold cutV
  rw [HT.sIx_nat, HT.sIx_nat, List.length_map, Nat.min_eq_left h, Nat.min_eq_left (by omega), ← List.map_drop, ← List.map_take]
theorem map_toI (gs : List Nat) : (toI gs).map V.int = gs.map nI := by
  unfold toI
  rw [List.map_map]
  rfl
def widths : List Nat := [3, 1, 0, 4, 3, 2, 1, 1, 0]
theorem Code.width {x : Int} {gs : List Nat} {c : Kyr.Call} (h : Code x gs c) : ∃ j : Nat, x = (j : Int) ∧ widths[j]? = some gs.length := by
  cases h
  · exact ⟨0, rfl, rfl⟩
  · exact ⟨1, rfl, rfl⟩
  · exact ⟨2, rfl, rfl⟩
  · exact ⟨3, rfl, rfl⟩
  · exact ⟨4, rfl, rfl⟩
  · exact ⟨5, rfl, rfl⟩
  · exact ⟨6, rfl, rfl⟩
  · exact ⟨7, rfl, rfl⟩
  · exact ⟨8, rfl, rfl⟩
section
variable {P : Program} {w : World} {K : PySem.W.Frag} {mg : Str → Option Value} {base : Heap} {C : Addr}
theorem scAns : FnScope ["calls", "regatta", "answered", "position", "call", "behind", "answer"] ["calls"] (defScope sAns) := ⟨rfl, rfl, rfl, by decide +kernel, rfl, by decide +kernel, by decide +kernel⟩
theorem ok_ans {f fI : Addr} {fd fdI : FuncData} (T : Txt K mg C) (F : Fun K "answers" "answers" sAns f fd) (M : Mk K C fI) (GI : FnOk P w K mg base CX0 1 fI fdI ["self"] (spInit C)) (bI : Binds K fdI ["self"] [])
    (GC : GOk P w K mg base 8 "answer_call" ["regatta", "call", "given"] (spCall C)) : FnOk P w K mg base CX0 9 f fd ["calls"] (spAns K) := by
  refine F.ok scAns (fun vs H Q E h => ?_) (fun cdv A outer s H vs Q E hr h => ?_)
  · obtain ⟨a, ns, rfl, _⟩ := h
    rfl
  · obtain ⟨a, ns, rfl, hF, hlen, hask, hT, k⟩ := h
    obtain ⟨aw, mw, sw⟩ := T.widths
    have hr2 : Room 2 _ := hr.mono (by decide)
    refine ⟨_, pss_cons (ps_set (i := 1) scAns.nd rfl (Or.inl rfl) (pe_make0 M GI hr2 rfl T.mgC bI .nil pass0))
      (pss_cons (ps_set (i := 2) scAns.nd rfl (Or.inl rfl) (pe_lst pa_nil))
      (pss_cons (ps_set (i := 3) scAns.nd rfl (Or.inl rfl) pe_int)
      (pss_cons (ps_while PassesOwn.never (pt_cmpR op_lt (pv 3) (pe_callB call_len_seq (by rfl) T.len PySem.boot_len (pa_cons (pv 0) pa_nil)) (nomark _))
        (pss_cons (ps_set (i := 4) scAns.nd rfl (Or.inl rfl) (pe_ix ix_list (pv 0) (pv 3) (fun _ _ => rfl)))
        (pss_cons (ps_set (i := 5) scAns.nd rfl (Or.inl rfl) (pe_op op_add (pe_op op_add (pv 3) pe_int) (pe_ix ix_tup (pe_gR mw) (pv 4) (fun _ _ => rfl))))
        (pss_cons (ps_set (i := 6) scAns.nd rfl (Or.inl rfl) (pe_g GC hr (by decide) rfl (pa_cons (pv 1) (pa_cons (pv 4) (pa_cons (pe_slice sl_list (pv 0) (po_some (pe_op op_add (pv 3) pe_int)) (po_some (pv 5))) pa_nil)))))
        (pss_cons (ps_expr (pe_bm PySem.F.plainAttrs_list PySem.F.slot_list_append PySem.F.type_list_append mt_append (pv 2) (pa_cons (pe_callB call_len_seq (by rfl) T.len PySem.boot_len (pa_cons (pv 6) pa_nil)) pa_nil)))
        (pss_cons (ps_expr (pe_bm PySem.F.plainAttrs_list PySem.F.slot_list_extend PySem.F.type_list_extend mt_extend (pv 2) (pa_cons (pv 6) pa_nil)))
        (pss_one (ps_set (i := 3) scAns.nd rfl (Or.inl rfl) (pv 5)))))))))
      (pss_one (ps_ret (pv 2)))))), ?_⟩
    -- regatta = Regatta()
    intro p dp np ndp nep
    have s0 : Same H (upd (upd H dp (.own p)) p (.ins C dp [])) := fun b o e => by
      rw [upd_ne (ne_of_none e np), upd_ne (ne_of_none e ndp)]
      exact e
    refine ⟨p, dp, rfl, upd_same, hT.same s0, fun lr0 lc0 H1 nlr0 nlc0 R0 kp0 => ⟨rfl, ?_⟩⟩
    have s1 : Same H H1 := fun b o e => kp0 b o (s0 b o e) fun m => by
      rw [List.mem_singleton.mp m, np] at e
      cases e
    -- answered = []
    refine ⟨Nat.zero_le _, fun q hq => ?_⟩
    have s2 : Same H1 (upd H1 q (.lst [])) := same_upd hq
    -- the loop
    refine ⟨fun mm σ H' => ∃ (pos : Nat) (st : Option Regatta) (out : List Int) (lr lc : Addr) (ds : List Addr) (v4 v5 v6 : Option V), mm = ns.length - pos ∧ σ = [some (.ref a), some (.ref p), some (.ref q), some (nI pos), v4, v5, v6] ∧
      FL K H' a (ns.map V.int) ∧ Run ns pos st out ∧ out.length ≤ 41 * pos ∧ Reg C H' p lr lc ds (gOf st) ∧ H' q = some (.lst (out.map V.int)) ∧ q ≠ lr ∧ q ≠ lc, ⟨_, 0, none, [], lr0, lc0, [], none, none, none, rfl, rfl, (hF.same s1).same s2, Run.start hask, Nat.le_refl _, R0.same s2, upd_same, ?_, ?_⟩, ?_⟩
    · intro z
      have z1 := R0.rat
      rw [← z, hq] at z1
      cases z1
    · intro z
      have z1 := R0.rcs
      rw [← z, hq] at z1
      cases z1
    · rintro mm σ H2 ⟨pos, st, out, lr, lc, ds, v4, v5, v6, rfl, rfl, hF2, RN, hol, R, hq2, nql, nqc⟩
      refine ⟨_, rfl, _, rfl, a, _, rfl, .inl hF2.sq, _, _, rfl, rfl, _, rfl, ?_⟩
      rw [List.length_map]
      by_cases hlt : pos < ns.length
      · rw [decide_eq_true (show (pos : Int) < (ns.length : Int) by omega)]
        refine iteT ?_
        refine ⟨fun σ' H' => ∃ m', m' < ns.length - pos ∧ ∃ (pos : Nat) (st : Option Regatta) (out : List Int) (lr lc : Addr) (ds : List Addr) (v4 v5 v6 : Option V), m' = ns.length - pos ∧ σ' = [some (.ref a), some (.ref p), some (.ref q), some (nI pos), v4, v5, v6] ∧
          FL K H' a (ns.map V.int) ∧ Run ns pos st out ∧ out.length ≤ 41 * pos ∧ Reg C H' p lr lc ds (gOf st) ∧ H' q = some (.lst (out.map V.int)) ∧ q ≠ lr ∧ q ≠ lc, fun _ _ z => z, ?_⟩
        have hx : ns[pos]? = some ns[pos] := List.getElem?_eq_getElem hlt
        obtain ⟨gs, c, t, an, hC, hcut, _, hpl, hact, RN2⟩ := RN.turn hx
        obtain ⟨j, ej, hw⟩ := hC.width
        -- call = calls[position]
        refine ⟨_, rfl, _, rfl, a, _, _, _, rfl, rfl, hF2.sq, at_of (j := pos) (v := V.int ns[pos]) rfl (by rw [List.getElem?_map, hx]; rfl), ?_⟩
        -- behind = position + 1 + WIDTHS[call]
        refine ⟨_, rfl, _, _, rfl, rfl, _, rfl, aw, _, _, _, rfl, rfl, sw _, at_of (j := j) (v := nI gs.length) ej (by rw [List.getElem?_map, show ([3, 1, 0, 4, 3, 2, 1, 1, 0] : List Nat)[j]? = some gs.length from hw]; rfl), _, _, rfl, rfl, ?_⟩
        -- answer = answer_call(..)
        refine ⟨_, rfl, _, rfl, _, rfl, _, rfl, _, _, rfl, rfl, _, rfl, _, rfl, _, rfl, a, _, rfl, hF2.sq, fun al hal => ?_⟩
        have s3 := same_upd (o := .lst (cutV (ns.map V.int) (some ((pos : Int) + 1)) (some ((pos + 1 + gs.length : Nat) : Int)))) hal
        have ec : cutV (ns.map V.int) (some ((pos : Int) + 1)) (some ((pos + 1 + gs.length : Nat) : Int)) = gs.map nI := by
          rw [show ((pos : Int) + 1) = ((pos + 1 : Nat) : Int) from rfl, cut_ns hpl (by omega), show pos + 1 + gs.length - (pos + 1) = gs.length by omega, hcut, map_toI]
        have R3 := R.same s3
        refine ⟨p, lr, lc, al, ds, st, t, ns[pos], gs, c, an, rfl, hC, R3, Eq.trans upd_same (congrArg (fun z => some (HO.lst z)) ec), hact, fun lr' lc' ds' y H4 R4 el elc kp nq nyr nyc hsz hy => ?_⟩
        have hq3 := s3 _ _ hq2
        have nyq : q ≠ y := ne_of_none hq3 nq
        obtain ⟨dx, la, a1, b1, c1, hp, _, _⟩ := R3.ob
        have nin : q ∉ p :: lr :: lc :: ds := fun m => by
          rcases List.mem_cons.mp m with z | m
          · rw [z, hp] at hq3
            cases hq3
          · rcases List.mem_cons.mp m with z | m
            · exact nql z
            · rcases List.mem_cons.mp m with z | m
              · exact nqc z
              · obtain ⟨i, hi⟩ := List.getElem?_of_mem m
                obtain ⟨bs, qq, e, _⟩ := R3.dic i q hi
                rw [e] at hq3
                cases hq3
        have hq4 : H4 q = some (.lst (out.map V.int)) := kp _ _ hq3 nin rfl
        have hF4 : FL K H4 a (ns.map V.int) := (hF2.same s3).keepS kp fun b m o u => by
          rcases List.mem_cons.mp m with z | m
          · rw [z, hp]
            intro w
            cases w
          · rcases List.mem_cons.mp m with z | m
            · rw [z, R3.rat]
              intro w
              cases w
            · rcases List.mem_cons.mp m with z | m
              · rw [z, R3.rcs]
                intro w
                cases w
              · obtain ⟨i, hi⟩ := List.getElem?_of_mem m
                obtain ⟨bs, qq, e, _⟩ := R3.dic i b hi
                rw [e]
                intro w
                cases w
        have nql4 : q ≠ lr' := by
          rcases el with z | z
          · rw [z]
            exact nql
          · exact ne_of_none hq3 z
        have nqc4 : q ≠ lc' := by
          rcases elc with z | z
          · rw [z]
            exact nqc
          · exact ne_of_none hq3 z
        -- answered.append(len(answer))
        refine ⟨_, rfl, .inl ⟨rfl, _, SqL.of hq4⟩, _, rfl, y, _, rfl, .inl (SqL.of hy), q, _, _, rfl, rfl, hq4, ?_, ?_⟩
        · rw [List.length_map, show sizeLine = 16777216 from sizeLine_eq]
          omega
        -- answered.extend(answer)
        refine ⟨_, rfl, .inl ⟨rfl, _, SqL.of upd_same⟩, _, rfl, q, y, _, _, rfl, rfl, upd_same, (by rw [upd_ne nyq.symm]; exact hy), ?_, ?_⟩
        · rw [List.length_append, List.length_map, List.length_map, show sizeLine = 16777216 from sizeLine_eq]
          show out.length + 1 + _ ≤ _
          omega
        -- position = behind
        rw [upd_upd]
        refine ⟨_, rfl, _, ?_, pos + 1 + gs.length, t, _, lr', lc', ds', _, _, _, rfl, rfl, ?_, RN2, ?_, R4.other hq4 nql4 nqc4, ?_, nql4, nqc4⟩
        · omega
        · refine hF4.keep (bs := [q]) (fun b o e n => ?_) fun b m o u => ?_
          · rw [upd_ne fun z => n (by rw [z]; simp)]
            exact e
          · rw [List.mem_singleton.mp m, hq4]
            intro w
            cases w
        · rw [List.length_append, List.length_cons]
          omega
        · rw [upd_same, List.map_append, List.map_cons, List.length_map, List.append_assoc]
          rfl
      · rw [decide_eq_false (show ¬ (pos : Int) < (ns.length : Int) by omega)]
        refine iteF ?_
        refine ⟨_, rfl, ?_⟩
        rw [RN.done (by omega)] at hq2
        exact k q H2 hq2
end
end Rg
end

section
set_option Elab.async false
set_option linter.all false
set_option maxRecDepth 100000
set_option maxHeartbeats 2000000
namespace Rg
open PySem PySem.Spec PyProof.Rows L2
open Kyr (Regatta Told told nothing boats)
/-- one number is answered -/
theorem CallEnd.one {C : Addr} {H H' : Hp} {p lr lc lr' lc' : Addr} {ds ds' : List Addr} {t : Option Regatta} {v : Int} {Q : VK} (k : CallEnd C H p lr lc ds t (Kyr.say v) Q) (R : Reg C H' p lr' lc' ds' (gOf t)) (el : lr' = lr ∨ H lr' = none) (ec : lc' = lc ∨ H lc' = none)
    (kp : KeepS H H' (p :: lr :: lc :: ds)) (dom : ∀ b, H' b = none → H b = none) {q : Addr} (hq : H' q = none) : Q (.ref q) (upd H' q (.lst [.int v])) := by
  have s1 : Same H' (upd H' q (.lst [.int v])) := same_upd hq
  refine k lr' lc' ds' q _ (R.same s1) el ec (fun b o e n t => s1 _ _ (kp b o e n t)) (dom q hq) (fun z => ?_) (fun z => ?_) (by show 1 ≤ 40; decide) upd_same
  · have := R.rat
    rw [← z, hq] at this
    cases this
  · have := R.rcs
    rw [← z, hq] at this
    cases this
/-- nothing has changed -/
theorem CallEnd.stay {C : Addr} {H H' : Hp} {p lr lc : Addr} {ds : List Addr} {s : Option Regatta} {v : Int} {Q : VK} (k : CallEnd C H p lr lc ds s (Kyr.say v) Q) (R : Reg C H p lr lc ds (gOf s)) (s1 : Stay H H') (tb : Tabs H') {q : Addr} (hq : H' q = none) : Q (.ref q) (upd H' q (.lst [.int v])) :=
  k.one (R.stay s1 tb) (.inl rfl) (.inl rfl) (KeepS.of s1 _) s1.dom hq
/-- a list is answered, nothing has changed -/
theorem CallEnd.lst {C : Addr} {H H' : Hp} {p lr lc D : Addr} {ds : List Addr} {s : Option Regatta} {a : Kyr.Ans} {Q : VK} (k : CallEnd C H p lr lc ds s a Q) (R : Reg C H p lr lc ds (gOf s)) (s1 : Stay H H') (tb : Tabs H') (hD : H D = none) (ha : (said a).length ≤ 40) (hl : H' D = some (.lst ((said a).map V.int))) : Q (.ref D) H' := by
  refine k lr lc ds D H' (R.stay s1 tb) (.inl rfl) (.inl rfl) (KeepS.of s1 _) hD (fun z => ?_) (fun z => ?_) ha hl
  · have := R.rat
    rw [← z, hD] at this
    cases this
  · have := R.rcs
    rw [← z, hD] at this
    cases this
theorem dom_of {H H' : Hp} {bs : List Addr} (kp : Keep H H' bs) (hb : ∀ b ∈ bs, ∃ o, H' b = some o) : ∀ b, H' b = none → H b = none := fun b e => by
  cases q : H b with
  | none => rfl
  | some o =>
    by_cases m : b ∈ bs
    · obtain ⟨o', z⟩ := hb b m
      rw [z] at e
      cases e
    · rw [kp b o q m] at e
      cases e
theorem need_some {α : Type} {s : Option Regatta} {f : Regatta → α} {x : α} (h : s.map f = some x) : ∃ g, s = some g ∧ f g = x := by
  cases s with
  | none => cases h
  | some g => exact ⟨g, rfl, Option.some.inj h⟩
section
variable {P : Program} {w : World} {K : PySem.W.Frag} {mg : Str → Option Value} {base : Heap} {C : Addr}
theorem scCall : FnScope ["regatta", "call", "given"] ["regatta", "call", "given"] (defScope sCall) := ⟨rfl, rfl, rfl, by decide +kernel, rfl, by decide +kernel, by decide +kernel⟩
theorem ok_call {f : Addr} {fd : FuncData} (T : Txt K mg C) (D : DefG K mg "answer_call" sCall ["regatta", "call", "given"] f fd) (GS : MOk P w K mg base C 2 "start" ["self", "limits"] (spStart C))
    (GB : MOk P w K mg base C 1 "add_boat" ["self", "rating"] (spBoat C)) (GR : MOk P w K mg base C 1 "add_race" ["self"] (spRace C)) (GF : MOk P w K mg base C 3 "finish" ["self", "race", "boat", "seconds", "fined"] (spFinish C)) (GN : MOk P w K mg base C 3 "note" ["self", "race", "boat", "kind"] (spNote C))
    (GP : MOk P w K mg base C 4 "points" ["self", "race", "boat"] (spPoints C)) (GT : MOk P w K mg base C 4 "total" ["self", "boat"] (spTotal C)) (GL : MOk P w K mg base C 6 "place" ["self", "boat"] (spPlace C)) (GO : MOk P w K mg base C 6 "order" ["self"] (spOrder C)) :
    GOk P w K mg base 8 "answer_call" ["regatta", "call", "given"] (spCall C) := by
  obtain ⟨F, b, hm⟩ := D
  refine ⟨f, fd, F.ok scCall (fun vs H Q E h => ?_) (fun cdv A outer s H vs Q E hr h => ?_), b, hm, F.kp⟩
  · obtain ⟨p, lr, lc, al, ds, s, t, x, gs, c, a, rfl, _⟩ := h
    rfl
  · obtain ⟨p, lr, lc, al, ds, s, t, x, gs, c, a, rfl, hC, R, hal, hact, k⟩ := h
    obtain ⟨dx, la, a1, b1, c1, hp, hmk, hla⟩ := R.ob
    obtain ⟨apr, apc, apd⟩ := R.apart
    refine ⟨_, pss_cons (ps_if (pt_cmpR op_eq (pv 1) (pe_gI T.cStart) (nomark _)) (pss_one (ps_ret (pe_lst (pa_cons (pe_m GS T.cl hr (by decide) (pv 0) (pa_cons (pe_tup (pa_cons (pe_ix ix_list (pv 2) pe_int (fun _ _ => rfl)) (pa_cons (pe_ix ix_list (pv 2) pe_int (fun _ _ => rfl)) (pa_cons (pe_ix ix_list (pv 2) pe_int (fun _ _ => rfl)) pa_nil)))) pa_nil)) pa_nil)))) pss_nil)
      (pss_cons (ps_if (pt_cmpR op_eq (pv 1) (pe_gI T.cBoat) (nomark _)) (pss_one (ps_ret (pe_lst (pa_cons (pe_m GB T.cl hr (by decide) (pv 0) (pa_cons (pe_ix ix_list (pv 2) pe_int (fun _ _ => rfl)) pa_nil)) pa_nil)))) pss_nil)
      (pss_cons (ps_if (pt_cmpR op_eq (pv 1) (pe_gI T.cRace) (nomark _)) (pss_one (ps_ret (pe_lst (pa_cons (pe_m0 GR T.cl hr (by decide) (pv 0)) pa_nil)))) pss_nil)
      (pss_cons (ps_if (pt_cmpR op_eq (pv 1) (pe_gI T.cFinish) (nomark _)) (pss_one (ps_ret (pe_lst (pa_cons (pe_m GF T.cl hr (by decide) (pv 0) (pa_cons (pe_ix ix_list (pv 2) pe_int (fun _ _ => rfl)) (pa_cons (pe_ix ix_list (pv 2) pe_int (fun _ _ => rfl)) (pa_cons (pe_ix ix_list (pv 2) pe_int (fun _ _ => rfl)) (pa_cons (pe_ix ix_list (pv 2) pe_int (fun _ _ => rfl)) pa_nil))))) pa_nil)))) pss_nil)
      (pss_cons (ps_if (pt_cmpR op_eq (pv 1) (pe_gI T.cNote) (nomark _)) (pss_one (ps_ret (pe_lst (pa_cons (pe_m GN T.cl hr (by decide) (pv 0) (pa_cons (pe_ix ix_list (pv 2) pe_int (fun _ _ => rfl)) (pa_cons (pe_ix ix_list (pv 2) pe_int (fun _ _ => rfl)) (pa_cons (pe_ix ix_list (pv 2) pe_int (fun _ _ => rfl)) pa_nil)))) pa_nil)))) pss_nil)
      (pss_cons (ps_if (pt_cmpR op_eq (pv 1) (pe_gI T.cPoints) (nomark _)) (pss_one (ps_ret (pe_lst (pa_cons (pe_m GP T.cl hr (by decide) (pv 0) (pa_cons (pe_ix ix_list (pv 2) pe_int (fun _ _ => rfl)) (pa_cons (pe_ix ix_list (pv 2) pe_int (fun _ _ => rfl)) pa_nil))) pa_nil)))) pss_nil)
      (pss_cons (ps_if (pt_cmpR op_eq (pv 1) (pe_gI T.cTotal) (nomark _)) (pss_one (ps_ret (pe_m GT T.cl hr (by decide) (pv 0) (pa_cons (pe_ix ix_list (pv 2) pe_int (fun _ _ => rfl)) pa_nil)))) pss_nil)
      (pss_cons (ps_if (pt_cmpR op_eq (pv 1) (pe_gI T.cPlace) (nomark _)) (pss_one (ps_ret (pe_lst (pa_cons (pe_m GL T.cl hr (by decide) (pv 0) (pa_cons (pe_ix ix_list (pv 2) pe_int (fun _ _ => rfl)) pa_nil)) pa_nil)))) pss_nil)
      (pss_one (ps_ret (pe_m0 GO T.cl hr (by decide) (pv 0))))))))))), ?_⟩
    have one : 1 ≤ sizeLine := by decide
    cases hC with
    | start x y z =>
      refine ⟨_, rfl, rfl, _, rfl, iteT ?_⟩
      refine ⟨_, rfl, p, dx, _, rfl, hp, fl_no _ _ _ (by decide +kernel), _, rfl, al, _, _, _, rfl, rfl, SqL.of hal, at_of (j := 0) rfl rfl, _, rfl, al, _, _, _, rfl, rfl, SqL.of hal, at_of (j := 1) rfl rfl, _, rfl, al, _, _, _, rfl, rfl, SqL.of hal, at_of (j := 2) rfl rfl, (by show 3 ≤ sizeLine; decide), fun lt hlt => ?_⟩
      have s1 := same_upd (o := .tup [nI x, nI y, nI z]) hlt
      refine ⟨p, lr, lc, lt, ds, gOf s, x, y, z, rfl, R.same s1, upd_same, ?_⟩
      have hact : some (if Kyr.okMarks 0 [x, y, z] then (some (Kyr.begun [x, y, z]), Kyr.say 0) else (s, Kyr.say (-22))) = some (t, a) := hact
      cases e : Kyr.okMarks 0 [x, y, z] with
      | true =>
        rw [e, if_pos rfl] at hact
        injection hact with hact
        injection hact with h1 h2
        subst h1 h2
        refine iteT fun lr' lc' H' n1 n2 R' kp => ⟨one, fun q hq => ?_⟩
        obtain ⟨dx', la', a1', b1', c1', hp', _, _⟩ := R'.ob
        have kp2 : KeepS H H' (p :: lr :: lc :: ds) := fun b o e n t => kp b o (s1 _ _ e) fun m => n (by rw [List.mem_singleton.mp m]; simp)
        exact k.one R' (.inr (s1.free n1)) (.inr (s1.free n2)) kp2 (fun b e => s1.free (dom_of kp (fun b m => by rw [List.mem_singleton.mp m]; exact ⟨_, hp'⟩) b e)) hq
      | false =>
        rw [e, if_neg Bool.false_ne_true] at hact
        injection hact with hact
        injection hact with h1 h2
        subst h1 h2
        exact iteF ⟨one, fun q hq => k.stay R (.of s1) (R.tabs.same s1) hq⟩
    | boat x =>
      refine ⟨_, rfl, rfl, _, rfl, iteF ?_⟩
      refine ⟨_, rfl, rfl, _, rfl, iteT ?_⟩
      refine ⟨_, rfl, p, dx, _, rfl, hp, fl_no _ _ _ (by decide +kernel), _, rfl, al, _, _, _, rfl, rfl, SqL.of hal, at_of (j := 0) rfl rfl, p, lr, lc, ds, gOf s, x, rfl, R, ?_⟩
      obtain ⟨g, rfl, hg⟩ := need_some hact
      by_cases h1 : x < 500 ∨ 2000 < x
      · rw [if_pos h1]
        rw [if_pos h1] at hg
        injection hg with h2 h3
        subst h2 h3
        exact ⟨one, fun q hq => k.stay R (.refl _) R.tabs hq⟩
      · rw [if_neg h1]
        rw [if_neg h1] at hg
        by_cases h4 : boats g = 32
        · rw [if_pos (show boats (gOf (some g)) = 32 from h4)]
          rw [if_pos h4] at hg
          injection hg with h2 h3
          subst h2 h3
          exact ⟨one, fun q hq => k.stay R (.refl _) R.tabs hq⟩
        · rw [if_neg (show ¬ boats (gOf (some g)) = 32 from h4)]
          rw [if_neg h4] at hg
          injection hg with h2 h3
          subst h2 h3
          refine fun H' R' kp => ⟨one, fun q hq => ?_⟩
          have R2 : Reg C H' p lr lc ds (gOf (some (moreBoat g x))) := R'
          exact k.one R2 (.inl rfl) (.inl rfl) (fun b o e n t => kp b o e fun m => n (by rw [List.mem_singleton.mp m]; simp)) (dom_of kp fun b m => by rw [List.mem_singleton.mp m]; exact ⟨_, R'.rat⟩) hq
    | race =>
      refine ⟨_, rfl, rfl, _, rfl, iteF ?_⟩
      refine ⟨_, rfl, rfl, _, rfl, iteF ?_⟩
      refine ⟨_, rfl, rfl, _, rfl, iteT ?_⟩
      refine ⟨_, rfl, p, dx, _, rfl, hp, fl_no _ _ _ (by decide +kernel), p, lr, lc, ds, gOf s, rfl, R, ?_⟩
      obtain ⟨g, rfl, hg⟩ := need_some hact
      by_cases h4 : g.races.length = 20
      · rw [if_pos (show (gOf (some g)).races.length = 20 from h4)]
        rw [if_pos h4] at hg
        injection hg with h2 h3
        subst h2 h3
        exact ⟨one, fun q hq => k.stay R (.refl _) R.tabs hq⟩
      · rw [if_neg (show ¬ (gOf (some g)).races.length = 20 from h4)]
        rw [if_neg h4] at hg
        injection hg with h2 h3
        subst h2 h3
        refine fun d H' hd R' kp => ⟨one, fun q hq => ?_⟩
        have R2 : Reg C H' p lr lc (ds ++ [d]) (gOf (some (moreRace g))) := R'
        exact k.one R2 (.inl rfl) (.inl rfl) (fun b o e n t => kp b o e fun m => n (by rw [List.mem_singleton.mp m]; simp)) (dom_of kp fun b m => by rw [List.mem_singleton.mp m]; exact ⟨_, R'.rcs⟩) hq
    | finish r b t' f' =>
      refine ⟨_, rfl, rfl, _, rfl, iteF ?_⟩
      refine ⟨_, rfl, rfl, _, rfl, iteF ?_⟩
      refine ⟨_, rfl, rfl, _, rfl, iteF ?_⟩
      refine ⟨_, rfl, rfl, _, rfl, iteT ?_⟩
      refine ⟨_, rfl, p, dx, _, rfl, hp, fl_no _ _ _ (by decide +kernel), _, rfl, al, _, _, _, rfl, rfl, SqL.of hal, at_of (j := 0) rfl rfl, _, rfl, al, _, _, _, rfl, rfl, SqL.of hal, at_of (j := 1) rfl rfl, _, rfl, al, _, _, _, rfl, rfl, SqL.of hal, at_of (j := 2) rfl rfl, _, rfl, al, _, _, _, rfl, rfl, SqL.of hal, at_of (j := 3) rfl rfl, p, lr, lc, ds, gOf s, r, b, t', f', rfl, R, ?_⟩
      obtain ⟨g, rfl, hg⟩ := need_some hact
      by_cases h1 : g.races.length ≤ r ∨ boats g ≤ b
      · rw [if_pos (show (gOf (some g)).races.length ≤ r ∨ boats (gOf (some g)) ≤ b from h1)]
        rw [if_pos h1] at hg
        injection hg with h2 h3
        subst h2 h3
        exact ⟨one, fun q hq => k.stay R (.refl _) R.tabs hq⟩
      · rw [if_neg (show ¬ ((gOf (some g)).races.length ≤ r ∨ boats (gOf (some g)) ≤ b) from h1)]
        rw [if_neg h1] at hg
        by_cases h4 : t' < 1 ∨ 1000000 < t' ∨ 1 < f'
        · rw [if_pos h4]
          rw [if_pos h4] at hg
          injection hg with h2 h3
          subst h2 h3
          exact ⟨one, fun q hq => k.stay R (.refl _) R.tabs hq⟩
        · rw [if_neg h4]
          rw [if_neg h4] at hg
          injection hg with h2 h3
          subst h2 h3
          refine fun H' R' kp => ⟨one, fun q hq => ?_⟩
          have R2 : Reg C H' p lr lc ds (gOf (some (Kyr.put g r b ⟨1, t', f'⟩))) := R'
          exact k.one R2 (.inl rfl) (.inl rfl) (fun b o e n t => kp b o e fun m => n (by simp [m])) (dom_of kp fun b m => by
            obtain ⟨i, hi⟩ := List.getElem?_of_mem m
            obtain ⟨bs, qq, e, _⟩ := R'.dic i b hi
            exact ⟨_, e⟩) hq
    | note r b x =>
      refine ⟨_, rfl, rfl, _, rfl, iteF ?_⟩
      refine ⟨_, rfl, rfl, _, rfl, iteF ?_⟩
      refine ⟨_, rfl, rfl, _, rfl, iteF ?_⟩
      refine ⟨_, rfl, rfl, _, rfl, iteF ?_⟩
      refine ⟨_, rfl, rfl, _, rfl, iteT ?_⟩
      refine ⟨_, rfl, p, dx, _, rfl, hp, fl_no _ _ _ (by decide +kernel), _, rfl, al, _, _, _, rfl, rfl, SqL.of hal, at_of (j := 0) rfl rfl, _, rfl, al, _, _, _, rfl, rfl, SqL.of hal, at_of (j := 1) rfl rfl, _, rfl, al, _, _, _, rfl, rfl, SqL.of hal, at_of (j := 2) rfl rfl, p, lr, lc, ds, gOf s, r, b, x, rfl, R, ?_⟩
      obtain ⟨g, rfl, hg⟩ := need_some hact
      by_cases h1 : g.races.length ≤ r ∨ boats g ≤ b
      · rw [if_pos (show (gOf (some g)).races.length ≤ r ∨ boats (gOf (some g)) ≤ b from h1)]
        rw [if_pos h1] at hg
        injection hg with h2 h3
        subst h2 h3
        exact ⟨one, fun q hq => k.stay R (.refl _) R.tabs hq⟩
      · rw [if_neg (show ¬ ((gOf (some g)).races.length ≤ r ∨ boats (gOf (some g)) ≤ b) from h1)]
        rw [if_neg h1] at hg
        by_cases h4 : x = 1 ∨ 7 < x
        · rw [if_pos h4]
          rw [if_pos h4] at hg
          injection hg with h2 h3
          subst h2 h3
          exact ⟨one, fun q hq => k.stay R (.refl _) R.tabs hq⟩
        · rw [if_neg h4]
          rw [if_neg h4] at hg
          injection hg with h2 h3
          subst h2 h3
          refine fun H' R' kp => ⟨one, fun q hq => ?_⟩
          have R2 : Reg C H' p lr lc ds (gOf (some (Kyr.put g r b ⟨x, 0, 0⟩))) := R'
          exact k.one R2 (.inl rfl) (.inl rfl) (fun b o e n t => kp b o e fun m => n (by simp [m])) (dom_of kp fun b m => by
            obtain ⟨i, hi⟩ := List.getElem?_of_mem m
            obtain ⟨bs, qq, e, _⟩ := R'.dic i b hi
            exact ⟨_, e⟩) hq
    | points r b =>
      refine ⟨_, rfl, rfl, _, rfl, iteF ?_⟩
      refine ⟨_, rfl, rfl, _, rfl, iteF ?_⟩
      refine ⟨_, rfl, rfl, _, rfl, iteF ?_⟩
      refine ⟨_, rfl, rfl, _, rfl, iteF ?_⟩
      refine ⟨_, rfl, rfl, _, rfl, iteF ?_⟩
      refine ⟨_, rfl, rfl, _, rfl, iteT ?_⟩
      refine ⟨_, rfl, p, dx, _, rfl, hp, fl_no _ _ _ (by decide +kernel), _, rfl, al, _, _, _, rfl, rfl, SqL.of hal, at_of (j := 0) rfl rfl, _, rfl, al, _, _, _, rfl, rfl, SqL.of hal, at_of (j := 1) rfl rfl, p, lr, lc, ds, gOf s, r, b, rfl, R, ?_⟩
      obtain ⟨g, rfl, hg⟩ := need_some hact
      injection hg with h2 h3
      subst h2
      by_cases h1 : g.races.length ≤ r ∨ boats g ≤ b
      · rw [if_pos (show (gOf (some g)).races.length ≤ r ∨ boats (gOf (some g)) ≤ b from h1)]
        rw [if_pos h1] at h3
        subst h3
        exact ⟨one, fun q hq => k.stay R (.refl _) R.tabs hq⟩
      · rw [if_neg (show ¬ ((gOf (some g)).races.length ≤ r ∨ boats (gOf (some g)) ≤ b) from h1)]
        rw [if_neg h1] at h3
        subst h3
        exact fun H' s1 => ⟨one, fun q hq => k.stay R (.of s1) (R.tabs.same s1) hq⟩
    | total b =>
      refine ⟨_, rfl, rfl, _, rfl, iteF ?_⟩
      refine ⟨_, rfl, rfl, _, rfl, iteF ?_⟩
      refine ⟨_, rfl, rfl, _, rfl, iteF ?_⟩
      refine ⟨_, rfl, rfl, _, rfl, iteF ?_⟩
      refine ⟨_, rfl, rfl, _, rfl, iteF ?_⟩
      refine ⟨_, rfl, rfl, _, rfl, iteF ?_⟩
      refine ⟨_, rfl, rfl, _, rfl, iteT ?_⟩
      refine ⟨_, rfl, p, dx, _, rfl, hp, fl_no _ _ _ (by decide +kernel), _, rfl, al, _, _, _, rfl, rfl, SqL.of hal, at_of (j := 0) rfl rfl, p, lr, lc, ds, gOf s, b, rfl, R, ?_⟩
      obtain ⟨g, rfl, hg⟩ := need_some hact
      injection hg with h2 h3
      subst h2
      by_cases h1 : boats g ≤ b
      · rw [if_pos (show boats (gOf (some g)) ≤ b from h1)]
        rw [if_pos h1] at h3
        subst h3
        exact fun D H' st tb hD hl => k.lst R st tb hD (by show 1 ≤ 40; decide) hl
      · rw [if_neg (show ¬ boats (gOf (some g)) ≤ b from h1)]
        rw [if_neg h1] at h3
        subst h3
        exact fun D H' st tb hD hl => k.lst R st tb hD (by show 2 ≤ 40; decide) hl
    | place b =>
      refine ⟨_, rfl, rfl, _, rfl, iteF ?_⟩
      refine ⟨_, rfl, rfl, _, rfl, iteF ?_⟩
      refine ⟨_, rfl, rfl, _, rfl, iteF ?_⟩
      refine ⟨_, rfl, rfl, _, rfl, iteF ?_⟩
      refine ⟨_, rfl, rfl, _, rfl, iteF ?_⟩
      refine ⟨_, rfl, rfl, _, rfl, iteF ?_⟩
      refine ⟨_, rfl, rfl, _, rfl, iteF ?_⟩
      refine ⟨_, rfl, rfl, _, rfl, iteT ?_⟩
      refine ⟨_, rfl, p, dx, _, rfl, hp, fl_no _ _ _ (by decide +kernel), _, rfl, al, _, _, _, rfl, rfl, SqL.of hal, at_of (j := 0) rfl rfl, p, lr, lc, ds, gOf s, b, rfl, R, ?_⟩
      obtain ⟨g, rfl, hg⟩ := need_some hact
      injection hg with h2 h3
      subst h2
      by_cases h1 : boats g ≤ b
      · rw [if_pos (show boats (gOf (some g)) ≤ b from h1)]
        rw [if_pos h1] at h3
        subst h3
        exact ⟨one, fun q hq => k.stay R (.refl _) R.tabs hq⟩
      · rw [if_neg (show ¬ boats (gOf (some g)) ≤ b from h1)]
        rw [if_neg h1] at h3
        subst h3
        exact fun H' st tb => ⟨one, fun q hq => k.stay R st tb hq⟩
    | order =>
      refine ⟨_, rfl, rfl, _, rfl, iteF ?_⟩
      refine ⟨_, rfl, rfl, _, rfl, iteF ?_⟩
      refine ⟨_, rfl, rfl, _, rfl, iteF ?_⟩
      refine ⟨_, rfl, rfl, _, rfl, iteF ?_⟩
      refine ⟨_, rfl, rfl, _, rfl, iteF ?_⟩
      refine ⟨_, rfl, rfl, _, rfl, iteF ?_⟩
      refine ⟨_, rfl, rfl, _, rfl, iteF ?_⟩
      refine ⟨_, rfl, rfl, _, rfl, iteF ?_⟩
      refine ⟨_, rfl, p, dx, _, rfl, hp, fl_no _ _ _ (by decide +kernel), p, lr, lc, ds, gOf s, rfl, R, ?_⟩
      obtain ⟨g, rfl, hg⟩ := need_some hact
      injection hg with h2 h3
      subst h2 h3
      have h32 : boats g ≤ 32 := R.wf.boats
      refine fun D H' st tb hD hl => k.lst R st tb hD ?_ ?_
      · show (toI (Kyr.order g)).length + 1 ≤ 40
        unfold toI
        rw [List.length_map, order_len]
        omega
      · rw [hl]
        show some (HO.lst (nI (boats g) :: (Kyr.order g).map nI)) = some (HO.lst (V.int ((boats g : Nat) : Int) :: (toI (Kyr.order g)).map V.int))
        rw [map_toI]
        rfl
end
end Rg
end

section
set_option Elab.async false
set_option linter.all false
set_option maxRecDepth 100000
set_option maxHeartbeats 2000000
namespace Rg
open PySem PySem.Spec PyProof.Rows L2
open PySem.W (Codec)
open Kyr (Regatta Told told nothing boats)
/-! ### what the top has written, and the row's head -/
theorem all_mk {P : Program} {w : World} {K : PySem.W.Frag} {h : Heap} {mg : Str → Option Value} {fa C f0 f1 f2 f3 f4 f5 f6 f7 f8 f9 f10 f11 f12 f13 f14 f15 f16 f17 f18 f19 f20 f21 f22 f23 f24 f25 f26 f27 f28 t0 t1 q16 q24 : Addr} (X : K.In h) (G : h.Ns mainGlobals mg) (hfa : mg "answers" = some (.ref fa))
    {od0 an0 od1 an1 od2 an2 od3 an3 od4 an4 od5 an5 od6 an6 od7 an7 od8 an8 od9 an9 od10 an10 od11 an11 od12 an12 od13 an13 od14 an14 od15 an15 od16 an16 od17 an17 od18 an18 od19 an19 od20 an20 od21 an21 od22 an22 od23 an23 od24 an24 od25 an25 od26 an26 od27 an27 od28 an28 td0 td1 : Option Addr} {sl0 sl1 sl2 sl3 sl4 sl5 sl6 sl7 sl8 sl9 sl10 sl11 sl12 sl13 sl14 sl15 sl16 sl17 sl18 sl19 sl20 sl21 sl22 sl23 sl24 sl25 sl26 sl27 sl28 ts0 ts1 : Array (Option Value)} {oc0 kV0 dc0 pm0 ct0 cd0 oc1 kV1 dc1 pm1 ct1 cd1 oc2 kV2 dc2 pm2 ct2 cd2 oc3 kV3 dc3 pm3 ct3 cd3 oc4 kV4 dc4 pm4 ct4 cd4 oc5 kV5 dc5 pm5 ct5 cd5 oc6 kV6 dc6 pm6 ct6 cd6 oc7 kV7 dc7 pm7 ct7 cd7 oc8 kV8 dc8 pm8 ct8 cd8 oc9 kV9 dc9 pm9 ct9 cd9 oc10 kV10 dc10 pm10 ct10 cd10 oc11 kV11 dc11 pm11 ct11 cd11 oc12 kV12 dc12 pm12 ct12 cd12 oc13 kV13 dc13 pm13 ct13 cd13 oc14 kV14 dc14 pm14 ct14 cd14 oc15 kV15 dc15 pm15 ct15 cd15 oc16 kV16 dc16 pm16 ct16 oc17 kV17 dc17 pm17 ct17 cd17 oc18 kV18 dc18 pm18 ct18 cd18 oc19 kV19 dc19 pm19 ct19 cd19 oc20 kV20 dc20 pm20 ct20 cd20 oc21 kV21 dc21 pm21 ct21 cd21 oc22 kV22 dc22 pm22 ct22 cd22 oc23 kV23 dc23 pm23 ct23 cd23 oc24 kV24 dc24 pm24 ct24 oc25 kV25 dc25 pm25 ct25 cd25 oc26 kV26 dc26 pm26 ct26 cd26 oc27 kV27 dc27 pm27 ct27 cd27 oc28 kV28 dc28 pm28 ct28 cd28 : Value} {u0 u1 u2 u3 u4 u5 u6 u7 u8 u9 u10 u11 u12 u13 u14 u15 u16 u17 u18 u19 u20 u21 w0_0 w0_1 w0_2 w1_0 w1_1 w1_2 w1_3 w1_4 w1_5 w1_6 w1_7 w1_8 : Tok} {tn0 tn1 : Nat}
    (aC : PySem.W.nsIn K mainGlobals "Regatta" = some (some (.ref C)))
    (a0 : PySem.W.nsIn K mainGlobals "limits_are_as_told" = some (some (.ref f0)))
    (l0 : K.lookup f0 = some ⟨oc0, od0, .func (PySem.W.fnOf "limits_are_as_told" "limits_are_as_told" (defArgs sLim) (defBody sLim) (defScope sLim) .none kV0 dc0 pm0 an0 cd0 ct0), sl0⟩)
    (c0 : PySem.W.codeIn K cd0 "limits_are_as_told" = true)
    (k0 : PySem.W.keepIn K (.ref f0) = true)
    (a1 : PySem.W.nsIn K mainGlobals "points_unfinished" = some (some (.ref f1)))
    (l1 : K.lookup f1 = some ⟨oc1, od1, .func (PySem.W.fnOf "points_unfinished" "points_unfinished" (defArgs sUnf) (defBody sUnf) (defScope sUnf) .none kV1 dc1 pm1 an1 cd1 ct1), sl1⟩)
    (c1 : PySem.W.codeIn K cd1 "points_unfinished" = true)
    (k1 : PySem.W.keepIn K (.ref f1) = true)
    (a2 : PySem.W.nsIn K mainGlobals "points_fined" = some (some (.ref f2)))
    (l2 : K.lookup f2 = some ⟨oc2, od2, .func (PySem.W.fnOf "points_fined" "points_fined" (defArgs sFine) (defBody sFine) (defScope sFine) .none kV2 dc2 pm2 an2 cd2 ct2), sl2⟩)
    (c2 : PySem.W.codeIn K cd2 "points_fined" = true)
    (k2 : PySem.W.keepIn K (.ref f2) = true)
    (a3 : PySem.W.nsIn K mainGlobals "points_finished" = some (some (.ref f3)))
    (l3 : K.lookup f3 = some ⟨oc3, od3, .func (PySem.W.fnOf "points_finished" "points_finished" (defArgs sFin) (defBody sFin) (defScope sFin) .none kV3 dc3 pm3 an3 cd3 ct3), sl3⟩)
    (c3 : PySem.W.codeIn K cd3 "points_finished" = true)
    (k3 : PySem.W.keepIn K (.ref f3) = true)
    (a4 : PySem.W.nsIn K mainGlobals "points_sailed" = some (some (.ref f4)))
    (l4 : K.lookup f4 = some ⟨oc4, od4, .func (PySem.W.fnOf "points_sailed" "points_sailed" (defArgs sSail) (defBody sSail) (defScope sSail) .none kV4 dc4 pm4 an4 cd4 ct4), sl4⟩)
    (c4 : PySem.W.codeIn K cd4 "points_sailed" = true)
    (k4 : PySem.W.keepIn K (.ref f4) = true)
    (a5 : PySem.W.nsIn K mainGlobals "points_made_good" = some (some (.ref f5)))
    (l5 : K.lookup f5 = some ⟨oc5, od5, .func (PySem.W.fnOf "points_made_good" "points_made_good" (defArgs sMade) (defBody sMade) (defScope sMade) .none kV5 dc5 pm5 an5 cd5 ct5), sl5⟩)
    (c5 : PySem.W.codeIn K cd5 "points_made_good" = true)
    (k5 : PySem.W.keepIn K (.ref f5) = true)
    (a6 : PySem.W.nsIn K mainGlobals "points_kept" = some (some (.ref f6)))
    (l6 : K.lookup f6 = some ⟨oc6, od6, .func (PySem.W.fnOf "points_kept" "points_kept" (defArgs sKept) (defBody sKept) (defScope sKept) .none kV6 dc6 pm6 an6 cd6 ct6), sl6⟩)
    (c6 : PySem.W.codeIn K cd6 "points_kept" = true)
    (k6 : PySem.W.keepIn K (.ref f6) = true)
    (a7 : PySem.W.findIn K (.ref C) "__init__" = some (some (.ref f7)))
    (i7 : PySem.W.isFn K (.ref f7) = true)
    (l7 : K.lookup f7 = some ⟨oc7, od7, .func (PySem.W.fnOf "__init__" "Regatta.__init__" (defArgs sInit) (defBody sInit) (defScope sInit) .none kV7 dc7 pm7 an7 cd7 ct7), sl7⟩)
    (c7 : PySem.W.codeIn K cd7 "Regatta.__init__" = true)
    (k7 : PySem.W.keepIn K (.ref f7) = true)
    (a8 : PySem.W.findIn K (.ref C) "start" = some (some (.ref f8)))
    (i8 : PySem.W.isFn K (.ref f8) = true)
    (l8 : K.lookup f8 = some ⟨oc8, od8, .func (PySem.W.fnOf "start" "Regatta.start" (defArgs sStart) (defBody sStart) (defScope sStart) .none kV8 dc8 pm8 an8 cd8 ct8), sl8⟩)
    (c8 : PySem.W.codeIn K cd8 "Regatta.start" = true)
    (k8 : PySem.W.keepIn K (.ref f8) = true)
    (a9 : PySem.W.findIn K (.ref C) "add_boat" = some (some (.ref f9)))
    (i9 : PySem.W.isFn K (.ref f9) = true)
    (l9 : K.lookup f9 = some ⟨oc9, od9, .func (PySem.W.fnOf "add_boat" "Regatta.add_boat" (defArgs sBoat) (defBody sBoat) (defScope sBoat) .none kV9 dc9 pm9 an9 cd9 ct9), sl9⟩)
    (c9 : PySem.W.codeIn K cd9 "Regatta.add_boat" = true)
    (k9 : PySem.W.keepIn K (.ref f9) = true)
    (a10 : PySem.W.findIn K (.ref C) "add_race" = some (some (.ref f10)))
    (i10 : PySem.W.isFn K (.ref f10) = true)
    (l10 : K.lookup f10 = some ⟨oc10, od10, .func (PySem.W.fnOf "add_race" "Regatta.add_race" (defArgs sRace) (defBody sRace) (defScope sRace) .none kV10 dc10 pm10 an10 cd10 ct10), sl10⟩)
    (c10 : PySem.W.codeIn K cd10 "Regatta.add_race" = true)
    (k10 : PySem.W.keepIn K (.ref f10) = true)
    (a11 : PySem.W.findIn K (.ref C) "finish" = some (some (.ref f11)))
    (i11 : PySem.W.isFn K (.ref f11) = true)
    (l11 : K.lookup f11 = some ⟨oc11, od11, .func (PySem.W.fnOf "finish" "Regatta.finish" (defArgs sFinish) (defBody sFinish) (defScope sFinish) .none kV11 dc11 pm11 an11 cd11 ct11), sl11⟩)
    (c11 : PySem.W.codeIn K cd11 "Regatta.finish" = true)
    (k11 : PySem.W.keepIn K (.ref f11) = true)
    (a12 : PySem.W.findIn K (.ref C) "note" = some (some (.ref f12)))
    (i12 : PySem.W.isFn K (.ref f12) = true)
    (l12 : K.lookup f12 = some ⟨oc12, od12, .func (PySem.W.fnOf "note" "Regatta.note" (defArgs sNote) (defBody sNote) (defScope sNote) .none kV12 dc12 pm12 an12 cd12 ct12), sl12⟩)
    (c12 : PySem.W.codeIn K cd12 "Regatta.note" = true)
    (k12 : PySem.W.keepIn K (.ref f12) = true)
    (a13 : PySem.W.findIn K (.ref C) "points" = some (some (.ref f13)))
    (i13 : PySem.W.isFn K (.ref f13) = true)
    (l13 : K.lookup f13 = some ⟨oc13, od13, .func (PySem.W.fnOf "points" "Regatta.points" (defArgs sPoints) (defBody sPoints) (defScope sPoints) .none kV13 dc13 pm13 an13 cd13 ct13), sl13⟩)
    (c13 : PySem.W.codeIn K cd13 "Regatta.points" = true)
    (k13 : PySem.W.keepIn K (.ref f13) = true)
    (a14 : PySem.W.findIn K (.ref C) "total" = some (some (.ref f14)))
    (i14 : PySem.W.isFn K (.ref f14) = true)
    (l14 : K.lookup f14 = some ⟨oc14, od14, .func (PySem.W.fnOf "total" "Regatta.total" (defArgs sTotal) (defBody sTotal) (defScope sTotal) .none kV14 dc14 pm14 an14 cd14 ct14), sl14⟩)
    (c14 : PySem.W.codeIn K cd14 "Regatta.total" = true)
    (k14 : PySem.W.keepIn K (.ref f14) = true)
    (a15 : PySem.W.findIn K (.ref C) "place" = some (some (.ref f15)))
    (i15 : PySem.W.isFn K (.ref f15) = true)
    (l15 : K.lookup f15 = some ⟨oc15, od15, .func (PySem.W.fnOf "place" "Regatta.place" (defArgs sPlace) (defBody sPlace) (defScope sPlace) .none kV15 dc15 pm15 an15 cd15 ct15), sl15⟩)
    (c15 : PySem.W.codeIn K cd15 "Regatta.place" = true)
    (k15 : PySem.W.keepIn K (.ref f15) = true)
    (a16 : PySem.W.findIn K (.ref C) "order" = some (some (.ref f16)))
    (i16 : PySem.W.isFn K (.ref f16) = true)
    (l16 : K.lookup f16 = some ⟨oc16, od16, .func (PySem.W.fnOf "order" "Regatta.order" (defArgs sOrder) (defBody sOrder) (defScope sOrder) .none kV16 dc16 pm16 an16 (.ref q16) ct16), sl16⟩)
    (c16 : PySem.W.codeIn K (.ref q16) "Regatta.order" = true)
    (h16 : PySem.W.codeHdIn K q16 (131) = true)
    (k16 : PySem.W.keepIn K (.ref f16) = true)
    (a17 : PySem.W.findIn K (.ref C) "has_boat" = some (some (.ref f17)))
    (i17 : PySem.W.isFn K (.ref f17) = true)
    (l17 : K.lookup f17 = some ⟨oc17, od17, .func (PySem.W.fnOf "has_boat" "Regatta.has_boat" (defArgs sHasB) (defBody sHasB) (defScope sHasB) .none kV17 dc17 pm17 an17 cd17 ct17), sl17⟩)
    (c17 : PySem.W.codeIn K cd17 "Regatta.has_boat" = true)
    (k17 : PySem.W.keepIn K (.ref f17) = true)
    (a18 : PySem.W.findIn K (.ref C) "has" = some (some (.ref f18)))
    (i18 : PySem.W.isFn K (.ref f18) = true)
    (l18 : K.lookup f18 = some ⟨oc18, od18, .func (PySem.W.fnOf "has" "Regatta.has" (defArgs sHas) (defBody sHas) (defScope sHas) .none kV18 dc18 pm18 an18 cd18 ct18), sl18⟩)
    (c18 : PySem.W.codeIn K cd18 "Regatta.has" = true)
    (k18 : PySem.W.keepIn K (.ref f18) = true)
    (a19 : PySem.W.findIn K (.ref C) "told_of" = some (some (.ref f19)))
    (i19 : PySem.W.isFn K (.ref f19) = true)
    (l19 : K.lookup f19 = some ⟨oc19, od19, .func (PySem.W.fnOf "told_of" "Regatta.told_of" (defArgs sToldOf) (defBody sToldOf) (defScope sToldOf) .none kV19 dc19 pm19 an19 cd19 ct19), sl19⟩)
    (c19 : PySem.W.codeIn K cd19 "Regatta.told_of" = true)
    (k19 : PySem.W.keepIn K (.ref f19) = true)
    (a20 : PySem.W.findIn K (.ref C) "times_in" = some (some (.ref f20)))
    (i20 : PySem.W.isFn K (.ref f20) = true)
    (l20 : K.lookup f20 = some ⟨oc20, od20, .func (PySem.W.fnOf "times_in" "Regatta.times_in" (defArgs sTimes) (defBody sTimes) (defScope sTimes) .none kV20 dc20 pm20 an20 cd20 ct20), sl20⟩)
    (c20 : PySem.W.codeIn K cd20 "Regatta.times_in" = true)
    (k20 : PySem.W.keepIn K (.ref f20) = true)
    (a21 : PySem.W.findIn K (.ref C) "times_of_all" = some (some (.ref f21)))
    (i21 : PySem.W.isFn K (.ref f21) = true)
    (l21 : K.lookup f21 = some ⟨oc21, od21, .func (PySem.W.fnOf "times_of_all" "Regatta.times_of_all" (defArgs sTimesAll) (defBody sTimesAll) (defScope sTimesAll) .none kV21 dc21 pm21 an21 cd21 ct21), sl21⟩)
    (c21 : PySem.W.codeIn K cd21 "Regatta.times_of_all" = true)
    (k21 : PySem.W.keepIn K (.ref f21) = true)
    (a22 : PySem.W.findIn K (.ref C) "points_of" = some (some (.ref f22)))
    (i22 : PySem.W.isFn K (.ref f22) = true)
    (l22 : K.lookup f22 = some ⟨oc22, od22, .func (PySem.W.fnOf "points_of" "Regatta.points_of" (defArgs sPtsOf) (defBody sPtsOf) (defScope sPtsOf) .none kV22 dc22 pm22 an22 cd22 ct22), sl22⟩)
    (c22 : PySem.W.codeIn K cd22 "Regatta.points_of" = true)
    (k22 : PySem.W.keepIn K (.ref f22) = true)
    (a23 : PySem.W.findIn K (.ref C) "how_many_left_out" = some (some (.ref f23)))
    (i23 : PySem.W.isFn K (.ref f23) = true)
    (l23 : K.lookup f23 = some ⟨oc23, od23, .func (PySem.W.fnOf "how_many_left_out" "Regatta.how_many_left_out" (defArgs sHowM) (defBody sHowM) (defScope sHowM) .none kV23 dc23 pm23 an23 cd23 ct23), sl23⟩)
    (c23 : PySem.W.codeIn K cd23 "Regatta.how_many_left_out" = true)
    (k23 : PySem.W.keepIn K (.ref f23) = true)
    (a24 : PySem.W.findIn K (.ref C) "left_out" = some (some (.ref f24)))
    (i24 : PySem.W.isFn K (.ref f24) = true)
    (l24 : K.lookup f24 = some ⟨oc24, od24, .func (PySem.W.fnOf "left_out" "Regatta.left_out" (defArgs sLeft) (defBody sLeft) (defScope sLeft) .none kV24 dc24 pm24 an24 (.ref q24) ct24), sl24⟩)
    (c24 : PySem.W.codeIn K (.ref q24) "Regatta.left_out" = true)
    (h24 : PySem.W.codeHdIn K q24 (177) = true)
    (k24 : PySem.W.keepIn K (.ref f24) = true)
    (a25 : PySem.W.findIn K (.ref C) "standing" = some (some (.ref f25)))
    (i25 : PySem.W.isFn K (.ref f25) = true)
    (l25 : K.lookup f25 = some ⟨oc25, od25, .func (PySem.W.fnOf "standing" "Regatta.standing" (defArgs sStand) (defBody sStand) (defScope sStand) .none kV25 dc25 pm25 an25 cd25 ct25), sl25⟩)
    (c25 : PySem.W.codeIn K cd25 "Regatta.standing" = true)
    (k25 : PySem.W.keepIn K (.ref f25) = true)
    (a26 : PySem.W.findIn K (.ref C) "standings" = some (some (.ref f26)))
    (i26 : PySem.W.isFn K (.ref f26) = true)
    (l26 : K.lookup f26 = some ⟨oc26, od26, .func (PySem.W.fnOf "standings" "Regatta.standings" (defArgs sStands) (defBody sStands) (defScope sStands) .none kV26 dc26 pm26 an26 cd26 ct26), sl26⟩)
    (c26 : PySem.W.codeIn K cd26 "Regatta.standings" = true)
    (k26 : PySem.W.keepIn K (.ref f26) = true)
    (a27 : PySem.W.nsIn K mainGlobals "answer_call" = some (some (.ref f27)))
    (l27 : K.lookup f27 = some ⟨oc27, od27, .func (PySem.W.fnOf "answer_call" "answer_call" (defArgs sCall) (defBody sCall) (defScope sCall) .none kV27 dc27 pm27 an27 cd27 ct27), sl27⟩)
    (c27 : PySem.W.codeIn K cd27 "answer_call" = true)
    (k27 : PySem.W.keepIn K (.ref f27) = true)
    (a28 : PySem.W.nsIn K mainGlobals "answers" = some (some (.ref f28)))
    (l28 : K.lookup f28 = some ⟨oc28, od28, .func (PySem.W.fnOf "answers" "answers" (defArgs sAns) (defBody sAns) (defScope sAns) .none kV28 dc28 pm28 an28 cd28 ct28), sl28⟩)
    (c28 : PySem.W.codeIn K cd28 "answers" = true)
    (k28 : PySem.W.keepIn K (.ref f28) = true)
    (pg : PySem.W.plainGet K C Str.empty = true)
    (hd : PySem.W.hasDictIn K C = true)
    (po : PySem.W.plainOver K C = true)
    (sa : PySem.W.findIn K (.ref C) "__setattr__" = some (some (.builtin "object.__setattr__")))
    (mk : PySem.W.makesIn K C = true)
    (kc : PySem.W.keepIn K (.ref C) = true)
    (n0 : PySem.W.findIn K (.ref C) "limits" = some none)
    (n1 : PySem.W.findIn K (.ref C) "ratings" = some none)
    (n2 : PySem.W.findIn K (.ref C) "races" = some none)
    (z0 : PySem.W.nsIn K mainGlobals "len" = some none)
    (z1 : PySem.W.nsIn K mainGlobals "range" = some none)
    (z2 : PySem.W.nsIn K mainGlobals "sum" = some none)
    (z3 : PySem.W.nsIn K mainGlobals "min" = some none)
    (z4 : PySem.W.nsIn K mainGlobals "sorted" = some none)
    (z5 : PySem.W.nsIn K mainGlobals "list" = some none)
    (z6 : PySem.W.nsIn K mainGlobals "reversed" = some none)
    (v0 : PySem.W.nsIn K mainGlobals "NO_SUCH" = some (some (.int (-2) u0)))
    (v1 : PySem.W.nsIn K mainGlobals "NOT_AS_TOLD" = some (some (.int (-22) u1)))
    (v2 : PySem.W.nsIn K mainGlobals "NO_ROOM" = some (some (.int (-28) u2)))
    (v3 : PySem.W.nsIn K mainGlobals "MOST_BOATS" = some (some (.int (32) u3)))
    (v4 : PySem.W.nsIn K mainGlobals "MOST_RACES" = some (some (.int (20) u4)))
    (v5 : PySem.W.nsIn K mainGlobals "HIGHEST_LIMIT" = some (some (.int (20) u5)))
    (v6 : PySem.W.nsIn K mainGlobals "LEAST_RATING" = some (some (.int (500) u6)))
    (v7 : PySem.W.nsIn K mainGlobals "MOST_RATING" = some (some (.int (2000) u7)))
    (v8 : PySem.W.nsIn K mainGlobals "MOST_SECONDS" = some (some (.int (1000000) u8)))
    (v9 : PySem.W.nsIn K mainGlobals "FINISHED" = some (some (.int (1) u9)))
    (v10 : PySem.W.nsIn K mainGlobals "STRUCK_OUT_FOR_GOOD" = some (some (.int (6) u10)))
    (v11 : PySem.W.nsIn K mainGlobals "MADE_GOOD" = some (some (.int (7) u11)))
    (v12 : PySem.W.nsIn K mainGlobals "POINT" = some (some (.int (20) u12)))
    (v13 : PySem.W.nsIn K mainGlobals "TENTH" = some (some (.int (2) u13)))
    (v14 : PySem.W.nsIn K mainGlobals "START" = some (some (.int (0) u14)))
    (v15 : PySem.W.nsIn K mainGlobals "BOAT" = some (some (.int (1) u15)))
    (v16 : PySem.W.nsIn K mainGlobals "RACE" = some (some (.int (2) u16)))
    (v17 : PySem.W.nsIn K mainGlobals "FINISH" = some (some (.int (3) u17)))
    (v18 : PySem.W.nsIn K mainGlobals "NOTE" = some (some (.int (4) u18)))
    (v19 : PySem.W.nsIn K mainGlobals "POINTS" = some (some (.int (5) u19)))
    (v20 : PySem.W.nsIn K mainGlobals "TOTAL" = some (some (.int (6) u20)))
    (v21 : PySem.W.nsIn K mainGlobals "PLACE" = some (some (.int (7) u21)))
    (b0 : PySem.W.nsIn K mainGlobals "NOTHING_TOLD" = some (some (.ref t0)))
    (e0 : K.lookup t0 = some ⟨.type "tuple", td0, .seq #[.int (0) w0_0, .int (0) w0_1, .int (0) w0_2] tn0, ts0⟩)
    (b1 : PySem.W.nsIn K mainGlobals "WIDTHS" = some (some (.ref t1)))
    (e1 : K.lookup t1 = some ⟨.type "tuple", td1, .seq #[.int (3) w1_0, .int (1) w1_1, .int (0) w1_2, .int (4) w1_3, .int (3) w1_4, .int (2) w1_5, .int (1) w1_6, .int (1) w1_7, .int (0) w1_8] tn1, ts1⟩)
    : ∃ fd : FuncData, (∀ (s : Shared) (us : List Value), us.length = (["calls"] : List Str).length → BindsTo s fd ⟨us, []⟩ ((["calls"] : List Str).zip us)) ∧ ∀ base : Heap, K.In base → base.Ns mainGlobals mg → (∀ t ∈ ([177, 131] : List Addr), base.BuiltinsAt mg t) → FnOk P w K mg base CX0 9 fa fd ["calls"] (spAns K) := by
  have e := hfa.symm.trans (PySem.W.mg_of X G a28)
  cases e
  have T : Txt K mg C := ⟨⟨pg, hd, po, sa⟩, n0, n1, n2, PySem.W.mg_of X G aC, PySem.W.mg_none_of X G z0, PySem.W.mg_none_of X G z1, PySem.W.mg_none_of X G z2, PySem.W.mg_none_of X G z3, PySem.W.mg_none_of X G z4, PySem.W.mg_none_of X G z5, PySem.W.mg_none_of X G z6, ⟨_, PySem.W.mg_of X G v0⟩, ⟨_, PySem.W.mg_of X G v1⟩, ⟨_, PySem.W.mg_of X G v2⟩, ⟨_, PySem.W.mg_of X G v3⟩, ⟨_, PySem.W.mg_of X G v4⟩, ⟨_, PySem.W.mg_of X G v5⟩, ⟨_, PySem.W.mg_of X G v6⟩, ⟨_, PySem.W.mg_of X G v7⟩, ⟨_, PySem.W.mg_of X G v8⟩, ⟨_, PySem.W.mg_of X G v9⟩, ⟨_, PySem.W.mg_of X G v10⟩, ⟨_, PySem.W.mg_of X G v11⟩, ⟨_, PySem.W.mg_of X G v12⟩, ⟨_, PySem.W.mg_of X G v13⟩, ⟨_, PySem.W.mg_of X G v14⟩, ⟨_, PySem.W.mg_of X G v15⟩, ⟨_, PySem.W.mg_of X G v16⟩, ⟨_, PySem.W.mg_of X G v17⟩, ⟨_, PySem.W.mg_of X G v18⟩, ⟨_, PySem.W.mg_of X G v19⟩, ⟨_, PySem.W.mg_of X G v20⟩, ⟨_, PySem.W.mg_of X G v21⟩, ⟨_, PySem.W.mg_of X G b0, fun H => .inr ⟨_, _, _, e0, rfl, rfl, (by show 3 ≤ sizeLine; decide), .cons ⟨_, rfl⟩ (.cons ⟨_, rfl⟩ (.cons ⟨_, rfl⟩ (.nil)))⟩⟩, ⟨_, PySem.W.mg_of X G b1, fun H => .inr ⟨_, _, _, e1, rfl, rfl, (by show 9 ≤ sizeLine; decide), .cons ⟨_, rfl⟩ (.cons ⟨_, rfl⟩ (.cons ⟨_, rfl⟩ (.cons ⟨_, rfl⟩ (.cons ⟨_, rfl⟩ (.cons ⟨_, rfl⟩ (.cons ⟨_, rfl⟩ (.cons ⟨_, rfl⟩ (.cons ⟨_, rfl⟩ (.nil)))))))))⟩⟩⟩
  have F0 := fun_mk (st := sLim) l0 c0 k0
  have B0 := F0.binds (ps := ["limits"]) fun _ _ _ _ _ _ us hl => match us, hl with | [_], _ => rfl
  have D_limits_are_as_told : DefG K mg "limits_are_as_told" sLim ["limits"] f0 _ := ⟨F0, B0, PySem.W.mg_of X G a0⟩
  have F1 := fun_mk (st := sUnf) l1 c1 k1
  have B1 := F1.binds (ps := ["boat_count"]) fun _ _ _ _ _ _ us hl => match us, hl with | [_], _ => rfl
  have D_points_unfinished : DefG K mg "points_unfinished" sUnf ["boat_count"] f1 _ := ⟨F1, B1, PySem.W.mg_of X G a1⟩
  have F2 := fun_mk (st := sFine) l2 c2 k2
  have B2 := F2.binds (ps := ["boat_count"]) fun _ _ _ _ _ _ us hl => match us, hl with | [_], _ => rfl
  have D_points_fined : DefG K mg "points_fined" sFine ["boat_count"] f2 _ := ⟨F2, B2, PySem.W.mg_of X G a2⟩
  have F3 := fun_mk (st := sFin) l3 c3 k3
  have B3 := F3.binds (ps := ["times", "own_time"]) fun _ _ _ _ _ _ us hl => match us, hl with | [_, _], _ => rfl
  have D_points_finished : DefG K mg "points_finished" sFin ["times", "own_time"] f3 _ := ⟨F3, B3, PySem.W.mg_of X G a3⟩
  have F4 := fun_mk (st := sSail) l4 c4 k4
  have B4 := F4.binds (ps := ["told", "times", "boat_count"]) fun _ _ _ _ _ _ us hl => match us, hl with | [_, _, _], _ => rfl
  have D_points_sailed : DefG K mg "points_sailed" sSail ["told", "times", "boat_count"] f4 _ := ⟨F4, B4, PySem.W.mg_of X G a4⟩
  have F5 := fun_mk (st := sMade) l5 c5 k5
  have B5 := F5.binds (ps := ["sailed", "boat_count"]) fun _ _ _ _ _ _ us hl => match us, hl with | [_, _], _ => rfl
  have D_points_made_good : DefG K mg "points_made_good" sMade ["sailed", "boat_count"] f5 _ := ⟨F5, B5, PySem.W.mg_of X G a5⟩
  have F6 := fun_mk (st := sKept) l6 c6 k6
  have B6 := F6.binds (ps := ["points", "out"]) fun _ _ _ _ _ _ us hl => match us, hl with | [_, _], _ => rfl
  have D_points_kept : DefG K mg "points_kept" sKept ["points", "out"] f6 _ := ⟨F6, B6, PySem.W.mg_of X G a6⟩
  have F7 := fun_mk (st := sInit) l7 c7 k7
  have B7 := F7.binds (ps := ["self"]) fun _ _ _ _ _ _ us hl => match us, hl with | [_], _ => rfl
  have M : Mk K C f7 := ⟨mk, a7, i7, kc⟩
  have D_init := F7
  have B_init := B7
  have F8 := fun_mk (st := sStart) l8 c8 k8
  have B8 := F8.binds (ps := ["self", "limits"]) fun _ _ _ _ _ _ us hl => match us, hl with | [_, _], _ => rfl
  have D_start : DefM K C "start" "Regatta.start" sStart ["self", "limits"] f8 _ := ⟨F8, B8, ⟨a8, i8, k8⟩⟩
  have F9 := fun_mk (st := sBoat) l9 c9 k9
  have B9 := F9.binds (ps := ["self", "rating"]) fun _ _ _ _ _ _ us hl => match us, hl with | [_, _], _ => rfl
  have D_add_boat : DefM K C "add_boat" "Regatta.add_boat" sBoat ["self", "rating"] f9 _ := ⟨F9, B9, ⟨a9, i9, k9⟩⟩
  have F10 := fun_mk (st := sRace) l10 c10 k10
  have B10 := F10.binds (ps := ["self"]) fun _ _ _ _ _ _ us hl => match us, hl with | [_], _ => rfl
  have D_add_race : DefM K C "add_race" "Regatta.add_race" sRace ["self"] f10 _ := ⟨F10, B10, ⟨a10, i10, k10⟩⟩
  have F11 := fun_mk (st := sFinish) l11 c11 k11
  have B11 := F11.binds (ps := ["self", "race", "boat", "seconds", "fined"]) fun _ _ _ _ _ _ us hl => match us, hl with | [_, _, _, _, _], _ => rfl
  have D_finish : DefM K C "finish" "Regatta.finish" sFinish ["self", "race", "boat", "seconds", "fined"] f11 _ := ⟨F11, B11, ⟨a11, i11, k11⟩⟩
  have F12 := fun_mk (st := sNote) l12 c12 k12
  have B12 := F12.binds (ps := ["self", "race", "boat", "kind"]) fun _ _ _ _ _ _ us hl => match us, hl with | [_, _, _, _], _ => rfl
  have D_note : DefM K C "note" "Regatta.note" sNote ["self", "race", "boat", "kind"] f12 _ := ⟨F12, B12, ⟨a12, i12, k12⟩⟩
  have F13 := fun_mk (st := sPoints) l13 c13 k13
  have B13 := F13.binds (ps := ["self", "race", "boat"]) fun _ _ _ _ _ _ us hl => match us, hl with | [_, _, _], _ => rfl
  have D_points : DefM K C "points" "Regatta.points" sPoints ["self", "race", "boat"] f13 _ := ⟨F13, B13, ⟨a13, i13, k13⟩⟩
  have F14 := fun_mk (st := sTotal) l14 c14 k14
  have B14 := F14.binds (ps := ["self", "boat"]) fun _ _ _ _ _ _ us hl => match us, hl with | [_, _], _ => rfl
  have D_total : DefM K C "total" "Regatta.total" sTotal ["self", "boat"] f14 _ := ⟨F14, B14, ⟨a14, i14, k14⟩⟩
  have F15 := fun_mk (st := sPlace) l15 c15 k15
  have B15 := F15.binds (ps := ["self", "boat"]) fun _ _ _ _ _ _ us hl => match us, hl with | [_, _], _ => rfl
  have D_place : DefM K C "place" "Regatta.place" sPlace ["self", "boat"] f15 _ := ⟨F15, B15, ⟨a15, i15, k15⟩⟩
  have FT_order := funT_mk (st := sOrder) l16 c16 k16 h16
  have B_order := FT_order.of.binds (ps := ["self"]) fun _ _ _ _ _ _ us hl => match us, hl with | [_], _ => rfl
  have M_order : Meth K C "order" f16 := ⟨a16, i16, k16⟩
  have F17 := fun_mk (st := sHasB) l17 c17 k17
  have B17 := F17.binds (ps := ["self", "boat"]) fun _ _ _ _ _ _ us hl => match us, hl with | [_, _], _ => rfl
  have D_has_boat : DefM K C "has_boat" "Regatta.has_boat" sHasB ["self", "boat"] f17 _ := ⟨F17, B17, ⟨a17, i17, k17⟩⟩
  have F18 := fun_mk (st := sHas) l18 c18 k18
  have B18 := F18.binds (ps := ["self", "race", "boat"]) fun _ _ _ _ _ _ us hl => match us, hl with | [_, _, _], _ => rfl
  have D_has : DefM K C "has" "Regatta.has" sHas ["self", "race", "boat"] f18 _ := ⟨F18, B18, ⟨a18, i18, k18⟩⟩
  have F19 := fun_mk (st := sToldOf) l19 c19 k19
  have B19 := F19.binds (ps := ["self", "boat"]) fun _ _ _ _ _ _ us hl => match us, hl with | [_, _], _ => rfl
  have D_told_of : DefM K C "told_of" "Regatta.told_of" sToldOf ["self", "boat"] f19 _ := ⟨F19, B19, ⟨a19, i19, k19⟩⟩
  have F20 := fun_mk (st := sTimes) l20 c20 k20
  have B20 := F20.binds (ps := ["self", "race"]) fun _ _ _ _ _ _ us hl => match us, hl with | [_, _], _ => rfl
  have D_times_in : DefM K C "times_in" "Regatta.times_in" sTimes ["self", "race"] f20 _ := ⟨F20, B20, ⟨a20, i20, k20⟩⟩
  have F21 := fun_mk (st := sTimesAll) l21 c21 k21
  have B21 := F21.binds (ps := ["self"]) fun _ _ _ _ _ _ us hl => match us, hl with | [_], _ => rfl
  have D_times_of_all : DefM K C "times_of_all" "Regatta.times_of_all" sTimesAll ["self"] f21 _ := ⟨F21, B21, ⟨a21, i21, k21⟩⟩
  have F22 := fun_mk (st := sPtsOf) l22 c22 k22
  have B22 := F22.binds (ps := ["self", "boat", "times"]) fun _ _ _ _ _ _ us hl => match us, hl with | [_, _, _], _ => rfl
  have D_points_of : DefM K C "points_of" "Regatta.points_of" sPtsOf ["self", "boat", "times"] f22 _ := ⟨F22, B22, ⟨a22, i22, k22⟩⟩
  have F23 := fun_mk (st := sHowM) l23 c23 k23
  have B23 := F23.binds (ps := ["self"]) fun _ _ _ _ _ _ us hl => match us, hl with | [_], _ => rfl
  have D_how_many_left_out : DefM K C "how_many_left_out" "Regatta.how_many_left_out" sHowM ["self"] f23 _ := ⟨F23, B23, ⟨a23, i23, k23⟩⟩
  have FT_left_out := funT_mk (st := sLeft) l24 c24 k24 h24
  have B_left_out := FT_left_out.of.binds (ps := ["self", "boat", "points"]) fun _ _ _ _ _ _ us hl => match us, hl with | [_, _, _], _ => rfl
  have M_left_out : Meth K C "left_out" f24 := ⟨a24, i24, k24⟩
  have F25 := fun_mk (st := sStand) l25 c25 k25
  have B25 := F25.binds (ps := ["self", "boat", "times"]) fun _ _ _ _ _ _ us hl => match us, hl with | [_, _, _], _ => rfl
  have D_standing : DefM K C "standing" "Regatta.standing" sStand ["self", "boat", "times"] f25 _ := ⟨F25, B25, ⟨a25, i25, k25⟩⟩
  have F26 := fun_mk (st := sStands) l26 c26 k26
  have B26 := F26.binds (ps := ["self"]) fun _ _ _ _ _ _ us hl => match us, hl with | [_], _ => rfl
  have D_standings : DefM K C "standings" "Regatta.standings" sStands ["self"] f26 _ := ⟨F26, B26, ⟨a26, i26, k26⟩⟩
  have F27 := fun_mk (st := sCall) l27 c27 k27
  have B27 := F27.binds (ps := ["regatta", "call", "given"]) fun _ _ _ _ _ _ us hl => match us, hl with | [_, _, _], _ => rfl
  have D_answer_call : DefG K mg "answer_call" sCall ["regatta", "call", "given"] f27 _ := ⟨F27, B27, PySem.W.mg_of X G a27⟩
  have F28 := fun_mk (st := sAns) l28 c28 k28
  have D_answers := F28
  refine ⟨PySem.W.fnOf "answers" "answers" (defArgs sAns) (defBody sAns) (defScope sAns) .none kV28 dc28 pm28 an28 cd28 ct28, fun s us hu => match us, hu with | [_], _ => .of_eq rfl, fun base KB _ hBA => ?_⟩
  have TBL : base.BuiltinsAt mg tabL := hBA 177 (by decide)
  have TBO : base.BuiltinsAt mg tabO := hBA 131 (by decide)
  have g_lim := ok_lim (P := P) (w := w) (base := base) T D_limits_are_as_told
  have g_unf := ok_unf (P := P) (w := w) (base := base) T D_points_unfinished
  have g_fine := ok_fine (P := P) (w := w) (base := base) T D_points_fined
  have g_fin := ok_fin (P := P) (w := w) (base := base) T D_points_finished
  have g_sail := ok_sail T D_points_sailed g_unf g_fine g_fin
  have g_made := ok_made T D_points_made_good g_unf
  have g_kept := ok_kept (P := P) (w := w) (base := base) T D_points_kept
  have g_init := ok_init (P := P) (w := w) (mg := mg) (base := base) T D_init
  have g_start := ok_start T D_start g_lim
  have g_boat := ok_boat (P := P) (w := w) (base := base) T D_add_boat
  have g_race := ok_race (P := P) (w := w) (base := base) T D_add_race
  have g_hasB := ok_hasB (P := P) (w := w) (base := base) T D_has_boat
  have g_has := ok_has T D_has g_hasB
  have g_told := ok_toldOf (P := P) (w := w) (base := base) T D_told_of
  have g_times := ok_times (P := P) (w := w) (base := base) T D_times_in
  have g_all := ok_timesAll T D_times_of_all g_times
  have g_ptsOf := ok_ptsOf T D_points_of g_told g_sail g_made
  have g_howM := ok_howM (P := P) (w := w) (base := base) T D_how_many_left_out
  have g_left := ok_left T KB TBL FT_left_out B_left_out M_left_out g_told g_howM
  have g_stand := ok_stand T D_standing g_ptsOf g_left g_kept
  have g_stands := ok_stands T D_standings g_all g_stand
  have g_finish := ok_finish T D_finish g_has g_times
  have g_note := ok_note T D_note g_has
  have g_points := ok_points T D_points g_has g_all g_ptsOf
  have g_total := ok_total T D_total g_hasB g_all g_ptsOf g_left g_kept
  have g_place := ok_place T D_place g_hasB g_stands
  have g_order := ok_order T KB TBO FT_order B_order M_order g_stands
  have g_call := ok_call T D_answer_call g_start g_boat g_race g_finish g_note g_points g_total g_place g_order
  exact ok_ans T D_answers M g_init B_init g_call
end Rg
open PySem PySem.W PyProof.Rows
local macro_rules | `(tactic| o_headS ($f:ident $k $a $e)) => `(tactic| o_headS (PySem.W.kmHook $k $a $e [177, 131]))
set_option maxRecDepth 100000 in
set_option maxHeartbeats 0 in
theorem PySem.Challenge.cw_regattapoints_s01_answers_holds : PySem.Challenge.rw_regattapoints_s01_answers.Holds := by
  w_on; k_headS; (case hw => exact ⟨[.list [.int 0, .int 0, .int 0, .int 0]], by decide +kernel, by decide +kernel⟩)
  k_fillS
  refine Srt.walk_specT (r := PySem.Challenge.rw_regattapoints_s01_answers) (k := 9) (CX := L2.CX0) (ps := ["calls"]) (sp := Rg.spAns) (ts := [177, 131]) (by decide +kernel) rfl rfl ⟨rfl, by decide, by decide⟩ (fun w h Y => PySem.W.km_in_of Y) (fun w h Y => PySem.W.km_tabs_of Y) ?T ?F ?S (fun _ _ _ _ z => z)
  case T =>
    intro w h KX t m
    rcases List.mem_cons.mp m with e | m
    · subst e
      exact ⟨by kernel_rfl, 179, PySem.W.codeHd_of_K KX (by kernel_rfl)⟩
    · have e := List.mem_singleton.mp m
      subst e
      exact ⟨by kernel_rfl, 135, PySem.W.codeHd_of_K KX (by kernel_rfl)⟩
  case F =>
    intro w mg fa h Y KX G hmg
    refine' Rg.all_mk KX G hmg ?aC ?a0 ?l0 ?c0 ?k0 ?a1 ?l1 ?c1 ?k1 ?a2 ?l2 ?c2 ?k2 ?a3 ?l3 ?c3 ?k3 ?a4 ?l4 ?c4 ?k4 ?a5 ?l5 ?c5 ?k5 ?a6 ?l6 ?c6 ?k6 ?a7 ?i7 ?l7 ?c7 ?k7 ?a8 ?i8 ?l8 ?c8 ?k8 ?a9 ?i9 ?l9 ?c9 ?k9 ?a10 ?i10 ?l10 ?c10 ?k10 ?a11 ?i11 ?l11 ?c11 ?k11 ?a12 ?i12 ?l12 ?c12 ?k12 ?a13 ?i13 ?l13 ?c13 ?k13 ?a14 ?i14 ?l14 ?c14 ?k14 ?a15 ?i15 ?l15 ?c15 ?k15 ?a16 ?i16 ?l16 ?c16 ?h16 ?k16 ?a17 ?i17 ?l17 ?c17 ?k17 ?a18 ?i18 ?l18 ?c18 ?k18 ?a19 ?i19 ?l19 ?c19 ?k19 ?a20 ?i20 ?l20 ?c20 ?k20 ?a21 ?i21 ?l21 ?c21 ?k21 ?a22 ?i22 ?l22 ?c22 ?k22 ?a23 ?i23 ?l23 ?c23 ?k23 ?a24 ?i24 ?l24 ?c24 ?h24 ?k24 ?a25 ?i25 ?l25 ?c25 ?k25 ?a26 ?i26 ?l26 ?c26 ?k26 ?a27 ?l27 ?c27 ?k27 ?a28 ?l28 ?c28 ?k28 ?pg ?hd ?po ?sa ?mk ?kc ?n0 ?n1 ?n2 ?z0 ?z1 ?z2 ?z3 ?z4 ?z5 ?z6 ?v0 ?v1 ?v2 ?v3 ?v4 ?v5 ?v6 ?v7 ?v8 ?v9 ?v10 ?v11 ?v12 ?v13 ?v14 ?v15 ?v16 ?v17 ?v18 ?v19 ?v20 ?v21 ?b0 ?e0 ?b1 ?e1
    (case aC => k_is)
    (case a0 => k_is)
    (case l0 => k_is)
    (case c0 => k_is)
    (case k0 => k_is)
    (case a1 => k_is)
    (case l1 => k_is)
    (case c1 => k_is)
    (case k1 => k_is)
    (case a2 => k_is)
    (case l2 => k_is)
    (case c2 => k_is)
    (case k2 => k_is)
    (case a3 => k_is)
    (case l3 => k_is)
    (case c3 => k_is)
    (case k3 => k_is)
    (case a4 => k_is)
    (case l4 => k_is)
    (case c4 => k_is)
    (case k4 => k_is)
    (case a5 => k_is)
    (case l5 => k_is)
    (case c5 => k_is)
    (case k5 => k_is)
    (case a6 => k_is)
    (case l6 => k_is)
    (case c6 => k_is)
    (case k6 => k_is)
    (case a7 => k_is)
    (case i7 => k_is)
    (case l7 => k_is)
    (case c7 => k_is)
    (case k7 => k_is)
    (case a8 => k_is)
    (case i8 => k_is)
    (case l8 => k_is)
    (case c8 => k_is)
    (case k8 => k_is)
    (case a9 => k_is)
    (case i9 => k_is)
    (case l9 => k_is)
    (case c9 => k_is)
    (case k9 => k_is)
    (case a10 => k_is)
    (case i10 => k_is)
    (case l10 => k_is)
    (case c10 => k_is)
    (case k10 => k_is)
    (case a11 => k_is)
    (case i11 => k_is)
    (case l11 => k_is)
    (case c11 => k_is)
    (case k11 => k_is)
    (case a12 => k_is)
    (case i12 => k_is)
    (case l12 => k_is)
    (case c12 => k_is)
    (case k12 => k_is)
    (case a13 => k_is)
    (case i13 => k_is)
    (case l13 => k_is)
    (case c13 => k_is)
    (case k13 => k_is)
    (case a14 => k_is)
    (case i14 => k_is)
    (case l14 => k_is)
    (case c14 => k_is)
    (case k14 => k_is)
    (case a15 => k_is)
    (case i15 => k_is)
    (case l15 => k_is)
    (case c15 => k_is)
    (case k15 => k_is)
    (case a16 => k_is)
    (case i16 => k_is)
    (case l16 => k_is)
    (case c16 => k_is)
    (case h16 => kernel_rfl)
    (case k16 => k_is)
    (case a17 => k_is)
    (case i17 => k_is)
    (case l17 => k_is)
    (case c17 => k_is)
    (case k17 => k_is)
    (case a18 => k_is)
    (case i18 => k_is)
    (case l18 => k_is)
    (case c18 => k_is)
    (case k18 => k_is)
    (case a19 => k_is)
    (case i19 => k_is)
    (case l19 => k_is)
    (case c19 => k_is)
    (case k19 => k_is)
    (case a20 => k_is)
    (case i20 => k_is)
    (case l20 => k_is)
    (case c20 => k_is)
    (case k20 => k_is)
    (case a21 => k_is)
    (case i21 => k_is)
    (case l21 => k_is)
    (case c21 => k_is)
    (case k21 => k_is)
    (case a22 => k_is)
    (case i22 => k_is)
    (case l22 => k_is)
    (case c22 => k_is)
    (case k22 => k_is)
    (case a23 => k_is)
    (case i23 => k_is)
    (case l23 => k_is)
    (case c23 => k_is)
    (case k23 => k_is)
    (case a24 => k_is)
    (case i24 => k_is)
    (case l24 => k_is)
    (case c24 => k_is)
    (case h24 => kernel_rfl)
    (case k24 => k_is)
    (case a25 => k_is)
    (case i25 => k_is)
    (case l25 => k_is)
    (case c25 => k_is)
    (case k25 => k_is)
    (case a26 => k_is)
    (case i26 => k_is)
    (case l26 => k_is)
    (case c26 => k_is)
    (case k26 => k_is)
    (case a27 => k_is)
    (case l27 => k_is)
    (case c27 => k_is)
    (case k27 => k_is)
    (case a28 => k_is)
    (case l28 => k_is)
    (case c28 => k_is)
    (case k28 => k_is)
    (case pg => k_is)
    (case hd => k_is)
    (case po => k_is)
    (case sa => k_is)
    (case mk => k_is)
    (case kc => k_is)
    (case n0 => k_is)
    (case n1 => k_is)
    (case n2 => k_is)
    (case z0 => k_is)
    (case z1 => k_is)
    (case z2 => k_is)
    (case z3 => k_is)
    (case z4 => k_is)
    (case z5 => k_is)
    (case z6 => k_is)
    (case v0 => k_is)
    (case v1 => k_is)
    (case v2 => k_is)
    (case v3 => k_is)
    (case v4 => k_is)
    (case v5 => k_is)
    (case v6 => k_is)
    (case v7 => k_is)
    (case v8 => k_is)
    (case v9 => k_is)
    (case v10 => k_is)
    (case v11 => k_is)
    (case v12 => k_is)
    (case v13 => k_is)
    (case v14 => k_is)
    (case v15 => k_is)
    (case v16 => k_is)
    (case v17 => k_is)
    (case v18 => k_is)
    (case v19 => k_is)
    (case v20 => k_is)
    (case v21 => k_is)
    (case b0 => k_is)
    (case e0 => k_is)
    (case b1 => k_is)
    (case e1 => k_is)
  case S =>
    intro K H0 H xs a hO hs ht hwi hask hx
    cases hx with
    | cons h1 h2 =>
      cases h2
      cases h1 with
      | lst hq ha =>
        have e := L2.ints_dw a.1 _ ha
        subst e
        have q : ((Codec.inLen 0 31000 a.1 && a.1.all (Codec.inInt 0 4294967295)) && true) = true := hwi
        rw [Bool.and_eq_true, Bool.and_eq_true] at q
        exact ⟨_, a.1, rfl, (Rg.FL.of hq hO).same hs, (Codec.inNat_iff.mp q.1.1).2, hask, ⟨.inl (ht 177 (by decide)), .inl (ht 131 (by decide))⟩, fun p H' hp => .lst (L2.SqL.of hp) (L2.dw_ints _)⟩
end
