import PyProof.Rows.All
import Wide.All
import OpenK.AllK
import Wide.FinOn
import PyProof.EqAt
import PyProof.EqKinds
import PyProof.TupleCall
import KE.BitLaws
import Open.SpecLaws
import KE.OsHead
import KE.OsGo
import KE.KSortTupG
import KE.KSortKey
import KE.KLam
import PySem.Challenge.RW_matrace_s01_answers
section
set_option Elab.async false
set_option linter.all false
set_option maxRecDepth 100000
/-! THE HAND LAYER, for ints, bools, texts, own classes, lists, tuples, dicts, comprehensions, walks over dicts, enumerate, zip, reversed, texts, calls, loops. Paste it whole ahead of your own text; what your proof does not reach may be deleted. -/
namespace L2
open PySem PySem.Spec PyProof.Rows

/-- a key: an int or a str -/
abbrev Key := Sum Int Str
def keyIs : Key → Value → Bool
  | .inl k, v => Value.isInt k v
  | .inr x, v => Value.isStrOf x v
def keyH (w : World) : Key → Int
  | .inl k => hashInt k
  | .inr x => hashStr w x
theorem keyIs_shape : ∀ {k : Key} {v : Value}, keyIs k v = true → (∃ i t, k = Sum.inl i ∧ v = Value.int i t) ∨ (∃ x t, k = Sum.inr x ∧ v = Value.str x t)
  | .inl i, v, h => by
    obtain ⟨t, e⟩ := Value.isInt_shape (k := i) (v := v) h
    exact .inl ⟨i, t, rfl, e⟩
  | .inr x, v, h => by
    obtain ⟨t, e⟩ := Value.isStrOf_shape (x := x) (v := v) h
    exact .inr ⟨x, t, rfl, e⟩
theorem keyIs_int (i : Int) (t : Tok) : keyIs (.inl i) (.int i t) = true := by simp [keyIs, Value.isInt]
theorem keyIs_str (x : Str) (t : Tok) : keyIs (.inr x) (.str x t) = true := by simp [keyIs, Value.isStrOf]
theorem key_ll (a b : Int) : decide ((Sum.inl a : Key) = Sum.inl b) = (a == b) := by
  by_cases e : a = b
  · subst e; simp
  · have h : ¬ (Sum.inl a : Key) = Sum.inl b := fun q => e (Sum.inl.inj q)
    rw [decide_eq_false h]
    exact (beq_eq_false_iff_ne.mpr e).symm
theorem key_rr (a b : Str) : decide ((Sum.inr a : Key) = Sum.inr b) = decide (a = b) := by
  by_cases e : a = b
  · subst e; simp
  · have h : ¬ (Sum.inr a : Key) = Sum.inr b := fun q => e (Sum.inr.inj q)
    rw [decide_eq_false h, decide_eq_false e]
theorem key_lr (a : Int) (b : Str) : decide ((Sum.inl a : Key) = Sum.inr b) = false := decide_eq_false (fun q => nomatch q)
theorem key_rl (a : Str) (b : Int) : decide ((Sum.inr a : Key) = Sum.inl b) = false := decide_eq_false (fun q => nomatch q)

def mixKind (prog : Program) (w : World) : PySem.KeyKind prog w Key where
  is := keyIs
  hash := keyH w
  inj := fun v a b ha hb => by
    rcases keyIs_shape ha with ⟨i, t, rfl, rfl⟩ | ⟨x, t, rfl, rfl⟩
    · rcases keyIs_shape hb with ⟨j, u, rfl, e⟩ | ⟨y, u, rfl, e⟩
      · injection e with e1 _; rw [e1]
      · exact nomatch e
    · rcases keyIs_shape hb with ⟨j, u, rfl, e⟩ | ⟨y, u, rfl, e⟩
      · exact nomatch e
      · injection e with e1 _; rw [e1]
  byValue := fun k v h => by
    rcases keyIs_shape h with ⟨i, t, rfl, rfl⟩ | ⟨x, t, rfl, rfl⟩ <;> rfl
  pyHash := fun hv h => by
    rcases keyIs_shape hv with ⟨i, t, rfl, rfl⟩ | ⟨x, t, rfl, rfl⟩
    · exact wpAny_pyHash_int h
    · exact wpAny_pyHash_str h
  eqBool := fun hu hv h => by
    rcases keyIs_shape hu with ⟨i, t, rfl, rfl⟩ | ⟨x, t, rfl, rfl⟩
    · rcases keyIs_shape hv with ⟨j, u, rfl, rfl⟩ | ⟨y, u, rfl, rfl⟩
      · rw [key_ll] at h; exact wpAny_eqBool_int h
      · rw [key_lr] at h; exact SeqAt.EqAt.int_str i t y u _ _ _ _ h
    · rcases keyIs_shape hv with ⟨j, u, rfl, rfl⟩ | ⟨y, u, rfl, rfl⟩
      · rw [key_rl] at h; exact SeqAt.EqAt.str_int x t j u _ _ _ _ h
      · rw [key_rr] at h; exact wpAny_eqBool_str h
  «strs» := fun k x t v h => by
    rcases keyIs_shape h with ⟨i, u, rfl, e⟩ | ⟨y, u, rfl, e⟩
    · exact nomatch e
    · injection e with e1 _
      subst e1
      cases v <;> rfl

theorem mixKind_int (prog : Program) (w : World) (i : Int) (t : Tok) : (mixKind prog w).is (.inl i) (.int i t) = true := keyIs_int i t
theorem mixKind_str (prog : Program) (w : World) (x : Str) (t : Tok) : (mixKind prog w).is (.inr x) (.str x t) = true := keyIs_str x t
end L2

namespace L2
open PySem PySem.Spec PyProof.Rows

/-- a value, without the heap -/
inductive V where
  | non | bl (b : Bool) | int (i : Int) | str (x : Str) | byt (b : Array UInt8) | flt (b : UInt64) | ref (a : Addr) | ty (n : String)
  deriving DecidableEq

def RelV : V → Value → Prop
  | .non, u => u = Value.none
  | .bl b, u => u = Value.bool b
  | .int i, u => ∃ t, u = Value.int i t
  | .str x, u => ∃ t, u = Value.str x t
  | .byt b, u => ∃ t, u = Value.bytes b t
  | .flt b, u => ∃ t, u = Value.float b t
  | .ref a, u => u = Value.ref a
  | .ty n, u => u = Value.type n

abbrev Vals : List V → List Value → Prop := Paired RelV
theorem Vals.length {xs : List V} {us : List Value} (r : Vals xs us) : xs.length = us.length := Paired.length r
theorem Vals.get : ∀ {xs : List V} {us : List Value} {i : Nat} {x : V}, Vals xs us → xs[i]? = some x → ∃ u, us[i]? = some u ∧ RelV x u
  | _, _, _, _, .nil, e => by simp at e
  | _, _, 0, _, .cons r _, e => by simp at e; subst e; exact ⟨_, rfl, r⟩
  | _, _, i + 1, x, .cons _ t, e => by
    obtain ⟨u, h1, h2⟩ := Vals.get (i := i) (x := x) t (by simpa using e)
    exact ⟨u, by simpa using h1, h2⟩
theorem Vals.append : ∀ {xs ys : List V} {us ws : List Value}, Vals xs us → Vals ys ws → Vals (xs ++ ys) (us ++ ws)
  | _, _, _, _, .nil, s => s
  | _, _, _, _, .cons r t, s => .cons r (Vals.append t s)
theorem Vals.take : ∀ {xs : List V} {us : List Value} (n : Nat), Vals xs us → Vals (xs.take n) (us.take n)
  | _, _, 0, _ => .nil
  | _, _, _ + 1, .nil => .nil
  | _, _, n + 1, .cons r t => .cons r (Vals.take n t)
theorem Vals.drop : ∀ {xs : List V} {us : List Value} (n : Nat), Vals xs us → Vals (xs.drop n) (us.drop n)
  | _, _, 0, r => r
  | _, _, _ + 1, .nil => .nil
  | _, _, n + 1, .cons _ t => Vals.drop n t

def RelO : Option V → Option Value → Prop
  | some v, some u => RelV v u
  | none, none => True
  | _, _ => False
def KV {κ : Type} : List (κ × V) → List (κ × Value) → Prop := Paired fun (p : κ × V) (q : κ × Value) => p.1 = q.1 ∧ RelV p.2 q.2

/-- a key of a dict (00_mix): an int or a text -/
def kV : Key → V
  | .inl i => .int i
  | .inr x => .str x

/-- what stands at a tracked address -/
inductive HO where
  /-- a list -/
  | lst (xs : List V)
  /-- a tuple (never changes) -/
  | tup (xs : List V)
  /-- a dict whose keys are ints and texts; one whose keys are tuples of ints and texts (the empty one is both) -/
  | dK (kvs : List (Key × V)) | dT (kvs : List (List Key × V))
  /-- a set of ints: its members, its size -/
  | set (S : Int → Bool) (n : Nat)
  /-- an instance of the class at C, its dict at dx, its attributes -/
  | ins (C dx : Addr) (fs : List (Str × V))
  /-- the dict of the instance at x -/
  | own (x : Addr)
  /-- the dict of an exception -/
  | xd (fs : List (Str × V))
  /-- a bound method, f of x -/
  | met (f x : Addr)
  /-- a range object lo, lo + 1, .. below hi -/
  | rng (lo hi : Int)
  /-- a thing that is known to the object (the script; a dict while a loop walks it): read, never written while it is so -/
  | frz (o : Obj) (u : HO)
  /-- a code object's table -/
  | tbl (ps : Array Value)
  /-- any other thing, by what is true of its one object (a def of one's own: SetO a S n := HO.ext fun h => ..) -/
  | ext (φ : Heap → Prop)

abbrev Hp := Addr → Option HO
def upd (H : Hp) (a : Addr) (o : HO) : Hp := fun b => if b = a then some o else H b
theorem upd_same {H : Hp} {a : Addr} {o : HO} : upd H a o a = some o := by unfold upd; rw [if_pos rfl]
theorem upd_ne {H : Hp} {a b : Addr} {o : HO} (h : b ≠ a) : upd H a o b = H b := by unfold upd; rw [if_neg h]
theorem upd_upd {H : Hp} {a : Addr} {o u : HO} : upd (upd H a o) a u = upd H a u := by
  funext b; unfold upd; split <;> rfl
/-- two objects of different content stand apart -/
theorem ne_of {H : Hp} {a b : Addr} {o u : HO} (h : H a = some o) (h' : H b = some u) (d : o ≠ u) : a ≠ b := by
  intro e; subst e; rw [h] at h'; exact d (Option.some.inj h')
theorem ne_of_none {H : Hp} {a b : Addr} {o : HO} (h : H a = some o) (h' : H b = none) : a ≠ b := by
  intro e; subst e; rw [h] at h'; cases h'

section
variable (P : Program) (w : World)
def ObjOk (H : Hp) (h : Heap) (a : Addr) : HO → Prop
  | .lst xs => xs.length ≤ sizeLine ∧ ∃ (its : List Value) (n : Nat), Vals xs its ∧ h.get? a = some { cls := .type "list", data := .seq its.toArray n }
  | .tup xs => xs.length ≤ sizeLine ∧ ∃ its : List Value, Vals xs its ∧ IsTup h a its.toArray
  | .dK kvs => kvs.length ≤ sizeLine ∧ (a == sysModules) = false ∧ ∃ vs, KV kvs vs ∧ h.DictOf (mixKind P w) a vs
  | .dT kvs => kvs.length ≤ sizeLine ∧ (a == sysModules) = false ∧ ∃ xs : List (List Key × Addr × Value),
      Paired (fun (p : List Key × V) (q : List Key × Addr × Value) => p.1 = q.1 ∧ H q.2.1 = some (.tup (p.1.map kV)) ∧ RelV p.2 q.2.2) kvs xs ∧
      ∃ o es ep, h.get? a = some o ∧ o.ExactDict ∧ o.data = .dict es ep ∧ es.toList = xs.map (entryOfKey (tupleKind (mixKind P w))) ∧ (xs.map (·.1)).Nodup
  | .set S n => h.SetOf (intKind P w) a S n
  | .ins C dx fs => H dx = some (.own a) ∧ fs.length ≤ 1000 ∧ dx ≠ a ∧ h.get? a = some (PySem.W.instObj C dx) ∧
      ∃ mA, h.Ns1 dx mA ∧ (∀ f, RelO (fs.lookup f) (mA f)) ∧ PySem.Within mA (fs.map (·.1))
  | .own _ => ∃ o, h.get? a = some o
  | .xd fs => ∃ mA, h.Ns1 a mA ∧ ∀ f, RelO (fs.lookup f) (mA f)
  | .rng lo hi => ∃ t u v, h.get? a = some { cls := .type "range", data := .fields #[.int lo t, .int hi u, .int 1 v] }
  | .frz o u => h.get? a = some o ∧ ObjOk H h a u
  | .tbl ps => h.get? a = some { cls := .none, data := .fields ps }
  | .met f x => h.get? a = some (PySem.W.methodObj (.ref f) (.ref x))
  | .ext φ => φ h ∧ (∃ o, h.get? a = some o) ∧ ∀ h1 h2 : Heap, φ h1 → (∀ o, h1.get? a = some o → h2.get? a = some o) → φ h2
/-- the abstract heap is held -/
def HOk (H : Hp) (h : Heap) : Prop := ∀ a o, H a = some o → ObjOk P w H h a o
end

section
variable {P : Program} {w : World} {H H' : Hp} {h h' : Heap} {a : Addr} {o : HO}
theorem ObjOk.lt (x : ObjOk P w H h a o) : a < h.objs.size := by
  cases o with
  | lst xs => obtain ⟨_, _, _, _, e⟩ := x; exact Heap.lt_size e
  | tup xs => obtain ⟨_, _, _, p⟩ := x; exact p.lt
  | dK kvs => obtain ⟨_, _, _, _, o, _, _, e, _⟩ := x; exact Heap.lt_size e
  | dT kvs => obtain ⟨_, _, _, _, o, _, _, e, _⟩ := x; exact Heap.lt_size e
  | set S n => obtain ⟨o, _, _, _, e, _⟩ := x; exact Heap.lt_size e
  | ins C dx fs => obtain ⟨_, _, _, e, _⟩ := x; exact Heap.lt_size e
  | own y => obtain ⟨_, e⟩ := x; exact Heap.lt_size e
  | xd fs => obtain ⟨_, ⟨_, _, _, e, _⟩, _⟩ := x; exact Heap.lt_size e
  | rng lo hi => obtain ⟨_, _, _, e⟩ := x; exact Heap.lt_size e
  | frz ob u => obtain ⟨e, _⟩ := x; exact Heap.lt_size e
  | tbl ps => exact Heap.lt_size (show h.get? a = some _ from x)
  | met f y => exact Heap.lt_size (show h.get? a = some _ from x)
  | ext φ => obtain ⟨_, ⟨_, e⟩, _⟩ := x; exact Heap.lt_size e
theorem Paired.mapP {α β : Type} {F G : α → β → Prop} : ∀ {l₁ : List α} {l₂ : List β}, Paired F l₁ l₂ → (∀ a b, F a b → G a b) → Paired G l₁ l₂
  | _, _, .nil, _ => .nil
  | _, _, .cons r t, f => .cons (f _ _ r) (Paired.mapP t f)
/-- what an object's description leans on: its own object, its own dict, the tuples -/
theorem ObjOk.stay (x : ObjOk P w H h a o) (k : ∀ b u, (b = a ∨ H b = some (.own a)) → h.get? b = some u → h'.get? b = some u)
    (ho : ∀ b, H b = some (.own a) → H' b = some (.own a)) (ht : ∀ b xs, H b = some (.tup xs) → H' b = some (.tup xs)) : ObjOk P w H' h' a o := by
  induction o with
  | lst xs => obtain ⟨z, its, n, r, e⟩ := x; exact ⟨z, its, n, r, k _ _ (.inl rfl) e⟩
  | tup xs => obtain ⟨z, its, r, ob, e, c⟩ := x; exact ⟨z, its, r, ob, k _ _ (.inl rfl) e, c⟩
  | dK kvs => obtain ⟨z, y, vs, r, ob, es, ep, e, c⟩ := x; exact ⟨z, y, vs, r, ob, es, ep, k _ _ (.inl rfl) e, c⟩
  | dT kvs =>
    obtain ⟨z, y, xs, r, ob, es, ep, e, c⟩ := x
    exact ⟨z, y, xs, Paired.mapP r fun p q z => ⟨z.1, ht _ _ z.2.1, z.2.2⟩, ob, es, ep, k _ _ (.inl rfl) e, c⟩
  | set S n => obtain ⟨ob, es, ep, t, e, c⟩ := x; exact ⟨ob, es, ep, t, k _ _ (.inl rfl) e, c⟩
  | ins C dx fs =>
    obtain ⟨d, z, ne, e, mA, ⟨od, es, ep, e2, c⟩, r⟩ := x
    exact ⟨ho _ d, z, ne, k _ _ (.inl rfl) e, mA, ⟨od, es, ep, k _ _ (.inr d) e2, c⟩, r⟩
  | own y => obtain ⟨ob, e⟩ := x; exact ⟨ob, k _ _ (.inl rfl) e⟩
  | xd fs => obtain ⟨mA, ⟨od, es, ep, e, c⟩, r⟩ := x; exact ⟨mA, ⟨od, es, ep, k _ _ (.inl rfl) e, c⟩, r⟩
  | rng lo hi => obtain ⟨t, u, v, e⟩ := x; exact ⟨t, u, v, k _ _ (.inl rfl) e⟩
  | frz ob u ih => obtain ⟨e, q⟩ := x; exact ⟨k _ _ (.inl rfl) e, ih q⟩
  | tbl ps =>
    have e : h.get? a = some { cls := .none, data := .fields ps } := x
    show h'.get? a = some { cls := .none, data := .fields ps }
    exact k a _ (.inl rfl) e
  | met f y =>
    have e : h.get? a = some (PySem.W.methodObj (.ref f) (.ref y)) := x
    show h'.get? a = some (PySem.W.methodObj (.ref f) (.ref y))
    exact k a _ (.inl rfl) e
  | ext φ => obtain ⟨p, ⟨o, e⟩, st⟩ := x; exact ⟨st _ _ p fun o q => k _ _ (.inl rfl) q, ⟨o, k _ _ (.inl rfl) e⟩, st⟩
theorem HOk.lt (x : HOk P w H h) (e : H a = some o) : a < h.objs.size := (x a o e).lt
theorem HOk.fresh (x : HOk P w H h) (e : h.objs.size ≤ a) : H a = none := by
  cases q : H a with
  | none => rfl
  | some u => exact absurd (Nat.lt_of_lt_of_le (x.lt q) e) (Nat.lt_irrefl _)
/-- every object of the heap is kept -/
theorem HOk.kept (x : HOk P w H h) (k : ∀ b u, h.get? b = some u → h'.get? b = some u) : HOk P w H h' := fun a o e =>
  (x a o e).stay (fun b u _ q => k b u q) (fun _ q => q) fun _ _ q => q
/-- a new object is laid and tracked -/
theorem HOk.laid (x : HOk P w H h) (k : ∀ b u, h.get? b = some u → h'.get? b = some u) (hp : h.objs.size ≤ a) (new : ObjOk P w (upd H a o) h' a o) : HOk P w (upd H a o) h' := fun b u e => by
  have hn := x.fresh hp
  by_cases hb : b = a
  · subst hb; rw [upd_same] at e; cases e; exact new
  · rw [upd_ne hb] at e
    exact (x b u e).stay (fun c v _ q => k c v q) (fun c q => by rw [upd_ne (ne_of_none q hn)]; exact q) fun c xs q => by rw [upd_ne (ne_of_none q hn)]; exact q
end

/-- what may be read as u: it is u, or a known u -/
def Rd (H : Hp) (a : Addr) (u : HO) : Prop := H a = some u ∨ ∃ o, H a = some (.frz o u)
theorem Rd.ok {P : Program} {w : World} {H : Hp} {h : Heap} {a : Addr} {u : HO} (r : Rd H a u) (x : HOk P w H h) : ObjOk P w H h a u := by
  rcases r with r | ⟨o, r⟩
  · exact x a u r
  · obtain ⟨_, q⟩ := x a _ r
    exact q
/-- what may be written -/
def Mut : Option HO → Prop
  | some (.lst _) => True
  | some (.dK _) => True
  | some (.dT _) => True
  | some (.set _ _) => True
  | some (.ins _ _ _) => True
  | some (.ext _) => True
  | _ => False
section
variable {P : Program} {w : World} {H : Hp} {h h' : Heap} {x e : Addr} {o' : HO}
/-- the object at e is changed: x itself, or the dict of the instance x -/
theorem HOk.write (ok : HOk P w H h) (mu : Mut (H x)) (he : e = x ∨ H e = some (.own x)) (k : ∀ b u, b ≠ e → h.get? b = some u → h'.get? b = some u) (heo : ∃ u, h'.get? e = some u)
    (new : ObjOk P w (upd H x o') h' x o') : HOk P w (upd H x o') h' := fun b u q => by
  have nown : ∀ c y, H c = some (.own y) → c ≠ x := fun c y r z => by subst z; rw [r] at mu; exact mu
  have ntup : ∀ c xs, H c = some (.tup xs) → c ≠ x := fun c xs r z => by subst z; rw [r] at mu; exact mu
  by_cases hb : b = x
  · subst hb; rw [upd_same] at q; cases q; exact new
  · rw [upd_ne hb] at q
    by_cases hbe : b = e
    · have q' : H b = some (.own x) := by
        rcases he with z | z
        · exact absurd (hbe.trans z) hb
        · rw [hbe]; exact z
      rw [q] at q'; cases q'
      obtain ⟨v, hv⟩ := heo
      exact ⟨v, by rw [hbe]; exact hv⟩
    · refine (ok b u q).stay (fun c v hc r => k c v ?_ r) (fun c r => by rw [upd_ne (nown c b r)]; exact r) fun c xs r => by rw [upd_ne (ntup c xs r)]; exact r
      rcases hc with rfl | hc
      · exact hbe
      · rintro rfl
        rcases he with z | z
        · exact nown c b hc z
        · rw [hc] at z; cases z; exact hb rfl
end

/-! ### kept unless tracked; of the frames at fs (the callers') the slots may change (an exception that passes writes there); of the records at ex (iterators) nothing is said -/
structure Un (fs ex : List Addr) (H H' : Hp) (h h' : Heap) : Prop where
  keep : ∀ b o, h.get? b = some o → H b = none → b ∉ fs → b ∉ ex → h'.get? b = some o
  slot : ∀ b o, h.get? b = some o → H b = none → b ∈ fs → b ∉ ex → ∃ sl, h'.get? b = some { o with slots := sl }
  free : ∀ b o, h.get? b = some o → H b = none → b ∉ ex → H' b = none
  there : ∀ b o, h.get? b = some o → b ∉ ex → ∃ o', h'.get? b = some o'
  tups : ∀ b xs, H b = some (.tup xs) → H' b = some (.tup xs)
  frzs : ∀ b o u, H b = some (.frz o u) → H' b = some (.frz o u)
  tbls : ∀ b ps, H b = some (.tbl ps) → ∃ more, H' b = some (.tbl (ps ++ more))
section
variable {fs fs' ex ex' : List Addr} {H H1 H2 : Hp} {h h1 h2 h' : Heap} {a x e : Addr} {o : HO}
theorem Un.any (u : Un fs ex H H1 h h1) {b : Addr} {ob : Obj} (q : h.get? b = some ob) (n : H b = none) (hx : b ∉ ex) : ∃ sl, h1.get? b = some { ob with slots := sl } := by
  by_cases hb : b ∈ fs
  · exact u.slot b ob q n hb hx
  · exact ⟨ob.slots, u.keep b ob q n hb hx⟩
theorem Un.kept (k : ∀ b u, h.get? b = some u → h'.get? b = some u) : Un fs ex H H h h' :=
  ⟨fun b ob q _ _ _ => k b ob q, fun b ob q _ _ _ => ⟨ob.slots, k b ob q⟩, fun _ _ _ n _ => n, fun b ob q _ => ⟨ob, k b ob q⟩, fun _ _ q => q, fun _ _ _ q => q, fun _ ps q => ⟨#[], by rw [q]; simp⟩⟩
theorem Un.refl : Un fs ex H H h h := Un.kept fun _ _ q => q
theorem Un.laid (k : ∀ b u, h.get? b = some u → h'.get? b = some u) (hp : h.objs.size ≤ a) (hn : H a = none) : Un fs ex H (upd H a o) h h' where
  keep := fun b u q _ _ _ => k b u q
  slot := fun b u q _ _ _ => ⟨u.slots, k b u q⟩
  free := fun b u q n _ => by rw [upd_ne (Nat.ne_of_lt (Nat.lt_of_lt_of_le (Heap.lt_size q) hp))]; exact n
  there := fun b u q _ => ⟨u, k b u q⟩
  tups := fun b xs q => by rw [upd_ne (ne_of_none q hn)]; exact q
  frzs := fun b u xs q => by rw [upd_ne (ne_of_none q hn)]; exact q
  tbls := fun b ps q => ⟨#[], by rw [upd_ne (ne_of_none q hn), q]; simp⟩
theorem Un.write (mu : Mut (H x)) (he : e = x ∨ H e = some (.own x)) (k : ∀ b u, b ≠ e → h.get? b = some u → h'.get? b = some u) (heo : ∃ u, h'.get? e = some u) : Un fs ex H (upd H x o) h h' := by
  have hx : ∀ b, H b = none → b ≠ x := fun b n z => by subst z; rw [n] at mu; exact mu
  have hb : ∀ b, H b = none → b ≠ e := fun b n z => by
    subst z
    rcases he with r | r
    · exact hx b n r
    · rw [n] at r; cases r
  have hm : ∀ b u, H b = some u → ¬ Mut (some u) → b ≠ x := fun b u q nm z => by subst z; rw [q] at mu; exact nm mu
  refine ⟨fun b u q n _ _ => k b u (hb b n) q, fun b u q n _ _ => ⟨u.slots, k b u (hb b n) q⟩, fun b u q n _ => by rw [upd_ne (hx b n)]; exact n, fun b u q _ => ?_,
    fun b xs q => by rw [upd_ne (hm b _ q fun z => z)]; exact q, fun b u xs q => by rw [upd_ne (hm b _ q fun z => z)]; exact q, fun b ps q => ⟨#[], by rw [upd_ne (hm b _ q fun z => z), q]; simp⟩⟩
  by_cases hbe : b = e
  · subst hbe; exact heo
  · exact ⟨u, k b u hbe q⟩
end

/-! ### the heap without what is tracked -/
def trk (h : Heap) (H : Hp) : List Addr := (List.range h.objs.size).filter fun a => (H a).isSome
def hidT (h : Heap) (H : Hp) : Heap := PySem.W.hideAll h (trk h H)
theorem hidT_size (h : Heap) (H : Hp) : (hidT h H).objs.size = h.objs.size := PySem.W.hideAll_size _ _
theorem hidT_get {h : Heap} {H : Hp} {b : Addr} {o : Obj} (e : h.get? b = some o) (n : H b = none) : (hidT h H).get? b = some o :=
  PySem.W.hideAll_get _ e fun hm => by
    have q : (H b).isSome = true := (List.mem_filter.mp hm).2
    rw [n] at q; simp at q
theorem of_hidT {h : Heap} {H : Hp} {b : Addr} {o : Obj} (e : (hidT h H).get? b = some o) : h.get? b = some o ∧ H b = none := by
  have e' : h.get? b = some o := PySem.W.of_hideAll (trk h H) e
  refine ⟨e', ?_⟩
  cases q : H b with
  | none => rfl
  | some x =>
    have hm : b ∈ trk h H := List.mem_filter.mpr ⟨List.mem_range.mpr (Heap.lt_size e'), by simp [q]⟩
    have z : (hidT h H).get? b = none := PySem.W.hideAll_none (trk h H) hm
    rw [z] at e; cases e

/-! ### OpenK's ledger, filled with every new object but one -/
end L2

namespace L2
open PySem PySem.Spec PyProof.Rows

/-- the module's facts, over the base: the heap at the law's entry without what is tracked there -/
structure Mod (K : PySem.W.Frag) (mg : Str → Option Value) (base : Heap) : Prop where
  kin : K.In base
  glob : base.Ns mainGlobals mg
  blt : ∃ mb, base.Ns builtinsNs mb ∧ ∀ x : Str, x ≠ "__name__" → mb x = bootBuiltins x
  nolimit : base.NoLimit

/-- the context: a def's body (or a comprehension's block) running. base: fixed through the whole law; s₀, H₀: the entry; outer: the frames whose slots others may change (a def's callers); stack: all frames that run;
   ex: iterators that were made ahead of the entry and are walked here (a comprehension's); fn: the names whose cells were made at the entry (a def: all; a comprehension's block: its own); calm: not within an except suite; pn: pins that every state bears; xe: what is wanted of an exception that leaves the code -/
structure Cx where
  prog : Program
  w : World
  K : PySem.W.Frag
  mg : Str → Option Value
  base : Heap
  A : Around
  N : List Str
  s_0 : Shared
  H_0 : Hp
  env : Env
  outer : List Env
  stack : List Env
  ex : List Addr
  fn : Str → Bool
  calm : Bool
  pn : List (Addr × Obj)
  xe : Value → Shared → Prop
/-- the callers' frames -/
def frs (l : List Env) : List Addr := l.filterMap (·.frame)
abbrev Cx.fs (X : Cx) : List Addr := frs X.outer

def Vis (sc : Scope) (x : Str) : Prop := sc.names.lookup x = some .local ∨ sc.names.lookup x = some .cell ∨ sc.names.lookup x = some .free
def Loc (sc : Scope) (x : Str) : Prop := sc.names.lookup x = some .local ∨ sc.names.lookup x = some .cell
def Look (env : Env) (h : Heap) (m : Str → Option Value) (x : Str) (u : Value) : Prop :=
  (env.kindOf x = some .local ∧ m x = some u) ∨ ((env.kindOf x = some .cell ∨ env.kindOf x = some .free) ∧ ∃ c, env.cells.lookup x = some c ∧ h.IsCell c (some u))

structure Cx.Ok (X : Cx) : Prop where
  mod : Mod X.K X.mg X.base
  kind : X.env.scope.kind = .function
  glob : X.env.globals = mainGlobals
  blt : X.env.builtins = builtinsNs
  above : X.s_0.heap.objs.size ≤ X.env.locals
  inj : ∀ x y c, X.env.cells.lookup x = some c → X.env.cells.lookup y = some c → x = y
  has : ∀ x, (X.env.kindOf x = some .cell ∨ X.env.kindOf x = some .free) → ∃ c, X.env.cells.lookup x = some c
  cab : ∀ x c, X.fn x = true → X.env.cells.lookup x = some c → X.s_0.heap.objs.size ≤ c
  hd : X.calm = true → X.A.handled = none
  frames : X.A.frames = some X.stack
  stk : X.stack = X.outer ∨ (X.stack = X.env :: X.outer ∧ X.env.frame = some X.env.locals)
  exf : ∀ b ∈ X.ex, b ≠ X.env.locals ∧ ∀ x c, X.env.cells.lookup x = some c → c ≠ b
  bs : ∀ b o, X.base.get? b = some o → X.s_0.heap.get? b = some o ∧ X.H_0 b = none
  bsz : X.base.objs.size ≤ X.s_0.heap.objs.size
  noex : ∀ b o, X.base.get? b = some o → b ∉ X.ex
  exfs : ∀ b ∈ X.ex, b ∉ X.fs
  funs : X.s_0.heap.FunFrames X.base X.outer
  frf : ∀ b ∈ X.fs, X.H_0 b = none

structure Inv (X : Cx) (pins : List (Addr × Obj)) (σ : List (Option V)) (H : Hp) (s : Shared) : Prop where
  ok : X.Ok
  os : s.os = X.s_0.os
  bare : AllBare s.gens
  base : Un X.fs X.ex X.H_0 H X.s_0.heap s.heap
  loc : ∃ m, s.heap.Ns X.env.locals m ∧ ∀ (i : Nat) (x : Str) (v : V), X.N[i]? = some x → σ[i]? = some (some v) → Vis X.env.scope x → ∃ u, RelV v u ∧ Look X.env s.heap m x u
  cell : ∀ x c, X.env.cells.lookup x = some c → ∃ v, s.heap.IsCell c v
  free : H X.env.locals = none
  freeC : ∀ x c, X.env.cells.lookup x = some c → H c = none
  pin : ∀ p ∈ X.pn ++ pins, s.heap.get? p.1 = some p.2 ∧ H p.1 = none ∧ p.1 ≠ X.env.locals ∧ p.1 ∉ X.fs ∧ ∀ v, p.2.data ≠ .cell v
  hok : HOk X.prog X.w H s.heap
  len : σ.length = X.N.length

section
variable {X : Cx} {pins : List (Addr × Obj)} {σ : List (Option V)} {H H' : Hp} {s : Shared} {h' : Heap}

theorem Cx.Ok.nofr (ok : X.Ok) {b : Addr} {o : Obj} (e : X.base.get? b = some o) : b ∉ X.fs := fun hb => by
  have := (ok.funs.mem hb).1
  rw [e] at this; cases this
theorem Inv.bs (I : Inv X pins σ H s) : ∀ b o, X.base.get? b = some o → s.heap.get? b = some o ∧ H b = none := fun b o e =>
  ⟨I.base.keep b o (I.ok.bs b o e).1 (I.ok.bs b o e).2 (I.ok.nofr e) (I.ok.noex b o e), I.base.free b o (I.ok.bs b o e).1 (I.ok.bs b o e).2 (I.ok.noex b o e)⟩
theorem Inv.bk (I : Inv X pins σ H s) : ∀ b o, X.base.get? b = some o → s.heap.get? b = some o := fun b o e => (I.bs b o e).1
theorem Inv.mod (I : Inv X pins σ H s) : Mod X.K X.mg X.base := I.ok.mod
theorem Inv.kIn (I : Inv X pins σ H s) : X.K.In s.heap := I.ok.mod.kin.keeps I.bk
theorem Inv.nolimit (I : Inv X pins σ H s) : s.heap.NoLimit := I.ok.mod.nolimit.keeps I.bk
theorem Inv.lt (I : Inv X pins σ H s) : X.env.locals < s.heap.objs.size := let ⟨_, hn, _⟩ := I.loc; hn.lt
theorem Inv.sz (I : Inv X pins σ H s) : X.s_0.heap.objs.size ≤ s.heap.objs.size := Nat.le_trans I.ok.above (Nat.le_of_lt I.lt)
theorem Inv.nofs (I : Inv X pins σ H s) {a : Addr} (h : s.heap.objs.size ≤ a) : a ∉ X.fs := fun hb => by
  obtain ⟨_, o, ho, _⟩ := I.ok.funs.mem hb
  exact absurd (Nat.lt_of_lt_of_le (Heap.lt_size ho) (Nat.le_trans I.sz h)) (Nat.lt_irrefl _)
theorem Inv.cne (I : Inv X pins σ H s) : ∀ x c, X.env.cells.lookup x = some c → c ≠ X.env.locals := fun x c e z => by
  obtain ⟨v, o, ho, hd⟩ := I.cell x c e
  obtain ⟨m, ⟨o', es, ep, ho', hd', _⟩, _⟩ := I.loc
  rw [z, ho'] at ho; cases ho; rw [hd'] at hd; cases hd
theorem Inv.funs (I : Inv X pins σ H s) : s.heap.FunFrames X.base X.outer := by
  have all : ∀ (l : List Env), (∀ b ∈ frs l, b ∈ X.fs) → X.s_0.heap.FunFrames X.base l → s.heap.FunFrames X.base l := by
    intro l
    induction l with
    | nil => intro _ _; trivial
    | cons env r ih =>
      intro hs hl
      obtain ⟨hk, ⟨L, o, hf, hn, ho, hd⟩, hr⟩ := hl
      have hL : L ∈ X.fs := hs L (by unfold frs; rw [List.filterMap_cons, hf]; exact List.mem_cons_self)
      obtain ⟨sl, e⟩ := I.base.slot L o ho (I.ok.frf L hL) hL fun z => I.ok.exfs L z hL
      exact ⟨hk, ⟨L, _, hf, hn, e, hd⟩, ih (fun b hb => hs b (by unfold frs; rw [List.filterMap_cons, hf]; exact List.mem_cons_of_mem _ hb)) hr⟩
  exact all X.outer (fun _ hb => hb) I.ok.funs

/-- the frames that run, for a call -/
theorem Inv.stack (I : Inv X pins σ H s) : s.heap.FunFrames X.base X.stack := by
  rcases I.ok.stk with e | ⟨e, hf⟩
  · rw [e]; exact I.funs
  · rw [e]
    obtain ⟨m, hn, _⟩ := I.loc
    refine .cons (by rw [I.ok.kind]; decide) hf hn ?_ I.funs
    exact Heap.get?_none_of_le (Nat.le_trans I.ok.bsz I.ok.above)
theorem Inv.stkSub (I : Inv X pins σ H s) : ∀ b ∈ frs X.stack, b ∈ X.env.locals :: X.fs := fun b hb => by
  rcases I.ok.stk with e | ⟨e, hf⟩
  · rw [e] at hb; exact List.mem_cons_of_mem _ hb
  · rw [e] at hb
    unfold frs at hb
    rw [List.filterMap_cons, hf] at hb
    exact hb
theorem Inv.stkFree (I : Inv X pins σ H s) : ∀ b ∈ frs X.stack, H b = none := fun b hb => by
  rcases List.mem_cons.mp (I.stkSub b hb) with e | hb
  · rw [e]; exact I.free
  · obtain ⟨_, o, ho, _⟩ := I.ok.funs.mem hb
    exact I.base.free b o ho (I.ok.frf b hb) fun z => I.ok.exfs b z hb

/-- THE STEP: the untracked objects but the frame and the records at ch are kept (the callers' frames up to slots), the frame's map is kept, the new abstract heap is held -/
theorem Inv.step {g' : Array GenState} {t' : Nat} {d' : Drawn} {ch : List Addr} (I : Inv X pins σ H s)
    (hch : ∀ b ∈ ch, (b ∈ X.ex ∨ X.s_0.heap.objs.size ≤ b) ∧ b ≠ X.env.locals ∧ (∀ x c, X.env.cells.lookup x = some c → c ≠ b) ∧ ∀ p ∈ X.pn ++ pins, p.1 ≠ b)
    (keep : ∀ b o, b ≠ X.env.locals → b ∉ X.fs → b ∉ ch → s.heap.get? b = some o → H b = none → h'.get? b = some o)
    (slot : ∀ b o, b ≠ X.env.locals → b ∈ X.fs → b ∉ ch → s.heap.get? b = some o → H b = none → ∃ sl, h'.get? b = some { o with slots := sl }) (free : ∀ b o, b ∉ ch → s.heap.get? b = some o → H b = none → H' b = none)
    (there : ∀ b o, b ∉ ch → s.heap.get? b = some o → ∃ o', h'.get? b = some o')
    (tups : ∀ b xs, H b = some (.tup xs) → H' b = some (.tup xs)) (frzs : ∀ b o u, H b = some (.frz o u) → H' b = some (.frz o u)) (tbls : ∀ b ps, H b = some (.tbl ps) → ∃ more, H' b = some (.tbl (ps ++ more)))
    (ns : ∀ m, s.heap.Ns X.env.locals m → h'.Ns X.env.locals m) (hok : HOk X.prog X.w H' h') (hg : AllBare g') :
    Inv X pins σ H' { s with heap := h', gens := g', drawn := d', toks := t' } := by
  have neL : ∀ b o, X.s_0.heap.get? b = some o → b ≠ X.env.locals := fun b o e => Nat.ne_of_lt (Nat.lt_of_lt_of_le (Heap.lt_size e) I.ok.above)
  have neC : ∀ b o, X.s_0.heap.get? b = some o → b ∉ X.ex → b ∉ ch := fun b o e hx hb => by
    rcases (hch b hb).1 with z | z
    · exact hx z
    · exact absurd (Nat.lt_of_lt_of_le (Heap.lt_size e) z) (Nat.lt_irrefl _)
  have cellK : ∀ x c, X.env.cells.lookup x = some c → ∀ v, s.heap.IsCell c v → h'.IsCell c v := fun x c e v ⟨o, ho, hd⟩ => by
    have nch : c ∉ ch := fun z => (hch c z).2.2.1 x c e rfl
    by_cases hc : c ∈ X.fs
    · obtain ⟨sl, q⟩ := slot c o (I.cne x c e) hc nch ho (I.freeC x c e)
      exact ⟨_, q, hd⟩
    · exact ⟨o, keep c o (I.cne x c e) hc nch ho (I.freeC x c e), hd⟩
  refine ⟨I.ok, I.os, hg, ⟨fun b o e n hb hx => ?_, fun b o e n hb hx => ?_, fun b o e n hx => ?_, fun b o e hx => ?_, fun b xs e => tups b xs (I.base.tups b xs e), fun b o xs e => frzs b o xs (I.base.frzs b o xs e), fun b ps e => ?_⟩, ?_, fun x c e => ?_, ?_, fun x c e => ?_, fun p hp => ?_, hok, I.len⟩
  · exact keep b o (neL b o e) hb (neC b o e hx) (I.base.keep b o e n hb hx) (I.base.free b o e n hx)
  · obtain ⟨sl, e1⟩ := I.base.slot b o e n hb hx
    obtain ⟨sl', e2⟩ := slot b _ (neL b o e) hb (neC b o e hx) e1 (I.base.free b o e n hx)
    exact ⟨sl', e2⟩
  · obtain ⟨o', e1⟩ := I.base.there b o e hx
    exact free b o' (neC b o e hx) e1 (I.base.free b o e n hx)
  · obtain ⟨o', e1⟩ := I.base.there b o e hx
    exact there b o' (neC b o e hx) e1
  · obtain ⟨m1, e1⟩ := I.base.tbls b ps e
    obtain ⟨m2, e2⟩ := tbls b _ e1
    exact ⟨m1 ++ m2, by rw [e2, Array.append_assoc]⟩
  · obtain ⟨m, hn, hl⟩ := I.loc
    refine ⟨m, ns m hn, fun i x v e1 e2 e3 => ?_⟩
    obtain ⟨u, r, l⟩ := hl i x v e1 e2 e3
    refine ⟨u, r, ?_⟩
    rcases l with l | ⟨k, c, e, z⟩
    · exact .inl l
    · exact .inr ⟨k, c, e, cellK x c e _ z⟩
  · obtain ⟨v, z⟩ := I.cell x c e
    exact ⟨v, cellK x c e v z⟩
  · obtain ⟨m, ⟨o, _, _, ho, _⟩, _⟩ := I.loc
    exact free _ o (fun z => (hch _ z).2.1 rfl) ho I.free
  · obtain ⟨v, o, ho, hd⟩ := I.cell x c e
    exact free c o (fun z => (hch c z).2.2.1 x c e rfl) ho (I.freeC x c e)
  · obtain ⟨e, n, ne, nf, d⟩ := I.pin p hp
    have nch : p.1 ∉ ch := fun z => (hch p.1 z).2.2.2 p hp rfl
    exact ⟨keep p.1 p.2 ne nf nch e n, free p.1 p.2 nch e n, ne, nf, d⟩
/-- .. where the frame's own object is kept too -/
theorem Inv.un {t' : Nat} (I : Inv X pins σ H s) (u : Un X.fs [] H H' s.heap h') (hok : HOk X.prog X.w H' h') : Inv X pins σ H' { s with heap := h', toks := t' } := by
  obtain ⟨m, ⟨o, es, ep, ho, r⟩, _⟩ := id I.loc
  obtain ⟨sl, hL⟩ := u.any ho I.free (by simp)
  exact I.step (g' := s.gens) (d' := s.drawn) (ch := []) (fun _ z => nomatch z) (fun b o _ hb _ e n => u.keep b o e n hb (by simp)) (fun b o _ hb _ e n => u.slot b o e n hb (by simp)) (fun b o _ e n => u.free b o e n (by simp)) (fun b o _ e => u.there b o e (by simp)) u.tups u.frzs u.tbls (fun m' hm => by
    obtain ⟨o', es', ep', ho', r'⟩ := hm
    rw [ho] at ho'; cases ho'
    exact ⟨_, es', ep', hL, r'⟩) hok I.bare
/-- behind a call (or a comprehension's block): the slots of this frame may have changed too, the records at ch may have turned -/
theorem Inv.call {g' : Array GenState} {t' : Nat} {d' : Drawn} {ch : List Addr} (I : Inv X pins σ H s) (u : Un (frs X.stack) ch H H' s.heap h') (hok : HOk X.prog X.w H' h') (hg : AllBare g')
    (hch : ∀ b ∈ ch, (b ∈ X.ex ∨ X.s_0.heap.objs.size ≤ b) ∧ b ≠ X.env.locals ∧ (∀ x c, X.env.cells.lookup x = some c → c ≠ b) ∧ ∀ p ∈ X.pn ++ pins, p.1 ≠ b) :
    Inv X pins σ H' { s with heap := h', gens := g', drawn := d', toks := t' } := by
  obtain ⟨m, ⟨o, es, ep, ho, r⟩, _⟩ := id I.loc
  obtain ⟨sl, hL⟩ := u.any ho I.free fun z => (hch _ z).2.1 rfl
  exact I.step (ch := ch) hch (fun b o hL hb hc e n => u.keep b o e n (fun z => (List.mem_cons.mp (I.stkSub b z)).elim hL hb) hc) (fun b o _ _ hc e n => u.any e n hc) (fun b o hc e n => u.free b o e n hc) (fun b o hc e => u.there b o e hc) u.tups u.frzs u.tbls (fun m' hm => by
    obtain ⟨o', es', ep', ho', r'⟩ := hm
    rw [ho] at ho'; cases ho'
    exact ⟨_, es', ep', hL, r'⟩) hok hg
/-- an untracked record of ours (an iterator) has turned -/
theorem Inv.turned {t' : Nat} {it : Addr} (I : Inv X pins σ H s) (k : ∀ b o, b ≠ it → s.heap.get? b = some o → h'.get? b = some o) (hn : H it = none) (hL : it ≠ X.env.locals)
    (h1 : it ∈ X.ex ∨ X.s_0.heap.objs.size ≤ it) (h2 : ∀ x c, X.env.cells.lookup x = some c → c ≠ it) (h3 : ∀ p ∈ X.pn ++ pins, p.1 ≠ it) : Inv X pins σ H { s with heap := h', toks := t' } := by
  have nit : ∀ b u, H b = some u → b ≠ it := fun b u e z => by rw [z, hn] at e; cases e
  refine I.step (g' := s.gens) (d' := s.drawn) (ch := [it]) (fun b hb => ?_) (fun b o _ _ hc e _ => k b o (fun z => hc (by simp [z])) e) (fun b o _ _ hc e _ => ⟨o.slots, k b o (fun z => hc (by simp [z])) e⟩) (fun _ _ _ _ n => n)
    (fun b o hc e => ⟨o, k b o (fun z => hc (by simp [z])) e⟩) (fun _ _ e => e) (fun _ _ _ e => e) (fun b ps e => ⟨#[], by rw [e]; simp⟩) (fun m hm => ?_) (fun b u e => ?_) I.bare
  · have e : b = it := by simpa using hb
    subst e
    exact ⟨h1, hL, h2, h3⟩
  · obtain ⟨o, es, ep, ho, r⟩ := hm
    exact ⟨o, es, ep, k _ o (Ne.symm hL) ho, r⟩
  · refine (I.hok b u e).stay (fun c v hc q => k c v ?_ q) (fun _ q => q) fun _ _ q => q
    rcases hc with z | z
    · rw [z]; exact nit b u e
    · exact nit c _ z
theorem Inv.tok (I : Inv X pins σ H s) (t : Nat) : Inv X pins σ H { s with toks := t } := I.un (h' := s.heap) (t' := t) Un.refl I.hok
/-- all objects kept -/
theorem Inv.kept {t' : Nat} (I : Inv X pins σ H s) (k : ∀ b u, s.heap.get? b = some u → h'.get? b = some u) : Inv X pins σ H { s with heap := h', toks := t' } := I.un (Un.kept k) (I.hok.kept k)
/-- a new object laid and tracked -/
theorem Inv.laid {a : Addr} {o : HO} {t' : Nat} (I : Inv X pins σ H s) (k : ∀ b u, s.heap.get? b = some u → h'.get? b = some u) (hp : s.heap.objs.size ≤ a) (new : ObjOk X.prog X.w (upd H a o) h' a o) :
    Inv X pins σ (upd H a o) { s with heap := h', toks := t' } := I.un (Un.laid k hp (I.hok.fresh hp)) (I.hok.laid k hp new)
/-- an object written -/
theorem Inv.write {x e : Addr} {o : HO} {t' : Nat} (I : Inv X pins σ H s) (mu : Mut (H x)) (he : e = x ∨ H e = some (.own x)) (k : ∀ b u, b ≠ e → s.heap.get? b = some u → h'.get? b = some u) (heo : ∃ u, h'.get? e = some u)
    (new : ObjOk X.prog X.w (upd H x o) h' x o) : Inv X pins σ (upd H x o) { s with heap := h', toks := t' } := I.un (Un.write mu he k heo) (I.hok.write mu he k heo new)
/-- forgetting slots, pins -/
theorem Inv.weak {σ' : List (Option V)} (I : Inv X pins σ H s) (hl : σ'.length = σ.length) (w : ∀ (i : Nat) v, σ'[i]? = some (some v) → σ[i]? = some (some v)) : Inv X pins σ' H s :=
  ⟨I.ok, I.os, I.bare, I.base, let ⟨m, hn, hl'⟩ := I.loc; ⟨m, hn, fun i x v e1 e2 e3 => hl' i x v e1 (w i v e2) e3⟩, I.cell, I.free, I.freeC, I.pin, I.hok, hl.trans I.len⟩
theorem Inv.pins_of {pins' : List (Addr × Obj)} (I : Inv X pins σ H s) (h : ∀ p ∈ pins', s.heap.get? p.1 = some p.2 ∧ H p.1 = none ∧ p.1 ≠ X.env.locals ∧ p.1 ∉ X.fs ∧ ∀ v, p.2.data ≠ .cell v) : Inv X pins' σ H s :=
  ⟨I.ok, I.os, I.bare, I.base, I.loc, I.cell, I.free, I.freeC, fun p hp => (List.mem_append.mp hp).elim (fun z => I.pin p (List.mem_append_left _ z)) (h p), I.hok, I.len⟩

theorem nodup_ix {N : List Str} (hN : N.Nodup) {i j : Nat} {x : Str} (a : N[i]? = some x) (b : N[j]? = some x) : i = j := by
  obtain ⟨h1, e1⟩ := List.getElem?_eq_some_iff.mp a
  obtain ⟨h2, e2⟩ := List.getElem?_eq_some_iff.mp b
  exact (List.getElem_inj hN).mp (e1.trans e2.symm)

/-- a name is stored; what changed -/
theorem store_ok2 {M : Model} {A : Around} {E : Value → Shared → Prop} {i : Nat} {x : Str} {v : V} {u : Value} {Q : Unit → Shared → Prop} (I : Inv X pins σ H s) (hN : X.N.Nodup) (hi : X.N[i]? = some x) (hx : Loc X.env.scope x) (r : RelV v u)
    (h : ∀ s', Inv X pins (σ.set i (some v)) H s' → (∃ a, Heap.SameBut a s.heap s'.heap ∧ (a = X.env.locals ∨ X.env.cells.lookup x = some a)) → Q () s') (hf : X.fn x = true ∨ X.env.scope.names.lookup x = some .local := by first | exact .inl rfl | exact .inr rfl | assumption) : wpAny M A (storeName X.env x u) Q E s := by
  obtain ⟨m, hn, hl⟩ := id I.loc
  have hcls : (X.env.scope.kind == .class || (X.env.scope.kind == .module && X.env.locals != X.env.globals)) = false := by rw [I.ok.kind]; rfl
  have hiσ : i < σ.length := by rw [I.len]; exact (List.getElem?_eq_some_iff.mp hi).1
  have cne := I.cne
  have tracked : ∀ {a : Addr} {h' : Heap}, (∃ o, s.heap.get? a = some o ∧ H a = none) → Heap.SameBut a s.heap h' → HOk X.prog X.w H h' := fun {a h'} ha hs b ob e => by
    obtain ⟨_, _, hfree⟩ := ha
    refine (I.hok b ob e).stay (fun c w' hc q => (hs.2 c ?_).trans q) (fun _ q => q) fun _ _ q => q
    rintro rfl
    rcases hc with rfl | hc
    · rw [hfree] at e; cases e
    · rw [hfree] at hc; cases hc
  rcases hx with hk | hk
  · refine wpAny_storeName_local hk hn (fun h' hn' hs => ?_) hcls
    obtain ⟨oL, _, _, hoL, _⟩ := id hn
    refine h _ ⟨I.ok, I.os, I.bare, ⟨fun b o e n hb hx => ?_, fun b o e n hb hx => ?_, I.base.free, fun b o e hx => ?_, I.base.tups, I.base.frzs, I.base.tbls⟩, ⟨_, hn', fun j y v' e1 e2 e3 => ?_⟩, fun y c e => ?_, I.free, I.freeC, fun p hp => ?_, tracked ⟨oL, hoL, I.free⟩ hs, by simpa using I.len⟩ ⟨_, hs, .inl rfl⟩
    · exact (hs.2 b (Nat.ne_of_lt (Nat.lt_of_lt_of_le (Heap.lt_size e) I.ok.above))).trans (I.base.keep b o e n hb hx)
    · obtain ⟨sl, e1⟩ := I.base.slot b o e n hb hx
      exact ⟨sl, (hs.2 b (Nat.ne_of_lt (Nat.lt_of_lt_of_le (Heap.lt_size e) I.ok.above))).trans e1⟩
    · obtain ⟨o', e1⟩ := I.base.there b o e hx
      exact ⟨o', (hs.2 b (Nat.ne_of_lt (Nat.lt_of_lt_of_le (Heap.lt_size e) I.ok.above))).trans e1⟩
    · by_cases hj : j = i
      · subst hj
        rw [hi] at e1; cases e1
        rw [List.getElem?_set_self hiσ] at e2
        cases e2
        exact ⟨u, r, .inl ⟨hk, by simp⟩⟩
      · rw [List.getElem?_set_ne (Ne.symm hj)] at e2
        obtain ⟨u', r', q⟩ := hl j y v' e1 e2 e3
        refine ⟨u', r', ?_⟩
        rcases q with ⟨k, e⟩ | ⟨k, c, e, z⟩
        · refine .inl ⟨k, ?_⟩
          have : y ≠ x := fun e => hj (nodup_ix hN e1 (e ▸ hi))
          simp [this, e]
        · exact .inr ⟨k, c, e, z.sameBut hs (cne y c e)⟩
    · obtain ⟨w', z⟩ := I.cell y c e
      exact ⟨w', z.sameBut hs (cne y c e)⟩
    · obtain ⟨e, n, ne, nf, d⟩ := I.pin p hp
      exact ⟨(hs.2 p.1 ne).trans e, n, ne, nf, d⟩
  · have hfn : X.fn x = true := by
      rcases hf with z | z
      · exact z
      · rw [z] at hk; cases hk
    obtain ⟨c, hc⟩ := I.ok.has x (.inl hk)
    obtain ⟨w', z⟩ := I.cell x c hc
    refine wpAny_storeName_cell I.ok.kind hk hc z (fun h' hc' hs => ?_)
    obtain ⟨oc, hoc, hocd⟩ := id z
    refine h { s with heap := h' } ⟨I.ok, I.os, I.bare, ⟨fun b o e n hb hx => ?_, fun b o e n hb hx => ?_, I.base.free, fun b o e hx => ?_, I.base.tups, I.base.frzs, I.base.tbls⟩, ⟨m, hn.sameBut hs (Ne.symm (cne x c hc)), fun j y v' e1 e2 e3 => ?_⟩, fun y c' e => ?_, I.free, I.freeC, fun p hp => ?_, tracked ⟨oc, hoc, I.freeC x c hc⟩ hs, by simpa using I.len⟩ ⟨c, hs, .inr hc⟩
    · exact (hs.2 b (Nat.ne_of_lt (Nat.lt_of_lt_of_le (Heap.lt_size e) (I.ok.cab x c hfn hc)))).trans (I.base.keep b o e n hb hx)
    · obtain ⟨sl, e1⟩ := I.base.slot b o e n hb hx
      exact ⟨sl, (hs.2 b (Nat.ne_of_lt (Nat.lt_of_lt_of_le (Heap.lt_size e) (I.ok.cab x c hfn hc)))).trans e1⟩
    · obtain ⟨o', e1⟩ := I.base.there b o e hx
      exact ⟨o', (hs.2 b (Nat.ne_of_lt (Nat.lt_of_lt_of_le (Heap.lt_size e) (I.ok.cab x c hfn hc)))).trans e1⟩
    · by_cases hj : j = i
      · subst hj
        rw [hi] at e1; cases e1
        rw [List.getElem?_set_self hiσ] at e2
        cases e2
        exact ⟨u, r, .inr ⟨.inl hk, c, hc, hc'⟩⟩
      · rw [List.getElem?_set_ne (Ne.symm hj)] at e2
        obtain ⟨u', r', q⟩ := hl j y v' e1 e2 e3
        refine ⟨u', r', ?_⟩
        rcases q with q | ⟨k, c', e, z'⟩
        · exact .inl q
        · refine .inr ⟨k, c', e, z'.sameBut hs ?_⟩
          rintro rfl
          exact hj (nodup_ix hN e1 (I.ok.inj _ _ _ e hc ▸ hi))
    · by_cases hcc : c' = c
      · subst hcc; exact ⟨_, hc'⟩
      · obtain ⟨w2, z2⟩ := I.cell y c' e
        exact ⟨w2, z2.sameBut hs hcc⟩
    · obtain ⟨e, n, ne, nf, d⟩ := I.pin p hp
      refine ⟨(hs.2 p.1 ?_).trans e, n, ne, nf, d⟩
      intro q
      rw [q, hoc] at e
      have q' : oc = p.2 := Option.some.inj e
      exact d w' (by rw [← q']; exact hocd)
theorem store_ok {M : Model} {A : Around} {E : Value → Shared → Prop} {i : Nat} {x : Str} {v : V} {u : Value} {Q : Unit → Shared → Prop} (I : Inv X pins σ H s) (hN : X.N.Nodup) (hi : X.N[i]? = some x) (hx : Loc X.env.scope x) (r : RelV v u)
    (h : ∀ s', Inv X pins (σ.set i (some v)) H s' → Q () s') (hf : X.fn x = true ∨ X.env.scope.names.lookup x = some .local := by first | exact .inl rfl | exact .inr rfl | assumption) : wpAny M A (storeName X.env x u) Q E s :=
  store_ok2 I hN hi hx r (fun s' I' _ => h s' I') hf
/-- behind a call or a block, the state as it is -/
theorem Inv.call' {s' : Shared} {ch : List Addr} (I : Inv X pins σ H s) (ho : s'.os = s.os) (u : Un (frs X.stack) ch H H' s.heap s'.heap) (hok : HOk X.prog X.w H' s'.heap) (hg : AllBare s'.gens)
    (hch : ∀ b ∈ ch, (b ∈ X.ex ∨ X.s_0.heap.objs.size ≤ b) ∧ b ≠ X.env.locals ∧ (∀ x c, X.env.cells.lookup x = some c → c ≠ b) ∧ ∀ p ∈ X.pn ++ pins, p.1 ≠ b) : Inv X pins σ H' s' := by
  obtain ⟨h', g', d', t', o'⟩ := s'
  have e : o' = s.os := ho
  subst e
  exact I.call (g' := g') (t' := t') (d' := d') u hok hg hch
end

/-! ### the judgements -/
/-- an exception: its class, its own dict's address (where it has one), the abstract heap behind it -/
abbrev XK := Value → Option Addr → Hp → Prop
abbrev St := List (Option V)
abbrev VK := V → Hp → Prop
/-- an expression's reading; a test's; an argument list's -/
abbrev TE := St → Hp → VK → Prop
abbrev TT := St → Hp → (Bool → Hp → Prop) → Prop
abbrev TA := St → Hp → (List V → Hp → Prop) → Prop
/-- what is wanted behind a statement -/
structure Ends where
  nx : St → Hp → Prop
  rt : VK
  bk : St → Hp → Prop := fun _ _ => False
  ct : St → Hp → Prop := fun _ _ => False
abbrev TS := Ends → St → Hp → Prop

def EP (X : Cx) (pins : List (Addr × Obj)) (σ : St) (Q : VK) (u : Value) (s' : Shared) : Prop := ∃ v H', Inv X pins σ H' s' ∧ RelV v u ∧ Q v H'
def TP (X : Cx) (pins : List (Addr × Obj)) (σ : St) (Q : Bool → Hp → Prop) (b : Bool) (s' : Shared) : Prop := ∃ H', Inv X pins σ H' s' ∧ Q b H'
def AP (X : Cx) (pins : List (Addr × Obj)) (σ : St) (Q : List V → Hp → Prop) (us : List Value) (s' : Shared) : Prop := ∃ vs H', Inv X pins σ H' s' ∧ Vals vs us ∧ Q vs H'
def SP (X : Cx) (pins : List (Addr × Obj)) (D : Ends) (f : Flow) (s' : Shared) : Prop :=
  match f with
  | .next => ∃ σ' H', Inv X pins σ' H' s' ∧ D.nx σ' H'
  | .brk => ∃ σ' H', Inv X pins σ' H' s' ∧ D.bk σ' H'
  | .cont => ∃ σ' H', Inv X pins σ' H' s' ∧ D.ct σ' H'
  | .ret u => ∃ v σ' H', Inv X pins σ' H' s' ∧ RelV v u ∧ D.rt v H'

def PE (X : Cx) (e : Expr) (t : TE) : Prop :=
  ∀ (pins : List (Addr × Obj)) (s : Shared) (σ : St) (H : Hp) (Q : VK), Inv X pins σ H s → t σ H Q → wpAny (model X.prog X.w) X.A (eval e X.env) (EP X pins σ Q) X.xe s
def PT (X : Cx) (e : Expr) (t : TT) : Prop :=
  ∀ (pins : List (Addr × Obj)) (s : Shared) (σ : St) (H : Hp) (Q : Bool → Hp → Prop), Inv X pins σ H s → t σ H Q → wpAny (model X.prog X.w) X.A (isTrue e X.env (eval e X.env)) (TP X pins σ Q) X.xe s
/-- a test whatever its 'whole' is (and, or) -/
def PW (X : Cx) (e : Expr) (t : TT) : Prop :=
  ∀ (whole : Sem Value) (pins : List (Addr × Obj)) (s : Shared) (σ : St) (H : Hp) (Q : Bool → Hp → Prop), Inv X pins σ H s → t σ H Q → wpAny (model X.prog X.w) X.A (isTrue e X.env whole) (TP X pins σ Q) X.xe s
theorem PW.pt {X : Cx} {e : Expr} {t : TT} (h : PW X e t) : PT X e t := h _
/-- an argument list (no star), from the left -/
def PA (X : Cx) (es : List Expr) (t : TA) : Prop :=
  ∀ (pos : Pos) (pins : List (Addr × Obj)) (s : Shared) (σ : St) (H : Hp) (Q : List V → Hp → Prop), Inv X pins σ H s → t σ H Q → wpAny (model X.prog X.w) X.A (spliced (backTo pos (starEach es X.env))) (AP X pins σ Q) X.xe s
def PS (X : Cx) (st : Stmt) (t : TS) : Prop :=
  ∀ (pins : List (Addr × Obj)) (s : Shared) (σ : St) (H : Hp) (D : Ends), Inv X pins σ H s → t D σ H → wpAny (model X.prog X.w) X.A (exec st X.env) (SP X pins D) X.xe s
def PSs (X : Cx) (st : List Stmt) (t : TS) : Prop :=
  ∀ (pins : List (Addr × Obj)) (s : Shared) (σ : St) (H : Hp) (D : Ends), Inv X pins σ H s → t D σ H → wpAny (model X.prog X.w) X.A (execs st X.env) (SP X pins D) X.xe s
/-- weaken the end -/
theorem thn {α : Type} {t : Sem α} {Q Q' : α → Shared → Prop} {M : Model} {A : Around} {E : Value → Shared → Prop} {s : Shared} (h : wpAny M A t Q E s) (hQ : ∀ a s, Q a s → Q' a s) : wpAny M A t Q' E s := wpAny_mono h hQ fun _ _ x => x
end L2

namespace L2
open PySem PySem.Spec PyProof.Rows
section
variable {X : Cx}


/-! ### names and constants -/
def tVar (i : Nat) : TE := fun σ H Q => ∃ v, σ[i]? = some (some v) ∧ Q v H
def tC (v : V) : TE := fun _ H Q => Q v H
theorem pe_var {i : Nat} {x : Str} {pos : Pos} (hN : X.N[i]? = some x) (hv : Vis X.env.scope x) (hd : (x == ("__debug__" : Str)) = false := by decide) (hcd : (x == ("__classdict__" : Str)) = false := by decide) : PE X (.Name x pos) (tVar i) := by
  intro pins s σ H Q I h
  obtain ⟨v, e, h⟩ := h
  obtain ⟨m, hn, hl⟩ := I.loc
  obtain ⟨u, r, l⟩ := hl i x v hN e hv
  have fin : EP X pins σ Q u s := ⟨v, H, I, r, h⟩
  rcases l with ⟨hk, hm⟩ | ⟨hk, c, hc, hcell⟩
  · exact wpAny_Name (wpAny_loadName_local I.ok.kind hk hn hm fin) hd
  · rcases hk with hk | hk
    · exact wpAny_Name (wpAny_loadName_cell I.ok.kind hk hc hcell fin) hd
    · exact wpAny_Name (wpAny_loadName_free I.ok.kind hk hc hcell fin hcd) hd
theorem pe_int {i j pos} : PE X (.Constant (.int i) j pos) (tC (.int i)) := fun _ _ _ H _ I h => wpAny_Constant_int ⟨.int i, H, I.tok _, ⟨_, rfl⟩, h⟩
theorem pe_bl {b j pos} : PE X (.Constant (.bool b) j pos) (tC (.bl b)) := fun _ _ _ H _ I h => Constant_bool ⟨.bl b, H, I, rfl, h⟩
theorem pe_non {j pos} : PE X (.Constant .none j pos) (tC .non) := fun _ _ _ H _ I h => Constant_none ⟨.non, H, I, rfl, h⟩

/-- a global name of the def -/
def Gl (X : Cx) (x : Str) : Prop := X.env.kindOf x = some .globalImplicit
theorem ld_glob {E : Value → Shared → Prop} {pins : List (Addr × Obj)} {s : Shared} {σ : St} {H : Hp} {x : Str} {u : Value} {pos : Pos} {Q : Value → Shared → Prop} (I : Inv X pins σ H s) (hg : Gl X x) (hm : X.mg x = some u) (h : Q u s)
    (hd : (x == ("__debug__" : Str)) = false := by decide) : wpAny (model X.prog X.w) X.A (eval (.Name x pos) X.env) Q E s :=
  Calls.Name_function_global I.ok.kind hg (Calls.loadGlobal_global (by rw [I.ok.glob]; exact I.mod.glob.keeps I.bk) hm h) hd
theorem ld_blt {E : Value → Shared → Prop} {pins : List (Addr × Obj)} {s : Shared} {σ : St} {H : Hp} {x : Str} {u : Value} {pos : Pos} {Q : Value → Shared → Prop} (I : Inv X pins σ H s) (hg : Gl X x) (hm : X.mg x = none) (hv : bootBuiltins x = some u) (h : Q u s)
    (hn : x ≠ "__name__" := by decide) (hd : (x == ("__debug__" : Str)) = false := by decide) : wpAny (model X.prog X.w) X.A (eval (.Name x pos) X.env) Q E s := by
  obtain ⟨mb, h1, h2⟩ := I.mod.blt
  exact Calls.Name_function_global I.ok.kind hg (Calls.loadGlobal_builtin (by rw [I.ok.glob]; exact I.mod.glob.keeps I.bk) hm (by rw [I.ok.blt]; exact h1.keeps I.bk) ((h2 x hn).trans hv) h) hd
/-- a module's constant, a class, a function, as a value -/
theorem pe_glob {x : Str} {v : V} {u : Value} {pos : Pos} (hg : Gl X x) (hm : X.mg x = some u) (r : RelV v u) (hd : (x == ("__debug__" : Str)) = false := by decide) : PE X (.Name x pos) (tC v) :=
  fun _ _ _ H _ I h => ld_glob I hg hm ⟨v, H, I, r, h⟩ hd

/-! ### arithmetic -/
variable {a b : Expr} {ta tb : TE} {pos : Pos}

/-! ### comparisons -/
def PC (X : Cx) (op : CmpOp) (a b : Expr) (t : TE) : Prop :=
  ∀ (pins : List (Addr × Obj)) (s : Shared) (σ : St) (H : Hp) (Q : VK), Inv X pins σ H s → t σ H Q →
    wpAny (model X.prog X.w) X.A (eval a X.env) (fun v s₁ => wpAny (model X.prog X.w) X.A (eval b X.env) (fun u s₂ => wpAny (model X.prog X.w) X.A (compareOp op v u) (EP X pins σ Q) X.xe s₂) X.xe s₁) X.xe s
/-- a comparison as a value, as a test -/
def tB (t : TE) : TT := fun σ H Q => t σ H fun x H1 => ∃ c, x = .bl c ∧ Q c H1
theorem pt_cmp {op : CmpOp} {t : TE} (h : PC X op a b t) (h1 : behindInMarks op b = false := by first | exact nobehind _ (by decide) (by decide) | rfl) : PT X (.Compare a [op] [b] pos) (tB t) := by
  intro pins s σ H Q I hw
  refine wpAny_isTrue_Compare1 (thn (h pins s σ H _ I hw) fun v s1 h1 => thn h1 fun u s2 h2 => thn h2 fun c s3 ⟨x, H1, I1, r1, q1⟩ => ?_) h1
  obtain ⟨d, rfl, q⟩ := q1
  cases r1
  exact wpAny_truthy_bool ⟨H1, I1, q⟩
/-- an expression whose value is a bool, as a test -/
theorem pt_val {e : Expr} {t : TE} (h : PE X e t) (he : ∀ whole, isTrue e X.env whole = (do let v ← whole; standAt e.pos; holding [v] (truthy v)) := by intro _; rfl) : PT X e (tB t) := by
  intro pins s σ H Q I hw
  refine isTrue_plain (thn (h pins s σ H _ I hw) fun v s1 ⟨x, H1, I1, r1, q1⟩ => ?_) (he _)
  obtain ⟨d, rfl, q⟩ := q1
  cases r1
  exact wpAny_truthy_bool ⟨H1, I1, q⟩

/-! ### and, or, not -/
variable {tA tB' : TT} {rest : List Expr}
def tAnd (t u : TT) : TT := fun σ H Q => t σ H fun c H1 => if c = true then u σ H1 Q else Q false H1
def tOr (t u : TT) : TT := fun σ H Q => t σ H fun c H1 => if c = true then Q true H1 else u σ H1 Q
theorem pw_and1 (ha : PT X a tA) : PW X (.BoolOp .And [a] pos) tA := by
  intro wh pins s σ H Q I h
  refine isTrue_and (thn (ha pins s σ H Q I h) fun c s1 e => ?_)
  cases c with
  | true => exact isTrue_and_nil e
  | false => exact e
theorem pw_or1 (ha : PT X a tA) : PW X (.BoolOp .Or [a] pos) tA := by
  intro wh pins s σ H Q I h
  refine isTrue_or (thn (ha pins s σ H Q I h) fun c s1 e => ?_)
  cases c with
  | false => exact isTrue_or_nil e
  | true => exact e
theorem pw_and (ha : PT X a tA) (hb : PW X (.BoolOp .And (b :: rest) pos) tB') : PW X (.BoolOp .And (a :: b :: rest) pos) (tAnd tA tB') := by
  intro wh pins s σ H Q I h
  refine isTrue_and (thn (ha pins s σ H _ I h) fun c s1 ⟨H1, I1, q1⟩ => ?_)
  cases c with
  | true => exact hb wh pins s1 σ H1 Q I1 q1
  | false => exact ⟨H1, I1, q1⟩
theorem pw_or (ha : PT X a tA) (hb : PW X (.BoolOp .Or (b :: rest) pos) tB') : PW X (.BoolOp .Or (a :: b :: rest) pos) (tOr tA tB') := by
  intro wh pins s σ H Q I h
  refine isTrue_or (thn (ha pins s σ H _ I h) fun c s1 ⟨H1, I1, q1⟩ => ?_)
  cases c with
  | true => exact ⟨H1, I1, q1⟩
  | false => exact hb wh pins s1 σ H1 Q I1 q1
/-- .. as values (bools) -/
def tAndV (ta tb : TE) : TE := fun σ H Q => ta σ H fun x H1 => ∃ c, x = .bl c ∧ if c = true then tb σ H1 Q else Q (.bl false) H1
theorem pe_one {op} {t : TE} (h : PE X a t) : PE X (.BoolOp op [a] pos) t := fun pins s σ H Q I hw => BoolOp_one (h pins s σ H Q I hw)
theorem pe_and (ha : PE X a ta) (hb : PE X (.BoolOp .And (b :: rest) pos) tb) : PE X (.BoolOp .And (a :: b :: rest) pos) (tAndV ta tb) := by
  intro pins s σ H Q I h
  refine BoolOp_and (thn (ha pins s σ H _ I h) fun v s1 ⟨x, H1, I1, r1, q1⟩ => ?_)
  obtain ⟨c, rfl, q1⟩ := q1
  cases r1
  refine wpAny_truthy_bool ?_
  cases c with
  | true => exact hb pins s1 σ H1 Q I1 q1
  | false => exact ⟨.bl false, H1, I1, rfl, q1⟩
/-- a if t else b -/
def tIf (t : TT) (ta tb : TE) : TE := fun σ H Q => t σ H fun c H1 => if c = true then ta σ H1 Q else tb σ H1 Q
theorem pe_ifExp {c : Expr} (hc : PT X c tA) (ha : PE X a ta) (hb : PE X b tb) : PE X (.IfExp c a b pos) (tIf tA ta tb) := by
  intro pins s σ H Q I h
  refine wpAny_IfExp (thn (hc pins s σ H _ I h) fun d s1 ⟨H1, I1, q1⟩ => ?_)
  cases d with
  | true => exact ha pins s1 σ H1 Q I1 q1
  | false => exact hb pins s1 σ H1 Q I1 q1
end
end L2

namespace L2
open PySem PySem.Spec PyProof.Rows

/-! ### a list, a tuple that is read: tracked, frozen, or an object of the module -/
def SqL (K : PySem.W.Frag) (H : Hp) (a : Addr) (xs : List V) : Prop :=
  Rd H a (.lst xs) ∨
    ∃ (o : Obj) (its : Array Value) (n : Nat), K.lookup a = some o ∧ o.cls = .type "list" ∧ o.dict = none ∧ o.data = .seq its n ∧ its.size ≤ sizeLine ∧ Vals xs its.toList
def SqT (K : PySem.W.Frag) (H : Hp) (a : Addr) (xs : List V) : Prop :=
  Rd H a (.tup xs) ∨
    ∃ (o : Obj) (its : Array Value) (n : Nat), K.lookup a = some o ∧ o.cls = .type "tuple" ∧ o.data = .seq its n ∧ its.size ≤ sizeLine ∧ Vals xs its.toList
def absV : Value → Option V
  | .none => some .non
  | .bool b => some (.bl b)
  | .int i _ => some (.int i)
  | .str x _ => some (.str x)
  | .bytes b _ => some (.byt b)
  | .float b _ => some (.flt b)
  | .ref a => some (.ref a)
  | .type n => some (.ty n)
  | _ => none
theorem RelV.abs {x : V} {u : Value} (r : RelV x u) : absV u = some x := by
  cases x with
  | non => cases r; rfl
  | bl _ => cases r; rfl
  | int _ => obtain ⟨t, rfl⟩ := r; rfl
  | str _ => obtain ⟨t, rfl⟩ := r; rfl
  | byt _ => obtain ⟨t, rfl⟩ := r; rfl
  | flt _ => obtain ⟨t, rfl⟩ := r; rfl
  | ref _ => cases r; rfl
  | ty _ => cases r; rfl
theorem RelV.inj {x y : V} {u : Value} (r : RelV x u) (q : RelV y u) : x = y := Option.some.inj (r.abs.symm.trans q.abs)
theorem Vals.inj : ∀ {xs ys : List V} {us : List Value}, Vals xs us → Vals ys us → xs = ys
  | _, _, _, .nil, .nil => rfl
  | _, _, _, .cons r t, .cons r' t' => by rw [r.inj r', Vals.inj t t']
section
variable {X : Cx} {pins : List (Addr × Obj)} {σ : St} {H : Hp} {s : Shared} {a : Addr} {xs ys : List V}
theorem SqL.of {K : PySem.W.Frag} (h : H a = some (.lst xs)) : SqL K H a xs := .inl (.inl h)
theorem SqT.of {K : PySem.W.Frag} (h : H a = some (.tup xs)) : SqT K H a xs := .inl (.inl h)
theorem Inv.list (I : Inv X pins σ H s) (h : SqL X.K H a xs) : ∃ its : List Value, Vals xs its ∧ PlainL s.heap a its.toArray ∧ xs.length ≤ sizeLine := by
  rcases h with h | ⟨o, its, n, hk, hc, hd, hs, hz, r⟩
  · obtain ⟨z, its, n, r, e⟩ := h.ok I.hok
    exact ⟨its, r, ⟨_, n, e, rfl, rfl, rfl⟩, z⟩
  · refine ⟨its.toList, r, ⟨o, n, I.kIn a o hk, hc, hd, by simpa using hs⟩, ?_⟩
    have e := r.length
    simp only [Array.length_toList] at e
    omega
theorem Inv.tuple (I : Inv X pins σ H s) (h : SqT X.K H a xs) : ∃ its : List Value, Vals xs its ∧ IsTup s.heap a its.toArray ∧ xs.length ≤ sizeLine := by
  rcases h with h | ⟨o, its, n, hk, hc, hs, hz, r⟩
  · obtain ⟨z, its, r, p⟩ := h.ok I.hok
    exact ⟨its, r, p, z⟩
  · refine ⟨its.toList, r, ⟨o, I.kIn a o hk, hc, n, by simpa using hs⟩, ?_⟩
    have e := r.length
    simp only [Array.length_toList] at e
    omega
theorem Inv.list_inj (I : Inv X pins σ H s) (h : SqL X.K H a xs) (h' : SqL X.K H a ys) : xs = ys := by
  obtain ⟨its, r, ⟨o, n, e, _, _, d⟩, _⟩ := I.list h
  obtain ⟨its', r', ⟨o', n', e', _, _, d'⟩, _⟩ := I.list h'
  rw [e] at e'; cases e'
  rw [d] at d'
  injection d' with d1 _
  have : its = its' := by simpa using congrArg Array.toList d1
  subst this
  exact r.inj r'
end

/-! ### another wish about exceptions -/
abbrev Cx.wish (X : Cx) (E : Value → Shared → Prop) : Cx := { X with xe := E }
/-- no exception leaves -/
abbrev Cx.nox (X : Cx) : Cx := X.wish fun _ _ => False
theorem Cx.Ok.wish {X : Cx} (ok : X.Ok) (E : Value → Shared → Prop) : (X.wish E).Ok :=
  ⟨ok.mod, ok.kind, ok.glob, ok.blt, ok.above, ok.inj, ok.has, ok.cab, ok.hd, ok.frames, ok.stk, ok.exf, ok.bs, ok.bsz, ok.noex, ok.exfs, ok.funs, ok.frf⟩
theorem Cx.Ok.unwish {X : Cx} {E : Value → Shared → Prop} (ok : (X.wish E).Ok) : X.Ok :=
  ⟨ok.mod, ok.kind, ok.glob, ok.blt, ok.above, ok.inj, ok.has, ok.cab, ok.hd, ok.frames, ok.stk, ok.exf, ok.bs, ok.bsz, ok.noex, ok.exfs, ok.funs, ok.frf⟩
section
variable {X : Cx} {pins : List (Addr × Obj)} {σ : St} {H : Hp} {s : Shared} {E : Value → Shared → Prop}
theorem Inv.wish (I : Inv X pins σ H s) (E : Value → Shared → Prop) : Inv (X.wish E) pins σ H s := ⟨I.ok.wish E, I.os, I.bare, I.base, I.loc, I.cell, I.free, I.freeC, I.pin, I.hok, I.len⟩
theorem Inv.unwish (I : Inv (X.wish E) pins σ H s) : Inv X pins σ H s := ⟨I.ok.unwish, I.os, I.bare, I.base, I.loc, I.cell, I.free, I.freeC, I.pin, I.hok, I.len⟩
theorem SP.unwish {D : Ends} {f : Flow} {s' : Shared} (h : SP (X.wish E) pins D f s') : SP X pins D f s' := by
  cases f with
  | next => obtain ⟨σ', H', I, q⟩ := h; exact ⟨σ', H', I.unwish, q⟩
  | brk => obtain ⟨σ', H', I, q⟩ := h; exact ⟨σ', H', I.unwish, q⟩
  | cont => obtain ⟨σ', H', I, q⟩ := h; exact ⟨σ', H', I.unwish, q⟩
  | ret u => obtain ⟨v, σ', H', I, r, q⟩ := h; exact ⟨v, σ', H', I.unwish, r, q⟩
theorem PSs.nox {st : List Stmt} {t : TS} (h : PSs X.nox st t) : PSs X st t := fun pins s σ H D I hw =>
  wpAny_mono (h pins s σ H D (I.wish _) hw) (fun _ _ q => q.unwish) fun _ _ z => False.elim z
end

/-! ### blocks and small statements -/
section
variable {X : Cx} {st : Stmt} {rest : List Stmt} {t u : TS} {e : Expr} {te : TE} {pos : Pos}
def tNext : TS := fun D σ H => D.nx σ H
def tSeq (t u : TS) : TS := fun D σ H => t { D with nx := u D } σ H
theorem pss_nil : PSs X [] tNext := fun _ _ σ H _ I h => wpAny_execs_nil ⟨σ, H, I, h⟩
theorem pss_cons (h1 : PS X st t) (h2 : PSs X rest u) : PSs X (st :: rest) (tSeq t u) := by
  intro pins s σ H D I h
  refine wpAny_execs_cons (thn (h1 pins s σ H { D with nx := u D } I h) fun f s1 q => ?_)
  cases f with
  | next =>
    obtain ⟨σ', H', I', q⟩ := q
    exact h2 pins s1 σ' H' D I' q
  | ret v => exact q
  | brk => exact q
  | cont => exact q
theorem pss_one (h1 : PS X st t) : PSs X [st] t := by
  intro pins s σ H D I h
  refine wpAny_execs_cons (thn (h1 pins s σ H D I h) fun f s1 q => ?_)
  cases f with
  | next => exact wpAny_execs_nil q
  | ret v => exact q
  | brk => exact q
  | cont => exact q
/-- in a def's body nothing is shown -/
theorem Inv.quiet {pins : List (Addr × Obj)} {σ : St} {H : Hp} {s : Shared} (I : Inv X pins σ H s) : interactive X.env = false := by simp [interactive, I.ok.kind]
/-- an expression whose value is dropped -/
def tDrop (te : TE) : TS := fun D σ H => te σ H fun _ H1 => D.nx σ H1
theorem ps_expr (he : PE X e te) (hs : swapsWith e none pos.line X.env = pure false := by rfl) : PS X (.Expr e pos) (tDrop te) := by
  intro pins s σ H D I h
  exact wpAny_Expr_any (thn (he pins s σ H _ I h) fun v s1 ⟨x, H1, I1, r1, q1⟩ => ⟨σ, H1, I1, q1⟩) I.quiet hs
def tRet (te : TE) : TS := fun D σ H => te σ H D.rt
theorem ps_ret (he : PE X e te) : PS X (.Return (some e) pos) (tRet te) := by
  intro pins s σ H D I h
  exact wpAny_Return_some (thn (he pins s σ H _ I h) fun v s1 ⟨x, H1, I1, r1, q1⟩ => ⟨x, σ, H1, I1, r1, q1⟩)
def tIfS (c : TT) (t u : TS) : TS := fun D σ H => c σ H fun b H1 => if b = true then t D σ H1 else u D σ H1
theorem ps_if {c : Expr} {a b : List Stmt} {tc : TT} (hc : PT X c tc) (ha : PSs X a t) (hb : PSs X b u) : PS X (.If c a b pos) (tIfS tc t u) := by
  intro pins s σ H D I h
  refine wpAny_If (thn (hc pins s σ H _ I h) fun d s1 ⟨H1, I1, q1⟩ => ?_)
  cases d with
  | true => exact ha pins s1 σ H1 D I1 q1
  | false => exact hb pins s1 σ H1 D I1 q1
end

/-! ### targets -/
abbrev TG := V → St → Hp → (St → Hp → Prop) → Prop
abbrev TGs := List V → St → Hp → (St → Hp → Prop) → Prop
def PG (X : Cx) (target : Expr) (t : TG) : Prop :=
  ∀ (pins : List (Addr × Obj)) (s : Shared) (σ : St) (H : Hp) (v : V) (u : Value) (Q : St → Hp → Prop), Inv X pins σ H s → RelV v u → t v σ H Q →
    wpAny (model X.prog X.w) X.A (assign target X.env u) (fun _ s' => ∃ σ' H', Inv X pins σ' H' s' ∧ Q σ' H') X.xe s
/-- several targets, one after another -/
def PGs (X : Cx) (ts : List Expr) (t : TGs) : Prop :=
  ∀ (pins : List (Addr × Obj)) (s : Shared) (σ : St) (H : Hp) (vs : List V) (us : List Value) (Q : St → Hp → Prop), Inv X pins σ H s → Vals vs us → t vs σ H Q →
    wpAny (model X.prog X.w) X.A (assignInOrder ((assignEach ts X.env).map (·.2)) us) (fun _ s' => ∃ σ' H', Inv X pins σ' H' s' ∧ Q σ' H') X.xe s
section
variable {X : Cx} {pos : Pos}
def gName (i : Nat) : TG := fun v σ H Q => Q (σ.set i (some v)) H
theorem pg_name {i : Nat} {x : Str} (hN : X.N.Nodup) (hi : X.N[i]? = some x) (hx : Loc X.env.scope x) (hf : X.fn x = true ∨ X.env.scope.names.lookup x = some .local := by first | exact .inl rfl | exact .inr rfl | assumption) : PG X (.Name x pos) (gName i) := by
  intro pins s σ H v u Q I r h
  exact wpAny_assign_Name (store_ok I hN hi hx r (fun s' I' => ⟨_, H, I', h⟩) hf)
def gNil : TGs := fun vs σ H Q => vs = [] ∧ Q σ H
def gCons (t : TG) (u : TGs) : TGs := fun vs σ H Q => ∃ v r, vs = v :: r ∧ t v σ H fun σ' H' => u r σ' H' Q
theorem pgs_nil : PGs X [] gNil := by
  intro pins s σ H vs us Q I r h
  obtain ⟨e, h⟩ := h
  subst e
  cases r
  exact assignInOrder_nil ⟨σ, H, I, h⟩
theorem pgs_cons {e : Expr} {es : List Expr} {t : TG} {u : TGs} (h1 : PG X e t) (h2 : PGs X es u)
    (hs : (assignEach (e :: es) X.env).map (·.2) = assign e X.env :: (assignEach es X.env).map (·.2) := by rfl) : PGs X (e :: es) (gCons t u) := by
  intro pins s σ H vs us Q I r h
  obtain ⟨v, vr, e1, h⟩ := h
  subst e1
  cases r with
  | cons r rr =>
    rw [hs]
    refine assignInOrder_cons (thn (h1 pins s σ H _ _ _ I r h) fun _ s1 ⟨σ1, H1, I1, q1⟩ => ?_)
    exact h2 pins s1 σ1 H1 _ _ Q I1 rr q1
/-- (a, b, ..) = a tuple of that length -/
def gTup (K : PySem.W.Frag) (n : Nat) (t : TGs) : TG := fun v σ H Q => ∃ a xs, v = .ref a ∧ SqT K H a xs ∧ xs.length = n ∧ t xs σ H Q
theorem pg_tup {es : List Expr} {k : Nat} {t : TGs} {n : Nat} (hc : X.calm = true) (h : PGs X es t)
    (hn : (assignEach es X.env).length = n := by rfl) (hst : (assignEach es X.env).findIdx? (·.1) = none := by rfl) : PG X (.Tuple es k pos) (gTup X.K n t) := by
  intro pins s σ H v u Q I r hw
  obtain ⟨a, xs, e1, hq, hl, hw⟩ := hw
  subst e1
  cases r
  obtain ⟨its, rv, ht, hz⟩ := I.tuple hq
  refine assign_Tuple_tuple (I.ok.hd hc) ht (by simp [hn, ← hl, rv.length]) hst fun h' hx => ?_
  have I1 : Inv X pins σ H { s with heap := h' } := I.kept (t' := s.toks) fun b o e => hx b o (Nat.ne_of_lt (Heap.lt_size e)) e
  exact h pins _ σ H xs _ Q I1 (by simpa using rv) hw
/-- target = value -/
def tAsg (te : TE) (g : TG) : TS := fun D σ H => te σ H fun x H1 => g x σ H1 D.nx
/-- name = value -/
theorem ps_set {i : Nat} {x : Str} {e : Expr} {te : TE} {pos' : Pos} (hN : X.N.Nodup) (hi : X.N[i]? = some x) (hx : Loc X.env.scope x) (he : PE X e te) (hs : swapsWith e (some (.Name x pos')) pos.line X.env = pure false := by rfl) (hf : X.fn x = true ∨ X.env.scope.names.lookup x = some .local := by first | exact .inl rfl | exact .inr rfl | assumption) :
    PS X (.Assign [.Name x pos'] e pos) (tAsg te (gName i)) := by
  intro pins s σ H D I h
  refine wpAny_Assign_Name (thn (he pins s σ H _ I h) fun v s1 ⟨y, H1, I1, r1, q1⟩ => ?_) hs
  exact store_ok I1 hN hi hx r1 (fun s2 I2 => ⟨_, H1, I2, q1⟩) hf
end

/-! ### while -/
section
variable {X : Cx} {pos : Pos}
/-- the invariant W with its measure -/
def tWhile (c : TT) (tb : TS) : TS := fun D σ H => ∃ W : Nat → St → Hp → Prop, (∃ m, W m σ H) ∧ ∀ m σ H, W m σ H →
  c σ H fun b H1 => if b = true then ∃ N : St → Hp → Prop, (∀ σ' H', N σ' H' → ∃ m', m' < m ∧ W m' σ' H') ∧ tb { D with nx := N, ct := N, bk := D.nx } σ H1 else D.nx σ H1
theorem ps_while {c : Expr} {body : List Stmt} {tc : TT} {tb : TS} (hp : PassesOwn (model X.prog X.w) X.A X.env X.xe) (hc : PT X c tc) (hb : PSs X body tb) : PS X (.While c body [] pos) (tWhile tc tb) := by
  intro pins s σ H D I h
  obtain ⟨W, ⟨m0, w0⟩, turn⟩ := h
  refine wpAny_While (codeAny_whileLoop (fun n s' => ∃ σ' H', Inv X pins σ' H' s' ∧ W n σ' H') ?_ m0 ⟨σ, H, I, w0⟩)
  rintro n s1 ⟨σ1, H1, I1, w1⟩
  refine wpAny_passesOwn hp (thn (hc pins s1 σ1 H1 _ I1 (turn n σ1 H1 w1)) fun b s2 ⟨H2, I2, q2⟩ => ?_)
  cases b with
  | true =>
    obtain ⟨N, hN, q2⟩ := q2
    rw [if_pos rfl]
    refine wpAny_passesOwn hp (thn (hb pins s2 σ1 H2 _ I2 q2) fun f s3 q3 => ?_)
    cases f with
    | next =>
      obtain ⟨σ3, H3, I3, n3⟩ := q3
      obtain ⟨m', hm, w3⟩ := hN σ3 H3 n3
      exact ⟨m', hm, σ3, H3, I3, w3⟩
    | cont =>
      obtain ⟨σ3, H3, I3, n3⟩ := q3
      obtain ⟨m', hm, w3⟩ := hN σ3 H3 n3
      exact ⟨m', hm, σ3, H3, I3, w3⟩
    | brk => exact q3
    | ret v => exact q3
  | false =>
    rw [if_neg Bool.false_ne_true]
    exact wpAny_execs_nil ⟨σ1, H2, I2, q2⟩
end

/-! ### what a loop or a comprehension walks -/
/-- at turn i: it yields x (the heap may grow), or it stops -/
structure It where
  go : Nat → Hp → Prop
  yld : Nat → Hp → V → Hp → Prop
  stop : Nat → Hp → Prop
/-- the iterator's own objects may turn: they are not the frame's, not pinned, younger than the entry (or a comprehension's own) -/
def FpOk (X : Cx) (pins : List (Addr × Obj)) (H : Hp) (b : Addr) : Prop :=
  H b = none ∧ b ≠ X.env.locals ∧ b ∉ X.fs ∧ (b ∈ X.ex ∨ X.s_0.heap.objs.size ≤ b) ∧ (∀ x c, X.env.cells.lookup x = some c → c ≠ b) ∧ ∀ p ∈ X.pn ++ pins, p.1 ≠ b
theorem Inv.fpOk {X : Cx} {pins : List (Addr × Obj)} {σ : St} {H H' : Hp} {s : Shared} {b : Addr} (I : Inv X pins σ H s) (hb : s.heap.objs.size ≤ b) (hn : H' b = none) : FpOk X pins H' b := by
  refine ⟨hn, Nat.ne_of_gt (Nat.lt_of_lt_of_le I.lt hb), I.nofs hb, .inr (Nat.le_trans I.sz hb), fun x c e z => ?_, fun p hp z => ?_⟩
  · obtain ⟨v, q⟩ := I.cell x c e
    exact absurd (Nat.lt_of_lt_of_le q.lt (by rw [z]; exact hb)) (Nat.lt_irrefl _)
  · exact absurd (Nat.lt_of_lt_of_le (Heap.lt_size (I.pin p hp).1) (by rw [z]; exact hb)) (Nat.lt_irrefl _)
structure Turn (P : Program) (w : World) (K : PySem.W.Frag) (tg : Expr) (J : It) (fp : List Addr) (it : Addr) (tn : Nat → Heap → Prop) : Prop where
  mem : it ∈ fp
  obj : ∀ i h, tn i h → ∀ b ∈ fp, ∃ o, h.get? b = some o ∧ ∀ v, o.data ≠ .cell v
  keep : ∀ i h h', tn i h → (∀ b ∈ fp, ∀ o, h.get? b = some o → h'.get? b = some o) → tn i h'
  item : ∀ (X : Cx), X.prog = P → X.w = w → X.K = K → X.calm = true → ∀ (i : Nat) (pins : List (Addr × Obj)) (s : Shared) (σ : St) (H : Hp) (E : Value → Shared → Prop), Inv X pins σ H s → (∀ b ∈ fp, FpOk X pins H b) → tn i s.heap → J.go i H →
    wpAny (model P w) X.A (pyNext (.ref it)) (fun r s1 => ∃ u, r = some u ∧
      wpAny (model P w) X.A (letOwnedTupleGo tg (.ref it) u) (fun _ s2 => ∃ x H', Inv X pins σ H' s2 ∧ RelV x u ∧ J.yld i H x H' ∧ tn (i + 1) s2.heap ∧ ∀ b ∈ fp, H' b = none) E s1) E s
  done : ∀ (X : Cx), X.prog = P → X.w = w → X.K = K → X.calm = true → ∀ (i : Nat) (pins : List (Addr × Obj)) (s : Shared) (σ : St) (H : Hp) (E : Value → Shared → Prop), Inv X pins σ H s → (∀ b ∈ fp, FpOk X pins H b) → tn i s.heap → J.stop i H →
    wpAny (model P w) X.A (pyNext (.ref it)) (fun r s1 => r = none ∧ Inv X pins σ H s1) E s
  self : ∀ (A : Around) (i : Nat) (s : Shared) (Q : Value → Shared → Prop) (E : Value → Shared → Prop), tn i s.heap → Q (.ref it) s → wpAny (model P w) A (pyIter (.ref it)) Q E s
abbrev TI := St → Hp → (It → Hp → Prop) → Prop
/-- an iterator has come -/
def PIE (X : Cx) (pins : List (Addr × Obj)) (σ : St) (tg : Expr) (R : It → Hp → Prop) (itv : Value) (s2 : Shared) : Prop :=
  ∃ (it : Addr) (fp : List Addr) (tn : Nat → Heap → Prop) (J : It) (H' : Hp), itv = .ref it ∧ Inv X pins σ H' s2 ∧ Turn X.prog X.w X.K tg J fp it tn ∧ tn 0 s2.heap ∧ (∀ b ∈ fp, FpOk X pins H' b) ∧ R J H'
def PI (X : Cx) (tg iter : Expr) (wi : TI) : Prop :=
  ∀ (pins : List (Addr × Obj)) (s : Shared) (σ : St) (H : Hp) (R : It → Hp → Prop), Inv X pins σ H s → wi σ H R →
    wpAny (model X.prog X.w) X.A (eval iter X.env) (fun v s1 => wpAny (model X.prog X.w) X.A (pyIter v) (PIE X pins σ tg R) X.xe s1) X.xe s

/-- the step ahead of the store is nothing for an iterator that keeps no tuple -/
theorem go_of {M : Model} {A : Around} {E : Value → Shared → Prop} {s : Shared} {tg : Expr} {it : Addr} {u : Value} {o : Obj} {n : String} {vs : Array Value} {Q : Unit → Shared → Prop} (ho : s.heap.get? it = some o) (hc : o.cls = .type n) (hd : o.data = .fields vs)
    (hn : ["enumerate", "zip", "dict_itemiterator", "dict_reverseitemiterator", "odict_iterator", "itertools.zip_longest", "itertools.pairwise"].contains n = false) (hQ : Q () s) : wpAny M A (letOwnedTupleGo tg (.ref it) u) Q E s := by
  unfold letOwnedTupleGo
  cases tg <;> first
    | exact wpAny_pure hQ
    | (cases u <;> first
        | exact wpAny_pure hQ
        | (refine wpAny_bind (wpAny_load ho ?_)
           rw [hc, hd]
           show wpAny M A (if (["enumerate", "zip", "dict_itemiterator", "dict_reverseitemiterator", "odict_iterator", "itertools.zip_longest", "itertools.pairwise"].contains n && vs[0]? == some (rawInt _)) = true then _ else _) Q E s
           rw [if_neg (by intro h; rw [hn, Bool.false_and] at h; cases h)]
           exact wpAny_pure hQ))

/-- the list at a, as it stands at each turn (a loop may append to it) -/
def Itl (K : PySem.W.Frag) (a : Addr) : It :=
  ⟨fun i H => ∃ xs x, SqL K H a xs ∧ xs[i]? = some x, fun i H x H' => H' = H ∧ ∀ xs, SqL K H a xs → xs[i]? = some x, fun i H => ∃ xs, SqL K H a xs ∧ xs.length ≤ i⟩
/-- lo, lo + 1, .. (n of them) -/
def Itr (lo : Int) (n : Nat) : It := ⟨fun i _ => i < n, fun i H x H' => H' = H ∧ x = .int (lo + i), fun i _ => n ≤ i⟩
theorem turn_list {P : Program} {w : World} {K : PySem.W.Frag} {tg : Expr} (a it : Addr) : Turn P w K tg (Itl K a) [it] it (fun i h => h.IsListIter it a i) where
  mem := by simp
  obj := fun i h st b hb => by
    have e : b = it := by simpa using hb
    subst e
    obtain ⟨o, e, c, d⟩ := st
    exact ⟨o, e, fun v z => by rw [d] at z; cases z⟩
  keep := fun i h h' st k => st.at fun o e => k it (by simp) o e
  item := by
    intro X hP hw hK hc i pins s σ H E I hf st hg
    subst hP hw hK
    obtain ⟨xs, x, hq, hx⟩ := hg
    obtain ⟨its, rv, p, hz⟩ := I.list hq
    obtain ⟨u, hu, ru⟩ := rv.get hx
    obtain ⟨f0, f1, f2, f3, f4, f5⟩ := hf it (by simp)
    refine wpAny_pyNext_list_item st p.isList (x := u) (by simpa using hu) fun h' st' sb => ?_
    have I1 : Inv X pins σ H { s with heap := h' } := I.turned (t' := s.toks) (fun b o hb e => (sb.2 b hb).trans e) f0 f1 f3 f4 f5
    obtain ⟨o, e, c, d⟩ := id st'
    exact ⟨u, rfl, go_of (s := { s with heap := h' }) e c d (by decide) ⟨x, H, I1, ru, ⟨rfl, fun ys hy => by rw [I.list_inj hy hq]; exact hx⟩, st', fun b hb => (hf b hb).1⟩⟩
  done := by
    intro X hP hw hK hc i pins s σ H E I hf st hg
    subst hP hw hK
    obtain ⟨xs, hq, hx⟩ := hg
    obtain ⟨its, rv, p, hz⟩ := I.list hq
    obtain ⟨f0, f1, f2, f3, f4, f5⟩ := hf it (by simp)
    have hl := rv.length
    exact wpAny_pyNext_list_end (I.ok.hd hc) st p.isList (by simp; omega) fun h' eb => ⟨rfl, I.turned (t' := s.toks) (fun b o hb e => eb b o hb e) f0 f1 f3 f4 f5⟩
  self := fun _ _ _ _ _ st h => wpAny_pyIter_listiter st h
theorem turn_range {P : Program} {w : World} {K : PySem.W.Frag} {tg : Expr} (it : Addr) (lo : Int) (n : Nat) : Turn P w K tg (Itr lo n) [it] it (fun i h => IsRangeIter h it (lo + (i : Nat) * 1) ((n : Int) - (i : Nat)) 1) where
  mem := by simp
  obj := fun i h st b hb => by
    have e : b = it := by simpa using hb
    subst e
    exact ⟨_, st, fun v z => by
      have z' : Data.fields _ = Data.cell v := z
      cases z'⟩
  keep := fun i h h' st k => k it (by simp) _ st
  item := by
    intro X hP hw hK hc i pins s σ H E I hf st hg
    subst hP hw hK
    obtain ⟨f0, f1, f2, f3, f4, f5⟩ := hf it (by simp)
    have W := Walks.range (prog := X.prog) (w := X.w) (I.ok.hd hc) it lo 1 n
    refine W.item i s _ _ hg st fun v h' tk hv st' kk => ?_
    obtain ⟨t, rfl⟩ := hv
    have I1 : Inv X pins σ H { s with heap := h', toks := tk } := I.turned (fun b o hb e => kk b o (by simpa using hb) e) f0 f1 f3 f4 f5
    refine ⟨_, rfl, go_of (s := { s with heap := h', toks := tk }) (n := "range_iterator") st' rfl rfl (by decide) ⟨.int (lo + i), H, I1, ⟨t, ?_⟩, ⟨rfl, rfl⟩, st', fun b hb => (hf b hb).1⟩⟩
    rw [Int.mul_one]
  done := by
    intro X hP hw hK hc i pins s σ H E I hf st hg
    subst hP hw hK
    obtain ⟨f0, f1, f2, f3, f4, f5⟩ := hf it (by simp)
    exact wpAny_pyNext_range_end (I.ok.hd hc) st (by have : n ≤ i := hg; omega) fun h' eb => ⟨rfl, I.turned (t' := s.toks) (fun b o hb e => eb b o hb e) f0 f1 f3 f4 f5⟩
  self := fun _ _ _ _ _ st h => wpAny_pyIter_rangeiter st h
end L2

namespace L2
open PySem PySem.Spec PyProof.Rows
section
variable {X : Cx} {tg : Expr}
def iList (K : PySem.W.Frag) (tl : TE) : TI := fun σ H R => tl σ H fun x H1 => ∃ a, x = .ref a ∧ (∃ xs, SqL K H1 a xs) ∧ R (Itl K a) H1
theorem pi_list {l : Expr} {tl : TE} (hl : PE X l tl) : PI X tg l (iList X.K tl) := by
  intro pins s σ H R I h
  refine thn (hl pins s σ H _ I h) fun v s1 ⟨x, H1, I1, r1, q1⟩ => ?_
  obtain ⟨a, e, ⟨xs, hq⟩, q⟩ := q1
  subst e
  cases r1
  obtain ⟨its, rv, p, hz⟩ := I1.list hq
  refine wpAny_pyIter_list p.isList ?_
  refine ⟨s1.heap.objs.size, [s1.heap.objs.size], _, _, H1, rfl, I1.kept (t' := s1.toks) fun b o e => Heap.get?_push_of_some _ e, turn_list a _, ⟨_, Heap.get?_push_size _ rfl, rfl, rfl⟩, fun b hb => ?_, q⟩
  have e : b = s1.heap.objs.size := by simpa using hb
  subst e
  exact I1.fpOk (Nat.le_refl _) (I1.hok.fresh (Nat.le_refl _))
/-- a range object just made, walked -/
theorem range_it {pins : List (Addr × Obj)} {σ : St} {H : Hp} {s : Shared} {R : It → Hp → Prop} {E : Value → Shared → Prop} {lo hi : Int} {t u v : Tok} {tk : Nat} (I : Inv X pins σ H s) (h1 : -(2 ^ 62) ≤ lo) (h2 : lo < 2 ^ 62) (h3 : -(2 ^ 62) ≤ hi) (h4 : hi < 2 ^ 62)
    (q : R (Itr lo (hi - lo).toNat) H) : wpAny (model X.prog X.w) X.A (pyIter (.ref s.heap.objs.size)) (PIE X pins σ tg R) E { s with heap := s.heap.push { cls := .type "range", data := .fields #[.int lo t, .int hi u, .int 1 v] }, toks := tk } := by
  refine wpAny_pyIter_range (IsRange.new ..) (small_one h1 h2 h3 h4) ?_
  have I1 : Inv X pins σ H { s with heap := s.heap.push { cls := .type "range", data := .fields #[.int lo t, .int hi u, .int 1 v] }, toks := tk } := I.kept fun b o e => Heap.get?_push_of_some _ e
  refine ⟨(s.heap.push { cls := .type "range", data := .fields #[.int lo t, .int hi u, .int 1 v] }).objs.size, [(s.heap.push { cls := .type "range", data := .fields #[.int lo t, .int hi u, .int 1 v] }).objs.size], _, _, H, rfl,
    I1.kept (t' := tk) fun b o e => Heap.get?_push_of_some _ e, turn_range _ lo (hi - lo).toNat, ?_, fun b hb => ?_, q⟩
  · have e1 : lo + ((0 : Nat) : Int) * 1 = lo := by simp
    have e2 : (((hi - lo).toNat : Nat) : Int) - ((0 : Nat) : Int) = Builtin.Range.rangeSize lo hi 1 := by rw [rangeSize_one]; split <;> omega
    show IsRangeIter _ _ (lo + ((0 : Nat) : Int) * 1) ((((hi - lo).toNat : Nat) : Int) - ((0 : Nat) : Int)) 1
    rw [e1, e2]
    exact Heap.get?_push_size _ rfl
  · have e : b = (s.heap.push { cls := .type "range", data := .fields #[.int lo t, .int hi u, .int 1 v] }).objs.size := by simpa using hb
    subst e
    exact I1.fpOk (Nat.le_refl _) (I1.hok.fresh (Nat.le_refl _))
def iRng1 (ta : TA) : TI := fun σ H R => ta σ H fun vs H1 => ∃ j : Int, vs = [.int j] ∧ -(2 ^ 62) ≤ j ∧ j < 2 ^ 62 ∧ R (Itr 0 j.toNat) H1
theorem pi_range1 {a : Expr} {ta : TA} {p pos : Pos} (hg : Gl X "range") (hm : X.mg "range" = none) (ha : PA X [a] ta) (hs : starEach [a] X.env = [(false, eval a X.env)] := by rfl) : PI X tg (.Call (.Name "range" p) [a] [] pos) (iRng1 ta) := by
  intro pins s σ H R I h
  refine Call_ (ld_blt I hg hm boot_range (PyProof.Rows.callWith_type1 (thn (ha pos pins s σ H _ I h) fun us s1 ⟨vs, H1, I1, r1, q1⟩ => ?_) hs rfl))
  obtain ⟨j, e, q1, q2, q⟩ := q1
  subst e
  cases r1 with
  | cons r rr =>
    cases rr
    obtain ⟨t, rfl⟩ := r
    exact call_range_1 (range_it I1 (by omega) (by omega) q1 q2 (by simpa using q))

/-! ### for -/
/-- W: the invariant by the turn and a measure; N: what the body is to reach -/
def tFor (wi : TI) (g : TG) (tb : TS) : TS := fun D σ H => wi σ H fun J H1 => ∃ W : Nat → Nat → St → Hp → Prop, (∃ m, W 0 m σ H1) ∧ ∀ i m σ H, W i m σ H →
  (J.stop i H ∧ D.nx σ H) ∨ (J.go i H ∧ ∃ N : St → Hp → Prop, (∀ σ' H', N σ' H' → ∃ m', m' < m ∧ W (i + 1) m' σ' H') ∧ ∀ x H', J.yld i H x H' → g x σ H' fun σ2 H2 => tb { D with nx := N, ct := N, bk := D.nx } σ2 H2)
/-- the records at fp as they stand -/
def pinsAt (fp : List Addr) (h : Heap) : List (Addr × Obj) := fp.filterMap fun b => (h.get? b).map fun o => (b, o)
theorem mem_pinsAt {fp : List Addr} {h : Heap} {b : Addr} {o : Obj} (hb : b ∈ fp) (e : h.get? b = some o) : (b, o) ∈ pinsAt fp h := List.mem_filterMap.mpr ⟨b, hb, by rw [e]; rfl⟩
theorem of_pinsAt {fp : List Addr} {h : Heap} {p : Addr × Obj} (hp : p ∈ pinsAt fp h) : p.1 ∈ fp ∧ h.get? p.1 = some p.2 := by
  obtain ⟨b, hb, e⟩ := List.mem_filterMap.mp hp
  cases q : h.get? b with
  | none => rw [q] at e; cases e
  | some o =>
    rw [q] at e
    have e' : (b, o) = p := Option.some.inj e
    subst e'
    exact ⟨hb, q⟩
theorem Inv.pinned {pins : List (Addr × Obj)} {σ : St} {H : Hp} {s : Shared} {fp : List Addr} (I : Inv X pins σ H s) (hf : ∀ b ∈ fp, FpOk X pins H b) (ho : ∀ b ∈ fp, ∃ o, s.heap.get? b = some o ∧ ∀ v, o.data ≠ .cell v) : Inv X (pins ++ pinsAt fp s.heap) σ H s :=
  I.pins_of fun p hp => (List.mem_append.mp hp).elim (fun z => I.pin p (List.mem_append_right _ z)) fun z => by
    obtain ⟨hb, e⟩ := of_pinsAt z
    obtain ⟨f0, f1, f2, _⟩ := hf p.1 hb
    obtain ⟨o, e', d⟩ := ho p.1 hb
    rw [e] at e'; cases e'
    exact ⟨e, f0, f1, f2, d⟩
theorem Inv.unpinned {pins pl : List (Addr × Obj)} {σ : St} {H : Hp} {s : Shared} (I : Inv X (pins ++ pl) σ H s) : Inv X pins σ H s := I.pins_of fun p hp => I.pin p (List.mem_append_right _ (List.mem_append_left _ hp))
theorem ps_for {iter : Expr} {body : List Stmt} {wi : TI} {g : TG} {tb : TS} {pos : Pos} (hp : PassesOwn (model X.prog X.w) X.A X.env X.xe) (hc : X.calm = true) (hi : PI X tg iter wi) (hg : PG X tg g) (hb : PSs X body tb)
    (hs : ∀ x, foldedSetIterable iter X.env x = pure x := by intro _; rfl) : PS X (.For tg iter body [] pos) (tFor wi g tb) := by
  intro pins s σ H D I h
  refine wpAny_For (thn (hi pins s σ H _ I h) fun v s1 h1 => thn h1 fun itv s2 h2 => ?_) hs
  obtain ⟨it, fp, tn, J, H2, e, I2, T, st2, f2, W, ⟨m0, w0⟩, turn⟩ := h2
  subst e
  -- what stays true of the iterator's objects through the loop
  have stat : ∀ {H' : Hp}, (∀ b ∈ fp, H' b = none) → ∀ b ∈ fp, FpOk X pins H' b := fun hn b hb => ⟨hn b hb, (f2 b hb).2⟩
  refine codeAny_forLoop_any (fun n s' => ∃ i σ' H', Inv X pins σ' H' s' ∧ tn i s'.heap ∧ (∀ b ∈ fp, H' b = none) ∧ W i n σ' H') ?_ m0 ⟨0, σ, H2, I2, st2, fun b hb => (f2 b hb).1, w0⟩
  rintro n s3 ⟨i, σ3, H3, I3, st3, fr3, w3⟩
  rcases turn i n σ3 H3 w3 with ⟨stop, qn⟩ | ⟨go, N, hN, step⟩
  · refine wpAny_passesOwn hp (thn (T.done X rfl rfl rfl hc i pins s3 σ3 H3 X.xe I3 (stat fr3) st3 stop) fun r s4 ⟨hr, I4⟩ => ?_)
    subst hr
    exact wpAny_execs_nil ⟨σ3, H3, I4, qn⟩
  · refine wpAny_passesOwn hp (thn (T.item X rfl rfl rfl hc i pins s3 σ3 H3 X.xe I3 (stat fr3) st3 go) fun r s4 ⟨u, hr, h4⟩ => ?_)
    subst hr
    refine wpAny_passesOwn hp (thn h4 fun _ s5 ⟨x, H5, I5, r5, y5, st5, fr5⟩ => ?_)
    have I5' := I5.pinned (stat fr5) (T.obj _ _ st5)
    refine wpAny_passesOwn hp (thn (hg _ s5 σ3 H5 x u _ I5' r5 (step x H5 y5)) fun _ s6 ⟨σ6, H6, I6, q6⟩ => ?_)
    refine wpAny_passesOwn hp (thn (hb _ s6 σ6 H6 _ I6 q6) fun f s7 q7 => ?_)
    have again : ∀ {σ7 : St} {H7 : Hp}, Inv X (pins ++ pinsAt fp s5.heap) σ7 H7 s7 → N σ7 H7 → ∃ m, m < n ∧ ∃ i σ' H', Inv X pins σ' H' s7 ∧ tn i s7.heap ∧ (∀ b ∈ fp, H' b = none) ∧ W i m σ' H' := fun {σ7 H7} I7 n7 => by
      obtain ⟨m', hm, w7⟩ := hN σ7 H7 n7
      refine ⟨m', hm, i + 1, σ7, H7, I7.unpinned, T.keep _ _ _ st5 fun b hb o e => (I7.pin (b, o) (List.mem_append_right _ (List.mem_append_right _ (mem_pinsAt hb e)))).1, fun b hb => ?_, w7⟩
      obtain ⟨o, e, d⟩ := T.obj _ _ st5 b hb
      exact (I7.pin (b, o) (List.mem_append_right _ (List.mem_append_right _ (mem_pinsAt hb e)))).2.1
    cases f with
    | next => obtain ⟨σ7, H7, I7, n7⟩ := q7; exact again I7 n7
    | cont => obtain ⟨σ7, H7, I7, n7⟩ := q7; exact again I7 n7
    | brk => obtain ⟨σ7, H7, I7, q7⟩ := q7; exact ⟨σ7, H7, I7.unpinned, q7⟩
    | ret v => obtain ⟨x7, σ7, H7, I7, r7, q7⟩ := q7; exact ⟨x7, σ7, H7, I7.unpinned, r7, q7⟩
end

/-! ### the forms one uses -/
/-- over a list that the body leaves as it is -/
theorem for_list {K : PySem.W.Frag} {a : Addr} {xs : List V} {g : TG} {tb : TS} {D : Ends} {σ : St} {H : Hp} (Pv : Nat → St → Hp → Prop) (h0 : Pv 0 σ H) (hl : ∀ i σ H, i ≤ xs.length → Pv i σ H → SqL K H a xs)
    (hs : ∀ i x σ H, xs[i]? = some x → Pv i σ H → g x σ H fun σ2 H2 => tb { D with nx := Pv (i + 1), ct := Pv (i + 1), bk := D.nx } σ2 H2) (hd : ∀ σ H, Pv xs.length σ H → D.nx σ H) :
    ∃ W : Nat → Nat → St → Hp → Prop, (∃ m, W 0 m σ H) ∧ ∀ i m σ H, W i m σ H →
      ((Itl K a).stop i H ∧ D.nx σ H) ∨ ((Itl K a).go i H ∧ ∃ N : St → Hp → Prop, (∀ σ' H', N σ' H' → ∃ m', m' < m ∧ W (i + 1) m' σ' H') ∧ ∀ x H', (Itl K a).yld i H x H' → g x σ H' fun σ2 H2 => tb { D with nx := N, ct := N, bk := D.nx } σ2 H2) := by
  refine ⟨fun i m σ H => m = xs.length - i ∧ i ≤ xs.length ∧ Pv i σ H, ⟨xs.length, by simp, Nat.zero_le _, h0⟩, ?_⟩
  rintro i m σ H ⟨rfl, hi, p⟩
  have q := hl i σ H hi p
  by_cases hlt : i < xs.length
  · refine .inr ⟨⟨xs, xs[i], q, by simp [hlt]⟩, Pv (i + 1), fun σ' H' p' => ⟨xs.length - (i + 1), by omega, rfl, hlt, p'⟩, fun x H' y => ?_⟩
    obtain ⟨e, y⟩ := y
    subst e
    exact hs i x σ _ (y xs q) p
  · have e : i = xs.length := by omega
    subst e
    exact .inl ⟨⟨xs, q, Nat.le_refl _⟩, hd σ H p⟩
/-- while, by a word and a measure of the state -/
theorem while_by {c : TT} {tb : TS} {D : Ends} {σ : St} {H : Hp} (Pv : St → Hp → Prop) (μ : St → Hp → Nat) (h0 : Pv σ H)
    (hs : ∀ σ H, Pv σ H → c σ H fun b H1 => if b = true then tb { D with nx := fun σ' H' => Pv σ' H' ∧ μ σ' H' < μ σ H, ct := fun σ' H' => Pv σ' H' ∧ μ σ' H' < μ σ H, bk := D.nx } σ H1 else D.nx σ H1)
    (mono : ∀ σ H Q Q', (∀ b H1, Q b H1 → Q' b H1) → c σ H Q → c σ H Q') : tWhile c tb D σ H := by
  refine ⟨fun m σ H => m = μ σ H ∧ Pv σ H, ⟨_, rfl, h0⟩, ?_⟩
  rintro m σ H ⟨rfl, p⟩
  refine mono σ H _ _ (fun b H1 q => ?_) (hs σ H p)
  cases b with
  | true => exact ⟨_, fun σ' H' ⟨p', l⟩ => ⟨_, l, rfl, p'⟩, q⟩
  | false => exact q
end L2

namespace L2
open PySem PySem.Spec PyProof.Rows

abbrev R2 := V → V → Hp → VK → Prop
/-- a two-place operation on values: f is binaryOp op, inplaceOp op or compareOp op -/
def OpR (X : Cx) (f : Value → Value → Sem Value) (r : R2) : Prop :=
  ∀ (pins : List (Addr × Obj)) (s : Shared) (σ : St) (H : Hp) (x y : V) (v u : Value) (Q : VK), Inv X pins σ H s → RelV x v → RelV y u → r x y H Q →
    wpAny (model X.prog X.w) X.A (f v u) (EP X pins σ Q) X.xe s
/-- a one-place operation -/
def UnR (X : Cx) (f : Value → Sem Value) (r : V → Hp → VK → Prop) : Prop :=
  ∀ (pins : List (Addr × Obj)) (s : Shared) (σ : St) (H : Hp) (x : V) (v : Value) (Q : VK), Inv X pins σ H s → RelV x v → r x H Q →
    wpAny (model X.prog X.w) X.A (f v) (EP X pins σ Q) X.xe s
/-- a call of a value that is known (a builtin, a type) with values -/
def CallR (X : Cx) (f : Value) (r : List V → Hp → VK → Prop) : Prop :=
  ∀ (pins : List (Addr × Obj)) (s : Shared) (σ : St) (H : Hp) (xs : List V) (us : List Value) (Q : VK), Inv X pins σ H s → Vals xs us → r xs H Q →
    wpAny (model X.prog X.w) X.A (call f us) (EP X pins σ Q) X.xe s

def tOp (r : R2) (ta tb : TE) : TE := fun σ H Q => ta σ H fun x H1 => tb σ H1 fun y H2 => r x y H2 Q
def tUn (r : V → Hp → VK → Prop) (ta : TE) : TE := fun σ H Q => ta σ H fun x H1 => r x H1 Q
def rI0 (g : Int → Int → V) : R2 := fun x y H Q => ∃ i j, x = .int i ∧ y = .int j ∧ Q (g i j) H
def rU (g : Int → V) : V → Hp → VK → Prop := fun x H Q => ∃ i, x = .int i ∧ Q (g i) H

section
variable {X : Cx} {a b c : Expr} {ta tb tc : TE} {pos : Pos}

theorem binT (ha : PE X a ta) (hb : PE X b tb) {pins : List (Addr × Obj)} {s : Shared} {σ : St} {H : Hp} {R : V → V → Hp → Prop} (I : Inv X pins σ H s)
    (h : ta σ H fun x H1 => tb σ H1 fun y H2 => R x y H2) {Q : Value → Shared → Prop} {f : Value → Value → Sem Value}
    (hf : ∀ v u s2 x y H2, Inv X pins σ H2 s2 → RelV x v → RelV y u → R x y H2 → wpAny (model X.prog X.w) X.A (f v u) Q X.xe s2) :
    wpAny (model X.prog X.w) X.A (eval a X.env) (fun v s₁ => wpAny (model X.prog X.w) X.A (eval b X.env) (fun u s₂ => wpAny (model X.prog X.w) X.A (f v u) Q X.xe s₂) X.xe s₁) X.xe s := by
  refine thn (ha pins s σ H _ I h) fun v s1 ⟨x, H1, I1, r1, q1⟩ => ?_
  refine thn (hb pins s1 σ H1 _ I1 q1) fun u s2 ⟨y, H2, I2, r2, q2⟩ => ?_
  exact hf v u s2 x y H2 I2 r1 r2 q2

theorem pe_op {op : Operator} {r : R2} (ho : OpR X (binaryOp op) r) (ha : PE X a ta) (hb : PE X b tb) : PE X (.BinOp a op b pos) (tOp r ta tb) := by
  intro pins s σ H Q I h
  exact wpAny_BinOp (binT ha hb I h fun v u s2 x y H2 I2 rx ry q => ho pins s2 σ H2 x y v u Q I2 rx ry q)
theorem pe_un {op : UnaryOp} {r : V → Hp → VK → Prop} (ho : UnR X (unaryOp op) r) (ha : PE X a ta) : PE X (.UnaryOp op a pos) (tUn r ta) := by
  intro pins s σ H Q I h
  exact UnaryOp_ (thn (ha pins s σ H _ I h) fun v s1 ⟨x, H1, I1, r1, q1⟩ => ho pins s1 σ H1 x v Q I1 r1 q1)

/-! ### ints -/
theorem opI0 {f : Value → Value → Sem Value} {g : Int → Int → Int}
    (rule : ∀ (i j : Int) (t u : Tok) (s : Shared) (Q : Value → Shared → Prop) (E : Value → Shared → Prop), Q (.int (g i j) s.toks) { s with toks := s.toks + 1 } → wpAny (model X.prog X.w) X.A (f (.int i t) (.int j u)) Q E s) :
    OpR X f (rI0 fun i j => .int (g i j)) := by
  intro pins s σ H x y v u Q I rx ry h
  obtain ⟨i, j, rfl, rfl, q⟩ := h
  obtain ⟨t, rfl⟩ := rx
  obtain ⟨t', rfl⟩ := ry
  exact rule i j t t' s _ _ ⟨.int (g i j), H, I.tok _, ⟨_, rfl⟩, q⟩
theorem opB0 {f : Value → Value → Sem Value} {g : Int → Int → Bool}
    (rule : ∀ (i j : Int) (t u : Tok) (s : Shared) (Q : Value → Shared → Prop) (E : Value → Shared → Prop), Q (.bool (g i j)) s → wpAny (model X.prog X.w) X.A (f (.int i t) (.int j u)) Q E s) :
    OpR X f (rI0 fun i j => .bl (g i j)) := by
  intro pins s σ H x y v u Q I rx ry h
  obtain ⟨i, j, rfl, rfl, q⟩ := h
  obtain ⟨t, rfl⟩ := rx
  obtain ⟨t', rfl⟩ := ry
  exact rule i j t t' s _ _ ⟨.bl (g i j), H, I, rfl, q⟩


theorem op_add : OpR X (binaryOp .Add) (rI0 fun i j => .int (i + j)) := opI0 fun _ _ _ _ _ _ _ q => add_int q
theorem op_sub : OpR X (binaryOp .Sub) (rI0 fun i j => .int (i - j)) := opI0 fun _ _ _ _ _ _ _ q => sub_int q


theorem unI {f : Value → Sem Value} {g : Int → Int}
    (rule : ∀ (i : Int) (t : Tok) (s : Shared) (Q : Value → Shared → Prop) (E : Value → Shared → Prop), Q (.int (g i) s.toks) { s with toks := s.toks + 1 } → wpAny (model X.prog X.w) X.A (f (.int i t)) Q E s) :
    UnR X f (rU fun i => .int (g i)) := by
  intro pins s σ H x v Q I rx h
  obtain ⟨i, rfl, q⟩ := h
  obtain ⟨t, rfl⟩ := rx
  exact rule i t s _ _ ⟨.int (g i), H, I.tok _, ⟨_, rfl⟩, q⟩
theorem un_neg : UnR X (unaryOp .USub) (rU fun i => .int (-i)) := unI fun _ _ _ _ _ q => neg_int q

/-! ### bools among ints: n += (a < b) -/
end

/-! ### comparisons -/
/-- the scalars that == tells apart as data does -/
def scal : V → V → Bool
  | .non, .non => true | .non, .int _ => true | .int _, .non => true | .non, .bl _ => true | .bl _, .non => true | .non, .str _ => true | .str _, .non => true
  | .int _, .int _ => true | .bl _, .bl _ => true | .str _, .str _ => true | .byt _, .byt _ => true
  | .int _, .str _ => true | .str _, .int _ => true | .bl _, .str _ => true | .str _, .bl _ => true
  | _, _ => false
def rEq : R2 := fun x y H Q => scal x y = true ∧ Q (.bl (decide (x = y))) H

theorem dec_int {i j : Int} : decide (V.int i = V.int j) = (i == j) := by
  rw [Bool.eq_iff_iff]
  simp
theorem dec_bl {i j : Bool} : decide (V.bl i = V.bl j) = (i == j) := by
  rw [Bool.eq_iff_iff]
  simp
theorem dec_str {i j : Str} : decide (V.str i = V.str j) = (i == j) := by
  rw [Bool.eq_iff_iff]
  simp
theorem dec_byt {i j : Array UInt8} : decide (V.byt i = V.byt j) = (i.toList == j.toList) := by
  rw [Bool.eq_iff_iff]
  cases i
  cases j
  simp

section
variable {X : Cx} {a b c : Expr} {ta tb tc : TE} {pos : Pos}
theorem fin_bl {pins : List (Addr × Obj)} {σ : St} {H : Hp} {s : Shared} {Q : VK} {k k' : Bool} (I : Inv X pins σ H s) (q : Q (.bl k) H) (e : k = k') : EP X pins σ Q (.bool k') s := by
  subst e
  exact ⟨.bl k, H, I, rfl, q⟩
theorem op_eq : OpR X (compareOp .Eq) rEq := by
  intro pins s σ H x y v u Q I rx ry h
  obtain ⟨hs, q⟩ := h
  cases x with
  | non =>
    cases rx
    cases y with
    | non => cases ry; exact PySem.EqNone.eq_none_none (fin_bl I q (by simp))
    | bl j => cases ry; exact PySem.EqNone.eq_none_bool (fin_bl I q (by simp))
    | int j => obtain ⟨t', rfl⟩ := ry; exact PySem.EqNone.eq_none_int (fin_bl I q (by simp))
    | str j => obtain ⟨t', rfl⟩ := ry; exact PySem.EqNone.eq_none_str (fin_bl I q (by simp))
    | _ => exact absurd (show false = true from hs) Bool.false_ne_true
  | bl i =>
    cases rx
    cases y with
    | non => cases ry; exact PySem.EqNone.eq_bool_none (fin_bl I q (by simp))
    | bl j => cases ry; exact eq_bool (fin_bl I q dec_bl)
    | str j => obtain ⟨t', rfl⟩ := ry; exact PySem.EqMixed.eq_bool_str (fin_bl I q (by simp))
    | _ => exact absurd (show false = true from hs) Bool.false_ne_true
  | int i =>
    obtain ⟨t, rfl⟩ := rx
    cases y with
    | non => cases ry; exact PySem.EqNone.eq_int_none (fin_bl I q (by simp))
    | int j => obtain ⟨t', rfl⟩ := ry; exact eq_int (fin_bl I q dec_int)
    | str j => obtain ⟨t', rfl⟩ := ry; exact PySem.EqMixed.eq_int_str (fin_bl I q (by simp))
    | _ => exact absurd (show false = true from hs) Bool.false_ne_true
  | str i =>
    obtain ⟨t, rfl⟩ := rx
    cases y with
    | non => cases ry; exact PySem.EqNone.eq_str_none (fin_bl I q (by simp))
    | bl j => cases ry; exact PySem.EqMixed.eq_str_bool (fin_bl I q (by simp))
    | int j => obtain ⟨t', rfl⟩ := ry; exact PySem.EqMixed.eq_str_int (fin_bl I q (by simp))
    | str j => obtain ⟨t', rfl⟩ := ry; exact eq_str (fin_bl I q dec_str)
    | _ => exact absurd (show false = true from hs) Bool.false_ne_true
  | byt i =>
    obtain ⟨t, rfl⟩ := rx
    cases y with
    | byt j => obtain ⟨t', rfl⟩ := ry; exact PySem.W.eq_bytes (fin_bl I q dec_byt)
    | _ => exact absurd (show false = true from hs) Bool.false_ne_true
  | _ => cases y <;> exact absurd (show false = true from hs) Bool.false_ne_true

theorem op_lt : OpR X (compareOp .Lt) (rI0 fun i j => .bl (decide (i < j))) := opB0 fun _ _ _ _ _ _ _ q => lt_int q
theorem op_le : OpR X (compareOp .LtE) (rI0 fun i j => .bl (decide (i ≤ j))) := opB0 fun _ _ _ _ _ _ _ q => le_int q
theorem op_gt : OpR X (compareOp .Gt) (rI0 fun i j => .bl (decide (j < i))) := opB0 fun _ _ _ _ _ _ _ q => gt_int q
theorem op_ge : OpR X (compareOp .GtE) (rI0 fun i j => .bl (decide (j ≤ i))) := opB0 fun _ _ _ _ _ _ _ q => ge_int q

/-- is None, is not None: the right side a value none -/
theorem op_isN : OpR X (compareOp .Is) (fun x y H Q => y = .non ∧ Q (.bl (decide (x = .non))) H) := by
  intro pins s σ H x y v u Q I rx ry h
  obtain ⟨rfl, q⟩ := h
  cases ry
  refine is_none_gen (fin_bl I q ?_)
  cases x <;> first
    | (cases rx; rfl)
    | (obtain ⟨t, rfl⟩ := rx; rfl)
theorem op_notN : OpR X (compareOp .IsNot) (fun x y H Q => y = .non ∧ Q (.bl (!decide (x = .non))) H) := by
  intro pins s σ H x y v u Q I rx ry h
  obtain ⟨rfl, q⟩ := h
  cases ry
  refine isnot_none_gen (fin_bl I q ?_)
  cases x <;> first
    | (cases rx; rfl)
    | (obtain ⟨t, rfl⟩ := rx; rfl)



theorem nomark (b : Expr) {op : CmpOp} (h : op ≠ .In := by decide) (h2 : op ≠ .NotIn := by decide) : behindInMarks op b = false := by
  have e1 : (op == CmpOp.In) = false := by cases op <;> first | rfl | exact absurd rfl h
  have e2 : (op == CmpOp.NotIn) = false := by cases op <;> first | rfl | exact absurd rfl h2
  cases b <;> simp [behindInMarks, e1, e2]
/-- a comparison as a value; hm: nomark b, or (for in, not in) by with_unfolding_all rfl -/
theorem pe_cmpR {op : CmpOp} {r : R2} (ho : OpR X (compareOp op) r) (ha : PE X a ta) (hb : PE X b tb) (hm : behindInMarks op b = false) : PE X (.Compare a [op] [b] pos) (tOp r ta tb) := by
  intro pins s σ H Q I h
  exact wpAny_Compare1 (binT ha hb I h fun v u s2 x y H2 I2 rx ry q => ho pins s2 σ H2 x y v u Q I2 rx ry q) hm
/-- a reading of a value as a test -/
def tTest (t : TE) : TT := fun σ H Q => t σ H fun x H' => ∃ k, x = .bl k ∧ Q k H'
theorem pt_cmpR {op : CmpOp} {r : R2} (ho : OpR X (compareOp op) r) (ha : PE X a ta) (hb : PE X b tb) (hm : behindInMarks op b = false) : PT X (.Compare a [op] [b] pos) (tTest (tOp r ta tb)) := by
  intro pins s σ H Q I h
  refine wpAny_isTrue_Compare1 (thn (ha pins s σ H _ I h) fun v s1 ⟨x, H1, I1, r1, q1⟩ => thn (hb pins s1 σ H1 _ I1 q1) fun u s2 ⟨y, H2, I2, r2, q2⟩ =>
    thn (ho pins s2 σ H2 x y v u _ I2 r1 r2 q2) fun c s3 ⟨z, H3, I3, r3, k, e, q3⟩ => ?_) hm
  subst e
  cases r3
  exact wpAny_truthy_bool ⟨H3, I3, q3⟩

/-! ### truth -/
theorem line63 : (sizeLine : Nat) < 2 ^ 63 := by rw [sizeLine_eq]; decide

/-! ### strs and bytes -/


/-! ### scalar builtins, by CallR -/
theorem vals1 {x : V} {us : List Value} (r : Vals [x] us) : ∃ u, us = [u] ∧ RelV x u := by
  cases r with
  | cons r1 r2 => cases r2; exact ⟨_, rfl, r1⟩
end
end L2

namespace L2
open PySem PySem.Spec PyProof.Rows

/-! ### an instance, its attributes a map -/
structure ObjM (h : Heap) (x dx C : Addr) (mA : Str → Option Value) : Prop where
  obj : h.get? x = some (PySem.W.instObj C dx)
  ns : h.Ns1 dx mA
  ne : dx ≠ x

theorem lookIn_ns {h : Heap} {dx : Addr} {mA : Str → Option Value} (n : h.Ns1 dx mA) : ∃ od, h.get? dx = some od ∧ ∀ name, PySem.W.lookIn name od = some (mA name) := by
  obtain ⟨o, es, ep, ho, hd, hk, _, hm⟩ := n
  refine ⟨o, ho, fun name => ?_⟩
  have e := hm name
  unfold nsFind findBy at e
  rw [← Array.find?_toList] at e
  unfold PySem.W.lookIn
  rw [hd]
  dsimp only
  split
  · rename_i y q
    rw [q] at e
    exact congrArg some e
  · rename_i q
    rw [q] at e
    have a : es.toList.any (·.refKey) = false := by
      rw [List.any_eq_false]
      intro y hy
      obtain ⟨z, t, hkey⟩ := hk y (Array.mem_toList_iff.mp hy)
      simp [DictEntry.refKey, hkey]
    have a' : ¬ es.toList.any (·.refKey) = true := by rw [a]; exact Bool.false_ne_true
    rw [if_neg a']
    exact congrArg some e

theorem ObjM.look {h : Heap} {x dx C : Addr} {mA : Str → Option Value} (I : ObjM h x dx C mA) : ∃ od, PySem.W.InstAt h x (PySem.W.instObj C dx) C (some od) ∧ ∀ name, PySem.W.lookIn name od = some (mA name) :=
  let ⟨od, ho, hl⟩ := lookIn_ns I.ns
  ⟨od, ⟨I.obj, rfl, rfl, ho⟩, hl⟩

section
variable {prog : Program} {w : World} {A : Around} {E : Value → Shared → Prop} {s : Shared} {K : PySem.W.Frag} {x dx C f : Addr} {mA : Str → Option Value} {name : Str} {v : Value}

theorem get_map {expr : Bool} {Q : Value → Shared → Prop} (X : K.In s.heap) (I : ObjM s.heap x dx C mA) (hg : PySem.W.plainGet K C name = true) (hh : PySem.W.hasDictIn K C = true)
    (ha : PySem.W.findIn K (.ref C) name = some none) (hv : mA name = some v) (hv' : PySem.W.handedIn v = true) (h : Q v { s with toks := s.toks + 1 }) :
    wpAny (model prog w) A (getAttr (.ref x) name expr) Q E s := by
  obtain ⟨od, J, hl⟩ := I.look
  exact PySem.W.get_value X J (PySem.W.plainGet_of hg).1 (PySem.W.findObj_own hh ha rfl (by rw [hl, hv])) hv' h



theorem set_map {ns : List Str} {Q : Unit → Shared → Prop} (X : K.In s.heap) (I : ObjM s.heap x dx C mA)
    (hs : PySem.W.findIn K (.ref C) "__setattr__" = some (some (.builtin "object.__setattr__"))) (hp : PySem.W.plainOver K C = true) (ht : PySem.W.takerIn K C name = some none) (hh : PySem.W.hasDictIn K C = true)
    (hw : PySem.Within mA ns) (hsz : ns.length ≤ sizeLine)
    (h : ∀ h', ObjM h' x dx C (fun y => if y = name then some v else mA y) → Heap.SameBut dx s.heap h' → Q () { s with heap := h', toks := s.toks + 2 }) :
    wpAny (model prog w) A (setAttr (.ref x) name v) Q E s := by
  obtain ⟨od, J, hl⟩ := I.look
  refine PySem.W.set_plain X J hs (PySem.W.osa_open (s := { s with toks := s.toks + 1 }) (r := none) X J hp ht fun b => ?_)
  obtain ⟨cd, hc, hd'⟩ := PySem.W.any_some hh
  have hx : s.heap.get? x = some ⟨.ref C, some dx, .plain, #[]⟩ := I.obj
  refine wpAny_bind (wpAny_pure (wpAny_bind (wpAny_bind (wpAny_loadPart hx (wpAny_bind (PySem.W.Looks.here (s := { s with toks := s.toks + 1 }) (PySem.W.looks_clsIn X hc) ?_))))))
  rw [hd']
  refine wpAny_pure (a := some dx) (wpAny_bind (wpAny_pure (wpAny_bind ?_)))
  refine wpAny_nsSet1 (s := { s with toks := s.toks + 1 }) I.ns fun h' hn2 hs2 => ?_
  obtain ⟨oD, esD, epD, hoD, hdD, hcD⟩ := hn2.count (PySem.Within.cons name v hw)
  refine wpAny_bind (wpAny_lookBehind hoD (by rw [hdD]; exact pastItsLine_dict (Nat.le_trans hcD (by rw [List.length_cons]; omega))) ?_)
  exact wpAny_pure (h _ ⟨(hs2.2 _ (Ne.symm I.ne)).trans I.obj, hn2, I.ne⟩ hs2)

/-- C(..): the dict at the heap's end, the instance behind it; then its __init__ -/
theorem make_map {R : Result → Shared → Prop} {vs : List Value} {kw : List (Str × Value)} (X : K.In s.heap) (hm : PySem.W.makesIn K C = true)
    (hi : PySem.W.findIn K (.ref C) "__init__" = some (some (.ref f))) (hf : PySem.W.typeIn K (.ref f) = some (.type "function"))
    (h : codeAny (model prog w) (A.under (.builtin "type.__call__" ⟨.ref C :: vs, kw⟩)) (.call (.ref f) ⟨.ref (s.heap.objs.size + 1) :: vs, kw⟩) (PySem.W.InitBack (s.heap.objs.size + 1) R)
      { s with heap := (s.heap.push PySem.W.emptyDict).push (PySem.W.instObj C s.heap.objs.size) }) :
    codeAny (model prog w) A (.call (.ref C) ⟨vs, kw⟩) R s := by
  obtain ⟨hh, g, d, t, os⟩ := s
  exact PySem.W.make_core (PySem.W.makes_of X hm) (PySem.W.looks_findIn X hi) (fun self => PySem.W.bind_fn X self hf) (.inl rfl) h
end

/-! ### the attributes as a list of pairs -/
def putF (f : Str) (v : V) : List (Str × V) → List (Str × V)
  | [] => [(f, v)]
  | (g, x) :: r => if g = f then (g, v) :: r else (g, x) :: putF f v r
theorem lookup_putF (f g : Str) (v : V) : ∀ fs : List (Str × V), (putF f v fs).lookup g = if g = f then some v else fs.lookup g
  | [] => by
    show List.lookup g [(f, v)] = _
    by_cases h : g = f
    · have hb : (g == f) = true := beq_iff_eq.mpr h
      simp only [List.lookup, hb, if_pos h]
    · have hb : (g == f) = false := beq_eq_false_iff_ne.mpr h
      simp only [List.lookup, hb, if_neg h]
  | (k, x) :: r => by
    have ih := lookup_putF f g v r
    rw [show putF f v ((k, x) :: r) = (if k = f then (k, v) :: r else (k, x) :: putF f v r) from rfl]
    by_cases hk : k = f
    · rw [if_pos hk]
      by_cases h : g = k
      · have hb : (g == k) = true := beq_iff_eq.mpr h
        simp only [List.lookup, hb, if_pos (h.trans hk)]
      · have hb : (g == k) = false := beq_eq_false_iff_ne.mpr h
        simp only [List.lookup, hb, if_neg (fun e : g = f => h (e.trans hk.symm))]
    · rw [if_neg hk]
      by_cases h : g = k
      · have hb : (g == k) = true := beq_iff_eq.mpr h
        simp only [List.lookup, hb, if_neg (fun e : g = f => hk (h.symm.trans e))]
      · have hb : (g == k) = false := beq_eq_false_iff_ne.mpr h
        simp only [List.lookup, hb]
        exact ih
theorem keys_putF (f : Str) (v : V) : ∀ fs : List (Str × V), f ∈ (putF f v fs).map (·.1) ∧ ∀ g, g ∈ fs.map (·.1) → g ∈ (putF f v fs).map (·.1)
  | [] => ⟨by simp [putF], fun g h => by simp at h⟩
  | (k, x) :: r => by
    obtain ⟨i1, i2⟩ := keys_putF f v r
    rw [show putF f v ((k, x) :: r) = (if k = f then (k, v) :: r else (k, x) :: putF f v r) from rfl]
    by_cases hk : k = f
    · rw [if_pos hk]
      subst hk
      exact ⟨by simp, fun g h => by simpa using h⟩
    · rw [if_neg hk]
      refine ⟨?_, fun g h => ?_⟩
      · rw [List.map_cons]
        exact List.mem_cons_of_mem _ i1
      · rw [List.map_cons] at h ⊢
        rcases List.mem_cons.mp h with e | e
        · exact List.mem_cons.mpr (.inl e)
        · exact List.mem_cons_of_mem _ (i2 g e)
theorem length_putF (f : Str) (v : V) : ∀ fs : List (Str × V), (putF f v fs).length ≤ fs.length + 1
  | [] => by simp [putF]
  | (k, x) :: r => by
    have ih := length_putF f v r
    rw [show putF f v ((k, x) :: r) = (if k = f then (k, v) :: r else (k, x) :: putF f v r) from rfl]
    by_cases hk : k = f
    · rw [if_pos hk, List.length_cons, List.length_cons]; omega
    · rw [if_neg hk, List.length_cons, List.length_cons]; omega

theorem RelO.some_of {v : V} {o : Option Value} (r : RelO (some v) o) : ∃ u, o = some u ∧ RelV v u := by
  cases o with
  | none => exact (show False from r).elim
  | some u => exact ⟨u, rfl, r⟩
theorem handed_of {v : V} {u : Value} (r : RelV v u) : PySem.W.handedIn u = true := by
  cases v with
  | non => cases (show u = Value.none from r); rfl
  | bl b => cases (show u = Value.bool b from r); rfl
  | int i => obtain ⟨t, e⟩ := (show ∃ t, u = Value.int i t from r); cases e; rfl
  | str x => obtain ⟨t, e⟩ := (show ∃ t, u = Value.str x t from r); cases e; rfl
  | byt b => obtain ⟨t, e⟩ := (show ∃ t, u = Value.bytes b t from r); cases e; rfl
  | flt b => obtain ⟨t, e⟩ := (show ∃ t, u = Value.float b t from r); cases e; rfl
  | ref a => cases (show u = Value.ref a from r); rfl
  | ty n => cases (show u = Value.type n from r); rfl

section
variable {P : Program} {w : World} {H H' : Hp} {h h' : Heap} {a C dx : Addr} {fs fs' : List (Str × V)}
theorem ins_get (hok : HOk P w H h) (e : H a = some (.ins C dx fs)) : ∃ mA, ObjM h a dx C mA ∧ (∀ f, RelO (fs.lookup f) (mA f)) ∧ PySem.Within mA (fs.map (·.1)) ∧ fs.length ≤ 1000 ∧ H dx = some (.own a) := by
  obtain ⟨d, z, ne, ob, mA, n, r, q⟩ := (show ObjOk P w H h a (.ins C dx fs) from hok a _ e)
  exact ⟨mA, ⟨ob, n, ne⟩, r, q, z, d⟩
end

/-! ### what of the text a class must have -/
structure Cls (K : PySem.W.Frag) (C : Addr) : Prop where
  pg : PySem.W.plainGet K C Str.empty = true
  hd : PySem.W.hasDictIn K C = true
  po : PySem.W.plainOver K C = true
  sa : PySem.W.findIn K (.ref C) "__setattr__" = some (some (.builtin "object.__setattr__"))
theorem Cls.get {K : PySem.W.Frag} {C : Addr} (c : Cls K C) (f : Str) : PySem.W.plainGet K C f = true := c.pg
/-- no class of it has the name -/
def NoAttr (K : PySem.W.Frag) (C : Addr) (f : Str) : Prop := PySem.W.findIn K (.ref C) f = some none
theorem NoAttr.taker {K : PySem.W.Frag} {C : Addr} {f : Str} (n : NoAttr K C f) : PySem.W.takerIn K C f = some none := by
  unfold PySem.W.takerIn
  rw [show PySem.W.findIn K (.ref C) f = some none from n]
  rfl

section
variable {X : Cx} {pins : List (Addr × Obj)} {σ : St} {H : Hp} {s : Shared} {a C dx : Addr} {fs : List (Str × V)} {f : Str} {v : V} {A : Around} {E : Value → Shared → Prop}

theorem getattr_ok {b : Bool} {Q : Value → Shared → Prop} (I : Inv X pins σ H s) (e : H a = some (.ins C dx fs)) (c : Cls X.K C) (n : NoAttr X.K C f) (l : fs.lookup f = some v)
    (h : ∀ u s', Inv X pins σ H s' → RelV v u → Q u s') : wpAny (model X.prog X.w) A (getAttr (.ref a) f b) Q E s := by
  obtain ⟨mA, O, r, _, _, _⟩ := ins_get I.hok e
  obtain ⟨u, hu, ru⟩ := RelO.some_of (v := v) (o := mA f) (by rw [← l]; exact r f)
  exact get_map I.kIn O (c.get f) c.hd n hu (handed_of ru) (h u _ (I.tok _) ru)



theorem setattr_ok {y : V} {u : Value} {Q : Unit → Shared → Prop} (I : Inv X pins σ H s) (e : H a = some (.ins C dx fs)) (c : Cls X.K C) (n : NoAttr X.K C f) (hl : fs.length < 1000) (ry : RelV y u)
    (h : ∀ s', Inv X pins σ (upd H a (.ins C dx (putF f y fs))) s' → Q () s') : wpAny (model X.prog X.w) A (setAttr (.ref a) f u) Q E s := by
  obtain ⟨mA, O, r, wi, _, ho⟩ := ins_get I.hok e
  have hz : (fs.map (·.1)).length ≤ sizeLine := by rw [List.length_map, sizeLine_eq]; omega
  refine set_map I.kIn O c.sa c.po n.taker c.hd wi hz fun h' O' sb => h _ ?_
  have hd : ∃ o, h'.get? dx = some o := let ⟨o, _, _, e', _⟩ := O'.ns; ⟨o, e'⟩
  refine I.write (x := a) (e := dx) (by rw [e]; exact True.intro) (.inr ho) (fun b q hb z => (sb.2 b hb).trans z) hd ?_
  refine ⟨by rw [upd_ne O.ne]; exact ho, ?_, O.ne, O'.obj, _, O'.ns, fun g => ?_, fun g hg => ?_⟩
  · have := length_putF f y fs; omega
  · show RelO ((putF f y fs).lookup g) (if g = f then some u else mA g)
    rw [lookup_putF]
    by_cases q : g = f
    · rw [if_pos q, if_pos q]; exact ry
    · rw [if_neg q, if_neg q]; exact r g
  · by_cases q : g = f
    · rw [q]; exact (keys_putF f y fs).1
    · refine (keys_putF f y fs).2 g (wi g fun z => hg ?_)
      show (if g = f then some u else mA g) = none
      rw [if_neg q]; exact z

/-- a new instance, tracked, without attributes -/
theorem Inv.made (I : Inv X pins σ H s) : Inv X pins σ (upd (upd H s.heap.objs.size (.own (s.heap.objs.size + 1))) (s.heap.objs.size + 1) (.ins C s.heap.objs.size []))
    { s with heap := (s.heap.push PySem.W.emptyDict).push (PySem.W.instObj C s.heap.objs.size) } := by
  have e1 : (s.heap.push PySem.W.emptyDict).get? s.heap.objs.size = some PySem.W.emptyDict := Heap.get?_push_size s.heap rfl
  have e2 : ((s.heap.push PySem.W.emptyDict).push (PySem.W.instObj C s.heap.objs.size)).get? (s.heap.objs.size + 1) = some (PySem.W.instObj C s.heap.objs.size) := by
    have := Heap.get?_push_size (s.heap.push PySem.W.emptyDict) (o := PySem.W.instObj C s.heap.objs.size) rfl
    rwa [Heap.size_push] at this
  have e3 : (s.heap.push PySem.W.emptyDict).Ns s.heap.objs.size (fun _ => none) := ⟨PySem.W.emptyDict, #[], _, e1, rfl, (fun e he => absurd he (by simp)), fun _ => rfl⟩
  have I1 := I.laid (a := s.heap.objs.size) (o := .own (s.heap.objs.size + 1)) (h' := s.heap.push PySem.W.emptyDict) (t' := s.toks) (fun b u q => Heap.get?_push_of_some _ q) (Nat.le_refl _) ⟨_, e1⟩
  refine I1.laid (a := s.heap.objs.size + 1) (o := .ins C s.heap.objs.size []) (t' := s.toks) (fun b u q => Heap.get?_push_of_some _ q) (Nat.le_of_eq (Heap.size_push _ _)) ?_
  have ne : s.heap.objs.size ≠ s.heap.objs.size + 1 := Nat.ne_of_lt (Nat.lt_succ_self _)
  refine ⟨by rw [upd_ne ne, upd_same], Nat.zero_le _, ne, e2, fun _ => none, (Heap.Ns1.of_empty e3).at fun o q => Heap.get?_push_of_some _ q, fun _ => True.intro, fun y hy => absurd rfl hy⟩

/-- e.f where nothing but the object is asked: through attributeBase (super) and the last hold -/
theorem attr_of {prog : Program} {w : World} {env : Env} {e : Expr} {f : Str} {pos : Pos} {s : Shared} {Q : Value → Shared → Prop} (hb : attributeBase e f env (eval e env) = eval e env)
    (h : wpAny (model prog w) A (eval e env) (fun o s₁ => wpAny (model prog w) A (getAttr o f true) Q E s₁) E s) : wpAny (model prog w) A (eval (.Attribute e f pos) env) Q E s :=
  Attribute_any_ h (by rw [arm_eval_Attribute, hb])
end

/-! ### readings and rules -/
/-- e.f, an attribute of the instance -/
def tFld (K : PySem.W.Frag) (ta : TE) (f : Str) : TE := fun σ H Q => ta σ H fun x H1 => ∃ a C dx fs v, x = .ref a ∧ H1 a = some (.ins C dx fs) ∧ Cls K C ∧ NoAttr K C f ∧ fs.lookup f = some v ∧ Q v H1
/-- e.f = value -/
def sFld (K : PySem.W.Frag) (ta tv : TE) (f : Str) : TS := fun D σ H => tv σ H fun y H1 => ta σ H1 fun x H2 => ∃ a C dx fs, x = .ref a ∧ H2 a = some (.ins C dx fs) ∧ Cls K C ∧ NoAttr K C f ∧ fs.length < 1000 ∧
  D.nx σ (upd H2 a (.ins C dx (putF f y fs)))

section
variable {X : Cx} {o e value : Expr} {f : Str} {pos pos' tpos : Pos} {ta tv : TE}
theorem pe_fld (he : PE X e ta) (hb : attributeBase e f X.env (eval e X.env) = eval e X.env) : PE X (.Attribute e f pos) (tFld X.K ta f) := by
  intro pins s σ H Q I h
  refine attr_of hb (thn (he pins s σ H _ I h) fun u s1 ⟨x, H1, I1, rx, a, C, dx, fs, v, ex, ea, c, n, l, q⟩ => ?_)
  subst ex
  obtain rfl : u = Value.ref a := rx
  exact getattr_ok I1 ea c n l fun u' s2 I2 ru => ⟨v, H1, I2, ru, q⟩
theorem ps_fld (ha : PE X o ta) (hv : PE X value tv) (hs : swapsWith value (some (.Attribute o f pos')) pos.line X.env = pure false) : PS X (.Assign [.Attribute o f pos'] value pos) (sFld X.K ta tv f) := by
  intro pins s σ H D I h
  refine plainObj_wpAny_Assign_Attribute (thn (hv pins s σ H _ I h) fun u s1 ⟨y, H1, I1, ry, q⟩ => thn (ha pins s1 σ H1 _ I1 q) fun ov s2 ⟨x, H2, I2, rx, a, C, dx, fs, ex, ea, c, n, l, q2⟩ => ?_) hs
  subst ex
  obtain rfl : ov = Value.ref a := rx
  exact setattr_ok I2 ea c n l ry fun s3 I3 => ⟨σ, _, I3, q2⟩

end

/-! ### isinstance -/
section
variable {X : Cx} {pins : List (Addr × Obj)} {σ : St} {H : Hp} {s : Shared} {A : Around} {E : Value → Shared → Prop} {Q : Value → Shared → Prop} {c : Value} {b : Bool}
end
end L2

namespace L2
open PySem PySem.Spec PyProof.Rows

/-! ### room -/
structure Room (k : Nat) (A : Around) : Prop where
  hd : A.handled = none
  dp : A.depth + 3 * k + 5 < recursionLimit
  un : A.units + 16 * k + 200 < cLine
theorem Room.mono {j k : Nat} {A : Around} (r : Room k A) (h : j ≤ k) : Room j A := ⟨r.hd, by have := r.dp; omega, by have := r.un; omega⟩
theorem Room.deeper {k : Nat} {A : Around} (r : Room (k + 1) A) (env : Env) : Room k (A.deeper env) :=
  ⟨r.hd, by have := r.dp; show A.depth + 1 + 3 * k + 5 < _; omega, by have := r.un; show A.units + 3 + 16 * k + 200 < _; omega⟩
theorem make_depth {A : Around} {C : Addr} {us : List Value} {kw : List (Str × Value)} : (A.under (.builtin "type.__call__" ⟨.ref C :: us, kw⟩)).depth = A.depth + 1 := by
  first | rfl | simp [Around.under, Code.weight, Code.isCreation, Code.isGuard, Code.isCaller, Code.frames, Code.isFrame, guardIds]
theorem make_units {A : Around} {C : Addr} {us : List Value} {kw : List (Str × Value)} : (A.under (.builtin "type.__call__" ⟨.ref C :: us, kw⟩)).units = A.units + 1 := by
  first | rfl | simp [Around.under, Code.cUnits, Code.frames, Code.isFrame]
theorem Room.make {k : Nat} {A : Around} (r : Room (k + 1) A) (C : Addr) (us : List Value) (kw : List (Str × Value)) : Room k (A.under (.builtin "type.__call__" ⟨.ref C :: us, kw⟩)) :=
  ⟨r.hd, by have := r.dp; rw [make_depth]; omega, by have := r.un; rw [make_units]; omega⟩
theorem Room.depth {k : Nat} {A : Around} (r : Room k A) : A.depth < recursionLimit := by have := r.dp; omega
theorem Room.units {k : Nat} {A : Around} (r : Room k A) : A.units + 64 < cLine := by have := r.un; omega
theorem Room.units0 {k : Nat} {A : Around} (r : Room k A) : A.units < cLine := by have := r.un; omega

/-! ### argument lists and displays -/
def tNil : TA := fun _ H Q => Q [] H
def tCons (ta : TE) (tr : TA) : TA := fun σ H Q => ta σ H fun x H1 => tr σ H1 fun xs H2 => Q (x :: xs) H2
section
variable {X : Cx} {e : Expr} {es : List Expr} {te : TE} {t : TA} {pos : Pos}
theorem pa_nil : PA X [] tNil := fun _ _ _ _ H Q I h => Calls.spliced_nil ⟨[], H, I, .nil, h⟩
theorem pa_cons (ha : PE X e te) (hr : PA X es t) (hs : starEach (e :: es) X.env = (false, eval e X.env) :: starEach es X.env := by rfl) : PA X (e :: es) (tCons te t) := by
  intro pos pins s σ H Q I h
  rw [hs]
  show wpAny _ _ (spliced ((false, eval e X.env) :: backTo pos (starEach es X.env))) _ _ s
  refine Calls.spliced_cons (thn (ha pins s σ H _ I h) fun u s1 ⟨x, H1, I1, r1, q1⟩ => ?_)
  exact thn (hr pos pins s1 σ H1 _ I1 q1) fun us s2 ⟨xs, H2, I2, r2, q2⟩ => ⟨x :: xs, H2, I2, .cons r1 r2, q2⟩

/-- a tuple, a list of written items -/
def tTup (t : TA) : TE := fun σ H Q => t σ H fun xs H1 => xs.length ≤ sizeLine ∧ ∀ p, H1 p = none → Q (.ref p) (upd H1 p (.tup xs))
def tLst (t : TA) : TE := fun σ H Q => t σ H fun xs H1 => xs.length ≤ sizeLine ∧ ∀ p, H1 p = none → Q (.ref p) (upd H1 p (.lst xs))
theorem pe_tup {x1} (h : PA X es t) : PE X (.Tuple es x1 pos) (tTup t) := by
  intro pins s σ H Q I hq
  refine wpAny_Tuple_spliced (thn (h pos pins s σ H _ I hq) fun us s1 ⟨xs, H1, I1, r, z, q⟩ => ⟨by rw [← r.length]; exact z, ?_⟩)
  have hf : H1 s1.heap.objs.size = none := I1.hok.fresh (Nat.le_refl _)
  refine ⟨.ref s1.heap.objs.size, upd H1 s1.heap.objs.size (.tup xs), I1.laid (t' := s1.toks) (fun b u e => Heap.get?_push_of_some _ e) (Nat.le_refl _) ?_, rfl, q _ hf⟩
  exact ⟨z, us, r, ⟨_, Heap.get?_push_size _ rfl, rfl, _, rfl⟩⟩
theorem pe_lst (h : PA X es t) : PE X (.List es pos) (tLst t) := by
  intro pins s σ H Q I hq
  refine wpAny_List_spliced (thn (h pos pins s σ H _ I hq) fun us s1 ⟨xs, H1, I1, r, z, q⟩ => ⟨by rw [← r.length]; exact z, ?_⟩)
  have hf : H1 s1.heap.objs.size = none := I1.hok.fresh (Nat.le_refl _)
  refine ⟨.ref s1.heap.objs.size, upd H1 s1.heap.objs.size (.lst xs), I1.laid (t' := s1.toks) (fun b u e => Heap.get?_push_of_some _ e) (Nat.le_refl _) ?_, rfl, q _ hf⟩
  exact ⟨z, us, 0, r, Heap.get?_push_size _ rfl⟩
end

/-! ### what a def promises -/
/-- a def's promise: the bound arguments in the parameters' order, the heap, the wanted end, the wanted exception -/
abbrev Sp := List V → Hp → VK → XK → Prop
/-- how an exception lies behind a call (file 08 gives it): the callers' frames, abstract heap and state ahead of the call, the wish, the exception, the state -/
abbrev CXT := List Env → Hp → Shared → XK → Value → Shared → Prop

/-- the state at a call -/
structure Env0 (P : Program) (w : World) (K : PySem.W.Frag) (mg : Str → Option Value) (base : Heap) (A : Around) (outer : List Env) (s : Shared) (H : Hp) : Prop where
  frames : A.frames = some outer
  mod : Mod K mg base
  bs : ∀ b o, base.get? b = some o → s.heap.get? b = some o ∧ H b = none
  bsz : base.objs.size ≤ s.heap.objs.size
  funs : s.heap.FunFrames base outer
  frf : ∀ b ∈ frs outer, H b = none
  hok : HOk P w H s.heap
  bare : AllBare s.gens
/-- a call's end -/
def CE (outer : List Env) (P : Program) (w : World) (H : Hp) (s : Shared) (Q : VK) (u : Value) (s' : Shared) : Prop :=
  ∃ v H', s'.os = s.os ∧ AllBare s'.gens ∧ Un (frs outer) [] H H' s.heap s'.heap ∧ HOk P w H' s'.heap ∧ RelV v u ∧ Q v H'
def CR (CX : CXT) (outer : List Env) (P : Program) (w : World) (H : Hp) (s : Shared) (Q : VK) (E : XK) (r : Result) (s' : Shared) : Prop :=
  match r with
  | .ok (.ret u) => CE outer P w H s Q u s'
  | .ok _ => False
  | .error e => CX outer H s E e s'
structure FnOk (P : Program) (w : World) (K : PySem.W.Frag) (mg : Str → Option Value) (base : Heap) (CX : CXT) (k : Nat) (f : Addr) (fd : FuncData) (ps : List Str) (sp : Sp) : Prop where
  len : ∀ vs H Q E, sp vs H Q E → vs.length = ps.length
  run : ∀ (A : Around) (outer : List Env) (s : Shared) (H : Hp) (args : Args) (us : List Value) (vs : List V) (Q : VK) (E : XK), Room k A → Env0 P w K mg base A outer s H → BindsTo s fd args (ps.zip us) → Vals vs us → sp vs H Q E →
    codeAny (model P w) A (.call (.ref f) args) (CR CX outer P w H s Q E) s

theorem Env0.make {P : Program} {w : World} {K : PySem.W.Frag} {mg : Str → Option Value} {base : Heap} {A : Around} {outer : List Env} {s : Shared} {H : Hp} (e : Env0 P w K mg base A outer s H) (C : Addr) (us : List Value) (kw : List (Str × Value)) :
    Env0 P w K mg base (A.under (.builtin "type.__call__" ⟨.ref C :: us, kw⟩)) outer s H := ⟨by first | exact e.frames | (simpa [Around.under, Code.envs, Code.isFrame, pushEnvs] using e.frames), e.mod, e.bs, e.bsz, e.funs, e.frf, e.hok, e.bare⟩

section
variable {X : Cx} {pins : List (Addr × Obj)} {σ : St} {H : Hp} {s s' : Shared}
/-- from a body: what a callee wants -/
theorem Inv.env0 (I : Inv X pins σ H s) : Env0 X.prog X.w X.K X.mg X.base X.A X.stack s H :=
  ⟨I.ok.frames, I.ok.mod, I.bs, Nat.le_trans I.ok.bsz I.sz, I.stack, I.stkFree, I.hok, I.bare⟩
/-- behind a call -/
theorem Inv.after {Q : VK} {u : Value} (I : Inv X pins σ H s) (h : CE X.stack X.prog X.w H s Q u s') : EP X pins σ Q u s' := by
  obtain ⟨v, H', os, bare, un, hok, r, q⟩ := h
  obtain ⟨hh, g, d, t, os'⟩ := s'
  obtain rfl : os' = s.os := os
  exact ⟨v, H', I.call (h' := hh) (g' := g) (d' := d) (t' := t) (ch := []) un hok bare (fun b z => absurd z (by simp)), r, q⟩
end

/-! ### calls -/
/-- f(..): the written arguments, then the defaults dvs; E: what is wanted of an exception -/
def tCall (sp : Sp) (dvs : List V) (E : XK) (t : TA) : TE := fun σ H Q => t σ H fun vs H1 => sp (vs ++ dvs) H1 Q E
/-- C(..): a new instance and its dict, then __init__ -/
def tMake (C : Addr) (sp : Sp) (dvs : List V) (E : XK) (t : TA) : TE := fun σ H Q => t σ H fun vs H1 => ∀ x dx, H1 x = none → H1 dx = none → dx ≠ x →
  sp (.ref x :: (vs ++ dvs)) (upd (upd H1 dx (.own x)) x (.ins C dx [])) (fun v H2 => v = .non ∧ Q (.ref x) H2) E

/-- how the parameters are bound: us the positional arguments, kw the keywords' values by name, ds the defaults that fill up -/
def Binds (K : PySem.W.Frag) (fd : FuncData) (ps : List Str) (ds : List Value) : Prop :=
  ∀ (s : Shared) (us : List Value), K.In s.heap → (us ++ ds).length = ps.length → BindsTo s fd ⟨us, []⟩ (ps.zip (us ++ ds))
/-- every parameter is given -/
theorem Binds.all {K : PySem.W.Frag} {fd : FuncData} {ps : List Str} (h : ∀ us : List Value, us.length = ps.length → bindArgs fd ⟨us, []⟩ = pure (ps.zip us)) : Binds K fd ps [] := fun s us _ hl => by
  rw [List.append_nil] at hl ⊢
  exact .of_eq (h us hl)

/-- an exception of a callee reaches what this body wants of exceptions -/
def Passes (CX : CXT) (X : Cx) (E : XK) : Prop := ∀ (pins : List (Addr × Obj)) (σ : St) (H : Hp) (s : Shared) (e : Value) (s' : Shared), Inv X pins σ H s → CX X.stack H s E e s' → X.xe e s'

section
variable {X : Cx} {CX : CXT} {k : Nat} {f C : Addr} {fd : FuncData} {ps : List Str} {sp : Sp} {dvs : List V} {ds : List Value} {E : XK} {x m : Str} {p pos apos : Pos} {e o : Expr} {es : List Expr} {ta : TE} {t : TA}

/-- the callee runs -/
theorem run_fn {pins : List (Addr × Obj)} {σ : St} {H : Hp} {s : Shared} {Q : VK} {us : List Value} {vs : List V} (F : FnOk X.prog X.w X.K X.mg X.base CX k f fd ps sp) (hr : Room k X.A) (hb : Binds X.K fd ps ds) (hd : Vals dvs ds) (hx : Passes CX X E)
    (I : Inv X pins σ H s) (r : Vals vs us) (h : sp (vs ++ dvs) H Q E) : wpAny (model X.prog X.w) X.A (call (.ref f) us) (EP X pins σ Q) X.xe s := by
  have r2 : Vals (vs ++ dvs) (us ++ ds) := r.append hd
  have hl : (us ++ ds).length = ps.length := by rw [← r2.length]; exact F.len _ _ _ _ h
  refine wpAny_call (codeAny_mono (F.run X.A X.stack s H ⟨us, []⟩ (us ++ ds) (vs ++ dvs) Q E hr I.env0 (hb s us I.kIn hl) r2 h) fun r s' hq => ?_)
  cases r with
  | error e => exact hx pins σ H s e s' I hq
  | ok fl =>
    cases fl with
    | ret u => exact I.after hq
    | next => exact False.elim hq
    | brk => exact False.elim hq
    | cont => exact False.elim hq

theorem pe_call (F : FnOk X.prog X.w X.K X.mg X.base CX k f fd ps sp) (hr : Room k X.A) (hg : Gl X x) (hm : X.mg x = some (.ref f)) (hk : PySem.W.keepIn X.K (.ref f) = true) (hb : Binds X.K fd ps ds) (hd : Vals dvs ds) (hx : Passes CX X E)
    (ha : PA X (e :: es) t) (hdb : (x == ("__debug__" : Str)) = false := by decide) (he : starEach (e :: es) X.env = (false, eval e X.env) :: starEach es X.env := by rfl) (hpl : (backTo pos (starEach es X.env)).any (·.1) = false := by rfl) :
    PE X (.Call (.Name x p) (e :: es) [] pos) (tCall sp dvs E t) := by
  intro pins s σ H Q I h
  refine wpAny_Call_Name_kw (ld_glob I hg hm ?_ hdb)
  refine PySem.W.callWith_K (h₀ := X.base) I.ok.mod.kin hk (thn (ha pos pins s σ H _ I h) fun us s1 ⟨vs, H1, I1, r, q⟩ => ⟨I1.kIn, ?_⟩) he hpl
  exact run_fn F hr hb hd hx I1 r q


/-- what a class must have to be made -/
structure Mk (K : PySem.W.Frag) (C f : Addr) : Prop where
  makes : PySem.W.makesIn K C = true
  init : PySem.W.findIn K (.ref C) "__init__" = some (some (.ref f))
  fn : PySem.W.isFn K (.ref f) = true
  kp : PySem.W.keepIn K (.ref C) = true

theorem run_make {pins : List (Addr × Obj)} {σ : St} {H : Hp} {s : Shared} {Q : VK} {us : List Value} {vs : List V} (M : Mk X.K C f) (F : FnOk X.prog X.w X.K X.mg X.base CX k f fd ps sp) (hr : Room (k + 1) X.A) (hb : Binds X.K fd ps ds) (hd : Vals dvs ds)
    (hx : Passes CX X E) (I : Inv X pins σ H s) (r : Vals vs us)
    (h : ∀ x dx, H x = none → H dx = none → dx ≠ x → sp (.ref x :: (vs ++ dvs)) (upd (upd H dx (.own x)) x (.ins C dx [])) (fun v H2 => v = .non ∧ Q (.ref x) H2) E) :
    wpAny (model X.prog X.w) X.A (call (.ref C) us) (EP X pins σ Q) X.xe s := by
  have hq := h (s.heap.objs.size + 1) s.heap.objs.size (I.hok.fresh (Nat.le_succ _)) (I.hok.fresh (Nat.le_refl _)) (Nat.ne_of_lt (Nat.lt_succ_self _))
  have I2 := Inv.made (C := C) I
  have r2 : Vals (V.ref (s.heap.objs.size + 1) :: (vs ++ dvs)) (Value.ref (s.heap.objs.size + 1) :: (us ++ ds)) := .cons rfl (r.append hd)
  have hl : (Value.ref (s.heap.objs.size + 1) :: us ++ ds).length = ps.length := by
    have e := r2.length
    rw [F.len _ _ _ _ hq] at e
    exact e.symm
  refine wpAny_call (make_map (f := f) I.kIn M.makes M.init (beq_iff_eq.mp M.fn) (codeAny_mono (F.run _ X.stack _ _ ⟨Value.ref (s.heap.objs.size + 1) :: us, []⟩ (Value.ref (s.heap.objs.size + 1) :: (us ++ ds)) _ _ E (hr.make C us [])
    (I2.env0.make C us []) (hb _ (Value.ref (s.heap.objs.size + 1) :: us) I2.kIn hl) r2 hq) fun r s' hq' => ?_))
  cases r with
  | error e => exact hx pins σ _ _ e s' I2 hq'
  | ok fl =>
    cases fl with
    | ret u =>
      obtain ⟨v, H', I3, rv, ev, q3⟩ := I2.after hq'
      subst ev
      exact ⟨rv, ⟨V.ref (s.heap.objs.size + 1), H', I3, rfl, q3⟩⟩
    | next => exact False.elim hq'
    | brk => exact False.elim hq'
    | cont => exact False.elim hq'
theorem pe_make (M : Mk X.K C f) (F : FnOk X.prog X.w X.K X.mg X.base CX k f fd ps sp) (hr : Room (k + 1) X.A) (hg : Gl X x) (hm : X.mg x = some (.ref C)) (hb : Binds X.K fd ps ds) (hd : Vals dvs ds) (hx : Passes CX X E)
    (ha : PA X (e :: es) t) (hdb : (x == ("__debug__" : Str)) = false := by decide) (he : starEach (e :: es) X.env = (false, eval e X.env) :: starEach es X.env := by rfl) (hpl : (backTo pos (starEach es X.env)).any (·.1) = false := by rfl) :
    PE X (.Call (.Name x p) (e :: es) [] pos) (tMake C sp dvs E t) := by
  intro pins s σ H Q I h
  refine wpAny_Call_Name_kw (ld_glob I hg hm ?_ hdb)
  refine PySem.W.callWith_K (h₀ := X.base) I.ok.mod.kin M.kp (thn (ha pos pins s σ H _ I h) fun us s1 ⟨vs, H1, I1, r, q⟩ => ⟨I1.kIn, ?_⟩) he hpl
  exact run_make M F hr hb hd hx I1 r q
theorem pe_make0 (M : Mk X.K C f) (F : FnOk X.prog X.w X.K X.mg X.base CX k f fd ps sp) (hr : Room (k + 1) X.A) (hg : Gl X x) (hm : X.mg x = some (.ref C)) (hb : Binds X.K fd ps ds) (hd : Vals dvs ds) (hx : Passes CX X E)
    (hdb : (x == ("__debug__" : Str)) = false := by decide) : PE X (.Call (.Name x p) [] [] pos) (tMake C sp dvs E tNil) := by
  intro pins s σ H Q I h
  refine wpAny_Call_Name_kw (ld_glob I hg hm ?_ hdb)
  exact PySem.W.callWith_K0 I.kIn M.kp (run_make (us := []) M F hr hb hd hx I .nil h)
end

/-! ### keywords -/
section
variable {X : Cx} {CX : CXT} {k : Nat} {f C : Addr} {fd : FuncData} {ps ks : List Str} {sp : Sp} {E : XK} {x m : Str} {p pos apos kpos : Pos} {e o : Expr} {es : List Expr} {kws : List Keyword} {te ta : TE} {t tk : TA} {nm : Option Str}

variable {g : List Value → List Value → List Value} {gV : List V → List V → List V}
end

/-! ### a def's body keeps its promise -/
/-- names: the parameters first -/
structure FnScope (N P : List Str) (sc : Scope) : Prop where
  kind : sc.kind = .function
  co : sc.isCoroutine = false
  gen : sc.isGenerator = false
  nd : N.Nodup
  pre : N.take P.length = P
  par : ∀ x ∈ P, sc.names.lookup x = some .local ∨ sc.names.lookup x = some .cell
  nofree : ∀ y ∈ sc.names, y.2 ≠ .free

theorem bindL_out {kindOf : Str → Option NameKind} {x : Str} : ∀ {binds : List (Str × Value)} {m : Str → Option Value}, (∀ v, (x, v) ∉ binds) → bindL kindOf binds m x = m x
  | [], _, _ => rfl
  | (n, v) :: r, m, h => by
    unfold bindL
    rw [bindL_out fun w hw => h w (List.mem_cons_of_mem _ hw)]
    split
    · have : x ≠ n := by rintro rfl; exact h v List.mem_cons_self
      simp [this]
    · rfl
theorem bindC_out {kindOf : Str → Option NameKind} {x : Str} : ∀ {binds : List (Str × Value)} {m : Str → Option Value}, (∀ v, (x, v) ∉ binds) → bindC kindOf binds m x = m x
  | [], _, _ => rfl
  | (n, v) :: r, m, h => by
    unfold bindC
    rw [bindC_out fun w hw => h w (List.mem_cons_of_mem _ hw)]
    split
    · rfl
    · have : x ≠ n := by rintro rfl; exact h v List.mem_cons_self
      simp [this]
theorem bindL_get {kindOf : Str → Option NameKind} {x : Str} {v : Value} : ∀ {P : List Str} {vs : List Value} {i : Nat} {m : Str → Option Value}, P.Nodup → P[i]? = some x → vs[i]? = some v → kindOf x = some .local →
    bindL kindOf (P.zip vs) m x = some v
  | [], _, _, _, _, h, _, _ => by simp at h
  | _ :: _, [], _, _, _, _, h, _ => by simp at h
  | p :: P, w :: vs, 0, m, nd, h1, h2, hk => by
    simp at h1 h2; subst h1; subst h2
    show bindL kindOf ((p, w) :: P.zip vs) m p = _
    unfold bindL
    rw [bindL_out fun v hv => (List.nodup_cons.mp nd).1 (List.of_mem_zip hv).1, if_pos hk]
    simp
  | p :: P, w :: vs, i + 1, m, nd, h1, h2, hk => by
    show bindL kindOf ((p, w) :: P.zip vs) m x = _
    unfold bindL
    exact bindL_get (i := i) (List.nodup_cons.mp nd).2 (by simpa using h1) (by simpa using h2) hk
theorem bindC_get {kindOf : Str → Option NameKind} {x : Str} {v : Value} : ∀ {P : List Str} {vs : List Value} {i : Nat} {m : Str → Option Value}, P.Nodup → P[i]? = some x → vs[i]? = some v → kindOf x ≠ some .local →
    bindC kindOf (P.zip vs) m x = some v
  | [], _, _, _, _, h, _, _ => by simp at h
  | _ :: _, [], _, _, _, _, h, _ => by simp at h
  | p :: P, w :: vs, 0, m, nd, h1, h2, hk => by
    simp at h1 h2; subst h1; subst h2
    show bindC kindOf ((p, w) :: P.zip vs) m p = _
    unfold bindC
    rw [bindC_out fun v hv => (List.nodup_cons.mp nd).1 (List.of_mem_zip hv).1, if_neg hk]
    simp
  | p :: P, w :: vs, i + 1, m, nd, h1, h2, hk => by
    show bindC kindOf ((p, w) :: P.zip vs) m x = _
    unfold bindC
    exact bindC_get (i := i) (List.nodup_cons.mp nd).2 (by simpa using h1) (by simpa using h2) hk

/-- the names' values at the entry -/
def start (N : List Str) (vs : List V) : St := vs.map some ++ List.replicate (N.length - vs.length) none

/-- the context of a def's body, at its entry; an exception leaves the frame, then lies as CX says -/
def cxOf (CX : CXT) (P : Program) (w : World) (K : PySem.W.Frag) (mg : Str → Option Value) (base : Heap) (N : List Str) (qual : Str) (scope : Scope) (f : Addr) (cd : Value) (A : Around) (outer : List Env) (s : Shared) (H : Hp) (E : XK) : Cx where
  prog := P
  w := w
  K := K
  mg := mg
  base := base
  A := A.deeper (envOfC qual scope s.heap.objs.size f cd)
  N := N
  s_0 := s
  H_0 := H
  env := envOfC qual scope s.heap.objs.size f cd
  outer := outer
  stack := envOfC qual scope s.heap.objs.size f cd :: outer
  ex := []
  calm := true
  fn := fun _ => true
  pn := []
  xe := fun e s' => wpAny (model P w) (A.deeper (envOfC qual scope s.heap.objs.size f cd)) (leaving (envOfC qual scope s.heap.objs.size f cd) e) (fun _ s'' => CX outer H s E e s'') (fun e' s'' => CX outer H s E e' s'') s'

theorem cell_has {sc : Scope} {n : Nat} {x : Str} (h : sc.names.lookup x = some .cell) : ∃ c, (cellsFrom n sc.names []).lookup x = some c := by
  have q := PySem.W.cellsFrom_some sc.names n [] (.inl h)
  exact Option.isSome_iff_exists.mp q

theorem inv_start {CX : CXT} {P : Program} {w : World} {K : PySem.W.Frag} {mg : Str → Option Value} {base : Heap} {N ps : List Str} {qual : Str} {scope : Scope} {f : Addr} {cd : Value} {A : Around} {outer : List Env} {s s1 : Shared} {H : Hp} {E : XK} {us : List Value} {vs : List V}
    (S : FnScope N ps scope) (hd : A.handled = none) (e0 : Env0 P w K mg base A outer s H) (hl : vs.length = ps.length) (r : Vals vs us)
    (x : InCallC s s.heap.objs.size (bindL (envOfC qual scope s.heap.objs.size f cd).kindOf (ps.zip us) fun _ => none) (cellsFrom (s.heap.objs.size + 1) scope.names []) (bindC (envOfC qual scope s.heap.objs.size f cd).kindOf (ps.zip us) fun _ => none) s1) :
    Inv (cxOf CX P w K mg base N qual scope f cd A outer s H E) [] (start N vs) H s1 := by
  have hpl : ps.length ≤ N.length := by have := congrArg List.length S.pre; rw [List.length_take] at this; omega
  obtain ⟨h1, tk, rfl, hk⟩ := x.done
  have noA : ∀ b : Addr, b ∉ (cxOf CX P w K mg base N qual scope f cd A outer s H E).ex := fun b z => absurd (show b ∈ ([] : List Addr) from z) (by simp)
  refine ⟨⟨e0.mod, S.kind, rfl, rfl, Nat.le_refl _, fun y z c h1 h2 => ?_, fun y hy => ?_, fun y c _ h => ?_, fun _ => hd, Around.frames_deeper e0.frames, .inr ⟨rfl, rfl⟩, fun b z => absurd z (noA b), e0.bs, e0.bsz, fun b _ _ => noA b, fun b z => absurd z (noA b), e0.funs, e0.frf⟩,
    rfl, e0.bare, Un.kept hk, ⟨_, x.toInCall.ns, fun i y v h1 h2 h3 => ?_⟩, fun y c h => ⟨_, x.cell y c h⟩, e0.hok.fresh (Nat.le_refl _), fun y c h => ?_, fun p hp => absurd (show p ∈ ([] : List (Addr × Obj)) from hp) (by simp), e0.hok.kept hk, ?_⟩
  · exact name_of_addr x.apart (PySem.mem_of_lookup h1) (PySem.mem_of_lookup h2)
  · have hy : scope.names.lookup y = some .cell ∨ scope.names.lookup y = some .free := hy
    rcases hy with hy | hy
    · exact cell_has hy
    · exact absurd rfl (S.nofree _ (PySem.mem_of_lookup hy))
  · exact Nat.le_of_lt (x.above y c (PySem.mem_of_lookup h))
  · have hi : i < vs.length := by
      unfold start at h2
      by_cases hi : i < vs.length
      · exact hi
      · rw [List.getElem?_append_right (by simpa using hi)] at h2
        rw [List.getElem?_replicate] at h2
        split at h2 <;> cases h2
    have ha : vs[i]? = some v := by
      unfold start at h2
      rw [List.getElem?_append_left (by simpa using hi), List.getElem?_map] at h2
      cases e : vs[i]? with
      | none => rw [e] at h2; cases h2
      | some a => rw [e] at h2; cases h2; rfl
    obtain ⟨u, hu, rv⟩ := r.get ha
    have hp : ps[i]? = some y := by
      rw [← S.pre, List.getElem?_take_of_lt (by omega)]; exact h1
    have ndP : ps.Nodup := by rw [← S.pre]; exact S.nd.sublist (List.take_sublist _ _)
    refine ⟨u, rv, ?_⟩
    rcases S.par y (List.mem_of_getElem? hp) with k | k
    · exact .inl ⟨k, bindL_get ndP hp hu k⟩
    · obtain ⟨c, e⟩ := cell_has (n := s.heap.objs.size + 1) k
      refine .inr ⟨.inl k, c, e, ?_⟩
      have q := x.cell y c e
      rw [bindC_get ndP hp hu (by show scope.names.lookup y ≠ _; rw [k]; decide)] at q
      exact q
  · exact e0.hok.fresh (Nat.le_of_lt (x.above y c (PySem.mem_of_lookup h)))
  · unfold start
    show _ = N.length
    rw [List.length_append, List.length_map, List.length_replicate]
    omega

/-- THE RULE: a def (or a method) of the text, by its body. The body's reading t is chosen for each entry; it is run at the parameters' values -/
theorem fn_of {CX : CXT} {P : Program} {w : World} {K : PySem.W.Frag} {mg : Str → Option Value} {base : Heap} {k : Nat} {f : Addr} {name qual : Str} {params : Arguments} {body : List Stmt} {scope : Scope} {dV kV doc pm cdv ct oc : Value} {an od : Option Addr}
    {osl : Array (Option Value)} {N ps : List Str} {sp : Sp} (lk : K.lookup f = some ⟨oc, od, .func (PySem.W.fnOf name qual params body scope dV kV doc pm an cdv ct), osl⟩) (hcd : PySem.W.codeIn K cdv qual = true) (S : FnScope N ps scope)
    (len : ∀ vs H Q E, sp vs H Q E → vs.length = ps.length)
    (hbody : ∀ (A : Around) (outer : List Env) (s : Shared) (H : Hp) (vs : List V) (Q : VK) (E : XK), Room k (A.deeper (envOfC qual scope s.heap.objs.size f cdv)) → sp vs H Q E →
      ∃ t, PSs (cxOf CX P w K mg base N qual scope f cdv A outer s H E) body t ∧ t { nx := fun _ H' => Q .non H', rt := Q } (start N vs) H) :
    FnOk P w K mg base CX (k + 1) f (PySem.W.fnOf name qual params body scope dV kV doc pm an cdv ct) ps sp := by
  refine ⟨len, fun A outer s H args us vs Q E hr e0 hb r hsp => ?_⟩
  have hl := len _ _ _ _ hsp
  have KX : K.In s.heap := e0.mod.kin.keeps fun b o e => (e0.bs b o e).1
  have lim : s.heap.NoLimit := e0.mod.nolimit.keeps fun b o e => (e0.bs b o e).1
  have hkind : ∀ y ∈ ps.zip us, scope.names.lookup y.1 = some .local ∨ (scope.names.lookup y.1 = some .cell ∧ ((cellsFrom (s.heap.objs.size + 1) scope.names []).lookup y.1).isSome = true) := fun ⟨n, v⟩ hy => by
    rcases S.par n (List.of_mem_zip hy).1 with q | q
    · exact .inl q
    · exact .inr ⟨q, PySem.W.cellsFrom_some _ _ _ (.inl q)⟩
  refine codeAny_call_function hr.depth (KX _ _ lk) rfl S.co S.gen rfl (PySem.W.codeRec_of KX hcd) (hb _ _ _ _ ?_)
  refine wpAny_newFunctionEnv_cells S.kind hkind fun env he s1 x => ?_
  subst he
  refine ⟨lim.keeps x.toInCall.keep, codeAny_func ?_⟩
  obtain ⟨t, ht, hq⟩ := hbody A outer s H vs Q E (hr.deeper _) hsp
  have I : Inv (cxOf CX P w K mg base N qual scope f cdv A outer s H E) [] (start N vs) H s1 := inv_start S hr.hd e0 hl r x
  refine wpAny_mono (ht [] s1 (start N vs) H _ I hq) (fun fl s' hs => ?_) fun e s' hs => hs
  have fin : ∀ {σ' : St} {H' : Hp} {v : V} {u : Value}, Inv (cxOf CX P w K mg base N qual scope f cdv A outer s H E) [] σ' H' s' → RelV v u → Q v H' → CE outer P w H s Q u s' :=
    fun {σ' H' v u} J rv q => ⟨v, H', J.os, J.bare, J.base, J.hok, rv, q⟩
  cases fl with
  | ret u =>
    obtain ⟨v, σ', H', J, rv, q⟩ := hs
    exact fin J rv q
  | next =>
    obtain ⟨σ', H', J, q⟩ := hs
    exact fin (v := V.non) (u := Value.none) J rfl q
  | brk =>
    obtain ⟨_, _, _, q⟩ := hs
    exact False.elim q
  | cont =>
    obtain ⟨_, _, _, q⟩ := hs
    exact False.elim q
end L2

namespace L2
open PySem PySem.Spec PyProof.Rows
section
variable {X : Cx} {x : Str} {p pos : Pos} {e : Expr} {es : List Expr} {t : TA} {id T : String} {r : List V → Hp → VK → Prop}

def tCB (r : List V → Hp → VK → Prop) (t : TA) : TE := fun σ H Q => t σ H fun vs H1 => r vs H1 Q
/-- f(e, ..), f a built-in function -/
theorem pe_callB (hc : CallR X (.builtin id) r) (hg : Gl X x) (hm : X.mg x = none) (hv : bootBuiltins x = some (.builtin id)) (ha : PA X (e :: es) t) (hn : x ≠ "__name__" := by decide) (hdb : (x == ("__debug__" : Str)) = false := by decide)
    (he : starEach (e :: es) X.env = (false, eval e X.env) :: starEach es X.env := by rfl) (hpl : (backTo pos (starEach es X.env)).any (·.1) = false := by rfl) : PE X (.Call (.Name x p) (e :: es) [] pos) (tCB r t) := by
  intro pins s σ H Q I h
  refine wpAny_Call_Name_kw (ld_blt I hg hm hv ?_ hn hdb)
  exact PyProof.Rows.callWith_builtin1 (thn (ha pos pins s σ H _ I h) fun us s1 ⟨vs, H1, I1, r1, q1⟩ => hc pins s1 σ H1 vs us Q I1 r1 q1) he hpl
/-- T(e, ..), T a built-in type -/
theorem pe_callTy (hc : CallR X (.type T) r) (hg : Gl X x) (hm : X.mg x = none) (hv : bootBuiltins x = some (.type T)) (ha : PA X (e :: es) t) (hn : x ≠ "__name__" := by decide) (hdb : (x == ("__debug__" : Str)) = false := by decide)
    (he : starEach (e :: es) X.env = (false, eval e X.env) :: starEach es X.env := by rfl) (hpl : (backTo pos (starEach es X.env)).any (·.1) = false := by rfl) : PE X (.Call (.Name x p) (e :: es) [] pos) (tCB r t) := by
  intro pins s σ H Q I h
  refine wpAny_Call_Name_kw (ld_blt I hg hm hv ?_ hn hdb)
  exact PyProof.Rows.callWith_type1 (thn (ha pos pins s σ H _ I h) fun us s1 ⟨vs, H1, I1, r1, q1⟩ => hc pins s1 σ H1 vs us Q I1 r1 q1) he hpl
end
end L2

namespace HT
open PySem PyProof.Rows

/-- t < u of tuples of ints -/
def lexLt : List Int → List Int → Bool
  | [], [] => false
  | [], _ :: _ => true
  | _ :: _, [] => false
  | x :: xs, y :: ys => if x = y then lexLt xs ys else decide (x < y)
theorem lexLt_cons (x y : Int) (xs ys : List Int) : lexLt (x :: xs) (y :: ys) = if x = y then lexLt xs ys else decide (x < y) := rfl
theorem lexLt_nil_nil : lexLt [] [] = false := rfl
theorem lexLt_nil_cons (y : Int) (ys : List Int) : lexLt [] (y :: ys) = true := rfl
theorem lexLt_cons_nil (x : Int) (xs : List Int) : lexLt (x :: xs) [] = false := rfl

theorem eqAt_int (A : Around) (s : Shared) (a : Int) (t : Tok) (c : Int) (u : Tok) : ∃ e, SeqAt.EqAt A s (.int a t) (.int c u) e ∧ (e = true ↔ a = c) :=
  ⟨(a == c), SeqAt.EqAt.int_int a t c u, by simp⟩
theorem rcLt_int (A : Around) (s : Shared) (a : Int) (t : Tok) (c : Int) (u : Tok) (prog : Program) (w : World) (E : Value → Shared → Prop) (Q : Value → Shared → Prop) (h : Q (.bool (decide (a < c))) s) :
    wpAny (model prog w) A (richCompare .Lt (.int a t) (.int c u)) Q E s :=
  (PyProof.Rows.lt_int h : wpAny (model prog w) A (compareOp .Lt (.int a t) (.int c u)) Q E s)

section
open PySem.SeqAt
open PySem.AutoSeq1 (wpAny_loadPart')
open PySem.MeetsSeq PySem.MeetsSeq2 PySem.MeetsSeq3

theorem tuple_lt_ints (l b : Addr) (items items2 : Array Value) (n n2 : Nat) (dd dd2 : Option Addr) (sl sl2 : Array (Option Value)) (ns ms : List Int) (hi : IntsAre items.toList ns) (hj : IntsAre items2.toList ms) :
    Meets (Builtin.«tuple.__lt__» ⟨[.ref l, .ref b], []⟩)
      (fun _ R s => s.heap.get? l = some { cls := .type "tuple", dict := dd, data := .seq items n, slots := sl } ∧ s.heap.get? b = some { cls := .type "tuple", dict := dd2, data := .seq items2 n2, slots := sl2 } ∧
        R (.ok (.ret (.bool (lexLt ns ms)))) s) :=
  .of_wp fun prog w A R s h => by
    obtain ⟨hp, g, d, tk, os⟩ := s; obtain ⟨hl, hb, h⟩ := h
    have f2 := AutoSeq1.sub_tuple_tuple
    have z1 : items.size = ns.length := by rw [← hi.length]; simp
    have z2 : items2.size = ms.length := by rw [← hj.length]; simp
    wp_walk using wpAny_loadPart' hl, wpAny_loadPart' hb, wpAny_forIn_list _ (fun rest b s' => b.1 = none ∧ s' = ⟨hp, g, d, tk, os⟩ ∧ ∃ (vs ws : List Value) (ns' ms' : List Int), rest = vs.zip ws ∧
      IntsAre vs ns' ∧ IntsAre ws ms' ∧ ns'.length + items2.size = ms'.length + items.size ∧ R (.ok (.ret (.bool (lexLt ns' ms')))) ⟨hp, g, d, tk, os⟩) _
    case turn =>
      rintro ⟨y, x⟩ rest b s' ⟨hb', rfl, vs, ws, ns', ms', hz, hvi, hwi, hlen, hR⟩
      cases hvi with
      | nil => rw [List.zip_nil_left] at hz; cases hz
      | cons a t hvi' =>
        cases hwi with
        | nil => rw [List.zip_nil_right] at hz; cases hz
        | cons c u hwi' =>
          rw [List.zip_cons_cons] at hz
          injection hz with hyx hrest
          injection hyx with hy hx
          subst hy hx
          rw [lexLt_cons] at hR
          simp only [List.length_cons] at hlen
          obtain ⟨e, he, hiff⟩ := eqAt_int A.in1 ⟨hp, g, d, tk, os⟩ a t c u
          refine wpAny_bind (he prog w _ _ ?_)
          cases e with
          | true =>
            rw [if_pos (hiff.mp rfl)] at hR
            wp_walk
            exact ⟨rfl, rfl, _, _, _, _, hrest, hvi', hwi', by omega, hR⟩
          | false =>
            rw [if_neg (fun q => absurd (hiff.mpr q) Bool.false_ne_true)] at hR
            have hri := rcLt_int A.in1 ⟨hp, g, d, tk, os⟩ a t c u prog w
            wp_walk using hri
            exact ⟨_, rfl, by simpa using hR⟩
    case fin =>
      rintro ⟨b1, b2⟩ s' ⟨hb', rfl, vs, ws, ns', ms', hz, hvi, hwi, hlen, hR⟩
      simp only at hb'
      subst hb'
      have hv : lexLt ns' ms' = decide (items.size < items2.size) := by
        cases hvi with
        | nil =>
          cases hwi with
          | nil =>
            simp only [List.length_nil] at hlen
            rw [lexLt_nil_nil]
            exact (decide_eq_false (by omega)).symm
          | cons c u hw =>
            simp only [List.length_nil, List.length_cons] at hlen
            rw [lexLt_nil_cons]
            exact (decide_eq_true (by omega)).symm
        | cons a t hv =>
          cases hwi with
          | nil =>
            simp only [List.length_nil, List.length_cons] at hlen
            rw [lexLt_cons_nil]
            exact (decide_eq_false (by omega)).symm
          | cons c u hw =>
            rw [List.zip_cons_cons] at hz
            cases hz
      rw [hv] at hR
      wp_walk
      exact ⟨_, rfl, by simpa [Builtin.Tuple.tupleCompareSizes] using hR⟩
    case h =>
      exact ⟨rfl, rfl, items.toList, items2.toList, ns, ms, rfl, hi, hj, by omega, h⟩
end

section
variable {prog : Program} {w : World} {A : Around} {E : Value → Shared → Prop} {s : Shared}

theorem lt_tupInts {l b : Addr} {items items2 : Array Value} {ns ms : List Int} {Q : Value → Shared → Prop} (hl : IsTup s.heap l items) (hb : IsTup s.heap b items2) (hi : IntsAre items.toList ns) (hj : IntsAre items2.toList ms)
    (hu : A.units < cLine) (h : Q (.bool (lexLt ns ms)) s) : wpAny (model prog w) A (compareOp .Lt (.ref l) (.ref b)) Q E s := by
  obtain ⟨⟨cls, dd, data, sl⟩, ho, hc, n, hd⟩ := id hl
  obtain ⟨⟨cls2, dd2, data2, sl2⟩, ho2, hc2, n2, hd2⟩ := id hb
  simp only at hc hd hc2 hd2
  subst hc hd hc2 hd2
  exact richCompare_meets_room (op := .Lt) ⟨_, ho, rfl⟩ ⟨_, ho2, rfl⟩ PySem.F.slot_tuple_lt PySem.F.entry_tuple_lt (PySem.F.args_tuple_lt_2 _ _) (tuple_lt_ints l b items items2 n n2 dd dd2 sl sl2 ns ms hi hj)
    ⟨ho, ho2, show Value.bool (lexLt ns ms) ≠ Value.notImplemented ∧ Q (.bool (lexLt ns ms)) s from ⟨(fun x => nomatch x), h⟩⟩ hu


/-! ### t[a:b], not the whole -/
/-- a slice's bound as a place among n (d where it is left out) -/
def sIx (n d : Nat) : Option Int → Nat
  | none => d
  | some v => if v < 0 then (v + (n : Int)).toNat else min v.toNat n
theorem sIx_none (n d : Nat) : sIx n d none = d := rfl
theorem sIx_nat (n d k : Nat) : sIx n d (some (k : Int)) = min k n := by
  show (if (k : Int) < 0 then ((k : Int) + (n : Int)).toNat else min (k : Int).toNat n) = min k n
  rw [if_neg (by omega), Int.toNat_natCast]

end
end HT

namespace L2
open PySem PySem.Spec PyProof.Rows

/-! ### the parts of a slice -/
abbrev TO := St → Hp → (Option Int → Hp → Prop) → Prop
/-- a slice's part (left out, or an int) -/
def PO (X : Cx) (e : Option Expr) (t : TO) : Prop :=
  ∀ (pins : List (Addr × Obj)) (s : Shared) (σ : St) (H : Hp) (Q : Option Int → Hp → Prop), Inv X pins σ H s → t σ H Q →
    wpAny (model X.prog X.w) X.A (evalPart e X.env) (fun u s' => ∃ o H', Inv X pins σ H' s' ∧ IsPart u o ∧ Q o H') X.xe s
def tNoPart : TO := fun _ H Q => Q none H
def tPart (t : TE) : TO := fun σ H Q => t σ H fun x H1 => ∃ i, x = .int i ∧ Q (some i) H1

theorem intsAre_of {ns : List Int} : ∀ {us : List Value}, Vals (ns.map V.int) us → IntsAre us ns := by
  induction ns with
  | nil => intro us r; rw [List.map_nil] at r; cases r; exact .nil
  | cons n ns ih =>
    intro us r
    rw [List.map_cons] at r
    cases r with
    | cons r1 r2 =>
      obtain ⟨t, e⟩ := r1
      subst e
      exact .cons n t (ih r2)

section
variable {X : Cx} {e : Expr} {te : TE} {lo hi : Option Expr} {tl th : TO} {pos p2 : Pos}

theorem po_none : PO X none tNoPart := by
  intro pins s σ H Q I h
  rw [evalPart_none]
  exact wpAny_pure ⟨none, H, I, .none, h⟩
theorem po_some (h : PE X e te) : PO X (some e) (tPart te) := by
  intro pins s σ H Q I hw
  rw [evalPart_some]
  refine thn (h pins s σ H _ I hw) fun u s1 ⟨x, H1, I1, r1, q1⟩ => ?_
  obtain ⟨i, rfl, q⟩ := q1
  obtain ⟨t, rfl⟩ := r1
  exact ⟨some i, H1, I1, .int i t, q⟩

/-- what a slice of a value is, by values: the slice object stands at sl -/
def SlR (X : Cx) (r : V → Option Int → Option Int → Hp → VK → Prop) : Prop :=
  ∀ (pins : List (Addr × Obj)) (s : Shared) (σ : St) (H : Hp) (x : V) (v vl vu : Value) (lo hi : Option Int) (sl : Addr) (Q : VK), Inv X pins σ H s → RelV x v → s.heap.IsSliceOf sl vl vu .none → IsPart vl lo → IsPart vu hi → r x lo hi H Q →
    ∃ T id, typeLookup (.type T) "__getitem__" = pure (some (.builtin id)) ∧ s.TypeIs v T ∧ wpAny (model X.prog X.w) X.A (getItem v (.ref sl)) (EP X pins σ Q) X.xe s
def tSl (r : V → Option Int → Option Int → Hp → VK → Prop) (te : TE) (tl th : TO) : TE := fun σ H Q => te σ H fun x H1 => tl σ H1 fun l H2 => th σ H2 fun u H3 => r x l u H3 Q
/-- a[lo:hi], any a -/
theorem pe_slice {r : V → Option Int → Option Int → Hp → VK → Prop} (hr : SlR X r) (he : PE X e te) (hl : PO X lo tl) (hu : PO X hi th) : PE X (.Subscript e (.Slice lo hi none p2) pos) (tSl r te tl th) := by
  intro pins s σ H Q I h
  refine Subscript_ (thn (he pins s σ H _ I h) fun v s1 ⟨x, H1, I1, r1, q1⟩ => ?_)
  refine wpAny_Slice (thn (hl pins s1 σ H1 _ I1 q1) fun vl s2 ⟨l, H2, I2, pl, q2⟩ => thn (hu pins s2 σ H2 _ I2 q2) fun vu s3 ⟨u, H3, I3, pu, q3⟩ => ?_)
  rw [evalPart_none]
  refine wpAny_pure ?_
  have I4 : Inv X pins σ H3 { s3 with heap := s3.heap.push { cls := .type "slice", data := .fields #[vl, vu, .none] } } := I3.kept (t' := s3.toks) fun b ob q => Heap.get?_push_of_some _ q
  obtain ⟨T, id, hT, ht, hg⟩ := hr pins { s3 with heap := s3.heap.push { cls := .type "slice", data := .fields #[vl, vu, .none] } } σ H3 x v vl vu l u s3.heap.objs.size Q I4 r1 (Heap.IsSliceOf.new ..) pl pu q3
  show wpAny (model X.prog X.w) X.A (subscriptTail e (.Slice lo hi none p2) v (.ref s3.heap.objs.size)) (EP X pins σ Q) X.xe { s3 with heap := s3.heap.push { cls := .type "slice", data := .fields #[vl, vu, .none] } }
  exact tail_any (ops := [.ref s3.heap.objs.size, v]) ht hT hg (by with_unfolding_all rfl)

/-- the items of xs[lo:hi] -/
def cutV (xs : List V) (lo hi : Option Int) : List V := (xs.drop (HT.sIx xs.length 0 lo)).take (HT.sIx xs.length xs.length hi - HT.sIx xs.length 0 lo)
theorem cutV_length (xs : List V) (lo hi : Option Int) : (cutV xs lo hi).length ≤ xs.length := by
  unfold cutV
  rw [List.length_take, List.length_drop]
  omega

/-! ### t < u, t + u -/
def rLtT (K : PySem.W.Frag) : R2 := fun x y H Q => ∃ a b ns ms, x = .ref a ∧ y = .ref b ∧ SqT K H a (ns.map V.int) ∧ SqT K H b (ms.map V.int) ∧ Q (.bl (HT.lexLt ns ms)) H
theorem op_ltT (hu : X.A.units < cLine) : OpR X (compareOp .Lt) (rLtT X.K) := by
  intro pins s σ H x y v u Q I rx ry h
  obtain ⟨a, b, ns, ms, rfl, rfl, ha, hb, q⟩ := h
  cases rx
  cases ry
  obtain ⟨its, r1, p1, _⟩ := I.tuple ha
  obtain ⟨its2, r2, p2, _⟩ := I.tuple hb
  have i1 : IntsAre its.toArray.toList ns := intsAre_of r1
  have i2 : IntsAre its2.toArray.toList ms := intsAre_of r2
  exact HT.lt_tupInts p1 p2 i1 i2 hu ⟨.bl (HT.lexLt ns ms), H, I, rfl, q⟩
end
end L2

namespace L2
open PySem PySem.Spec PyProof.Rows

/-! ### places -/
/-- the place that an index of any sign means -/
def ixN (n : Nat) (i : Int) : Option Nat := if 0 ≤ i then (if i < n then some i.toNat else none) else if -(n : Int) ≤ i then some (i + n).toNat else none
def atI {α : Type} (xs : List α) (i : Int) : Option α := (ixN xs.length i).bind fun j => xs[j]?
theorem ixN_seq {n : Nat} {i : Int} {j : Nat} (h : ixN n i = some j) : seqIndex? i n = some j ∧ j < n ∧ -(n : Int) ≤ i ∧ i < n := by
  unfold ixN at h
  by_cases h0 : 0 ≤ i
  · rw [if_pos h0] at h
    by_cases h1 : i < n
    · rw [if_pos h1] at h
      have e : i.toNat = j := Option.some.inj h
      exact ⟨by rw [seqIndex_of h0 h1, e], by omega, by omega, h1⟩
    · rw [if_neg h1] at h; cases h
  · rw [if_neg h0] at h
    by_cases h1 : -(n : Int) ≤ i
    · rw [if_pos h1] at h
      have e : (i + n).toNat = j := Option.some.inj h
      exact ⟨by rw [seqIndex_neg (by omega) h1, e], by omega, h1, by omega⟩
    · rw [if_neg h1] at h; cases h
theorem atI_get {α : Type} {xs : List α} {i : Int} {v : α} (h : atI xs i = some v) : ∃ j, seqIndex? i xs.length = some j ∧ xs[j]? = some v ∧ j < xs.length ∧ -(xs.length : Int) ≤ i ∧ i < xs.length := by
  unfold atI at h
  cases e : ixN xs.length i with
  | none => rw [e] at h; cases h
  | some j =>
    rw [e] at h
    obtain ⟨h1, h2, h3, h4⟩ := ixN_seq e
    exact ⟨j, h1, h, h2, h3, h4⟩
theorem atI_nat {α : Type} {xs : List α} {j : Nat} {v : α} (h : xs[j]? = some v) : atI xs (j : Int) = some v := by
  have hj : j < xs.length := (List.getElem?_eq_some_iff.mp h).1
  have e : ixN xs.length (j : Int) = some j := by
    unfold ixN
    rw [if_pos (by omega), if_pos (by omega)]; simp
  unfold atI; rw [e]; exact h
theorem atI_last {α : Type} (xs : List α) (v : α) : atI (xs ++ [v]) (-1) = some v := by
  have hl : (xs ++ [v]).length = xs.length + 1 := by simp
  have e : ixN (xs ++ [v]).length (-1) = some xs.length := by
    unfold ixN
    rw [hl, if_neg (by decide), if_pos (by omega)]
    congr 1
    omega
  unfold atI
  rw [e]
  show (xs ++ [v])[xs.length]? = some v
  simp

/-! ### what may be subscripted -/
/-- what stands as an index of a plain subscript -/
def PlainIx (b : Expr) : Prop := ∀ o i, subscripted b false o i = operate [o, i] (getItem o i)
/-- a subscript by values -/
def IxR (X : Cx) (r : R2) : Prop :=
  ∀ (value slice : Expr) (pins : List (Addr × Obj)) (s : Shared) (σ : St) (H : Hp) (x y : V) (v u : Value) (Q : VK), Inv X pins σ H s → RelV x v → RelV y u → r x y H Q →
    subscripted slice false v u = operate [v, u] (getItem v u) → wpAny (model X.prog X.w) X.A (subscriptTail value slice v u) (EP X pins σ Q) X.xe s
/-- a call of a builtin's method by values: the receiver, the arguments -/
def MtR (X : Cx) (id : String) (r : V → List V → Hp → VK → Prop) : Prop :=
  ∀ (pins : List (Addr × Obj)) (s : Shared) (σ : St) (H : Hp) (x : V) (xs : List V) (v : Value) (us : List Value) (Q : VK), Inv X pins σ H s → RelV x v → Vals xs us → r x xs H Q →
    wpAny (model X.prog X.w) X.A (call (.builtin id) (v :: us)) (EP X pins σ Q) X.xe s
section
variable {X : Cx} {a b : Expr} {ta tb : TE} {pos : Pos}
/-- a[b] -/
theorem pe_ix {r : R2} (hr : IxR X r) (ha : PE X a ta) (hb : PE X b tb) (hs : PlainIx b) : PE X (.Subscript a b pos) (tOp r ta tb) := by
  intro pins s σ H Q I h
  exact Subscript_ (binT ha hb I h fun v u s2 x y H2 I2 rx ry q => hr a b pins s2 σ H2 x y v u Q I2 rx ry q (hs _ _))

def rIxL (K : PySem.W.Frag) : R2 := fun x y H Q => ∃ p xs i v, x = .ref p ∧ y = .int i ∧ SqL K H p xs ∧ atI xs i = some v ∧ Q v H
def rIxT (K : PySem.W.Frag) : R2 := fun x y H Q => ∃ p xs i v, x = .ref p ∧ y = .int i ∧ SqT K H p xs ∧ atI xs i = some v ∧ Q v H
theorem ix_list : IxR X (rIxL X.K) := by
  intro value slice pins s σ H x y v u Q I rx ry h hs
  obtain ⟨p, xs, i, z, rfl, rfl, hq, he, q⟩ := h
  cases rx
  obtain ⟨t, rfl⟩ := ry
  obtain ⟨its, r, pl, hz⟩ := I.list hq
  obtain ⟨j, h1, h2, h3, h4, h5⟩ := atI_get he
  obtain ⟨w, ew, rw'⟩ := r.get h2
  have hl := r.length
  have hn := line63
  have fin : EP X pins σ Q w s := ⟨z, H, I, rw', q⟩
  by_cases h0 : 0 ≤ i
  · have hj : i.toNat = j := by
      rw [seqIndex_of h0 h5] at h1
      exact Option.some.inj h1
    exact item_listR pl.isList h0 (by omega) (by rw [hj]; simpa using ew) fin hs
  · have hj : (i + (its.toArray.size : Int)).toNat = j := by
      rw [seqIndex_neg (by omega) h4] at h1
      rw [List.size_toArray, ← hl]
      exact Option.some.inj h1
    exact subscriptTail_builtinR (x := w) pl.isList.typeIs slot_list_getitem.lookup
      (wpAny_getItem_list_neg (Q := fun r s' => r = w ∧ EP X pins σ Q r s') pl.isList (by omega) (by rw [List.size_toArray] <;> omega) (by omega) (by rw [hj]; simpa using ew) ⟨rfl, fin⟩) hs
theorem ix_tup : IxR X (rIxT X.K) := by
  intro value slice pins s σ H x y v u Q I rx ry h hs
  obtain ⟨p, xs, i, z, rfl, rfl, hq, he, q⟩ := h
  cases rx
  obtain ⟨t, rfl⟩ := ry
  obtain ⟨its, r, pl, hz⟩ := I.tuple hq
  obtain ⟨j, h1, h2, h3, h4, h5⟩ := atI_get he
  obtain ⟨w, ew, rw'⟩ := r.get h2
  have hl := r.length
  have hn := line63
  have fin : EP X pins σ Q w s := ⟨z, H, I, rw', q⟩
  exact subscriptTail_builtinR (x := w) pl.typeIs slot_tuple_getitem.lookup
    (getItem_tuple (j := j) (Q := fun r s' => r = w ∧ EP X pins σ Q r s') pl (by omega) (by omega) (by rw [List.size_toArray, ← hl]; exact h1) (by simpa using ew) ⟨rfl, fin⟩) hs

/-! ### xs[i] = v, any sign -/

/-! ### slices -/
theorem slice_bounds (lo hi : Option Int) (n : Nat) : (sliceBounds lo hi none n).1 = ((HT.sIx n 0 lo : Nat) : Int) ∧ (sliceBounds lo hi none n).2.1 = ((HT.sIx n n hi : Nat) : Int) ∧ (sliceBounds lo hi none n).2.2 = 1 := by
  refine ⟨?_, ?_, rfl⟩
  · cases lo with
    | none => simp [sliceBounds, HT.sIx]
    | some i =>
      simp only [sliceBounds, HT.sIx, Option.getD_none, show (1 : Int) > 0 by decide, if_true]
      by_cases h : i < 0
      · simp only [h, if_true] <;> omega
      · simp only [h, if_false] <;> omega
  · cases hi with
    | none => simp [sliceBounds, HT.sIx]
    | some i =>
      simp only [sliceBounds, HT.sIx, Option.getD_none, show (1 : Int) > 0 by decide, if_true]
      by_cases h : i < 0
      · simp only [h, if_true] <;> omega
      · simp only [h, if_false] <;> omega
theorem slicePick_cut (its : List Value) (lo hi : Option Int) : slicePick its.toArray lo hi none = ((its.drop (HT.sIx its.length 0 lo)).take (HT.sIx its.length its.length hi - HT.sIx its.length 0 lo)).toArray := by
  obtain ⟨h1, h2, h3⟩ := slice_bounds lo hi its.toArray.size
  unfold slicePick
  rw [h1, h2, h3]
  simp only [sliceRange_one, pick_run, List.size_toArray] <;> rfl
/-- xs[lo:hi] of a list: a new list -/
def rSlL (K : PySem.W.Frag) : V → Option Int → Option Int → Hp → VK → Prop := fun x lo hi H Q => ∃ a xs, x = .ref a ∧ SqL K H a xs ∧ ∀ p, H p = none → Q (.ref p) (upd H p (.lst (cutV xs lo hi)))
theorem sl_list : SlR X (rSlL X.K) := by
  intro pins s σ H x v vl vu lo hi sl Q I rx hs pl pu h
  obtain ⟨a, xs, rfl, hx, q⟩ := h
  cases rx
  obtain ⟨its, r, ht, hz⟩ := I.list hx
  have hlen := r.length
  refine ⟨"list", _, slot_list_getitem.lookup, ht.isList.typeIs, ?_⟩
  refine wpAny_getItem_list_slice ht.isList hs pl pu .none (by simp) ?_ (by rw [List.size_toArray] <;> omega)
  rw [slicePick_cut, ← hlen]
  refine ⟨.ref s.heap.objs.size, _, I.laid (t' := s.toks) (o := .lst (cutV xs lo hi)) (fun b ob q => Heap.get?_push_of_some _ q) (Nat.le_refl _) ?_, rfl, q _ (I.hok.fresh (Nat.le_refl _))⟩
  exact ⟨Nat.le_trans (cutV_length xs lo hi) hz, _, 0, (r.drop (HT.sIx xs.length 0 lo)).take (HT.sIx xs.length xs.length hi - HT.sIx xs.length 0 lo), Heap.get?_push_size _ rfl⟩

/-! ### in, not in: flat items -/
def flatV : V → Bool
  | .non => true
  | .bl _ => true
  | .int _ => true
  | .str _ => true
  | _ => false
/-- == of flat values -/
def eqV : V → V → Bool
  | .non, .non => true
  | .bl a, .bl b => a == b
  | .bl a, .int b => (if a then 1 else 0) == b
  | .int a, .bl b => a == (if b then 1 else 0)
  | .int a, .int b => a == b
  | .str a, .str b => a == b
  | _, _ => false
theorem eqAt_V {A : Around} {s : Shared} {y x : V} {u v : Value} (ry : RelV y u) (rx : RelV x v) (fy : flatV y = true) (fx : flatV x = true) : SeqAt.EqAt A s u v (eqV y x) := by
  cases y with
  | non =>
    cases ry
    cases x with
    | non => cases rx; exact SeqAt.EqAt.same _
    | bl b => cases rx; exact SeqAt.EqAt.none_bool b
    | int b => obtain ⟨t, rfl⟩ := rx; exact SeqAt.EqAt.none_int b t
    | str b => obtain ⟨t, rfl⟩ := rx; exact SeqAt.EqAt.none_str b t
    | _ => exact absurd (show false = true from fx) Bool.false_ne_true
  | bl a =>
    cases ry
    cases x with
    | non => cases rx; exact SeqAt.EqAt.bool_none a
    | bl b => cases rx; exact SeqAt.EqAt.bool_bool a b
    | int b => obtain ⟨t, rfl⟩ := rx; exact SeqAt.EqAt.bool_int a b t
    | str b => obtain ⟨t, rfl⟩ := rx; exact SeqAt.EqAt.bool_str a b t
    | _ => exact absurd (show false = true from fx) Bool.false_ne_true
  | int a =>
    obtain ⟨t', rfl⟩ := ry
    cases x with
    | non => cases rx; exact SeqAt.EqAt.int_none a t'
    | bl b => cases rx; exact SeqAt.EqAt.int_bool a t' b
    | int b => obtain ⟨t, rfl⟩ := rx; exact SeqAt.EqAt.int_int a t' b t
    | str b => obtain ⟨t, rfl⟩ := rx; exact SeqAt.EqAt.int_str a t' b t
    | _ => exact absurd (show false = true from fx) Bool.false_ne_true
  | str a =>
    obtain ⟨t', rfl⟩ := ry
    cases x with
    | non => cases rx; exact SeqAt.EqAt.str_none a t'
    | bl b => cases rx; exact SeqAt.EqAt.str_bool a t' b
    | int b => obtain ⟨t, rfl⟩ := rx; exact SeqAt.EqAt.str_int a t' b t
    | str b => obtain ⟨t, rfl⟩ := rx; exact SeqAt.EqAt.str_str a t' b t
    | _ => exact absurd (show false = true from fx) Bool.false_ne_true
  | _ => exact absurd (show false = true from fy) Bool.false_ne_true
/-- the items' answers, read off the values (a value's own answer does not lean on its token) -/
def eqU (x : V) (u : Value) : Bool := match u with
  | .none => eqV .non x
  | .bool b => eqV (.bl b) x
  | .int i _ => eqV (.int i) x
  | .str z _ => eqV (.str z) x
  | _ => false
theorem eqU_of {x y : V} {u : Value} (r : RelV y u) (f : flatV y = true) : eqU x u = eqV y x := by
  cases y with
  | non => cases r; rfl
  | bl b => cases r; rfl
  | int i => obtain ⟨t, rfl⟩ := r; rfl
  | str z => obtain ⟨t, rfl⟩ := r; rfl
  | _ => exact absurd (show false = true from f) Bool.false_ne_true
theorem mem_eqAt {A : Around} {s : Shared} {x : V} {v : Value} (rx : RelV x v) (fx : flatV x = true) : ∀ {xs : List V} {us : List Value}, Vals xs us → xs.all flatV = true → ∀ u ∈ us, SeqAt.EqAt A s u v (eqU x u)
  | _, _, .nil, _ => fun u hu => by cases hu
  | y :: xs, u :: us, .cons r t, f => fun u' hu => by
    rw [List.all_cons, Bool.and_eq_true] at f
    rcases List.mem_cons.mp hu with rfl | hu
    · rw [eqU_of r f.1]; exact eqAt_V r rx f.1 fx
    · exact mem_eqAt rx fx t f.2 u' hu

/-! ### len, list(x), tuple(x) of any list or tuple that is read -/
theorem call_len_seq : CallR X (.builtin "len") (fun xs H Q => ∃ p ys, xs = [.ref p] ∧ (SqL X.K H p ys ∨ SqT X.K H p ys) ∧ Q (.int ys.length) H) := by
  intro pins s σ H xs us Q I r h
  obtain ⟨p, ys, rfl, hq, q⟩ := h
  obtain ⟨u, rfl, rx⟩ := vals1 r
  cases rx
  have hn := line63
  rcases hq with hq | hq
  · obtain ⟨its, r', pl, hz⟩ := I.list hq
    have hlen := r'.length
    exact Calls.call_len_list pl.isList (by simp only [List.size_toArray] <;> omega) ⟨.int ys.length, H, I.tok _, ⟨s.toks + 1, by rw [List.size_toArray, hlen]⟩, q⟩
  · obtain ⟨its, r', pl, hz⟩ := I.tuple hq
    have hlen := r'.length
    exact len_tuple pl (by simp only [List.size_toArray] <;> omega) ⟨.int ys.length, H, I.tok _, ⟨s.toks + 1, by rw [List.size_toArray, hlen]⟩, q⟩
theorem call_list_of : CallR X (.type "list") (fun xs H Q => ∃ p ys, xs = [.ref p] ∧ (SqL X.K H p ys ∨ SqT X.K H p ys) ∧ ∀ l, H l = none → Q (.ref l) (upd H l (.lst ys))) := by
  intro pins s σ H xs us Q I r h
  obtain ⟨p, ys, rfl, hq, q⟩ := h
  obtain ⟨u, rfl, rx⟩ := vals1 r
  cases rx
  have fin : ∀ (its : List Value), Vals ys its → ys.length ≤ sizeLine → ∀ (h' : Heap) (c' : Nat), (∀ b o', s.heap.get? b = some o' → h'.get? b = some o') →
      h'.get? s.heap.objs.size = some { cls := .type "list", dict := none, data := .seq its.toArray c', slots := #[] } → EP X pins σ Q (.ref s.heap.objs.size) { s with heap := h' } := fun its r' hz h' c' kp e =>
    ⟨.ref s.heap.objs.size, _, I.laid (t' := s.toks) kp (Nat.le_refl _) (show ObjOk X.prog X.w _ h' _ (.lst ys) from ⟨hz, its, c', r', e⟩), rfl, q _ (I.hok.fresh (Nat.le_refl _))⟩
  rcases hq with hq | hq
  · obtain ⟨its, r', pl, hz⟩ := I.list hq
    have hlen := r'.length
    obtain ⟨o, ho, hc, n, hd⟩ := pl.isList
    exact call_list_seq p (.inl rfl) ho hc hd (fun h' c' kp e => fin its r' hz h' c' kp e) (by simp only [List.size_toArray] <;> omega)
  · obtain ⟨its, r', pl, hz⟩ := I.tuple hq
    have hlen := r'.length
    obtain ⟨o, ho, hc, n, hd⟩ := pl
    exact call_list_seq p (.inr rfl) ho hc hd (fun h' c' kp e => fin its r' hz h' c' kp e) (by simp only [List.size_toArray] <;> omega)

/-! ### the call of a builtin's method: o.m(..) -/
/-- the value is of that builtin type -/
def tyV (K : PySem.W.Frag) (T : String) (x : V) (H : Hp) : Prop := match x with
  | .str _ => T = "str"
  | .int _ => T = "int"
  | .ref p => (T = "list" ∧ ∃ xs, SqL K H p xs) ∨ (T = "tuple" ∧ ∃ o, K.lookup p = some o ∧ o.cls = .type "tuple" ∧ o.dict = none) ∨
      (T = "dict" ∧ ((∃ kvs, H p = some (.dK kvs)) ∨ ∃ kvs, H p = some (.dT kvs))) ∨ (T = "set" ∧ ∃ S n, H p = some (.set S n))
  | _ => False
theorem tyV_is {pins : List (Addr × Obj)} {σ : St} {H : Hp} {s : Shared} {T : String} {x : V} {v : Value} (I : Inv X pins σ H s) (r : RelV x v) (ty : tyV X.K T x H) :
    s.TypeIs v T ∧ ∀ a, v = .ref a → ∃ ob, s.heap.get? a = some ob ∧ ob.dict = none := by
  cases x with
  | str z =>
    obtain ⟨t, rfl⟩ := r
    cases (show T = "str" from ty)
    exact ⟨typeIs_str s z t, fun _ e => nomatch e⟩
  | int i =>
    obtain ⟨t, rfl⟩ := r
    cases (show T = "int" from ty)
    exact ⟨typeIs_int s i t, fun _ e => nomatch e⟩
  | ref p =>
    cases r
    rcases ty with ⟨rfl, xs, hq⟩ | ⟨rfl, o, hk, hc, hd⟩ | ⟨rfl, hk⟩ | ⟨rfl, S, n, hk⟩
    · obtain ⟨its, _, pl, _⟩ := I.list hq
      refine ⟨pl.isList.typeIs, fun a e => ?_⟩
      cases e
      obtain ⟨o, n, e, c, hd, _⟩ := pl
      exact ⟨o, e, hd⟩
    · refine ⟨⟨o, I.kIn p o hk, hc⟩, fun a e => ?_⟩
      cases e
      exact ⟨o, I.kIn _ o hk, hd⟩
    · have z : ∃ o, s.heap.get? p = some o ∧ o.ExactDict := by
        rcases hk with ⟨kvs, hk⟩ | ⟨kvs, hk⟩
        · obtain ⟨_, _, _, _, o, _, _, e, ex, _⟩ := I.hok p _ hk
          exact ⟨o, e, ex⟩
        · obtain ⟨_, _, _, _, o, _, _, e, ex, _⟩ := I.hok p _ hk
          exact ⟨o, e, ex⟩
      obtain ⟨o, e, ex⟩ := z
      refine ⟨⟨o, e, ex.1⟩, fun a e2 => ?_⟩
      cases e2
      exact ⟨o, e, ex.2.1⟩
    · obtain ⟨o, _, _, _, e, ex, _⟩ := I.hok p _ hk
      refine ⟨⟨o, e, ex.1⟩, fun a e2 => ?_⟩
      cases e2
      exact ⟨o, e, ex.2.1⟩
  | _ => exact False.elim ty
def tBM (K : PySem.W.Frag) (T : String) (r : V → List V → Hp → VK → Prop) (to : TE) (t : TA) : TE := fun σ H Q => to σ H fun x H1 => tyV K T x H1 ∧ t σ H1 fun xs H2 => r x xs H2 Q
variable {o e : Expr} {es : List Expr} {to : TE} {t : TA} {name : Str} {apos cpos : Pos} {T id : String} {r : V → List V → Hp → VK → Prop}
theorem pe_bm (pa : PlainAttrs T) (slot : Slot T name id) (hty : typeOf (.builtin id) = pure (.type "method_descriptor")) (hm : MtR X id r) (ho : PE X o to) (ha : PA X (e :: es) t)
    (hbase : attributeBase o name X.env (eval o X.env) = eval o X.env := by rfl)
    (hfew : ((backTo cpos (starEach (e :: es) X.env)).all (fun x => !x.1) && (backToKw cpos (keywordEach [] X.env)).all (fun x => x.1.isSome)
      && decide ((e :: es).length + ([] : List Keyword).length + (if ([] : List Keyword).isEmpty then 0 else 1) < 30)) = true := by rfl)
    (hline : (apos.endLine == cpos.line) = true := by rfl) (hs : starEach (e :: es) X.env = (false, eval e X.env) :: starEach es X.env := by rfl) (hplain : (backTo cpos (starEach es X.env)).any (·.1) = false := by rfl) :
    PE X (.Call (.Attribute o name apos) (e :: es) [] cpos) (tBM X.K T r to t) := by
  intro pins s σ H Q I h
  refine wpAny_Call_method_late hbase hfew hline rfl (thn (ho pins s σ H _ I h) fun v s1 ⟨x, H1, I1, r1, ty, q1⟩ => ?_)
  obtain ⟨h1, h2⟩ := tyV_is I1 r1 ty
  refine ⟨T, id, pa, slot, hty, h1, h2, ?_⟩
  have hA := ha cpos pins s1 σ H1 _ I1 q1
  rw [hs] at hA ⊢
  refine Calls.callWith_builtin (by show (false || (backTo cpos (starEach es X.env)).any (·.1)) = false; rw [hplain] <;> rfl) (Calls.evalArgs_plain ?_)
  exact thn hA fun us s2 ⟨vs, H2, I2, r2, q2⟩ => hm pins s2 σ H2 x vs v us Q I2 r1 r2 q2
/- xs.append(e), list.index on a module's tuple .. are MtR facts of 06m -/
end
end L2

namespace L2
open PySem PySem.Spec PyProof.Rows

def MtM (X : Cx) (id : String) (r : V → List V → Hp → VK → Prop) : Prop :=
  ∀ (pins : List (Addr × Obj)) (s : Shared) (σ : St) (H : Hp) (x : V) (xs : List V) (v : Value) (us : List Value) (Q : VK), Inv X pins σ H s → RelV x v → Vals xs us → r x xs H Q →
    wpAny (model X.prog X.w) X.A (call (.builtin id) (v :: us)) (EP X pins σ Q) X.xe s

/-! ### lists of values -/
theorem Vals.one : ∀ {x : V} {us : List Value}, Vals [x] us → ∃ u, us = [u] ∧ RelV x u
  | _, _, .cons r .nil => ⟨_, rfl, r⟩

section
variable {X : Cx} {pins : List (Addr × Obj)} {σ : St} {H : Hp} {s : Shared} {l b : Addr} {xs ys zs : List V}

/-! ### the two steps: a tracked list is rewritten, a new list is laid -/
theorem Inv.lset {its its' : List Value} {n : Nat} {f : Array Value → Array Value} {t' : Nat} (I : Inv X pins σ H s) (hH : H l = some (.lst xs))
    (e : s.heap.get? l = some { cls := .type "list", data := .seq its.toArray n }) (hf : f its.toArray = its'.toArray) (hv : Vals ys its') (hz : ys.length ≤ sizeLine) :
    Inv X pins σ (upd H l (.lst ys)) { s with heap := s.heap.update l (Obj.mapSeq f), toks := t' } := by
  have q := PySem.IsL.update e f
  rw [hf] at q
  refine I.write (x := l) (e := l) (by rw [hH]; exact trivial) (.inl rfl) (fun b' u hb hu => (Heap.get?_update_other s.heap (Obj.mapSeq f) (Ne.symm hb)).trans hu) ⟨_, q⟩ ?_
  exact ⟨hz, its', _, hv, q⟩
theorem Inv.lnew {its : List Value} {t' : Nat} (I : Inv X pins σ H s) (hv : Vals ys its) (hz : ys.length ≤ sizeLine) :
    Inv X pins σ (upd H s.heap.objs.size (.lst ys)) { s with heap := s.heap.push { cls := .type "list", data := .seq its.toArray }, toks := t' } :=
  I.laid (fun _ _ q => Heap.get?_push_of_some _ q) (Nat.le_refl _) ⟨hz, its, 0, hv, Heap.get?_push_size _ rfl⟩
theorem Inv.fresh (I : Inv X pins σ H s) : H s.heap.objs.size = none := I.hok.fresh (Nat.le_refl _)
theorem Inv.lstM (I : Inv X pins σ H s) (hH : H l = some (.lst xs)) : xs.length ≤ sizeLine ∧ ∃ (its : List Value) (n : Nat), Vals xs its ∧ xs.length = its.length ∧ s.heap.get? l = some { cls := .type "list", data := .seq its.toArray n } := by
  obtain ⟨z, its, n, r, e⟩ := I.hok l _ hH
  exact ⟨z, its, n, r, r.length, e⟩

theorem notLongL {n : Nat} (h : n ≤ sizeLine) : Builtin.List.listTooLong n = false := by
  unfold Builtin.List.listTooLong
  exact decide_eq_false (by omega)
end

section
variable {X : Cx}

/-! ### methods -/
def rAppend : V → List V → Hp → VK → Prop := fun x vs H Q => ∃ l xs y, x = .ref l ∧ vs = [y] ∧ H l = some (.lst xs) ∧ xs.length < sizeLine ∧ Q .non (upd H l (.lst (xs ++ [y])))
theorem mt_append : MtM X "list.append" rAppend := by
  intro pins s σ H x vs v us Q I rx rv h
  obtain ⟨l, xs, y, rfl, rfl, hH, hz, q⟩ := h
  cases rx
  obtain ⟨u, rfl, ru⟩ := rv.one
  obtain ⟨z, its, n, r, hl, e⟩ := I.lstM hH
  refine call_meets F.slot_list_append ⟨_, e, rfl⟩ F.entry_list_append (F.args_list_append_2 _ _) (PySem.list_append l its.toArray n u (by rw [List.size_toArray]; omega)) ⟨e, ?_⟩
  refine ⟨.non, _, I.lset (its' := its ++ [u]) hH e (by simp) (r.append (.cons ru .nil)) ?_, rfl, q⟩
  rw [List.length_append, List.length_singleton]
  omega

def rExtend : V → List V → Hp → VK → Prop := fun x vs H Q => ∃ l b xs zs, x = .ref l ∧ vs = [.ref b] ∧ H l = some (.lst xs) ∧ H b = some (.lst zs) ∧ xs.length + zs.length ≤ sizeLine ∧ Q .non (upd H l (.lst (xs ++ zs)))
theorem mt_extend : MtM X "list.extend" rExtend := by
  intro pins s σ H x vs v us Q I rx rv h
  obtain ⟨l, b, xs, zs, rfl, rfl, hH, hB, hz, q⟩ := h
  cases rx
  obtain ⟨u, rfl, ru⟩ := rv.one
  cases ru
  obtain ⟨z, its, n, r, hl, e⟩ := I.lstM hH
  obtain ⟨z2, its2, n2, r2, hl2, e2⟩ := I.lstM hB
  have hsz : its.toArray.size + its2.toArray.size ≤ sizeLine := by rw [List.size_toArray, List.size_toArray]; omega
  have hlong : ¬ (!its.toArray.isEmpty && Builtin.List.listTooLong (its.toArray.size + its2.toArray.size)) = true := by
    rw [notLongL hsz, Bool.and_false]
    exact Bool.false_ne_true
  refine call_meets F.slot_list_extend ⟨_, e, rfl⟩ F.entry_list_extend (F.args_list_extend_2 _ _)
    (AutoSeq1.list_extend_list_list_0 l its.toArray n b its2.toArray n2 hlong (by rw [List.size_toArray]; omega) (by omega)) ⟨e, e2, ?_⟩
  refine ⟨.non, _, I.lset (its' := its ++ its2) hH e (by simp) (r.append r2) ?_, rfl, q⟩
  rw [List.length_append]
  omega





/-! ### list + list, list += list, list * int -/
def rCat : R2 := fun x y H Q => ∃ l b xs zs, x = .ref l ∧ y = .ref b ∧ H l = some (.lst xs) ∧ H b = some (.lst zs) ∧ xs.length + zs.length ≤ sizeLine ∧ ∀ p, H p = none → Q (.ref p) (upd H p (.lst (xs ++ zs)))
theorem op_cat : OpR X (binaryOp .Add) rCat := by
  intro pins s σ H x y v u Q I rx ry h
  obtain ⟨l, b, xs, zs, rfl, rfl, hH, hB, hz, q⟩ := h
  cases rx
  cases ry
  obtain ⟨z, its, n, r, hl, e⟩ := I.lstM hH
  obtain ⟨z2, its2, n2, r2, hl2, e2⟩ := I.lstM hB
  refine PySem.P.add_list e e2 ?_ (by rw [List.size_toArray, List.size_toArray]; omega)
  have ea : its.toArray ++ its2.toArray = (its ++ its2).toArray := by simp
  rw [ea]
  exact ⟨.ref _, _, I.lnew (t' := s.toks) (r.append r2) (by rw [List.length_append]; omega), rfl, q _ I.fresh⟩

/-! ### del xs[i] -/
end

/-! ### xs[a:b] = ys -/
section
variable {prog : Program} {w : World} {A : Around} {E : Value → Shared → Prop} {s : Shared}
set_option maxRecDepth 100000 in
end

section
variable {X : Cx}
end
end L2

namespace L2
open PySem PySem.Spec PyProof.Rows


/-! ### the library's walks over a list of ints, kept objects alone -/
section
variable {prog : Program} {w : World} {A : Around} {E : Value → Shared → Prop} {s : Shared} {l : Addr} {its : List Value} {ns : List Int} {Q : Value → Shared → Prop}
end

/-! ### the calls, by values (CallR of 03t; MtR of 06l) -/
section
variable {X : Cx}

/-! sorted, sort (fewer than 64 items: the library's own bound) -/
end

/-! ### list.index, flat items -/
section
variable {X : Cx}
end

/-! ### type(x) of an own instance; is, is not of a module's class -/
section
variable {X : Cx}
end

/-! ### any(xs), all(xs) of a list of bools -/
section
variable {X : Cx}
end

/-! ### == and != of data at any depth: none, bools, ints, texts, lists, tuples -/
section
variable {X : Cx} {pins : List (Addr × Obj)} {σ : St} {H : Hp} {s : Shared}
end
section
variable {X : Cx}
end
end L2

namespace L2
open PySem PySem.Spec PyProof.Rows
abbrev CellAt (h : Heap) (c : Addr) (v : Option Value) : Prop := h.IsCell c v
def relS (scope sc : Scope) : Scope :=
  { scope with names := scope.names.map fun (n, k) => if (k == .free && sc.kind == .function && sc.names.lookup n == some .cell) then (n, .cell) else (n, k) }

def cloFrom (cells : List (Str × Addr)) : List (Str × NameKind) → List (Str × Addr) → List (Str × Addr)
  | [], acc => acc
  | (n, k) :: r, acc => if k == .free then cloFrom cells r ((n, (cells.lookup n).getD 0) :: acc) else cloFrom cells r acc

theorem closure_loop (env : Env) (f : Str × NameKind → List (Str × Addr) → Sem (ForInStep (List (Str × Addr))))
    (hf : ∀ n k c, f (n, k) c = if k == .free then (do let a ← cellOf env n; pure (.yield ((n, a) :: c))) else pure (.yield c)) :
    ∀ (names : List (Str × NameKind)) (acc : List (Str × Addr)), (∀ y ∈ names, y.2 = .free → ∃ c, env.cells.lookup y.1 = some c) → forIn names acc f = pure (cloFrom env.cells names acc)
  | [], acc, _ => by rw [List.forIn_nil]; rfl
  | (n, k) :: r, acc, h => by
    rw [List.forIn_cons, hf]
    have ih := fun acc => closure_loop env f hf r acc fun y hy => h y (List.mem_cons_of_mem _ hy)
    unfold cloFrom
    by_cases hk : (k == NameKind.free) = true
    · rw [if_pos hk, if_pos hk]
      obtain ⟨c, hc⟩ := h (n, k) List.mem_cons_self (by simpa using hk)
      have e : cellOf env n = pure c := by unfold cellOf; rw [hc]
      rw [e]
      have e2 : (env.cells.lookup n).getD 0 = c := by rw [hc]; rfl
      rw [e2]
      exact ih _
    · rw [if_neg hk, if_neg hk]
      exact ih _
theorem closure_ok {scope : Scope} {env : Env} (h : ∀ y ∈ scope.names, y.2 = .free → ∃ c, env.cells.lookup y.1 = some c) : closureFor scope env = pure (cloFrom env.cells scope.names []) := by
  simp only [closureFor]
  rw [closure_loop env _ (fun n k c => rfl) scope.names [] h]
  rfl

theorem mem_lookup {α : Type} : ∀ {l : List (Str × α)} {n : Str} {c : α}, (n, c) ∈ l → ∃ c', l.lookup n = some c'
  | (k, v) :: r, n, c, h => by
    rw [List.lookup_cons]
    cases hb : n == k with
    | true => exact ⟨_, rfl⟩
    | false =>
      rcases List.mem_cons.mp h with e | h
      · cases e; simp at hb
      · exact mem_lookup h

theorem cloFrom_mem {cells : List (Str × Addr)} : ∀ {names : List (Str × NameKind)} {acc : List (Str × Addr)} {n : Str} {c : Addr}, (n, c) ∈ cloFrom cells names acc → (n, c) ∈ acc ∨ ((n, .free) ∈ names ∧ c = (cells.lookup n).getD 0)
  | [], _, _, _, h => .inl h
  | (m, k) :: r, acc, n, c, h => by
    unfold cloFrom at h
    split at h
    · rename_i hk
      have hk : k = .free := by simpa using hk
      rcases cloFrom_mem h with h | ⟨h1, h2⟩
      · rcases List.mem_cons.mp h with e | h
        · cases e; exact .inr ⟨hk ▸ List.mem_cons_self, rfl⟩
        · exact .inl h
      · exact .inr ⟨List.mem_cons_of_mem _ h1, h2⟩
    · rcases cloFrom_mem h with h | ⟨h1, h2⟩
      · exact .inl h
      · exact .inr ⟨List.mem_cons_of_mem _ h1, h2⟩
theorem cloFrom_acc {cells : List (Str × Addr)} : ∀ {names : List (Str × NameKind)} {acc : List (Str × Addr)} {p : Str × Addr}, p ∈ acc → p ∈ cloFrom cells names acc
  | [], _, _, h => h
  | (m, k) :: r, acc, p, h => by
    unfold cloFrom
    split
    · exact cloFrom_acc (List.mem_cons_of_mem _ h)
    · exact cloFrom_acc h
theorem cloFrom_has {cells : List (Str × Addr)} : ∀ {names : List (Str × NameKind)} {acc : List (Str × Addr)} {n : Str}, (n, .free) ∈ names → (n, (cells.lookup n).getD 0) ∈ cloFrom cells names acc
  | (m, k) :: r, acc, n, h => by
    unfold cloFrom
    rcases List.mem_cons.mp h with e | h
    · cases e
      exact cloFrom_acc List.mem_cons_self
    · split
      · exact cloFrom_has h
      · exact cloFrom_has h

theorem cells_mem : ∀ {names : List (Str × NameKind)} {h : Heap} {acc : List (Str × Addr)} {x : Str} {c : Addr}, (x, c) ∈ cellsFrom h.objs.size names acc →
    (x, c) ∈ acc ∨ ((x, .cell) ∈ names ∧ h.objs.size ≤ c ∧ CellAt (pushCells h names) c none)
  | [], _, _, _, _, h => .inl h
  | (n, k) :: r, h, acc, x, c, hm => by
    unfold cellsFrom at hm
    unfold pushCells
    split at hm
    · rename_i hk
      rw [if_pos hk]
      have hk : k = .cell := by simpa using hk
      rw [← Heap.size_push h { cls := .type "cell", data := .cell none }] at hm
      rcases cells_mem hm with hm | ⟨h1, h2, h3⟩
      · rcases List.mem_cons.mp hm with e | hm
        · cases e
          exact .inr ⟨hk ▸ List.mem_cons_self, Nat.le_refl _, _, pushCells_keeps r _ _ _ (Heap.get?_push_size _ rfl), rfl⟩
        · exact .inl hm
      · rw [Heap.size_push] at h2
        exact .inr ⟨List.mem_cons_of_mem _ h1, Nat.le_of_succ_le h2, h3⟩
    · rename_i hk
      rw [if_neg hk]
      rcases cells_mem hm with hm | ⟨h1, h2, h3⟩
      · exact .inl hm
      · exact .inr ⟨List.mem_cons_of_mem _ h1, h2, h3⟩
theorem cells_acc : ∀ {names : List (Str × NameKind)} {n : Nat} {acc : List (Str × Addr)} {p : Str × Addr}, p ∈ acc → p ∈ cellsFrom n names acc
  | [], _, _, _, h => h
  | (m, k) :: r, n, acc, p, h => by
    unfold cellsFrom
    split
    · exact cells_acc (List.mem_cons_of_mem _ h)
    · exact cells_acc h
theorem cells_has : ∀ {names : List (Str × NameKind)} {n : Nat} {acc : List (Str × Addr)} {x : Str}, (x, .cell) ∈ names → ∃ c, (x, c) ∈ cellsFrom n names acc
  | (m, k) :: r, n, acc, x, h => by
    unfold cellsFrom
    rcases List.mem_cons.mp h with e | h
    · cases e
      exact ⟨n, cells_acc List.mem_cons_self⟩
    · split
      · exact cells_has h
      · exact cells_has h
theorem cells_inj : ∀ {names : List (Str × NameKind)} {h : Heap} {acc : List (Str × Addr)} {x y : Str} {c : Addr}, (∀ p ∈ acc, p.2 < h.objs.size) → (∀ x y c, (x, c) ∈ acc → (y, c) ∈ acc → x = y) →
    (x, c) ∈ cellsFrom h.objs.size names acc → (y, c) ∈ cellsFrom h.objs.size names acc → x = y
  | [], _, _, _, _, _, _, hi, h1, h2 => hi _ _ _ h1 h2
  | (n, k) :: r, h, acc, x, y, c, hl, hi, h1, h2 => by
    unfold cellsFrom at h1 h2
    split at h1
    · rename_i hk
      rw [if_pos hk] at h2
      rw [← Heap.size_push h { cls := .type "cell", data := .cell none }] at h1 h2
      refine cells_inj (h := h.push _) (fun p hp => ?_) (fun x y c a b => ?_) h1 h2
      · rw [Heap.size_push]
        rcases List.mem_cons.mp hp with rfl | hp
        · exact Nat.lt_succ_self _
        · exact Nat.lt_succ_of_lt (hl p hp)
      · rcases List.mem_cons.mp a with e | a <;> rcases List.mem_cons.mp b with e' | b
        · cases e; cases e'; rfl
        · cases e; exact absurd (hl _ b) (Nat.lt_irrefl _)
        · cases e'; exact absurd (hl _ a) (Nat.lt_irrefl _)
        · exact hi _ _ _ a b
    · rename_i hk
      rw [if_neg hk] at h2
      exact cells_inj hl hi h1 h2

theorem newEnv_comp {M : Model} {A : Around} {E : Value → Shared → Prop} {s : Shared} {scope : Scope} {globals : Addr} {closure : List (Str × Addr)} {qual : Str} {func : Option Addr} {code : Value} {around : Env} {builtins : Addr} {Q : Env → Shared → Prop}
    (h : Q (newEnv scope s.heap.objs.size globals (cellsFrom (s.heap.objs.size + 1) scope.names closure) qual func code (some around) builtins)
      { s with heap := pushCells (s.heap.push { cls := .type "dict", data := .dict #[] }) scope.names }) :
    wpAny M A (newFunctionEnv scope globals closure [] qual func code (some around) builtins) Q E s := by
  simp only [newFunctionEnv, Option.isSome_some, if_true]
  refine wpAny_bind (wpAny_alloc ?_)
  refine wpAny_bind (wpAny_layCells _ (fun n k c => rfl) scope.names closure _ _ ?_)
  rw [show ({ s with heap := s.heap.push { cls := .type "dict", data := .dict #[] } } : Shared).heap.objs.size = s.heap.objs.size + 1 from Heap.size_push ..]
  rw [List.forIn_nil]
  exact wpAny_bind (wpAny_pure (wpAny_pure h))

/-- every name of the written scope, in the scope that runs -/
theorem lookup_relS {sc : Scope} : ∀ {names : List (Str × NameKind)} {x : Str} {k : NameKind},
    (names.map fun (n, k) => if (k == NameKind.free && sc.kind == .function && sc.names.lookup n == some .cell) then (n, NameKind.cell) else (n, k)).lookup x = some k →
    ∃ k', names.lookup x = some k' ∧ (k = k' ∨ (k' = .free ∧ k = .cell))
  | [], _, _, h => by simp at h
  | (n, k₀) :: r, x, k, h => by
    have ih := @lookup_relS sc r x k
    have h' : List.lookup x ((if (k₀ == NameKind.free && sc.kind == .function && sc.names.lookup n == some .cell) = true then (n, NameKind.cell) else (n, k₀)) :: (r.map _)) = some k := h
    cases hx : x == n with
    | true =>
      simp only [List.lookup_cons, hx]
      by_cases hc : (k₀ == NameKind.free && sc.kind == .function && sc.names.lookup n == some .cell) = true
      · rw [if_pos hc] at h'
        simp only [List.lookup_cons, hx] at h'
        cases h'
        simp only [Bool.and_eq_true, beq_iff_eq] at hc
        exact ⟨k₀, rfl, .inr ⟨hc.1.1, rfl⟩⟩
      · rw [if_neg hc] at h'
        simp only [List.lookup_cons, hx] at h'
        cases h'
        exact ⟨_, rfl, .inl rfl⟩
    | false =>
      simp only [List.lookup_cons, hx]
      by_cases hc : (k₀ == NameKind.free && sc.kind == .function && sc.names.lookup n == some .cell) = true
      · rw [if_pos hc] at h'
        simp only [List.lookup_cons, hx] at h'
        exact ih h'
      · rw [if_neg hc] at h'
        simp only [List.lookup_cons, hx] at h'
        exact ih h'



/-- the names of a comprehension's block: its own (with their places in N), or captured -/
structure BlkOk (N : List Str) (sc scope : Scope) (own : List (Str × Nat)) : Prop where
  kind : scope.kind = .function
  uniq : ∀ y ∈ scope.names, scope.names.lookup y.1 = some y.2
  ix : ∀ p ∈ own, N[p.2]? = some p.1
  free : ∀ y ∈ scope.names, y.2 = .free → sc.names.lookup y.1 = some .cell ∨ sc.names.lookup y.1 = some .free
  own : ∀ y ∈ scope.names, y.2 = .local ∨ y.2 = .cell → y.1 ∈ own.map (·.1) ∨ y.1 ∉ N
/-- the slots of the block's own names forgotten -/
def wipe (σ : St) : List Nat → St
  | [] => σ
  | v :: vs => (wipe σ vs).set v none
theorem wipe_length (σ : St) : ∀ vs : List Nat, (wipe σ vs).length = σ.length
  | [] => rfl
  | v :: vs => by unfold wipe; rw [List.length_set, wipe_length σ vs]
theorem wipe_some {σ : St} {i : Nat} {x : V} : ∀ {vs : List Nat}, (wipe σ vs)[i]? = some (some x) → σ[i]? = some (some x) ∧ i ∉ vs
  | [], h => ⟨h, by simp⟩
  | v :: vs, h => by
    unfold wipe at h
    by_cases hi : v = i
    · subst hi
      by_cases hv : v < (wipe σ vs).length
      · rw [List.getElem?_set_self hv] at h; cases h
      · rw [List.getElem?_eq_none (by simpa using hv)] at h; cases h
    · rw [List.getElem?_set_ne hi] at h
      obtain ⟨h1, h2⟩ := wipe_some h
      exact ⟨h1, by simp only [List.mem_cons, not_or]; exact ⟨fun e => hi e.symm, h2⟩⟩

/-- the context of a block that starts at s, its iterator's objects at fp -/
abbrev Cx.blk (X : Cx) (s : Shared) (H : Hp) (scope : Scope) (cenv : Env) (fp : List Addr) : Cx := { X with s_0 := s, H_0 := H, env := cenv, outer := X.stack, ex := fp, fn := fun x => scope.names.lookup x == some .cell, pn := [], xe := fun _ _ => False }
section
variable {X : Cx} {pins : List (Addr × Obj)} {σ : St} {H : Hp} {s : Shared}
theorem block_start {scope : Scope} {own : List (Str × Nat)} {fp : List Addr} (I : Inv X pins σ H s) (ok : BlkOk X.N X.env.scope scope own) (hN : X.N.Nodup) (hfp : ∀ b ∈ fp, FpOk X pins H b ∧ b < s.heap.objs.size) :
    Inv (X.blk s H scope (compEnvC scope (cellsFrom (s.heap.objs.size + 1) scope.names (cloFrom X.env.cells scope.names [])) s.heap.objs.size X.env) fp) [] (wipe σ (own.map (·.2))) H { s with heap := pushCells (s.heap.push { cls := .type "dict", data := .dict #[] }) scope.names } := by
  have hfree : ∀ y ∈ scope.names, y.2 = .free → ∃ c, X.env.cells.lookup y.1 = some c := fun y hy e => by
    rcases ok.free y hy e with k | k
    · exact I.ok.has _ (.inl k)
    · exact I.ok.has _ (.inr k)
  generalize hcenv : compEnvC scope (cellsFrom (s.heap.objs.size + 1) scope.names (cloFrom X.env.cells scope.names [])) s.heap.objs.size X.env = cenv
  have kp : ∀ b o, s.heap.get? b = some o → (pushCells (s.heap.push { cls := .type "dict", data := .dict #[] }) scope.names).get? b = some o := fun b o e => pushCells_keeps _ _ _ _ (Heap.get?_push_of_some _ e)
  have hL : cenv.locals = s.heap.objs.size := by rw [← hcenv]; rfl
  have hcl : cenv.cells = cellsFrom (s.heap.objs.size + 1) scope.names (cloFrom X.env.cells scope.names []) := by rw [← hcenv]; rfl
  have hsc : cenv.scope = relS scope X.env.scope := by rw [← hcenv]; rfl
  rw [← Heap.size_push s.heap { cls := .type "dict", data := .dict #[] }] at hcl
  have cm : ∀ {y c}, (y, c) ∈ cloFrom X.env.cells scope.names [] → X.env.cells.lookup y = some c ∧ c < s.heap.objs.size := fun {y c} hm => by
    rcases cloFrom_mem hm with hm | ⟨h1, rfl⟩
    · cases hm
    · obtain ⟨c, hc⟩ := hfree _ h1 rfl
      rw [hc]
      obtain ⟨w, z⟩ := I.cell _ _ hc
      exact ⟨rfl, z.lt⟩
  have mem : ∀ {y c}, cenv.cells.lookup y = some c → (X.env.cells.lookup y = some c ∧ c < s.heap.objs.size) ∨ (s.heap.objs.size + 1 ≤ c ∧ CellAt (pushCells (s.heap.push { cls := .type "dict", data := .dict #[] }) scope.names) c none) := fun {y c} e => by
    rw [hcl] at e
    rcases cells_mem (PySem.mem_of_lookup e) with hm | ⟨_, h2, h3⟩
    · exact .inl (cm hm)
    · rw [Heap.size_push] at h2; exact .inr ⟨h2, h3⟩
  have look : ∀ {y}, scope.names.lookup y = some .free → ∃ c, cenv.cells.lookup y = some c ∧ X.env.cells.lookup y = some c := fun {y} hl => by
    have hy : (y, NameKind.free) ∈ scope.names := PySem.mem_of_lookup hl
    obtain ⟨c', e'⟩ := mem_lookup (cells_acc (names := scope.names) (n := (s.heap.push { cls := .type "dict", data := .dict #[] }).objs.size) (cloFrom_has (cells := X.env.cells) (acc := []) hy))
    rw [← hcl] at e'
    refine ⟨c', e', ?_⟩
    rw [hcl] at e'
    rcases cells_mem (PySem.mem_of_lookup e') with hm | ⟨h1, _, _⟩
    · exact (cm hm).1
    · have := ok.uniq _ h1
      rw [hl] at this; cases this
  have okB : (X.blk s H scope cenv fp).Ok := by
    refine ⟨I.ok.mod, by show cenv.scope.kind = _; rw [hsc]; exact ok.kind, by show cenv.globals = _; rw [← hcenv]; exact I.ok.glob, by show cenv.builtins = _; rw [← hcenv]; exact I.ok.blt, by show s.heap.objs.size ≤ cenv.locals; rw [hL]; exact Nat.le_refl _,
      fun y z c e1 e2 => ?_, fun y hy => ?_, fun y c z e => ?_, I.ok.hd, I.ok.frames, .inl rfl, fun b hb => ⟨?_, fun y c e z => ?_⟩, I.bs, Nat.le_trans I.ok.bsz I.sz, fun b o e hb => ?_, fun b hb z => ?_, I.stack, I.stkFree⟩
    · have e1 : cenv.cells.lookup y = some c := e1
      have e2 : cenv.cells.lookup z = some c := e2
      rw [hcl] at e1 e2
      refine cells_inj (fun p hp => ?_) (fun y z c a b => I.ok.inj y z c (cm a).1 (cm b).1) (PySem.mem_of_lookup e1) (PySem.mem_of_lookup e2)
      rw [Heap.size_push]
      exact Nat.lt_succ_of_lt (cm (y := p.1) (c := p.2) hp).2
    · show ∃ c, cenv.cells.lookup y = some c
      have key : ∀ k, cenv.kindOf y = some k → (k = .cell ∨ k = .free) → ∃ c, cenv.cells.lookup y = some c := fun k hk hk' => by
        unfold Env.kindOf at hk
        rw [hsc] at hk
        obtain ⟨k', e, r⟩ := lookup_relS hk
        have : k' = .cell ∨ k' = .free := by
          rcases r with rfl | ⟨rfl, _⟩
          · exact hk'
          · exact .inr rfl
        rcases this with rfl | rfl
        · obtain ⟨c, hm⟩ := cells_has (n := (s.heap.push { cls := .type "dict", data := .dict #[] }).objs.size) (acc := cloFrom X.env.cells scope.names []) (PySem.mem_of_lookup e)
          obtain ⟨c', e'⟩ := mem_lookup hm
          exact ⟨c', by rw [hcl]; exact e'⟩
        · obtain ⟨c, h1, _⟩ := look e
          exact ⟨c, h1⟩
      rcases hy with hy | hy
      · exact key _ hy (.inl rfl)
      · exact key _ hy (.inr rfl)
    · have z : (scope.names.lookup y == some NameKind.cell) = true := z
      have z : scope.names.lookup y = some .cell := by simpa using z
      have e : cenv.cells.lookup y = some c := e
      rw [hcl] at e
      rcases cells_mem (PySem.mem_of_lookup e) with hm | ⟨_, h2, _⟩
      · rcases cloFrom_mem hm with hm | ⟨h1, _⟩
        · cases hm
        · have q := ok.uniq _ h1
          rw [z] at q; cases q
      · rw [Heap.size_push] at h2
        exact Nat.le_of_succ_le h2
    · show b ≠ cenv.locals
      rw [hL]; exact Nat.ne_of_lt (hfp b hb).2
    · have e : cenv.cells.lookup y = some c := e
      rcases mem e with ⟨h1, _⟩ | ⟨h1, _⟩
      · exact (hfp b hb).1.2.2.2.2.1 y c h1 z
      · have h2 : s.heap.objs.size + 1 ≤ b := by rw [← z]; exact h1
        exact absurd (Nat.lt_of_lt_of_le (hfp b hb).2 (Nat.le_of_succ_le h2)) (Nat.lt_irrefl _)
    · rcases (hfp b hb).1.2.2.2.1 with z | z
      · exact I.ok.noex b o e z
      · exact absurd (Nat.lt_of_lt_of_le (Heap.lt_size e) (Nat.le_trans I.ok.bsz z)) (Nat.lt_irrefl _)
    · rcases List.mem_cons.mp (I.stkSub b z) with z | z
      · exact (hfp b hb).1.2.1 z
      · exact (hfp b hb).1.2.2.1 z
  refine ⟨okB, rfl, I.bare, Un.kept kp, ⟨fun _ => none, ?_, fun i y av e1 e2 e3 => ?_⟩, fun y c e => ?_, ?_, fun y c e => ?_, fun p hp => ?_, I.hok.kept kp, by rw [wipe_length]; exact I.len⟩
  · show Heap.Ns _ cenv.locals _
    rw [hL]
    exact Heap.Ns.keeps (Heap.Ns.new ..) fun b o e => pushCells_keeps _ _ _ _ e
  · obtain ⟨e2, hne⟩ := wipe_some e2
    have hfr : scope.names.lookup y = some .free ∧ (cenv.kindOf y = some .cell ∨ cenv.kindOf y = some .free) := by
      have key : ∀ k, cenv.scope.names.lookup y = some k → k = .local ∨ k = .cell ∨ k = .free → scope.names.lookup y = some .free ∧ (cenv.kindOf y = some .cell ∨ cenv.kindOf y = some .free) := fun k hk hk' => by
        have hk0 := hk
        rw [hsc] at hk
        obtain ⟨k', e, r⟩ := lookup_relS hk
        have no : ¬ (k' = .local ∨ k' = .cell) := fun hh => by
          rcases ok.own _ (PySem.mem_of_lookup e) hh with e' | e'
          · obtain ⟨p, hp, hpy⟩ := List.mem_map.mp e'
            have e3 := ok.ix p hp
            have : p.1 = y := hpy
            rw [this] at e3
            exact hne (List.mem_map.mpr ⟨p, hp, nodup_ix hN e3 e1⟩)
          · exact e' (List.mem_of_getElem? e1)
        rcases r with rfl | ⟨rfl, rfl⟩
        · rcases hk' with rfl | rfl | rfl
          · exact absurd (.inl rfl) no
          · exact absurd (.inr rfl) no
          · exact ⟨e, .inr hk0⟩
        · exact ⟨e, .inl hk0⟩
      have e3 : Vis cenv.scope y := e3
      rcases e3 with e3 | e3 | e3
      · exact key _ e3 (.inl rfl)
      · exact key _ e3 (.inr (.inl rfl))
      · exact key _ e3 (.inr (.inr rfl))
    obtain ⟨m, hn, hl⟩ := I.loc
    have hvis : Vis X.env.scope y := (ok.free _ (PySem.mem_of_lookup hfr.1) rfl).elim (fun k => .inr (.inl k)) (fun k => .inr (.inr k))
    obtain ⟨w, r, q⟩ := hl i y av e1 e2 hvis
    refine ⟨w, r, .inr ⟨hfr.2, ?_⟩⟩
    obtain ⟨c, h1, h2⟩ := look hfr.1
    rcases q with ⟨k, _⟩ | ⟨_, c', e', z⟩
    · have k : X.env.scope.names.lookup y = some .local := k
      rcases ok.free _ (PySem.mem_of_lookup hfr.1) rfl with k' | k' <;> rw [show X.env.scope.names.lookup y = _ from k'] at k <;> cases k
    · rw [h2] at e'; cases e'
      exact ⟨c, h1, z.keeps kp⟩
  · have e : cenv.cells.lookup y = some c := e
    rcases mem e with ⟨h1, _⟩ | ⟨_, z⟩
    · obtain ⟨w, z⟩ := I.cell y c h1
      exact ⟨w, z.keeps kp⟩
    · exact ⟨_, z⟩
  · show H cenv.locals = none
    rw [hL]; exact I.hok.fresh (Nat.le_refl _)
  · have e : cenv.cells.lookup y = some c := e
    rcases mem e with ⟨h1, _⟩ | ⟨h1, _⟩
    · exact I.freeC y c h1
    · exact I.hok.fresh (Nat.le_of_succ_le h1)
  · exact absurd (show p ∈ ([] : List (Addr × Obj)) ++ [] from hp) (by simp)

/-- an item appended to a tracked list -/
theorem app_ok {E : Value → Shared → Prop} {D : Addr} {xs : List V} {y : V} {v : Value} {Q : Value → Shared → Prop} (I : Inv X pins σ H s) (hD : H D = some (.lst xs)) (hz : xs.length < sizeLine) (r : RelV y v)
    (h : ∀ s', Inv X pins σ (upd H D (.lst (xs ++ [y]))) s' → Q .none s') : wpAny (model X.prog X.w) X.A (call (.builtin "list.append") [.ref D, v]) Q E s := by
  obtain ⟨hz', its, n, ri, e⟩ := I.hok D _ hD
  have hl := ri.length
  refine append_at (hsz := by rw [List.size_toArray]; omega) e fun h' sb ho' => ?_
  refine h { s with heap := h' } (I.write (t' := s.toks) (by rw [hD]; trivial) (.inl rfl) (fun b u hb q => (sb.2 b hb).trans q) ⟨_, ho'⟩ ⟨by rw [List.length_append]; exact hz, its ++ [v], n + 1, ri.append (.cons r .nil), ?_⟩)
  rw [ho']
  simp

/-- a clause's tests -/
def PTs (X : Cx) (ifs : List Expr) (t : TT) : Prop :=
  ∀ (pins : List (Addr × Obj)) (s : Shared) (σ : St) (H : Hp) (Q : Bool → Hp → Prop), Inv X pins σ H s → t σ H Q →
    wpAny (model X.prog X.w) X.A (forIn ifs true fun c r => if r = true then do let ok ← isTrue c X.env (eval c X.env); pure (ForInStep.yield ok) else pure (ForInStep.yield r)) (TP X pins σ Q) X.xe s
def tYes : TT := fun _ H Q => Q true H
theorem pts_nil : PTs X [] tYes := fun _ _ _ H _ I h => wpAny_tests_nil ⟨H, I, h⟩
theorem pts_one {c : Expr} {t : TT} (h : PT X c t) : PTs X [c] t := fun pins s σ H Q I hw => wpAny_tests_one (h pins s σ H Q I hw)
end

theorem thnF {α : Type} {t : Sem α} {Q Q' : α → Shared → Prop} {M : Model} {A : Around} {E : Value → Shared → Prop} {s : Shared} (h : wpAny M A t Q (fun _ _ => False) s) (hQ : ∀ a s, Q a s → Q' a s) : wpAny M A t Q' E s := wpAny_mono h hQ fun _ _ z => False.elim z

/-- the loop of a list comprehension's block, the target of any form (codeAny_compLoop_tests asks a target that no tuple goes to; statement and proof follow it, PyProof/CompMap.lean:41-61, with the step letOwnedTupleGo kept) -/
theorem compLoop_any {prog : Program} {w : World} {A : Around} {R : Result → Shared → Prop} {s : Shared} {elt target iter : Expr} {ifs : List Expr} {scope : Scope} {pos : Pos} {it acc : Value} {env : Env} (I : Nat → Shared → Prop)
    (turn : ∀ n s, I n s → wpAny (model prog w) A (pyNext it) (fun r s₁ => match r with
      | none => R (.ok .next) s₁
      | some v => wpAny (model prog w) A (letOwnedTupleGo target it v) (fun _ s₁' => wpAny (model prog w) A (assign target env v) (fun _ s₂ =>
          wpAny (model prog w) A (forIn ifs true fun c r => if r = true then do let ok ← isTrue c env (eval c env); pure (ForInStep.yield ok) else pure (ForInStep.yield r)) (fun ok s₃ =>
            if ok = true then wpAny (model prog w) A (eval elt env) (fun x s₄ =>
              wpAny (model prog w) A (call (.builtin "list.append") [acc, x]) (fun _ s₅ => ∃ m, m < n ∧ I m s₅) (notedBy (model prog w) A env fun e s' => R (.error e) s') s₄) (notedBy (model prog w) A env fun e s' => R (.error e) s') s₃
            else ∃ m, m < n ∧ I m s₃) (notedBy (model prog w) A env fun e s' => R (.error e) s') s₂) (notedBy (model prog w) A env fun e s' => R (.error e) s') s₁') (notedBy (model prog w) A env fun e s' => R (.error e) s') s₁) (notedBy (model prog w) A env fun e s' => R (.error e) s') s)
    (n : Nat) (h : I n s) :
    codeAny (model prog w) A (.compLoop (.ListComp elt [⟨target, iter, ifs, 0⟩] scope pos) 0 it acc env) R s := by
  refine codeAny_loop rfl I (fun n s hI => ?_) n h
  show wpAny _ A ((compTurn (.ListComp elt [⟨target, iter, ifs, 0⟩] scope pos) 0 it acc env).onRaise (fun x => do noteFrame x env; theTreesLotGoes x)) _ _ s
  refine wpAny_noted ?_
  rw [compTurn_list]
  refine wpAny_bind (wpAny_standAt (wpAny_bind (wpAny_mono (turn n s hI) (fun r s₁ h₁ => ?_) fun _ _ h' => h')))
  cases r with
  | none => exact wpAny_pure h₁
  | some v =>
    refine wpAny_bind (wpAny_mono h₁ (fun _ s₁' h₁' => ?_) fun _ _ h' => h')
    refine wpAny_bind (wpAny_mono h₁' (fun _ s₂ h₂ => wpAny_bind (wpAny_mono h₂ (fun ok s₃ h₃ => ?_) fun _ _ h' => h')) fun _ _ h' => h')
    cases ok with
    | false => exact wpAny_pure ⟨rfl, h₃⟩
    | true =>
      exact wpAny_bind (wpAny_bind (wpAny_mono h₃ (fun x s₄ h₄ => wpAny_bind (wpAny_mono h₄ (fun _ s₅ h₅ => wpAny_pure (wpAny_pure ⟨rfl, h₅⟩)) fun _ _ h' => h')) fun _ _ h' => h'))

section
variable {X : Cx}
/-- [elt for target in iter if ..]: D the new list; W by the turn and a measure, Nx what a turn is to reach -/
def tLc (wi : TI) (g : TG) (tt : TT) (te : TE) (vs : List Nat) : TE := fun σ H Q => wi σ H fun J H1 => ∀ D, H1 D = none → ∃ W : Nat → Nat → Hp → Prop, (∃ m, W 0 m (upd H1 D (.lst []))) ∧ ∀ i m H, W i m H →
  (J.stop i H ∧ Q (.ref D) H) ∨ (J.go i H ∧ ∃ Nx : Hp → Prop, (∀ H', Nx H' → ∃ m', m' < m ∧ W (i + 1) m' H') ∧ ∀ x H', J.yld i H x H' → g x (wipe σ vs) H' fun σ2 H2 => wipe σ2 vs = wipe σ vs ∧ tt σ2 H2 fun b H3 =>
    if b = true then te σ2 H3 fun y H4 => ∃ acc, H4 D = some (.lst acc) ∧ acc.length < sizeLine ∧ Nx (upd H4 D (.lst (acc ++ [y]))) else Nx H3)
theorem lc_core {pins : List (Addr × Obj)} {s : Shared} {σ : St} {H : Hp} {Q : VK} {elt tg iter : Expr} {ifs : List Expr} {scope : Scope} {own : List (Str × Nat)} {pos pos' : Pos} {wi : TI} {g : TG} {tt : TT} {te : TE} {use : Option (Value → Sem Unit)} {Qf : Value → Shared → Prop}
    (hc : X.calm = true) (hN : X.N.Nodup) (I : Inv X pins σ H s) (hi : PI X tg iter wi) (ok : BlkOk X.N X.env.scope scope own)
    (hg : ∀ (s : Shared) (H : Hp) (C : Addr) (cl : List (Str × Addr)) (fp : List Addr), PG (X.blk s H scope (compEnvC scope cl C X.env) fp) tg g) (ht : ∀ (s : Shared) (H : Hp) (C : Addr) (cl : List (Str × Addr)) (fp : List Addr), PTs (X.blk s H scope (compEnvC scope cl C X.env) fp) ifs tt)
    (he : ∀ (s : Shared) (H : Hp) (C : Addr) (cl : List (Str × Addr)) (fp : List Addr), PE (X.blk s H scope (compEnvC scope cl C X.env) fp) elt te) (hs : ∀ x, foldedSetIterable iter X.env x = pure x)
    (h : tLc wi g tt te (own.map (·.2)) σ H Q)
    (hRR : ∀ D C s' m H', Inv X pins σ H' s' → Q (.ref D) H' → s'.heap.Ns C m → FpOk X pins H' C → compPost (model X.prog X.w) X.A X.xe use Qf (.ref D) C (.ok .next) s') :
    wpAny (model X.prog X.w) X.A (comprehension (.ListComp elt [⟨tg, iter, ifs, 0⟩] scope pos) scope X.env pos' (newList []) false (eval iter X.env) use) Qf X.xe s := by
  have hfree : ∀ y ∈ scope.names, y.2 = .free → ∃ c, X.env.cells.lookup y.1 = some c := fun y hy e => by
    rcases ok.free y hy e with k | k
    · exact I.ok.has _ (.inl k)
    · exact I.ok.has _ (.inr k)
  refine wpAny_comprehension_free (use := use) rfl hs (closure_ok hfree) ok.kind (fun y hy e => by rw [ok.uniq y hy, e])
    (thn (hi pins s σ H _ I h) fun xv s1 hx => thn hx fun itv s2 h2 => ?_)
  obtain ⟨it, fp, tn, J, H2, e, I2, T, st2, f2, q⟩ := h2
  subst e
  refine wpAny_newObj_type (newEnv_comp ?_) (by show 0 ≤ sizeLine; decide)
  generalize hD : s2.heap.objs.size = D
  have hDn : H2 D = none := I2.hok.fresh (Nat.le_of_eq hD)
  obtain ⟨W, ⟨m0, w0⟩, turn⟩ := q D hDn
  -- the new list
  generalize hs3 : ({ s2 with heap := s2.heap.push { cls := .type "list", data := .seq ([] : List Value).toArray } } : Shared) = s3
  have I3 : Inv X pins σ (upd H2 D (.lst [])) s3 := by
    rw [← hs3]
    refine I2.laid (t' := s2.toks) (fun b o e => Heap.get?_push_of_some _ e) (Nat.le_of_eq hD) ⟨Nat.zero_le _, [], 0, .nil, ?_⟩
    rw [← hD]
    exact Heap.get?_push_size _ rfl
  have h3 : s3.heap = s2.heap.push { cls := .type "list", data := .seq ([] : List Value).toArray } := by rw [← hs3]
  have sz : ∀ b ∈ fp, b < s2.heap.objs.size := fun b hb => by
    obtain ⟨o, e, _⟩ := T.obj _ _ st2 b hb
    exact Heap.lt_size e
  have f3 : ∀ b ∈ fp, FpOk X pins (upd H2 D (.lst [])) b ∧ b < s3.heap.objs.size := fun b hb => by
    have hlt := sz b hb
    refine ⟨⟨?_, (f2 b hb).2⟩, by rw [h3, Heap.size_push]; exact Nat.lt_succ_of_lt hlt⟩
    rw [upd_ne (by rw [← hD]; exact Nat.ne_of_lt hlt)]
    exact (f2 b hb).1
  have st3 : tn 0 s3.heap := T.keep _ _ _ st2 fun b _ o e => by rw [h3]; exact Heap.get?_push_of_some _ e
  have I4 := block_start I3 ok hN f3
  have pg := hg s3 (upd H2 D (.lst [])) s3.heap.objs.size (cellsFrom (s3.heap.objs.size + 1) scope.names (cloFrom X.env.cells scope.names [])) fp
  have pt := ht s3 (upd H2 D (.lst [])) s3.heap.objs.size (cellsFrom (s3.heap.objs.size + 1) scope.names (cloFrom X.env.cells scope.names [])) fp
  have pe := he s3 (upd H2 D (.lst [])) s3.heap.objs.size (cellsFrom (s3.heap.objs.size + 1) scope.names (cloFrom X.env.cells scope.names [])) fp
  show codeAny _ _ (.compStart (.ListComp elt [⟨tg, iter, ifs, 0⟩] scope pos) 0 (.ref it) (.ref D) (compEnvC scope (cellsFrom (s3.heap.objs.size + 1) scope.names (cloFrom X.env.cells scope.names [])) s3.heap.objs.size X.env)) (compPost (model X.prog X.w) X.A X.xe use Qf (.ref D) s3.heap.objs.size) { s3 with heap := pushCells (s3.heap.push { cls := .type "dict", data := .dict #[] }) scope.names }
  have nfp : ∀ b ∈ fp, (upd H2 D (.lst [])) b = none := fun b hb => (f3 b hb).1.1
  generalize hce : compEnvC scope (cellsFrom (s3.heap.objs.size + 1) scope.names (cloFrom X.env.cells scope.names [])) s3.heap.objs.size X.env = ce at I4 pg pt pe ⊢
  have cL : ce.locals = s3.heap.objs.size := by subst hce; rfl
  generalize hH3 : upd H2 D (.lst []) = H3 at I3 I4 pg pt pe w0 nfp f3
  generalize hs4 : ({ s3 with heap := pushCells (s3.heap.push { cls := .type "dict", data := .dict #[] }) scope.names } : Shared) = s4 at I4 ⊢
  have st4 : tn 0 s4.heap := T.keep _ _ _ st3 fun b _ o e => by rw [← hs4]; exact pushCells_keeps _ _ _ _ (Heap.get?_push_of_some _ e)
  have stat : ∀ {σ' : St} {H' : Hp} {s' : Shared}, Inv (X.blk s3 H3 scope ce fp) [] σ' H' s' → (∀ b ∈ fp, H' b = none) → ∀ b ∈ fp, FpOk (X.blk s3 H3 scope ce fp) [] H' b := fun {σ' H' s'} I' hn b hb =>
    ⟨hn b hb, (I'.ok.exf b hb).1, I'.ok.exfs b hb, .inl hb, fun x c e => (I'.ok.exf b hb).2 x c e, fun p hp => absurd (show p ∈ ([] : List (Addr × Obj)) ++ [] from hp) (by simp)⟩
  have loop : codeAny (model X.prog X.w) X.A (.compLoop (.ListComp elt [⟨tg, iter, ifs, 0⟩] scope pos) 0 (.ref it) (.ref D) ce) (compPost (model X.prog X.w) X.A X.xe use Qf (.ref D) s3.heap.objs.size) s4 := by
    refine compLoop_any (fun n s' => ∃ i H', Inv (X.blk s3 H3 scope ce fp) [] (wipe σ (own.map (·.2))) H' s' ∧ tn i s'.heap ∧ (∀ b ∈ fp, H' b = none) ∧ W i n H') ?_ m0 ⟨0, H3, I4, st4, nfp, w0⟩
    rintro n s5 ⟨i, H5, I5, st5, n5, w5⟩
    rcases turn i n H5 w5 with ⟨stop, qq⟩ | ⟨go, Nx, hNx, step⟩
    · have td := T.done (X.blk s3 H3 scope ce fp) rfl rfl rfl hc i [] s5 _ H5 (fun _ _ => False) I5 (stat I5 n5) st5 stop
      refine thnF td fun r s6 ⟨hr, I6⟩ => ?_
      subst hr
      -- back in the def's context
      have I7 : Inv X pins σ H5 s6 := I3.call' (ch := fp) I6.os I6.base I6.hok I6.bare fun b hb => ⟨(f3 b hb).1.2.2.2.1, (f3 b hb).1.2.1, (f3 b hb).1.2.2.2.2.1, (f3 b hb).1.2.2.2.2.2⟩
      have nC : H5 s3.heap.objs.size = none := by
        have z : H5 ce.locals = none := I6.free
        rw [cL] at z
        exact z
      obtain ⟨m, hn, _⟩ := I6.loc
      have hn : s6.heap.Ns ce.locals m := hn
      rw [cL] at hn
      exact hRR D s3.heap.objs.size s6 m H5 I7 qq hn (I3.fpOk (Nat.le_refl _) nC)
    · have ti := T.item (X.blk s3 H3 scope ce fp) rfl rfl rfl hc i [] s5 _ H5 (fun _ _ => False) I5 (stat I5 n5) st5 go
      refine thnF ti fun r s6 ⟨u, hr, h6⟩ => ?_
      subst hr
      refine thnF h6 fun _ s7 ⟨x, H7, I7, r7, y7, st7, n7⟩ => ?_
      have I7' := I7.pinned (stat I7 n7) (T.obj _ _ st7)
      refine thnF (pg _ s7 _ H7 x u _ I7' r7 (step x H7 y7)) fun _ s8 ⟨σ8, H8, I8, hw8, q8⟩ => ?_
      refine thnF (pt _ s8 σ8 H8 _ I8 q8) fun b s9 ⟨H9, I9, q9⟩ => ?_
      -- the turn's end
      have fin : ∀ {s' : Shared} {H' : Hp}, Inv (X.blk s3 H3 scope ce fp) ([] ++ pinsAt fp s7.heap) σ8 H' s' → Nx H' → ∃ m, m < n ∧ ∃ i H', Inv (X.blk s3 H3 scope ce fp) [] (wipe σ (own.map (·.2))) H' s' ∧ tn i s'.heap ∧ (∀ b ∈ fp, H' b = none) ∧ W i m H' := fun {s' H'} I' nx => by
        obtain ⟨m', hm, w'⟩ := hNx H' nx
        have pin' : ∀ b ∈ fp, ∀ o, s7.heap.get? b = some o → s'.heap.get? b = some o ∧ H' b = none := fun b hb o e =>
          let z := I'.pin (b, o) (List.mem_append_right _ (List.mem_append_right _ (mem_pinsAt hb e)))
          ⟨z.1, z.2.1⟩
        have hl : (wipe σ (own.map (·.2))).length = σ8.length := by rw [← hw8, wipe_length]
        refine ⟨m', hm, i + 1, H', (I'.unpinned (pins := [])).weak hl (fun j v e => ?_), T.keep _ _ _ st7 fun b hb o e => (pin' b hb o e).1, fun b hb => ?_, w'⟩
        · rw [← hw8] at e
          exact (wipe_some e).1
        · obtain ⟨o, e, _⟩ := T.obj _ _ st7 b hb
          exact (pin' b hb o e).2
      cases b with
      | false =>
        simp only [Bool.false_eq_true, if_false] at q9 ⊢
        exact fin I9 q9
      | true =>
        simp only [if_true] at q9 ⊢
        refine thnF (pe _ s9 σ8 H9 _ I9 q9) fun z s10 ⟨yv, H10, I10, r10, acc, hD10, hz10, nx⟩ => ?_
        exact app_ok (X := X.blk s3 H3 scope ce fp) I10 hD10 hz10 r10 fun s11 I11 => fin I11 nx
  exact codeAny_compStart_list loop (T.self X.A 0 _ _ _ st4 loop)
/-- as a value -/
theorem pe_lc {elt tg iter : Expr} {ifs : List Expr} {scope : Scope} {own : List (Str × Nat)} {pos : Pos} {wi : TI} {g : TG} {tt : TT} {te : TE} (hc : X.calm = true) (hN : X.N.Nodup) (hi : PI X tg iter wi) (ok : BlkOk X.N X.env.scope scope own)
    (hg : ∀ (s : Shared) (H : Hp) (C : Addr) (cl : List (Str × Addr)) (fp : List Addr), PG (X.blk s H scope (compEnvC scope cl C X.env) fp) tg g) (ht : ∀ (s : Shared) (H : Hp) (C : Addr) (cl : List (Str × Addr)) (fp : List Addr), PTs (X.blk s H scope (compEnvC scope cl C X.env) fp) ifs tt)
    (he : ∀ (s : Shared) (H : Hp) (C : Addr) (cl : List (Str × Addr)) (fp : List Addr), PE (X.blk s H scope (compEnvC scope cl C X.env) fp) elt te) (hs : ∀ x, foldedSetIterable iter X.env x = pure x := by intro _; rfl) :
    PE X (.ListComp elt [⟨tg, iter, ifs, 0⟩] scope pos) (tLc wi g tt te (own.map (·.2))) := by
  intro pins s σ H Q I h
  rw [eval_ListComp]
  refine lc_core hc hN I hi ok hg ht he hs h fun D C s' m H' I' q hn f => ⟨m, hn, fun h'' sb => ?_⟩
  obtain ⟨f0, f1, f2, f3, f4, f5⟩ := f
  exact ⟨.ref D, H', I'.turned (t' := s'.toks) (fun b o hb e => (sb.2 b hb).trans e) f0 f1 f3 f4 f5, rfl, q⟩
/-- name = [..] on one line, the name a local -/
theorem ps_setLc {i : Nat} {y : Str} {py : Pos} {elt tg iter : Expr} {ifs : List Expr} {scope : Scope} {own : List (Str × Nat)} {pos spos : Pos} {wi : TI} {g : TG} {tt : TT} {te : TE} (hc : X.calm = true) (hN : X.N.Nodup) (hy : X.N[i]? = some y) (hyl : X.env.scope.names.lookup y = some .local)
    (hsw : swapsWith (.ListComp elt [⟨tg, iter, ifs, 0⟩] scope pos) (some (.Name y py)) spos.line X.env = pure true) (hi : PI X tg iter wi) (ok : BlkOk X.N X.env.scope scope own)
    (hg : ∀ (s : Shared) (H : Hp) (C : Addr) (cl : List (Str × Addr)) (fp : List Addr), PG (X.blk s H scope (compEnvC scope cl C X.env) fp) tg g) (ht : ∀ (s : Shared) (H : Hp) (C : Addr) (cl : List (Str × Addr)) (fp : List Addr), PTs (X.blk s H scope (compEnvC scope cl C X.env) fp) ifs tt)
    (he : ∀ (s : Shared) (H : Hp) (C : Addr) (cl : List (Str × Addr)) (fp : List Addr), PE (X.blk s H scope (compEnvC scope cl C X.env) fp) elt te) (hs : ∀ x, foldedSetIterable iter X.env x = pure x := by intro _; rfl) :
    PS X (.Assign [.Name y py] (.ListComp elt [⟨tg, iter, ifs, 0⟩] scope pos) spos) (tAsg (tLc wi g tt te (own.map (·.2))) (gName i)) := by
  intro pins s σ H D I h
  rw [exec_Assign_Name_used _ _ _ _ hsw]
  refine wpAny_bind (wpAny_standAt (wpAny_bind ?_))
  show wpAny _ X.A (do let _ ← comprehension (.ListComp elt [⟨tg, iter, ifs, 0⟩] scope pos) scope X.env (firstIterPos [⟨tg, iter, ifs, 0⟩] pos) (newList []) false (eval iter X.env) (some (assign (.Name y py) X.env))) _ _ s
  have h : tLc wi g tt te (own.map (·.2)) σ H (fun x H1 => gName i x σ H1 D.nx) := h
  refine wpAny_bind (thn (lc_core (Qf := fun _ s' => SP X pins D .next s') hc hN I hi ok hg ht he hs h fun L C s' m H' I' q hn f => ?_) fun _ s' hq => wpAny_pure (wpAny_pure hq))
  show wpAny _ _ (assign (.Name y py) X.env (.ref L)) _ _ _
  refine wpAny_assign_Name (store_ok2 (v := V.ref L) I' hN hy (.inl hyl) rfl (fun s2 I2 ⟨a, sb, ha⟩ => ?_) (.inr hyl))
  obtain ⟨f0, f1, f2, f3, f4, f5⟩ := f
  have haC : C ≠ a := by
    rcases ha with z | z
    · rw [z]; exact f1
    · exact fun e => f4 y a z e.symm
  refine ⟨m, hn.sameBut sb haC, fun h3 sb3 => ?_⟩
  exact ⟨_, H', I2.turned (t' := s2.toks) (fun b o hb e => (sb3.2 b hb).trans e) f0 f1 f3 f4 f5, q⟩
theorem sw_true {elt : Expr} {gs : List Comprehension} {scope : Scope} {pos py : Pos} {y : Str} {l : Nat} {env : Env} (hk : env.scope.kind = .function) (hy : env.scope.names.lookup y = some .local) (hl : (py.line == pos.line) = true)
    (ha : (scope.names.any fun (n, k) => n == y && (k == .local || k == .cell)) = false) : swapsWith (.ListComp elt gs scope pos) (some (.Name y py)) l env = pure true := by
  have ky : env.kindOf y = some .local := hy
  have hb : env.blockKind = .function := by unfold Env.blockKind; rw [hk]; rfl
  unfold swapsWith
  simp only [hb, ky, ha, Expr.pos, hl]
  rfl
end

/-! ### the forms one uses -/
/-- over a range: Pv by the turn and the heap (the new list at D within) -/
theorem lc_range {lo : Int} {n : Nat} {g : TG} {tt : TT} {te : TE} {vs : List Nat} {σ : St} {H1 : Hp} {D : Addr} {Qd : Hp → Prop} (Pv : Nat → Hp → Prop) (h0 : Pv 0 (upd H1 D (.lst [])))
    (hs : ∀ i H, i < n → Pv i H → g (.int (lo + i)) (wipe σ vs) H fun σ2 H2 => wipe σ2 vs = wipe σ vs ∧ tt σ2 H2 fun b H3 =>
      if b = true then te σ2 H3 fun y H4 => ∃ acc, H4 D = some (.lst acc) ∧ acc.length < sizeLine ∧ Pv (i + 1) (upd H4 D (.lst (acc ++ [y]))) else Pv (i + 1) H3) (hd : ∀ H, Pv n H → Qd H) :
    ∃ W : Nat → Nat → Hp → Prop, (∃ m, W 0 m (upd H1 D (.lst []))) ∧ ∀ i m H, W i m H →
      ((Itr lo n).stop i H ∧ Qd H) ∨ ((Itr lo n).go i H ∧ ∃ Nx : Hp → Prop, (∀ H', Nx H' → ∃ m', m' < m ∧ W (i + 1) m' H') ∧ ∀ x H', (Itr lo n).yld i H x H' → g x (wipe σ vs) H' fun σ2 H2 => wipe σ2 vs = wipe σ vs ∧ tt σ2 H2 fun b H3 =>
        if b = true then te σ2 H3 fun y H4 => ∃ acc, H4 D = some (.lst acc) ∧ acc.length < sizeLine ∧ Nx (upd H4 D (.lst (acc ++ [y]))) else Nx H3) := by
  refine ⟨fun i m H => m = n - i ∧ i ≤ n ∧ Pv i H, ⟨n, by simp, Nat.zero_le _, h0⟩, ?_⟩
  rintro i m H ⟨rfl, hi, p⟩
  by_cases hlt : i < n
  · refine .inr ⟨hlt, Pv (i + 1), fun H' p' => ⟨n - (i + 1), by omega, rfl, hlt, p'⟩, fun x H' y => ?_⟩
    obtain ⟨e, y⟩ := y
    subst e y
    exact hs i _ hlt p
  · have e : i = n := by omega
    subst e
    exact .inl ⟨Nat.le_refl _, hd H p⟩
/-- over a list that the block leaves as it is -/
theorem lc_list {K : PySem.W.Frag} {a : Addr} {xs : List V} {g : TG} {tt : TT} {te : TE} {vs : List Nat} {σ : St} {H1 : Hp} {D : Addr} {Qd : Hp → Prop} (Pv : Nat → Hp → Prop) (h0 : Pv 0 (upd H1 D (.lst []))) (hl : ∀ i H, i ≤ xs.length → Pv i H → SqL K H a xs)
    (hs : ∀ i x H, xs[i]? = some x → Pv i H → g x (wipe σ vs) H fun σ2 H2 => wipe σ2 vs = wipe σ vs ∧ tt σ2 H2 fun b H3 =>
      if b = true then te σ2 H3 fun y H4 => ∃ acc, H4 D = some (.lst acc) ∧ acc.length < sizeLine ∧ Pv (i + 1) (upd H4 D (.lst (acc ++ [y]))) else Pv (i + 1) H3) (hd : ∀ H, Pv xs.length H → Qd H) :
    ∃ W : Nat → Nat → Hp → Prop, (∃ m, W 0 m (upd H1 D (.lst []))) ∧ ∀ i m H, W i m H →
      ((Itl K a).stop i H ∧ Qd H) ∨ ((Itl K a).go i H ∧ ∃ Nx : Hp → Prop, (∀ H', Nx H' → ∃ m', m' < m ∧ W (i + 1) m' H') ∧ ∀ x H', (Itl K a).yld i H x H' → g x (wipe σ vs) H' fun σ2 H2 => wipe σ2 vs = wipe σ vs ∧ tt σ2 H2 fun b H3 =>
        if b = true then te σ2 H3 fun y H4 => ∃ acc, H4 D = some (.lst acc) ∧ acc.length < sizeLine ∧ Nx (upd H4 D (.lst (acc ++ [y]))) else Nx H3) := by
  refine ⟨fun i m H => m = xs.length - i ∧ i ≤ xs.length ∧ Pv i H, ⟨xs.length, by simp, Nat.zero_le _, h0⟩, ?_⟩
  rintro i m H ⟨rfl, hi, p⟩
  have q := hl i H hi p
  by_cases hlt : i < xs.length
  · refine .inr ⟨⟨xs, xs[i], q, by simp [hlt]⟩, Pv (i + 1), fun H' p' => ⟨xs.length - (i + 1), by omega, rfl, hlt, p'⟩, fun x H' y => ?_⟩
    obtain ⟨e, y⟩ := y
    subst e
    exact hs i x _ (y xs q) p
  · have e : i = xs.length := by omega
    subst e
    exact .inl ⟨⟨xs, q, Nat.le_refl _⟩, hd H p⟩
def blkC (N : List Str) (sc scope : Scope) (own : List (Str × Nat)) : Bool :=
  (match scope.kind with | .function => true | _ => false) && (scope.names.all fun y => decide (scope.names.lookup y.1 = some y.2)) && (own.all fun p => decide (N[p.2]? = some p.1)) &&
    (scope.names.all fun y => match y.2 with
      | .free => (match sc.names.lookup y.1 with | some .cell => true | some .free => true | _ => false)
      | .local => decide (y.1 ∈ own.map (·.1)) || decide (y.1 ∉ N)
      | .cell => decide (y.1 ∈ own.map (·.1)) || decide (y.1 ∉ N)
      | _ => true)
theorem blkOk_by {N : List Str} {sc scope : Scope} {own : List (Str × Nat)} (h : blkC N sc scope own = true) : BlkOk N sc scope own := by
  unfold blkC at h
  simp only [Bool.and_eq_true, List.all_eq_true, decide_eq_true_eq] at h
  obtain ⟨⟨⟨h1, h2⟩, h3⟩, h4⟩ := h
  refine ⟨?_, h2, h3, fun y hy e => ?_, fun y hy e => ?_⟩
  · split at h1
    · assumption
    · cases h1
  · have q := h4 y hy
    simp only [e] at q
    split at q <;> first | exact .inl (by assumption) | exact .inr (by assumption) | cases q
  · have q := h4 y hy
    rcases e with e | e <;> (simp only [e, Bool.or_eq_true, decide_eq_true_eq] at q; exact q)
end L2

namespace L2
open PySem PySem.Spec PyProof.Rows


section
variable {prog : Program} {w : World} {A : Around} {R : Result → Shared → Prop} {s : Shared} {elt t0 i0 t1 i1 : Expr} {ifs0 ifs1 : List Expr} {scope : Scope} {pos : Pos} {it acc : Value} {env : Env}
end

section
variable {X : Cx}
end
end L2

namespace L2
open PySem PySem.Spec PyProof.Rows

/-! ### lists of pairs as tables -/
section
variable {κ : Type} [DecidableEq κ]
def valV (kvs : List (κ × V)) (k : κ) : Option V := (kvs.find? fun kv => decide (kv.1 = k)).map (·.2)
/-- in its place, or at the end -/
def putK (kvs : List (κ × V)) (k : κ) (v : V) : List (κ × V) :=
  if (kvs.any fun kv => decide (kv.1 = k)) = true then kvs.map (fun kv => if kv.1 = k then (kv.1, v) else kv) else kvs ++ [(k, v)]

theorem valV_pos {p : κ × V} {r : List (κ × V)} {k : κ} (e : p.1 = k) : valV (p :: r) k = some p.2 := by simp [valV, List.find?_cons, e]
theorem valV_neg {p : κ × V} {r : List (κ × V)} {k : κ} (e : ¬ p.1 = k) : valV (p :: r) k = valV r k := by simp [valV, List.find?_cons, e]
theorem valV_any (k : κ) : ∀ kvs : List (κ × V), (kvs.any fun kv => decide (kv.1 = k)) = (valV kvs k).isSome
  | [] => rfl
  | p :: r => by
    rw [List.any_cons]
    by_cases e : p.1 = k
    · simp only [valV_pos e, decide_eq_true e, Bool.true_or, Option.isSome_some]
    · rw [valV_neg e, decide_eq_false e, Bool.false_or]; exact valV_any k r
theorem valV_map (k j : κ) (y : V) : ∀ kvs : List (κ × V), valV (kvs.map fun kv => if kv.1 = k then (kv.1, y) else kv) j = (valV kvs j).map fun x => if j = k then y else x
  | [] => rfl
  | p :: r => by
    have ih := valV_map k j y r
    rw [List.map_cons]
    by_cases h : p.1 = k
    · rw [if_pos h]
      by_cases e : p.1 = j
      · rw [valV_pos (p := (p.1, y)) e, valV_pos e, Option.map_some, if_pos (e.symm.trans h)]
      · rw [valV_neg (p := (p.1, y)) e, valV_neg e, ih]
    · rw [if_neg h]
      by_cases e : p.1 = j
      · rw [valV_pos (p := p) e, valV_pos e, Option.map_some, if_neg (fun z => h (e.trans z))]
      · rw [valV_neg (p := p) e, valV_neg e, ih]
theorem valV_snoc (k j : κ) (y : V) : ∀ kvs : List (κ × V), valV kvs k = none → valV (kvs ++ [(k, y)]) j = if j = k then some y else valV kvs j
  | [], _ => by
    by_cases e : k = j
    · rw [if_pos e.symm]; exact valV_pos (p := (k, y)) e
    · rw [if_neg (fun z => e z.symm)]; exact valV_neg (p := (k, y)) e
  | p :: r, hn => by
    rw [List.cons_append]
    have hk : ¬ p.1 = k := fun z => by rw [valV_pos z] at hn; cases hn
    rw [valV_neg hk] at hn
    have ih := valV_snoc k j y r hn
    by_cases e : p.1 = j
    · rw [valV_pos e, valV_pos e, if_neg (fun z => hk (e.trans z))]
    · rw [valV_neg e, valV_neg e, ih]
theorem valV_put (kvs : List (κ × V)) (k j : κ) (y : V) : valV (putK kvs k y) j = if j = k then some y else valV kvs j := by
  unfold putK
  by_cases a : (kvs.any fun kv => decide (kv.1 = k)) = true
  · rw [if_pos a, valV_map]
    rw [valV_any] at a
    by_cases e : j = k
    · obtain ⟨x, hx⟩ := Option.isSome_iff_exists.mp a
      rw [if_pos e, e, hx, Option.map_some, if_pos rfl]
    · rw [if_neg e]
      cases valV kvs j with
      | none => rfl
      | some x => rw [Option.map_some, if_neg e]
  · rw [if_neg a]
    refine valV_snoc k j y kvs ?_
    rw [valV_any] at a
    cases q : valV kvs k with
    | none => rfl
    | some x => rw [q] at a; exact (a rfl).elim
theorem length_putK (kvs : List (κ × V)) (k : κ) (v : V) : (putK kvs k v).length ≤ kvs.length + 1 := by
  unfold putK
  split
  · rw [List.length_map]; omega
  · rw [List.length_append, List.length_cons, List.length_nil]; omega
theorem putK_new {kvs : List (κ × V)} {k : κ} (v : V) (h : valV kvs k = none) : putK kvs k v = kvs ++ [(k, v)] := by
  unfold putK
  rw [valV_any, h]
  exact if_neg (by decide)

theorem RelO.isSome_eq {o : Option V} {u : Option Value} (r : RelO o u) : o.isSome = u.isSome := by
  cases o with
  | none => cases u with
    | none => rfl
    | some _ => exact (show False from r).elim
  | some _ => cases u with
    | none => exact (show False from r).elim
    | some _ => rfl

/-- raw tables of the same keys -/
theorem KV.val {kvs : List (κ × V)} {vs : List (κ × Value)} (r : KV kvs vs) (k : κ) : RelO (valV kvs k) (valueAt vs k) := by
  unfold KV at r
  induction r with
  | nil => exact True.intro
  | @cons p q ps qs h t ih =>
    obtain ⟨h1, h2⟩ := h
    by_cases e : p.1 = k
    · have e' : q.1 = k := h1.symm.trans e
      have b : valueAt (q :: qs) k = some q.2 := by simp [valueAt, List.find?_cons, e']
      rw [valV_pos e, b]; exact h2
    · have e' : ¬ q.1 = k := fun z => e (h1.trans z)
      have b : valueAt (q :: qs) k = valueAt qs k := by simp [valueAt, List.find?_cons, e']
      rw [valV_neg e, b]; exact ih
theorem KV.any {kvs : List (κ × V)} {vs : List (κ × Value)} (r : KV kvs vs) (k : κ) : (kvs.any fun kv => decide (kv.1 = k)) = vs.any fun kv => decide (kv.1 = k) := by
  unfold KV at r
  induction r with
  | nil => rfl
  | cons h t ih => rw [List.any_cons, List.any_cons, ih, h.1]
theorem KV.repl {kvs : List (κ × V)} {vs : List (κ × Value)} (r : KV kvs vs) (k : κ) {y : V} {u : Value} (ry : RelV y u) :
    KV (kvs.map fun kv => if kv.1 = k then (kv.1, y) else kv) (vs.map fun kv => if kv.1 = k then (kv.1, u) else kv) := by
  unfold KV at r ⊢
  induction r with
  | nil => exact .nil
  | @cons p q ps qs h t ih =>
    rw [List.map_cons, List.map_cons]
    refine .cons ?_ ih
    obtain ⟨h1, h2⟩ := h
    by_cases e : p.1 = k
    · rw [if_pos e, if_pos (h1.symm.trans e)]; exact ⟨h1, ry⟩
    · rw [if_neg e, if_neg (fun z => e (h1.trans z))]; exact ⟨h1, h2⟩
theorem KV.put {kvs : List (κ × V)} {vs : List (κ × Value)} (r : KV kvs vs) (k : κ) {y : V} {u : Value} (ry : RelV y u) : KV (putK kvs k y) (stored vs k u) := by
  unfold putK stored
  rw [r.any k]
  by_cases e : (vs.any fun kv => decide (kv.1 = k)) = true
  · rw [if_pos e, if_pos e]; exact r.repl k ry
  · rw [if_neg e, if_neg e]; exact Paired.snoc r ⟨rfl, ry⟩
theorem KV.length {kvs : List (κ × V)} {vs : List (κ × Value)} (r : KV kvs vs) : kvs.length = vs.length := Paired.length r
end


/-! ### a tracked dict, its keys ints and texts or tuples of these -/
theorem kV_is {P : Program} {w : World} {k : Key} {u : Value} (r : RelV (kV k) u) : (mixKind P w).is k u = true := by
  cases k with
  | inl i => obtain ⟨t, e⟩ := (show ∃ t, u = Value.int i t from r); subst e; exact mixKind_int P w i t
  | inr x => obtain ⟨t, e⟩ := (show ∃ t, u = Value.str x t from r); subst e; exact mixKind_str P w x t
theorem items_are {P : Program} {w : World} : ∀ {ks : List Key} {us : List Value}, Vals (ks.map kV) us → ItemsAre (mixKind P w) ks us
  | [], _, r => by rw [List.map_nil] at r; cases r; exact .nil
  | k :: ks, _, r => by
    rw [List.map_cons] at r
    cases r with
    | cons h t => exact .cons (kV_is h) (items_are t)

/-- raw entries of a dict with tuple keys -/
abbrev KT (H : Hp) : List (List Key × V) → List (List Key × Addr × Value) → Prop := Paired fun p q => p.1 = q.1 ∧ H q.2.1 = some (.tup (p.1.map kV)) ∧ RelV p.2 q.2.2
theorem KT.val {H : Hp} {kvs : List (List Key × V)} {xs : List (List Key × Addr × Value)} (r : KT H kvs xs) (k : List Key) : RelO (valV kvs k) ((atKey xs k).map (·.2)) := by
  induction r with
  | nil => exact True.intro
  | @cons p q ps qs h t ih =>
    obtain ⟨h1, _, h2⟩ := h
    by_cases e : p.1 = k
    · have e' : q.1 = k := h1.symm.trans e
      have b : atKey (q :: qs) k = some q.2 := by simp [atKey, List.find?_cons, e']
      rw [valV_pos e, b]; exact h2
    · have e' : ¬ q.1 = k := fun z => e (h1.trans z)
      have b : atKey (q :: qs) k = atKey qs k := by simp [atKey, List.find?_cons, e']
      rw [valV_neg e, b]; exact ih
theorem KT.repl {H : Hp} {kvs : List (List Key × V)} {xs : List (List Key × Addr × Value)} (r : KT H kvs xs) (k : List Key) {y : V} {u : Value} (ry : RelV y u) :
    KT H (kvs.map fun kv => if kv.1 = k then (kv.1, y) else kv) (xs.map (putAt k u)) := by
  induction r with
  | nil => exact .nil
  | @cons p q ps qs h t ih =>
    rw [List.map_cons, List.map_cons]
    refine .cons ?_ ih
    obtain ⟨h1, h2, h3⟩ := h
    unfold putAt
    by_cases e : p.1 = k
    · rw [if_pos e, if_pos (h1.symm.trans e)]; exact ⟨h1, h2, ry⟩
    · rw [if_neg e, if_neg (fun z => e (h1.trans z))]; exact ⟨h1, h2, h3⟩
theorem KT.put {H : Hp} {kvs : List (List Key × V)} {xs : List (List Key × Addr × Value)} (r : KT H kvs xs) (k : List Key) {b : Addr} {y : V} {u : Value} (hb : H b = some (.tup (k.map kV))) (ry : RelV y u) :
    KT H (putK kvs k y) (storedH xs k b u) := by
  have e : (kvs.any fun kv => decide (kv.1 = k)) = (atKey xs k).isSome := by
    rw [valV_any, (r.val k).isSome_eq, Option.isSome_map]
  unfold putK storedH
  rw [e]
  by_cases q : (atKey xs k).isSome = true
  · rw [if_pos q, if_pos q]; exact r.repl k ry
  · rw [if_neg q, if_neg q]; exact Paired.snoc r ⟨rfl, hb, ry⟩
theorem KT.keeps {H H' : Hp} {kvs : List (List Key × V)} {xs : List (List Key × Addr × Value)} (r : KT H kvs xs) (ht : ∀ b ys, H b = some (.tup ys) → H' b = some (.tup ys)) : KT H' kvs xs :=
  Paired.mapP r fun _ _ z => ⟨z.1, ht _ _ z.2.1, z.2.2⟩

section
variable {P : Program} {w : World} {H : Hp} {h : Heap} {a : Addr}
theorem rd_of {u : HO} (ok : HOk P w H h) (e : Rd H a u) : ObjOk P w H h a u := e.ok ok
theorem dk_rd {kvs : List (Key × V)} (ok : HOk P w H h) (e : Rd H a (.dK kvs)) : kvs.length ≤ sizeLine ∧ (a == sysModules) = false ∧ ∃ vs, KV kvs vs ∧ h.DictOf (mixKind P w) a vs :=
  show ObjOk P w H h a (.dK kvs) from rd_of ok e
theorem dk_of {kvs : List (Key × V)} (ok : HOk P w H h) (e : H a = some (.dK kvs)) : kvs.length ≤ sizeLine ∧ (a == sysModules) = false ∧ ∃ vs, KV kvs vs ∧ h.DictOf (mixKind P w) a vs := dk_rd ok (.inl e)
/-- a tracked tuple of ints and texts is a key -/
theorem key_of {ks : List Key} (ok : HOk P w H h) (e : H a = some (.tup (ks.map kV))) : (tupleKind (mixKind P w)).is h ks a := by
  obtain ⟨_, its, r, o, h1, h2, n, h3⟩ := (show ObjOk P w H h a (.tup (ks.map kV)) from ok a _ e)
  exact ⟨o, its.toArray, n, h1, h2, h3, by simpa using items_are r⟩
theorem dt_rd {kvs : List (List Key × V)} (ok : HOk P w H h) (e : Rd H a (.dT kvs)) : kvs.length ≤ sizeLine ∧ (a == sysModules) = false ∧
    ∃ xs, KT H kvs xs ∧ h.DictOfH (tupleKind (mixKind P w)) a xs := by
  obtain ⟨z, y, xs, r, o, es, ep, h1, h2, h3, h4, h5⟩ := (show ObjOk P w H h a (.dT kvs) from rd_of ok e)
  refine ⟨z, y, xs, r, o, es, ep, h1, h2, h3, h4, fun x hx => ?_, h5⟩
  have all : ∀ {l : List (List Key × V)} {m : List (List Key × Addr × Value)}, KT H l m → ∀ x ∈ m, (tupleKind (mixKind P w)).is h x.1 x.2.1 := by
    intro l m q
    induction q with
    | nil => intro x hx; exact nomatch hx
    | @cons p q ps qs hq t ih =>
      intro x hx
      rcases List.mem_cons.mp hx with e | hx
      · subst e
        exact key_of ok (by rw [← hq.1]; exact hq.2.1)
      · exact ih x hx
  exact all r x hx
theorem dt_of {kvs : List (List Key × V)} (ok : HOk P w H h) (e : H a = some (.dT kvs)) : kvs.length ≤ sizeLine ∧ (a == sysModules) = false ∧
    ∃ xs, KT H kvs xs ∧ h.DictOfH (tupleKind (mixKind P w)) a xs := dt_rd ok (.inl e)
end

/-- what the dict at a holds at the key y -/
def DGet (H : Hp) (a : Addr) (y : V) (r : Option V) : Prop :=
  (∃ kvs k, Rd H a (.dK kvs) ∧ y = kV k ∧ r = valV kvs k) ∨ ∃ kvs k b, Rd H a (.dT kvs) ∧ y = .ref b ∧ H b = some (.tup (k.map kV)) ∧ r = valV kvs k
/-- the heap behind a[y] = v -/
def DPut (H : Hp) (a : Addr) (y v : V) (H' : Hp) : Prop :=
  (∃ kvs k, H a = some (.dK kvs) ∧ y = kV k ∧ kvs.length < sizeLine ∧ H' = upd H a (.dK (putK kvs k v))) ∨
  ∃ kvs k b, H a = some (.dT kvs) ∧ y = .ref b ∧ H b = some (.tup (k.map kV)) ∧ kvs.length < sizeLine ∧ H' = upd H a (.dT (putK kvs k v))
theorem DGet.k {H : Hp} {a : Addr} {kvs : List (Key × V)} {k : Key} (e : H a = some (.dK kvs)) : DGet H a (kV k) (valV kvs k) := .inl ⟨kvs, k, .inl e, rfl, rfl⟩
theorem DPut.k {H : Hp} {a : Addr} {kvs : List (Key × V)} {k : Key} {v : V} (e : H a = some (.dK kvs)) (hl : kvs.length < sizeLine) : DPut H a (kV k) v (upd H a (.dK (putK kvs k v))) := .inl ⟨kvs, k, e, rfl, hl, rfl⟩


section
variable {X : Cx} {pins : List (Addr × Obj)} {σ : St} {H : Hp} {s : Shared} {a : Addr} {y v : V} {u r : Value} {o : Option V} {A : Around} {E : Value → Shared → Prop}

theorem Inv.big (I : Inv X pins σ H s) : sysModules < s.heap.objs.size := by
  have h : mainGlobals < s.heap.objs.size := (I.mod.glob.keeps I.bk).lt
  exact Nat.lt_trans (by decide) h

/-- d[y], there -/
theorem d_getItem {Q : Value → Shared → Prop} (hu : A.units + 1 < cLine) (I : Inv X pins σ H s) (g : DGet H a y (some v)) (ry : RelV y u) (h : ∀ w' s', Inv X pins σ H s' → RelV v w' → Q w' s') :
    wpAny (model X.prog X.w) A (getItem (.ref a) u) Q E s := by
  rcases g with ⟨kvs, k, e, ey, l⟩ | ⟨kvs, k, b, e, ey, eb, l⟩
  · subst ey
    obtain ⟨z, hd, vs, rel, dd⟩ := dk_rd I.hok e
    obtain ⟨w', hw, rw'⟩ := RelO.some_of (v := v) (o := valueAt vs k) (by rw [l]; exact rel.val k)
    exact wpAny_getItem_of (kV_is ry) dd.mapOf hw (h w' _ (I.tok _) rw')
  · subst ey
    cases (show u = Value.ref b from ry)
    obtain ⟨z, hd, xs, rel, dd⟩ := dt_rd I.hok e
    obtain ⟨w', hw, rw'⟩ := RelO.some_of (v := v) (o := (atKey xs k).map (·.2)) (by rw [l]; exact rel.val k)
    obtain ⟨p, hp, hp2⟩ := Option.map_eq_some_iff.mp hw
    refine wpAny_getItem_heap (tupleKind_room_in1 hu) (key_of I.hok eb) dd hp ?_
    rw [hp2]
    exact h w' _ (I.tok _) rw'
/-- y in d -/
theorem d_in {Q : Value → Shared → Prop} (hu : A.units + 1 < cLine) (I : Inv X pins σ H s) (g : DGet H a y o) (ry : RelV y u) (h : ∀ s', Inv X pins σ H s' → Q (.bool o.isSome) s') :
    wpAny (model X.prog X.w) A (compareOp .In u (.ref a)) Q E s := by
  rcases g with ⟨kvs, k, e, ey, l⟩ | ⟨kvs, k, b, e, ey, eb, l⟩
  · subst ey
    obtain ⟨z, hd, vs, rel, dd⟩ := dk_rd I.hok e
    refine wpAny_in_of (kV_is ry) hd dd.mapOf ?_
    rw [← (rel.val k).isSome_eq, ← l]
    exact h _ (I.tok _)
  · subst ey
    cases (show u = Value.ref b from ry)
    obtain ⟨z, hd, xs, rel, dd⟩ := dt_rd I.hok e
    refine wpAny_in_heap (tupleKind_room_in1 hu) (key_of I.hok eb) hd dd ?_
    have q := (rel.val k).isSome_eq
    rw [Option.isSome_map] at q
    rw [← q, ← l]
    exact h _ (I.tok _)
theorem d_notIn {Q : Value → Shared → Prop} (hu : A.units + 1 < cLine) (I : Inv X pins σ H s) (g : DGet H a y o) (ry : RelV y u) (h : ∀ s', Inv X pins σ H s' → Q (.bool (!o.isSome)) s') :
    wpAny (model X.prog X.w) A (compareOp .NotIn u (.ref a)) Q E s := by
  rcases g with ⟨kvs, k, e, ey, l⟩ | ⟨kvs, k, b, e, ey, eb, l⟩
  · subst ey
    obtain ⟨z, hd, vs, rel, dd⟩ := dk_rd I.hok e
    refine wpAny_notIn_of (kV_is ry) hd dd.mapOf ?_
    rw [← (rel.val k).isSome_eq, ← l]
    exact h _ (I.tok _)
  · subst ey
    cases (show u = Value.ref b from ry)
    obtain ⟨z, hd, xs, rel, dd⟩ := dt_rd I.hok e
    refine wpAny_notIn_heap (tupleKind_room_in1 hu) (key_of I.hok eb) hd dd ?_
    have q := (rel.val k).isSome_eq
    rw [Option.isSome_map] at q
    rw [← q, ← l]
    exact h _ (I.tok _)
/-- a dict's object is replaced -/
theorem d_write {h' : Heap} {t' : Nat} {ob : HO} (I : Inv X pins σ H s) (mu : Mut (H a)) (hs : Heap.SameBut a s.heap h') (he : ∃ q, h'.get? a = some q) (new : ObjOk X.prog X.w (upd H a ob) h' a ob) :
    Inv X pins σ (upd H a ob) { s with heap := h', toks := t' } :=
  I.write (x := a) (e := a) mu (.inl rfl) (fun b q hb z => (hs.2 b hb).trans z) he new
theorem dk_new {P : Program} {w : World} {H' : Hp} {h' : Heap} {kvs : List (Key × V)} {vs : List (Key × Value)} (z : kvs.length ≤ sizeLine) (hd : (a == sysModules) = false) (rel : KV kvs vs) (dd : h'.DictOf (mixKind P w) a vs) :
    ObjOk P w H' h' a (.dK kvs) := ⟨z, hd, vs, rel, dd⟩
/-- d[y] = v -/
theorem d_setItem {H' : Hp} {Q : Unit → Shared → Prop} (hu : A.units + 1 < cLine) (I : Inv X pins σ H s) (g : DPut H a y v H') (ry : RelV y u) (rv : RelV v r) (h : ∀ s', Inv X pins σ H' s' → Q () s') :
    wpAny (model X.prog X.w) A (setItem (.ref a) u r) Q E s := by
  rcases g with ⟨kvs, k, e, ey, l, eH⟩ | ⟨kvs, k, b, e, ey, eb, l, eH⟩
  · subst ey eH
    obtain ⟨z, hd, vs, rel, dd⟩ := dk_of I.hok e
    have hz : vs.length ≤ sizeLine := by rw [← rel.length]; exact z
    have hl : (putK kvs k v).length ≤ sizeLine := by have := length_putK kvs k v; omega
    refine wpAny_setItem_pairs (hsz := hz) (kV_is ry) dd fun h' dd' hs => h _ ?_
    have he : ∃ q, h'.get? a = some q := let ⟨q, _, _, hq, _⟩ := dd'; ⟨q, hq⟩
    exact d_write I (by rw [e]; exact True.intro) hs he (dk_new hl hd (rel.put k rv) dd')
  · subst ey eH
    cases (show u = Value.ref b from ry)
    obtain ⟨z, hd, xs, rel, dd⟩ := dt_of I.hok e
    have hz : xs.length ≤ sizeLine := by rw [← Paired.length rel]; exact z
    have hl : (putK kvs k v).length ≤ sizeLine := by have := length_putK kvs k v; omega
    refine wpAny_setItem_heap (hsz := hz) (tupleKind_room_in1 hu) (key_of I.hok eb) dd fun h' dd' hs => h _ ?_
    obtain ⟨q, es, ep, hq, h2, h3, h4, _, h5⟩ := dd'
    refine d_write I (by rw [e]; exact True.intro) hs ⟨q, hq⟩ ⟨hl, hd, _, (rel.put k eb rv).keeps fun c ys ec => ?_, q, es, ep, hq, h2, h3, h4, h5⟩
    rw [upd_ne (ne_of ec e (fun z => nomatch z))]
    exact ec
end

section
variable {X : Cx} {pins : List (Addr × Obj)} {σ : St} {H : Hp} {s : Shared} {a : Addr} {kvs : List (Key × V)} {k : Key} {u : Value} {A : Around} {E : Value → Shared → Prop}
/-- len(d) -/
theorem d_len {Q : Value → Shared → Prop} (I : Inv X pins σ H s) (e : Rd H a (.dK kvs)) (h : ∀ t s', Inv X pins σ H s' → Q (.int kvs.length t) s') : wpAny (model X.prog X.w) A (call (.builtin "len") [.ref a]) Q E s := by
  obtain ⟨z, hd, vs, rel, dd⟩ := dk_rd I.hok e
  refine call_len_dict hd dd (by rw [← rel.length]; rw [sizeLine_eq] at z; omega) ?_
  rw [← rel.length]
  exact h _ _ (I.tok _)
end


/-! ### readings and rules -/
/-- the element of a subscription, not a slice -/
def NoSl (i : Expr) : Prop := ∀ ov iv, subscripted i false ov iv = operate [ov, iv] (getItem ov iv)
theorem subD_of {prog : Program} {w : World} {A : Around} {E : Value → Shared → Prop} {s : Shared} {env : Env} {value slice : Expr} {pos : Pos} {T id : String} {Q : Value → Shared → Prop}
    (hl : typeLookup (.type T) "__getitem__" = pure (some (.builtin id))) (hs : NoSl slice)
    (h : wpAny (model prog w) A (eval value env) (fun o s₁ => wpAny (model prog w) A (eval slice env) (fun i s₂ => s₂.TypeIs o T ∧ wpAny (model prog w) A (getItem o i) Q E s₂) E s₁) E s) :
    wpAny (model prog w) A (eval (.Subscript value slice pos) env) Q E s := by
  refine Subscript_ (wpAny_mono h (fun o s₁ h₁ => wpAny_mono h₁ (fun i s₂ h₂ => ?_) fun _ _ x => x) fun _ _ x => x)
  obtain ⟨hT, h₂⟩ := h₂
  unfold subscriptTail
  refine wpAny_bind ?_
  rw [getitemInPython_of_ne hT.not_modules]
  refine wpAny_bind (wpAny_specialOf hT hl ?_)
  have fin : wpAny (model prog w) A (subscripted slice false o i) (fun r s₃ => wpAny (model prog w) A (letTemporaryGo value o r >>= fun _ => pure r) Q E s₃) E s₂ := by
    rw [hs o i]
    exact wpAny_operating (wpAny_mono h₂ (fun r s₃ h₃ => wpAny_bind (wpAny_letTemporaryGo (wpAny_pure h₃))) fun _ _ x => x)
  first
    | exact wpAny_pure (wpAny_bind fin)
    | exact wpAny_bind (wpAny_pure (wpAny_bind fin))
    | exact wpAny_bind fin

theorem dict_typeIs {X : Cx} {pins : List (Addr × Obj)} {σ : St} {H : Hp} {s : Shared} {a : Addr} {y : V} {o : Option V} (I : Inv X pins σ H s) (g : DGet H a y o) : s.TypeIs (.ref a) "dict" := by
  rcases g with ⟨kvs, k, e, _, _⟩ | ⟨kvs, k, b, e, _, _, _⟩
  · obtain ⟨_, _, vs, _, dd⟩ := dk_rd I.hok e
    exact dd.typeIs
  · obtain ⟨_, _, xs, _, dd⟩ := dt_rd I.hok e
    exact dd.typeIs

/-- d[y] -/
def tDGet (td ty : TE) : TE := fun σ H Q => td σ H fun x H1 => ty σ H1 fun y H2 => ∃ a v, x = .ref a ∧ DGet H2 a y (some v) ∧ Q v H2
/-- y in d, y not in d -/
def tDIn (ty td : TE) : TE := fun σ H Q => ty σ H fun y H1 => td σ H1 fun x H2 => ∃ a o, x = .ref a ∧ DGet H2 a y o ∧ Q (.bl o.isSome) H2
def tDNotIn (ty td : TE) : TE := fun σ H Q => ty σ H fun y H1 => td σ H1 fun x H2 => ∃ a o, x = .ref a ∧ DGet H2 a y o ∧ Q (.bl (!o.isSome)) H2
/-- d[y] = v -/
def sDPut (td ty tv : TE) : TS := fun D σ H => tv σ H fun v H1 => td σ H1 fun x H2 => ty σ H2 fun y H3 => ∃ a H4, x = .ref a ∧ DPut H3 a y v H4 ∧ D.nx σ H4

section
variable {X : Cx} {o i e value : Expr} {pos pos' tpos : Pos} {td ty tv : TE}
theorem pe_dget (hu : X.A.units + 1 < cLine) (ho : PE X o td) (hi : PE X i ty) (hs : NoSl i) : PE X (.Subscript o i pos) (tDGet td ty) := by
  intro pins s σ H Q I h
  refine subD_of PySem.F.slot_dict_getitem.lookup hs (thn (ho pins s σ H _ I h) fun u s1 ⟨x, H1, I1, rx, q1⟩ => thn (hi pins s1 σ H1 _ I1 q1) fun iv s2 ⟨y, H2, I2, ry, a, v, ex, g, q2⟩ => ?_)
  subst ex
  obtain rfl : u = Value.ref a := rx
  exact ⟨dict_typeIs I2 g, d_getItem hu I2 g ry fun w' s3 I3 rw' => ⟨v, H2, I3, rw', q2⟩⟩
theorem pc_din (hu : X.A.units + 1 < cLine) (hi : PE X i ty) (ho : PE X o td) : PC X .In i o (tDIn ty td) := by
  intro pins s σ H Q I h
  refine thn (hi pins s σ H _ I h) fun iv s1 ⟨y, H1, I1, ry, q1⟩ => thn (ho pins s1 σ H1 _ I1 q1) fun u s2 ⟨x, H2, I2, rx, a, ov, ex, g, q2⟩ => ?_
  subst ex
  obtain rfl : u = Value.ref a := rx
  exact d_in hu I2 g ry fun s3 I3 => ⟨.bl ov.isSome, H2, I3, rfl, q2⟩
theorem pc_dnotin (hu : X.A.units + 1 < cLine) (hi : PE X i ty) (ho : PE X o td) : PC X .NotIn i o (tDNotIn ty td) := by
  intro pins s σ H Q I h
  refine thn (hi pins s σ H _ I h) fun iv s1 ⟨y, H1, I1, ry, q1⟩ => thn (ho pins s1 σ H1 _ I1 q1) fun u s2 ⟨x, H2, I2, rx, a, ov, ex, g, q2⟩ => ?_
  subst ex
  obtain rfl : u = Value.ref a := rx
  exact d_notIn hu I2 g ry fun s3 I3 => ⟨.bl (!ov.isSome), H2, I3, rfl, q2⟩
theorem ps_dput (hu : X.A.units + 1 < cLine) (ho : PE X o td) (hi : PE X i ty) (hv : PE X value tv) (hs : swapsWith value (some (.Subscript o i pos')) pos.line X.env = pure false) :
    PS X (.Assign [.Subscript o i pos'] value pos) (sDPut td ty tv) := by
  intro pins s σ H D I h
  refine wpAny_Assign_Subscript (thn (hv pins s σ H _ I h) fun r s1 ⟨v, H1, I1, rv, q1⟩ => thn (ho pins s1 σ H1 _ I1 q1) fun u s2 ⟨x, H2, I2, rx, q2⟩ => thn (hi pins s2 σ H2 _ I2 q2) fun iv s3 ⟨y, H3, I3, ry, a, H4, ex, g, q3⟩ => ?_) hs
  subst ex
  obtain rfl : u = Value.ref a := rx
  exact d_setItem hu I3 g ry rv fun s4 I4 => ⟨σ, H4, I4, q3⟩
end


/-! ### displays -/
theorem dk_empty {P : Program} {w : World} {H : Hp} (h : Heap) (hb : sysModules < h.objs.size) : ObjOk P w H (h.push { cls := .type "dict", data := .dict #[] }) h.objs.size (.dK []) :=
  ⟨Nat.zero_le _, beq_eq_false_iff_ne.mpr (Ne.symm (Nat.ne_of_lt hb)), [], .nil, Heap.DictOf.new h⟩
/-- {}, to be a dict of the kind that is wanted -/
def tDNewK : TE := fun _ H Q => ∀ p, H p = none → Q (.ref p) (upd H p (.dK []))
section
variable {X : Cx} {pos : Pos}
theorem pe_dnewK : PE X (.Dict [] [] pos) tDNewK := fun pins s σ H Q I h =>
  wpAny_Dict_empty ⟨.ref s.heap.objs.size, _, I.laid (a := s.heap.objs.size) (o := .dK []) (t' := s.toks) (fun _ _ q => Heap.get?_push_of_some _ q) (Nat.le_refl _) (dk_empty s.heap I.big), rfl, h _ (I.hok.fresh (Nat.le_refl _))⟩
end




/-! ### methods -/


section
variable {X : Cx} {pins : List (Addr × Obj)} {σ : St} {H : Hp} {s : Shared} {a : Addr} {y d : V} {u r : Value} {o : Option V} {A : Around} {E : Value → Shared → Prop}
end

section
variable {X : Cx} {o e f : Expr} {apos cpos : Pos} {td ty tx : TE}
end

/-! ### dict(d): a copy -/
section
variable {X : Cx} {pins : List (Addr × Obj)} {σ : St} {H : Hp} {s : Shared} {a : Addr} {kvs : List (Key × V)} {A : Around} {E : Value → Shared → Prop}
end


section
variable {X : Cx} {pins : List (Addr × Obj)} {σ : St} {H : Hp} {s : Shared} {a : Addr} {y : V} {u : Value} {A : Around} {E : Value → Shared → Prop}
end
end L2

namespace L2
open PySem PySem.Spec PyProof.Rows


section
variable {prog : Program} {w : World} {A : Around} {E : Value → Shared → Prop}


end

section
variable {X : Cx}
end
end L2

namespace L2
open PySem PySem.Spec PyProof.Rows


section
variable {X : Cx} {pins : List (Addr × Obj)} {σ : St} {H : Hp} {s : Shared} {h' : Heap}
/-- .. and one new object is laid -/
theorem Inv.turnedNew {t' : Nat} {ch : List Addr} {T : Addr} {ob : HO} (I : Inv X pins σ H s) (k : ∀ b o, b ∉ ch → s.heap.get? b = some o → h'.get? b = some o) (hf : ∀ b ∈ ch, FpOk X pins H b) (hT : s.heap.objs.size ≤ T)
    (new : ObjOk X.prog X.w (upd H T ob) h' T ob) : Inv X pins σ (upd H T ob) { s with heap := h', toks := t' } := by
  have hn : H T = none := I.hok.fresh hT
  have nit : ∀ b u, H b = some u → b ∉ ch := fun b u e z => by
    have q := (hf b z).1
    rw [q] at e; cases e
  refine I.step (g' := s.gens) (d' := s.drawn) (ch := ch) (fun b hb => ⟨(hf b hb).2.2.2.1, (hf b hb).2.1, (hf b hb).2.2.2.2.1, (hf b hb).2.2.2.2.2⟩) (fun b o _ _ hc e _ => k b o hc e) (fun b o _ _ hc e _ => ⟨o.slots, k b o hc e⟩)
    (fun b o _ e n => ?_) (fun b o hc e => ⟨o, k b o hc e⟩) (fun b xs e => ?_) (fun b o u e => ?_) (fun b ps e => ⟨#[], ?_⟩) (fun m hm => ?_) (fun b u e => ?_) I.bare
  · rw [upd_ne (Nat.ne_of_lt (Nat.lt_of_lt_of_le (Heap.lt_size e) hT))]; exact n
  · rw [upd_ne (ne_of_none e hn)]; exact e
  · rw [upd_ne (ne_of_none e hn)]; exact e
  · rw [upd_ne (ne_of_none e hn), e]; simp
  · obtain ⟨o, es, ep, ho, r⟩ := hm
    exact ⟨o, es, ep, k _ o (fun z => (hf _ z).2.1 rfl) ho, r⟩
  · by_cases hb : b = T
    · subst hb
      rw [upd_same] at e
      cases e
      exact new
    · rw [upd_ne hb] at e
      refine (I.hok b u e).stay (fun c v hc q => k c v ?_ q) (fun c q => by rw [upd_ne (ne_of_none q hn)]; exact q) fun c xs q => by rw [upd_ne (ne_of_none q hn)]; exact q
      rcases hc with z | z
      · rw [z]; exact nit b u e
      · exact nit c _ z

/-! ### locking a thing while a statement runs -/
theorem Inv.lock {d : Addr} {u : HO} (I : Inv X pins σ H s) (h : H d = some u) (mu : Mut (some u)) : ∃ od, Inv X pins σ (upd H d (.frz od u)) s := by
  have x := I.hok d u h
  have ex : ∃ od, s.heap.get? d = some od := by
    cases u with
    | lst xs => obtain ⟨_, _, _, _, e⟩ := x; exact ⟨_, e⟩
    | dK kvs => obtain ⟨_, _, _, _, o, _, _, e, _⟩ := x; exact ⟨o, e⟩
    | dT kvs => obtain ⟨_, _, _, _, o, _, _, e, _⟩ := x; exact ⟨o, e⟩
    | set S n => obtain ⟨o, _, _, _, e, _⟩ := x; exact ⟨o, e⟩
    | ins C dx fs => obtain ⟨_, _, _, e, _⟩ := x; exact ⟨_, e⟩
    | ext φ => obtain ⟨_, ⟨_, e⟩, _⟩ := x; exact ⟨_, e⟩
    | _ => exact False.elim mu
  obtain ⟨od, e⟩ := ex
  have new : ObjOk X.prog X.w (upd H d (.frz od u)) s.heap d (.frz od u) := by
    refine ⟨e, x.stay (fun b v _ q => q) (fun b q => ?_) fun b xs q => ?_⟩
    · rw [upd_ne (fun z => by rw [z, h] at q; cases q; exact mu)]; exact q
    · rw [upd_ne (fun z => by rw [z, h] at q; cases q; exact mu)]; exact q
  exact ⟨od, I.write (x := d) (e := d) (t' := s.toks) (h' := s.heap) (by rw [h]; exact mu) (.inl rfl) (fun b v _ q => q) ⟨od, e⟩ new⟩
theorem Inv.nofrz {d : Addr} {u : HO} (I : Inv X pins σ H s) (h : H d = some u) (mu : Mut (some u)) : ∀ o' u', X.H_0 d ≠ some (.frz o' u') := fun o' u' e => by
  have q := I.base.frzs d o' u' e
  rw [h] at q
  cases q
  exact mu
theorem Inv.unlock {d : Addr} {od : Obj} {u : HO} (I : Inv X pins σ H s) (h : H d = some (.frz od u)) (hn : ∀ o' u', X.H_0 d ≠ some (.frz o' u')) : Inv X pins σ (upd H d u) s := by
  have neH : ∀ b o, H b = some o → (∀ o' u', o ≠ .frz o' u') → b ≠ d := fun b o e hne z => by
    rw [z, h] at e
    cases e
    exact hne _ _ rfl
  have neN : ∀ b, H b = none → b ≠ d := fun b e z => by rw [z, h] at e; cases e
  refine ⟨I.ok, I.os, I.bare, ⟨I.base.keep, I.base.slot, fun b o e n hx => ?_, I.base.there, fun b xs e => ?_, fun b o x e => ?_, fun b ps e => ?_⟩, I.loc, I.cell, ?_, fun x c e => ?_, fun p hp => ?_, fun b o e => ?_, I.len⟩
  · rw [upd_ne (neN b (I.base.free b o e n hx))]; exact I.base.free b o e n hx
  · have q := I.base.tups b xs e
    rw [upd_ne (neH b _ q (fun _ _ z => nomatch z))]; exact q
  · have q := I.base.frzs b o x e
    rw [upd_ne (fun z => by rw [z] at e; exact hn _ _ e)]; exact q
  · obtain ⟨m, q⟩ := I.base.tbls b ps e
    exact ⟨m, by rw [upd_ne (neH b _ q (fun _ _ z => nomatch z))]; exact q⟩
  · rw [upd_ne (neN _ I.free)]; exact I.free
  · rw [upd_ne (neN c (I.freeC x c e))]; exact I.freeC x c e
  · obtain ⟨e, n, r⟩ := I.pin p hp
    exact ⟨e, by rw [upd_ne (neN _ n)]; exact n, r⟩
  · by_cases hb : b = d
    · rw [hb, upd_same] at e
      cases e
      rw [hb]
      obtain ⟨_, x⟩ := I.hok d _ h
      exact x.stay (fun c v _ q => q) (fun c q => by rw [upd_ne (neH c _ q (fun _ _ z => nomatch z))]; exact q) fun c xs q => by rw [upd_ne (neH c _ q (fun _ _ z => nomatch z))]; exact q
    · rw [upd_ne hb] at e
      exact (I.hok b o e).stay (fun c v _ q => q) (fun c q => by rw [upd_ne (neH c _ q (fun _ _ z => nomatch z))]; exact q) fun c xs q => by rw [upd_ne (neH c _ q (fun _ _ z => nomatch z))]; exact q
end
/-- the statement runs while the thing at d is locked (read, not written); d and what stands there are the reading's choice -/
def tLock (t : TS) : TS := fun D σ H => ∃ d u, H d = some u ∧ Mut (some u) ∧ ∀ od, t ⟨fun σ' H' => H' d = some (.frz od u) ∧ D.nx σ' (upd H' d u), fun v H' => H' d = some (.frz od u) ∧ D.rt v (upd H' d u), fun σ' H' => H' d = some (.frz od u) ∧ D.bk σ' (upd H' d u), fun σ' H' => H' d = some (.frz od u) ∧ D.ct σ' (upd H' d u)⟩ σ (upd H d (.frz od u))
section
variable {X : Cx}
theorem ps_lock {st : Stmt} {t : TS} (h : PS X st t) : PS X st (tLock t) := by
  intro pins s σ H D I hw
  obtain ⟨d, u, hd, mu, hw⟩ := hw
  obtain ⟨od, I1⟩ := I.lock hd mu
  refine thn (h pins s σ _ _ I1 (hw od)) fun f s1 q => ?_
  cases f with
  | next => obtain ⟨σ', H', I2, e, q⟩ := q; exact ⟨σ', _, I2.unlock e (I.nofrz hd mu), q⟩
  | brk => obtain ⟨σ', H', I2, e, q⟩ := q; exact ⟨σ', _, I2.unlock e (I.nofrz hd mu), q⟩
  | cont => obtain ⟨σ', H', I2, e, q⟩ := q; exact ⟨σ', _, I2.unlock e (I.nofrz hd mu), q⟩
  | ret v => obtain ⟨x, σ', H', I2, r, e, q⟩ := q; exact ⟨x, σ', _, I2.unlock e (I.nofrz hd mu), r, q⟩

/-! ### one iterator just laid -/
theorem pi_one {tg : Expr} {pins : List (Addr × Obj)} {σ : St} {H : Hp} {s : Shared} {R : It → Hp → Prop} {J : It} {tn : Nat → Heap → Prop} {tk : Nat} (I : Inv X pins σ H s) (o : Obj)
    (T : Turn X.prog X.w X.K tg J [s.heap.objs.size] s.heap.objs.size tn) (st : tn 0 (s.heap.push o)) (q : R J H) : PIE X pins σ tg R (.ref s.heap.objs.size) { s with heap := s.heap.push o, toks := tk } := by
  refine ⟨s.heap.objs.size, [s.heap.objs.size], tn, J, H, rfl, I.kept fun b ob e => Heap.get?_push_of_some _ e, T, st, fun b hb => ?_, q⟩
  have e : b = s.heap.objs.size := by simpa using hb
  subst e
  exact I.fpOk (Nat.le_refl _) (I.hok.fresh (Nat.le_refl _))
end

/-! ### range with a step -/
section
variable {X : Cx} {tg : Expr}
end

/-! ### reversed(list) -/
section
variable {X : Cx} {tg : Expr}
end

/-! ### a str -/

/-! ### a dict's keys: any dict's entries -/
section
variable {prog : Program} {w : World} {A : Around} {E : Value → Shared → Prop} {s : Shared}
theorem iter_keys {d : Addr} {o : Obj} {es : Array DictEntry} {ep : Nat} {Q : Value → Shared → Prop} (hd : (d == sysModules) = false) (ho : s.heap.get? d = some o) (hc : o.ExactDict) (hdat : o.data = .dict es ep)
    (hQ : Q (.ref s.heap.objs.size) { s with heap := s.heap.push { cls := .type "dict_keyiterator", data := .fields #[.ref d, .int 0 0, .int es.size 0, .int ep 0] } }) :
    wpAny (model prog w) A (pyIter (.ref d)) Q E s := by
  have hT : s.TypeIs (.ref d) "dict" := ⟨o, ho, hc.1⟩
  refine wpAny_pyIter_slot hT F.slot_dict_iter (wpAny_call_entry F.slot_dict_iter hT F.entry_dict_iter ?_ (F.args_dict_iter_1 _))
  unfold Builtin.«dict.__iter__»
  refine wpAny_bind ?_
  unfold Builtin.Dict.dictSlotNone
  refine wpAny_bind (wpAny_notOrdered_dict hT ?_)
  show wpAny _ _ (pure (Value.ref d)) _ _ s
  refine wpAny_pure ?_
  show wpAny _ _ (Builtin.Dict.showsAll d >>= _) _ _ s
  unfold Builtin.Dict.showsAll
  rw [if_neg (by rw [hd]; exact Bool.false_ne_true)]
  refine wpAny_bind (wpAny_pure ?_)
  refine wpAny_bind (wpAny_dictEntries ho hdat ?_)
  refine wpAny_bind (wpAny_dictEpoch ho hdat ?_)
  refine wpAny_bind (wpAny_newObj_type (wpAny_pure ⟨_, rfl, "dict_keyiterator", _, ⟨_, Heap.get?_push_size _ rfl, rfl⟩, F.slot_dict_keyiterator_next.lookup, ?_⟩))
  simpa [rawInt] using hQ
theorem next_key_item {it d : Addr} {i n ep : Nat} {od : Obj} {es : Array DictEntry} {en : DictEntry} {Q : Option Value → Shared → Prop} (hit : s.heap.IsKeyIter it d i n ep) (hod : s.heap.get? d = some od) (hdd : od.data = .dict es ep)
    (hsz : es.size = n) (hx : es[i]? = some en) (hQ : ∀ h', h'.IsKeyIter it d (i + 1) n ep → Heap.SameBut it s.heap h' → Q (some en.key) { s with heap := h' }) : wpAny (model prog w) A (pyNext (.ref it)) Q E s := by
  obtain ⟨o, ho, hc, hd⟩ := id hit
  unfold pyNext
  refine wpAny_bind (wpAny_attempt (wpAny_callSpecial?_slot (name := Str.ofString "__next__") hit.typeIs F.slot_dict_keyiterator_next
    (wpAny_call_entry F.slot_dict_keyiterator_next hit.typeIs F.entry_dict_keyiterator_next ?_ (F.args_dict_keyiterator_next_1 _))))
  refine wpAny_bind (wpAny_pure ?_)
  refine wpAny_bind ?_
  refine wpAny_bind ?_
  first | refine wpAny_bind (wpAny_typeNameOfWhole_keyiter hit.typeIs (wpAny_pure ?_)) | refine wpAny_bind (wpAny_typeNameOf_keyiter hit.typeIs (wpAny_pure ?_))
  refine wpAny_bind (wpAny_fieldsOf ho hd ?_)
  have hown : Builtin.Dict_items.ownsTuple "dict_keyiterator" = false := by decide
  simp only [hown, Bool.false_eq_true, if_false]
  show wpAny _ _ (if (Value.ref d == Value.none) = true then _ else _) _ _ s
  rw [if_neg (show ¬ ((Value.ref d == Value.none) = true) from Bool.false_ne_true)]
  refine wpAny_bind (wpAny_pure ?_)
  refine wpAny_bind (wpAny_dictEntries hod hdd ?_)
  rw [if_neg (by rw [hsz]; simp)]
  refine wpAny_bind (wpAny_pure ?_)
  refine wpAny_bind (wpAny_dictEpoch hod hdd ?_)
  rw [if_neg (by simp)]
  refine wpAny_pure ?_
  obtain ⟨hlt', hen⟩ := Array.getElem?_eq_some_iff.mp hx
  simp only [show ¬ ((i : Int) < 0) from by omega, if_false, Int.toNat_natCast, Array.getElem?_eq_getElem hlt']
  refine wpAny_bind ?_
  first | refine wpAny_bind (wpAny_typeNameOfWhole_keyiter hit.typeIs (wpAny_pure ?_)) | refine wpAny_bind (wpAny_typeNameOf_keyiter hit.typeIs (wpAny_pure ?_))
  refine wpAny_bind (wpAny_isOneOf_keyiter hit.typeIs ?_)
  show wpAny _ _ (setField (.ref it) 1 (rawInt ((i : Int) + 1)) >>= _) _ _ s
  refine wpAny_bind (wpAny_setField ho hd (by simp) ?_)
  have hit' : (s.heap.update it (Obj.mapFields (·.setIfInBounds 1 (rawInt ((i : Int) + 1))))).IsKeyIter it d (i + 1) n ep :=
    ⟨_, Heap.get?_update_self _ ho (Obj.isFreed_of_fields (Obj.data_mapFields hd _)), (Obj.cls_mapFields ..).trans hc, by rw [Obj.data_mapFields hd]; simp [rawInt]⟩
  refine wpAny_bind (wpAny_holding ?_)
  refine wpAny_bind (wpAny_isOneOf_keyiter (s := { s with heap := s.heap.update it (Obj.mapFields (·.setIfInBounds 1 (rawInt ((i : Int) + 1)))) }) hit'.typeIs ?_)
  show wpAny _ _ (pure es[i].key) _ _ _
  rw [hen]
  exact wpAny_pure (wpAny_pure ⟨_, rfl, wpAny_pure (hQ _ hit' (Heap.SameBut.update ..))⟩)
theorem next_key_end {it d : Addr} {i n ep : Nat} {od : Obj} {es : Array DictEntry} {Q : Option Value → Shared → Prop} (hh : A.handled = none) (hit : s.heap.IsKeyIter it d i n ep) (hod : s.heap.get? d = some od) (hdd : od.data = .dict es ep)
    (hsz : es.size = n) (hge : n ≤ i) (hQ : ∀ h', Heap.ExtBut it s.heap h' → Q none { s with heap := h' }) : wpAny (model prog w) A (pyNext (.ref it)) Q E s := by
  obtain ⟨o, ho, hc, hd⟩ := id hit
  unfold pyNext
  refine wpAny_bind (wpAny_attempt (wpAny_callSpecial?_slot (name := Str.ofString "__next__") hit.typeIs F.slot_dict_keyiterator_next
    (wpAny_call_entry F.slot_dict_keyiterator_next hit.typeIs F.entry_dict_keyiterator_next ?_ (F.args_dict_keyiterator_next_1 _))))
  refine wpAny_bind (wpAny_pure ?_)
  refine wpAny_bind ?_
  refine wpAny_bind ?_
  first | refine wpAny_bind (wpAny_typeNameOfWhole_keyiter hit.typeIs (wpAny_pure ?_)) | refine wpAny_bind (wpAny_typeNameOf_keyiter hit.typeIs (wpAny_pure ?_))
  refine wpAny_bind (wpAny_fieldsOf ho hd ?_)
  have hown : Builtin.Dict_items.ownsTuple "dict_keyiterator" = false := by decide
  simp only [hown, Bool.false_eq_true, if_false]
  show wpAny _ _ (if (Value.ref d == Value.none) = true then _ else _) _ _ s
  rw [if_neg (show ¬ ((Value.ref d == Value.none) = true) from Bool.false_ne_true)]
  refine wpAny_bind (wpAny_pure ?_)
  refine wpAny_bind (wpAny_dictEntries hod hdd ?_)
  rw [if_neg (by rw [hsz]; simp)]
  refine wpAny_bind (wpAny_pure ?_)
  refine wpAny_bind (wpAny_dictEpoch hod hdd ?_)
  rw [if_neg (by simp)]
  refine wpAny_pure ?_
  have hge' : es.size ≤ i := by rw [hsz]; exact hge
  simp only [show ¬ ((i : Int) < 0) from by omega, if_false, Int.toNat_natCast, Array.getElem?_eq_none hge']
  refine wpAny_bind ?_
  first | refine wpAny_bind (wpAny_typeNameOfWhole_keyiter hit.typeIs (wpAny_pure ?_)) | refine wpAny_bind (wpAny_typeNameOf_keyiter hit.typeIs (wpAny_pure ?_))
  show wpAny _ _ (setField (.ref it) 0 .none >>= _) _ _ s
  refine wpAny_bind (wpAny_setField ho hd (by simp) ?_)
  show wpAny _ _ (newExc (.type "StopIteration") [] >>= _) _ _ _
  refine wpAny_bind ?_
  simp only [newExc, newTuple]
  refine wpAny_bind (wpAny_newObj_type ?_ (by size_fits))
  refine wpAny_bind (m := firstArgMember _ _) (wpAny_of_eq (a := Value.none) (by first | rfl | (simp only [firstArgMember]; rfl)) ?_)
  refine wpAny_newObj_type ?_ (by size_fits)
  simp only [raiseNew]
  refine wpAny_bind (wpAny_handled ?_)
  rw [show A.in1.handled = none from hh]
  refine wpAny_bind (wpAny_pure (wpAny_throw ?_))
  refine wpAny_bind (wpAny_isInstance (T := "StopIteration") (b := true) ⟨_, Heap.get?_push_size _ rfl, rfl⟩ isSubtype_stop ?_)
  exact wpAny_pure (hQ _ (((Heap.SameBut.update ..).extBut.push _).push _))
end

/-! ### a locked dict -/
theorem kv_get {κ : Type} {kvs : List (κ × V)} {vs : List (κ × Value)} (h : KV kvs vs) : ∀ {i : Nat} {k : κ} {v : V}, kvs[i]? = some (k, v) → ∃ u, vs[i]? = some (k, u) ∧ RelV v u := by
  unfold KV at h
  induction h with
  | nil => intro i k v e; simp at e
  | @cons a b l₁ l₂ r t ih =>
    intro i k v e
    cases i with
    | zero =>
      simp only [List.getElem?_cons_zero, Option.some.injEq] at e
      subst e
      refine ⟨b.2, ?_, r.2⟩
      simp only [List.getElem?_cons_zero]
      exact congrArg some (Prod.ext r.1.symm rfl)
    | succ j =>
      simp only [List.getElem?_cons_succ] at e ⊢
      exact ih e
theorem paired_get {α β : Type} {G : α → β → Prop} {l₁ : List α} {l₂ : List β} (h : Paired G l₁ l₂) : ∀ {i : Nat} {a : α}, l₁[i]? = some a → ∃ b, l₂[i]? = some b ∧ G a b := by
  induction h with
  | nil => intro i a e; simp at e
  | @cons a b l₁ l₂ r t ih =>
    intro i a' e
    cases i with
    | zero =>
      simp only [List.getElem?_cons_zero, Option.some.injEq] at e
      subst e
      exact ⟨b, rfl, r⟩
    | succ j =>
      simp only [List.getElem?_cons_succ] at e ⊢
      exact ih e
theorem relV_key {k : Key} {u : Value} (h : keyIs k u = true) : RelV (kV k) u := by
  rcases keyIs_shape h with ⟨i, t, rfl, rfl⟩ | ⟨x, t, rfl, rfl⟩
  · exact ⟨t, rfl⟩
  · exact ⟨t, rfl⟩
section
variable {X : Cx} {pins : List (Addr × Obj)} {σ : St} {H : Hp} {s : Shared} {d : Addr} {o : Obj}
theorem Inv.frzK {kvs : List (Key × V)} (I : Inv X pins σ H s) (h : H d = some (.frz o (.dK kvs))) :
    (d == sysModules) = false ∧ s.heap.get? d = some o ∧ o.ExactDict ∧ ∃ (es : Array DictEntry) (ep : Nat) (vs : List (Key × Value)), o.data = .dict es ep ∧ es.size = kvs.length ∧ KV kvs vs ∧ s.heap.DictAt (mixKind X.prog X.w) d vs ep := by
  obtain ⟨hd, z, hs, vs, kv, o', es, ep, ho, hx, hdt, r⟩ := I.hok d _ h
  rw [hd] at ho
  cases ho
  refine ⟨hs, hd, hx, es, ep, vs, hdt, ?_, kv, o, es, hd, hx, hdt, r⟩
  have l1 := r.2.1.length
  have l2 : kvs.length = vs.length := Paired.length kv
  rw [Array.length_toList] at l1
  omega
/-- the same for tuple keys -/
theorem Inv.frzT {kvs : List (List Key × V)} (I : Inv X pins σ H s) (h : H d = some (.frz o (.dT kvs))) :
    (d == sysModules) = false ∧ s.heap.get? d = some o ∧ o.ExactDict ∧ ∃ (es : Array DictEntry) (ep : Nat), o.data = .dict es ep ∧ es.size = kvs.length ∧
      ∀ (i : Nat) (k : List Key) (v : V), kvs[i]? = some (k, v) → ∃ (en : DictEntry) (q : Addr), es[i]? = some en ∧ en.key = .ref q ∧ H q = some (.tup (k.map kV)) := by
  obtain ⟨hd, z, hs, xs, pr, o', es, ep, ho, hx, hdt, he, _⟩ := I.hok d _ h
  rw [hd] at ho
  cases ho
  refine ⟨hs, hd, hx, es, ep, hdt, ?_, fun i k v e => ?_⟩
  · have l1 : es.size = xs.length := size_of_entries he
    have l2 : kvs.length = xs.length := Paired.length pr
    omega
  · obtain ⟨b, hb, e1, e2, _⟩ := paired_get pr e
    have q := entry_at he i
    rw [hb] at q
    exact ⟨_, b.2.1, q, rfl, e2⟩
end

/-- the keys of the locked dict at d, in their order -/
def Itk (d : Addr) (o : Obj) (kvs : List (Key × V)) : It :=
  ⟨fun i H => H d = some (.frz o (.dK kvs)) ∧ i < kvs.length, fun i H x H' => H' = H ∧ ∃ k v, kvs[i]? = some (k, v) ∧ x = kV k, fun i H => H d = some (.frz o (.dK kvs)) ∧ kvs.length ≤ i⟩
/-- .. of tuple keys: the key's own tuple -/
def Itkt (d : Addr) (o : Obj) (kvs : List (List Key × V)) : It :=
  ⟨fun i H => H d = some (.frz o (.dT kvs)) ∧ i < kvs.length, fun i H x H' => H' = H ∧ ∃ (k : List Key) (v : V) (q : Addr), kvs[i]? = some (k, v) ∧ x = .ref q ∧ H q = some (.tup (k.map kV)), fun i H => H d = some (.frz o (.dT kvs)) ∧ kvs.length ≤ i⟩
theorem dict_ep {o : Obj} {es es' : Array DictEntry} {ep ep' : Nat} (h : o.data = .dict es ep) (h' : o.data = .dict es' ep') : es' = es ∧ ep' = ep := by
  rw [h] at h'
  cases h'
  exact ⟨rfl, rfl⟩
section
variable {P : Program} {w : World} {K : PySem.W.Frag} {tg : Expr} {d : Addr} {o : Obj} {es : Array DictEntry} {ep : Nat}
theorem turn_keys {kvs : List (Key × V)} (it : Addr) (hod : o.data = .dict es ep) : Turn P w K tg (Itk d o kvs) [it] it (fun i h => h.IsKeyIter it d i kvs.length ep) where
  mem := by simp
  obj := fun i h st b hb => by
    have e : b = it := by simpa using hb
    subst e
    obtain ⟨oi, e, c, dd⟩ := st
    exact ⟨oi, e, fun v z => by rw [dd] at z; cases z⟩
  keep := fun i h h' st k => st.at fun oi e => k it (by simp) oi e
  item := by
    intro X hP hw hK hc i pins s σ H E I hf st hg
    subst hP hw hK
    obtain ⟨hd, hi⟩ := hg
    obtain ⟨f0, f1, f2, f3, f4, f5⟩ := hf it (by simp)
    obtain ⟨hs, hgd, hx, es', ep', vs, hdt, hsz, kv, hm⟩ := I.frzK hd
    obtain ⟨rfl, rfl⟩ := dict_ep hod hdt
    obtain ⟨⟨k, v⟩, hkv⟩ : ∃ p, kvs[i]? = some p := ⟨kvs[i], List.getElem?_eq_getElem hi⟩
    obtain ⟨u, hu, ru⟩ := kv_get kv hkv
    have hl : kvs.length = vs.length := Paired.length kv
    rw [hl] at st
    refine wpAny_pyNext_dict_item st hm hu fun key h' hkey st' sb => ?_
    have I1 : Inv X pins σ H { s with heap := h' } := I.turned (t' := s.toks) (fun b ob hb e => (sb.2 b hb).trans e) f0 f1 f3 f4 f5
    obtain ⟨oi, e, c, dd⟩ := id st'
    refine ⟨key, rfl, go_of (s := { s with heap := h' }) e c dd (by decide) ⟨kV k, H, I1, relV_key (show keyIs k key = true from hkey), ⟨rfl, k, v, hkv, rfl⟩, ?_, fun b hb => (hf b hb).1⟩⟩
    show h'.IsKeyIter it d (i + 1) kvs.length _
    rw [hl]
    exact st'
  done := by
    intro X hP hw hK hc i pins s σ H E I hf st hg
    subst hP hw hK
    obtain ⟨hd, hi⟩ := hg
    obtain ⟨f0, f1, f2, f3, f4, f5⟩ := hf it (by simp)
    obtain ⟨hs, hgd, hx, es', ep', vs, hdt, hsz, kv, hm⟩ := I.frzK hd
    obtain ⟨rfl, rfl⟩ := dict_ep hod hdt
    exact next_key_end (I.ok.hd hc) st hgd hdt hsz hi fun h' eb => ⟨rfl, I.turned (t' := s.toks) (fun b ob hb e => eb b ob hb e) f0 f1 f3 f4 f5⟩
  self := fun A i s Q E st h => wpAny_pyIter_keyiter st h
theorem turn_keysT {kvs : List (List Key × V)} (it : Addr) (hod : o.data = .dict es ep) : Turn P w K tg (Itkt d o kvs) [it] it (fun i h => h.IsKeyIter it d i kvs.length ep) where
  mem := by simp
  obj := fun i h st b hb => by
    have e : b = it := by simpa using hb
    subst e
    obtain ⟨oi, e, c, dd⟩ := st
    exact ⟨oi, e, fun v z => by rw [dd] at z; cases z⟩
  keep := fun i h h' st k => st.at fun oi e => k it (by simp) oi e
  item := by
    intro X hP hw hK hc i pins s σ H E I hf st hg
    subst hP hw hK
    obtain ⟨hd, hi⟩ := hg
    obtain ⟨f0, f1, f2, f3, f4, f5⟩ := hf it (by simp)
    obtain ⟨hs, hgd, hx, es', ep', hdt, hsz, ent⟩ := I.frzT hd
    obtain ⟨rfl, rfl⟩ := dict_ep hod hdt
    obtain ⟨⟨k, v⟩, hkv⟩ : ∃ p, kvs[i]? = some p := ⟨kvs[i], List.getElem?_eq_getElem hi⟩
    obtain ⟨en, q, hen, hkey, hq⟩ := ent i k v hkv
    refine next_key_item st hgd hdt hsz hen fun h' st' sb => ?_
    have I1 : Inv X pins σ H { s with heap := h' } := I.turned (t' := s.toks) (fun b ob hb e => (sb.2 b hb).trans e) f0 f1 f3 f4 f5
    obtain ⟨oi, e, c, dd⟩ := id st'
    exact ⟨en.key, rfl, go_of (s := { s with heap := h' }) e c dd (by decide) ⟨.ref q, H, I1, hkey, ⟨rfl, k, v, q, hkv, rfl, hq⟩, st', fun b hb => (hf b hb).1⟩⟩
  done := by
    intro X hP hw hK hc i pins s σ H E I hf st hg
    subst hP hw hK
    obtain ⟨hd, hi⟩ := hg
    obtain ⟨f0, f1, f2, f3, f4, f5⟩ := hf it (by simp)
    obtain ⟨hs, hgd, hx, es', ep', hdt, hsz, ent⟩ := I.frzT hd
    obtain ⟨rfl, rfl⟩ := dict_ep hod hdt
    exact next_key_end (I.ok.hd hc) st hgd hdt hsz hi fun h' eb => ⟨rfl, I.turned (t' := s.toks) (fun b ob hb e => eb b ob hb e) f0 f1 f3 f4 f5⟩
  self := fun A i s Q E st h => by
    refine wpAny_pyIter_slot st.typeIs F.slot_dict_keyiterator_iter (wpAny_call_entry F.slot_dict_keyiterator_iter st.typeIs F.entry_dict_keyiterator_iter ?_ (F.args_dict_keyiterator_iter_1 _))
    show wpAny _ _ (ret (.ref it)) _ _ s
    exact wpAny_pure ⟨_, rfl, "dict_keyiterator", _, st.typeIs, F.slot_dict_keyiterator_next.lookup, h⟩
end

/-! ### for k in d, d.keys(), d.values(), d.items() -/
/-- the dict is locked (tLock, or by the caller) -/
def iKeys (td : TE) : TI := fun σ H R => td σ H fun x H1 => ∃ d o, x = .ref d ∧ ((∃ kvs, H1 d = some (.frz o (.dK kvs)) ∧ R (Itk d o kvs) H1) ∨ ∃ kvs, H1 d = some (.frz o (.dT kvs)) ∧ R (Itkt d o kvs) H1)
section
variable {X : Cx} {tg e : Expr} {td : TE} {apos cpos : Pos}
theorem pi_keys (he : PE X e td) : PI X tg e (iKeys td) := by
  intro pins s σ H R I h
  refine thn (he pins s σ H _ I h) fun u s1 ⟨x, H1, I1, rx, d, o, ex, q⟩ => ?_
  subst ex
  obtain rfl : u = Value.ref d := rx
  rcases q with ⟨kvs, hd, q⟩ | ⟨kvs, hd, q⟩
  · obtain ⟨hs, hgd, hx, es, ep, vs, hdt, hsz, kv, hm⟩ := I1.frzK hd
    refine iter_keys hs hgd hx hdt (pi_one (tk := s1.toks) I1 _ (turn_keys _ hdt) ⟨_, Heap.get?_push_size _ rfl, rfl, ?_⟩ q)
    rw [hsz] <;> rfl
  · obtain ⟨hs, hgd, hx, es, ep, hdt, hsz, ent⟩ := I1.frzT hd
    refine iter_keys hs hgd hx hdt (pi_one (tk := s1.toks) I1 _ (turn_keysT _ hdt) ⟨_, Heap.get?_push_size _ rfl, rfl, ?_⟩ q)
    rw [hsz] <;> rfl
end

/-! ### enumerate(list) -/
/-- the list at a as it stands at each turn, each item in a new pair -/
def Ite (K : PySem.W.Frag) (a : Addr) : It :=
  ⟨fun i H => ∃ (xs : List V) (x : V), SqL K H a xs ∧ xs[i]? = some x, fun i H v H' => ∃ T x, v = .ref T ∧ H T = none ∧ H' = upd H T (.tup [.int (i : Nat), x]) ∧ ∀ xs, SqL K H a xs → xs[i]? = some x, fun i H => ∃ xs : List V, SqL K H a xs ∧ xs.length ≤ i⟩
theorem turn_enum {P : Program} {w : World} {K : PySem.W.Frag} {elts : List Expr} {kk : Nat} {tpos : Pos} (a e it : Addr) :
    Turn P w K (.Tuple elts kk tpos) (Ite K a) [e, it] e (fun i h => (∃ old, IsEnum h e it ((i : Nat) : Int) old) ∧ h.IsListIter it a i ∧ e ≠ it) where
  mem := by simp
  obj := fun i h st b hb => by
    obtain ⟨⟨old, he⟩, ⟨o, ho, hc, hd⟩, _⟩ := st
    have e' : b = e ∨ b = it := by simpa using hb
    rcases e' with z | z
    · rw [z]; exact ⟨_, he, fun v q => nomatch q⟩
    · rw [z]; exact ⟨o, ho, fun v q => by rw [hd] at q; cases q⟩
  keep := fun i h h' st k => let ⟨⟨old, he⟩, hi, hne⟩ := st; ⟨⟨old, k e (by simp) _ he⟩, hi.at fun o q => k it (by simp) o q, hne⟩
  item := by
    intro X hP hw hK hc i pins s σ H E I hf st hg
    subst hP hw hK
    obtain ⟨⟨old, he⟩, hit, hne⟩ := st
    obtain ⟨xs, x, hq, hx⟩ := hg
    obtain ⟨its, rv, p, hz⟩ := I.list hq
    obtain ⟨u, hu, ru⟩ := rv.get hx
    have hel : e < s.heap.objs.size := Heap.lt_size he
    have hil : it < s.heap.objs.size := by obtain ⟨_, q, _⟩ := hit; exact Heap.lt_size q
    refine wpAny_pyNext_enum_item he hit p.isList (x := u) (by simpa using hu) hne fun h' ho hit' hT hsz hk => ?_
    refine ⟨_, rfl, wpAny_letOwnedTupleGo_enum (s := { s with heap := h', toks := s.toks + 1 }) ho fun h'' he' sb => ?_⟩
    have hT2 : h''.get? s.heap.objs.size = some { cls := .type "tuple", data := .seq #[.int i s.toks, u] } := (sb.2 _ (Nat.ne_of_gt hel)).trans hT
    have new : ObjOk X.prog X.w (upd H s.heap.objs.size (.tup [.int (i : Nat), x])) h'' s.heap.objs.size (.tup [.int (i : Nat), x]) :=
      ⟨by show 2 ≤ sizeLine; decide, [.int i s.toks, u], .cons ⟨_, rfl⟩ (.cons ru .nil), ⟨_, hT2, rfl, _, rfl⟩⟩
    have I1 : Inv X pins σ (upd H s.heap.objs.size (.tup [.int (i : Nat), x])) { s with heap := h'', toks := s.toks + 1 } :=
      I.turnedNew (ch := [e, it]) (fun b ob hb q => (sb.2 b (fun z => hb (by simp [z]))).trans (hk b ob (fun z => hb (by simp [z])) (fun z => hb (by simp [z])) q)) hf (Nat.le_refl _) new
    refine ⟨.ref s.heap.objs.size, _, I1, rfl, ⟨_, x, rfl, I.hok.fresh (Nat.le_refl _), rfl, fun ys hy => by rw [I.list_inj hy hq]; exact hx⟩, ⟨⟨u, ?_⟩, hit'.at fun o q => (sb.2 it (Ne.symm hne)).trans q, hne⟩, fun b hb => ?_⟩
    · have e1 : ((i + 1 : Nat) : Int) = (i : Int) + 1 := by omega
      rw [e1]; exact he'
    · have hb' : b < s.heap.objs.size := by
        have e' : b = e ∨ b = it := by simpa using hb
        rcases e' with z | z
        · rw [z]; exact hel
        · rw [z]; exact hil
      rw [upd_ne (Nat.ne_of_lt hb')]
      exact (hf b hb).1
  done := by
    intro X hP hw hK hc i pins s σ H E I hf st hg
    subst hP hw hK
    obtain ⟨⟨old, he⟩, hit, hne⟩ := st
    obtain ⟨xs, hq, hx⟩ := hg
    obtain ⟨its, rv, p, hz⟩ := I.list hq
    obtain ⟨f0, f1, f2, f3, f4, f5⟩ := hf it (by simp)
    have hl := rv.length
    exact wpAny_pyNext_enum_end (I.ok.hd hc) he hit p.isList (by simp; omega) fun h' eb => ⟨rfl, I.turned (t' := s.toks) (fun b o hb q => eb b o hb q) f0 f1 f3 f4 f5⟩
  self := fun A i s Q E st h => let ⟨⟨_, he⟩, _⟩ := st; wpAny_pyIter_enum he h
/-! ### zip(list, list) -/
end L2

section 
namespace Bits
open PySem PyProof.Rows








end Bits
end 

section 
namespace TL
open PySem PySem.Builtin PySem.Builtin.Str PySem.StrLaws


/-! ### the list functions -/




/-! ### the model's split and partition are these -/




/-! ### computing spl and par -/


/-! ### digits -/

/-! ### words: x.split() -/
end TL
end 

namespace L2
open PySem PySem.Spec PyProof.Rows




section
variable {X : Cx} {pins : List (Addr × Obj)} {σ : St} {H : Hp} {s : Shared} {Q : VK}
end

section
variable {X : Cx}





/-! ### of a text alone -/

/-! ### of a text and a text -/

end

section
variable {X : Cx} {o e : Expr} {to te : TE}

end
end L2

namespace L2
open PySem PySem.Spec PyProof.Rows

section
variable {X : Cx}
end

/-! ### slices of a text -/


end L2

namespace Att
open PySem PySem.W PySem.Calls PyProof.Rows

/-! ### the script -/



/-! ### the attachment: holds_open's last premise (the goal 'hc' behind k_head) from a wpAny of the law's body -/



/-! ### rules over ANY heap (no ledger) from facts about the written part K: the library's own take a ledger (News) for what they write -/
section
variable {prog : Program} {w : World} {A : Around} {E : Value → Shared → Prop} {s : Shared} {K : Frag}





/-! the whole heap as the ledger: makes every rule that writes through a ledger a rule over any heap -/

end
end Att

namespace L2
open PySem PySem.Spec PyProof.Rows



end L2

namespace L2
open PySem PySem.Spec PyProof.Rows


end L2

/- THE LAST THEOREM (shape; LID, My.* are yours):
   My.Adr: a structure of the addresses that your layer names (classes, functions); My.Txt K t: a structure (Prop) of the equations over K;
   My.txt_mk : {K} {implicit addresses ..} (e1 : nsIn K mainGlobals "law" = some (some (.ref f))) (e2 : K.lookup f = some ⟨oc, od, .func (fnOf "law" "law" params body scope dV kV doc pm an cdv ct), sl⟩) (e3 : codeIn K cdv "law" = true) .. : ∃ t, My.Txt K t

set_option maxRecDepth 100000 in
set_option maxHeartbeats 0 in
theorem PySem.Challenge.cw_LID_holds : PySem.Challenge.rw_LID.Holds := by
  w_on; o_law; k_head; (case hw => w_witness2)
  k_fill
  refine L2.walk_of (l := PySem.Challenge.rw_LID) (n := 63) (k := 40) (x := "script") (CX := fun w => ..) (sp := fun _ => My.sp_law) rfl (by decide) rfl ⟨rfl, by decide, by decide⟩ (fun w h Y => PySem.W.kIn_of Y) ?F ?S ?C
  case F =>
    intro w mg fa h KX G hmg
    have T : ∃ t, My.Txt (L2.KOf KX) t := by
      dsimp only [L2.KOf]                          -- K must stand as «<heap const> w.params» for k_is
      refine' My.txt_mk ?e1 ?e2 ?e3 ..
      (case e1 => PySem.W.k_is)                    -- in the order: a name -> its address -> its object -> its parts
      (case e2 => PySem.W.k_is)
      ..
    obtain ⟨t, T⟩ := T
    have e0 := hmg.symm.trans (PySem.W.mg_of KX G T.law)
    cases e0                                       -- fa is the law's own address
    exact ⟨_, fun s u => .of_eq rfl, fun base kb nb => My.law_fn T kb nb⟩     -- if «.of_eq rfl» comes too early: refine' ⟨_, ?b, fun base kb nb => My.law_fn T kb nb⟩; exact fun s u => .of_eq rfl
  case S => exact fun w H a ns hl hO hS => ..
  case C => exact ..
(the tactic k_is has no namespace: write k_is) -/

/-! SHORT WORDS over the layer: a def of the text, its body, what a loop and a test want. -/
namespace L2
open PySem PySem.Spec PyProof.Rows

/-! ### the text by places -/
/-- the j-th statement of a class's body -/
def inClass (s : Stmt) (j : Nat) : Stmt := match s with
  | .ClassDef _ _ _ body _ _ _ _ _ _ _ => body.getD j (.Pass ⟨0, 0, 0, 0⟩)
  | _ => .Pass ⟨0, 0, 0, 0⟩
def defArgs (s : Stmt) : Arguments := match s with
  | .FunctionDef _ a _ _ _ _ _ _ _ _ => a
  | _ => { posonlyargs := [], args := [], vararg := none, kwonlyargs := [], kw_defaults := [], kwarg := none, defaults := [] }
def defBody (s : Stmt) : List Stmt := match s with
  | .FunctionDef _ _ b _ _ _ _ _ _ _ => b
  | _ => []
def defScope (s : Stmt) : Scope := match s with
  | .FunctionDef _ _ _ _ _ _ sc _ _ _ => sc
  | _ => { kind := .function, names := [], isGenerator := false, isCoroutine := false }

/-! ### no exception leaves a def -/
abbrev CX0 : CXT := fun _ _ _ _ _ _ => False
abbrev E0 : XK := fun _ _ _ => False
theorem pass0 {X : Cx} : Passes CX0 X E0 := fun _ _ _ _ _ _ _ h => h.elim

/-! ### a def (or method) of the text as it stands behind the top -/
structure Fun (K : PySem.W.Frag) (x qual : Str) (st : Stmt) (f : Addr) (fd : FuncData) : Prop where
  ex : ∃ (oc : Value) (od : Option Addr) (kV doc pm : Value) (an : Option Addr) (cdv ct : Value) (osl : Array (Option Value)),
    fd = PySem.W.fnOf x qual (defArgs st) (defBody st) (defScope st) .none kV doc pm an cdv ct ∧ K.lookup f = some ⟨oc, od, .func fd, osl⟩ ∧ PySem.W.codeIn K cdv qual = true
  kp : PySem.W.keepIn K (.ref f) = true
section
variable {P : Program} {w : World} {K : PySem.W.Frag} {mg : Str → Option Value} {base : Heap}
/-- THE RULE for a def: its body as a term of rules, and the reading of that term -/
theorem Fun.ok {x qual : Str} {st : Stmt} {f : Addr} {fd : FuncData} {N ps : List Str} {k : Nat} {sp : Sp} (F : Fun K x qual st f fd) (S : FnScope N ps (defScope st)) (len : ∀ vs H Q E, sp vs H Q E → vs.length = ps.length)
    (hbody : ∀ (cdv : Value) (A : Around) (outer : List Env) (s : Shared) (H : Hp) (vs : List V) (Q : VK) (E : XK), Room k (A.deeper (envOfC qual (defScope st) s.heap.objs.size f cdv)) → sp vs H Q E →
      ∃ t, PSs (cxOf CX0 P w K mg base N qual (defScope st) f cdv A outer s H E).nox (defBody st) t ∧ t { nx := fun _ H' => Q .non H', rt := Q } (start N vs) H) : FnOk P w K mg base CX0 (k + 1) f fd ps sp := by
  obtain ⟨oc, od, kV, doc, pm, an, cdv, ct, osl, rfl, lk, hcd⟩ := F.ex
  refine fn_of lk hcd S len fun A outer s H vs Q E hr hsp => ?_
  obtain ⟨t, h, q⟩ := hbody cdv A outer s H vs Q E hr hsp
  exact ⟨t, h.nox, q⟩
/-- how its arguments bind (no defaults): h is «fun _ _ _ _ _ _ us hl => match us, hl with | [_, _], _ => rfl», one _ a parameter -/
theorem Fun.binds {x qual : Str} {st : Stmt} {f : Addr} {fd : FuncData} {ps : List Str} (F : Fun K x qual st f fd)
    (h : ∀ (kV doc pm : Value) (an : Option Addr) (cdv ct : Value) (us : List Value), us.length = ps.length → bindArgs (PySem.W.fnOf x qual (defArgs st) (defBody st) (defScope st) .none kV doc pm an cdv ct) ⟨us, []⟩ = pure (ps.zip us)) : Binds K fd ps [] := by
  obtain ⟨oc, od, kV, doc, pm, an, cdv, ct, osl, rfl, lk, hcd⟩ := F.ex
  exact .all (h kV doc pm an cdv ct)
theorem fun_mk {x qual : Str} {st : Stmt} {f : Addr} {oc : Value} {od an : Option Addr} {osl : Array (Option Value)} {kV doc pm cdv ct : Value} (l : K.lookup f = some ⟨oc, od, .func (PySem.W.fnOf x qual (defArgs st) (defBody st) (defScope st) .none kV doc pm an cdv ct), osl⟩)
    (c : PySem.W.codeIn K cdv qual = true) (k : PySem.W.keepIn K (.ref f) = true) : Fun K x qual st f (PySem.W.fnOf x qual (defArgs st) (defBody st) (defScope st) .none kV doc pm an cdv ct) := ⟨⟨oc, od, kV, doc, pm, an, cdv, ct, osl, rfl, l, c⟩, k⟩
end
theorem hu_of {A : Around} {k : Nat} (hr : Room k A) : A.units + 1 < cLine := Nat.lt_of_le_of_lt (Nat.add_le_add_left (by decide : 1 ≤ 64) _) hr.units
theorem small1000 {n : Nat} (h : n ≤ 1000) : n < sizeLine := Nat.lt_of_le_of_lt h (by decide)

/-! ### expressions in short: the name that stands in the i-th slot -/
section
variable {X : Cx}
theorem pv (i : Nat) {x : Str} {pos : Pos} (hN : X.N[i]? = some x := by rfl) (hv : Vis X.env.scope x := by first | exact Or.inl rfl | exact Or.inr (Or.inl rfl) | exact Or.inr (Or.inr rfl)) (hd : (x == ("__debug__" : Str)) = false := by decide)
    (hcd : (x == ("__classdict__" : Str)) = false := by decide) : PE X (.Name x pos) (tVar i) := pe_var hN hv hd hcd
/-- len of a dict -/
theorem call_lenD : CallR X (.builtin "len") (fun xs H Q => ∃ a kvs, xs = [V.ref a] ∧ H a = some (.dK kvs) ∧ Q (.int kvs.length) H) := by
  intro pins s σ H xs us Q I r h
  obtain ⟨a, kvs, rfl, ha, q⟩ := h
  obtain ⟨u, rfl, ru⟩ := vals1 r
  cases ru
  exact d_len I (.inl ha) fun t s' I' => ⟨.int kvs.length, H, I', ⟨t, rfl⟩, q⟩
end

/-! ### tests -/
theorem iteF {A B : Prop} (h : B) : if false = true then A else B := by
  rw [if_neg Bool.false_ne_true]
  exact h
theorem iteT {A B : Prop} (h : A) : if true = true then A else B := by
  rw [if_pos rfl]
  exact h
theorem ite2 {c A B : Prop} [Decidable c] (h1 : c → A) (h2 : ¬ c → B) : if c then A else B := by
  by_cases h : c
  · rw [if_pos h]
    exact h1 h
  · rw [if_neg h]
    exact h2 h

/-! ### heaps -/
/-- all that was tracked is as it was -/
def Same (H H' : Hp) : Prop := ∀ b o, H b = some o → H' b = some o
theorem Same.refl (H : Hp) : Same H H := fun _ _ h => h
theorem Same.trans {H H1 H2 : Hp} (a : Same H H1) (b : Same H1 H2) : Same H H2 := fun c o h => b c o (a c o h)
theorem Same.free {H H' : Hp} (e : Same H H') {l : Addr} (h : H' l = Option.none) : H l = Option.none := by
  cases q : H l with
  | none => rfl
  | some o =>
    rw [e l o q] at h
    cases h
theorem Same.seq {K : PySem.W.Frag} {H H' : Hp} {a : Addr} {xs : List V} (e : Same H H') (h : SqL K H a xs) : SqL K H' a xs := by
  rcases h with (h | ⟨o, h⟩) | h
  · exact .inl (.inl (e _ _ h))
  · exact .inl (.inr ⟨o, e _ _ h⟩)
  · exact .inr h

/-! ### a dict's pairs: keys that differ -/
section
variable {κ : Type} [DecidableEq κ]
end
/-! ### lists -/
theorem at_of {xs : List V} {z : Int} {j : Nat} {v : V} (e : z = (j : Int)) (h : xs[j]? = some v) : atI xs z = some v := by
  rw [e]
  exact atI_nat h
theorem nd_ix {α : Type} {l : List α} (hN : l.Nodup) {i j : Nat} {x : α} (a : l[i]? = some x) (b : l[j]? = some x) : i = j := by
  obtain ⟨h1, e1⟩ := List.getElem?_eq_some_iff.mp a
  obtain ⟨h2, e2⟩ := List.getElem?_eq_some_iff.mp b
  exact (List.getElem_inj hN).mp (e1.trans e2.symm)
/-- a new instance and its __init__ leave all that was tracked as it was -/
theorem Same.made {H H1 : Hp} {x dx C : Addr} (nx : H x = Option.none) (nd : H dx = Option.none) (k : ∀ b o, (upd (upd H dx (.own x)) x (.ins C dx [])) b = some o → b ≠ x → H1 b = some o) : Same H H1 := fun b o e =>
  k b o (by rw [upd_ne (ne_of_none e nx), upd_ne (ne_of_none e nd)]; exact e) (ne_of_none e nx)
end L2
end
section
set_option Elab.async false
set_option linter.all false
set_option maxRecDepth 100000
set_option maxHeartbeats 2000000
namespace L2
open PySem PySem.Spec PyProof.Rows
open PySem.W (WData Codec OpenSpec Well WellAll ReadsW ReadsAllW)
/-! ### an answer as data -/
mutual
/-- x stands for the datum d, lists and tuples all the way -/
inductive Dw (K : PySem.W.Frag) (H : Hp) : V → WData → Prop
  | non : Dw K H .non .none
  | bl (b : Bool) : Dw K H (.bl b) (.bool b)
  | int (i : Int) : Dw K H (.int i) (.int i)
  | str (x : Str) : Dw K H (.str x) (.str x)
  | byt (b : Array UInt8) : Dw K H (.byt b) (.bytes b.toList)
  | lst {a : Addr} {xs : List V} {ds : List WData} : SqL K H a xs → DwAll K H xs ds → Dw K H (.ref a) (.list ds)
  | tup {a : Addr} {xs : List V} {ds : List WData} : SqT K H a xs → DwAll K H xs ds → Dw K H (.ref a) (.tuple ds)
inductive DwAll (K : PySem.W.Frag) (H : Hp) : List V → List WData → Prop
  | nil : DwAll K H [] []
  | cons {v : V} {vs : List V} {d : WData} {ds : List WData} : Dw K H v d → DwAll K H vs ds → DwAll K H (v :: vs) (d :: ds)
end
theorem dw_ints {K : PySem.W.Frag} {H : Hp} : ∀ ns : List Int, DwAll K H (ns.map V.int) (ns.map WData.int)
  | [] => .nil
  | n :: r => .cons (.int n) (dw_ints r)
theorem ints_dw {K : PySem.W.Frag} {H : Hp} : ∀ (ns : List Int) (xs : List V), DwAll K H xs (ns.map WData.int) → xs = ns.map V.int
  | [], xs, h => by
    cases h
    rfl
  | n :: r, xs, h => by
    cases h with
    | cons h1 h2 =>
      cases h1
      rw [ints_dw r _ h2] <;> rfl
section
variable {P : Program} {w : World} {K : PySem.W.Frag} {H : Hp} {h : Heap} {R : PySem.W.WRecords} {cl : Str → Option Addr}
theorem sqL_at {a : Addr} {xs : List V} (hok : HOk P w H h) (KX : K.In h) (q : SqL K H a xs) : ∃ (its : List Value) (o : Obj) (n : Nat), Vals xs its ∧ h.get? a = some o ∧ o.cls = .type "list" ∧ o.data = .seq its.toArray n := by
  rcases q with q | ⟨o, its, n, e, hc, _, hd, _, hv⟩
  · obtain ⟨_, its, n, hv, e⟩ := (show ObjOk P w H h a (.lst xs) from q.ok hok)
    exact ⟨its, _, n, hv, e, rfl, rfl⟩
  · exact ⟨its.toList, o, n, hv, KX _ _ e, hc, by simp [hd]⟩
theorem sqT_at {a : Addr} {xs : List V} (hok : HOk P w H h) (KX : K.In h) (q : SqT K H a xs) : ∃ (its : List Value) (o : Obj) (n : Nat), Vals xs its ∧ h.get? a = some o ∧ o.cls = .type "tuple" ∧ o.data = .seq its.toArray n := by
  rcases q with q | ⟨o, its, n, e, hc, hd, _, hv⟩
  · obtain ⟨_, its, hv, o, e, hc, n, hd⟩ := (show ObjOk P w H h a (.tup xs) from q.ok hok)
    exact ⟨its, o, n, hv, e, hc, hd⟩
  · exact ⟨its.toList, o, n, hv, KX _ _ e, hc, by simp [hd]⟩
mutual
theorem Dw.reads (hok : HOk P w H h) (KX : K.In h) : ∀ (d : WData) (v : V) (u : Value), Dw K H v d → RelV v u → ∃ as, ReadsW R cl h u d as
  | .none, _, _, x, r => by
    cases x
    cases r
    exact ⟨_, ReadsW.none⟩
  | .bool b, _, _, x, r => by
    cases x
    cases r
    exact ⟨_, ReadsW.bool b⟩
  | .int i, _, _, x, r => by
    cases x
    obtain ⟨t, rfl⟩ := r
    exact ⟨_, ReadsW.int i t⟩
  | .str s, _, _, x, r => by
    cases x
    obtain ⟨t, rfl⟩ := r
    exact ⟨_, ReadsW.str s t⟩
  | .bytes b, _, _, x, r => by
    cases x
    obtain ⟨t, rfl⟩ := r
    exact ⟨_, ReadsW.bytes _ t⟩
  | .list ds, _, _, x, r => by
    cases x with
    | lst hs ha =>
      cases r
      obtain ⟨its, o, n, rv, ho, hc, hd⟩ := sqL_at hok KX hs
      obtain ⟨as, hr⟩ := Dw.readsAll hok KX ds _ its ha rv
      exact ⟨_, ReadsW.list ho hc hd hr⟩
  | .tuple ds, _, _, x, r => by
    cases x with
    | tup hs ha =>
      cases r
      obtain ⟨its, o, n, rv, ho, hc, hd⟩ := sqT_at hok KX hs
      obtain ⟨as, hr⟩ := Dw.readsAll hok KX ds _ its ha rv
      exact ⟨_, ReadsW.tuple ho hc hd hr⟩
  | .float _, _, _, x, _ => by cases x
  | .dict _, _, _, x, _ => by cases x
  | .bytearray _, _, _, x, _ => by cases x
  | .set _, _, _, x, _ => by cases x
  | .frozenset _, _, _, x, _ => by cases x
  | .obj _ _, _, _, x, _ => by cases x
theorem Dw.readsAll (hok : HOk P w H h) (KX : K.In h) : ∀ (ds : List WData) (vs : List V) (us : List Value), DwAll K H vs ds → Vals vs us → ∃ as, ReadsAllW R cl h us ds as
  | [], _, _, x, r => by
    cases x
    cases r
    exact ⟨_, ReadsAllW.nil⟩
  | d :: ds, _, _, x, r => by
    cases x with
    | cons h1 h2 =>
      cases r with
      | cons r1 r2 =>
        obtain ⟨as, q1⟩ := Dw.reads hok KX d _ _ h1 r1
        obtain ⟨bs, q2⟩ := Dw.readsAll hok KX ds _ _ h2 r2
        exact ⟨_, ReadsAllW.cons q1 q2⟩
end
end
/-! ### the arguments -/
mutual
/-- data that a codec tells -/
def plW : WData → Bool
  | .none => true
  | .bool _ => true
  | .int _ => true
  | .str _ => true
  | .bytes _ => true
  | .list xs => plWs xs
  | .tuple xs => plWs xs
  | _ => false
def plWs : List WData → Bool
  | [] => true
  | x :: r => plW x && plWs r
end
theorem plWs_map {α : Type} {f : α → WData} (h : ∀ a, plW (f a) = true) : ∀ l : List α, plWs (l.map f) = true
  | [] => rfl
  | x :: r => by
    show (plW (f x) && plWs (r.map f)) = true
    rw [h x, plWs_map h r] <;> rfl
theorem pl_enc : ∀ (c : Codec) (a : c.denote), plW (c.enc a) = true
  | .unit, _ => rfl
  | .bool, _ => rfl
  | .int _ _, _ => rfl
  | .nat _ _, _ => rfl
  | .u8, _ => rfl
  | .bytes _ _, _ => rfl
  | .text _ _ _ _, _ => rfl
  | .list _ _ c, a => plWs_map (fun x => pl_enc c x) a
  | .pair c d, a => by
    show (plW (c.enc a.1) && (plW (d.enc a.2) && true)) = true
    rw [pl_enc c a.1, pl_enc d a.2] <;> rfl
  | .triple c d e, a => by
    show (plW (c.enc a.1) && (plW (d.enc a.2.1) && (plW (e.enc a.2.2) && true))) = true
    rw [pl_enc c a.1, pl_enc d a.2.1, pl_enc e a.2.2] <;> rfl
  | .option c, none => rfl
  | .option c, some x => pl_enc c x
theorem pl_encAll : ∀ (cs : List Codec) (a : Codec.denoteAll cs), plWs (Codec.encAll cs a) = true
  | [], _ => rfl
  | c :: cs, a => by
    show (plW (c.enc a.1) && plWs (Codec.encAll cs a.2)) = true
    rw [pl_enc c a.1, pl_encAll cs a.2] <;> rfl
theorem weight_mem : ∀ {xs : List WData} {d : WData}, d ∈ xs → d.weight ≤ WData.weightAll xs
  | [], d, h => absurd h (by simp)
  | x :: r, d, h => by
    show d.weight ≤ x.weight + 1 + WData.weightAll r
    rcases List.mem_cons.mp h with e | m
    · rw [e]
      omega
    · have z := weight_mem m
      omega
def toV : Value → V
  | .none => .non
  | .bool b => .bl b
  | .int i _ => .int i
  | .str x _ => .str x
  | .bytes b _ => .byt b
  | .ref a => .ref a
  | _ => .non
/-- a value of the arguments, its objects among A -/
def OkU (A : List Addr) : Value → Prop
  | .none => True
  | .bool _ => True
  | .int _ _ => True
  | .str _ _ => True
  | .bytes _ _ => True
  | .ref a => a ∈ A
  | _ => False
theorem OkU.mono {A B : List Addr} (h : ∀ a ∈ A, a ∈ B) : ∀ {u : Value}, OkU A u → OkU B u := fun {u} x => by
  cases u with
  | ref a => exact h a x
  | none => trivial
  | bool b => trivial
  | int i t => trivial
  | str s t => trivial
  | bytes b t => trivial
  | _ => exact False.elim x
theorem relV_toV {A : List Addr} {u : Value} (x : OkU A u) : RelV (toV u) u := by
  cases u with
  | ref a => rfl
  | none => rfl
  | bool b => rfl
  | int i t => exact ⟨t, rfl⟩
  | str s t => exact ⟨t, rfl⟩
  | bytes b t => exact ⟨t, rfl⟩
  | _ => exact False.elim x
theorem vals_toV {A : List Addr} : ∀ {vs : List Value}, (∀ u ∈ vs, OkU A u) → Vals (vs.map toV) vs
  | [], _ => .nil
  | u :: r, h => .cons (relV_toV (h u (List.mem_cons_self ..))) (vals_toV fun x hx => h x (List.mem_cons_of_mem _ hx))
/-- an object of the arguments -/
def ArgOb (h : Heap) (A : List Addr) (a : Addr) : Prop := ∃ vs : List Value, vs.length ≤ sizeLine ∧ (∀ u ∈ vs, OkU A u) ∧
  (h.get? a = some { cls := .type "list", data := .seq vs.toArray } ∨ h.get? a = some { cls := .type "tuple", data := .seq vs.toArray })
theorem ArgOb.mono {h : Heap} {A B : List Addr} {a : Addr} (k : ∀ a ∈ A, a ∈ B) (x : ArgOb h A a) : ArgOb h B a := by
  obtain ⟨vs, h1, h2, h3⟩ := x
  exact ⟨vs, h1, fun u hu => (h2 u hu).mono k, h3⟩
theorem wellAll_len {P : Params} {h : Heap} : ∀ {vs : List Value} {ds : List WData}, WellAll P h vs ds → vs.length = ds.length
  | _, _, .nil => rfl
  | _, _, .cons _ b => by
    show _ + 1 = _ + 1
    rw [wellAll_len b]
theorem well_list {P : Params} {h : Heap} {v : Value} {ds : List WData} (x : Well P h v (.list ds)) : ∃ (a : Addr) (vs : List Value), v = .ref a ∧ h.get? a = some { cls := .type "list", data := .seq vs.toArray } ∧ WellAll P h vs ds := by
  cases x with
  | list ho hall => exact ⟨_, _, rfl, ho, hall⟩
theorem well_tuple {P : Params} {h : Heap} {v : Value} {ds : List WData} (x : Well P h v (.tuple ds)) : ∃ (a : Addr) (vs : List Value), v = .ref a ∧ h.get? a = some { cls := .type "tuple", data := .seq vs.toArray } ∧ WellAll P h vs ds := by
  cases x with
  | tuple ho hall => exact ⟨_, _, rfl, ho, hall⟩
theorem well_cons {P : Params} {h : Heap} {us : List Value} {d : WData} {ds : List WData} (x : WellAll P h us (d :: ds)) : ∃ (v : Value) (vs : List Value), us = v :: vs ∧ Well P h v d ∧ WellAll P h vs ds := by
  cases x with
  | cons a b => exact ⟨_, _, rfl, a, b⟩
theorem line_of {n : Nat} (h : n ≤ 1048576) : n ≤ sizeLine := Nat.le_trans h (by decide)
section
variable {P : Params} {h : Heap}
mutual
theorem area_one : ∀ (d : WData) (v : Value), Well P h v d → plW d = true → d.weight ≤ 1048576 → ∃ A : List Addr, OkU A v ∧ ∀ a ∈ A, ArgOb h A a
  | .none, _, x, _, _ => by
    cases x
    exact ⟨[], trivial, fun a m => absurd m (by simp)⟩
  | .bool b, _, x, _, _ => by
    cases x
    exact ⟨[], trivial, fun a m => absurd m (by simp)⟩
  | .int i, _, x, _, _ => by
    cases x
    exact ⟨[], trivial, fun a m => absurd m (by simp)⟩
  | .str s, _, x, _, _ => by
    cases x
    exact ⟨[], trivial, fun a m => absurd m (by simp)⟩
  | .bytes b, _, x, _, _ => by
    cases x
    exact ⟨[], trivial, fun a m => absurd m (by simp)⟩
  | .list ds, _, x, p, z => by
    obtain ⟨a, vs, rfl, ho, hall⟩ := well_list x
    have z2 : WData.weightAll ds ≤ 1048576 := z
    obtain ⟨A, h1, h2⟩ := area_all ds _ hall p fun d hd => Nat.le_trans (weight_mem hd) z2
    have k : ∀ b ∈ A, b ∈ a :: A := fun b hb => List.mem_cons_of_mem _ hb
    refine ⟨a :: A, List.mem_cons_self .., fun b hb => ?_⟩
    rcases List.mem_cons.mp hb with e | m
    · rw [e]
      exact ⟨vs, line_of (by rw [wellAll_len hall]; exact Nat.le_trans (PySem.W.length_le_weightAllW ds) z2), fun u hu => (h1 u hu).mono k, .inl ho⟩
    · exact (h2 b m).mono k
  | .tuple ds, _, x, p, z => by
    obtain ⟨a, vs, rfl, ho, hall⟩ := well_tuple x
    have z2 : WData.weightAll ds ≤ 1048576 := z
    obtain ⟨A, h1, h2⟩ := area_all ds _ hall p fun d hd => Nat.le_trans (weight_mem hd) z2
    have k : ∀ b ∈ A, b ∈ a :: A := fun b hb => List.mem_cons_of_mem _ hb
    refine ⟨a :: A, List.mem_cons_self .., fun b hb => ?_⟩
    rcases List.mem_cons.mp hb with e | m
    · rw [e]
      exact ⟨vs, line_of (by rw [wellAll_len hall]; exact Nat.le_trans (PySem.W.length_le_weightAllW ds) z2), fun u hu => (h1 u hu).mono k, .inr ho⟩
    · exact (h2 b m).mono k
  | .float _, _, _, p, _ => Bool.noConfusion (show false = true from p)
  | .dict _, _, _, p, _ => Bool.noConfusion (show false = true from p)
  | .bytearray _, _, _, p, _ => Bool.noConfusion (show false = true from p)
  | .set _, _, _, p, _ => Bool.noConfusion (show false = true from p)
  | .frozenset _, _, _, p, _ => Bool.noConfusion (show false = true from p)
  | .obj _ _, _, _, p, _ => Bool.noConfusion (show false = true from p)
theorem area_all : ∀ (ds : List WData) (vs : List Value), WellAll P h vs ds → plWs ds = true → (∀ d ∈ ds, d.weight ≤ 1048576) → ∃ A : List Addr, (∀ u ∈ vs, OkU A u) ∧ ∀ a ∈ A, ArgOb h A a
  | [], _, x, _, _ => by
    cases x
    exact ⟨[], fun u m => absurd m (by simp), fun a m => absurd m (by simp)⟩
  | d :: ds, _, x, p, z => by
    obtain ⟨v, vs, rfl, x1, x2⟩ := well_cons x
    have q : plW d = true ∧ plWs ds = true := Bool.and_eq_true_iff.mp p
    obtain ⟨A, a1, a2⟩ := area_one d v x1 q.1 (z d (List.mem_cons_self ..))
    obtain ⟨B, b1, b2⟩ := area_all ds vs x2 q.2 fun e he => z e (List.mem_cons_of_mem _ he)
    have kA : ∀ b ∈ A, b ∈ A ++ B := fun b hb => List.mem_append.mpr (.inl hb)
    have kB : ∀ b ∈ B, b ∈ A ++ B := fun b hb => List.mem_append.mpr (.inr hb)
    refine ⟨A ++ B, fun u hu => ?_, fun b hb => ?_⟩
    · rcases List.mem_cons.mp hu with e | m
      · rw [e]
        exact a1.mono kA
      · exact (b1 u m).mono kB
    · rcases List.mem_append.mp hb with m | m
      · exact (a2 b m).mono kA
      · exact (b2 b m).mono kB
end
end
/-- what is tracked of an argument's object -/
def hoOf (o : Obj) : Option HO := match o.data with
  | .seq vs _ => if (o.cls == Value.type "list") = true then some (.frz o (.lst (vs.toList.map toV))) else some (.frz o (.tup (vs.toList.map toV)))
  | _ => none
def argH (K : PySem.W.Frag) (h : Heap) (A : List Addr) : Hp := fun b => if b ∈ A then (if (K.lookup b).isNone = true then (h.get? b).bind hoOf else none) else none
/-- nothing is tracked but what is known to the object -/
def OnlyF (H : Hp) : Prop := ∀ b, H b = none ∨ ∃ o u, H b = some (.frz o u)
theorem hoOf_lst (vs : List Value) : hoOf { cls := .type "list", data := .seq vs.toArray } = some (.frz { cls := .type "list", data := .seq vs.toArray } (.lst (vs.map toV))) := by
  show (if (Value.type "list" == Value.type "list") = true then some (HO.frz { cls := .type "list", data := .seq vs.toArray } (.lst (vs.toArray.toList.map toV))) else some (HO.frz { cls := .type "list", data := .seq vs.toArray } (.tup (vs.toArray.toList.map toV)))) = _
  rw [if_pos (beq_self_eq_true _)]
theorem hoOf_tup (vs : List Value) : hoOf { cls := .type "tuple", data := .seq vs.toArray } = some (.frz { cls := .type "tuple", data := .seq vs.toArray } (.tup (vs.map toV))) := by
  show (if (Value.type "tuple" == Value.type "list") = true then some (HO.frz { cls := .type "tuple", data := .seq vs.toArray } (.lst (vs.toArray.toList.map toV))) else some (HO.frz { cls := .type "tuple", data := .seq vs.toArray } (.tup (vs.toArray.toList.map toV)))) = _
  rw [if_neg (by decide)]
section
variable {P : Program} {w : World} {K : PySem.W.Frag} {h : Heap} {A : List Addr}
theorem argH_at {b : Addr} {o : Obj} (hb : b ∈ A) (hk : K.lookup b = none) (e : h.get? b = some o) : argH K h A b = hoOf o := by
  unfold argH
  rw [if_pos hb, hk, if_pos (show (none : Option Obj).isNone = true from rfl), e] <;> rfl
theorem of_argH {b : Addr} {u : HO} (q : argH K h A b = some u) : b ∈ A ∧ K.lookup b = none := by
  unfold argH at q
  by_cases hb : b ∈ A
  · rw [if_pos hb] at q
    cases hk : K.lookup b with
    | none => exact ⟨hb, rfl⟩
    | some o =>
      rw [hk, if_neg (by simp)] at q
      cases q
  · rw [if_neg hb] at q
    cases q
/-- what stands tracked -/
theorem argH_is (ar : ∀ a ∈ A, ArgOb h A a) {b : Addr} {u : HO} (q : argH K h A b = some u) : K.lookup b = none ∧ ∃ vs : List Value, vs.length ≤ sizeLine ∧ (∀ u ∈ vs, OkU A u) ∧
    ((h.get? b = some { cls := .type "list", data := .seq vs.toArray } ∧ u = .frz { cls := .type "list", data := .seq vs.toArray } (.lst (vs.map toV))) ∨
     (h.get? b = some { cls := .type "tuple", data := .seq vs.toArray } ∧ u = .frz { cls := .type "tuple", data := .seq vs.toArray } (.tup (vs.map toV)))) := by
  obtain ⟨hb, hk⟩ := of_argH q
  obtain ⟨vs, h1, h2, h3⟩ := ar b hb
  refine ⟨hk, vs, h1, h2, ?_⟩
  rcases h3 with e | e
  · rw [argH_at hb hk e, hoOf_lst] at q
    exact .inl ⟨e, (Option.some.inj q).symm⟩
  · rw [argH_at hb hk e, hoOf_tup] at q
    exact .inr ⟨e, (Option.some.inj q).symm⟩
theorem argH_only (ar : ∀ a ∈ A, ArgOb h A a) : OnlyF (argH K h A) := fun b => by
  cases q : argH K h A b with
  | none => exact .inl rfl
  | some u =>
    obtain ⟨_, vs, _, _, ⟨_, e⟩ | ⟨_, e⟩⟩ := argH_is ar q
    · exact .inr ⟨_, _, by rw [e]⟩
    · exact .inr ⟨_, _, by rw [e]⟩
theorem argH_ok (ar : ∀ a ∈ A, ArgOb h A a) : HOk P w (argH K h A) h := fun b u q => by
  obtain ⟨_, vs, h1, h2, ⟨e, rfl⟩ | ⟨e, rfl⟩⟩ := argH_is ar q
  · exact ⟨e, by rw [List.length_map]; exact h1, vs, _, vals_toV h2, e⟩
  · exact ⟨e, by rw [List.length_map]; exact h1, vs, vals_toV h2, _, e, rfl, _, rfl⟩
theorem seq_inj {c c' : Value} {vs us : List Value} (e : (some { cls := c, data := .seq vs.toArray } : Option Obj) = some { cls := c', data := .seq us.toArray }) : c = c' ∧ vs = us := by
  have e1 := Option.some.inj e
  have e2 : c = c' := congrArg Obj.cls e1
  have e3 : Data.seq vs.toArray = Data.seq us.toArray := congrArg Obj.data e1
  injection e3 with e4
  refine ⟨e2, ?_⟩
  have e5 := congrArg Array.toList e4
  simpa using e5
/-- a list argument -/
theorem argL (KX : K.In h) (ar : ∀ a ∈ A, ArgOb h A a) {a : Addr} {vs : List Value} (ha : a ∈ A) (e : h.get? a = some { cls := .type "list", data := .seq vs.toArray }) : (∀ u ∈ vs, OkU A u) ∧ SqL K (argH K h A) a (vs.map toV) := by
  obtain ⟨us, h1, h2, h3⟩ := ar a ha
  have hu : us = vs := by
    rcases h3 with q | q
    · rw [e] at q
      exact (seq_inj q).2.symm
    · rw [e] at q
      exact absurd (Value.type.inj (seq_inj q).1) (by decide)
  subst hu
  refine ⟨h2, ?_⟩
  cases hk : K.lookup a with
  | none => exact .inl (.inr ⟨_, by rw [argH_at ha hk e, hoOf_lst]⟩)
  | some o =>
    have e2 := KX a o hk
    rw [e] at e2
    obtain rfl := Option.some.inj e2
    exact .inr ⟨_, us.toArray, _, hk, rfl, rfl, rfl, by rw [List.size_toArray]; exact h1, by simpa using vals_toV h2⟩
theorem argT (KX : K.In h) (ar : ∀ a ∈ A, ArgOb h A a) {a : Addr} {vs : List Value} (ha : a ∈ A) (e : h.get? a = some { cls := .type "tuple", data := .seq vs.toArray }) : (∀ u ∈ vs, OkU A u) ∧ SqT K (argH K h A) a (vs.map toV) := by
  obtain ⟨us, h1, h2, h3⟩ := ar a ha
  have hu : us = vs := by
    rcases h3 with q | q
    · rw [e] at q
      exact absurd (Value.type.inj (seq_inj q).1) (by decide)
    · rw [e] at q
      exact (seq_inj q).2.symm
  subst hu
  refine ⟨h2, ?_⟩
  cases hk : K.lookup a with
  | none => exact .inl (.inr ⟨_, by rw [argH_at ha hk e, hoOf_tup]⟩)
  | some o =>
    have e2 := KX a o hk
    rw [e] at e2
    obtain rfl := Option.some.inj e2
    exact .inr ⟨_, us.toArray, _, hk, rfl, rfl, by rw [List.size_toArray]; exact h1, by simpa using vals_toV h2⟩
mutual
theorem dw_one {Pm : Params} (KX : K.In h) (ar : ∀ a ∈ A, ArgOb h A a) : ∀ (d : WData) (v : Value), Well Pm h v d → plW d = true → OkU A v → Dw K (argH K h A) (toV v) d
  | .none, _, x, _, _ => by
    cases x
    exact .non
  | .bool b, _, x, _, _ => by
    cases x
    exact .bl b
  | .int i, _, x, _, _ => by
    cases x
    exact .int i
  | .str s, _, x, _, _ => by
    cases x
    exact .str s
  | .bytes b, _, x, _, _ => by
    cases x
    have z := Dw.byt (K := K) (H := argH K h A) b.toArray
    exact z
  | .list ds, _, x, p, hu => by
    obtain ⟨a, vs, rfl, ho, hall⟩ := well_list x
    obtain ⟨h2, hs⟩ := argL KX ar hu ho
    exact .lst hs (dw_all KX ar ds _ hall p h2)
  | .tuple ds, _, x, p, hu => by
    obtain ⟨a, vs, rfl, ho, hall⟩ := well_tuple x
    obtain ⟨h2, hs⟩ := argT KX ar hu ho
    exact .tup hs (dw_all KX ar ds _ hall p h2)
  | .float _, _, _, p, _ => Bool.noConfusion (show false = true from p)
  | .dict _, _, _, p, _ => Bool.noConfusion (show false = true from p)
  | .bytearray _, _, _, p, _ => Bool.noConfusion (show false = true from p)
  | .set _, _, _, p, _ => Bool.noConfusion (show false = true from p)
  | .frozenset _, _, _, p, _ => Bool.noConfusion (show false = true from p)
  | .obj _ _, _, _, p, _ => Bool.noConfusion (show false = true from p)
theorem dw_all {Pm : Params} (KX : K.In h) (ar : ∀ a ∈ A, ArgOb h A a) : ∀ (ds : List WData) (vs : List Value), WellAll Pm h vs ds → plWs ds = true → (∀ u ∈ vs, OkU A u) → DwAll K (argH K h A) (vs.map toV) ds
  | [], _, x, _, _ => by
    cases x
    exact .nil
  | d :: ds, _, x, p, hu => by
    obtain ⟨v, vs, rfl, x1, x2⟩ := well_cons x
    have q : plW d = true ∧ plWs ds = true := Bool.and_eq_true_iff.mp p
    exact .cons (dw_one KX ar d v x1 q.1 (hu _ (List.mem_cons_self ..))) (dw_all KX ar ds vs x2 q.2 fun u m => hu u (List.mem_cons_of_mem _ m))
end
end
/-! ### the call -/
/-! ### the row -/
theorem layable_weight {ds : List WData} (h : WData.layableAll ds = true) : ∀ d ∈ ds, d.weight ≤ 1048576 := fun d hd =>
  (PySem.W.layableW_iff.mp (List.all_eq_true.mp h d hd)).2.2
theorem encAll_len : ∀ (cs : List Codec) (a : Codec.denoteAll cs), (Codec.encAll cs a).length = cs.length
  | [], _ => rfl
  | c :: cs, a => by
    show (Codec.encAll cs a.2).length + 1 = cs.length + 1
    rw [encAll_len cs a.2]
end L2
end
section
set_option Elab.async false
set_option maxHeartbeats 1000000
namespace Mat
open Kyt

theorem take_snoc {α : Type} : ∀ {l : List α} {i : Nat} {x : α}, l[i]? = some x → l.take (i + 1) = l.take i ++ [x]
  | [], i, x, h => by simp at h
  | a :: l, 0, x, h => by
    have e : a = x := Option.some.inj h
    subst e
    rfl
  | a :: l, i + 1, x, h => by
    have ih := take_snoc (l := l) (i := i) (x := x) h
    show a :: l.take (i + 1) = a :: l.take i ++ [x]
    rw [ih]
    rfl

/-! ### the beginning, the first time from -/
def bstep (g b t : Nat) : Nat := if b < t ∧ t ≤ g + late then t else b
def fok (e : Nat) (b : Option Nat) (t : Nat) : Bool := decide (e ≤ t) && (match b with | none => true | some x => decide (t < x))
def fstep (e : Nat) (b : Option Nat) (t : Nat) : Option Nat := if fok e b t = true then some t else b

theorem greatest_none : ∀ {l : List Nat}, greatest l = none → l = []
  | [], _ => rfl
  | x :: l, h => by
    unfold greatest at h
    cases e : greatest l <;> rw [e] at h <;> cases h
theorem greatest_some : ∀ {l : List Nat} {y : Nat}, greatest l = some y → y ∈ l ∧ ∀ x ∈ l, x ≤ y
  | [], _, h => by cases h
  | x :: l, y, h => by
    unfold greatest at h
    cases e : greatest l with
    | none =>
      rw [e] at h
      cases h
      have := greatest_none e
      subst this
      simp
    | some z =>
      rw [e] at h
      cases h
      obtain ⟨h1, h2⟩ := greatest_some e
      refine ⟨?_, fun a ha => ?_⟩
      · by_cases hx : z ≤ x
        · rw [Nat.max_eq_left hx]; exact List.mem_cons_self ..
        · rw [Nat.max_eq_right (by omega)]; exact List.mem_cons_of_mem _ h1
      · rcases List.mem_cons.mp ha with rfl | ha
        · exact Nat.le_max_left ..
        · exact Nat.le_trans (h2 a ha) (Nat.le_max_right ..)
theorem smallest_none : ∀ {l : List Nat}, smallest l = none → l = []
  | [], _ => rfl
  | x :: l, h => by
    unfold smallest at h
    cases e : smallest l <;> rw [e] at h <;> cases h
theorem smallest_some : ∀ {l : List Nat} {y : Nat}, smallest l = some y → y ∈ l ∧ ∀ x ∈ l, y ≤ x
  | [], _, h => by cases h
  | x :: l, y, h => by
    unfold smallest at h
    cases e : smallest l with
    | none =>
      rw [e] at h
      cases h
      have := smallest_none e
      subst this
      simp
    | some z =>
      rw [e] at h
      cases h
      obtain ⟨h1, h2⟩ := smallest_some e
      refine ⟨?_, fun a ha => ?_⟩
      · by_cases hx : x ≤ z
        · rw [Nat.min_eq_left hx]; exact List.mem_cons_self ..
        · rw [Nat.min_eq_right (by omega)]; exact List.mem_cons_of_mem _ h1
      · rcases List.mem_cons.mp ha with rfl | ha
        · exact Nat.min_le_left ..
        · exact Nat.le_trans (Nat.min_le_right ..) (h2 a ha)

theorem bfold_spec (g : Nat) : ∀ (ts : List Nat) (b : Nat), b ≤ ts.foldl (bstep g) b ∧ (∀ t ∈ ts, t ≤ g + late → t ≤ ts.foldl (bstep g) b) ∧ (ts.foldl (bstep g) b = b ∨ (ts.foldl (bstep g) b ∈ ts ∧ ts.foldl (bstep g) b ≤ g + late))
  | [], b => ⟨Nat.le_refl _, by simp, .inl rfl⟩
  | t :: ts, b => by
    obtain ⟨h1, h2, h3⟩ := bfold_spec g ts (bstep g b t)
    rw [List.foldl_cons]
    have hb : b ≤ bstep g b t ∧ (t ≤ g + late → t ≤ bstep g b t) ∧ (bstep g b t = b ∨ (bstep g b t = t ∧ t ≤ g + late)) := by
      unfold bstep
      by_cases c : b < t ∧ t ≤ g + late
      · rw [if_pos c]; exact ⟨Nat.le_of_lt c.1, fun _ => Nat.le_refl _, .inr ⟨rfl, c.2⟩⟩
      · rw [if_neg c]; exact ⟨Nat.le_refl _, fun h => by omega, .inl rfl⟩
    refine ⟨Nat.le_trans hb.1 h1, fun x hx hl => ?_, ?_⟩
    · rcases List.mem_cons.mp hx with rfl | hx
      · exact Nat.le_trans (hb.2.1 hl) h1
      · exact h2 x hx hl
    · rcases h3 with e | ⟨e1, e2⟩
      · rcases hb.2.2 with q | ⟨q, q2⟩
        · left; rw [e, q]
        · right; rw [e, q]; exact ⟨List.mem_cons_self .., q2⟩
      · exact .inr ⟨List.mem_cons_of_mem _ e1, e2⟩
theorem bfold_eq (g : Nat) (ts : List Nat) : ts.foldl (bstep g) g = (greatest (ts.filter fun t => decide (g ≤ t) && decide (t ≤ g + late))).getD g := by
  obtain ⟨h1, h2, h3⟩ := bfold_spec g ts g
  cases e : greatest (ts.filter fun t => decide (g ≤ t) && decide (t ≤ g + late)) with
  | none =>
    have q := greatest_none e
    rcases h3 with z | ⟨z1, z2⟩
    · rw [z]; rfl
    · have : ts.foldl (bstep g) g ∈ ts.filter fun t => decide (g ≤ t) && decide (t ≤ g + late) := by
        rw [List.mem_filter]
        exact ⟨z1, by simp [h1, z2]⟩
      rw [q] at this
      simp at this
  | some y =>
    obtain ⟨q1, q2⟩ := greatest_some e
    rw [List.mem_filter] at q1
    have q3 : g ≤ y ∧ y ≤ g + late := by simpa using q1.2
    have z1 := h2 y q1.1 q3.2
    show _ = y
    rcases h3 with z | ⟨z2, z3⟩
    · rw [z] at z1 ⊢; omega
    · have := q2 (ts.foldl (bstep g) g) (by rw [List.mem_filter]; exact ⟨z2, by simp [h1, z3]⟩)
      omega
theorem began_eq (r : Race) (k g : Nat) : (timesAt r k 0).foldl (bstep g) g = beganAt r k g := bfold_eq g _
theorem began_ge (r : Race) (k g : Nat) : g ≤ beganAt r k g := by
  rw [← began_eq]
  exact (bfold_spec g _ g).1

theorem ffold_spec (e : Nat) : ∀ (ts : List Nat) (b : Option Nat), (∀ x, b = some x → e ≤ x) →
    match ts.foldl (fstep e) b with
    | none => b = none ∧ ∀ t ∈ ts, ¬ e ≤ t
    | some y => e ≤ y ∧ (b = some y ∨ y ∈ ts) ∧ (∀ x, b = some x → y ≤ x) ∧ ∀ t ∈ ts, e ≤ t → y ≤ t
  | [], b, hb => by
    cases b with
    | none => exact ⟨rfl, by simp⟩
    | some x => exact ⟨hb x rfl, .inl rfl, fun z hz => by cases hz; exact Nat.le_refl _, by simp⟩
  | t :: ts, b, hb => by
    rw [List.foldl_cons]
    by_cases c : fok e b t = true
    · have es : fstep e b t = some t := by unfold fstep; rw [if_pos c]
      rw [es]
      unfold fok at c
      rw [Bool.and_eq_true] at c
      have ce : e ≤ t := of_decide_eq_true c.1
      have ih := ffold_spec e ts (some t) (fun x hx => by cases hx; exact ce)
      cases q : ts.foldl (fstep e) (some t) with
      | none => rw [q] at ih; exact absurd ih.1 (by simp)
      | some y =>
        rw [q] at ih
        obtain ⟨i1, i2, i3, i4⟩ := ih
        have yt := i3 t rfl
        refine ⟨i1, .inr ?_, fun x hx => ?_, fun u hu hue => ?_⟩
        · rcases i2 with z | z
          · cases z; exact List.mem_cons_self ..
          · exact List.mem_cons_of_mem _ z
        · subst hx
          have := of_decide_eq_true c.2
          omega
        · rcases List.mem_cons.mp hu with rfl | hu
          · exact yt
          · exact i4 u hu hue
    · have es : fstep e b t = b := by unfold fstep; rw [if_neg c]
      rw [es]
      have c' : e ≤ t → ∃ x, b = some x ∧ x ≤ t := fun h => by
        cases b with
        | none => exact absurd (by unfold fok; simp [h]) c
        | some x =>
          refine ⟨x, rfl, ?_⟩
          by_cases z : t < x
          · exact absurd (by unfold fok; simp [h, z]) c
          · omega
      have ih := ffold_spec e ts b hb
      cases q : ts.foldl (fstep e) b with
      | none =>
        rw [q] at ih
        refine ⟨ih.1, fun u hu hue => ?_⟩
        rcases List.mem_cons.mp hu with rfl | hu
        · obtain ⟨x, hx, _⟩ := c' hue
          rw [ih.1] at hx; cases hx
        · exact ih.2 u hu hue
      | some y =>
        rw [q] at ih
        obtain ⟨i1, i2, i3, i4⟩ := ih
        refine ⟨i1, i2.imp id (List.mem_cons_of_mem _), i3, fun u hu hue => ?_⟩
        rcases List.mem_cons.mp hu with rfl | hu
        · obtain ⟨x, hx, hl⟩ := c' hue
          exact Nat.le_trans (i3 x hx) hl
        · exact i4 u hu hue
theorem ffold_eq (e : Nat) (ts : List Nat) : ts.foldl (fstep e) none = smallest (ts.filter fun t => decide (e ≤ t)) := by
  have h := ffold_spec e ts none (by simp)
  cases q : ts.foldl (fstep e) none with
  | none =>
    rw [q] at h
    cases z : smallest (ts.filter fun t => decide (e ≤ t)) with
    | none => rfl
    | some y =>
      obtain ⟨z1, _⟩ := smallest_some z
      rw [List.mem_filter] at z1
      exact absurd (of_decide_eq_true z1.2) (h.2 y z1.1)
  | some y =>
    rw [q] at h
    obtain ⟨i1, i2, i3, i4⟩ := h
    have ym : y ∈ ts := i2.resolve_left (by simp)
    cases z : smallest (ts.filter fun t => decide (e ≤ t)) with
    | none =>
      have := smallest_none z
      have q2 : y ∈ ts.filter fun t => decide (e ≤ t) := by rw [List.mem_filter]; exact ⟨ym, by simpa using i1⟩
      rw [this] at q2; simp at q2
    | some x =>
      obtain ⟨z1, z2⟩ := smallest_some z
      rw [List.mem_filter] at z1
      have a1 := i4 x z1.1 (of_decide_eq_true z1.2)
      have a2 := z2 y (by rw [List.mem_filter]; exact ⟨ym, by simpa using i1⟩)
      exact congrArg some (Nat.le_antisymm a1 a2)

/-! ### the way -/
def wf (ts : Nat → List Nat) : List Nat → Nat → Nat → List (Option Nat)
  | [], _, _ => []
  | x :: l, m, e => match smallest ((ts m).filter fun t => decide (e + x ≤ t)) with
    | none => none :: wf ts l (m + 1) (e + x)
    | some t => some t :: wf ts l (m + 1) t
theorem wf_eq (r : Race) (k : Nat) : ∀ (l : List Nat) (m f n : Nat), wayFrom r k l m f n = wf (timesAt r k) l m (f + n)
  | [], _, _, _ => rfl
  | x :: l, m, f, n => by
    unfold wayFrom wf
    rw [Nat.add_assoc f n x]
    cases smallest ((timesAt r k m).filter fun t => decide (f + (n + x) ≤ t)) with
    | none => show none :: wayFrom r k l (m + 1) f (n + x) = none :: _; rw [wf_eq]
    | some t => exact congrArg (some t :: ·) (wf_eq r k l (m + 1) t 0)
theorem wf_length (ts : Nat → List Nat) : ∀ (l : List Nat) (m e : Nat), (wf ts l m e).length = l.length
  | [], _, _ => rfl
  | x :: l, m, e => by
    unfold wf
    cases smallest ((ts m).filter fun t => decide (e + x ≤ t)) <;> simp [wf_length ts l]
theorem wf_ge (ts : Nat → List Nat) : ∀ (l : List Nat) (m e t : Nat), some t ∈ wf ts l m e → e ≤ t
  | [], _, _, _, h => by cases h
  | x :: l, m, e, t, h => by
    unfold wf at h
    cases q : smallest ((ts m).filter fun t => decide (e + x ≤ t)) with
    | none =>
      rw [q] at h
      rcases List.mem_cons.mp h with z | z
      · cases z
      · have := wf_ge ts l _ _ t z; omega
    | some u =>
      rw [q] at h
      have hu : e + x ≤ u := by
        have := (smallest_some q).1
        rw [List.mem_filter] at this
        exact of_decide_eq_true this.2
      rcases List.mem_cons.mp h with z | z
      · cases z; omega
      · have := wf_ge ts l _ _ t z; omega
/-- the state of the walk behind i mats: the list so far, and what the next is reckoned from -/
def wstep (ts : Nat → List Nat) (m : Nat) (acc : List (Option Nat) × Nat) (x : Nat) : List (Option Nat) × Nat :=
  match smallest ((ts m).filter fun t => decide (acc.2 + x ≤ t)) with
  | none => (acc.1 ++ [none], acc.2 + x)
  | some t => (acc.1 ++ [some t], t)
/-- behind i mats: done, e, with what is left -/
def WDone (ts : Nat → List Nat) (l : List Nat) (b i : Nat) (done : List (Option Nat)) (e : Nat) : Prop := wf ts l 1 b = done ++ wf ts (l.drop i) (1 + i) e
theorem WDone.start (ts : Nat → List Nat) (l : List Nat) (b : Nat) : WDone ts l b 0 [] b := by
  unfold WDone; rfl
theorem WDone.step {ts : Nat → List Nat} {l : List Nat} {b i : Nat} {done : List (Option Nat)} {e x : Nat} (h : WDone ts l b i done e) (hx : l[i]? = some x) :
    WDone ts l b (i + 1) (done ++ [(ts (1 + i)).foldl (fstep (e + x)) none]) (((ts (1 + i)).foldl (fstep (e + x)) none).getD (e + x)) := by
  unfold WDone at h ⊢
  have hd : l.drop i = x :: l.drop (i + 1) := by
    obtain ⟨h1, h2⟩ := List.getElem?_eq_some_iff.mp hx
    rw [← h2]; exact List.drop_eq_getElem_cons h1
  rw [hd] at h
  rw [h, ffold_eq]
  rw [wf]
  cases smallest ((ts (1 + i)).filter fun t => decide (e + x ≤ t)) with
  | none => simp [Nat.add_assoc]
  | some t => simp [Nat.add_assoc]
theorem WDone.all {ts : Nat → List Nat} {l : List Nat} {b : Nat} {done : List (Option Nat)} {e : Nat} (h : WDone ts l b l.length done e) : done = wf ts l 1 b := by
  unfold WDone at h
  rw [h, List.drop_length]
  simp [wf]
theorem WDone.len {ts : Nat → List Nat} {l : List Nat} {b i : Nat} {done : List (Option Nat)} {e : Nat} (h : WDone ts l b i done e) (hi : i ≤ l.length) : done.length = i := by
  unfold WDone at h
  have := congrArg List.length h
  rw [List.length_append, wf_length, wf_length, List.length_drop] at this
  omega
theorem way_eq (r : Race) (k : Nat) : way r k = (gunOf r k).map fun g => (beganAt r k g, wf (timesAt r k) r.least 1 (beganAt r k g)) := by
  unfold way
  cases gunOf r k with
  | none => rfl
  | some g => exact congrArg (fun z => some (beganAt r k g, z)) (wf_eq r k r.least 1 (beganAt r k g) 0)
theorem way_len {r : Race} {k b : Nat} {l : List (Option Nat)} (h : way r k = some (b, l)) : l.length = r.least.length := by
  rw [way_eq] at h
  cases e : gunOf r k with
  | none => rw [e] at h; cases h
  | some g => rw [e] at h; cases h; exact wf_length ..
theorem way_ge {r : Race} {k g b t : Nat} {l : List (Option Nat)} (hg : gunOf r k = some g) (h : way r k = some (b, l)) (ht : some t ∈ l) : g ≤ b ∧ b ≤ t := by
  rw [way_eq, hg] at h
  cases h
  exact ⟨began_ge .., wf_ge _ _ _ _ _ ht⟩
end Mat
end
section
set_option Elab.async false
set_option maxRecDepth 100000
set_option maxHeartbeats 2000000
namespace Mat
open PySem PySem.Spec PyProof.Rows L2

/-! ### the text by places -/
def top (i : Nat) : Stmt := PySem.Challenge.pw_matrace_s01_answers.main.body.getD i (.Pass ⟨0, 0, 0, 0⟩)
abbrev sRunI : Stmt := inClass (top 12) 0
abbrev sRaceI : Stmt := inClass (top 13) 0
abbrev sBad : Stmt := top 14
abbrev sStart : Stmt := top 15
abbrev sGun : Stmt := top 16
abbrev sAddR : Stmt := top 17
abbrev sAddS : Stmt := top 18
abbrev sStruck : Stmt := top 19
abbrev sWayI : Stmt := inClass (top 22) 0
abbrev sBegin : Stmt := top 23
abbrev sFirst : Stmt := top 24
abbrev sWay : Stmt := top 25
abbrev sHasLast : Stmt := top 26
abbrev sMiss : Stmt := top 27
abbrev sOwn : Stmt := top 28
abbrev sGunT : Stmt := top 29
abbrev sFinI : Stmt := inClass (top 38) 0
abbrev sSeen : Stmt := top 39
abbrev sState : Stmt := top 40
abbrev sAllF : Stmt := top 41
abbrev sOfKind : Stmt := top 42
abbrev sOf : Stmt := top 43
abbrev sSplit : Stmt := top 44
abbrev sPlaces : Stmt := top 45
abbrev sRank : Stmt := top 46
abbrev sList : Stmt := top 47
abbrev sEnd : Stmt := top 58
abbrev sTell : Stmt := top 59
abbrev sAsk : Stmt := top 60
abbrev sCall : Stmt := top 61
abbrev sAns : Stmt := top 62

/-! ### values -/
def nV (n : Nat) : V := .int (n : Int)
def oV : Option Nat → V
  | none => .non
  | some n => .int (n : Int)
def dictT (ts : List Nat) : List (Key × V) := ts.map fun (t : Nat) => (Sum.inl (t : Int), V.bl true)

/-! ### attributes -/
def fRun (w q : V) (s : V) (S : V) : List (Str × V) := [("wave", w), ("kind", q), ("struck", s), ("sights", S)]
def fRace (L lack G R n : V) : List (Str × V) := [("least", L), ("lack", lack), ("guns", G), ("runners", R), ("sight_count", n)]
def fWay (g t : V) : List (Str × V) := [("gun", g), ("times", t)]
def fFin (w q o i : V) : List (Str × V) := [("who", w), ("kind", q), ("over_all", o), ("in_kind", i)]

/-! ### a global number; a def, a class of the text as one calls it -/
def GI (mg : Str → Option Value) (x : Str) (n : Int) : Prop := ∃ t, mg x = some (.int n t)
theorem pe_gi {X : Cx} {x : Str} {n : Int} {pos : Pos} (h : GI X.mg x n) (hg : Gl X x := by rfl) (hd : (x == ("__debug__" : Str)) = false := by decide) : PE X (.Name x pos) (tC (.int n)) := by
  obtain ⟨t, h⟩ := h
  exact pe_glob (v := .int n) hg h ⟨t, rfl⟩ hd
structure CallD (P : Program) (w : World) (K : PySem.W.Frag) (mg : Str → Option Value) (base : Heap) (x : Str) (k : Nat) (ps : List Str) (sp : Sp) : Prop where
  ex : ∃ f fd, mg x = some (.ref f) ∧ PySem.W.keepIn K (.ref f) = true ∧ Binds K fd ps [] ∧ FnOk P w K mg base CX0 k f fd ps sp
structure MakeD (P : Program) (w : World) (K : PySem.W.Frag) (mg : Str → Option Value) (base : Heap) (x : Str) (k : Nat) (C : Addr) (ps : List Str) (sp : Sp) : Prop where
  ex : ∃ f fd, mg x = some (.ref C) ∧ Mk K C f ∧ Binds K fd ps [] ∧ FnOk P w K mg base CX0 k f fd ps sp
theorem pe_def {X : Cx} {x : Str} {k : Nat} {ps : List Str} {sp : Sp} {e : Expr} {es : List Expr} {t : TA} {p pos : Pos} (D : CallD X.prog X.w X.K X.mg X.base x k ps sp) (hr : Room k X.A) (ha : PA X (e :: es) t) (hg : Gl X x := by rfl) (hdb : (x == ("__debug__" : Str)) = false := by decide)
    (he : starEach (e :: es) X.env = (false, eval e X.env) :: starEach es X.env := by rfl) (hpl : (backTo pos (starEach es X.env)).any (·.1) = false := by rfl) :
    PE X (.Call (.Name x p) (e :: es) [] pos) (tCall sp [] E0 t) := by
  obtain ⟨f, fd, h1, h2, h3, h4⟩ := D.ex
  exact pe_call h4 hr hg h1 h2 h3 .nil pass0 ha hdb he hpl
theorem pe_mk {X : Cx} {x : Str} {k : Nat} {C : Addr} {ps : List Str} {sp : Sp} {e : Expr} {es : List Expr} {t : TA} {p pos : Pos} (D : MakeD X.prog X.w X.K X.mg X.base x k C ps sp) (hr : Room (k + 1) X.A) (ha : PA X (e :: es) t) (hg : Gl X x := by rfl) (hdb : (x == ("__debug__" : Str)) = false := by decide)
    (he : starEach (e :: es) X.env = (false, eval e X.env) :: starEach es X.env := by rfl) (hpl : (backTo pos (starEach es X.env)).any (·.1) = false := by rfl) :
    PE X (.Call (.Name x p) (e :: es) [] pos) (tMake C sp [] E0 t) := by
  obtain ⟨f, fd, h1, h2, h3, h4⟩ := D.ex
  exact pe_make h2 h4 hr hg h1 h3 .nil pass0 ha hdb he hpl
theorem pe_mk0 {X : Cx} {x : Str} {k : Nat} {C : Addr} {ps : List Str} {sp : Sp} {p pos : Pos} (D : MakeD X.prog X.w X.K X.mg X.base x k C ps sp) (hr : Room (k + 1) X.A) (hg : Gl X x := by rfl) (hdb : (x == ("__debug__" : Str)) = false := by decide) :
    PE X (.Call (.Name x p) [] [] pos) (tMake C sp [] E0 tNil) := by
  obtain ⟨f, fd, h1, h2, h3, h4⟩ := D.ex
  exact pe_make0 h2 h4 hr hg h1 h3 .nil pass0 hdb

/-! ### arithmetic in natural numbers -/
theorem op_addN {X : Cx} : OpR X (binaryOp .Add) (fun x y H Q => ∃ a b : Nat, x = nV a ∧ y = nV b ∧ Q (nV (a + b)) H) := by
  intro pins s σ H x y v u Q I rx ry h
  obtain ⟨a, b, rfl, rfl, q⟩ := h
  refine op_add pins s σ H _ _ v u Q I rx ry ⟨a, b, rfl, rfl, ?_⟩
  have e : V.int ((a : Int) + (b : Int)) = nV (a + b) := by unfold nV; rw [Int.natCast_add]
  show Q (V.int ((a : Int) + (b : Int))) H
  rw [e]
  exact q
theorem op_subN {X : Cx} : OpR X (binaryOp .Sub) (fun x y H Q => ∃ a b : Nat, x = nV a ∧ y = nV b ∧ b ≤ a ∧ Q (nV (a - b)) H) := by
  intro pins s σ H x y v u Q I rx ry h
  obtain ⟨a, b, rfl, rfl, hl, q⟩ := h
  refine op_sub pins s σ H _ _ v u Q I rx ry ⟨a, b, rfl, rfl, ?_⟩
  have e : V.int ((a : Int) - (b : Int)) = nV (a - b) := by unfold nV; rw [Int.ofNat_sub hl]
  show Q (V.int ((a : Int) - (b : Int))) H
  rw [e]
  exact q
/-! ### list.count, flat items -/
section
variable {X : Cx}
theorem countP_eqU {x : V} : ∀ {xs : List V} {us : List Value}, Vals xs us → xs.all flatV = true → us.countP (eqU x) = xs.countP fun y => eqV y x
  | _, _, .nil, _ => rfl
  | y :: xs, u :: us, .cons r t, f => by
    rw [List.all_cons, Bool.and_eq_true] at f
    rw [List.countP_cons, List.countP_cons, eqU_of r f.1, countP_eqU t f.2]
def rCount (K : PySem.W.Frag) : V → List V → Hp → VK → Prop := fun x xs H Q => ∃ (a : Addr) (ys : List V) (y : V), x = V.ref a ∧ xs = [y] ∧ SqL K H a ys ∧ flatV y = true ∧ ys.all flatV = true ∧ Q (.int ((ys.countP fun z => eqV z y : Nat) : Int)) H
theorem mt_countL : MtR X "list.count" (rCount X.K) := by
  intro pins s σ H x xs v us Q I rx rxs h
  obtain ⟨a, ys, y, rfl, rfl, hs, fy, fys, q⟩ := h
  cases rx
  cases rxs with
  | cons ry rt =>
    rename_i uy ut
    cases rt
    obtain ⟨its, rv, ⟨⟨cls, dd, data, sl⟩, n, ho, hc, hdn, hd⟩, hlen⟩ := I.list hs
    simp only at hc hd
    subst hc hd
    refine call_meets PySem.F.slot_list_count ⟨_, ho, rfl⟩ PySem.F.entry_list_count (PySem.F.args_list_count_2 _ _)
      (SeqAt.list_countAt a its.toArray n dd sl uy (eqU y)) ⟨ho, fun u' hu' => mem_eqAt ry fy rv fys u' (by simpa using hu'), ?_⟩
    refine ⟨.int _, H, I.tok _, ⟨_, rfl⟩, ?_⟩
    have e : List.countP (eqU y) its.toArray.toList = ys.countP fun z => eqV z y := by
      rw [← countP_eqU rv fys]
    rw [e]
    exact q
end

/-! ### what of the text one needs -/
structure Txt (K : PySem.W.Frag) (mg : Str → Option Value) (C CR CW CF : Addr) : Prop where
  cC : Cls K C
  cR : Cls K CR
  cW : Cls K CW
  cF : Cls K CF
  nLeast : NoAttr K C "least"
  nLack : NoAttr K C "lack"
  nGuns : NoAttr K C "guns"
  nRuns : NoAttr K C "runners"
  nCount : NoAttr K C "sight_count"
  rWave : NoAttr K CR "wave"
  rKind : NoAttr K CR "kind"
  rStruck : NoAttr K CR "struck"
  rSights : NoAttr K CR "sights"
  wGun : NoAttr K CW "gun"
  wTimes : NoAttr K CW "times"
  fWho : NoAttr K CF "who"
  fKind : NoAttr K CF "kind"
  fOver : NoAttr K CF "over_all"
  fIn : NoAttr K CF "in_kind"
  len : mg "len" = none
  range : mg "range" = none
  enum : mg "enumerate" = none
  list_ : mg "list" = none
  sorted_ : mg "sorted" = none
  gNoRunner : GI mg "NO_RUNNER" (-2)
  gOut : GI mg "OUT_OF_BOUNDS" (-22)
  gNoRoom : GI mg "NO_ROOM" (-28)
  gMostMats : GI mg "MOST_MATS" 8
  gLongest : GI mg "LONGEST_LEAST" 100000000
  gMostLack : GI mg "MOST_LACK" 8
  gLastWave : GI mg "LAST_WAVE" 3
  gLastKind : GI mg "LAST_KIND" 7
  gLastTime : GI mg "LAST_TIME" 86400000
  gMostRun : GI mg "MOST_RUNNERS" 48
  gMostSights : GI mg "MOST_SIGHTS" 1024
  gLatest : GI mg "LATEST_BEGINNING" 3600000
  gNoResult : GI mg "NO_RESULT" (-61)
  gWaiting : GI mg "WAITING" 0
  gUnder : GI mg "UNDER_WAY" 1
  gFinished : GI mg "FINISHED" 2
  gMissing : GI mg "MISSING_TOO_MANY" 3
  gStruck : GI mg "STRUCK_OUT" 4
  gAll : GI mg "ALL_KINDS" 8
  gStart : GI mg "START" 0
  gGun : GI mg "GUN" 1
  gRunner : GI mg "RUNNER" 2
  gSeen : GI mg "SEEN" 3
  gStrike : GI mg "STRIKE" 4
  gOf : GI mg "OF" 5
  gSplit : GI mg "SPLIT" 6
  gRank : GI mg "RANK" 7
  gSizes : ∃ p, mg "CALL_SIZES" = some (.ref p) ∧ ∀ H, SqT K H p ([3, 3, 3, 4, 3, 2, 3, 2, 2].map V.int)

/-! ### the race as it lies -/
structure RLay where
  x : Addr
  dx : Addr
  S : Addr
  ds : List Addr
structure Lay where
  a : Addr
  dx : Addr
  L : Addr
  G : Addr
  R : Addr
  rs : List RLay
structure RunAt (CR : Addr) (H : Hp) (q : RLay) (x : Kyt.Runner) (ts : Nat → List Nat) (n : Nat) : Prop where
  obj : H q.x = some (.ins CR q.dx (fRun (nV x.wave) (nV x.kind) (.bl x.out) (.ref q.S)))
  lst : H q.S = some (.lst (q.ds.map V.ref))
  len : q.ds.length = n + 1
  at_ : ∀ m d, q.ds[m]? = some d → H d = some (.dK (dictT (ts m)))
structure Good (r : Kyt.Race) : Prop where
  ok : Kyt.okLeast r.least = true
  lack : r.lack ≤ 8
  guns : r.guns.length = 4
  run : r.runners.length ≤ 48
  wv : ∀ x ∈ r.runners, x.wave ≤ 3 ∧ x.kind ≤ 7
  sn : r.seen.length ≤ 1024
  sm : ∀ s ∈ r.seen, s.mat ≤ r.least.length ∧ s.who < r.runners.length
theorem okLeast_len {l : List Nat} (h : Kyt.okLeast l = true) : 1 ≤ l.length ∧ l.length ≤ 8 := by
  unfold Kyt.okLeast at h
  simp only [Bool.and_eq_true, decide_eq_true_eq] at h
  exact h.1
structure RaceAt (C CR : Addr) (H : Hp) (l : Lay) (r : Kyt.Race) : Prop where
  good : Good r
  obj : H l.a = some (.ins C l.dx (fRace (.ref l.L) (nV r.lack) (.ref l.G) (.ref l.R) (nV r.seen.length)))
  least : H l.L = some (.lst (r.least.map nV))
  guns : ∃ gs, H l.G = some (.dK gs) ∧ gs.length = r.guns.countP (·.isSome) ∧ ∀ w : Nat, valV gs (Sum.inl (w : Int)) = (r.guns.getD w none).map nV
  runs : H l.R = some (.lst (l.rs.map fun q => V.ref q.x))
  len : l.rs.length = r.runners.length
  at_ : ∀ k q x, l.rs[k]? = some q → r.runners[k]? = some x → RunAt CR H q x (Kyt.timesAt r k) r.least.length
  injX : ∀ (k k' : Nat) (q q' : RLay), l.rs[k]? = some q → l.rs[k']? = some q' → q.x = q'.x → k = k'
  injD : ∀ (k k' : Nat) (q q' : RLay) (m m' : Nat) (d : Addr), l.rs[k]? = some q → l.rs[k']? = some q' → q.ds[m]? = some d → q'.ds[m']? = some d → k = k' ∧ m = m'
  dG : ∀ (k : Nat) (q : RLay) (d : Addr), l.rs[k]? = some q → d ∈ q.ds → d ≠ l.G
  SR : ∀ (k : Nat) (q : RLay), l.rs[k]? = some q → q.S ≠ l.R
theorem RunAt.same {CR : Addr} {H H' : Hp} {q : RLay} {x : Kyt.Runner} {ts : Nat → List Nat} {n : Nat} (h : RunAt CR H q x ts n) (s : Same H H') : RunAt CR H' q x ts n :=
  ⟨s _ _ h.obj, s _ _ h.lst, h.len, fun m d e => s _ _ (h.at_ m d e)⟩
theorem RaceAt.same {C CR : Addr} {H H' : Hp} {l : Lay} {r : Kyt.Race} (h : RaceAt C CR H l r) (s : Same H H') : RaceAt C CR H' l r :=
  ⟨h.good, s _ _ h.obj, s _ _ h.least, let ⟨gs, h1, h2⟩ := h.guns; ⟨gs, s _ _ h1, h2⟩, s _ _ h.runs, h.len, fun k q x e1 e2 => (h.at_ k q x e1 e2).same s, h.injX, h.injD, h.dG, h.SR⟩
theorem RaceAt.runner {C CR : Addr} {H : Hp} {l : Lay} {r : Kyt.Race} (h : RaceAt C CR H l r) {k : Nat} {q : RLay} (e : l.rs[k]? = some q) : ∃ x, r.runners[k]? = some x ∧ RunAt CR H q x (Kyt.timesAt r k) r.least.length := by
  have hk : k < r.runners.length := by rw [← h.len]; exact (List.getElem?_eq_some_iff.mp e).1
  exact ⟨_, List.getElem?_eq_getElem hk, h.at_ k q _ e (List.getElem?_eq_getElem hk)⟩
theorem RaceAt.lay {C CR : Addr} {H : Hp} {l : Lay} {r : Kyt.Race} (h : RaceAt C CR H l r) {k : Nat} (hk : k < r.runners.length) : ∃ q, l.rs[k]? = some q :=
  ⟨_, List.getElem?_eq_getElem (by rw [h.len]; exact hk)⟩
theorem same_upd {H : Hp} {p : Addr} {o : HO} (h : H p = none) : Same H (upd H p o) := fun b u e => by
  rw [upd_ne (ne_of_none e h)]; exact e
end Mat
end
section
set_option Elab.async false
set_option maxRecDepth 100000
set_option maxHeartbeats 2000000
namespace Mat
open PySem PySem.Spec L2
open PyProof.Rows hiding St

theorem upd_back {H : Hp} {d : Addr} {u v : HO} (h : H d = some u) : upd (upd H d v) d u = H := by
  funext b
  by_cases hb : b = d
  · subst hb; rw [upd_same]; exact h.symm
  · rw [upd_ne hb, upd_ne hb]
theorem dictT_len (ts : List Nat) : (dictT ts).length = ts.length := by unfold dictT; rw [List.length_map]
theorem dictT_at {ts : List Nat} {i : Nat} {k : Key} {v : V} (h : (dictT ts)[i]? = some (k, v)) : ∃ t, ts[i]? = some t ∧ k = Sum.inl (t : Int) := by
  unfold dictT at h
  rw [List.getElem?_map] at h
  cases e : ts[i]? with
  | none => rw [e] at h; cases h
  | some t => rw [e] at h; cases h; exact ⟨t, rfl, rfl⟩
/-- over the keys of a locked dict of times, a body that leaves the heap -/
theorem for_keysT {d : Addr} {o : Obj} {ts : List Nat} {g : TG} {tb : TS} {D : Ends} {σ : St} {H : Hp} (hd : H d = some (.frz o (.dK (dictT ts)))) (Pv : Nat → St → Prop) (h0 : Pv 0 σ)
    (hs : ∀ i t σ, ts[i]? = some t → Pv i σ → g (nV t) σ H fun σ2 H2 => tb { D with nx := fun σ' H' => H' = H ∧ Pv (i + 1) σ', ct := fun σ' H' => H' = H ∧ Pv (i + 1) σ', bk := D.nx } σ2 H2)
    (he : ∀ σ, Pv ts.length σ → D.nx σ H) :
    ∃ W : Nat → Nat → St → Hp → Prop, (∃ m, W 0 m σ H) ∧ ∀ i m σ H, W i m σ H →
      ((Itk d o (dictT ts)).stop i H ∧ D.nx σ H) ∨ ((Itk d o (dictT ts)).go i H ∧ ∃ N : St → Hp → Prop, (∀ σ' H', N σ' H' → ∃ m', m' < m ∧ W (i + 1) m' σ' H') ∧ ∀ x H', (Itk d o (dictT ts)).yld i H x H' → g x σ H' fun σ2 H2 => tb { D with nx := N, ct := N, bk := D.nx } σ2 H2) := by
  refine ⟨fun i m σ H' => m = ts.length - i ∧ i ≤ ts.length ∧ H' = H ∧ Pv i σ, ⟨ts.length, by simp, Nat.zero_le _, rfl, h0⟩, ?_⟩
  rintro i m σ H' ⟨rfl, hi, rfl, p⟩
  by_cases hlt : i < ts.length
  · refine .inr ⟨⟨hd, by rw [dictT_len]; exact hlt⟩, fun σ' H' => H' = _ ∧ Pv (i + 1) σ', fun σ' H' ⟨e, p'⟩ => ⟨ts.length - (i + 1), by omega, rfl, hlt, e, p'⟩, fun x H' y => ?_⟩
    obtain ⟨e, k, v, y, ex⟩ := y
    subst e ex
    obtain ⟨t, ht, rfl⟩ := dictT_at y
    exact hs i t σ ht p
  · have e : i = ts.length := by omega
    subst e
    exact .inl ⟨⟨hd, by rw [dictT_len]; exact Nat.le_refl _⟩, he σ p⟩
/-- enumerate(list) from c -/
def IteC (K : PySem.W.Frag) (a : Addr) (c : Nat) (xs : List V) : It :=
  ⟨fun i H => SqL K H a xs ∧ i < xs.length, fun i H v H' => ∃ T x, v = .ref T ∧ H T = none ∧ H' = upd H T (.tup [.int ((c + i : Nat) : Int), x]) ∧ xs[i]? = some x, fun i H => SqL K H a xs ∧ xs.length ≤ i⟩
theorem for_enumC {K : PySem.W.Frag} {a : Addr} {c : Nat} {xs : List V} {g : TG} {tb : TS} {D : Ends} {σ : St} {H : Hp} (Pv : Nat → St → Hp → Prop) (h0 : Pv 0 σ H) (hl : ∀ i σ H, Pv i σ H → SqL K H a xs)
    (hs : ∀ i x T σ H, xs[i]? = some x → H T = none → Pv i σ H → g (.ref T) σ (upd H T (.tup [.int ((c + i : Nat) : Int), x])) fun σ2 H2 => tb { D with nx := Pv (i + 1), ct := Pv (i + 1), bk := D.nx } σ2 H2)
    (he : ∀ σ H, Pv xs.length σ H → D.nx σ H) :
    ∃ W : Nat → Nat → St → Hp → Prop, (∃ m, W 0 m σ H) ∧ ∀ i m σ H, W i m σ H →
      ((IteC K a c xs).stop i H ∧ D.nx σ H) ∨ ((IteC K a c xs).go i H ∧ ∃ N : St → Hp → Prop, (∀ σ' H', N σ' H' → ∃ m', m' < m ∧ W (i + 1) m' σ' H') ∧ ∀ x H', (IteC K a c xs).yld i H x H' → g x σ H' fun σ2 H2 => tb { D with nx := N, ct := N, bk := D.nx } σ2 H2) := by
  refine ⟨fun i m σ H => m = xs.length - i ∧ i ≤ xs.length ∧ Pv i σ H, ⟨xs.length, by simp, Nat.zero_le _, h0⟩, ?_⟩
  rintro i m σ H ⟨rfl, hi, p⟩
  have q := hl i σ H p
  by_cases hlt : i < xs.length
  · refine .inr ⟨⟨q, hlt⟩, Pv (i + 1), fun σ' H' p' => ⟨xs.length - (i + 1), by omega, rfl, hlt, p'⟩, fun x H' y => ?_⟩
    obtain ⟨T, z, rfl, hT, rfl, hz⟩ := y
    exact hs i z T σ H hz hT p
  · have e : i = xs.length := by omega
    subst e
    exact .inl ⟨⟨q, Nat.le_refl _⟩, he σ H p⟩
def iEnumC (K : PySem.W.Frag) (c : Nat) (ta : TA) : TI := fun σ H R => ta σ H fun vs H1 => ∃ a xs, vs = [.ref a] ∧ SqL K H1 a xs ∧ R (IteC K a c xs) H1
theorem turn_C0 {P : Program} {w : World} {K : PySem.W.Frag} {tg : Expr} {a it : Addr} {fp : List Addr} {tn : Nat → Heap → Prop} {xs : List V} (T0 : Turn P w K tg (Ite K a) fp it tn) : Turn P w K tg (IteC K a 0 xs) fp it tn := by
  refine ⟨T0.mem, T0.obj, T0.keep, fun X' h1 h2 h3 h4 i pins' s' σ' H' E I' hf st hgo => ?_, fun X' h1 h2 h3 h4 i pins' s' σ' H' E I' hf st hst => ?_, T0.self⟩
  · obtain ⟨z, hz⟩ : ∃ z, xs[i]? = some z := ⟨_, List.getElem?_eq_getElem hgo.2⟩
    refine thn (T0.item X' h1 h2 h3 h4 i pins' s' σ' H' E I' hf st ⟨xs, z, hgo.1, hz⟩) fun r s2 ⟨u, e1, e2⟩ => ⟨u, e1, thn e2 fun _ s3 ⟨x, H3, I3, r3, y3, t3⟩ => ⟨x, H3, I3, r3, ?_, t3⟩⟩
    obtain ⟨T, x', e3, e4, e5, e6⟩ := y3
    exact ⟨T, x', e3, e4, by rw [e5, Nat.zero_add], e6 xs hgo.1⟩
  · exact T0.done X' h1 h2 h3 h4 i pins' s' σ' H' E I' hf st ⟨xs, hst⟩
/-- the library's walk from 0, as the same -/
theorem pi_enum0 {X : Cx} {e : Expr} {ta : TA} {p pos tpos : Pos} {elts : List Expr} {kk : Nat} (hg : Gl X "enumerate") (hm : X.mg "enumerate" = none) (ha : PA X [e] ta) (hs : starEach [e] X.env = [(false, eval e X.env)] := by rfl) :
    PI X (.Tuple elts kk tpos) (.Call (.Name "enumerate" p) [e] [] pos) (iEnumC X.K 0 ta) := by
  intro pins s σ H R I h
  refine Call_ (ld_blt I hg hm boot_enumerate (PyProof.Rows.callWith_type1 (thn (ha pos pins s σ H _ I h) fun us s1 ⟨vs, H1, I1, r1, q1⟩ => ?_) hs rfl))
  obtain ⟨a, xs, ex, hq, q⟩ := q1
  subst ex
  cases r1 with
  | cons r rr =>
    cases rr
    cases r
    obtain ⟨its, rv, p', hz⟩ := I1.list hq
    refine call_enumerate_list p'.isList fun h' he hit hsz hk => wpAny_pyIter_enum he ?_
    have I2 : Inv X pins σ H1 { s1 with heap := h' } := I1.kept (t' := s1.toks) hk
    have T0 := turn_enum (P := X.prog) (w := X.w) (K := X.K) (elts := elts) (kk := kk) (tpos := tpos) a (s1.heap.objs.size + 1) s1.heap.objs.size
    have T1 := turn_C0 (xs := xs) T0
    refine ⟨s1.heap.objs.size + 1, [s1.heap.objs.size + 1, s1.heap.objs.size], _, _, H1, rfl, I2, T1, ⟨⟨.none, he⟩, hit, Nat.succ_ne_self _⟩, fun b hb => ?_, q⟩
    have e' : b = s1.heap.objs.size + 1 ∨ b = s1.heap.objs.size := by simpa using hb
    have hle : s1.heap.objs.size ≤ b := by
      rcases e' with z | z
      · rw [z]; exact Nat.le_add_right _ _
      · rw [z]; exact Nat.le_refl _
    exact I1.fpOk hle (I1.hok.fresh hle)
end Mat
end
section
set_option Elab.async false
set_option maxRecDepth 100000
set_option maxHeartbeats 2000000
namespace Mat
open PySem PySem.Spec L2
open PyProof.Rows hiding St

/-! ### a builtin type called with keywords -/
section
variable {M : Model} {A : Around} {E : Value → Shared → Prop} {s : Shared} {env : Env}
theorem callWith_typeKB {pos : Pos} {T : String} {first : List Value} {args : List (Bool × Sem Value)} {keywords : List (Option Str × Sem Value)} {Q : Value → Shared → Prop}
    (hplain : args.any (·.1) = false) (hkw : keywords.any (·.1.isNone) = false)
    (h : wpAny M A (evalArgs (.type T) true args keywords) (fun a s₁ => wpAny M A (call (.type T) (first ++ a.pos) a.kw) Q E s₁) E s) :
    wpAny M A (callWith pos (.type T) first args keywords) Q E s := by
  unfold callWith
  refine wpAny_bind (wpAny_holding (wpAny_mono h (fun a s₁ h₁ => wpAny_bind (wpAny_standAt ?_)) fun _ _ x => x))
  simp only [hplain, hkw, Bool.or_false]
  refine wpAny_bind (wpAny_pure ?_)
  exact wpAny_bind (wpAny_mono h₁ (fun r s₂ hr => wpAny_bind (wpAny_holding (wpAny_point (wpAny_pure hr)))) fun _ _ x => x)
theorem callWith_typeK {pos : Pos} {T : String} {e : Expr} {rest : List Expr} {kws : List Keyword} {Q : Value → Shared → Prop}
    (h : wpAny M A (spliced (backTo pos (starEach (e :: rest) env))) (fun vs s₁ => wpAny M A (evalAll ((backToKw pos (keywordEach kws env)).map (·.2)))
      (fun kvs s₂ => wpAny M A (call (.type T) vs (((backToKw pos (keywordEach kws env)).filterMap (·.1)).zip kvs)) Q E s₂) E s₁) E s)
    (he : backTo pos (starEach (e :: rest) env) = (false, eval e env) :: backTo pos (starEach rest env) := by rfl)
    (hplain : (backTo pos (starEach (e :: rest) env)).any (·.1) = false := by rfl)
    (hall : (backToKw pos (keywordEach kws env)).all (·.1.isSome) = true := by rfl)
    (hkw : (backToKw pos (keywordEach kws env)).any (·.1.isNone) = false := by rfl) :
    wpAny M A (callWith pos (.type T) [] (backTo pos (starEach (e :: rest) env)) (backToKw pos (keywordEach kws env))) Q E s := by
  refine callWith_typeKB hplain hkw ?_
  rw [he] at h ⊢
  exact evalArgs_kwB hall h
end
section
variable {prog : Program} {w : World} {A : Around} {E : Value → Shared → Prop} {s : Shared}
theorem callType_meetsK {T newId initId : String} {Bn Bi : Builtin} {args : List Value} {kw : List (Str × Value)} {S : PySem.Spec} {Q Q₁ : Value → Shared → Prop} (ft : TypeCalled T newId initId)
    (hct : checkTypeCall T ⟨args, kw⟩ = pure ()) (hcn : checkBuiltinCall newId ⟨.type T :: args, kw⟩ = pure ())
    (entryN : entryFor table newId = some Bn) (entryI : entryFor table initId = some Bi) (g : Meets (Bn ⟨.type T :: args, kw⟩) S)
    (h : S A.in1 (wants Q₁ E) s)
    (hnext : ∀ obj s₁, Q₁ obj s₁ → s₁.TypeIs obj T ∧ argsOk initId ⟨obj :: args, kw⟩ ∧ ∃ Si, Meets (Bi ⟨obj :: args, kw⟩) Si ∧ Si A.in1 (wants (fun r s₂ => r = .none ∧ Q obj s₂) E) s₁) :
    wpAny (model prog w) A (call (.type T) args kw) Q E s := by
  obtain ⟨c, tl, hmro⟩ := ft.mro
  have hmade := ft.made
  have hsub := ft.sub
  refine wpAny_call (codeAny_of_tree ?_)
  show wpAny _ _ (callAny (.type T) _) _ _ _
  refine wpAny_pure ⟨Code.quiet_builtin _ (by decide +kernel), codeAny_builtin F.entry_type_call ?_⟩
  rw [Around.under_plain (weight_type_call_type T args kw) (units_type_call_type T args kw)]
  have h1 := ft.notType
  have h2 := ft.canCreate
  repeat (any_goals (first | assumption | wp_step))
  refine codeAny_mono (codeAny_call_builtin ft.plain entryN (wpAny_of_eq hcn (g prog w A.in1 _ s h))) fun r s₁ hr => ?_
  cases r with
  | error e => exact hr
  | ok fl =>
    cases fl with
    | ret obj =>
      obtain ⟨hT, hok, Si, gi, hsi⟩ := hnext _ _ hr
      have hli := ft.init.lookup
      have hbi := ft.init.bind obj
      repeat (any_goals (first | assumption | wp_step))
      refine codeAny_mono (codeAny_call_builtin ft.init.plain entryI (ft.init.check _ _ _ _ _ _ _ _ hT hok (gi prog w A.in1 _ s₁ hsi))) fun r₂ s₂ hr₂ => ?_
      cases r₂ with
      | error e => exact hr₂
      | ok fl₂ =>
        cases fl₂ with
        | ret r =>
          obtain ⟨rfl, hq⟩ := hr₂
          repeat (any_goals (first | assumption | wp_step))
        | _ => exact hr₂.elim
    | _ => exact hr.elim
theorem object_init_meetsK {T newId : String} {self : Value} {a : Value} {rest : List Value} {kw : List (Str × Value)} (hl : typeLookup (.type T) "__init__" = pure (some (.builtin "object.__init__")))
    (hm : Bind.madeBy (.type T) = pure (some newId)) (hne : (some newId != some "object.__new__") = true) :
    Meets (Builtin.«object.__init__» ⟨self :: a :: rest, kw⟩) (fun _ R s => s.TypeIs self T ∧ R (.ok (.ret .none)) s) := by
  refine Meets.of_wp fun prog w A R s hs => ?_
  obtain ⟨hT, hq⟩ := hs
  repeat (any_goals (first | assumption | wp_step))
  exact ⟨_, rfl, hq⟩
end

/-! ### enumerate(list, start=1) -/
theorem typeCall_enumK (a v : Value) : checkTypeCall "enumerate" ⟨[a], [(Str.ofString "start", v)]⟩ = pure () := by kernel_rfl
theorem newCall_enumK (a v : Value) : checkBuiltinCall "enumerate.__new__" ⟨[.type "enumerate", a], [(Str.ofString "start", v)]⟩ = pure () := by kernel_rfl
theorem init_enumK (a b v : Value) : argsOk "object.__init__" ⟨[a, b], [(Str.ofString "start", v)]⟩ := by
  unfold argsOk; rw [signature?_of (id := "object.__init__") (n := ['_', '_', 't', 'i', 'n', 'i', '_', '_']) (o := ['t', 'c', 'e', 'j', 'b', 'o']) (by kernel_rfl) F.owner_object]; kernel_rfl
open AutoSeq1 (wpAny_loadPart') in
theorem meets_enum1 (l : Addr) (items : Array Value) (n : Nat) (dct : Option Addr) (sl : Array (Option Value)) (t : Tok) :
    Meets (Builtin.«enumerate.__new__» ⟨[.type "enumerate", .ref l], [(Str.ofString "start", .int 1 t)]⟩) (fun _ R s => s.heap.get? l = some { cls := .type "list", dict := dct, data := .seq items n, slots := sl } ∧
      R (.ok (.ret (.ref (s.heap.push { cls := .type "list_iterator", data := .fields #[.ref l, .int 0 0] }).objs.size)))
        { s with heap := (s.heap.push { cls := .type "list_iterator", data := .fields #[.ref l, .int 0 0] }).push { cls := .type "enumerate", data := .fields #[.none, .bool false, .ref s.heap.objs.size, rawInt 1, .none, .none] } }) :=
  .of_wp fun prog w A R s h => by
    obtain ⟨hp, g, d, tk, os⟩ := s; obtain ⟨hl, h⟩ := h
    have hsub := sub_enumerate
    have hL : Heap.IsList (Shared.heap ⟨hp, g, d, tk, os⟩) l items := ⟨_, hl, rfl, n, rfl⟩
    wp_walk using wpAny_loadPart' hl
    refine wpAny_stack_any fun st => wpAny_pure ?_
    split
    · rename_i c _ _ _ _ _
      cases (c == Value.type "enumerate")
      · wp_walk using wpAny_loadPart' hl, wpAny_pyIter_list hL
        exact ⟨_, rfl, h⟩
      · wp_walk using wpAny_loadPart' hl, wpAny_pyIter_list hL
        exact ⟨_, rfl, h⟩
    · wp_walk using wpAny_loadPart' hl, wpAny_pyIter_list hL
      exact ⟨_, rfl, h⟩
section
variable {prog : Program} {w : World} {A : Around} {E : Value → Shared → Prop} {s : Shared}
theorem call_enum1_list {l : Addr} {items : Array Value} {t : Tok} {Q : Value → Shared → Prop} (hL : s.heap.IsList l items)
    (h : ∀ h', IsEnum h' (s.heap.objs.size + 1) s.heap.objs.size 1 .none → h'.IsListIter s.heap.objs.size l 0 → h'.objs.size = s.heap.objs.size + 2 →
      (∀ b o, s.heap.get? b = some o → h'.get? b = some o) → Q (.ref (s.heap.objs.size + 1)) { s with heap := h' }) :
    wpAny (model prog w) A (call (.type "enumerate") [.ref l] [(Str.ofString "start", .int 1 t)]) Q E s := by
  obtain ⟨⟨c, dct, dt, sl⟩, hl, hc, n, hd⟩ := hL
  replace hc : c = .type "list" := hc
  replace hd : dt = .seq items n := hd
  subst hc hd
  refine callType_meetsK F.called_enumerate (typeCall_enumK _ _) (newCall_enumK _ _) F.entry_enumerate_new F.entry_object_init (meets_enum1 l items n dct sl t) (Q₁ := fun obj s₁ => s₁.TypeIs obj "enumerate" ∧ Q obj s₁) ⟨hl, ?_⟩
    (fun obj s₁ hq => ⟨hq.1, init_enumK _ _ _, _, object_init_meetsK F.called_enumerate.init.lookup F.called_enumerate.made (by decide), hq.1, rfl, hq.2⟩)
  have hz : (s.heap.push { cls := .type "list_iterator", data := .fields #[.ref l, .int 0 0] }).objs.size = s.heap.objs.size + 1 := Heap.size_push ..
  show _ ∧ _
  rw [hz]
  have he : IsEnum ((s.heap.push { cls := .type "list_iterator", data := .fields #[.ref l, .int 0 0] }).push
      { cls := .type "enumerate", data := .fields #[.none, .bool false, .ref s.heap.objs.size, rawInt 1, .none, .none] }) (s.heap.objs.size + 1) s.heap.objs.size 1 .none := by
    have := Heap.get?_push_size (s.heap.push { cls := .type "list_iterator", data := .fields #[.ref l, .int 0 0] })
      (o := { cls := .type "enumerate", data := .fields #[.none, .bool false, .ref s.heap.objs.size, rawInt 1, .none, .none] }) rfl
    rw [hz] at this; exact this
  refine ⟨⟨_, he, rfl⟩, h _ he ⟨_, Heap.get?_push_of_some _ (Heap.get?_push_size _ rfl), rfl, rfl⟩ (by rw [Heap.size_push, hz]) fun b o x => Heap.get?_push_of_some _ (Heap.get?_push_of_some _ x)⟩
end
/-! ### one turn of an enumerate whose count stands at j while its list stands at i -/
section
variable {prog : Program} {w : World} {A : Around} {E : Value → Shared → Prop} {s : Shared}
theorem enumC_body {e it l : Addr} {i : Nat} {j : Int} {items : Array Value} {x old : Value} {Q : Value → Shared → Prop}
    (he : IsEnum s.heap e it j old) (hit : s.heap.IsListIter it l i) (hl : s.heap.IsList l items) (hx : items[i]? = some x) (hne : e ≠ it)
    (hQ : ∀ h', IsEnumOut h' e it (j + 1) x s.heap.objs.size → h'.IsListIter it l (i + 1) →
      h'.get? s.heap.objs.size = some { cls := .type "tuple", data := .seq #[.int j s.toks, x] } → h'.objs.size = s.heap.objs.size + 1 →
      (∀ b o, b ≠ e → b ≠ it → s.heap.get? b = some o → h'.get? b = some o) → Q (.ref s.heap.objs.size) { s with heap := h', toks := s.toks + 1 }) :
    wpAny (model prog w) A (Builtin.«enumerate.__next__» ⟨[.ref e], []⟩) (fun fin s' => ∃ v, fin = .done (.ret v) ∧ Q v s') E s := by
  obtain ⟨hp, gs, dr, tk, os⟩ := s
  have hel : e < hp.objs.size := Heap.lt_size he
  show wpAny _ _ (field (.ref e) 2 >>= _) _ _ _
  refine wpAny_bind (wpAny_field he rfl (x := .ref it) rfl (wpAny_bind (wpAny_nextOf_list_item hit hl hx fun g1 it1 sb1 => ?_)))
  have sb1 : Heap.SameBut it hp g1 := sb1
  have e1 : IsEnum g1 e it j old := (sb1.2 e hne).trans he
  show wpAny _ _ (field (.ref e) 3 >>= _) _ _ ⟨g1, gs, dr, tk, os⟩
  refine wpAny_bind (wpAny_field e1 rfl (x := rawInt j) rfl ?_)
  show wpAny _ _ (field (.ref e) 4 >>= _) _ _ ⟨g1, gs, dr, tk, os⟩
  refine wpAny_bind (wpAny_field e1 rfl (x := .none) rfl ?_)
  show wpAny _ _ (mkInt j >>= _) _ _ ⟨g1, gs, dr, tk, os⟩
  refine wpAny_bind (wpAny_mkInt ?_)
  show wpAny _ _ (setField (.ref e) 3 (rawInt (j + 1)) >>= _) _ _ ⟨g1, gs, dr, tk + 1, os⟩
  refine wpAny_bind (wpAny_setField_rec e1 (by simp) fun g2 e2 sb2 => ?_)
  have sb2 : Heap.SameBut e g1 g2 := sb2
  have e2 : IsEnum g2 e it (j + 1) old := e2
  show wpAny _ _ (setField (.ref e) 4 .none >>= _) _ _ ⟨g2, gs, dr, tk + 1, os⟩
  refine wpAny_bind (wpAny_setField_rec e2 (by simp) fun g3 e3 sb3 => ?_)
  have sb3 : Heap.SameBut e g2 g3 := sb3
  have e3 : IsEnum g3 e it (j + 1) old := e3
  show wpAny _ _ (newTuple [.int j tk, x] >>= _) _ _ ⟨g3, gs, dr, tk + 1, os⟩
  refine wpAny_bind (wpAny_newTuple ?_)
  have z3 : g3.objs.size = hp.objs.size := by rw [sb3.1, sb2.1, sb1.1]
  obtain ⟨g4, hg4⟩ : ∃ g4, g4 = g3.push { cls := .type "tuple", data := .seq #[.int j tk, x] } := ⟨_, rfl⟩
  have e4 : IsEnum g4 e it (j + 1) old := by rw [hg4]; exact Heap.get?_push_of_some _ e3
  have t4 : g4.get? hp.objs.size = some { cls := .type "tuple", data := .seq #[.int j tk, x] } := by rw [hg4, ← z3]; exact Heap.get?_push_size _ rfl
  have z4 : g4.objs.size = hp.objs.size + 1 := by rw [hg4, Heap.size_push, z3]
  have k4 : ∀ b o, b ≠ e → b ≠ it → hp.get? b = some o → g4.get? b = some o := fun b o n1 n2 q => by
    rw [hg4]
    exact Heap.get?_push_of_some _ (sb3.extBut b o n1 (sb2.extBut b o n1 (sb1.extBut b o n2 q)))
  have it4 : g4.IsListIter it l (i + 1) := by
    obtain ⟨o, ho, r⟩ := (it1.extBut sb2.extBut hne.symm).extBut sb3.extBut hne.symm
    rw [hg4]
    exact ⟨o, Heap.get?_push_of_some _ ho, r⟩
  show wpAny _ _ (Builtin.SmallTypes.ownedTupleIsFree (.ref e) >>= _) _ _ ⟨g3.push _, gs, dr, tk + 1, os⟩
  rw [z3, ← hg4]
  unfold Builtin.SmallTypes.ownedTupleIsFree
  refine wpAny_bind (wpAny_bind (wpAny_field e4 rfl (x := .none) rfl (wpAny_pure ?_)))
  simp only [if_true]
  refine wpAny_bind (wpAny_rule (wpAny_bind (wpAny_field e4 rfl (x := old) rfl (wpAny_bind (wpAny_setField_rec e4 (by simp) fun g5 e5 sb5 => ?_)))))
  have sb5 : Heap.SameBut e g4 g5 := sb5
  have e5 : IsEnum g5 e it (j + 1) x := e5
  show wpAny _ _ (Builtin.SmallTypes.ownedTupleHandOut (.ref e) (.ref hp.objs.size) >>= _) _ _ ⟨g5, gs, dr, tk + 1, os⟩
  unfold Builtin.SmallTypes.ownedTupleHandOut
  refine wpAny_bind (wpAny_bind (wpAny_setField_rec e5 (by simp) fun g6 e6 sb6 => ?_))
  have sb6 : Heap.SameBut e g5 g6 := sb6
  have e6 : IsEnumOut g6 e it (j + 1) x hp.objs.size := e6
  refine wpAny_setField_rec e6 (by simp) fun g7 e7 sb7 => ?_
  have sb7 : Heap.SameBut e g6 g7 := sb7
  have e7 : IsEnumOut g7 e it (j + 1) x hp.objs.size := e7
  have up : ∀ b o, b ≠ e → g4.get? b = some o → g7.get? b = some o := fun b o n q => sb7.extBut b o n (sb6.extBut b o n (sb5.extBut b o n q))
  refine wpAny_bind (wpAny_letGo (wpAny_pure ⟨_, rfl, hQ g7 e7 (it4.at fun o q => up _ _ hne.symm q) (up _ _ (Nat.ne_of_gt hel) t4) (by rw [sb7.1, sb6.1, sb5.1, z4]) fun b o n1 n2 q => up b o n1 (k4 b o n1 n2 q)⟩))
theorem pyNext_enumC {e it l : Addr} {i : Nat} {j : Int} {items : Array Value} {x old : Value} {Q : Option Value → Shared → Prop}
    (he : IsEnum s.heap e it j old) (hit : s.heap.IsListIter it l i) (hl : s.heap.IsList l items) (hx : items[i]? = some x) (hne : e ≠ it)
    (hQ : ∀ h', IsEnumOut h' e it (j + 1) x s.heap.objs.size → h'.IsListIter it l (i + 1) →
      h'.get? s.heap.objs.size = some { cls := .type "tuple", data := .seq #[.int j s.toks, x] } → h'.objs.size = s.heap.objs.size + 1 →
      (∀ b o, b ≠ e → b ≠ it → s.heap.get? b = some o → h'.get? b = some o) → Q (some (.ref s.heap.objs.size)) { s with heap := h', toks := s.toks + 1 }) :
    wpAny (model prog w) A (pyNext (.ref e)) Q E s := by
  have tyE : s.TypeIs (.ref e) "enumerate" := ⟨_, he, rfl⟩
  unfold pyNext
  exact wpAny_bind (wpAny_attempt (wpAny_callSpecial?_slot (name := Str.ofString "__next__") tyE F.slot_enumerate_next (wpAny_call_entry F.slot_enumerate_next tyE F.entry_enumerate_next
    (enumC_body he hit hl hx hne fun h' a b c d k => wpAny_pure (hQ h' a b c d k)) (F.args_enumerate_next_1 _))))
theorem pyNext_enumC_end {e it l : Addr} {i : Nat} {j : Int} {items : Array Value} {old : Value} {Q : Option Value → Shared → Prop} (hh : A.handled = none)
    (he : IsEnum s.heap e it j old) (hit : s.heap.IsListIter it l i) (hl : s.heap.IsList l items) (hx : items[i]? = none)
    (hQ : ∀ h', Heap.ExtBut it s.heap h' → Q none { s with heap := h' }) : wpAny (model prog w) A (pyNext (.ref e)) Q E s := by
  have tyE : s.TypeIs (.ref e) "enumerate" := ⟨_, he, rfl⟩
  unfold pyNext
  refine wpAny_bind (wpAny_attempt (wpAny_callSpecial?_slot (name := Str.ofString "__next__") tyE F.slot_enumerate_next (wpAny_call_entry F.slot_enumerate_next tyE F.entry_enumerate_next ?_ (F.args_enumerate_next_1 _))))
  show wpAny _ _ (field (.ref e) 2 >>= _) _ _ _
  refine wpAny_bind (wpAny_field he rfl (x := .ref it) rfl (wpAny_bind (wpAny_nextOf_list_end hh hit hl hx fun h' x he' hx' => ?_)))
  obtain ⟨o, ho, hc⟩ := hx'
  exact wpAny_bind (wpAny_isInstance (T := "StopIteration") (b := true) ⟨o, ho, hc⟩ isSubtype_stop (wpAny_pure (hQ _ he')))
end
/-- the walk from 1 -/
theorem turn_C1 {P : Program} {w : World} {K : PySem.W.Frag} {elts : List Expr} {kk : Nat} {tpos : Pos} (a e it : Addr) (ys : List V) :
    Turn P w K (.Tuple elts kk tpos) (IteC K a 1 ys) [e, it] e (fun i h => (∃ old, IsEnum h e it ((1 + i : Nat) : Int) old) ∧ h.IsListIter it a i ∧ e ≠ it) where
  mem := by simp
  obj := fun i h st b hb => by
    obtain ⟨⟨old, he⟩, ⟨o, ho, hc, hd⟩, _⟩ := st
    have e' : b = e ∨ b = it := by simpa using hb
    rcases e' with z | z
    · rw [z]; exact ⟨_, he, fun v q => nomatch q⟩
    · rw [z]; exact ⟨o, ho, fun v q => by rw [hd] at q; cases q⟩
  keep := fun i h h' st k => let ⟨⟨old, he⟩, hi, hne⟩ := st; ⟨⟨old, k e (by simp) _ he⟩, hi.at fun o q => k it (by simp) o q, hne⟩
  item := by
    intro X hP hw hK hc i pins s σ H E I hf st hg
    subst hP hw hK
    obtain ⟨⟨old, he⟩, hit, hne⟩ := st
    obtain ⟨hq, hlt⟩ := hg
    obtain ⟨x, hx⟩ : ∃ x, ys[i]? = some x := ⟨_, List.getElem?_eq_getElem hlt⟩
    obtain ⟨its, rv, p, hz⟩ := I.list hq
    obtain ⟨u, hu, ru⟩ := rv.get hx
    have hel : e < s.heap.objs.size := Heap.lt_size he
    have hil : it < s.heap.objs.size := by obtain ⟨_, q, _⟩ := hit; exact Heap.lt_size q
    refine pyNext_enumC he hit p.isList (x := u) (by simpa using hu) hne fun h' ho hit' hT hsz hk => ?_
    refine ⟨_, rfl, wpAny_letOwnedTupleGo_enum (s := { s with heap := h', toks := s.toks + 1 }) ho fun h'' he' sb => ?_⟩
    have hT2 : h''.get? s.heap.objs.size = some { cls := .type "tuple", data := .seq #[.int ((1 + i : Nat) : Int) s.toks, u] } := (sb.2 _ (Nat.ne_of_gt hel)).trans hT
    have new : ObjOk X.prog X.w (upd H s.heap.objs.size (.tup [.int ((1 + i : Nat) : Int), x])) h'' s.heap.objs.size (.tup [.int ((1 + i : Nat) : Int), x]) :=
      ⟨by show 2 ≤ sizeLine; decide, [.int ((1 + i : Nat) : Int) s.toks, u], .cons ⟨_, rfl⟩ (.cons ru .nil), ⟨_, hT2, rfl, _, rfl⟩⟩
    have I1 : Inv X pins σ (upd H s.heap.objs.size (.tup [.int ((1 + i : Nat) : Int), x])) { s with heap := h'', toks := s.toks + 1 } :=
      I.turnedNew (ch := [e, it]) (fun b ob hb q => (sb.2 b (fun z => hb (by simp [z]))).trans (hk b ob (fun z => hb (by simp [z])) (fun z => hb (by simp [z])) q)) hf (Nat.le_refl _) new
    refine ⟨.ref s.heap.objs.size, _, I1, rfl, ⟨_, x, rfl, I.hok.fresh (Nat.le_refl _), rfl, hx⟩, ⟨⟨u, ?_⟩, hit'.at fun o q => (sb.2 it (Ne.symm hne)).trans q, hne⟩, fun b hb => ?_⟩
    · have e1 : ((1 + (i + 1) : Nat) : Int) = ((1 + i : Nat) : Int) + 1 := by omega
      rw [e1]; exact he'
    · have hb' : b < s.heap.objs.size := by
        have e' : b = e ∨ b = it := by simpa using hb
        rcases e' with z | z
        · rw [z]; exact hel
        · rw [z]; exact hil
      rw [upd_ne (Nat.ne_of_lt hb')]
      exact (hf b hb).1
  done := by
    intro X hP hw hK hc i pins s σ H E I hf st hg
    subst hP hw hK
    obtain ⟨⟨old, he⟩, hit, hne⟩ := st
    obtain ⟨hq, hx⟩ := hg
    obtain ⟨its, rv, p, hz⟩ := I.list hq
    obtain ⟨f0, f1, f2, f3, f4, f5⟩ := hf it (by simp)
    have hl := rv.length
    exact pyNext_enumC_end (I.ok.hd hc) he hit p.isList (by simp; omega) fun h' eb => ⟨rfl, I.turned (t' := s.toks) (fun b o hb q => eb b o hb q) f0 f1 f3 f4 f5⟩
  self := fun A i s Q E st h => let ⟨⟨_, he⟩, _⟩ := st; wpAny_pyIter_enum he h
theorem pi_enum1 {X : Cx} {e : Expr} {ta : TA} {p pos tpos cpos kpos : Pos} {elts : List Expr} {kk j : Nat} (hg : Gl X "enumerate") (hm : X.mg "enumerate" = none) (ha : PA X [e] ta) (hs : starEach [e] X.env = [(false, eval e X.env)] := by rfl) :
    PI X (.Tuple elts kk tpos) (.Call (.Name "enumerate" p) [e] [⟨some "start", .Constant (.int 1) j cpos, kpos⟩] pos) (iEnumC X.K 1 ta) := by
  intro pins s σ H R I h
  refine wpAny_Call_Name_kw (ld_blt I hg hm boot_enumerate ?_)
  refine callWith_typeK (kws := [⟨some "start", .Constant (.int 1) j cpos, kpos⟩]) (thn (ha pos pins s σ H _ I h) fun us s1 ⟨vs, H1, I1, r1, q1⟩ => ?_) (by rw [hs]; rfl) (by rw [hs]; rfl) rfl rfl
  refine kws_cons (wpAny_Constant_int (kws_nil ?_))
  obtain ⟨a, xs, ex, hq, q⟩ := q1
  subst ex
  cases r1 with
  | cons r rr =>
    cases rr
    cases r
    have I1' := I1.tok (s1.toks + 1)
    obtain ⟨its, rv, p', hz⟩ := I1'.list hq
    refine call_enum1_list (s := { s1 with toks := s1.toks + 1 }) p'.isList fun h' he hit hsz hk => wpAny_pyIter_enum he ?_
    have I2 : Inv X pins σ H1 { s1 with heap := h', toks := s1.toks + 1 } := I1.kept (t' := s1.toks + 1) hk
    refine ⟨s1.heap.objs.size + 1, [s1.heap.objs.size + 1, s1.heap.objs.size], _, _, H1, rfl, I2, turn_C1 a (s1.heap.objs.size + 1) s1.heap.objs.size xs, ⟨⟨.none, he⟩, hit, Nat.succ_ne_self _⟩, fun b hb => ?_, q⟩
    have e' : b = s1.heap.objs.size + 1 ∨ b = s1.heap.objs.size := by simpa using hb
    have hle : s1.heap.objs.size ≤ b := by
      rcases e' with z | z
      · rw [z]; exact Nat.le_add_right _ _
      · rw [z]; exact Nat.le_refl _
    exact I1.fpOk hle (I1.hok.fresh hle)
end Mat
end
section
set_option Elab.async false
set_option maxRecDepth 100000
set_option maxHeartbeats 2000000
namespace Mat
open PySem PySem.Spec L2
open PyProof.Rows hiding St
section
variable {P : Program} {w : World} {K : PySem.W.Frag} {mg : Str → Option Value} {base : Heap} {C CR CW CF : Addr}

def spWayI (CW : Addr) : Sp := fun vs H Q _ => ∃ (p dx : Addr) (g t : V), vs = [.ref p, g, t] ∧ H p = some (.ins CW dx []) ∧ ∀ H' : Hp, H' p = some (.ins CW dx (fWay g t)) → (∀ b o, H b = some o → b ≠ p → H' b = some o) → Q .non H'
theorem scWayI : FnScope ["self", "gun", "times"] ["self", "gun", "times"] (defScope sWayI) := ⟨rfl, rfl, rfl, by decide +kernel, rfl, by decide +kernel, by decide +kernel⟩
theorem ok_wayI {f : Addr} {fd : FuncData} (F : Fun K "__init__" "Way.__init__" sWayI f fd) (T : Txt K mg C CR CW CF) : FnOk P w K mg base CX0 1 f fd ["self", "gun", "times"] (spWayI CW) := by
  refine F.ok scWayI (fun vs H Q E h => ?_) (fun cdv A outer s H vs Q E hr h => ?_)
  · obtain ⟨p, dx, g, t, rfl, _⟩ := h
    rfl
  · obtain ⟨p, dx, g, t, rfl, hp, k⟩ := h
    refine ⟨_, pss_cons (ps_fld (pv 0) (pv 1) rfl) (pss_one (ps_fld (pv 0) (pv 2) rfl)), ?_⟩
    refine ⟨_, rfl, _, rfl, p, CW, dx, [], rfl, hp, T.cW, T.wGun, (by decide), ?_⟩
    refine ⟨_, rfl, _, rfl, p, CW, dx, _, rfl, upd_same, T.cW, T.wTimes, (by show 1 < 1000; decide), ?_⟩
    exact k _ upd_same fun b o e hb => by rw [upd_ne hb, upd_ne hb]; exact e

def spBegin : Sp := fun vs H Q _ => ∃ (g : Nat) (d : Addr) (ts : List Nat), vs = [nV g, .ref d] ∧ H d = some (.dK (dictT ts)) ∧ Q (nV (ts.foldl (bstep g) g)) H
theorem scBegin : FnScope ["gun", "start_times", "began", "time"] ["gun", "start_times"] (defScope sBegin) := ⟨rfl, rfl, rfl, by decide +kernel, rfl, by decide +kernel, by decide +kernel⟩
theorem ok_begin {f : Addr} {fd : FuncData} (F : Fun K "find_beginning" "find_beginning" sBegin f fd) (T : Txt K mg C CR CW CF) : FnOk P w K mg base CX0 1 f fd ["gun", "start_times"] spBegin := by
  refine F.ok scBegin (fun vs H Q E h => ?_) (fun cdv A outer s H vs Q E hr h => ?_)
  · obtain ⟨g, d, ts, rfl, _⟩ := h
    rfl
  · obtain ⟨g, d, ts, rfl, hd, k⟩ := h
    refine ⟨_, pss_cons (ps_set (i := 2) scBegin.nd rfl (Or.inl rfl) (pv 0)) (pss_cons (ps_lock (ps_for PassesOwn.never rfl (pi_keys (pv 1)) (pg_name (i := 3) scBegin.nd rfl (Or.inl rfl))
      (pss_one (ps_if (pw_and (pt_cmpR op_gt (pv 3) (pv 2) (nomark _)) (pw_and1 (pt_cmpR op_le (pv 3) (pe_op op_add (pv 0) (pe_gi T.gLatest)) (nomark _)))).pt
        (pss_one (ps_set (i := 2) scBegin.nd rfl (Or.inl rfl) (pv 3))) pss_nil)))) (pss_one (ps_ret (pv 2)))), ?_⟩
    refine ⟨_, rfl, d, _, hd, trivial, fun od => ?_⟩
    refine ⟨_, rfl, d, od, rfl, .inl ⟨_, upd_same, for_keysT upd_same (fun i σ => ∃ v3 : Option V, σ = [some (nV g), some (.ref d), some (nV ((ts.take i).foldl (bstep g) g)), v3]) ⟨none, rfl⟩ ?_ ?_⟩⟩
    · rintro i t σ ht ⟨v3, rfl⟩
      have et : (ts.take (i + 1)).foldl (bstep g) g = bstep g ((ts.take i).foldl (bstep g) g) t := by rw [take_snoc ht, List.foldl_append]; rfl
      have hl : Kyt.late = 3600000 := rfl
      generalize (ts.take i).foldl (bstep g) g = b at et
      refine ⟨_, rfl, _, rfl, _, _, rfl, rfl, _, rfl, ite2 (fun h1 => ?_) (fun h1 => ?_)⟩
      · refine ⟨_, rfl, _, rfl, _, _, rfl, rfl, _, _, rfl, rfl, _, rfl, ite2 (fun h2 => ?_) (fun h2 => ?_)⟩
        · have h1 := of_decide_eq_true h1
          have h2 := of_decide_eq_true h2
          have e : bstep g b t = t := by unfold bstep; rw [if_pos (by omega)]
          exact ⟨_, rfl, rfl, _, by rw [et, e]; rfl⟩
        · have h2 : ¬ (t : Int) ≤ (g : Int) + 3600000 := fun z => h2 (decide_eq_true z)
          have e : bstep g b t = b := by unfold bstep; rw [if_neg (by omega)]
          exact ⟨rfl, _, by rw [et, e]; rfl⟩
      · have h1 : ¬ (b : Int) < (t : Int) := fun z => h1 (decide_eq_true z)
        have e : bstep g b t = b := by unfold bstep; rw [if_neg (by omega)]
        exact iteF ⟨rfl, _, by rw [et, e]; rfl⟩
    · rintro σ ⟨v3, rfl⟩
      refine ⟨upd_same, _, rfl, ?_⟩
      rw [upd_back hd, List.take_length]
      exact k
end
end Mat
end
section
set_option Elab.async false
set_option maxRecDepth 100000
set_option maxHeartbeats 2000000
namespace Mat
open PySem PySem.Spec L2
open PyProof.Rows hiding St
section
variable {P : Program} {w : World} {K : PySem.W.Frag} {mg : Str → Option Value} {base : Heap} {C CR CW CF : Addr}

def spFirst : Sp := fun vs H Q _ => ∃ (e : Nat) (d : Addr) (ts : List Nat), vs = [.ref d, nV e] ∧ H d = some (.dK (dictT ts)) ∧ Q (oV (ts.foldl (fstep e) none)) H
theorem scFirst : FnScope ["times", "earliest", "first", "time"] ["times", "earliest"] (defScope sFirst) := ⟨rfl, rfl, rfl, by decide +kernel, rfl, by decide +kernel, by decide +kernel⟩
theorem ok_first {f : Addr} {fd : FuncData} (F : Fun K "first_time_from" "first_time_from" sFirst f fd) : FnOk P w K mg base CX0 1 f fd ["times", "earliest"] spFirst := by
  refine F.ok scFirst (fun vs H Q E h => ?_) (fun cdv A outer s H vs Q E hr h => ?_)
  · obtain ⟨g, d, ts, rfl, _⟩ := h
    rfl
  · obtain ⟨e, d, ts, rfl, hd, k⟩ := h
    refine ⟨_, pss_cons (ps_set (i := 2) scFirst.nd rfl (Or.inl rfl) pe_non) (pss_cons (ps_lock (ps_for PassesOwn.never rfl (pi_keys (pv 0)) (pg_name (i := 3) scFirst.nd rfl (Or.inl rfl))
      (pss_one (ps_if (pw_and (pt_cmpR op_ge (pv 3) (pv 1) (nomark _)) (pw_and1 (pw_or (pt_cmpR op_isN (pv 2) pe_non (nomark _)) (pw_or1 (pt_cmpR op_lt (pv 3) (pv 2) (nomark _)))).pt)).pt
        (pss_one (ps_set (i := 2) scFirst.nd rfl (Or.inl rfl) (pv 3))) pss_nil)))) (pss_one (ps_ret (pv 2)))), ?_⟩
    refine ⟨d, _, hd, trivial, fun od => ?_⟩
    refine ⟨_, rfl, d, od, rfl, .inl ⟨_, upd_same, for_keysT upd_same (fun i σ => ∃ v3 : Option V, σ = [some (.ref d), some (nV e), some (oV ((ts.take i).foldl (fstep e) none)), v3]) ⟨none, rfl⟩ ?_ ?_⟩⟩
    · rintro i t σ ht ⟨v3, rfl⟩
      have et : (ts.take (i + 1)).foldl (fstep e) none = fstep e ((ts.take i).foldl (fstep e) none) t := by rw [take_snoc ht, List.foldl_append]; rfl
      generalize (ts.take i).foldl (fstep e) none = b at et
      refine ⟨_, rfl, _, rfl, _, _, rfl, rfl, _, rfl, ite2 (fun h1 => ?_) (fun h1 => ?_)⟩
      · have h1 := of_decide_eq_true h1
        have h1' : e ≤ t := by omega
        refine ⟨_, rfl, rfl, _, rfl, ?_⟩
        cases b with
        | none =>
          refine ite2 (fun _ => iteT ?_) (fun h => absurd (decide_eq_true rfl) h)
          have e1 : fstep e none t = some t := by unfold fstep fok; rw [if_pos (by simp [h1'])]
          exact ⟨_, rfl, rfl, _, by rw [et, e1]; rfl⟩
        | some x =>
          refine ite2 (fun h => absurd (of_decide_eq_true h) (fun z => nomatch z)) (fun _ => ?_)
          refine ⟨_, rfl, _, rfl, _, _, rfl, rfl, _, rfl, ite2 (fun h2 => ?_) (fun h2 => ?_)⟩
          · have h2 := of_decide_eq_true h2
            have e1 : fstep e (some x) t = some t := by unfold fstep fok; rw [if_pos (by simp [h1']; omega)]
            exact ⟨_, rfl, rfl, _, by rw [et, e1]; rfl⟩
          · have h2 : ¬ (t : Int) < (x : Int) := fun z => h2 (decide_eq_true z)
            have e1 : fstep e (some x) t = some x := by unfold fstep fok; rw [if_neg (by simp; omega)]
            exact ⟨rfl, _, by rw [et, e1]; rfl⟩
      · have h1 : ¬ (e : Int) ≤ (t : Int) := fun z => h1 (decide_eq_true z)
        have e1 : fstep e b t = b := by unfold fstep fok; rw [if_neg (by simp; omega)]
        exact iteF ⟨rfl, _, by rw [et, e1]; rfl⟩
    · rintro σ ⟨v3, rfl⟩
      refine ⟨upd_same, _, rfl, ?_⟩
      rw [upd_back hd, List.take_length]
      exact k

def wayG (r : Kyt.Race) (k : Nat) : Option (Nat × Nat × List (Option Nat)) := (Kyt.gunOf r k).map fun g => (g, Kyt.beganAt r k g, wf (Kyt.timesAt r k) r.least 1 (Kyt.beganAt r k g))
def WayV (CW : Addr) (H : Hp) (v : V) : Option (Nat × Nat × List (Option Nat)) → Prop
  | none => v = .non
  | some (g, b, l) => ∃ x dx T, v = .ref x ∧ H x = some (.ins CW dx (fWay (nV g) (.ref T))) ∧ H T = some (.lst (nV b :: l.map oV))
def spWay (C CR CW : Addr) : Sp := fun vs H Q _ => ∃ (l : Lay) (r : Kyt.Race) (k : Nat) (q : RLay), vs = [.ref l.a, .ref q.x] ∧ RaceAt C CR H l r ∧ l.rs[k]? = some q ∧ ∀ H' v, Same H H' → WayV CW H' v (wayG r k) → Q v H'
theorem scWay : FnScope ["race", "runner", "gun", "earliest", "way_times", "mat", "span", "time"] ["race", "runner"] (defScope sWay) := ⟨rfl, rfl, rfl, by decide +kernel, rfl, by decide +kernel, by decide +kernel⟩
theorem ok_way {f : Addr} {fd : FuncData} (F : Fun K "find_way" "find_way" sWay f fd) (T : Txt K mg C CR CW CF) (DB : CallD P w K mg base "find_beginning" 1 ["gun", "start_times"] spBegin)
    (DF : CallD P w K mg base "first_time_from" 1 ["times", "earliest"] spFirst) (MW : MakeD P w K mg base "Way" 1 CW ["self", "gun", "times"] (spWayI CW)) :
    FnOk P w K mg base CX0 3 f fd ["race", "runner"] (spWay C CR CW) := by
  refine F.ok scWay (fun vs H Q E h => ?_) (fun cdv A outer s H vs Q E hr h => ?_)
  · obtain ⟨l, r, k, q, rfl, _⟩ := h
    rfl
  · obtain ⟨l, r, k, q, rfl, RA, hq, kk⟩ := h
    have hu := hu_of hr
    have hr1 : Room 1 _ := hr.mono (by decide)
    refine ⟨_, pss_cons (ps_if (pt_cmp (pc_dnotin hu (pe_fld (pv 1) rfl) (pe_fld (pv 0) rfl))) (pss_one (ps_ret pe_non)) pss_nil)
      (pss_cons (ps_set (i := 2) scWay.nd rfl (Or.inl rfl) (pe_dget hu (pe_fld (pv 0) rfl) (pe_fld (pv 1) rfl) (fun _ _ => rfl)))
      (pss_cons (ps_set (i := 3) scWay.nd rfl (Or.inl rfl) (pe_def DB hr1 (pa_cons (pv 2) (pa_cons (pe_ix ix_list (pe_fld (pv 1) rfl) pe_int (fun _ _ => rfl)) pa_nil))))
      (pss_cons (ps_set (i := 4) scWay.nd rfl (Or.inl rfl) (pe_lst (pa_cons (pv 3) pa_nil)))
      (pss_cons (ps_for PassesOwn.never rfl (pi_enum1 rfl T.enum (pa_cons (pe_fld (pv 0) rfl) pa_nil)) (pg_tup rfl (pgs_cons (pg_name (i := 5) scWay.nd rfl (Or.inl rfl)) (pgs_cons (pg_name (i := 6) scWay.nd rfl (Or.inl rfl)) pgs_nil)))
        (pss_cons (ps_set (i := 3) scWay.nd rfl (Or.inl rfl) (pe_op op_addN (pv 3) (pv 6)))
        (pss_cons (ps_set (i := 7) scWay.nd rfl (Or.inl rfl) (pe_def DF hr1 (pa_cons (pe_ix ix_list (pe_fld (pv 1) rfl) (pv 5) (fun _ _ => rfl)) (pa_cons (pv 3) pa_nil))))
        (pss_cons (ps_expr (pe_bm PySem.F.plainAttrs_list PySem.F.slot_list_append PySem.F.type_list_append mt_append (pv 4) (pa_cons (pv 7) pa_nil)))
        (pss_one (ps_if (pt_cmpR op_notN (pv 7) pe_non (nomark _)) (pss_one (ps_set (i := 3) scWay.nd rfl (Or.inl rfl) (pv 7))) pss_nil))))))
      (pss_one (ps_ret (pe_mk MW hr (pa_cons (pv 2) (pa_cons (pv 4) pa_nil))))))))), ?_⟩
    obtain ⟨x, hx, RU⟩ := RA.runner hq
    obtain ⟨gs, hG, _, hgs⟩ := RA.guns
    have hgun : Kyt.gunOf r k = r.guns.getD x.wave none := by unfold Kyt.gunOf; rw [hx]
    have hgv := hgs x.wave
    -- if runner.wave not in race.guns
    refine ⟨_, rfl, q.x, CR, q.dx, _, _, rfl, RU.obj, T.cR, T.rWave, rfl, _, rfl, l.a, C, l.dx, _, _, rfl, RA.obj, T.cC, T.nGuns, rfl, l.G, _, rfl, DGet.k (k := Sum.inl (x.wave : Int)) hG, _, rfl, ?_⟩
    rw [hgv, ← hgun]
    cases eg : Kyt.gunOf r k with
    | none =>
      refine iteT (kk H .non (Same.refl _) ?_)
      unfold wayG
      rw [eg]
      exact rfl
    | some g =>
      refine iteF ?_
      have ev : valV gs (Sum.inl (x.wave : Int)) = some (nV g) := by rw [hgv, ← hgun, eg]; rfl
      -- gun = race.guns[runner.wave]
      refine ⟨_, rfl, l.a, C, l.dx, _, _, rfl, RA.obj, T.cC, T.nGuns, rfl, _, rfl, q.x, CR, q.dx, _, _, rfl, RU.obj, T.cR, T.rWave, rfl, l.G, nV g, rfl, ev ▸ DGet.k (k := Sum.inl (x.wave : Int)) hG, ?_⟩
      -- earliest = find_beginning(gun, runner.sights[0])
      obtain ⟨d0, hd0⟩ : ∃ d, q.ds[0]? = some d := ⟨_, List.getElem?_eq_getElem (by rw [RU.len]; omega)⟩
      refine ⟨_, rfl, _, rfl, q.x, CR, q.dx, _, _, rfl, RU.obj, T.cR, T.rSights, rfl, q.S, _, _, _, rfl, rfl, SqL.of RU.lst, at_of (j := 0) (v := V.ref d0) rfl (by rw [List.getElem?_map, hd0]; rfl), g, d0, _, rfl, RU.at_ 0 d0 hd0, ?_⟩
      rw [began_eq]
      -- way_times = [earliest]
      refine ⟨_, rfl, (by show 1 ≤ sizeLine; decide), fun Wt hW => ?_⟩
      have s0 : Same H (upd H Wt (.lst [nV (Kyt.beganAt r k g)])) := same_upd hW
      refine ⟨_, rfl, l.a, C, l.dx, _, _, rfl, s0 _ _ RA.obj, T.cC, T.nLeast, rfl, l.L, _, rfl, SqL.of (s0 _ _ RA.least), ?_⟩
      refine for_enumC (K := K) (fun i σ H' => ∃ (done : List (Option Nat)) (e : Nat) (v5 v6 v7 : Option V), σ = [some (.ref l.a), some (.ref q.x), some (nV g), some (nV e), some (.ref Wt), v5, v6, v7] ∧ Same H H' ∧
        H' Wt = some (.lst (nV (Kyt.beganAt r k g) :: done.map oV)) ∧ i ≤ r.least.length ∧ WDone (Kyt.timesAt r k) r.least (Kyt.beganAt r k g) i done e) ?_ ?_ ?_ ?_
      · exact ⟨[], _, none, none, none, rfl, s0, upd_same, Nat.zero_le _, WDone.start ..⟩
      · rintro i σ H' ⟨_, _, _, _, _, _, s1, _⟩
        exact SqL.of (s1 _ _ RA.least)
      · rintro i z Tt σ H' hi hT ⟨done, e, v5, v6, v7, rfl, s1, hWt, hle, wd⟩
        obtain ⟨n, hn, rfl⟩ : ∃ n, r.least[i]? = some n ∧ z = nV n := by
          rw [List.getElem?_map] at hi
          cases e : r.least[i]? with
          | none => rw [e] at hi; cases hi
          | some n => rw [e] at hi; exact ⟨n, rfl, (Option.some.inj hi).symm⟩
        have hil : i < r.least.length := (List.getElem?_eq_some_iff.mp hn).1
        have s2 : Same H (upd H' Tt (.tup [.int ((1 + i : Nat) : Int), nV n])) := s1.trans (same_upd hT)
        have nWT : Wt ≠ Tt := ne_of_none hWt hT
        refine ⟨Tt, _, rfl, SqT.of upd_same, rfl, _, _, rfl, _, _, rfl, rfl, ?_⟩
        -- earliest = earliest + span
        refine ⟨_, rfl, _, rfl, e, n, rfl, rfl, ?_⟩
        -- time = first_time_from(runner.sights[mat], earliest)
        obtain ⟨d, hd⟩ : ∃ d, q.ds[1 + i]? = some d := ⟨_, List.getElem?_eq_getElem (by rw [RU.len]; omega)⟩
        refine ⟨_, rfl, q.x, CR, q.dx, _, _, rfl, s2 _ _ RU.obj, T.cR, T.rSights, rfl, _, rfl, q.S, _, _, _, rfl, rfl, SqL.of (s2 _ _ RU.lst), at_of (j := 1 + i) (v := V.ref d) rfl (by rw [List.getElem?_map, hd]; rfl), _, rfl, e + n, d, _, rfl, s2 _ _ (RU.at_ _ d hd), ?_⟩
        have st := wd.step hn
        have sl := st.len hil
        generalize (Kyt.timesAt r k (1 + i)).foldl (fstep (e + n)) none = o at st sl ⊢
        -- way_times.append(time)
        have hWt2 : (upd H' Tt (.tup [.int ((1 + i : Nat) : Int), nV n])) Wt = some (.lst (nV (Kyt.beganAt r k g) :: done.map oV)) := by rw [upd_ne nWT]; exact hWt
        refine ⟨_, rfl, .inl ⟨rfl, _, SqL.of hWt2⟩, _, rfl, Wt, _, _, rfl, rfl, hWt2, ?_, ?_⟩
        · have h8 := (okLeast_len RA.good.ok).2
          rw [List.length_append, List.length_singleton] at sl
          rw [List.length_cons, List.length_map]
          exact small1000 (by omega)
        have s3 : Same H (upd (upd H' Tt (.tup [.int ((1 + i : Nat) : Int), nV n])) Wt (.lst ((nV (Kyt.beganAt r k g) :: done.map oV) ++ [oV o]))) := fun b u hb => by
          rw [upd_ne (ne_of_none hb hW)]; exact s2 _ _ hb
        have e2 : (nV (Kyt.beganAt r k g) :: done.map oV) ++ [oV o] = nV (Kyt.beganAt r k g) :: (done ++ [o]).map oV := by simp
        -- if time is not None: earliest = time
        refine ⟨_, rfl, rfl, _, rfl, ?_⟩
        cases o with
        | none =>
          refine ite2 (fun h => absurd h (by simp [oV])) (fun _ => ?_)
          exact ⟨done ++ [none], e + n, _, _, _, rfl, s3, by rw [upd_same, e2], hil, st⟩
        | some t =>
          refine ite2 (fun _ => ?_) (fun h => absurd (by simp [oV]) h)
          exact ⟨_, rfl, done ++ [some t], t, _, _, _, rfl, s3, by rw [upd_same, e2], hil, st⟩
      · rintro σ H' ⟨done, e, v5, v6, v7, rfl, s1, hWt, hle, wd⟩
        rw [List.length_map] at wd
        have wa := wd.all
        -- return Way(gun, way_times)
        refine ⟨_, rfl, _, rfl, ?_⟩
        intro y dy ny ndy ney
        refine ⟨y, dy, _, _, rfl, upd_same, fun H2 h2 k2 => ⟨rfl, ?_⟩⟩
        have sm := Same.made ny ndy k2
        refine kk H2 (.ref y) (s1.trans sm) ?_
        unfold wayG
        rw [eg]
        exact ⟨y, dy, Wt, rfl, h2, by rw [← wa]; exact sm _ _ hWt⟩
end
end Mat
end
section
set_option Elab.async false
set_option maxRecDepth 100000
set_option maxHeartbeats 2000000
namespace Mat
open PySem PySem.Spec L2
open PyProof.Rows hiding St
abbrev WG := Option (Nat × Nat × List (Option Nat))
def WOk : WG → Prop
  | none => True
  | some (g, b, l) => l ≠ [] ∧ g ≤ b ∧ ∀ t, some t ∈ l → b ≤ t
def lastW : WG → Option Nat
  | none => none
  | some (_, _, l) => l.getLast?.join
def missW : WG → Nat
  | none => 0
  | some (_, _, l) => Kyt.missing l
def ownW : WG → Nat
  | none => 0
  | some (_, b, l) => match l.getLast?.join with
    | some t => t - b
    | none => 0
def gunW : WG → Nat
  | none => 0
  | some (g, _, l) => match l.getLast?.join with
    | some t => t - g
    | none => 0
theorem wayG_way (r : Kyt.Race) (k : Nat) : Kyt.way r k = (wayG r k).map fun z => (z.2.1, z.2.2) := by
  rw [way_eq]
  unfold wayG
  cases Kyt.gunOf r k <;> rfl
theorem wayG_ok {r : Kyt.Race} (G : Good r) (k : Nat) : WOk (wayG r k) := by
  unfold wayG
  cases e : Kyt.gunOf r k with
  | none => trivial
  | some g =>
    refine ⟨fun z => ?_, began_ge .., fun t ht => wf_ge _ _ _ _ _ ht⟩
    have h1 := congrArg List.length z
    rw [wf_length] at h1
    have := (okLeast_len G.ok).1
    simp at h1
    simp [h1] at this
theorem last_split {l : List (Option Nat)} (h : l ≠ []) : ∃ l' z, l = l' ++ [z] := ⟨l.dropLast, l.getLast h, (List.dropLast_concat_getLast h).symm⟩
theorem at_lastW (b : Nat) (l' : List (Option Nat)) (z : Option Nat) : atI (nV b :: (l' ++ [z]).map oV) (-1) = some (oV z) := by
  have e : nV b :: (l' ++ [z]).map oV = (nV b :: l'.map oV) ++ [oV z] := by simp
  rw [e]
  exact atI_last _ _
theorem getLast_join (l' : List (Option Nat)) (z : Option Nat) : (l' ++ [z]).getLast?.join = z := by
  rw [List.getLast?_append]; simp
theorem oV_flat (o : Option Nat) : flatV (oV o) = true := by cases o <;> rfl
theorem count_non (b : Nat) (l : List (Option Nat)) : ((nV b :: l.map oV).countP fun z => eqV z .non) = Kyt.missing l := by
  rw [List.countP_cons, if_neg (by show ¬ (false = true); simp), Nat.add_zero]
  unfold Kyt.missing
  induction l with
  | nil => rfl
  | cons o l ih =>
    rw [List.map_cons, List.countP_cons, ih]
    cases o with
    | none => rw [if_pos (by show (true = true); rfl)]; rfl
    | some t => rw [if_neg (by show ¬ (false = true); simp)]; rfl

section
variable {P : Program} {w : World} {K : PySem.W.Frag} {mg : Str → Option Value} {base : Heap} {C CR CW CF : Addr}

def spHas (CW : Addr) : Sp := fun vs H Q _ => ∃ (v : V) (z : WG), vs = [v] ∧ WayV CW H v z ∧ WOk z ∧ Q (.bl (lastW z).isSome) H
theorem scHas : FnScope ["way"] ["way"] (defScope sHasLast) := ⟨rfl, rfl, rfl, by decide +kernel, rfl, by decide +kernel, by decide +kernel⟩
theorem ok_has {f : Addr} {fd : FuncData} (F : Fun K "has_last_mat" "has_last_mat" sHasLast f fd) (T : Txt K mg C CR CW CF) : FnOk P w K mg base CX0 1 f fd ["way"] (spHas CW) := by
  refine F.ok scHas (fun vs H Q E h => ?_) (fun cdv A outer s H vs Q E hr h => ?_)
  · obtain ⟨v, z, rfl, _⟩ := h
    rfl
  · obtain ⟨v, z, rfl, hv, ok, k⟩ := h
    refine ⟨_, pss_one (ps_ret (pe_and (pe_cmpR op_notN (pv 0) pe_non (nomark _)) (pe_one (pe_cmpR op_notN (pe_ix ix_list (pe_fld (pv 0) rfl) (pe_un un_neg pe_int) (fun _ _ => rfl)) pe_non (nomark _))))), ?_⟩
    refine ⟨_, rfl, rfl, _, rfl, ?_⟩
    cases z with
    | none =>
      cases (show v = .non from hv)
      exact ite2 (fun h => absurd h (by simp)) (fun _ => k)
    | some z =>
      obtain ⟨g, b, l⟩ := z
      obtain ⟨x, dx, Tt, rfl, hx, hT⟩ := hv
      obtain ⟨l', z, rfl⟩ := last_split ok.1
      refine ite2 (fun _ => ?_) (fun h => absurd (by simp) h)
      refine ⟨_, rfl, x, CW, dx, _, _, rfl, hx, T.cW, T.wTimes, rfl, _, rfl, Tt, _, _, _, rfl, rfl, SqL.of hT, at_lastW b l' z, rfl, ?_⟩
      have e : (!decide (oV z = V.non)) = (lastW (some (g, b, l' ++ [z]))).isSome := by
        show _ = ((l' ++ [z]).getLast?.join).isSome
        rw [getLast_join]
        cases z <;> simp [oV]
      rw [e]
      exact k

def spMiss (CW : Addr) : Sp := fun vs H Q _ => ∃ (v : V) (z : WG), vs = [v] ∧ WayV CW H v z ∧ Q (nV (missW z)) H
theorem scMiss : FnScope ["way"] ["way"] (defScope sMiss) := ⟨rfl, rfl, rfl, by decide +kernel, rfl, by decide +kernel, by decide +kernel⟩
theorem ok_miss {f : Addr} {fd : FuncData} (F : Fun K "count_missing" "count_missing" sMiss f fd) (T : Txt K mg C CR CW CF) : FnOk P w K mg base CX0 1 f fd ["way"] (spMiss CW) := by
  refine F.ok scMiss (fun vs H Q E h => ?_) (fun cdv A outer s H vs Q E hr h => ?_)
  · obtain ⟨v, z, rfl, _⟩ := h
    rfl
  · obtain ⟨v, z, rfl, hv, k⟩ := h
    refine ⟨_, pss_one (ps_ret (pe_ifExp (pt_cmpR op_isN (pv 0) pe_non (nomark _)) pe_int (pe_bm PySem.F.plainAttrs_list PySem.F.slot_list_count PySem.F.type_list_count mt_countL (pe_fld (pv 0) rfl) (pa_cons pe_non pa_nil)))), ?_⟩
    refine ⟨_, rfl, rfl, _, rfl, ?_⟩
    cases z with
    | none =>
      cases (show v = .non from hv)
      exact ite2 (fun _ => k) (fun h => absurd (by simp) h)
    | some z =>
      obtain ⟨g, b, l⟩ := z
      obtain ⟨x, dx, Tt, rfl, hx, hT⟩ := hv
      refine ite2 (fun h => absurd h (by simp)) (fun _ => ?_)
      refine ⟨_, rfl, x, CW, dx, _, _, rfl, hx, T.cW, T.wTimes, rfl, .inl ⟨rfl, _, SqL.of hT⟩, Tt, _, _, rfl, rfl, SqL.of hT, rfl, ?_, ?_⟩
      · rw [List.all_cons, List.all_map]
        exact Bool.and_eq_true_iff.mpr ⟨rfl, List.all_eq_true.mpr fun o _ => oV_flat o⟩
      · rw [count_non]
        exact k

def spOwn (CW : Addr) : Sp := fun vs H Q _ => ∃ (v : V) (z : WG), vs = [v] ∧ WayV CW H v z ∧ WOk z ∧ Q (nV (ownW z)) H
theorem scOwn : FnScope ["way"] ["way"] (defScope sOwn) := ⟨rfl, rfl, rfl, by decide +kernel, rfl, by decide +kernel, by decide +kernel⟩
theorem ok_own {f : Addr} {fd : FuncData} (F : Fun K "find_own_time" "find_own_time" sOwn f fd) (T : Txt K mg C CR CW CF) (DH : CallD P w K mg base "has_last_mat" 1 ["way"] (spHas CW)) : FnOk P w K mg base CX0 2 f fd ["way"] (spOwn CW) := by
  refine F.ok scOwn (fun vs H Q E h => ?_) (fun cdv A outer s H vs Q E hr h => ?_)
  · obtain ⟨v, z, rfl, _⟩ := h
    rfl
  · obtain ⟨v, z, rfl, hv, ok, k⟩ := h
    refine ⟨_, pss_one (ps_ret (pe_ifExp (pt_val (pe_def DH hr (pa_cons (pv 0) pa_nil))) (pe_op op_subN (pe_ix ix_list (pe_fld (pv 0) rfl) (pe_un un_neg pe_int) (fun _ _ => rfl)) (pe_ix ix_list (pe_fld (pv 0) rfl) pe_int (fun _ _ => rfl))) pe_int)), ?_⟩
    refine ⟨_, rfl, v, z, rfl, hv, ok, _, rfl, ?_⟩
    cases z with
    | none => exact iteF k
    | some z =>
      obtain ⟨g, b, l⟩ := z
      obtain ⟨x, dx, Tt, rfl, hx, hT⟩ := hv
      obtain ⟨l', z, rfl⟩ := last_split ok.1
      have ej := getLast_join l' z
      have k' : Q (nV (match (l' ++ [z]).getLast?.join with | some t => t - b | none => 0)) H := k
      show if ((l' ++ [z]).getLast?.join).isSome = true then _ else _
      rw [ej] at k' ⊢
      cases z with
      | none => exact iteF k'
      | some t =>
        refine iteT ?_
        exact ⟨_, rfl, x, CW, dx, _, _, rfl, hx, T.cW, T.wTimes, rfl, _, rfl, Tt, _, _, _, rfl, rfl, SqL.of hT, at_lastW b l' (some t), _, rfl, x, CW, dx, _, _, rfl, hx, T.cW, T.wTimes, rfl, Tt, _, _, _, rfl, rfl, SqL.of hT, at_of (j := 0) (v := nV b) rfl rfl,
          t, b, rfl, rfl, ok.2.2 t (by simp), k'⟩

def spGunT (CW : Addr) : Sp := fun vs H Q _ => ∃ (v : V) (z : WG), vs = [v] ∧ WayV CW H v z ∧ WOk z ∧ Q (nV (gunW z)) H
theorem scGunT : FnScope ["way"] ["way"] (defScope sGunT) := ⟨rfl, rfl, rfl, by decide +kernel, rfl, by decide +kernel, by decide +kernel⟩
theorem ok_gunT {f : Addr} {fd : FuncData} (F : Fun K "find_gun_time" "find_gun_time" sGunT f fd) (T : Txt K mg C CR CW CF) (DH : CallD P w K mg base "has_last_mat" 1 ["way"] (spHas CW)) : FnOk P w K mg base CX0 2 f fd ["way"] (spGunT CW) := by
  refine F.ok scGunT (fun vs H Q E h => ?_) (fun cdv A outer s H vs Q E hr h => ?_)
  · obtain ⟨v, z, rfl, _⟩ := h
    rfl
  · obtain ⟨v, z, rfl, hv, ok, k⟩ := h
    refine ⟨_, pss_one (ps_ret (pe_ifExp (pt_val (pe_def DH hr (pa_cons (pv 0) pa_nil))) (pe_op op_subN (pe_ix ix_list (pe_fld (pv 0) rfl) (pe_un un_neg pe_int) (fun _ _ => rfl)) (pe_fld (pv 0) rfl)) pe_int)), ?_⟩
    refine ⟨_, rfl, v, z, rfl, hv, ok, _, rfl, ?_⟩
    cases z with
    | none => exact iteF k
    | some z =>
      obtain ⟨g, b, l⟩ := z
      obtain ⟨x, dx, Tt, rfl, hx, hT⟩ := hv
      obtain ⟨l', z, rfl⟩ := last_split ok.1
      have ej := getLast_join l' z
      have k' : Q (nV (match (l' ++ [z]).getLast?.join with | some t => t - g | none => 0)) H := k
      show if ((l' ++ [z]).getLast?.join).isSome = true then _ else _
      rw [ej] at k' ⊢
      cases z with
      | none => exact iteF k'
      | some t =>
        refine iteT ?_
        exact ⟨_, rfl, x, CW, dx, _, _, rfl, hx, T.cW, T.wTimes, rfl, _, rfl, Tt, _, _, _, rfl, rfl, SqL.of hT, at_lastW b l' (some t), _, rfl, x, CW, dx, _, _, rfl, hx, T.cW, T.wGun, rfl,
          t, g, rfl, rfl, Nat.le_trans ok.2.1 (ok.2.2 t (by simp)), k'⟩

def seenB (ts : Nat → List Nat) (n : Nat) : Bool := (List.range (n + 1)).any fun m => !(ts m).isEmpty
def spSeen (CR : Addr) : Sp := fun vs H Q _ => ∃ (q : RLay) (x : Kyt.Runner) (ts : Nat → List Nat) (n : Nat), vs = [.ref q.x] ∧ RunAt CR H q x ts n ∧ Q (.bl (seenB ts n)) H
theorem scSeen : FnScope ["runner", "times"] ["runner"] (defScope sSeen) := ⟨rfl, rfl, rfl, by decide +kernel, rfl, by decide +kernel, by decide +kernel⟩
theorem ok_seen {f : Addr} {fd : FuncData} (F : Fun K "was_seen" "was_seen" sSeen f fd) (T : Txt K mg C CR CW CF) : FnOk P w K mg base CX0 1 f fd ["runner"] (spSeen CR) := by
  refine F.ok scSeen (fun vs H Q E h => ?_) (fun cdv A outer s H vs Q E hr h => ?_)
  · obtain ⟨q, x, ts, n, rfl, _⟩ := h
    rfl
  · obtain ⟨q, x, ts, n, rfl, R, k⟩ := h
    refine ⟨_, pss_cons (ps_for PassesOwn.never rfl (pi_list (pe_fld (pv 0) rfl)) (pg_name (i := 1) scSeen.nd rfl (Or.inl rfl))
      (pss_one (ps_if (pt_cmpR op_gt (pe_callB call_lenD (by rfl) T.len PySem.boot_len (pa_cons (pv 1) pa_nil)) pe_int (nomark _)) (pss_one (ps_ret pe_bl)) pss_nil))) (pss_one (ps_ret pe_bl)), ?_⟩
    refine ⟨_, rfl, q.x, CR, q.dx, _, _, rfl, R.obj, T.cR, T.rSights, rfl, q.S, rfl, ⟨_, SqL.of R.lst⟩, for_list (K := K) (a := q.S) (xs := q.ds.map V.ref) (fun i σ H' => ∃ v1 : Option V, σ = [some (.ref q.x), v1] ∧ H' = H ∧ ∀ m, m < i → ts m = []) ⟨none, rfl, rfl, fun m hm => absurd hm (Nat.not_lt_zero _)⟩ ?_ ?_ ?_⟩
    · rintro i σ H' _ ⟨_, _, rfl, _⟩
      exact SqL.of R.lst
    · rintro i y σ H' hi ⟨v1, rfl, rfl, hm⟩
      obtain ⟨d, hd, rfl⟩ : ∃ d, q.ds[i]? = some d ∧ y = V.ref d := by
        rw [List.getElem?_map] at hi
        cases e : q.ds[i]? with
        | none => rw [e] at hi; cases hi
        | some d => rw [e] at hi; exact ⟨d, rfl, (Option.some.inj hi).symm⟩
      have hil : i < n + 1 := by rw [← R.len]; exact (List.getElem?_eq_some_iff.mp hd).1
      refine ⟨_, rfl, d, _, rfl, R.at_ i d hd, _, _, rfl, rfl, _, rfl, ite2 (fun h => ?_) (fun h => ?_)⟩
      · have h := of_decide_eq_true h
        rw [dictT_len] at h
        have e : seenB ts n = true := by
          refine List.any_eq_true.mpr ⟨i, List.mem_range.mpr hil, ?_⟩
          cases q : ts i with
          | nil => rw [q] at h; simp at h
          | cons _ _ => rfl
        rw [e] at k
        exact k
      · have h : ¬ (0 : Int) < ((dictT (ts i)).length : Int) := fun z => h (decide_eq_true z)
        rw [dictT_len] at h
        refine ⟨_, rfl, rfl, fun m hm' => ?_⟩
        by_cases z : m = i
        · subst z
          exact List.eq_nil_of_length_eq_zero (by omega)
        · exact hm m (by omega)
    · rintro σ H' ⟨v1, rfl, rfl, hm⟩
      have e : seenB ts n = false := by
        cases q : seenB ts n with
        | false => rfl
        | true =>
          obtain ⟨m, hm1, hm2⟩ := List.any_eq_true.mp q
          rw [List.length_map, R.len] at hm
          rw [hm m (List.mem_range.mp hm1)] at hm2
          exact absurd hm2 (by simp)
      rw [e] at k
      exact k

theorem seenB_eq {r : Kyt.Race} (G : Good r) (k : Nat) : seenB (Kyt.timesAt r k) r.least.length = r.seen.any fun s => s.who == k := by
  rw [Bool.eq_iff_iff]
  constructor
  · intro h
    obtain ⟨m, hm, h2⟩ := List.any_eq_true.mp h
    cases e : Kyt.timesAt r k m with
    | nil => rw [e] at h2; cases h2
    | cons t l =>
      have : t ∈ Kyt.timesAt r k m := by rw [e]; exact List.mem_cons_self ..
      unfold Kyt.timesAt at this
      obtain ⟨s, hs, _⟩ := List.mem_map.mp this
      rw [List.mem_filter] at hs
      exact List.any_eq_true.mpr ⟨s, hs.1, (Bool.and_eq_true_iff.mp hs.2).1⟩
  · intro h
    obtain ⟨s, hs, h2⟩ := List.any_eq_true.mp h
    refine List.any_eq_true.mpr ⟨s.mat, List.mem_range.mpr (Nat.lt_succ_of_le (G.sm s hs).1), ?_⟩
    have : s.time ∈ Kyt.timesAt r k s.mat := by
      unfold Kyt.timesAt
      exact List.mem_map.mpr ⟨s, by rw [List.mem_filter]; exact ⟨hs, Bool.and_eq_true_iff.mpr ⟨h2, beq_self_eq_true _⟩⟩, rfl⟩
    cases e : Kyt.timesAt r k s.mat with
    | nil => rw [e] at this; cases this
    | cons _ _ => rfl
theorem status_eq {r : Kyt.Race} (G : Good r) {k : Nat} {x : Kyt.Runner} (hx : r.runners[k]? = some x) :
    Kyt.status r k = if x.out = true then 4 else if (lastW (wayG r k)).isSome = true then (if missW (wayG r k) ≤ r.lack then 2 else 3) else if ((wayG r k).isSome && seenB (Kyt.timesAt r k) r.least.length) = true then 1 else 0 := by
  unfold Kyt.status Kyt.isOut
  rw [hx, seenB_eq G, wayG_way]
  show (if x.out = true then 4 else _) = _
  cases x.out with
  | true => rfl
  | false =>
    show (match (wayG r k).map fun z => (z.2.1, z.2.2) with | none => 0 | some (_, l) => _) = _
    have ok := wayG_ok G k
    cases e : wayG r k with
    | none => rfl
    | some z =>
      obtain ⟨g, b, l⟩ := z
      rw [e] at ok
      obtain ⟨l', z, rfl⟩ := last_split ok.1
      show (match (l' ++ [z]).getLast? with | some (some _) => if Kyt.missing (l' ++ [z]) ≤ r.lack then 2 else 3 | _ => if (r.seen.any fun s => s.who == k) = true then 1 else 0) = (if ((l' ++ [z]).getLast?.join).isSome = true then (if Kyt.missing (l' ++ [z]) ≤ r.lack then 2 else 3) else _)
      rw [getLast_join, show (l' ++ [z]).getLast? = some z by rw [List.getLast?_append]; simp]
      cases z with
      | some t => rfl
      | none => simp

def spState (C CR CW : Addr) : Sp := fun vs H Q _ => ∃ (l : Lay) (r : Kyt.Race) (k : Nat) (q : RLay) (v : V), vs = [.ref l.a, .ref q.x, v] ∧ RaceAt C CR H l r ∧ l.rs[k]? = some q ∧ WayV CW H v (wayG r k) ∧ Q (nV (Kyt.status r k)) H
theorem scState : FnScope ["race", "runner", "way"] ["race", "runner", "way"] (defScope sState) := ⟨rfl, rfl, rfl, by decide +kernel, rfl, by decide +kernel, by decide +kernel⟩
theorem ok_state {f : Addr} {fd : FuncData} (F : Fun K "find_state" "find_state" sState f fd) (T : Txt K mg C CR CW CF) (DH : CallD P w K mg base "has_last_mat" 1 ["way"] (spHas CW)) (DM : CallD P w K mg base "count_missing" 1 ["way"] (spMiss CW))
    (DS : CallD P w K mg base "was_seen" 1 ["runner"] (spSeen CR)) : FnOk P w K mg base CX0 2 f fd ["race", "runner", "way"] (spState C CR CW) := by
  refine F.ok scState (fun vs H Q E h => ?_) (fun cdv A outer s H vs Q E hr h => ?_)
  · obtain ⟨l, r, k, q, v, rfl, _⟩ := h
    rfl
  · obtain ⟨l, r, k, q, v, rfl, RA, hq, hv, kk⟩ := h
    obtain ⟨x, hx, RU⟩ := RA.runner hq
    refine ⟨_, pss_cons (ps_if (pt_val (pe_fld (pv 1) rfl)) (pss_one (ps_ret (pe_gi T.gStruck))) pss_nil)
      (pss_cons (ps_if (pt_val (pe_def DH hr (pa_cons (pv 2) pa_nil))) (pss_one (ps_ret (pe_ifExp (pt_cmpR op_le (pe_def DM hr (pa_cons (pv 2) pa_nil)) (pe_fld (pv 0) rfl) (nomark _)) (pe_gi T.gFinished) (pe_gi T.gMissing)))) pss_nil)
      (pss_cons (ps_if (pw_and (pt_cmpR op_notN (pv 2) pe_non (nomark _)) (pw_and1 (pt_val (pe_def DS hr (pa_cons (pv 1) pa_nil))))).pt (pss_one (ps_ret (pe_gi T.gUnder))) pss_nil)
      (pss_one (ps_ret (pe_gi T.gWaiting))))), ?_⟩
    rw [status_eq RA.good hx] at kk
    have ok := wayG_ok RA.good k
    refine ⟨_, rfl, q.x, CR, q.dx, _, _, rfl, RU.obj, T.cR, T.rStruck, rfl, _, rfl, ite2 (fun h => ?_) (fun h => ?_)⟩
    · rw [if_pos h] at kk
      exact kk
    · rw [if_neg h] at kk
      refine ⟨_, rfl, v, _, rfl, hv, ok, _, rfl, ite2 (fun h1 => ?_) (fun h1 => ?_)⟩
      · rw [if_pos h1] at kk
        refine ⟨_, rfl, v, _, rfl, hv, _, rfl, l.a, C, l.dx, _, _, rfl, RA.obj, T.cC, T.nLack, rfl, _, _, rfl, rfl, _, rfl, ite2 (fun h2 => ?_) (fun h2 => ?_)⟩
        · have h2 := of_decide_eq_true h2
          rw [if_pos (by omega)] at kk
          exact kk
        · have h2 : ¬ ((missW (wayG r k) : Nat) : Int) ≤ (r.lack : Int) := fun z => h2 (decide_eq_true z)
          rw [if_neg (by omega)] at kk
          exact kk
      · rw [if_neg h1] at kk
        refine ⟨_, rfl, rfl, _, rfl, ?_⟩
        cases e : wayG r k with
        | none =>
          rw [e] at kk hv
          cases (show v = .non from hv)
          exact ite2 (fun h => absurd h (by simp)) (fun _ => iteF kk)
        | some z =>
          rw [e] at kk hv
          obtain ⟨g, b, l2⟩ := z
          obtain ⟨y, dy, Tt, rfl, hy, hT⟩ := hv
          refine ite2 (fun _ => ?_) (fun h => absurd (by simp) h)
          refine ⟨_, rfl, q, x, _, _, rfl, RU, _, rfl, ite2 (fun h2 => ?_) (fun h2 => ?_)⟩
          · rw [if_pos (by simpa using h2)] at kk
            exact kk
          · rw [if_neg (by simpa using h2)] at kk
            exact kk
end
end Mat
end
section
set_option Elab.async false
set_option maxRecDepth 100000
set_option maxHeartbeats 2000000
namespace Mat
open PySem PySem.Spec L2
open PyProof.Rows hiding St

/-! ### who finished -/
def resOf (r : Kyt.Race) (k : Nat) : Option Kyt.Result := if Kyt.status r k = 2 then (match Kyt.gross r k, Kyt.net r k with
  | some g, some u => some ⟨k, Kyt.kindOf r k, g, u⟩
  | _, _ => none) else none
def resTo (r : Kyt.Race) (i : Nat) : List Kyt.Result := (List.range i).filterMap (resOf r)
theorem resTo_all (r : Kyt.Race) : Kyt.results r = resTo r r.runners.length := rfl
theorem resTo_succ (r : Kyt.Race) (i : Nat) : resTo r (i + 1) = resTo r i ++ (resOf r i).toList := by
  unfold resTo
  rw [List.range_succ, List.filterMap_append]
  cases e : resOf r i <;> simp [e]
theorem resTo_len (r : Kyt.Race) (i : Nat) : (resTo r i).length ≤ i := by
  unfold resTo
  have := List.length_filterMap_le (resOf r) (List.range i)
  rw [List.length_range] at this
  exact this
theorem net_eq (r : Kyt.Race) (k : Nat) : Kyt.net r k = (lastW (wayG r k)).map fun _ => ownW (wayG r k) := by
  unfold Kyt.net
  rw [wayG_way]
  cases wayG r k with
  | none => rfl
  | some z =>
    obtain ⟨g, b, l⟩ := z
    show (match l.getLast? with | some (some t) => some (t - b) | _ => none) = (l.getLast?.join).map fun _ => (match l.getLast?.join with | some t => t - b | none => 0)
    cases l.getLast? with
    | none => rfl
    | some o => cases o <;> rfl
theorem gross_eq (r : Kyt.Race) (k : Nat) : Kyt.gross r k = (lastW (wayG r k)).map fun _ => gunW (wayG r k) := by
  unfold Kyt.gross
  rw [wayG_way]
  unfold wayG
  cases Kyt.gunOf r k with
  | none => rfl
  | some g =>
    show (match (wf (Kyt.timesAt r k) r.least 1 (Kyt.beganAt r k g)).getLast? with | some (some t) => some (t - g) | _ => none) = ((wf (Kyt.timesAt r k) r.least 1 (Kyt.beganAt r k g)).getLast?.join).map fun _ => (match (wf (Kyt.timesAt r k) r.least 1 (Kyt.beganAt r k g)).getLast?.join with | some t => t - g | none => 0)
    cases (wf (Kyt.timesAt r k) r.least 1 (Kyt.beganAt r k g)).getLast? with
    | none => rfl
    | some o => cases o <;> rfl
theorem resOf_two {r : Kyt.Race} (G : Good r) {k : Nat} {x : Kyt.Runner} (hx : r.runners[k]? = some x) (h : Kyt.status r k = 2) : resOf r k = some ⟨k, x.kind, gunW (wayG r k), ownW (wayG r k)⟩ := by
  unfold resOf
  rw [if_pos h, gross_eq, net_eq]
  have hl : (lastW (wayG r k)).isSome = true := by
    rw [status_eq G hx] at h
    cases e : (lastW (wayG r k)).isSome with
    | true => rfl
    | false =>
      rw [e] at h
      exfalso
      revert h
      split
      · intro z; cases z
      · rw [if_neg Bool.false_ne_true]
        split <;> intro z <;> cases z
  obtain ⟨t, ht⟩ := Option.isSome_iff_exists.mp hl
  rw [ht]
  show some (Kyt.Result.mk k (Kyt.kindOf r k) _ _) = _
  unfold Kyt.kindOf
  rw [hx]
theorem resOf_not {r : Kyt.Race} {k : Nat} (h : ¬ Kyt.status r k = 2) : resOf r k = none := by
  unfold resOf
  rw [if_neg h]

structure FinAt (CF : Addr) (H : Hp) (a : Addr) (x : Kyt.Result) : Prop where
  ex : ∃ dx o i, H a = some (.ins CF dx (fFin (nV x.who) (nV x.kind) (.ref o) (.ref i))) ∧ H o = some (.tup [nV x.gross, nV x.net]) ∧ H i = some (.tup [nV x.net, nV x.gross])
abbrev Fins (CF : Addr) (H : Hp) : List Addr → List Kyt.Result → Prop := Paired (FinAt CF H)
theorem FinAt.same {CF : Addr} {H H' : Hp} {a : Addr} {x : Kyt.Result} (h : FinAt CF H a x) (s : Same H H') : FinAt CF H' a x :=
  let ⟨dx, o, i, h1, h2, h3⟩ := h.ex; ⟨dx, o, i, s _ _ h1, s _ _ h2, s _ _ h3⟩
theorem FinAt.lst {CF : Addr} {H : Hp} {a p : Addr} {x : Kyt.Result} {xs ys : List V} (h : FinAt CF H a x) (hp : H p = some (.lst xs)) : FinAt CF (upd H p (.lst ys)) a x :=
  let ⟨dx, o, i, h1, h2, h3⟩ := h.ex
  ⟨dx, o, i, by rw [upd_ne (ne_of h1 hp (fun z => nomatch z))]; exact h1, by rw [upd_ne (ne_of h2 hp (fun z => nomatch z))]; exact h2, by rw [upd_ne (ne_of h3 hp (fun z => nomatch z))]; exact h3⟩
theorem Fins.same {CF : Addr} {H H' : Hp} {as : List Addr} {l : List Kyt.Result} (h : Fins CF H as l) (s : Same H H') : Fins CF H' as l := Paired.mapP h fun _ _ z => z.same s
theorem Fins.lst {CF : Addr} {H : Hp} {p : Addr} {as : List Addr} {l : List Kyt.Result} {xs ys : List V} (h : Fins CF H as l) (hp : H p = some (.lst xs)) : Fins CF (upd H p (.lst ys)) as l := Paired.mapP h fun _ _ z => z.lst hp
theorem Fins.get {CF : Addr} {H : Hp} : ∀ {as : List Addr} {l : List Kyt.Result} {i : Nat} {a : Addr}, Fins CF H as l → as[i]? = some a → ∃ x, l[i]? = some x ∧ FinAt CF H a x
  | _, _, _, _, .nil, e => by simp at e
  | _, _, 0, _, .cons r _, e => by simp at e; subst e; exact ⟨_, rfl, r⟩
  | _, _, i + 1, x, .cons _ t, e => by
    obtain ⟨u, h1, h2⟩ := Fins.get (i := i) t (by simpa using e)
    exact ⟨u, by simpa using h1, h2⟩
theorem mapRef_at {as : List Addr} {i : Nat} {y : V} (h : (as.map V.ref)[i]? = some y) : ∃ a, as[i]? = some a ∧ y = V.ref a := by
  rw [List.getElem?_map] at h
  cases e : as[i]? with
  | none => rw [e] at h; cases h
  | some a => rw [e] at h; exact ⟨a, rfl, (Option.some.inj h).symm⟩

section
variable {P : Program} {w : World} {K : PySem.W.Frag} {mg : Str → Option Value} {base : Heap} {C CR CW CF : Addr}
def spFinI (CF : Addr) : Sp := fun vs H Q _ => ∃ (p dx : Addr) (a q o g : V), vs = [.ref p, a, q, o, g] ∧ H p = some (.ins CF dx []) ∧
  ∀ (H' : Hp) (to ti : Addr), H' p = some (.ins CF dx (fFin a q (.ref to) (.ref ti))) → H' to = some (.tup [g, o]) → H' ti = some (.tup [o, g]) → (∀ b u, H b = some u → b ≠ p → H' b = some u) → Q .non H'
theorem scFinI : FnScope ["self", "who", "kind", "own_time", "gun_time"] ["self", "who", "kind", "own_time", "gun_time"] (defScope sFinI) := ⟨rfl, rfl, rfl, by decide +kernel, rfl, by decide +kernel, by decide +kernel⟩
theorem ok_finI {f : Addr} {fd : FuncData} (F : Fun K "__init__" "Finish.__init__" sFinI f fd) (T : Txt K mg C CR CW CF) : FnOk P w K mg base CX0 1 f fd ["self", "who", "kind", "own_time", "gun_time"] (spFinI CF) := by
  refine F.ok scFinI (fun vs H Q E h => ?_) (fun cdv A outer s H vs Q E hr h => ?_)
  · obtain ⟨p, dx, a, q, o, g, rfl, _⟩ := h
    rfl
  · obtain ⟨p, dx, a, q, o, g, rfl, hp, k⟩ := h
    refine ⟨_, pss_cons (ps_fld (pv 0) (pv 1) rfl) (pss_cons (ps_fld (pv 0) (pv 2) rfl) (pss_cons (ps_fld (pv 0) (pe_tup (pa_cons (pv 4) (pa_cons (pv 3) pa_nil))) rfl) (pss_one (ps_fld (pv 0) (pe_tup (pa_cons (pv 3) (pa_cons (pv 4) pa_nil))) rfl)))), ?_⟩
    refine ⟨_, rfl, _, rfl, p, CF, dx, [], rfl, hp, T.cF, T.fWho, (by decide), ?_⟩
    refine ⟨_, rfl, _, rfl, p, CF, dx, _, rfl, upd_same, T.cF, T.fKind, (by show 1 < 1000; decide), ?_⟩
    refine ⟨_, rfl, _, rfl, (by show 2 ≤ sizeLine; decide), fun to hto => ?_⟩
    have n1 : to ≠ p := fun z => by subst z; rw [upd_same] at hto; cases hto
    refine ⟨_, rfl, p, CF, dx, _, rfl, (by rw [upd_ne n1.symm, upd_same]), T.cF, T.fOver, (by show 2 < 1000; decide), ?_⟩
    refine ⟨_, rfl, _, rfl, (by show 2 ≤ sizeLine; decide), fun ti hti => ?_⟩
    have n2 : ti ≠ p := fun z => by subst z; rw [upd_same] at hti; cases hti
    have n3 : ti ≠ to := fun z => by subst z; rw [upd_ne n1, upd_same] at hti; cases hti
    refine ⟨_, rfl, p, CF, dx, _, rfl, (by rw [upd_ne n2.symm, upd_same]), T.cF, T.fIn, (by show 3 < 1000; decide), ?_⟩
    refine k _ to ti upd_same (by rw [upd_ne n1, upd_ne n3.symm, upd_ne n1, upd_same]) (by rw [upd_ne n2, upd_same]) fun b u e hb => ?_
    have b1 : b ≠ to := fun z => by subst z; rw [upd_ne n1, upd_ne n1] at hto; rw [hto] at e; cases e
    have b2 : b ≠ ti := fun z => by subst z; rw [upd_ne n2, upd_ne n3, upd_ne n2, upd_ne n2] at hti; rw [hti] at e; cases e
    rw [upd_ne hb, upd_ne b2, upd_ne hb, upd_ne b1, upd_ne hb, upd_ne hb]
    exact e

def spAllF (C CR CF : Addr) : Sp := fun vs H Q _ => ∃ (l : Lay) (r : Kyt.Race), vs = [.ref l.a] ∧ RaceAt C CR H l r ∧ ∀ (H' : Hp) (p : Addr) (as : List Addr), Same H H' → H p = none → H' p = some (.lst (as.map V.ref)) → Fins CF H' as (Kyt.results r) → Q (.ref p) H'
theorem scAllF : FnScope ["race", "finishes", "who", "runner", "way"] ["race"] (defScope sAllF) := ⟨rfl, rfl, rfl, by decide +kernel, rfl, by decide +kernel, by decide +kernel⟩
theorem ok_allF {f : Addr} {fd : FuncData} (F : Fun K "all_finishes" "all_finishes" sAllF f fd) (T : Txt K mg C CR CW CF) (DW : CallD P w K mg base "find_way" 3 ["race", "runner"] (spWay C CR CW)) (DS : CallD P w K mg base "find_state" 2 ["race", "runner", "way"] (spState C CR CW))
    (DO : CallD P w K mg base "find_own_time" 2 ["way"] (spOwn CW)) (DG : CallD P w K mg base "find_gun_time" 2 ["way"] (spGunT CW)) (MF : MakeD P w K mg base "Finish" 1 CF ["self", "who", "kind", "own_time", "gun_time"] (spFinI CF)) :
    FnOk P w K mg base CX0 4 f fd ["race"] (spAllF C CR CF) := by
  refine F.ok scAllF (fun vs H Q E h => ?_) (fun cdv A outer s H vs Q E hr h => ?_)
  · obtain ⟨l, r, rfl, _⟩ := h
    rfl
  · obtain ⟨l, r, rfl, RA, kk⟩ := h
    have hr2 : Room 2 _ := hr.mono (by decide)
    refine ⟨_, pss_cons (ps_set (i := 1) scAllF.nd rfl (Or.inl rfl) (pe_lst pa_nil))
      (pss_cons (ps_for PassesOwn.never rfl (pi_enum0 rfl T.enum (pa_cons (pe_fld (pv 0) rfl) pa_nil)) (pg_tup rfl (pgs_cons (pg_name (i := 2) scAllF.nd rfl (Or.inl rfl)) (pgs_cons (pg_name (i := 3) scAllF.nd rfl (Or.inl rfl)) pgs_nil)))
        (pss_cons (ps_set (i := 4) scAllF.nd rfl (Or.inl rfl) (pe_def DW hr (pa_cons (pv 0) (pa_cons (pv 3) pa_nil))))
        (pss_one (ps_if (pt_cmpR op_eq (pe_def DS hr2 (pa_cons (pv 0) (pa_cons (pv 3) (pa_cons (pv 4) pa_nil)))) (pe_gi T.gFinished) (nomark _))
          (pss_one (ps_expr (pe_bm PySem.F.plainAttrs_list PySem.F.slot_list_append PySem.F.type_list_append mt_append (pv 1)
            (pa_cons (pe_mk MF hr2 (pa_cons (pv 2) (pa_cons (pe_fld (pv 3) rfl) (pa_cons (pe_def DO hr2 (pa_cons (pv 4) pa_nil)) (pa_cons (pe_def DG hr2 (pa_cons (pv 4) pa_nil)) pa_nil))))) pa_nil)))) pss_nil))))
      (pss_one (ps_ret (pv 1)))), ?_⟩
    refine ⟨Nat.zero_le _, fun Fs hF => ?_⟩
    have s0 : Same H (upd H Fs (.lst [])) := same_upd hF
    refine ⟨_, rfl, l.a, C, l.dx, _, _, rfl, s0 _ _ RA.obj, T.cC, T.nRuns, rfl, l.R, _, rfl, SqL.of (s0 _ _ RA.runs), ?_⟩
    refine for_enumC (K := K) (fun i σ H' => ∃ (v2 v3 v4 : Option V) (as : List Addr), σ = [some (.ref l.a), some (.ref Fs), v2, v3, v4] ∧ Same H H' ∧ H' Fs = some (.lst (as.map V.ref)) ∧ Fins CF H' as (resTo r i)) ?_ ?_ ?_ ?_
    · exact ⟨none, none, none, [], rfl, s0, upd_same, .nil⟩
    · rintro i σ H' ⟨_, _, _, _, _, s1, _⟩
      exact SqL.of (s1 _ _ RA.runs)
    · rintro i z Tt σ H1 hi hT ⟨v2, v3, v4, as, rfl, s1, hFs, fs⟩
      obtain ⟨q, hq, rfl⟩ : ∃ q, l.rs[i]? = some q ∧ z = V.ref q.x := by
        rw [List.getElem?_map] at hi
        cases e : l.rs[i]? with
        | none => rw [e] at hi; cases hi
        | some q => rw [e] at hi; exact ⟨q, rfl, (Option.some.inj hi).symm⟩
      obtain ⟨x, hx, RU⟩ := RA.runner hq
      have s2 : Same H1 (upd H1 Tt (.tup [.int ((0 + i : Nat) : Int), .ref q.x])) := same_upd hT
      refine ⟨Tt, _, rfl, SqT.of upd_same, rfl, _, _, rfl, _, _, rfl, rfl, ?_⟩
      have s12 := s1.trans s2
      -- way = find_way(race, runner)
      refine ⟨_, rfl, _, rfl, l, r, i, q, rfl, RA.same s12, hq, fun H3 v s3 hv => ?_⟩
      have s13 := s12.trans s3
      have ok := wayG_ok RA.good i
      have fs3 : Fins CF H3 as (resTo r i) := Fins.same fs (s2.trans s3)
      have hFs3 : H3 Fs = some (.lst (as.map V.ref)) := s3 _ _ (s2 _ _ hFs)
      -- if find_state(race, runner, way) == FINISHED
      refine ⟨_, rfl, _, rfl, _, rfl, l, r, i, q, v, rfl, RA.same s13, hq, hv, rfl, _, rfl, ite2 (fun h => ?_) (fun h => ?_)⟩
      · have h2 : Kyt.status r i = 2 := by
          have := of_decide_eq_true h
          injection this with e
          omega
        have er := resOf_two RA.good hx h2
        refine ⟨_, rfl, .inl ⟨rfl, _, SqL.of hFs3⟩, _, rfl, _, rfl, q.x, CR, q.dx, _, _, rfl, s13 _ _ RU.obj, T.cR, T.rKind, rfl, _, rfl, v, _, rfl, hv, ok, _, rfl, v, _, rfl, hv, ok, ?_⟩
        intro y dy ny ndy ney
        refine ⟨y, dy, _, _, _, _, rfl, upd_same, fun H4 to ti h1 h3 h4 k4 => ⟨rfl, ?_⟩⟩
        have s4 := Same.made ny ndy k4
        have hFs4 := s4 _ _ hFs3
        have lenA : as.length ≤ i := by rw [Paired.length fs]; exact resTo_len r i
        have hi48 : i < 48 := by
          have := (List.getElem?_eq_some_iff.mp hx).1
          have := RA.good.run
          omega
        refine ⟨Fs, _, _, rfl, rfl, hFs4, by rw [List.length_map]; exact small1000 (by omega), ?_⟩
        have F4 : FinAt CF H4 y ⟨i, x.kind, gunW (wayG r i), ownW (wayG r i)⟩ := by
          refine ⟨dy, to, ti, ?_, h3, h4⟩
          rw [h1, Nat.zero_add]
          rfl
        refine ⟨_, _, _, as ++ [y], rfl, fun b u hb => ?_, by rw [upd_same, List.map_append]; rfl, ?_⟩
        · rw [upd_ne (ne_of_none hb hF)]
          exact s4 _ _ (s13 _ _ hb)
        · rw [resTo_succ, er]
          exact Paired.snoc (Fins.lst (Fins.same fs3 s4) hFs4) (F4.lst hFs4)
      · have h2 : ¬ Kyt.status r i = 2 := fun z => h (by rw [z]; exact decide_eq_true rfl)
        refine ⟨_, _, _, as, rfl, s13, hFs3, ?_⟩
        rw [resTo_succ, resOf_not h2]
        show Fins CF H3 as (resTo r i ++ [])
        rw [List.append_nil]
        exact fs3
    · rintro σ H1 ⟨v2, v3, v4, as, rfl, s1, hFs, fs⟩
      rw [List.length_map, RA.len] at fs
      exact ⟨_, rfl, kk H1 Fs as s1 hF hFs fs⟩
end
end Mat
end
section
set_option Elab.async false
set_option maxRecDepth 100000
set_option maxHeartbeats 2000000
namespace Mat
open PySem PySem.W PyProof.Rows

/-! ### sorted(list, key=f): the keys are tuples of ints that stand already -/
/-- what a sort by keys has made -/
def SortOut (kk : PyProof.Rows.KeyKind) (ks vs out : List Value) : Prop :=
  ∃ xs : Array Keyed, xs.Perm (ks.toArray.zip vs.toArray) ∧ SortedToK kk xs xs.size ∧ Stable kk xs (ks.toArray.zip vs.toArray) ∧ out = xs.toList.map (·.2)
abbrev KeepsAll (h h' : Heap) : Prop := ∀ b o, h.get? b = some o → h'.get? b = some o
theorem line_small {n : Nat} (h : n ≤ 1000) : n ≤ sizeLine := by rw [sizeLine_eq]; omega
section
variable {prog : Program} {w : World} {A : Around} {E : Value → Shared → Prop} {s : Shared}

theorem ks_tail {a kS : Addr} {keys : Array Value} {e e1 : Nat} {st : SortSt} {P : PySem.Fin → Shared → Prop} (hk : s.heap.get? kS = some (seqObj "list" keys e)) (ha : s.heap.get? a = some (seqObj "list" #[] e1)) (hne : kS ≠ a)
    (z1 : keys.size ≤ 1000) (z2 : (arrOf st).size ≤ 1000) (hf : failedOf st = none)
    (h : ∀ (h' : Heap) (c : Nat), h'.get? a = some (seqObj "list" ((arrOf st).map (·.2)) c) → (∀ b o, b ≠ kS → b ≠ a → s.heap.get? b = some o → h'.get? b = some o) → P (.done (.ret .none)) { s with heap := h' }) :
    wpAny (model prog w) A (ksk_tail a false e1 (.ref kS) st) P E s := by
  have u1 := Heap.SameBut.update s.heap kS (Obj.mapSeq fun _ => (#[] : Array Value))
  have a1 : (s.heap.update kS (Obj.mapSeq fun _ => (#[] : Array Value))).get? a = some (seqObj "list" #[] e1) := (u1.2 a hne.symm).trans ha
  have u2 := Heap.SameBut.update (s.heap.update kS (Obj.mapSeq fun _ => (#[] : Array Value))) a (Obj.mapSeq fun _ => (arrOf st).map (·.2))
  have a2 := get?_update_seq a1 fun _ => (arrOf st).map (·.2)
  unfold ksk_tail
  dsimp only
  refine wpAny_bind (listUpdate_at hk rfl (wpAny_bind (wpAny_letGo (wpAny_bind (seqEpoch_at a1 rfl ?_)))) (line_small z1) (Nat.zero_le _))
  refine wpAny_bind (listUpdate_at a1 rfl ?_ (Nat.zero_le _) (by rw [if_neg Bool.false_ne_true, Array.size_map]; exact Nat.le_succ_of_le (line_small z2)))
  rw [hf]
  simp only [bne_self_eq_false, Bool.false_eq_true, if_false]
  exact wpAny_pure (h _ _ a2 fun b o n1 n2 q => (u2.2 b n2).trans ((u1.2 b n1).trans q))

theorem ks_end {h0 : Heap} {shape : Nat → Bool} {a kS : Addr} {ks vs fs : List Value} {e e1 : Nat} {P : PySem.Fin → Shared → Prop} (kp : G.KeepsTups h0 s.heap) (ht : TupsOf h0 shape ks fs) (hkey : ∀ v, v ∈ ks → ∃ l, G.tupKeyC h0 shape v = some l)
    (hk : s.heap.get? kS = some (seqObj "list" ks.toArray e)) (ha : s.heap.get? a = some (seqObj "list" #[] e1)) (hne : kS ≠ a) (hl : ks.length = vs.length) (hz : vs.length ≤ 1000)
    (h : ∀ (h' : Heap) (c : Nat) (out : List Value), SortOut (G.tupKindC h0 shape) ks vs out → h'.get? a = some (seqObj "list" out.toArray c) → (∀ b o, b ≠ kS → b ≠ a → s.heap.get? b = some o → h'.get? b = some o) → P (.done (.ret .none)) { s with heap := h' }) :
    wpAny (model prog w) A (ksk_end a false vs.toArray e1 (.ref kS) ks.toArray) P E s := by
  have zz : (ks.toArray.zip vs.toArray).size = vs.length := by rw [Array.size_zip, List.size_toArray, List.size_toArray, hl, Nat.min_self]
  have zk : ks.toArray.size ≤ 1000 := by rw [List.size_toArray, hl]; exact hz
  have fin : ∀ st : SortSt, (arrOf st).Perm (ks.toArray.zip vs.toArray) → failedOf st = none → SortedToK (G.tupKindC h0 shape) (arrOf st) (ks.toArray.zip vs.toArray).size → Stable (G.tupKindC h0 shape) (arrOf st) (ks.toArray.zip vs.toArray) →
      wpAny (model prog w) A (ksk_tail a false e1 (.ref kS) st) P E s := fun st p1 p2 p3 p4 => by
    refine ks_tail hk ha hne zk (by rw [p1.size_eq, zz]; exact hz) p2 fun h' c q1 q2 => h h' c ((arrOf st).toList.map (·.2)) ⟨arrOf st, p1, by rw [p1.size_eq]; exact p3, p4, rfl⟩ ?_ q2
    have e2 : ((arrOf st).toList.map (·.2)).toArray = (arrOf st).map (·.2) := by
      rw [← Array.toList_map]
    rw [e2]
    exact q1
  unfold ksk_end
  dsimp only
  rw [if_neg Bool.false_ne_true]
  by_cases h2 : vs.toArray.size < 2
  · rw [if_pos h2, if_pos h2]
    refine wpAny_bind (wpAny_pure ?_)
    rw [StateT.run_pure]
    refine wpAny_bind (wpAny_pure ?_)
    dsimp only
    refine fin (SortSt.mk' general' (ks.toArray.zip vs.toArray) #[] 7 none) (Array.Perm.refl _) rfl (fun i j hij hj => ?_) (Stable.refl _)
    rw [zz] at hj
    rw [List.size_toArray] at h2
    obtain rfl : i = j := by omega
    exact KeyOrd.kle_refl _
  · rw [if_neg h2, if_neg h2]
    rw [List.size_toArray] at h2
    refine wpAny_bind (tup_kind (by rw [G.TupsOf.length ht]; omega) (G.TupsOf.keep kp ht) ?_)
    refine wpAny_bind (wpAny_mono (G.wpS_sortRunsSt (κ := G.tupKindC h0 shape) (kd := tuples' true) (a₀ := ks.toArray.zip vs.toArray) (st := SortSt.mk' (tuples' true) (ks.toArray.zip vs.toArray) #[] 7 none)
      (Q := fun _ st' => (arrOf st').Perm (ks.toArray.zip vs.toArray) ∧ failedOf st' = none ∧ SortedToK (G.tupKindC h0 shape) (arrOf st') (ks.toArray.zip vs.toArray).size ∧ Stable (G.tupKindC h0 shape) (arrOf st') (ks.toArray.zip vs.toArray))
      (G.tupC_ltAt true kp) (fun p hp => ?_) ⟨Array.Perm.refl _, rfl, rfl⟩ rfl (Stable.refl _) (by rw [zz]; omega) fun st' a1 a2 a3 a4 => ⟨a1, a2, a3, a4⟩) ?_ fun _ _ q => q)
    · rw [Array.toList_zip] at hp
      exact hkey p.1 (List.of_mem_zip (a := p.1) (b := p.2) hp).1
    · rintro ⟨⟨⟩, st'⟩ s' ⟨rfl, p1, p2, p3, p4⟩
      dsimp only
      exact fin st' p1 p2 p3 p4

/-- what one call of the key gives -/
def KeyTurn (prog : Program) (w : World) (A : Around) (s : Shared) (f v k : Value) : Prop := ∀ (h : Heap) (tk : Nat), KeepsAll s.heap h →
  wpAny (model prog w) A (call f [v]) (fun u s' => u = k ∧ ∃ h' tk', s' = { s with heap := h', toks := tk' } ∧ KeepsAll h h') (fun _ _ => False) { s with heap := h, toks := tk }

theorem ks_rest {s0 : Shared} {f : Value} {shape : Nat → Bool} {a kS : Addr} {ks vs fs : List Value} {e1 : Nat} {P : PySem.Fin → Shared → Prop} (h1 : ∃ tk, s = { s0 with heap := s.heap, toks := tk }) (kp : KeepsAll s0.heap s.heap) (ht : TupsOf s0.heap shape ks fs) (hkey : ∀ v, v ∈ ks → ∃ l, G.tupKeyC s0.heap shape v = some l)
    (hk : s.heap.get? kS = some (seqObj "list" #[] 0)) (ha : s.heap.get? a = some (seqObj "list" #[] e1)) (hne : kS ≠ a) (k0 : s0.heap.get? kS = none) (a0 : s0.heap.get? a = none) (hl : ks.length = vs.length) (hz : vs.length ≤ 1000)
    (turn : ∀ (i : Nat) (v k : Value), vs[i]? = some v → ks[i]? = some k → KeyTurn prog w A s0 f v k)
    (h : ∀ (h' : Heap) (tk c : Nat) (out : List Value), SortOut (G.tupKindC s0.heap shape) ks vs out → h'.get? a = some (seqObj "list" out.toArray c) → KeepsAll s0.heap h' → P (.done (.ret .none)) { s0 with heap := h', toks := tk }) :
    wpAny (model prog w) A (ksk_rest a f false vs.toArray e1 (.ref kS)) P E s := by
  obtain ⟨tk0, e0⟩ := h1
  unfold ksk_rest
  refine wpAny_bind (wpAny_rule ?_)
  first
    | rw [List.forIn_toArray]
    | (rw [← Array.forIn_toList]; simp only [List.toList_toArray])
    | rw [← Array.forIn_toList]
  refine wpAny_bind (ksk_fold (fun i s' => ∃ h' tk e, s' = { s0 with heap := h', toks := tk } ∧ KeepsAll s0.heap h' ∧ h'.get? a = some (seqObj "list" #[] e1) ∧ h'.get? kS = some (seqObj "list" (ks.take i).toArray e)) vs 0 s
    ⟨s.heap, tk0, 0, e0, kp, ha, by rw [List.take_zero]; exact hk⟩ ?step ?done)
  case step =>
    rintro j x s' hx ⟨h', tk, e, rfl, k1, na, nk⟩
    rw [Nat.zero_add] at nk ⊢
    have hj : j < vs.length := (List.getElem?_eq_some_iff.mp hx).1
    obtain ⟨k, hkj⟩ : ∃ k, ks[j]? = some k := ⟨_, List.getElem?_eq_getElem (by omega)⟩
    refine wpAny_bind (wpAny_attempt (wpAny_mono (turn j x k hx hkj h' tk k1) (fun v s'' he => ?_) fun _ _ hF => hF.elim))
    obtain ⟨rfl, g, tk2, rfl, kg⟩ := he
    dsimp only
    have nk2 := kg _ _ nk
    have na2 := kg _ _ na
    have u1 := Heap.SameBut.update g kS (Obj.mapSeq (·.push v))
    have n2 := get?_update_seq nk2 (·.push v)
    have et : ((ks.take j).toArray).push v = (ks.take (j + 1)).toArray := by
      rw [List.take_add_one, hkj]
      simp
    have zt : (ks.take j).toArray.size ≤ 999 := by rw [List.size_toArray, List.length_take]; omega
    refine wpAny_bind (listUpdate_at nk2 rfl ?_ (line_small (by omega)) (by rw [Array.size_push]; exact Nat.succ_le_succ (line_small (by omega))))
    have kk2 : KeepsAll s0.heap (g.update kS (Obj.mapSeq (·.push v))) := fun b o q => (u1.2 b (fun z => by rw [z, k0] at q; cases q)).trans (kg b o (k1 b o q))
    rw [et] at n2
    exact wpAny_pure ⟨rfl, _, tk2, _, rfl, kk2, (u1.2 a hne.symm).trans na2, n2⟩
  case done =>
    rintro s' ⟨h', tk, e, rfl, k1, na, nk⟩
    rw [Nat.zero_add, ← hl, List.take_length] at nk
    refine wpAny_bind (listItems_at nk rfl ?_)
    refine ks_end (s := { s0 with heap := h', toks := tk }) (fun b o q _ => k1 b o q) ht hkey nk na hne hl hz fun h3 c out so q1 q2 => h h3 tk c out so q1 fun b o q => q2 b o (fun z => ?_) (fun z => ?_) (k1 b o q)
    · rw [z, k0] at q; cases q
    · rw [z, a0] at q; cases q

theorem ks_tree {s0 : Shared} {f : Value} {shape : Nat → Bool} {a : Addr} {ks vs fs : List Value} {n : Nat} {P : PySem.Fin → Shared → Prop} (h1 : ∃ tk, s = { s0 with heap := s.heap, toks := tk }) (kp : KeepsAll s0.heap s.heap) (ht : TupsOf s0.heap shape ks fs) (hkey : ∀ v, v ∈ ks → ∃ l, G.tupKeyC s0.heap shape v = some l)
    (ha : s.heap.get? a = some (seqObj "list" vs.toArray n)) (a0 : s0.heap.get? a = none) (hl : ks.length = vs.length) (hz : vs.length ≤ 1000) (hs : s0.heap.objs.size ≤ s.heap.objs.size)
    (turn : ∀ (i : Nat) (v k : Value), vs[i]? = some v → ks[i]? = some k → KeyTurn prog w A s0 f v k)
    (h : ∀ (h' : Heap) (tk c : Nat) (out : List Value), SortOut (G.tupKindC s0.heap shape) ks vs out → h'.get? a = some (seqObj "list" out.toArray c) → KeepsAll s0.heap h' → P (.done (.ret .none)) { s0 with heap := h', toks := tk }) :
    wpAny (model prog w) A (ksk_tree a f false) P E s := by
  obtain ⟨tk0, e0⟩ := h1
  have hal : a < s.heap.objs.size := Heap.lt_size ha
  have u1 := Heap.SameBut.update s.heap a (Obj.mapSeq fun _ => (#[] : Array Value))
  obtain ⟨e1, a1⟩ : ∃ e1, (s.heap.update a (Obj.mapSeq fun _ => (#[] : Array Value))).get? a = some (seqObj "list" #[] e1) := ⟨_, get?_update_seq ha fun _ => #[]⟩
  have z1 : (s.heap.update a (Obj.mapSeq fun _ => (#[] : Array Value))).objs.size = s.heap.objs.size := Heap.size_update ..
  have z2 : ((s.heap.update a (Obj.mapSeq fun _ => (#[] : Array Value))).push (seqObj "tuple" vs.toArray 0)).objs.size = s.heap.objs.size + 1 := by rw [size_push', z1]
  unfold ksk_tree
  refine wpAny_bind (listItems_at ha rfl (wpAny_bind (listUpdate_at ha rfl ?_ (by rw [List.size_toArray]; exact line_small hz) (Nat.zero_le _))))
  refine wpAny_bind (seqEpoch_at a1 rfl (wpAny_bind (wpAny_newTuple ?_ (by show vs.length ≤ _; exact line_small hz))))
  refine wpAny_bind (wpAny_newList (wpAny_holding ?_) (Nat.zero_le _))
  refine ks_rest (s := { s with heap := ((s.heap.update a (Obj.mapSeq fun _ => (#[] : Array Value))).push (seqObj "tuple" vs.toArray 0)).push (seqObj "list" #[] 0) }) (kS := ((s.heap.update a (Obj.mapSeq fun _ => (#[] : Array Value))).push (seqObj "tuple" vs.toArray 0)).objs.size)
    (s0 := s0) ⟨tk0, by rw [e0]⟩ (fun b o q => Heap.get?_push_of_some _ (Heap.get?_push_of_some _ ((u1.2 b (fun z => ?_)).trans (kp b o q)))) ht hkey (Heap.get?_push_size _ rfl) (Heap.get?_push_of_some _ (Heap.get?_push_of_some _ a1)) (by rw [z2]; exact Nat.ne_of_gt (Nat.lt_succ_of_lt hal))
    (Heap.get?_none_of_le (by rw [z2]; exact Nat.le_succ_of_le hs)) a0 hl hz turn h
  rw [z, a0] at q; cases q

theorem sorted_key {q l : Addr} {shape : Nat → Bool} {ks vs fs : List Value} {Q : Value → Shared → Prop} (hL : s.heap.IsList l vs.toArray) (ht : TupsOf s.heap shape ks fs) (hkey : ∀ v, v ∈ ks → ∃ l, G.tupKeyC s.heap shape v = some l) (hl : ks.length = vs.length) (hz : vs.length ≤ 1000)
    (turn : ∀ (i : Nat) (v k : Value), vs[i]? = some v → ks[i]? = some k → KeyTurn prog w A.in1.in1 s (.ref q) v k)
    (h : ∀ (D : Addr) (h' : Heap) (tk c : Nat) (out : List Value), SortOut (G.tupKindC s.heap shape) ks vs out → s.heap.objs.size ≤ D → h'.get? D = some (seqObj "list" out.toArray c) → KeepsAll s.heap h' → Q (.ref D) { s with heap := h', toks := tk }) :
    wpAny (model prog w) A (call (.builtin "sorted") [.ref l] [(Str.ofString "key", .ref q)]) Q E s := by
  refine call_function_entry_kw kind_sorted plain_sorted entry_sorted (ksk_s1 _ _) ?_
  unfold Builtin.«sorted»
  refine wpAny_bind (m := checkCount "sorted" 1 1 _) (wpAny_pure ?_)
  refine wpAny_bind (collect_list hL (wpAny_bind (wpAny_newList ?_ (line_small hz))) (line_small hz))
  have z1 : ((s.heap.push (seqObj "list" #[] 0)).update s.heap.objs.size (Obj.mapSeq (· ++ vs.toArray))).objs.size = s.heap.objs.size + 1 := by rw [Heap.size_update, size_push']
  have aL : (((s.heap.push (seqObj "list" #[] 0)).update s.heap.objs.size (Obj.mapSeq (· ++ vs.toArray))).push (seqObj "list" vs.toArray 0)).get? (s.heap.objs.size + 1) = some (seqObj "list" vs.toArray 0) := by
    rw [← z1]; exact Heap.get?_push_size _ rfl
  have kp : KeepsAll s.heap (((s.heap.push (seqObj "list" #[] 0)).update s.heap.objs.size (Obj.mapSeq (· ++ vs.toArray))).push (seqObj "list" vs.toArray 0)) := fun b o q => by
    have lt : b < s.heap.objs.size := Heap.lt_size q
    refine Heap.get?_push_of_some _ ?_
    rw [Heap.get?_update_ne _ _ _ _ (Nat.ne_of_lt lt)]
    exact Heap.get?_push_of_some _ q
  show wpAny _ _ _ _ _ { s with heap := ((s.heap.push (seqObj "list" #[] 0)).update s.heap.objs.size (Obj.mapSeq (· ++ vs.toArray))).push (seqObj "list" vs.toArray 0) }
  rw [z1]
  refine wpAny_bind (wpAny_holding (wpAny_call_entry_kw slot_list_sort ⟨_, aL, rfl⟩ entry_list_sort ?body (ksk_l1 _ _)))
  case body =>
    show wpAny (model prog w) A.in1.in1 (Builtin.«list.sort» ⟨[.ref (s.heap.objs.size + 1)], [(Str.ofString "key", .ref q)]⟩) _ _ _
    rw [ksk_t1]
    refine ks_tree (s := { s with heap := ((s.heap.push (seqObj "list" #[] 0)).update s.heap.objs.size (Obj.mapSeq (· ++ vs.toArray))).push (seqObj "list" vs.toArray 0) }) (s0 := s) ⟨s.toks, rfl⟩ kp ht hkey aL (Heap.get?_none_of_le (Nat.le_succ _)) hl hz
      (by show _ ≤ (Heap.push _ _).objs.size; rw [size_push', z1]; omega) turn fun h' tk c out so q1 q2 => ⟨_, rfl, ?_⟩
    exact wpAny_pure ⟨_, rfl, h _ h' tk c out so (Nat.le_succ _) q1 q2⟩
end
end Mat
end
section
set_option Elab.async false
set_option maxRecDepth 100000
set_option maxHeartbeats 2000000
namespace Mat
open PySem PySem.W PyProof.Rows
def adOf : Value → Addr
  | .ref a => a
  | _ => 0
theorem sortOut_addrs {h : Heap} {shape : Nat → Bool} {K : Addr → Value} {key : Addr → List (Int ⊕ List Nat)} {as : List Addr} {out : List Value} (hk : ∀ a, a ∈ as → G.tupKeyC h shape (K a) = some (key a))
    (so : SortOut (G.tupKindC h shape) (as.map K) (as.map Value.ref) out) :
    ∃ as' : List Addr, as'.Perm as ∧ out = as'.map Value.ref ∧ as'.Pairwise (fun a b => lexLt itemOrd (key b) (key a) = false) ∧ ∀ c, (as'.filter fun a => decide (key a = c)) = as.filter fun a => decide (key a = c) := by
  obtain ⟨xs, hp, hs, hst, rfl⟩ := so
  have ez : ((as.map K).toArray.zip (as.map Value.ref).toArray).toList = as.map fun a => (K a, Value.ref a) := by
    rw [Array.toList_zip, List.zip_map', ]
  have hpl : xs.toList.Perm (as.map fun a => (K a, Value.ref a)) := by
    rw [← ez]
    exact Array.perm_iff_toList_perm.mp hp
  have hx : xs.toList = (xs.toList.map fun p => adOf p.2).map fun a => (K a, Value.ref a) := by
    rw [List.map_map]
    conv => lhs; rw [← List.map_id xs.toList]
    refine List.map_congr_left fun p hp' => ?_
    obtain ⟨a, _, rfl⟩ := List.mem_map.mp (hpl.mem_iff.mp hp')
    rfl
  have hperm : (xs.toList.map fun p => adOf p.2).Perm as := by
    have := hpl.map fun p => adOf p.2
    rw [List.map_map] at this
    have e : as.map ((fun p : Value × Value => adOf p.2) ∘ fun a => (K a, Value.ref a)) = as := by
      conv => rhs; rw [← List.map_id as]
      rfl
    rw [e] at this
    exact this
  generalize hq : (xs.toList.map fun p => adOf p.2) = as' at hx hperm
  have hmem : ∀ a, a ∈ as' → a ∈ as := fun a ha => hperm.mem_iff.mp ha
  refine ⟨as', hperm, ?_, ?_, fun c => ?_⟩
  · rw [hx, List.map_map]
    rfl
  · rw [List.pairwise_iff_getElem]
    intro i j hi hj hij
    have hl : xs.size = as'.length := by rw [← Array.length_toList, hx, List.length_map]
    have kk : ∀ n (hn : n < as'.length), KK (G.tupKindC h shape) xs n = key as'[n] := fun n hn => by
      have e : xs[n]? = some (K as'[n], Value.ref as'[n]) := by
        rw [← Array.getElem?_toList, hx, List.getElem?_map, List.getElem?_eq_getElem hn]
        rfl
      unfold KK
      rw [e]
      show (G.tupKeyC h shape (K as'[n])).getD [] = _
      rw [hk _ (hmem _ (List.getElem_mem hn))]
      rfl
    have q := hs i j (Nat.le_of_lt hij) (by rw [hl]; exact hj)
    rw [kk i hi, kk j hj] at q
    exact q
  · have t := hst ([] ++ c)
    rw [List.nil_append] at t
    unfold rowOf at t
    rw [ez, hx, List.filter_map, List.filter_map] at t
    have e : ∀ m : List Addr, (∀ a ∈ m, a ∈ as) → m.filter ((sameKey (G.tupKindC h shape) c) ∘ fun a => (K a, Value.ref a)) = m.filter fun a => decide (key a = c) := fun m hm => by
      refine List.filter_congr fun a ha => ?_
      have e5 : sameKey (G.tupKindC h shape) c (K a, Value.ref a) = (!lexLt itemOrd (key a) c && !lexLt itemOrd c (key a)) := by
        unfold sameKey
        have e6 : (G.tupKindC h shape).keyOf (K a, Value.ref a).1 = some (key a) := hk a (hm a ha)
        rw [e6]
      show sameKey (G.tupKindC h shape) c (K a, Value.ref a) = _
      rw [e5]
      by_cases k : key a = c
      · rw [k, decide_eq_true rfl, lex_irrefl]
        rfl
      · rw [decide_eq_false k]
        cases h1 : lexLt itemOrd (key a) c with
        | true => rfl
        | false =>
          cases h2 : lexLt itemOrd c (key a) with
          | true => rfl
          | false => exact absurd (lex_total _ _ h1 h2) k
    rw [e as' hmem, e as (fun _ z => z)] at t
    have t2 := congrArg (List.map fun p : Value × Value => adOf p.2) t
    rw [List.map_map, List.map_map] at t2
    have e3 : ∀ m : List Addr, m.map ((fun p : Value × Value => adOf p.2) ∘ fun a => (K a, Value.ref a)) = m := fun m => by
      conv => rhs; rw [← List.map_id m]
      rfl
    rw [e3, e3] at t2
    exact t2
theorem lex_two {a b c d : Int} : lexLt itemOrd [Sum.inl a, Sum.inl b] [Sum.inl c, Sum.inl d] = (decide (a < c) || (!decide (c < a) && (decide (b < d) || (!decide (d < b) && false)))) := rfl
end Mat
end
section
set_option Elab.async false
set_option maxHeartbeats 1000000
namespace Mat
open Kyt
/-! ### places, and a list sorted by keys -/
def kb (a b : Nat × Nat) : Bool := decide (a.1 < b.1) || (a.1 == b.1 && decide (a.2 < b.2))
theorem kb_iff {a b : Nat × Nat} : kb a b = true ↔ a.1 < b.1 ∨ (a.1 = b.1 ∧ a.2 < b.2) := by
  unfold kb
  rw [Bool.or_eq_true, Bool.and_eq_true, decide_eq_true_iff, decide_eq_true_iff, beq_iff_eq]
theorem kb_false {a b : Nat × Nat} : kb a b = false ↔ ¬ (a.1 < b.1 ∨ (a.1 = b.1 ∧ a.2 < b.2)) := by
  rw [← kb_iff]
  cases kb a b <;> simp
theorem kb_irr (a : Nat × Nat) : kb a a = false := by rw [kb_false]; omega
theorem countP_le {α : Type} {p q : α → Bool} : ∀ {l : List α}, (∀ x ∈ l, p x = true → q x = true) → l.countP p ≤ l.countP q
  | [], _ => Nat.le_refl _
  | a :: l, h => by
    have ih := countP_le (l := l) fun x hx => h x (List.mem_cons_of_mem _ hx)
    rw [List.countP_cons, List.countP_cons]
    have h1 := h a (List.mem_cons_self ..)
    cases hp : p a with
    | true => rw [h1 hp]; omega
    | false => cases q a <;> simp <;> omega
theorem countP_lt {α : Type} {p q : α → Bool} : ∀ {l : List α}, (∀ x ∈ l, p x = true → q x = true) → (∃ x ∈ l, p x = false ∧ q x = true) → l.countP p < l.countP q
  | [], _, ⟨_, h, _⟩ => by cases h
  | a :: l, h, ⟨x, hx, h1, h2⟩ => by
    have hl : ∀ x ∈ l, p x = true → q x = true := fun x hx => h x (List.mem_cons_of_mem _ hx)
    rw [List.countP_cons, List.countP_cons]
    rcases List.mem_cons.mp hx with rfl | hx
    · rw [h1, h2]
      have := countP_le hl
      simp
      omega
    · have ih := countP_lt hl ⟨x, hx, h1, h2⟩
      have ha := h a (List.mem_cons_self ..)
      cases hp : p a with
      | true => rw [ha hp]; omega
      | false => cases q a <;> simp <;> omega
theorem filter_split {α : Type} (g : α → Nat) (N : Nat) : ∀ {l : List α}, l.Pairwise (fun a b => g a ≤ g b) → (l.filter fun x => decide (g x < N)) ++ (l.filter fun x => g x == N) = l.filter fun x => decide (g x < N + 1)
  | [], _ => rfl
  | a :: l, h => by
    obtain ⟨h1, h2⟩ := List.pairwise_cons.mp h
    have ih := filter_split g N h2
    by_cases c : g a < N
    · rw [List.filter_cons_of_pos (by simpa using c), List.filter_cons_of_neg (by simp; omega), List.filter_cons_of_pos (by simp; omega), List.cons_append, ih]
    · have e1 : l.filter (fun x => decide (g x < N)) = [] := by
        rw [List.filter_eq_nil_iff]
        intro x hx
        have := h1 x hx
        simp
        omega
      rw [e1, List.nil_append] at ih
      rw [List.filter_cons_of_neg (by simpa using c), e1, List.nil_append]
      by_cases d : g a = N
      · rw [List.filter_cons_of_pos (by simpa using d), List.filter_cons_of_pos (by simp; omega), ih]
      · rw [List.filter_cons_of_neg (by simpa using d), List.filter_cons_of_neg (by simp; omega), ih]
theorem range_filter {α : Type} (g : α → Nat) {l : List α} (h : l.Pairwise (fun a b => g a ≤ g b)) : ∀ N, ((List.range N).flatMap fun p => l.filter fun x => g x == p) = l.filter fun x => decide (g x < N)
  | 0 => by
    show [] = _
    symm
    rw [List.filter_eq_nil_iff]
    intro x _
    simp
  | N + 1 => by
    rw [List.range_succ, List.flatMap_append, range_filter g h N]
    show _ ++ ((l.filter fun x => g x == N) ++ []) = _
    rw [List.append_nil, filter_split g N h]
theorem place_count (f : Result → Result → Bool) (l : List Result) (x : Result) : place f l x = l.countP (fun y => f y x) + 1 := by
  unfold place
  rw [List.countP_eq_length_filter]
theorem ranked_sorted {f : Result → Result → Bool} {key : Result → Nat × Nat} (hf : ∀ a b, f a b = kb (key a) (key b)) {l l' : List Result} (hp : l'.Perm l) (hs : l'.Pairwise (fun a b => kb (key b) (key a) = false))
    (hst : ∀ c, (l'.filter fun x => decide (key x = c)) = l.filter fun x => decide (key x = c)) : ranked f l = l'.map (·.who) := by
  have mono : ∀ a b, kb (key b) (key a) = false → place f l a ≤ place f l b := fun a b h => by
    rw [place_count, place_count]
    refine Nat.succ_le_succ (countP_le fun y _ hy => ?_)
    rw [hf, kb_iff] at hy ⊢
    rw [kb_false] at h
    omega
  have same : ∀ a b, key a = key b → place f l a = place f l b := fun a b h => Nat.le_antisymm (mono a b (by rw [h]; exact kb_irr _)) (mono b a (by rw [h]; exact kb_irr _))
  have strict : ∀ a b, a ∈ l → kb (key a) (key b) = true → place f l a < place f l b := fun a b ha h => by
    rw [place_count, place_count]
    refine Nat.succ_lt_succ (countP_lt (fun y _ hy => ?_) ⟨a, ha, by rw [hf]; exact kb_irr _, by rw [hf]; exact h⟩)
    rw [hf, kb_iff] at hy ⊢
    rw [kb_iff] at h
    omega
  have back : ∀ a b, a ∈ l → b ∈ l → place f l a = place f l b → key a = key b := fun a b ha hb h => by
    cases h1 : kb (key a) (key b) with
    | true => have := strict a b ha h1; omega
    | false =>
      cases h2 : kb (key b) (key a) with
      | true => have := strict b a hb h2; omega
      | false =>
        rw [kb_false] at h1 h2
        have e1 : (key a).1 = (key b).1 := by omega
        have e2 : (key a).2 = (key b).2 := by omega
        exact Prod.ext e1 e2
  have below : ∀ a, a ∈ l → place f l a < l.length + 1 := fun a ha => by
    rw [place_count]
    refine Nat.succ_lt_succ ?_
    have h1 := countP_lt (p := fun y => f y a) (q := fun _ => true) (l := l) (fun _ _ _ => rfl) ⟨a, ha, by rw [hf]; exact kb_irr _, rfl⟩
    have h2 : l.countP (fun _ => true) = l.length := by simp
    omega
  have row : ∀ p, (l.filter fun x => place f l x == p) = l'.filter fun x => place f l x == p := fun p => by
    by_cases c : ∃ x, x ∈ l ∧ place f l x = p
    · obtain ⟨x, hx, rfl⟩ := c
      have e : ∀ m : List Result, (∀ y ∈ m, y ∈ l) → (m.filter fun y => place f l y == place f l x) = m.filter fun y => decide (key y = key x) := fun m hm => by
        refine List.filter_congr fun y hy => ?_
        by_cases k : key y = key x
        · rw [decide_eq_true k, same y x k, beq_self_eq_true]
        · rw [decide_eq_false k]
          exact beq_eq_false_iff_ne.mpr fun z => k (back y x (hm y hy) hx z)
      rw [e l (fun _ h => h), e l' (fun y h => hp.mem_iff.mp h), hst]
    · have e : ∀ m : List Result, (∀ y ∈ m, y ∈ l) → (m.filter fun y => place f l y == p) = [] := fun m hm => by
        rw [List.filter_eq_nil_iff]
        intro y hy z
        exact c ⟨y, hm y hy, beq_iff_eq.mp z⟩
      rw [e l (fun _ h => h), e l' (fun y h => hp.mem_iff.mp h)]
  have e1 : ranked f l = ((List.range (l.length + 1)).flatMap fun p => l'.filter fun x => place f l x == p).map (·.who) := by
    unfold ranked
    rw [List.map_flatMap]
    refine congrArg (fun g => List.flatMap g _) (funext fun p => ?_)
    rw [row p]
  rw [e1, range_filter (place f l) (hs.imp fun {a b} h => mono a b h) (l.length + 1)]
  congr 1
  rw [List.filter_eq_self]
  intro x hx
  exact decide_eq_true (below x (hp.mem_iff.mp hx))
theorem before_kb (a b : Result) : before a b = kb (a.gross, a.net) (b.gross, b.net) := rfl
theorem faster_kb (a b : Result) : faster a b = kb (a.net, a.gross) (b.net, b.gross) := rfl
end Mat
end
section
set_option Elab.async false
set_option maxRecDepth 100000
set_option maxHeartbeats 2000000
namespace Mat
open PySem PySem.Spec L2
open PyProof.Rows hiding St
open PySem.W (kla_obj kla_fn kla_callFunE kla_codeExpr kla_eval kla_makeFunction kla_makeFunctionHit CodeHd tabObj)

def lamArgs (p : Pos) : Arguments := { posonlyargs := [], args := [{ arg := "finish", annotation := none, pos := p }], vararg := none, kwonlyargs := [], kw_defaults := [], kwarg := none, defaults := [] }
def lamScope : Scope := { kind := .function, names := [(Str.ofString "finish", .local)], isGenerator := false, isCoroutine := false, more := [] }
def lamBody (fld : Str) (p1 p2 : Pos) : Expr := .Attribute (.Name "finish" p1) fld p2

/-! ### the lambda called -/
section
variable {prog : Program} {w : World} {K : PySem.W.Frag} {A : Around} {s : Shared}
theorem lam_turn {f c' x dx C : Addr} {qual fld : Str} {pa p1 p2 : Pos} {pm ctv k : Value} {mA : Str → Option Value} (hroom : A.depth < recursionLimit) (KX : K.In s.heap) (lim : s.heap.NoLimit)
    (hf : s.heap.get? f = some (kla_obj "<lambda>" qual (lamArgs pa) (lamBody fld p1 p2) lamScope [] pm c' ctv)) (hcd : s.heap.CodeRec (.ref c') qual)
    (O : ObjM s.heap x dx C mA) (c : Cls K C) (n : NoAttr K C fld) (hv : mA fld = some k) (hk : PySem.W.handedIn k = true) : KeyTurn prog w A s (.ref f) (.ref x) k := by
  intro h tk kp
  obtain ⟨c₂, oc, vs, t, e2, hoc, hd, hq⟩ := hcd
  cases e2
  refine wpAny_call (kla_callFunE hroom (kp _ _ hf) rfl rfl rfl rfl ⟨c', oc, vs, t, rfl, kp _ _ hoc, hd, hq⟩ ?_)
  have hb : bindArgs (kla_fn "<lambda>" qual (lamArgs pa) (lamBody fld p1 p2) lamScope [] pm (.ref c') ctv) ⟨[.ref x], []⟩ = pure [(Str.ofString "finish", .ref x)] := rfl
  rw [hb]
  refine wpAny_pure (wpAny_newFunctionEnv (fun y hy => ?_) (fun y hy => ?_) (fun h₁ hns hsb => ⟨?_, kla_codeExpr ?_⟩) rfl)
  · rw [List.mem_singleton.mp (show y ∈ [(Str.ofString "finish", NameKind.local)] from hy)]; decide
  · rw [List.mem_singleton.mp hy]; rfl
  · exact (lim.keeps kp).fresh _ hsb
  · have k1 : KeepsAll h h₁ := fun b o e => hsb.extBut b o (Nat.ne_of_lt (Heap.lt_size e)) (Heap.get?_push_of_some _ e)
    have k2 : KeepsAll s.heap h₁ := fun b o e => k1 b o (kp b o e)
    refine attr_of (prog := prog) (w := w) rfl (wpAny_Name (wpAny_loadName_local rfl rfl hns rfl ?_) (by decide))
    have O1 : ObjM h₁ x dx C mA := ⟨k2 _ _ O.obj, O.ns.at fun o e => k2 _ _ e, O.ne⟩
    exact get_map (K := K) (s := { s with heap := h₁, toks := _ }) (KX.keeps k2) O1 (c.get fld) c.hd n hv hk ⟨rfl, h₁, _, rfl, k1⟩
end

/-! ### the table of codes -/
theorem codeAmong_app {pos : Pos} {c : Value} (l c0 : Nat) (t : List Value) (h : TriplesOk t) :
    codeAmong pos (t ++ [rawInt l, rawInt c0, c]) = (codeAmong pos t).or (if l = pos.line ∧ c0 = pos.col then some c else none) := by
  fun_induction TriplesOk t with
  | case1 =>
    show (if ((l : Int) == pos.line && (c0 : Int) == pos.col) = true then some c else codeAmong pos []) = _
    by_cases e : l = pos.line ∧ c0 = pos.col
    · rw [if_pos e, if_pos (by rw [e.1, e.2]; simp)]; rfl
    · rw [if_neg e, if_neg (by simp; intro z; omega)]; rfl
  | case2 a t b u x rest ih =>
    simp only [List.cons_append, codeAmong]
    split
    · rfl
    · exact ih h
  | case3 l h1 h2 => exact h.elim
def TabOk (H : Hp) (P : Addr) (qual : Str) (poss : List Pos) : Prop := ∃ tb, H P = some (.tbl tb) ∧ TriplesOk tb.toList ∧
  ∀ pos ∈ poss, codeAmong pos tb.toList = none ∨ ∃ c' oc vs t, codeAmong pos tb.toList = some (.ref c') ∧ H c' = some (.frz oc (.ext fun _ => True)) ∧ oc.data = .fields vs ∧ vs[1]? = some (.str qual t)
def SameT (P : Addr) (H H' : Hp) : Prop := ∀ b o, b ≠ P → H b = some o → H' b = some o
theorem SameT.trans {P : Addr} {H H1 H2 : Hp} (a : SameT P H H1) (b : SameT P H1 H2) : SameT P H H2 := fun c o n h => b c o n (a c o n h)
theorem SameT.of {P : Addr} {H H1 : Hp} (a : Same H H1) : SameT P H H1 := fun c o _ h => a c o h
theorem TabOk.same {H H' : Hp} {P : Addr} {qual : Str} {poss : List Pos} (T : TabOk H P qual poss) (s : Same H H') : TabOk H' P qual poss := by
  obtain ⟨tb, h1, h2, h3⟩ := T
  refine ⟨tb, s _ _ h1, h2, fun pos hp => ?_⟩
  rcases h3 pos hp with h | ⟨c', oc, vs, t, q1, q2, q3⟩
  · exact .inl h
  · exact .inr ⟨c', oc, vs, t, q1, s _ _ q2, q3⟩
def BM (mg : Str → Option Value) (h : Heap) : Prop := ∃ bm ob, mg "__builtins__" = some (.ref bm) ∧ bm ≠ builtinsNs ∧ h.get? bm = some ob ∧ ob.cls = .type "module" ∧ ob.dict = some builtinsNs ∧ ob.data = .plain

/-! ### the lambda made -/
section
variable {X : Cx}
theorem inv_lam {pins : List (Addr × Obj)} {σ : St} {H : Hp} {s : Shared} {P c' : Addr} {tb more : Array Value} {h' : Heap} {oc : Obj} {tk : Nat} (I : Inv X pins σ H s) (hP : H P = some (.tbl tb)) (hx : ∀ b o, b ≠ P → s.heap.get? b = some o → h'.get? b = some o) (hc : s.heap.objs.size ≤ c')
    (hoc : h'.get? c' = some oc) (htb : h'.get? P = some { cls := .none, data := .fields (tb ++ more) }) :
    Inv X pins σ (upd (upd H c' (.frz oc (.ext fun _ => True))) P (.tbl (tb ++ more))) { s with heap := h', toks := tk } := by
  have nc : H c' = none := I.hok.fresh hc
  have hcP : c' ≠ P := (ne_of_none hP nc).symm
  have far : ∀ b o, H b = some o → b ≠ P → (upd (upd H c' (.frz oc (.ext fun _ => True))) P (.tbl (tb ++ more))) b = some o := fun b o e n => by
    rw [upd_ne n, upd_ne (ne_of_none e nc)]; exact e
  have nP : ∀ b o, H b = some o → (∀ t, o ≠ .tbl t) → b ≠ P := fun b o e d z => by rw [z, hP] at e; cases e; exact d _ rfl
  have fresh : ∀ b o, s.heap.get? b = some o → b ≠ c' := fun b o e z => by rw [z] at e; exact absurd (Heap.lt_size e) (Nat.not_lt.mpr hc)
  refine I.un ⟨fun b o e n _ _ => hx b o (fun z => by rw [z, hP] at n; cases n) e, fun b o e n _ _ => ⟨o.slots, hx b o (fun z => by rw [z, hP] at n; cases n) e⟩, fun b o e n _ => ?_, fun b o e _ => ?_, fun b xs e => far b _ e (nP b _ e fun t => by intro z; cases z), fun b o u e => far b _ e (nP b _ e fun t => by intro z; cases z), fun b ps e => ?_⟩ fun b o e => ?_
  · rw [upd_ne (fun z => by rw [z, hP] at n; cases n), upd_ne (fresh b o e)]; exact n
  · by_cases z : b = P
    · exact ⟨_, by rw [z]; exact htb⟩
    · exact ⟨o, hx b o z e⟩
  · by_cases z : b = P
    · subst z
      rw [hP] at e
      cases e
      exact ⟨more, upd_same⟩
    · exact ⟨#[], by rw [Array.append_empty]; exact far b _ e z⟩
  · by_cases z : b = P
    · subst z
      rw [upd_same] at e
      cases e
      exact htb
    · rw [upd_ne z] at e
      by_cases z2 : b = c'
      · subst z2
        rw [upd_same] at e
        cases e
        exact ⟨hoc, trivial, ⟨_, hoc⟩, fun _ _ _ _ => trivial⟩
      · rw [upd_ne z2] at e
        refine (I.hok b o e).stay (fun d u hd q => hx d u ?_ q) (fun d q => far d _ q (nP d _ q fun t => by intro w; cases w)) fun d xs q => far d _ q (nP d _ q fun t => by intro w; cases w)
        rcases hd with rfl | hd
        · exact z
        · exact nP d _ hd fun t => by intro w; cases w
theorem lam_made {pins : List (Addr × Obj)} {σ : St} {H : Hp} {s : Shared} {P c : Addr} {fld qual : Str} {poss : List Pos} {pa p1 p2 pos : Pos} {E : Value → Shared → Prop} {Q : Value → Shared → Prop} (I : Inv X pins σ H s) (hcode : X.env.code = .ref c) (hC : CodeHd X.base c P) (hB : BM X.mg X.base)
    (hq : X.env.qual ++ "<lambda>" = qual) (T : TabOk H P qual poss) (hp : pos ∈ poss)
    (h : ∀ f c' pm ctv H' s', Inv X pins σ H' s' → SameT P H H' → TabOk H' P qual poss → s'.heap.get? f = some (kla_obj "<lambda>" qual (lamArgs pa) (lamBody fld p1 p2) lamScope [] pm c' ctv) → s'.heap.CodeRec (.ref c') qual → Q (.ref f) s') :
    wpAny (model X.prog X.w) X.A (eval (.Lambda (lamArgs pa) (lamBody fld p1 p2) lamScope pos) X.env) Q E s := by
  obtain ⟨tb, hP, ht, hc⟩ := T
  have gP : s.heap.get? P = some (tabObj tb) := I.hok P _ hP
  obtain ⟨bm, ob, b1, b2, b3, b4, b5, b6⟩ := hB
  have bP : ∀ b o, X.base.get? b = some o → b ≠ P := fun b o e z => by
    have := (I.bs b o e).2
    rw [z, hP] at this; cases this
  have gG := I.mod.glob
  have nG : mainGlobals ≠ P := by obtain ⟨o, es, ep, e, _⟩ := gG; exact bP _ _ e
  have nB : bm ≠ mainGlobals := fun z => by
    obtain ⟨o, es, ep, e, hd, _⟩ := gG
    rw [z, e] at b3; cases b3; rw [hd] at b6; cases b6
  have hb : s.heap.BuiltinsAt X.mg P := ⟨bm, ob, b1, b2, nB, bP _ _ b3, I.bk _ _ b3, b4, b5, b6⟩
  refine kla_eval rfl ?_
  rw [hq]
  rcases hc pos hp with hn | ⟨c', oc, vs, t, q1, q2, q3, q4⟩
  · refine kla_makeFunction (mg := X.mg) (c := c) (P := P) (ps := tb) (clos := []) rfl I.ok.glob (gG.keeps I.bk) hcode (hC.keeps I.bk) gP ht hn nG hb fun c' ctv h' tk hx hge hlt hrec htb => ?_
    obtain ⟨c₂, oc, vs, t, e2, hoc, hd, hv⟩ := hrec
    cases e2
    have I2 := inv_lam (tk := tk) I hP (fun b o n e => Heap.get?_push_of_some _ (hx b o n e)) hge (Heap.get?_push_of_some _ hoc) (Heap.get?_push_of_some (kla_obj "<lambda>" qual (lamArgs pa) (lamBody fld p1 p2) lamScope [] ((X.mg "__name__").getD .none) c' ctv) htb)
    have nc : H c' = none := I.hok.fresh hge
    have hcP : c' ≠ P := (ne_of_none hP nc).symm
    refine h h'.objs.size c' _ ctv _ _ I2 (fun b o n e => by rw [upd_ne n, upd_ne (ne_of_none e nc)]; exact e) ⟨_, upd_same, ?_, fun pos' hp' => ?_⟩ (Heap.get?_push_size _ rfl) ⟨c', oc, vs, t, rfl, Heap.get?_push_of_some _ hoc, hd, hv⟩
    · rw [Array.toList_append]; exact TriplesOk_snoc _ _ _ _ ht
    · rw [Array.toList_append]
      show codeAmong pos' (tb.toList ++ [rawInt pos.line, rawInt pos.col, .ref c']) = none ∨ ∃ _, _
      rw [codeAmong_app _ _ _ ht]
      have new : (upd (upd H c' (.frz oc (.ext fun _ => True))) P (.tbl (tb ++ #[rawInt pos.line, rawInt pos.col, .ref c']))) c' = some (.frz oc (.ext fun _ => True)) := by rw [upd_ne hcP, upd_same]
      rcases hc pos' hp' with hn' | ⟨d', od, us, t', r1, r2, r3, r4⟩
      · rw [hn']
        by_cases z : pos.line = pos'.line ∧ pos.col = pos'.col
        · rw [if_pos z]; exact .inr ⟨c', oc, vs, t, rfl, new, hd, hv⟩
        · rw [if_neg z]; exact .inl rfl
      · rw [r1]
        refine .inr ⟨d', od, us, t', rfl, ?_, r3, r4⟩
        rw [upd_ne (ne_of r2 hP fun z => nomatch z), upd_ne (ne_of_none r2 nc)]
        exact r2
  · have hoc := (I.hok c' _ q2).1
    refine kla_makeFunctionHit (mg := X.mg) (c := c) (P := P) (ps := tb) (cv := .ref c') (clos := []) rfl I.ok.glob (gG.keeps I.bk) hcode (hC.keeps I.bk) gP ht q1 hb fun ctv h' tk hk hsz => ?_
    have kk : KeepsAll s.heap (h'.push { cls := .type "function", data := .func (kla_fn "<lambda>" qual (lamArgs pa) (lamBody fld p1 p2) lamScope [] ((X.mg "__name__").getD .none) (.ref c') ctv) }) := fun b o e => Heap.get?_push_of_some _ (hk b o e)
    exact h h'.objs.size c' _ ctv H _ (I.kept kk) (fun _ _ _ e => e) ⟨tb, hP, ht, hc⟩ (Heap.get?_push_size _ rfl) ⟨c', oc, vs, t, rfl, kk _ _ hoc, q3, q4⟩
end
end Mat
end
section
set_option Elab.async false
set_option maxRecDepth 100000
set_option maxHeartbeats 2000000
namespace Mat
open PySem PySem.Spec L2
open PyProof.Rows hiding St
open PySem.W (kla_obj CodeHd)

def keyL (k : Nat × Nat) : List (Int ⊕ List Nat) := [Sum.inl (k.1 : Int), Sum.inl (k.2 : Int)]
theorem keyL_inj {a b : Nat × Nat} : keyL a = keyL b ↔ a = b := by
  constructor
  · intro h
    unfold keyL at h
    injection h with h1 h2
    injection h2 with h2 _
    injection h1 with h1
    injection h2 with h2
    exact Prod.ext (by omega) (by omega)
  · intro h; rw [h]
theorem lex_kb (a b : Nat × Nat) : lexLt itemOrd (keyL a) (keyL b) = kb a b := by
  unfold keyL
  rw [lex_two]
  unfold kb
  have e1 : decide ((a.1 : Int) < (b.1 : Int)) = decide (a.1 < b.1) := by
    by_cases h : a.1 < b.1
    · rw [decide_eq_true h, decide_eq_true (by omega)]
    · rw [decide_eq_false h, decide_eq_false (by omega)]
  have e2 : decide ((a.2 : Int) < (b.2 : Int)) = decide (a.2 < b.2) := by
    by_cases h : a.2 < b.2
    · rw [decide_eq_true h, decide_eq_true (by omega)]
    · rw [decide_eq_false h, decide_eq_false (by omega)]
  rw [e1, e2, Bool.and_false, Bool.or_false]
  by_cases h : a.1 < b.1
  · rw [decide_eq_true h, Bool.true_or, Bool.true_or]
  · rw [decide_eq_false h, Bool.false_or, Bool.false_or]
    by_cases e : a.1 = b.1
    · rw [decide_eq_false (show ¬ (b.1 : Int) < (a.1 : Int) by omega), e, beq_self_eq_true]
      rfl
    · rw [decide_eq_true (show (b.1 : Int) < (a.1 : Int) by omega), beq_eq_false_iff_ne.mpr e]
      rfl

section
variable {X : Cx}
/-- sorted(e, key=lambda finish: finish.FLD) -/
def tSortL (K : PySem.W.Frag) (P : Addr) (qual : Str) (poss : List Pos) (fld : Str) (ta : TA) : TE := fun σ H Q => ta σ H fun vs H1 => ∃ (a C : Addr) (as : List Addr) (kt : Addr → Addr) (ky : Addr → Nat × Nat), vs = [.ref a] ∧ SqL K H1 a (as.map V.ref) ∧ as.length ≤ 1000 ∧
  Cls K C ∧ NoAttr K C fld ∧ (∀ x ∈ as, ∃ dx fs, H1 x = some (.ins C dx fs) ∧ fs.lookup fld = some (.ref (kt x)) ∧ H1 (kt x) = some (.tup [nV (ky x).1, nV (ky x).2])) ∧ TabOk H1 P qual poss ∧
  ∀ (H2 : Hp) (D : Addr) (as' : List Addr), H1 D = none → SameT P H1 H2 → TabOk H2 P qual poss → H2 D = some (.lst (as'.map V.ref)) → as'.Perm as → as'.Pairwise (fun x y => kb (ky y) (ky x) = false) →
    (∀ c, (as'.filter fun x => decide (ky x = c)) = as.filter fun x => decide (ky x = c)) → Q (.ref D) H2
theorem vals_refs : ∀ {as : List Addr} {us : List Value}, Vals (as.map V.ref) us → us = as.map Value.ref
  | [], _, h => by cases h; rfl
  | a :: as, _, h => by
    cases h with
    | cons r t =>
      cases r
      rw [vals_refs t]
      rfl
theorem refs_vals : ∀ as : List Addr, Vals (as.map V.ref) (as.map Value.ref)
  | [] => .nil
  | a :: as => .cons rfl (refs_vals as)
theorem tupsOf_map {h : Heap} {kt : Addr → Addr} {ky : Addr → Nat × Nat} : ∀ {as : List Addr}, (∀ x ∈ as, ∃ t u, IsTup h (kt x) #[.int (ky x).1 t, .int (ky x).2 u]) → ∃ fs, TupsOf h (fun _ => false) (as.map fun x => Value.ref (kt x)) fs
  | [], _ => ⟨[], .nil⟩
  | a :: as, hh => by
    obtain ⟨fs, r⟩ := tupsOf_map (as := as) fun x hx => hh x (List.mem_cons_of_mem _ hx)
    obtain ⟨t, u, o, ho, hc, n, hd⟩ := hh a (List.mem_cons_self ..)
    exact ⟨.int (ky a).1 t :: fs, .cons ⟨kt a, o, _, n, rfl, ho, hc, hd, rfl, fun _ => ⟨_, _, rfl⟩, fun z => nomatch z⟩ r⟩
theorem tupKey_of {h : Heap} {a : Addr} {k : Nat × Nat} {t u : Tok} (q : IsTup h a #[.int k.1 t, .int k.2 u]) : G.tupKeyC h (fun _ => false) (.ref a) = some (keyL k) := by
  obtain ⟨o, ho, hc, n, hd⟩ := q
  unfold G.tupKeyC
  have e1 : G.isTupObj h (.ref a) = true := by simp [G.isTupObj, ho, hc]
  rw [if_pos e1]
  simp only [tupKey, ho, hd]
  rfl
theorem pe_sortedL {e : Expr} {ta : TA} {p pos lpos kpos pa p1 p2 : Pos} {P c : Addr} {fld qual : Str} {poss : List Pos} {k : Nat} (hg : Gl X "sorted") (hm : X.mg "sorted" = none) (ha : PA X [e] ta) (hr : Room k X.A) (hcode : X.env.code = .ref c) (hC : CodeHd X.base c P) (hB : BM X.mg X.base)
    (hq : X.env.qual ++ "<lambda>" = qual) (hp : lpos ∈ poss) (hs : starEach [e] X.env = [(false, eval e X.env)] := by rfl) :
    PE X (.Call (.Name "sorted" p) [e] [⟨some "key", .Lambda (lamArgs pa) (lamBody fld p1 p2) lamScope lpos, kpos⟩] pos) (tSortL X.K P qual poss fld ta) := by
  intro pins s σ H Q I h
  refine wpAny_Call_Name_kw (ld_blt I hg hm boot_sorted ?_)
  refine callWith_kw (kws := [⟨some "key", .Lambda (lamArgs pa) (lamBody fld p1 p2) lamScope lpos, kpos⟩]) (thn (ha pos pins s σ H _ I h) fun us s1 ⟨vs, H1, I1, r1, q1⟩ => ?_) (by rw [hs]; rfl) (by rw [hs]; rfl) rfl rfl
  obtain ⟨a, C, as, kt, ky, ex, hq1, hlen, cC, nC, hx, T, q⟩ := q1
  subst ex
  refine kws_cons (lam_made I1 hcode hC hB hq T hp fun f c' pm ctv H2 s2 I2 st T2 hf hcd => kws_nil ?_)
  cases r1 with
  | cons r rr =>
    cases rr
    cases r
    have nP : ∀ b o, H1 b = some o → (∀ t, o ≠ .tbl t) → b ≠ P := fun b o e d z => by
      obtain ⟨tb, hP, _⟩ := T
      rw [z, hP] at e; cases e; exact d _ rfl
    have hq2 : SqL X.K H2 a (as.map V.ref) := by
      rcases hq1 with (z | ⟨o, z⟩) | z
      · exact .inl (.inl (st _ _ (nP _ _ z fun t => by intro y; cases y) z))
      · exact .inl (.inr ⟨o, st _ _ (nP _ _ z fun t => by intro y; cases y) z⟩)
      · exact .inr z
    have hx2 : ∀ x ∈ as, ∃ dx fs, H2 x = some (.ins C dx fs) ∧ fs.lookup fld = some (.ref (kt x)) ∧ H2 (kt x) = some (.tup [nV (ky x).1, nV (ky x).2]) := fun x hx' => by
      obtain ⟨dx, fs, z1, z2, z3⟩ := hx x hx'
      exact ⟨dx, fs, st _ _ (nP _ _ z1 fun t => by intro y; cases y) z1, z2, st _ _ (nP _ _ z3 fun t => by intro y; cases y) z3⟩
    obtain ⟨its, rv, pl, hz⟩ := I2.list hq2
    obtain rfl := vals_refs rv
    have tup : ∀ x ∈ as, ∃ t u, IsTup s2.heap (kt x) #[.int (ky x).1 t, .int (ky x).2 u] := fun x hx' => by
      obtain ⟨dx, fs, _, _, z3⟩ := hx2 x hx'
      obtain ⟨_, its, v1, it⟩ := (show ObjOk X.prog X.w H2 s2.heap (kt x) (.tup [nV (ky x).1, nV (ky x).2]) from I2.hok _ _ z3)
      cases v1 with
      | cons w1 w2 =>
        cases w2 with
        | cons w3 w4 =>
          cases w4
          obtain ⟨t, rfl⟩ := w1
          obtain ⟨u, rfl⟩ := w3
          exact ⟨t, u, it⟩
    obtain ⟨fs, tt⟩ := tupsOf_map tup
    refine sorted_key (l := a) (q := f) (vs := as.map Value.ref) (ks := as.map fun x => Value.ref (kt x)) (shape := fun _ => false) pl.isList tt (fun v hv => ?_) (by rw [List.length_map, List.length_map]) (by rw [List.length_map]; exact hlen) (fun i v k' hv hk => ?_) fun D h' tk c0 out so hD q1 kp => ?_
    · obtain ⟨x, hx', rfl⟩ := List.mem_map.mp hv
      obtain ⟨t, u, it⟩ := tup x hx'
      exact ⟨_, tupKey_of it⟩
    · rw [List.getElem?_map] at hv hk
      cases ei : as[i]? with
      | none => rw [ei] at hv; cases hv
      | some x =>
        rw [ei] at hv hk
        cases hv
        cases hk
        obtain ⟨dx, fs', z1, z2, _⟩ := hx2 x (List.mem_of_getElem? ei)
        obtain ⟨mA, O, rm, _⟩ := ins_get I2.hok z1
        obtain ⟨u, hu, ru⟩ := RelO.some_of (v := V.ref (kt x)) (o := mA fld) (by rw [← z2]; exact rm fld)
        obtain rfl : u = Value.ref (kt x) := ru
        exact lam_turn (K := X.K) (show X.A.depth < recursionLimit from hr.depth) I2.kIn I2.nolimit hf hcd O cC nC hu rfl
    · obtain ⟨as', p1', p2', p3', p4'⟩ := sortOut_addrs (K := fun x => Value.ref (kt x)) (key := fun x => keyL (ky x)) (fun x hx' => let ⟨t, u, it⟩ := tup x hx'; tupKey_of it) so
      subst p2'
      have fD : H2 D = none := I2.hok.fresh hD
      have f1 : H1 D = none := by
        cases z : H1 D with
        | none => rfl
        | some o =>
          by_cases zP : D = P
          · obtain ⟨tb, hP, _⟩ := T2
            rw [zP, hP] at fD; cases fD
          · rw [st _ _ zP z] at fD; cases fD
      have nDP : D ≠ P := fun z => by
        obtain ⟨tb, hP, _⟩ := T2
        rw [z, hP] at fD; cases fD
      have ll : (as'.map V.ref).length ≤ sizeLine := by rw [List.length_map, p1'.length_eq]; exact line_small hlen
      have I3 := I2.laid (a := D) (o := .lst (as'.map V.ref)) (h' := h') (t' := tk) kp hD ⟨ll, as'.map Value.ref, c0, refs_vals as', q1⟩
      refine ⟨.ref D, _, I3, rfl, q _ D as' f1 (st.trans (SameT.of (same_upd fD))) (T2.same (same_upd fD)) upd_same p1' (p3'.imp fun {x y} z => by rw [← lex_kb]; exact z) fun c1 => ?_⟩
      have z := p4' (keyL c1)
      have e1 : ∀ m : List Addr, (m.filter fun x => decide (keyL (ky x) = keyL c1)) = m.filter fun x => decide (ky x = c1) := fun m => List.filter_congr fun x _ => by
        by_cases y : ky x = c1
        · rw [decide_eq_true y, decide_eq_true (keyL_inj.mpr y)]
        · rw [decide_eq_false y, decide_eq_false fun w => y (keyL_inj.mp w)]
      rw [e1, e1] at z
      exact z
end
end Mat
end
section
set_option Elab.async false
set_option linter.unusedVariables false
set_option maxRecDepth 100000
set_option maxHeartbeats 2000000
namespace Mat
open PySem PySem.Spec L2
open PyProof.Rows hiding St

/-! ### what a race's objects are, and what a call may move -/
def Lay.foot (l : Lay) : List Addr := l.a :: l.G :: l.R :: l.L :: l.rs.flatMap fun q => q.x :: q.S :: q.ds
theorem foot_iff {l : Lay} {b : Addr} : b ∈ l.foot ↔ b = l.a ∨ b = l.G ∨ b = l.R ∨ (∃ (k : Nat) (q : RLay), l.rs[k]? = some q ∧ (b = q.x ∨ b ∈ q.ds)) ∨ b = l.L ∨ ∃ (k : Nat) (q : RLay), l.rs[k]? = some q ∧ b = q.S := by
  unfold Lay.foot
  rw [List.mem_cons, List.mem_cons, List.mem_cons, List.mem_cons, List.mem_flatMap]
  constructor
  · rintro (h | h | h | h | ⟨q, hq, h⟩)
    · exact .inl h
    · exact .inr (.inl h)
    · exact .inr (.inr (.inl h))
    · exact .inr (.inr (.inr (.inr (.inl h))))
    · obtain ⟨k, hk⟩ := List.mem_iff_getElem?.mp hq
      rcases List.mem_cons.mp h with h | h
      · exact .inr (.inr (.inr (.inl ⟨k, q, hk, .inl h⟩)))
      · rcases List.mem_cons.mp h with h | h
        · exact .inr (.inr (.inr (.inr (.inr ⟨k, q, hk, h⟩))))
        · exact .inr (.inr (.inr (.inl ⟨k, q, hk, .inr h⟩)))
  · rintro (h | h | h | ⟨k, q, hk, h⟩ | h | ⟨k, q, hk, h⟩)
    · exact .inl h
    · exact .inr (.inl h)
    · exact .inr (.inr (.inl h))
    · refine .inr (.inr (.inr (.inr ⟨q, List.mem_of_getElem? hk, ?_⟩)))
      rcases h with h | h
      · exact List.mem_cons.mpr (.inl h)
      · exact List.mem_cons_of_mem _ (List.mem_cons_of_mem _ h)
    · exact .inr (.inr (.inr (.inl h)))
    · exact .inr (.inr (.inr (.inr ⟨q, List.mem_of_getElem? hk, List.mem_cons_of_mem _ (List.mem_cons.mpr (.inl h))⟩)))
theorem mut_lst {H : Hp} {b : Addr} {xs : List V} (h : H b = some (.lst xs)) : Mut (H b) := by rw [h]; trivial
theorem mut_dK {H : Hp} {b : Addr} {xs : List (Key × V)} (h : H b = some (.dK xs)) : Mut (H b) := by rw [h]; trivial
theorem mut_ins {H : Hp} {b C dx : Addr} {xs : List (Str × V)} (h : H b = some (.ins C dx xs)) : Mut (H b) := by rw [h]; trivial
theorem RaceAt.mut {C CR : Addr} {H : Hp} {l : Lay} {r : Kyt.Race} (h : RaceAt C CR H l r) {b : Addr} (hb : b ∈ l.foot) : Mut (H b) := by
  rcases foot_iff.mp hb with rfl | rfl | rfl | ⟨k, q, hq, hb⟩ | rfl | ⟨k, q, hq, rfl⟩
  · exact mut_ins h.obj
  · obtain ⟨gs, hg, _⟩ := h.guns
    exact mut_dK hg
  · exact mut_lst h.runs
  · obtain ⟨x, hx, RU⟩ := h.runner hq
    rcases hb with rfl | hb
    · exact mut_ins RU.obj
    · obtain ⟨m, hm⟩ := List.mem_iff_getElem?.mp hb
      exact mut_dK (RU.at_ m b hm)
  · exact mut_lst h.least
  · obtain ⟨x, hx, RU⟩ := h.runner hq
    exact mut_lst RU.lst
structure Move (l l' : Lay) (H H' : Hp) : Prop where
  a : l'.a = l.a
  keep : ∀ b o, H b = some o → b ∉ l.foot → H' b = some o
  foot : ∀ b, b ∈ l'.foot → b ∈ l.foot ∨ H b = none
theorem Move.refl (l : Lay) (H : Hp) : Move l l H H := ⟨rfl, fun _ _ e _ => e, fun _ h => .inl h⟩
def RaceS (C CR : Addr) (H : Hp) (l : Lay) : Option Kyt.Race → Prop
  | none => (∃ L k G R n, H l.a = some (.ins C l.dx (fRace L k G R n))) ∧ ∀ b, b ∈ l.foot → b = l.a
  | some r => RaceAt C CR H l r
theorem RaceS.obj {C CR : Addr} {H : Hp} {l : Lay} : ∀ {s : Option Kyt.Race}, RaceS C CR H l s → ∃ L k G R n, H l.a = some (.ins C l.dx (fRace L k G R n))
  | none, h => h.1
  | some r, h => ⟨_, _, _, _, _, RaceAt.obj h⟩
theorem RaceS.mut {C CR : Addr} {H : Hp} {l : Lay} : ∀ {s : Option Kyt.Race}, RaceS C CR H l s → ∀ {b : Addr}, b ∈ l.foot → Mut (H b)
  | none, h, b, hb => by
    obtain ⟨L, k, G, R, n, e⟩ := h.1
    rw [h.2 b hb]
    exact mut_ins e
  | some r, h, b, hb => RaceAt.mut h hb
theorem RaceS.same {C CR : Addr} {H H' : Hp} {l : Lay} (s : Same H H') : ∀ {o : Option Kyt.Race}, RaceS C CR H l o → RaceS C CR H' l o
  | none, h => by
    obtain ⟨⟨L, k, G, R, n, e⟩, h2⟩ := h
    exact ⟨⟨L, k, G, R, n, s _ _ e⟩, h2⟩
  | some r, h => RaceAt.same h s
theorem Move.same {l : Lay} {H H' : Hp} (s : Same H H') : Move l l H H' := ⟨rfl, fun b o e _ => s b o e, fun _ h => .inl h⟩
theorem Move.trans {l l1 l2 : Lay} {H H1 H2 : Hp} (a : Move l l1 H H1) (b : Move l1 l2 H1 H2) : Move l l2 H H2 := by
  refine ⟨b.a.trans a.a, fun c o e n => b.keep c o (a.keep c o e n) fun z => ?_, fun c hc => ?_⟩
  · rcases a.foot c z with q | q
    · exact n q
    · rw [q] at e; cases e
  · rcases b.foot c hc with q | q
    · exact a.foot c q
    · cases e : H c with
      | none => exact .inr rfl
      | some o =>
        by_cases n : c ∈ l.foot
        · exact .inl n
        · rw [a.keep c o e n] at q; cases q
def Told (C CR : Addr) (H : Hp) (l : Lay) (c : Option (Option Kyt.Race × Kyt.Ans)) (Q : VK) : Prop :=
  ∃ s' ans, c = some (s', ans) ∧ ∀ H' l', RaceS C CR H' l' s' → Move l l' H H' → Q (.int ans.value) H'

theorem acts_start (s : Option Kyt.Race) (l : List Nat) (n : Nat) : Kyt.acts s (.start l n) = some (if Kyt.okLeast l = false ∨ 8 < n then (s, Kyt.say (-22)) else (some (Kyt.begun l n), Kyt.say 0)) := rfl
theorem acts_gun (r : Kyt.Race) (w t : Nat) : Kyt.acts (some r) (.gun w t) = some (if 3 < w ∨ Kyt.most < t then (some r, Kyt.say (-22)) else (some { r with guns := r.guns.set w (some t) }, Kyt.say 0)) := rfl
theorem acts_runner (r : Kyt.Race) (w q : Nat) : Kyt.acts (some r) (.runner w q) = some (if 3 < w ∨ 7 < q then (some r, Kyt.say (-22)) else if r.runners.length = 48 then (some r, Kyt.say (-28)) else (some { r with runners := r.runners ++ [⟨w, q, false⟩] }, Kyt.say (r.runners.length : Nat))) := rfl
theorem acts_seen (r : Kyt.Race) (k m t : Nat) : Kyt.acts (some r) (.seen k m t) = some (if r.runners.length ≤ k then (some r, Kyt.say (-2)) else if Kyt.last r < m ∨ Kyt.most < t then (some r, Kyt.say (-22)) else if Kyt.isThere r ⟨k, m, t⟩ then (some r, Kyt.say 0) else if r.seen.length = 1024 then (some r, Kyt.say (-28)) else (some { r with seen := r.seen ++ [⟨k, m, t⟩] }, Kyt.say 1)) := rfl
theorem acts_strike (r : Kyt.Race) (k o : Nat) : Kyt.acts (some r) (.strike k o) = some (match r.runners[k]? with | none => (some r, Kyt.say (-2)) | some x => if 1 < o then (some r, Kyt.say (-22)) else (some { r with runners := r.runners.set k { x with out := o == 1 } }, Kyt.say 0)) := rfl

section
variable {P : Program} {w : World} {K : PySem.W.Frag} {mg : Str → Option Value} {base : Heap} {C CR CW CF : Addr}

/-! ### bad_least -/
def spBad (K : PySem.W.Frag) : Sp := fun vs H Q _ => ∃ (p : Addr) (l : List Nat), vs = [.ref p] ∧ SqL K H p (l.map nV) ∧ Q (.bl (!Kyt.okLeast l)) H
theorem scBad : FnScope ["least", "span"] ["least"] (defScope sBad) := ⟨rfl, rfl, rfl, by decide +kernel, rfl, by decide +kernel, by decide +kernel⟩
theorem ok_bad {f : Addr} {fd : FuncData} (F : Fun K "bad_least" "bad_least" sBad f fd) (T : Txt K mg C CR CW CF) : FnOk P w K mg base CX0 1 f fd ["least"] (spBad K) := by
  refine F.ok scBad (fun vs H Q E h => ?_) (fun cdv A outer s H vs Q E hr h => ?_)
  · obtain ⟨p, l, rfl, _⟩ := h
    rfl
  · obtain ⟨p, l, rfl, hp, k⟩ := h
    refine ⟨_, pss_cons (ps_if (pw_or (pt_cmpR op_lt (pe_callB call_len_seq (by rfl) T.len PySem.boot_len (pa_cons (pv 0) pa_nil)) pe_int (nomark _)) (pw_or1 (pt_cmpR op_gt (pe_callB call_len_seq (by rfl) T.len PySem.boot_len (pa_cons (pv 0) pa_nil)) (pe_gi T.gMostMats) (nomark _)))).pt (pss_one (ps_ret pe_bl)) pss_nil)
      (pss_cons (ps_for PassesOwn.never rfl (pi_list (pv 0)) (pg_name (i := 1) scBad.nd rfl (Or.inl rfl))
        (pss_one (ps_if (pw_or (pt_cmpR op_lt (pv 1) pe_int (nomark _)) (pw_or1 (pt_cmpR op_gt (pv 1) (pe_gi T.gLongest) (nomark _)))).pt (pss_one (ps_ret pe_bl)) pss_nil)))
      (pss_one (ps_ret pe_bl))), ?_⟩
    refine ⟨_, rfl, p, _, rfl, .inl hp, _, _, rfl, rfl, _, rfl, ?_⟩
    rw [List.length_map]
    refine ite2 (fun h => ?_) (fun h => ?_)
    · have h := of_decide_eq_true h
      refine iteT ?_
      have e : Kyt.okLeast l = false := by unfold Kyt.okLeast; rw [decide_eq_false (show ¬ 1 ≤ l.length by omega)]; rfl
      rw [e] at k
      exact k
    · have h : ¬ (l.length : Int) < 1 := fun z => h (decide_eq_true z)
      refine ⟨_, rfl, p, _, rfl, .inl hp, _, _, rfl, rfl, _, rfl, ?_⟩
      rw [List.length_map]
      refine ite2 (fun h2 => ?_) (fun h2 => ?_)
      · have h2 := of_decide_eq_true h2
        have e : Kyt.okLeast l = false := by unfold Kyt.okLeast; rw [decide_eq_false (show ¬ l.length ≤ 8 by omega), Bool.and_false]; rfl
        rw [e] at k
        exact k
      · have h2 : ¬ (8 : Int) < (l.length : Int) := fun z => h2 (decide_eq_true z)
        have ok : Kyt.okLeast l = l.all fun x => decide (1 ≤ x) && decide (x ≤ 100000000) := by
          unfold Kyt.okLeast
          rw [decide_eq_true (show 1 ≤ l.length by omega), decide_eq_true (show l.length ≤ 8 by omega)]
          rfl
        refine ⟨_, rfl, p, rfl, ⟨_, hp⟩, for_list (K := K) (a := p) (xs := l.map nV) (fun i σ H' => ∃ v : Option V, σ = [some (.ref p), v] ∧ H' = H ∧ (l.take i).all (fun x => decide (1 ≤ x) && decide (x ≤ 100000000)) = true) ⟨none, rfl, rfl, rfl⟩
          (fun i σ H' _ ⟨_, _, e, _⟩ => by rw [e]; exact hp) ?_ ?_⟩
        · rintro i y σ H' hi ⟨v, rfl, rfl, ha⟩
          obtain ⟨n, hn, rfl⟩ : ∃ n, l[i]? = some n ∧ y = nV n := by
            rw [List.getElem?_map] at hi
            cases e : l[i]? with
            | none => rw [e] at hi; cases hi
            | some n => rw [e] at hi; exact ⟨n, rfl, (Option.some.inj hi).symm⟩
          have bad : ¬ (1 ≤ n ∧ n ≤ 100000000) → Kyt.okLeast l = false := fun z => by
            rw [ok, List.all_eq_false]
            refine ⟨n, List.mem_of_getElem? hn, ?_⟩
            simpa using z
          refine ⟨_, rfl, _, _, rfl, rfl, _, rfl, ite2 (fun h3 => ?_) (fun h3 => ?_)⟩
          · have h3 := of_decide_eq_true h3
            refine iteT ?_
            rw [bad (by omega)] at k
            exact k
          · have h3 : ¬ (n : Int) < 1 := fun z => h3 (decide_eq_true z)
            refine ⟨_, rfl, _, _, rfl, rfl, _, rfl, ite2 (fun h4 => ?_) (fun h4 => ?_)⟩
            · have h4 := of_decide_eq_true h4
              rw [bad (by omega)] at k
              exact k
            · have h4 : ¬ (100000000 : Int) < (n : Int) := fun z => h4 (decide_eq_true z)
              refine ⟨_, rfl, rfl, ?_⟩
              rw [take_snoc hn, List.all_append, ha]
              have e1 : 1 ≤ n := by omega
              have e2 : n ≤ 100000000 := by omega
              simp [e1, e2]
        · rintro σ H' ⟨v, rfl, rfl, ha⟩
          rw [List.length_map, List.take_length, ← ok] at ha
          rw [ha] at k
          exact k

/-! ### start_race -/
def spStart (K : PySem.W.Frag) (C CR : Addr) : Sp := fun vs H Q _ => ∃ (l : Lay) (s : Option Kyt.Race) (p : Addr) (n : Nat) (ls : List Nat), vs = [.ref l.a, nV n, .ref p] ∧ RaceS C CR H l s ∧ SqL K H p (ls.map nV) ∧ Told C CR H l (Kyt.acts s (.start ls n)) Q
theorem scStart : FnScope ["race", "lack", "least"] ["race", "lack", "least"] (defScope sStart) := ⟨rfl, rfl, rfl, by decide +kernel, rfl, by decide +kernel, by decide +kernel⟩
theorem good_begun {ls : List Nat} {n : Nat} (h : Kyt.okLeast ls = true) (hn : n ≤ 8) : Good (Kyt.begun ls n) :=
  ⟨h, hn, rfl, Nat.zero_le _, fun x hx => absurd (show x ∈ ([] : List Kyt.Runner) from hx) (by simp), Nat.zero_le _, fun x hx => absurd (show x ∈ ([] : List Kyt.Seen) from hx) (by simp)⟩
theorem ok_start {f : Addr} {fd : FuncData} (F : Fun K "start_race" "start_race" sStart f fd) (T : Txt K mg C CR CW CF) (DB : CallD P w K mg base "bad_least" 1 ["least"] (spBad K)) : FnOk P w K mg base CX0 2 f fd ["race", "lack", "least"] (spStart K C CR) := by
  refine F.ok scStart (fun vs H Q E h => ?_) (fun cdv A outer s H vs Q E hr h => ?_)
  · obtain ⟨l, s, p, n, ls, rfl, _⟩ := h
    rfl
  · obtain ⟨l, st, p, n, ls, rfl, RS, hp, s', ans, e, k⟩ := h
    obtain ⟨vL, vk, vG, vR, vn, ho⟩ := RS.obj
    refine ⟨_, pss_cons (ps_if (pw_or (pt_val (pe_def DB hr (pa_cons (pv 2) pa_nil))) (pw_or1 (pt_cmpR op_gt (pv 1) (pe_gi T.gMostLack) (nomark _)))).pt (pss_one (ps_ret (pe_gi T.gOut))) pss_nil)
      (pss_cons (ps_fld (pv 0) (pe_callTy call_list_of (by rfl) T.list_ PyProof.Rows.boot_list (pa_cons (pv 2) pa_nil)) rfl)
      (pss_cons (ps_fld (pv 0) (pv 1) rfl)
      (pss_cons (ps_fld (pv 0) pe_dnewK rfl)
      (pss_cons (ps_fld (pv 0) (pe_lst pa_nil) rfl)
      (pss_cons (ps_fld (pv 0) pe_int rfl)
      (pss_one (ps_ret pe_int))))))), ?_⟩
    have bad : (Kyt.okLeast ls = false ∨ 8 < n) → Q (.int (-22)) H := fun z => by
      rw [acts_start, if_pos z] at e
      cases e
      exact k H l RS (Move.refl l H)
    refine ⟨_, rfl, p, ls, rfl, hp, _, rfl, ite2 (fun h => iteT (bad (.inl ?_))) (fun h => ?_)⟩
    · cases e2 : Kyt.okLeast ls with
      | false => rfl
      | true => rw [e2] at h; exact absurd h (by simp)
    · have okl : Kyt.okLeast ls = true := by
        cases e2 : Kyt.okLeast ls with
        | true => rfl
        | false => rw [e2] at h; exact absurd rfl h
      refine ⟨_, rfl, _, _, rfl, rfl, _, rfl, ite2 (fun h2 => bad (.inr ?_)) (fun h2 => ?_)⟩
      · have h2 := of_decide_eq_true h2
        omega
      · have h2 : ¬ (8 : Int) < (n : Int) := fun z => h2 (decide_eq_true z)
        have hn : n ≤ 8 := by omega
        have e3 : s' = some (Kyt.begun ls n) ∧ ans = Kyt.say 0 := by
          rw [acts_start, if_neg (by rw [okl]; simp; omega)] at e
          cases e
          exact ⟨rfl, rfl⟩
        obtain ⟨rfl, rfl⟩ := e3
        refine ⟨_, rfl, p, _, rfl, .inl hp, fun L hL => ?_⟩
        have nL : L ≠ l.a := (ne_of_none ho hL).symm
        refine ⟨_, rfl, l.a, C, l.dx, _, rfl, by rw [upd_ne nL.symm]; exact ho, T.cC, T.nLeast, (by show 5 < 1000; decide), ?_⟩
        refine ⟨_, rfl, _, rfl, l.a, C, l.dx, _, rfl, upd_same, T.cC, T.nLack, (by show 5 < 1000; decide), ?_⟩
        intro G hG
        have nG : G ≠ l.a := fun z => by rw [z, upd_same] at hG; cases hG
        refine ⟨_, rfl, l.a, C, l.dx, _, rfl, by rw [upd_ne nG.symm, upd_same], T.cC, T.nGuns, (by show 5 < 1000; decide), ?_⟩
        refine ⟨Nat.zero_le _, fun R hR => ?_⟩
        have nR : R ≠ l.a := fun z => by rw [z, upd_same] at hR; cases hR
        refine ⟨_, rfl, l.a, C, l.dx, _, rfl, by rw [upd_ne nR.symm, upd_same], T.cC, T.nRuns, (by show 5 < 1000; decide), ?_⟩
        refine ⟨_, rfl, l.a, C, l.dx, _, rfl, upd_same, T.cC, T.nCount, (by show 5 < 1000; decide), ?_⟩
        have nRG : R ≠ G := fun z => by rw [z, upd_ne nG, upd_same] at hR; cases hR
        have nRL : R ≠ L := fun z => by
          rw [z, upd_ne nL] at hR
          by_cases w : L = G
          · rw [w, upd_same] at hR; cases hR
          · rw [upd_ne w, upd_ne nL, upd_ne nL, upd_same] at hR; cases hR
        have nGL : G ≠ L := fun z => by rw [z, upd_ne nL, upd_ne nL, upd_same] at hG; cases hG
        have fG : H G = none := by
          rw [upd_ne nG, upd_ne nG, upd_ne nGL] at hG; exact hG
        have fR : H R = none := by
          rw [upd_ne nR, upd_ne nRG, upd_ne nR, upd_ne nR, upd_ne nRL] at hR; exact hR
        refine k _ ⟨l.a, l.dx, L, G, R, []⟩ ⟨good_begun okl hn, upd_same, ?_, ⟨[], ?_, rfl, fun w' => ?_⟩, ?_, rfl, fun k q x e => by simp at e, fun k k' q q' e => by simp at e, fun k k' q q' m m' d e => by simp at e, fun k q d e => by simp at e, fun k q e => by simp at e⟩ ⟨rfl, fun b o e n => ?_, fun b hb => ?_⟩
        · show _ = some (HO.lst (ls.map nV))
          rw [upd_ne nL, upd_ne nL, upd_ne nRL.symm, upd_ne nL, upd_ne nGL.symm, upd_ne nL, upd_ne nL, upd_same]
        · rw [upd_ne nG, upd_ne nG, upd_ne nRG.symm, upd_ne nG, upd_same]
        · show _ = (([none, none, none, none] : List (Option Nat)).getD w' none).map nV
          match w' with
          | 0 => rfl
          | 1 => rfl
          | 2 => rfl
          | 3 => rfl
          | n + 4 => rfl
        · show _ = some (HO.lst [])
          rw [upd_ne nR, upd_ne nR, upd_same]
        · have na : b ≠ l.a := fun z => n (foot_iff.mpr (.inl z))
          rw [upd_ne na, upd_ne na, upd_ne (ne_of_none e fR), upd_ne na, upd_ne (ne_of_none e fG), upd_ne na, upd_ne na, upd_ne (ne_of_none e hL)]
          exact e
        · rcases foot_iff.mp hb with z | z | z | ⟨k, q, hq, _⟩ | z | ⟨k, q, hq, _⟩
          · exact .inl (foot_iff.mpr (.inl z))
          · exact .inr (by rw [z]; exact fG)
          · exact .inr (by rw [z]; exact fR)
          · simp at hq
          · exact .inr (by rw [z]; exact hL)
          · simp at hq
end
end Mat
end
section
set_option Elab.async false
set_option linter.unusedVariables false
set_option maxRecDepth 100000
set_option maxHeartbeats 2000000
namespace Mat
open PySem PySem.Spec L2
open PyProof.Rows hiding St

theorem length_put {kvs : List (Key × V)} {k : Key} {v : V} : (putK kvs k v).length = if (valV kvs k).isSome = true then kvs.length else kvs.length + 1 := by
  unfold putK
  rw [valV_any]
  split
  · rw [List.length_map]
  · rw [List.length_append]; rfl
theorem countP_set : ∀ {l : List (Option Nat)} {w t : Nat}, w < l.length → (l.set w (some t)).countP (·.isSome) = if (l.getD w none).isSome = true then l.countP (·.isSome) else l.countP (·.isSome) + 1
  | [], w, t, h => by simp at h
  | a :: l, 0, t, h => by
    rw [List.set_cons_zero, List.countP_cons, List.countP_cons]
    cases a with
    | none => rfl
    | some x => rfl
  | a :: l, w + 1, t, h => by
    have ih := countP_set (l := l) (w := w) (t := t) (by simpa using h)
    rw [List.set_cons_succ, List.countP_cons, List.countP_cons, ih]
    show _ = if (l.getD w none).isSome = true then _ else _
    split <;> omega
theorem getD_set {l : List (Option Nat)} {w t j : Nat} (h : w < l.length) : (l.set w (some t)).getD j none = if j = w then some t else l.getD j none := by
  rw [List.getD_eq_getElem?_getD, List.getElem?_set, List.getD_eq_getElem?_getD]
  by_cases e : w = j
  · subst e
    rw [if_pos rfl, if_pos h, if_pos rfl]
    rfl
  · rw [if_neg e, if_neg fun z => e z.symm]

section
variable {P : Program} {w : World} {K : PySem.W.Frag} {mg : Str → Option Value} {base : Heap} {C CR CW CF : Addr}

/-! ### set_gun -/
def spGun (C CR : Addr) : Sp := fun vs H Q _ => ∃ (l : Lay) (r : Kyt.Race) (wv t : Nat), vs = [.ref l.a, nV wv, nV t] ∧ RaceAt C CR H l r ∧ Told C CR H l (Kyt.acts (some r) (.gun wv t)) Q
theorem scGun : FnScope ["race", "wave", "time"] ["race", "wave", "time"] (defScope sGun) := ⟨rfl, rfl, rfl, by decide +kernel, rfl, by decide +kernel, by decide +kernel⟩
theorem RaceAt.ne_G {H : Hp} {l : Lay} {r : Kyt.Race} (RA : RaceAt C CR H l r) {b : Addr} {o : HO} (h : H b = some o) (d : ∀ kv, o ≠ .dK kv) : b ≠ l.G := by
  obtain ⟨gs, hG, _⟩ := RA.guns
  exact ne_of h hG (d gs)
theorem RaceAt.put_gun {H : Hp} {l : Lay} {r : Kyt.Race} (RA : RaceAt C CR H l r) {wv t : Nat} (hw : wv ≤ 3) {gs : List (Key × V)} (hG : H l.G = some (.dK gs)) (h1 : gs.length = r.guns.countP (·.isSome)) (h2 : ∀ w : Nat, valV gs (Sum.inl (w : Int)) = (r.guns.getD w none).map nV) :
    RaceAt C CR (upd H l.G (.dK (putK gs (Sum.inl (wv : Int)) (nV t)))) l { r with guns := r.guns.set wv (some t) } := by
  have far : ∀ {b : Addr} {o : HO}, H b = some o → b ≠ l.G → (upd H l.G (.dK (putK gs (Sum.inl (wv : Int)) (nV t)))) b = some o := fun {b o} e n => by rw [upd_ne n]; exact e
  have lw : wv < r.guns.length := by rw [RA.good.guns]; omega
  have g := RA.good
  refine ⟨⟨g.ok, g.lack, by rw [List.length_set]; exact g.guns, g.run, g.wv, g.sn, g.sm⟩, far RA.obj (RA.ne_G RA.obj fun _ z => nomatch z), far RA.least (RA.ne_G RA.least fun _ z => nomatch z), ⟨_, upd_same, ?_, fun w' => ?_⟩, far RA.runs (RA.ne_G RA.runs fun _ z => nomatch z), RA.len, fun k q x e1 e2 => ?_, RA.injX, RA.injD, RA.dG, RA.SR⟩
  · rw [length_put, h2 wv, countP_set lw, h1]
    cases r.guns.getD wv none <;> rfl
  · rw [valV_put, h2 w', getD_set lw]
    by_cases e : w' = wv
    · rw [if_pos (by rw [e]), if_pos e]; rfl
    · rw [if_neg (fun z => e (by injection z with z; omega)), if_neg e]
  · have RU := RA.at_ k q x e1 e2
    exact ⟨far RU.obj (RA.ne_G RU.obj fun _ z => nomatch z), far RU.lst (RA.ne_G RU.lst fun _ z => nomatch z), RU.len, fun m d e => far (RU.at_ m d e) (RA.dG k q d e1 (List.mem_of_getElem? e))⟩
theorem ok_gun {f : Addr} {fd : FuncData} (F : Fun K "set_gun" "set_gun" sGun f fd) (T : Txt K mg C CR CW CF) : FnOk P w K mg base CX0 1 f fd ["race", "wave", "time"] (spGun C CR) := by
  refine F.ok scGun (fun vs H Q E h => ?_) (fun cdv A outer s H vs Q E hr h => ?_)
  · obtain ⟨l, r, wv, t, rfl, _⟩ := h
    rfl
  · obtain ⟨l, r, wv, t, rfl, RA, s', ans, e, k⟩ := h
    have hu := hu_of hr
    refine ⟨_, pss_cons (ps_if (pw_or (pt_cmpR op_gt (pv 1) (pe_gi T.gLastWave) (nomark _)) (pw_or1 (pt_cmpR op_gt (pv 2) (pe_gi T.gLastTime) (nomark _)))).pt (pss_one (ps_ret (pe_gi T.gOut))) pss_nil)
      (pss_cons (ps_dput hu (pe_fld (pv 0) rfl) (pv 1) (pv 2) rfl) (pss_one (ps_ret pe_int))), ?_⟩
    have hm : Kyt.most = 86400000 := rfl
    have bad : (3 < wv ∨ Kyt.most < t) → Q (.int (-22)) H := fun z => by
      rw [acts_gun, if_pos z] at e
      cases e
      exact k H l RA (Move.refl l H)
    refine ⟨_, rfl, _, _, rfl, rfl, _, rfl, ite2 (fun h => iteT (bad (.inl ?_))) (fun h => ?_)⟩
    · have h := of_decide_eq_true h
      omega
    · have h : ¬ (3 : Int) < (wv : Int) := fun z => h (decide_eq_true z)
      refine ⟨_, rfl, _, _, rfl, rfl, _, rfl, ite2 (fun h2 => bad (.inr ?_)) (fun h2 => ?_)⟩
      · have h2 := of_decide_eq_true h2
        omega
      · have h2 : ¬ (86400000 : Int) < (t : Int) := fun z => h2 (decide_eq_true z)
        rw [acts_gun, if_neg (by omega)] at e
        cases e
        obtain ⟨gs, hG, g1, g2⟩ := RA.guns
        have hl : gs.length ≤ 4 := by
          rw [g1, ← RA.good.guns]
          exact List.countP_le_length
        refine ⟨_, rfl, _, rfl, l.a, C, l.dx, _, _, rfl, RA.obj, T.cC, T.nGuns, rfl, _, rfl, l.G, _, rfl, DPut.k (k := Sum.inl (wv : Int)) hG (small1000 (by omega)), ?_⟩
        refine k _ l (RA.put_gun (by omega) hG g1 g2) ⟨rfl, fun b o e n => ?_, fun b hb => .inl hb⟩
        rw [upd_ne fun z => n (foot_iff.mpr (.inr (.inl z)))]
        exact e

/-! ### set_struck -/
def spStruck (C CR : Addr) : Sp := fun vs H Q _ => ∃ (l : Lay) (r : Kyt.Race) (k o : Nat), vs = [.ref l.a, nV k, nV o] ∧ RaceAt C CR H l r ∧ Told C CR H l (Kyt.acts (some r) (.strike k o)) Q
theorem scStruck : FnScope ["race", "who", "on"] ["race", "who", "on"] (defScope sStruck) := ⟨rfl, rfl, rfl, by decide +kernel, rfl, by decide +kernel, by decide +kernel⟩
theorem timesAt_eq {r r' : Kyt.Race} (h : r'.seen = r.seen) (k m : Nat) : Kyt.timesAt r' k m = Kyt.timesAt r k m := by unfold Kyt.timesAt; rw [h]
theorem fRun_ne {CR C dx dx' : Addr} {w q s S : V} {L k G R n : V} : HO.ins CR dx (fRun w q s S) ≠ HO.ins C dx' (fRace L k G R n) := fun z => by
  injection z with _ _ z
  have := congrArg List.length z
  simp [fRun, fRace] at this
theorem RaceAt.strike {H : Hp} {l : Lay} {r : Kyt.Race} (RA : RaceAt C CR H l r) {k : Nat} {q : RLay} {x : Kyt.Runner} (hq : l.rs[k]? = some q) (hx : r.runners[k]? = some x) (o : Bool) :
    RaceAt C CR (upd H q.x (.ins CR q.dx (fRun (nV x.wave) (nV x.kind) (.bl o) (.ref q.S)))) l { r with runners := r.runners.set k { x with out := o } } := by
  have RU := RA.at_ k q x hq hx
  have far : ∀ {b : Addr} {u : HO}, H b = some u → b ≠ q.x → (upd H q.x (.ins CR q.dx (fRun (nV x.wave) (nV x.kind) (.bl o) (.ref q.S)))) b = some u := fun {b u} e n => by rw [upd_ne n]; exact e
  have ne : ∀ {b : Addr} {u : HO}, H b = some u → (∀ a b c, u ≠ .ins a b c) → b ≠ q.x := fun {b u} e d => ne_of e RU.obj (d _ _ _)
  have g := RA.good
  obtain ⟨gs, hG, g1, g2⟩ := RA.guns
  have hk : k < r.runners.length := (List.getElem?_eq_some_iff.mp hx).1
  refine ⟨⟨g.ok, g.lack, g.guns, by rw [List.length_set]; exact g.run, fun y hy => ?_, g.sn, fun s hs => by rw [List.length_set]; exact g.sm s hs⟩, far RA.obj (ne_of RA.obj RU.obj fun z => fRun_ne z.symm), far RA.least (ne RA.least fun _ _ _ z => nomatch z), ⟨gs, far hG (ne hG fun _ _ _ z => nomatch z), g1, g2⟩, far RA.runs (ne RA.runs fun _ _ _ z => nomatch z), by rw [List.length_set]; exact RA.len, fun k' q' x' e1 e2 => ?_, RA.injX, RA.injD, RA.dG, RA.SR⟩
  · rcases List.mem_or_eq_of_mem_set hy with z | z
    · exact g.wv y z
    · rw [z]; exact g.wv x (List.mem_of_getElem? hx)
  · have e2 : (r.runners.set k { x with out := o })[k']? = some x' := e2
    rw [List.getElem?_set] at e2
    by_cases z : k = k'
    · subst z
      rw [if_pos rfl, if_pos hk] at e2
      cases e2
      rw [hq] at e1
      cases e1
      exact ⟨upd_same, far RU.lst (ne RU.lst fun _ _ _ z => nomatch z), RU.len, fun m d e => far (RU.at_ m d e) (ne (RU.at_ m d e) fun _ _ _ z => nomatch z)⟩
    · rw [if_neg z] at e2
      have RU' := RA.at_ k' q' x' e1 e2
      exact ⟨far RU'.obj (fun y => z (RA.injX k k' q q' hq e1 y.symm)), far RU'.lst (ne RU'.lst fun _ _ _ z => nomatch z), RU'.len, fun m d e => far (RU'.at_ m d e) (ne (RU'.at_ m d e) fun _ _ _ z => nomatch z)⟩
theorem ok_struck {f : Addr} {fd : FuncData} (F : Fun K "set_struck" "set_struck" sStruck f fd) (T : Txt K mg C CR CW CF) : FnOk P w K mg base CX0 1 f fd ["race", "who", "on"] (spStruck C CR) := by
  refine F.ok scStruck (fun vs H Q E h => ?_) (fun cdv A outer s H vs Q E hr h => ?_)
  · obtain ⟨l, r, k, o, rfl, _⟩ := h
    rfl
  · obtain ⟨l, r, k, o, rfl, RA, s', ans, e, kk⟩ := h
    refine ⟨_, pss_cons (ps_if (pt_cmpR op_ge (pv 1) (pe_callB call_len_seq (by rfl) T.len PySem.boot_len (pa_cons (pe_fld (pv 0) rfl) pa_nil)) (nomark _)) (pss_one (ps_ret (pe_gi T.gNoRunner))) pss_nil)
      (pss_cons (ps_if (pt_cmpR op_gt (pv 2) pe_int (nomark _)) (pss_one (ps_ret (pe_gi T.gOut))) pss_nil)
      (pss_cons (ps_fld (pe_ix ix_list (pe_fld (pv 0) rfl) (pv 1) (fun _ _ => rfl)) (pe_cmpR op_eq (pv 2) pe_int (nomark _)) rfl)
      (pss_one (ps_ret pe_int)))), ?_⟩
    refine ⟨_, rfl, _, rfl, l.a, C, l.dx, _, _, rfl, RA.obj, T.cC, T.nRuns, rfl, l.R, _, rfl, .inl (SqL.of RA.runs), _, _, rfl, rfl, _, rfl, ?_⟩
    rw [List.length_map, RA.len]
    refine ite2 (fun h => ?_) (fun h => ?_)
    · have h := of_decide_eq_true h
      have e0 : r.runners[k]? = none := List.getElem?_eq_none_iff.mpr (by omega)
      rw [acts_strike, e0] at e
      cases e
      exact kk H l RA (Move.refl l H)
    · have h : ¬ (r.runners.length : Int) ≤ (k : Int) := fun z => h (decide_eq_true z)
      have hk : k < r.runners.length := by omega
      obtain ⟨q, hq⟩ := RA.lay hk
      obtain ⟨x, hx, RU⟩ := RA.runner hq
      rw [acts_strike, hx] at e
      refine ⟨_, rfl, _, _, rfl, rfl, _, rfl, ite2 (fun h2 => ?_) (fun h2 => ?_)⟩
      · have h2 := of_decide_eq_true h2
        have e : some (if 1 < o then (some r, Kyt.say (-22)) else (some { r with runners := r.runners.set k { x with out := o == 1 } }, Kyt.say 0)) = some (s', ans) := e
        rw [if_pos (by omega)] at e
        cases e
        exact kk H l RA (Move.refl l H)
      · have h2 : ¬ (1 : Int) < (o : Int) := fun z => h2 (decide_eq_true z)
        have e : some (if 1 < o then (some r, Kyt.say (-22)) else (some { r with runners := r.runners.set k { x with out := o == 1 } }, Kyt.say 0)) = some (s', ans) := e
        rw [if_neg (by omega)] at e
        cases e
        refine ⟨_, rfl, rfl, _, rfl, l.a, C, l.dx, _, _, rfl, RA.obj, T.cC, T.nRuns, rfl, _, rfl, l.R, _, _, _, rfl, rfl, SqL.of RA.runs, at_of (j := k) (v := V.ref q.x) rfl (by rw [List.getElem?_map, hq]; rfl), q.x, CR, q.dx, _, rfl, RU.obj, T.cR, T.rStruck, (by show 4 < 1000; decide), ?_⟩
        have eb : decide (nV o = V.int 1) = (o == 1) := by
          by_cases z : o = 1
          · rw [z]; rfl
          · rw [decide_eq_false (fun y => z (by unfold nV at y; injection y with y; omega)), beq_eq_false_iff_ne.mpr z]
        have R2 := RA.strike hq hx (o == 1)
        refine kk _ l ?_ ⟨rfl, fun b u e n => ?_, fun b hb => .inl hb⟩
        · show RaceAt C CR (upd H q.x (.ins CR q.dx (fRun (nV x.wave) (nV x.kind) (.bl (decide (nV o = V.int 1))) (.ref q.S)))) l _
          rw [eb]
          exact R2
        · rw [upd_ne fun z => n (foot_iff.mpr (.inr (.inr (.inr (.inl ⟨k, q, hq, .inl z⟩)))))]
          exact e
end
end Mat
end
section
set_option Elab.async false
set_option linter.unusedVariables false
set_option maxRecDepth 100000
set_option maxHeartbeats 2000000
namespace Mat
open PySem PySem.Spec L2
open PyProof.Rows hiding St

theorem yes_ok {σ : L2.St} {H : Hp} {Q : Bool → Hp → Prop} (h : Q true H) : tYes σ H Q := h
theorem upd_none {H : Hp} {p d : Addr} {o : HO} (h : upd H p o d = none) : H d = none ∧ d ≠ p := by
  by_cases e : d = p
  · rw [e, upd_same] at h; cases h
  · rw [upd_ne e] at h; exact ⟨h, e⟩
theorem valT {ts : List Nat} {t : Nat} : valV (dictT ts) (Sum.inl (t : Int)) = if t ∈ ts then some (V.bl true) else none := by
  induction ts with
  | nil => rfl
  | cons a ts ih =>
    show valV ((Sum.inl (a : Int), V.bl true) :: dictT ts) (Sum.inl (t : Int)) = _
    by_cases e : a = t
    · subst e
      rw [valV_pos rfl, if_pos (List.mem_cons_self ..)]
    · have e' : ¬ ((Sum.inl (a : Int), V.bl true) : Key × V).1 = Sum.inl (t : Int) := fun z => e (by injection z with z; omega)
      rw [valV_neg e', ih]
      by_cases m : t ∈ ts
      · rw [if_pos m, if_pos (List.mem_cons_of_mem _ m)]
      · rw [if_neg m, if_neg fun z => (List.mem_cons.mp z).elim (fun w => e w.symm) m]
theorem dictT_snoc (ts : List Nat) (t : Nat) : dictT (ts ++ [t]) = dictT ts ++ [(Sum.inl (t : Int), V.bl true)] := by unfold dictT; rw [List.map_append]; rfl
theorem timesAt_snoc (r : Kyt.Race) (k m t k' m' : Nat) : Kyt.timesAt { r with seen := r.seen ++ [⟨k, m, t⟩] } k' m' = Kyt.timesAt r k' m' ++ (if k = k' ∧ m = m' then [t] else []) := by
  unfold Kyt.timesAt
  rw [List.filter_append, List.map_append]
  congr 1
  by_cases c : k = k' ∧ m = m'
  · rw [if_pos c, List.filter_cons_of_pos (by rw [c.1, c.2]; simp)]; rfl
  · rw [if_neg c, List.filter_cons_of_neg (by simpa using c)]; rfl
theorem isThere_iff (r : Kyt.Race) (k m t : Nat) : Kyt.isThere r ⟨k, m, t⟩ = true ↔ t ∈ Kyt.timesAt r k m := by
  unfold Kyt.isThere Kyt.timesAt
  rw [List.any_eq_true, List.mem_map]
  constructor
  · rintro ⟨x, hx, h⟩
    simp at h
    exact ⟨x, List.mem_filter.mpr ⟨hx, by simp [h]⟩, h.2⟩
  · rintro ⟨x, hx, rfl⟩
    obtain ⟨h1, h2⟩ := List.mem_filter.mp hx
    simp at h2
    exact ⟨x, h1, by simp [h2]⟩
theorem timesAt_len (r : Kyt.Race) (k m : Nat) : (Kyt.timesAt r k m).length ≤ r.seen.length := by
  unfold Kyt.timesAt
  rw [List.length_map]
  exact List.length_filter_le ..
theorem timesAt_none {r : Kyt.Race} (g : Good r) {k : Nat} (hk : r.runners.length ≤ k) (m : Nat) : Kyt.timesAt r k m = [] := by
  unfold Kyt.timesAt
  have : (r.seen.filter fun s => s.who == k && s.mat == m) = [] := by
    rw [List.filter_eq_nil_iff]
    intro s hs
    have := (g.sm s hs).2
    simp
    omega
  rw [this]
  rfl

section
variable {P : Program} {w : World} {K : PySem.W.Frag} {mg : Str → Option Value} {base : Heap} {C CR CW CF : Addr}

/-! ### Race.__init__ -/
def spRaceI (C : Addr) : Sp := fun vs H Q _ => ∃ (p dx : Addr), vs = [.ref p] ∧ H p = some (.ins C dx []) ∧ ∀ H' : Hp, (∃ L k G R n, H' p = some (.ins C dx (fRace L k G R n))) → (∀ b o, H b = some o → b ≠ p → H' b = some o) → Q .non H'
theorem scRaceI : FnScope ["self"] ["self"] (defScope sRaceI) := ⟨rfl, rfl, rfl, by decide +kernel, rfl, by decide +kernel, by decide +kernel⟩
theorem ok_raceI {f : Addr} {fd : FuncData} (F : Fun K "__init__" "Race.__init__" sRaceI f fd) (T : Txt K mg C CR CW CF) : FnOk P w K mg base CX0 1 f fd ["self"] (spRaceI C) := by
  refine F.ok scRaceI (fun vs H Q E h => ?_) (fun cdv A outer s H vs Q E hr h => ?_)
  · obtain ⟨p, dx, rfl, _⟩ := h
    rfl
  · obtain ⟨p, dx, rfl, hp, k⟩ := h
    refine ⟨_, pss_cons (ps_fld (pv 0) (pe_lst pa_nil) rfl) (pss_cons (ps_fld (pv 0) pe_int rfl) (pss_cons (ps_fld (pv 0) pe_dnewK rfl) (pss_cons (ps_fld (pv 0) (pe_lst pa_nil) rfl) (pss_one (ps_fld (pv 0) pe_int rfl))))), ?_⟩
    refine ⟨Nat.zero_le _, fun L hL => ?_⟩
    have nL : L ≠ p := (ne_of_none hp hL).symm
    refine ⟨_, rfl, p, C, dx, _, rfl, by rw [upd_ne nL.symm]; exact hp, T.cC, T.nLeast, (by show 0 < 1000; decide), ?_⟩
    refine ⟨_, rfl, p, C, dx, _, rfl, upd_same, T.cC, T.nLack, (by show 1 < 1000; decide), ?_⟩
    intro G hG
    obtain ⟨hG1, nG⟩ := upd_none hG
    refine ⟨_, rfl, p, C, dx, _, rfl, by rw [upd_ne nG.symm, upd_same], T.cC, T.nGuns, (by show 2 < 1000; decide), ?_⟩
    refine ⟨Nat.zero_le _, fun R hR => ?_⟩
    obtain ⟨hR1, nR⟩ := upd_none hR
    refine ⟨_, rfl, p, C, dx, _, rfl, by rw [upd_ne nR.symm, upd_same], T.cC, T.nRuns, (by show 3 < 1000; decide), ?_⟩
    refine ⟨_, rfl, p, C, dx, _, rfl, upd_same, T.cC, T.nCount, (by show 4 < 1000; decide), ?_⟩
    refine k _ ⟨.ref L, .int 0, .ref G, .ref R, .int 0, upd_same⟩ fun b o e hb => ?_
    have fG : H G = none := (upd_none (upd_none (upd_none hG).1).1).1
    have fR : H R = none := (upd_none (upd_none (upd_none (upd_none (upd_none hR).1).1).1).1).1
    rw [upd_ne hb, upd_ne hb, upd_ne (ne_of_none e fR), upd_ne hb, upd_ne (ne_of_none e fG), upd_ne hb, upd_ne hb, upd_ne (ne_of_none e hL)]
    exact e

/-! ### Runner.__init__ -/
def spRunI (CR : Addr) : Sp := fun vs H Q _ => ∃ (p dx : Addr) (wv q n : Nat), vs = [.ref p, nV wv, nV q, nV n] ∧ n ≤ 8 ∧ H p = some (.ins CR dx []) ∧
  ∀ (H' : Hp) (S : Addr) (ds : List Addr), H' p = some (.ins CR dx (fRun (nV wv) (nV q) (.bl false) (.ref S))) → H' S = some (.lst (ds.map V.ref)) → ds.length = n + 1 → ds.Nodup → (∀ d, d ∈ ds → H' d = some (.dK []) ∧ H d = none) → H S = none → (∀ b o, H b = some o → b ≠ p → H' b = some o) → Q .non H'
theorem scRunI : FnScope ["self", "wave", "kind", "mats", "mat"] ["self", "wave", "kind", "mats"] (defScope sRunI) := ⟨rfl, rfl, rfl, by decide +kernel, rfl, by decide +kernel, by decide +kernel⟩
theorem bkRun : BlkOk ["self", "wave", "kind", "mats", "mat"] (defScope sRunI) { kind := .function, names := [(Str.ofString ".0", .local), (Str.ofString "mat", .local)], isGenerator := false, isCoroutine := false } [("mat", 4)] := blkOk_by (by decide +kernel)
theorem ok_runI {f : Addr} {fd : FuncData} (F : Fun K "__init__" "Runner.__init__" sRunI f fd) (T : Txt K mg C CR CW CF) : FnOk P w K mg base CX0 1 f fd ["self", "wave", "kind", "mats"] (spRunI CR) := by
  refine F.ok scRunI (fun vs H Q E h => ?_) (fun cdv A outer s H vs Q E hr h => ?_)
  · obtain ⟨p, dx, wv, q, n, rfl, _⟩ := h
    rfl
  · obtain ⟨p, dx, wv, q, n, rfl, hn, hp, k⟩ := h
    refine ⟨_, pss_cons (ps_fld (pv 0) (pv 1) rfl) (pss_cons (ps_fld (pv 0) (pv 2) rfl) (pss_cons (ps_fld (pv 0) pe_bl rfl)
      (pss_one (ps_fld (pv 0) (pe_lc (own := [("mat", 4)]) rfl scRunI.nd (pi_range1 rfl T.range (pa_cons (pe_op op_add (pv 3) pe_int) pa_nil)) bkRun (fun _ _ _ _ _ => pg_name (i := 4) scRunI.nd rfl (Or.inl rfl)) (fun _ _ _ _ _ => pts_nil) (fun _ _ _ _ _ => pe_dnewK)) rfl)))), ?_⟩
    refine ⟨_, rfl, _, rfl, p, CR, dx, [], rfl, hp, T.cR, T.rWave, (by decide), ?_⟩
    refine ⟨_, rfl, _, rfl, p, CR, dx, _, rfl, upd_same, T.cR, T.rKind, (by show 1 < 1000; decide), ?_⟩
    refine ⟨_, rfl, p, CR, dx, _, rfl, upd_same, T.cR, T.rStruck, (by show 2 < 1000; decide), ?_⟩
    have nD : ∀ d, (upd (upd (upd H p (.ins CR dx (putF "wave" (nV wv) []))) p (.ins CR dx (putF "kind" (nV q) (putF "wave" (nV wv) [])))) p (.ins CR dx (putF "struck" (.bl false) (putF "kind" (nV q) (putF "wave" (nV wv) []))))) d = none → H d = none ∧ d ≠ p := fun d z =>
      ⟨(upd_none (upd_none (upd_none z).1).1).1, (upd_none z).2⟩
    have hpp : (upd (upd (upd H p (.ins CR dx (putF "wave" (nV wv) []))) p (.ins CR dx (putF "kind" (nV q) (putF "wave" (nV wv) [])))) p (.ins CR dx (putF "struck" (.bl false) (putF "kind" (nV q) (putF "wave" (nV wv) []))))) p = some (.ins CR dx (putF "struck" (.bl false) (putF "kind" (nV q) (putF "wave" (nV wv) [])))) := upd_same
    have hkp : ∀ b o, H b = some o → b ≠ p → (upd (upd (upd H p (.ins CR dx (putF "wave" (nV wv) []))) p (.ins CR dx (putF "kind" (nV q) (putF "wave" (nV wv) [])))) p (.ins CR dx (putF "struck" (.bl false) (putF "kind" (nV q) (putF "wave" (nV wv) []))))) b = some o := fun b o e hb => by
      rw [upd_ne hb, upd_ne hb, upd_ne hb]; exact e
    generalize (upd (upd (upd H p (.ins CR dx (putF "wave" (nV wv) []))) p (.ins CR dx (putF "kind" (nV q) (putF "wave" (nV wv) [])))) p (.ins CR dx (putF "struck" (.bl false) (putF "kind" (nV q) (putF "wave" (nV wv) []))))) = H3 at nD hpp hkp ⊢
    refine ⟨_, rfl, _, _, rfl, rfl, _, rfl, by omega, by omega, fun S hS => ?_⟩
    have en : ((n : Int) + 1).toNat = n + 1 := by omega
    rw [en]
    refine lc_range (fun i H' => ∃ ds : List Addr, ds.length = i ∧ ds.Nodup ∧ H' S = some (.lst (ds.map V.ref)) ∧ (∀ d, d ∈ ds → H' d = some (.dK []) ∧ H3 d = none ∧ d ≠ S) ∧ Same H3 H') ⟨[], rfl, List.nodup_nil, upd_same, (fun d hd => absurd hd (by simp)), same_upd hS⟩ ?_ ?_
    · rintro i H4 hi ⟨ds, h1, h2, h3, h4, h5⟩
      refine ⟨rfl, yes_ok (iteT ?_)⟩
      refine fun d hd => ⟨ds.map V.ref, by rw [upd_ne (ne_of_none h3 hd)]; exact h3, by rw [List.length_map, h1]; exact small1000 (by omega), ds ++ [d], by rw [List.length_append, h1]; rfl, ?_, by rw [upd_same, List.map_append]; rfl, fun d' hd' => ?_, fun b o e => ?_⟩
      · rw [List.nodup_append]
        refine ⟨h2, by simp, fun a ha b hb => ?_⟩
        rw [List.mem_singleton.mp hb]
        exact ne_of_none (h4 a ha).1 hd
      · rcases List.mem_append.mp hd' with z | z
        · have z2 := h4 d' z
          rw [upd_ne z2.2.2, upd_ne (ne_of_none z2.1 hd)]
          exact z2
        · rw [List.mem_singleton.mp z]
          have nd : d ≠ S := (ne_of_none h3 hd).symm
          rw [upd_ne nd, upd_same]
          exact ⟨rfl, h5.free hd, nd⟩
      · rw [upd_ne (ne_of_none e hS), upd_ne (ne_of_none (h5 _ _ e) hd)]
        exact h5 _ _ e
    · rintro H4 ⟨ds, h1, h2, h3, h4, h5⟩
      have nSp : S ≠ p := (ne_of_none hpp hS).symm
      refine ⟨_, rfl, p, CR, dx, _, rfl, h5 _ _ hpp, T.cR, T.rSights, (by show 3 < 1000; decide), ?_⟩
      refine k _ S ds upd_same (by rw [upd_ne nSp]; exact h3) h1 h2 (fun d hd => ?_) (nD S hS).1 fun b o e hb => ?_
      · have z := h4 d hd
        have z2 := nD d z.2.1
        rw [upd_ne z2.2]
        exact ⟨z.1, z2.1⟩
      · rw [upd_ne hb]
        exact h5 _ _ (hkp b o e hb)
end
end Mat
end
section
set_option Elab.async false
set_option linter.unusedVariables false
set_option maxRecDepth 100000
set_option maxHeartbeats 2000000
namespace Mat
open PySem PySem.Spec L2
open PyProof.Rows hiding St
section
variable {P : Program} {w : World} {K : PySem.W.Frag} {mg : Str → Option Value} {base : Heap} {C CR CW CF : Addr}
theorem lst_ne_L {ls : List Nat} {as : List Addr} (h : 1 ≤ ls.length) : HO.lst (ls.map nV) ≠ HO.lst (as.map V.ref) := fun z => by
  injection z with z
  match ls, as, h, z with
  | a :: ls, [], _, z => simp at z
  | a :: ls, b :: as, _, z =>
    rw [List.map_cons, List.map_cons] at z
    injection z with z _
    cases z
theorem RaceAt.ne_R {H : Hp} {l : Lay} {r : Kyt.Race} (RA : RaceAt C CR H l r) {b : Addr} {o : HO} (h : H b = some o) (d : ∀ xs, o ≠ .lst xs) : b ≠ l.R := ne_of h RA.runs (d _)
theorem RaceAt.L_R {H : Hp} {l : Lay} {r : Kyt.Race} (RA : RaceAt C CR H l r) : l.L ≠ l.R := by
  have e : l.rs.map (fun q => V.ref q.x) = (l.rs.map fun q => q.x).map V.ref := by rw [List.map_map]; rfl
  exact ne_of RA.least RA.runs (by rw [e]; exact lst_ne_L (okLeast_len RA.good.ok).1)

/-! ### add_runner -/
def spAddR (C CR : Addr) : Sp := fun vs H Q _ => ∃ (l : Lay) (r : Kyt.Race) (wv q : Nat), vs = [.ref l.a, nV wv, nV q] ∧ RaceAt C CR H l r ∧ Told C CR H l (Kyt.acts (some r) (.runner wv q)) Q
theorem scAddR : FnScope ["race", "wave", "kind", "number"] ["race", "wave", "kind"] (defScope sAddR) := ⟨rfl, rfl, rfl, by decide +kernel, rfl, by decide +kernel, by decide +kernel⟩
theorem RaceAt.addR {H H4 : Hp} {l : Lay} {r : Kyt.Race} (RA : RaceAt C CR H l r) {wv q : Nat} (hw : wv ≤ 3) (hq : q ≤ 7) (hn : r.runners.length < 48) (s4 : Same H H4) {y dy S : Addr} {ds : List Addr}
    (h1 : H4 y = some (.ins CR dy (fRun (nV wv) (nV q) (.bl false) (.ref S)))) (h2 : H4 S = some (.lst (ds.map V.ref))) (h3 : ds.length = r.least.length + 1) (h4 : ds.Nodup) (h5 : ∀ d, d ∈ ds → H4 d = some (.dK []) ∧ H d = none) (fy : H y = none) (fS : H S = none) :
    RaceAt C CR (upd H4 l.R (.lst (l.rs.map (fun q => V.ref q.x) ++ [.ref y]))) { l with rs := l.rs ++ [⟨y, dy, S, ds⟩] } { r with runners := r.runners ++ [⟨wv, q, false⟩] } := by
  have far : ∀ {b : Addr} {o : HO}, H4 b = some o → b ≠ l.R → (upd H4 l.R (.lst (l.rs.map (fun q => V.ref q.x) ++ [.ref y]))) b = some o := fun {b o} e n => by rw [upd_ne n]; exact e
  have g := RA.good
  have RA4 := RA.same s4
  obtain ⟨gs, hG, g1, g2⟩ := RA4.guns
  have old : ∀ {k : Nat} {q' : RLay}, (l.rs ++ [(⟨y, dy, S, ds⟩ : RLay)])[k]? = some q' → l.rs[k]? = some q' ∨ (k = l.rs.length ∧ q' = ⟨y, dy, S, ds⟩) := fun {k q'} e => by
    by_cases hk : k < l.rs.length
    · rw [List.getElem?_append_left hk] at e; exact .inl e
    · rw [List.getElem?_append_right (by omega)] at e
      have hk2 : k - l.rs.length = 0 := by
        cases hz : k - l.rs.length with
        | zero => rfl
        | succ n => rw [hz] at e; simp at e
      rw [hk2] at e
      exact .inr ⟨by omega, (Option.some.inj e).symm⟩
  have trk : ∀ {k : Nat} {q' : RLay}, l.rs[k]? = some q' → (∃ o, H q'.x = some o) ∧ (∀ d, d ∈ q'.ds → ∃ o, H d = some o) := fun {k q'} e => by
    obtain ⟨x, hx, RU⟩ := RA.runner e
    exact ⟨⟨_, RU.obj⟩, fun d hd => let ⟨m, hm⟩ := List.mem_iff_getElem?.mp hd; ⟨_, RU.at_ m d hm⟩⟩
  have nw : ∀ {b : Addr}, H b = none → ∀ {c : Addr}, (∃ o, H c = some o) → c ≠ b := fun {b} hb {c} ⟨o, hc⟩ => ne_of_none hc hb
  refine ⟨⟨g.ok, g.lack, g.guns, by rw [List.length_append]; show r.runners.length + 1 ≤ 48; omega, fun x hx => ?_, g.sn, fun s hs => ⟨(g.sm s hs).1, by rw [List.length_append]; exact Nat.lt_add_right _ (g.sm s hs).2⟩⟩, far RA4.obj (RA4.ne_R RA4.obj fun _ z => nomatch z), far RA4.least RA4.L_R, ⟨gs, far hG (RA4.ne_R hG fun _ z => nomatch z), g1, g2⟩, ?_, ?_, fun k q' x e1 e2 => ?_, fun k k' q1 q2 e1 e2 e => ?_, fun k k' q1 q2 m m' d e1 e2 e3 e4 => ?_, fun k q' d e1 hd => ?_, fun k q' e1 => ?_⟩
  · rcases List.mem_append.mp hx with z | z
    · exact g.wv x z
    · rw [List.mem_singleton.mp z]; exact ⟨hw, hq⟩
  · show _ = some (HO.lst ((l.rs ++ [(⟨y, dy, S, ds⟩ : RLay)]).map fun q => V.ref q.x))
    rw [upd_same, List.map_append]; rfl
  · show (l.rs ++ [(⟨y, dy, S, ds⟩ : RLay)]).length = _
    rw [List.length_append, List.length_append, RA.len]; rfl
  · have e2 : (r.runners ++ [(⟨wv, q, false⟩ : Kyt.Runner)])[k]? = some x := e2
    rcases old e1 with z | ⟨rfl, rfl⟩
    · have hk : k < r.runners.length := by rw [← RA.len]; exact (List.getElem?_eq_some_iff.mp z).1
      rw [List.getElem?_append_left hk] at e2
      have RU := RA4.at_ k q' x z e2
      exact ⟨far RU.obj (RA4.ne_R RU.obj fun _ z => nomatch z), far RU.lst (RA.SR k q' z), RU.len, fun m d e => far (RU.at_ m d e) (RA4.ne_R (RU.at_ m d e) fun _ z => nomatch z)⟩
    · rw [List.getElem?_append_right (by rw [RA.len]; exact Nat.le_refl _), RA.len, Nat.sub_self] at e2
      cases e2
      refine ⟨far h1 (RA4.ne_R h1 fun _ z => nomatch z), far h2 (fun z => ?_), h3, fun m d e => ?_⟩
      · have := RA.runs
        rw [← z, fS] at this; cases this
      · have z := h5 d (List.mem_of_getElem? e)
        have ed : Kyt.timesAt { r with runners := r.runners ++ [⟨wv, q, false⟩] } l.rs.length m = [] := by
          rw [timesAt_eq rfl]
          exact timesAt_none g (by rw [RA.len]; exact Nat.le_refl _) m
        show _ = some (HO.dK (dictT (Kyt.timesAt _ l.rs.length m)))
        rw [ed]
        exact far z.1 (RA4.ne_R z.1 fun _ z => nomatch z)
  · rcases old e1 with z1 | ⟨rfl, rfl⟩ <;> rcases old e2 with z2 | ⟨rfl, rfl⟩
    · exact RA.injX k k' q1 q2 z1 z2 e
    · exact absurd e (nw fy (trk z1).1)
    · exact absurd e.symm (nw fy (trk z2).1)
    · rfl
  · rcases old e1 with z1 | ⟨rfl, rfl⟩ <;> rcases old e2 with z2 | ⟨rfl, rfl⟩
    · exact RA.injD k k' q1 q2 m m' d z1 z2 e3 e4
    · exact absurd rfl (nw (h5 d (List.mem_of_getElem? e4)).2 ((trk z1).2 d (List.mem_of_getElem? e3)))
    · exact absurd rfl (nw (h5 d (List.mem_of_getElem? e3)).2 ((trk z2).2 d (List.mem_of_getElem? e4)))
    · exact ⟨rfl, nd_ix h4 e3 e4⟩
  · rcases old e1 with z1 | ⟨rfl, rfl⟩
    · exact RA.dG k q' d z1 hd
    · exact fun z => by
        obtain ⟨gs', hG', _⟩ := RA.guns
        have := (h5 d hd).2
        rw [z, hG'] at this; cases this
  · rcases old e1 with z1 | ⟨rfl, rfl⟩
    · exact RA.SR k q' z1
    · exact fun z => by
        have := RA.runs
        have z : S = l.R := z
        rw [← z, fS] at this; cases this
theorem ok_addR {f : Addr} {fd : FuncData} (F : Fun K "add_runner" "add_runner" sAddR f fd) (T : Txt K mg C CR CW CF) (MR : MakeD P w K mg base "Runner" 1 CR ["self", "wave", "kind", "mats"] (spRunI CR)) : FnOk P w K mg base CX0 3 f fd ["race", "wave", "kind"] (spAddR C CR) := by
  refine F.ok scAddR (fun vs H Q E h => ?_) (fun cdv A outer s H vs Q E hr h => ?_)
  · obtain ⟨l, r, wv, q, rfl, _⟩ := h
    rfl
  · obtain ⟨l, r, wv, q, rfl, RA, s', ans, e, k⟩ := h
    refine ⟨_, pss_cons (ps_if (pw_or (pt_cmpR op_gt (pv 1) (pe_gi T.gLastWave) (nomark _)) (pw_or1 (pt_cmpR op_gt (pv 2) (pe_gi T.gLastKind) (nomark _)))).pt (pss_one (ps_ret (pe_gi T.gOut))) pss_nil)
      (pss_cons (ps_set (i := 3) scAddR.nd rfl (Or.inl rfl) (pe_callB call_len_seq (by rfl) T.len PySem.boot_len (pa_cons (pe_fld (pv 0) rfl) pa_nil)))
      (pss_cons (ps_if (pt_cmpR op_ge (pv 3) (pe_gi T.gMostRun) (nomark _)) (pss_one (ps_ret (pe_gi T.gNoRoom))) pss_nil)
      (pss_cons (ps_expr (pe_bm PySem.F.plainAttrs_list PySem.F.slot_list_append PySem.F.type_list_append mt_append (pe_fld (pv 0) rfl) (pa_cons (pe_mk MR hr (pa_cons (pv 1) (pa_cons (pv 2) (pa_cons (pe_callB call_len_seq (by rfl) T.len PySem.boot_len (pa_cons (pe_fld (pv 0) rfl) pa_nil)) pa_nil)))) pa_nil)))
      (pss_one (ps_ret (pv 3)))))), ?_⟩
    rw [acts_runner] at e
    have bad : (3 < wv ∨ 7 < q) → Q (.int (-22)) H := fun z => by
      rw [if_pos z] at e
      cases e
      exact k H l RA (Move.refl l H)
    refine ⟨_, rfl, _, _, rfl, rfl, _, rfl, ite2 (fun h => iteT (bad (.inl ?_))) (fun h => ?_)⟩
    · have h := of_decide_eq_true h
      omega
    · have h : ¬ (3 : Int) < (wv : Int) := fun z => h (decide_eq_true z)
      refine ⟨_, rfl, _, _, rfl, rfl, _, rfl, ite2 (fun h2 => bad (.inr ?_)) (fun h2 => ?_)⟩
      · have h2 := of_decide_eq_true h2
        omega
      · have h2 : ¬ (7 : Int) < (q : Int) := fun z => h2 (decide_eq_true z)
        rw [if_neg (by omega)] at e
        refine ⟨_, rfl, l.a, C, l.dx, _, _, rfl, RA.obj, T.cC, T.nRuns, rfl, l.R, _, rfl, .inl (SqL.of RA.runs), ?_⟩
        rw [List.length_map, RA.len]
        have g := RA.good.run
        refine ⟨_, rfl, _, _, rfl, rfl, _, rfl, ite2 (fun h3 => ?_) (fun h3 => ?_)⟩
        · have h3 := of_decide_eq_true h3
          rw [if_pos (by omega)] at e
          cases e
          exact k H l RA (Move.refl l H)
        · have h3 : ¬ (48 : Int) ≤ (r.runners.length : Int) := fun z => h3 (decide_eq_true z)
          rw [if_neg (by omega)] at e
          cases e
          refine ⟨_, rfl, l.a, C, l.dx, _, _, rfl, RA.obj, T.cC, T.nRuns, rfl, .inl ⟨rfl, _, SqL.of RA.runs⟩, _, rfl, _, rfl, _, rfl, l.a, C, l.dx, _, _, rfl, RA.obj, T.cC, T.nLeast, rfl, l.L, _, rfl, .inl (SqL.of RA.least), ?_⟩
          rw [List.length_map]
          intro y dy ny ndy ney
          have h8 := (okLeast_len RA.good.ok).2
          refine ⟨y, dy, wv, q, r.least.length, rfl, h8, upd_same, fun H4 S ds q1 q2 q3 q4 q5 q6 k4 => ⟨rfl, ?_⟩⟩
          have s4 := Same.made ny ndy k4
          have fS : H S = none := (upd_none (upd_none q6).1).1
          have fD : ∀ d, d ∈ ds → H4 d = some (.dK []) ∧ H d = none := fun d hd => ⟨(q5 d hd).1, (upd_none (upd_none (q5 d hd).2).1).1⟩
          refine ⟨l.R, _, _, rfl, rfl, s4 _ _ RA.runs, by rw [List.length_map, RA.len]; exact small1000 (by omega), ?_⟩
          refine ⟨_, rfl, k _ { l with rs := l.rs ++ [⟨y, dy, S, ds⟩] } (RA.addR (by omega) (by omega) (by omega) s4 q1 q2 q3 q4 fD ny fS) ⟨rfl, fun b o e n => ?_, fun b hb => ?_⟩⟩
          · rw [upd_ne fun z => n (foot_iff.mpr (.inr (.inr (.inl z))))]
            exact s4 _ _ e
          · have oldq : ∀ {j : Nat} {q' : RLay}, (l.rs ++ [(⟨y, dy, S, ds⟩ : RLay)])[j]? = some q' → l.rs[j]? = some q' ∨ q' = ⟨y, dy, S, ds⟩ := fun {j q'} hj => by
              by_cases hk : j < l.rs.length
              · rw [List.getElem?_append_left hk] at hj
                exact .inl hj
              · rw [List.getElem?_append_right (by omega)] at hj
                have hk2 : j - l.rs.length = 0 := by
                  cases hz : j - l.rs.length with
                  | zero => rfl
                  | succ n => rw [hz] at hj; simp at hj
                rw [hk2] at hj
                exact .inr (Option.some.inj hj).symm
            rcases foot_iff.mp hb with z | z | z | ⟨j, q', hj, z⟩ | z | ⟨j, q', hj, z⟩
            · exact .inl (foot_iff.mpr (.inl z))
            · exact .inl (foot_iff.mpr (.inr (.inl z)))
            · exact .inl (foot_iff.mpr (.inr (.inr (.inl z))))
            · rcases oldq hj with hj | rfl
              · exact .inl (foot_iff.mpr (.inr (.inr (.inr (.inl ⟨j, q', hj, z⟩)))))
              · rcases z with z | z
                · exact .inr (by rw [z]; exact ny)
                · exact .inr (fD b z).2
            · exact .inl (foot_iff.mpr (.inr (.inr (.inr (.inr (.inl z))))))
            · rcases oldq hj with hj | rfl
              · exact .inl (foot_iff.mpr (.inr (.inr (.inr (.inr (.inr ⟨j, q', hj, z⟩))))))
              · exact .inr (by rw [z]; exact fS)

/-! ### add_sight -/
def spAddS (C CR : Addr) : Sp := fun vs H Q _ => ∃ (l : Lay) (r : Kyt.Race) (k m t : Nat), vs = [.ref l.a, nV k, nV m, nV t] ∧ RaceAt C CR H l r ∧ Told C CR H l (Kyt.acts (some r) (.seen k m t)) Q
theorem scAddS : FnScope ["race", "who", "mat", "time", "times"] ["race", "who", "mat", "time"] (defScope sAddS) := ⟨rfl, rfl, rfl, by decide +kernel, rfl, by decide +kernel, by decide +kernel⟩
theorem RaceAt.addS {H : Hp} {l : Lay} {r : Kyt.Race} (RA : RaceAt C CR H l r) {k m t : Nat} (hm : m ≤ r.least.length) (hs : r.seen.length < 1024) {q : RLay} {x : Kyt.Runner} {d : Addr} (hq : l.rs[k]? = some q) (hx : r.runners[k]? = some x) (hd : q.ds[m]? = some d) (hk : k < r.runners.length) :
    RaceAt C CR (upd (upd H d (.dK (dictT (Kyt.timesAt r k m ++ [t])))) l.a (.ins C l.dx (fRace (.ref l.L) (nV r.lack) (.ref l.G) (.ref l.R) (nV (r.seen.length + 1))))) l { r with seen := r.seen ++ [⟨k, m, t⟩] } := by
  have RU := RA.at_ k q x hq hx
  have hD := RU.at_ m d hd
  have nda : d ≠ l.a := ne_of hD RA.obj fun z => nomatch z
  have far : ∀ {b : Addr} {o : HO}, H b = some o → b ≠ d → b ≠ l.a → (upd (upd H d (.dK (dictT (Kyt.timesAt r k m ++ [t])))) l.a (.ins C l.dx (fRace (.ref l.L) (nV r.lack) (.ref l.G) (.ref l.R) (nV (r.seen.length + 1))))) b = some o := fun {b o} e n1 n2 => by rw [upd_ne n2, upd_ne n1]; exact e
  have nd : ∀ {b : Addr} {o : HO}, H b = some o → (∀ kv, o ≠ .dK kv) → b ≠ d := fun {b o} e z => ne_of e hD (z _)
  have na : ∀ {b : Addr} {o : HO}, H b = some o → (∀ c x f, o ≠ .ins c x f) → b ≠ l.a := fun {b o} e z => ne_of e RA.obj (z _ _ _)
  have g := RA.good
  obtain ⟨gs, hG, g1, g2⟩ := RA.guns
  refine ⟨⟨g.ok, g.lack, g.guns, g.run, g.wv, by rw [List.length_append]; show r.seen.length + 1 ≤ 1024; omega, fun s hs => ?_⟩, ?_, far RA.least (nd RA.least fun _ z => nomatch z) (na RA.least fun _ _ _ z => nomatch z), ⟨gs, far hG (RA.dG k q d hq (List.mem_of_getElem? hd)).symm (na hG fun _ _ _ z => nomatch z), g1, g2⟩, far RA.runs (nd RA.runs fun _ z => nomatch z) (na RA.runs fun _ _ _ z => nomatch z), RA.len, fun k' q' x' e1 e2 => ?_, RA.injX, RA.injD, RA.dG, RA.SR⟩
  · rcases List.mem_append.mp hs with z | z
    · exact g.sm s z
    · rw [List.mem_singleton.mp z]; exact ⟨hm, hk⟩
  · rw [upd_same]
    show some (HO.ins C l.dx (fRace _ _ _ _ (nV (r.seen.length + 1)))) = some (HO.ins C l.dx (fRace _ _ _ _ (nV (r.seen ++ [_]).length)))
    rw [List.length_append]
    rfl
  · have RU' := RA.at_ k' q' x' e1 e2
    refine ⟨far RU'.obj (nd RU'.obj fun _ z => nomatch z) (ne_of RU'.obj RA.obj fRun_ne), far RU'.lst (nd RU'.lst fun _ z => nomatch z) (na RU'.lst fun _ _ _ z => nomatch z), RU'.len, fun m' d' e => ?_⟩
    have hD' := RU'.at_ m' d' e
    rw [timesAt_snoc]
    by_cases c : k = k' ∧ m = m'
    · obtain ⟨rfl, rfl⟩ := c
      rw [if_pos ⟨rfl, rfl⟩]
      rw [hq] at e1
      cases e1
      rw [hd] at e
      cases e
      rw [upd_ne nda, upd_same]
    · rw [if_neg c, List.append_nil]
      refine far hD' (fun z => ?_) (na hD' fun _ _ _ z => nomatch z)
      subst z
      obtain ⟨z1, z2⟩ := RA.injD k k' q q' m m' d' hq e1 hd e
      exact c ⟨z1, z2⟩
theorem ok_addS {f : Addr} {fd : FuncData} (F : Fun K "add_sight" "add_sight" sAddS f fd) (T : Txt K mg C CR CW CF) : FnOk P w K mg base CX0 1 f fd ["race", "who", "mat", "time"] (spAddS C CR) := by
  refine F.ok scAddS (fun vs H Q E h => ?_) (fun cdv A outer s H vs Q E hr h => ?_)
  · obtain ⟨l, r, k, m, t, rfl, _⟩ := h
    rfl
  · obtain ⟨l, r, k, m, t, rfl, RA, s', ans, e, kk⟩ := h
    have hu := hu_of hr
    refine ⟨_, pss_cons (ps_if (pt_cmpR op_ge (pv 1) (pe_callB call_len_seq (by rfl) T.len PySem.boot_len (pa_cons (pe_fld (pv 0) rfl) pa_nil)) (nomark _)) (pss_one (ps_ret (pe_gi T.gNoRunner))) pss_nil)
      (pss_cons (ps_if (pw_or (pt_cmpR op_gt (pv 2) (pe_callB call_len_seq (by rfl) T.len PySem.boot_len (pa_cons (pe_fld (pv 0) rfl) pa_nil)) (nomark _)) (pw_or1 (pt_cmpR op_gt (pv 3) (pe_gi T.gLastTime) (nomark _)))).pt (pss_one (ps_ret (pe_gi T.gOut))) pss_nil)
      (pss_cons (ps_set (i := 4) scAddS.nd rfl (Or.inl rfl) (pe_ix ix_list (pe_fld (pe_ix ix_list (pe_fld (pv 0) rfl) (pv 1) (fun _ _ => rfl)) rfl) (pv 2) (fun _ _ => rfl)))
      (pss_cons (ps_if (pt_cmp (pc_din hu (pv 3) (pv 4))) (pss_one (ps_ret pe_int)) pss_nil)
      (pss_cons (ps_if (pt_cmpR op_ge (pe_fld (pv 0) rfl) (pe_gi T.gMostSights) (nomark _)) (pss_one (ps_ret (pe_gi T.gNoRoom))) pss_nil)
      (pss_cons (ps_dput hu (pv 4) (pv 3) pe_bl rfl)
      (pss_cons (ps_fld (pv 0) (pe_op op_add (pe_fld (pv 0) rfl) pe_int) rfl)
      (pss_one (ps_ret pe_int)))))))), ?_⟩
    rw [acts_seen] at e
    have hmost : Kyt.most = 86400000 := rfl
    have stay : ∀ z, some (some r, Kyt.say z) = some (s', ans) → Q (.int z) H := fun z e => by
      cases e
      exact kk H l RA (Move.refl l H)
    refine ⟨_, rfl, _, rfl, l.a, C, l.dx, _, _, rfl, RA.obj, T.cC, T.nRuns, rfl, l.R, _, rfl, .inl (SqL.of RA.runs), _, _, rfl, rfl, _, rfl, ?_⟩
    rw [List.length_map, RA.len]
    refine ite2 (fun h => ?_) (fun h => ?_)
    · have h := of_decide_eq_true h
      rw [if_pos (by omega)] at e
      exact stay _ e
    · have h : ¬ (r.runners.length : Int) ≤ (k : Int) := fun z => h (decide_eq_true z)
      have hk : k < r.runners.length := by omega
      rw [if_neg (by omega)] at e
      obtain ⟨q, hq⟩ := RA.lay hk
      obtain ⟨x, hx, RU⟩ := RA.runner hq
      have hl : Kyt.last r = r.least.length := rfl
      refine ⟨_, rfl, _, rfl, l.a, C, l.dx, _, _, rfl, RA.obj, T.cC, T.nLeast, rfl, l.L, _, rfl, .inl (SqL.of RA.least), _, _, rfl, rfl, _, rfl, ?_⟩
      rw [List.length_map]
      refine ite2 (fun h2 => iteT ?_) (fun h2 => ?_)
      · have h2 := of_decide_eq_true h2
        rw [if_pos (.inl (by omega))] at e
        exact stay _ e
      · have h2 : ¬ (r.least.length : Int) < (m : Int) := fun z => h2 (decide_eq_true z)
        refine ⟨_, rfl, _, _, rfl, rfl, _, rfl, ite2 (fun h3 => ?_) (fun h3 => ?_)⟩
        · have h3 := of_decide_eq_true h3
          rw [if_pos (.inr (by omega))] at e
          exact stay _ e
        · have h3 : ¬ (86400000 : Int) < (t : Int) := fun z => h3 (decide_eq_true z)
          rw [if_neg (by omega)] at e
          obtain ⟨d, hd⟩ : ∃ d, q.ds[m]? = some d := ⟨_, List.getElem?_eq_getElem (by rw [RU.len]; omega)⟩
          have hD := RU.at_ m d hd
          refine ⟨_, rfl, l.a, C, l.dx, _, _, rfl, RA.obj, T.cC, T.nRuns, rfl, _, rfl, l.R, _, _, _, rfl, rfl, SqL.of RA.runs, at_of (j := k) (v := V.ref q.x) rfl (by rw [List.getElem?_map, hq]; rfl), q.x, CR, q.dx, _, _, rfl, RU.obj, T.cR, T.rSights, rfl, _, rfl, q.S, _, _, _, rfl, rfl, SqL.of RU.lst, at_of (j := m) (v := V.ref d) rfl (by rw [List.getElem?_map, hd]; rfl), ?_⟩
          refine ⟨_, rfl, _, rfl, d, _, rfl, DGet.k (k := Sum.inl (t : Int)) hD, _, rfl, ?_⟩
          rw [valT]
          by_cases there : t ∈ Kyt.timesAt r k m
          · rw [if_pos there]
            rw [if_pos ((isThere_iff r k m t).mpr there)] at e
            exact iteT (stay _ e)
          · rw [if_neg there]
            rw [if_neg (fun z => there ((isThere_iff r k m t).mp z))] at e
            refine iteF ⟨_, rfl, l.a, C, l.dx, _, _, rfl, RA.obj, T.cC, T.nCount, rfl, _, _, rfl, rfl, _, rfl, ite2 (fun h4 => ?_) (fun h4 => ?_)⟩
            · have h4 := of_decide_eq_true h4
              have := RA.good.sn
              rw [if_pos (by omega)] at e
              exact stay _ e
            · have h4 : ¬ (1024 : Int) ≤ (r.seen.length : Int) := fun z => h4 (decide_eq_true z)
              rw [if_neg (by omega)] at e
              cases e
              have tl := timesAt_len r k m
              refine ⟨_, rfl, _, rfl, d, _, rfl, DPut.k (k := Sum.inl (t : Int)) hD (by rw [dictT_len, sizeLine_eq]; omega), ?_⟩
              have ep : putK (dictT (Kyt.timesAt r k m)) (Sum.inl (t : Int)) (V.bl true) = dictT (Kyt.timesAt r k m ++ [t]) := by
                rw [putK_new _ (by rw [valT, if_neg there]), dictT_snoc]
              rw [ep]
              have nda : d ≠ l.a := ne_of hD RA.obj fun z => nomatch z
              refine ⟨_, rfl, l.a, C, l.dx, _, _, rfl, by rw [upd_ne nda.symm]; exact RA.obj, T.cC, T.nCount, rfl, _, _, rfl, rfl, _, rfl, l.a, C, l.dx, _, rfl, by rw [upd_ne nda.symm]; exact RA.obj, T.cC, T.nCount, (by show 5 < 1000; decide), ?_⟩
              have R2 := RA.addS (t := t) (by omega) (by omega) hq hx hd hk
              refine kk _ l ?_ ⟨rfl, fun b o e n => ?_, fun b hb => .inl hb⟩
              · have ev : V.int ((r.seen.length : Int) + 1) = nV (r.seen.length + 1) := by unfold nV; rw [Int.natCast_add]; rfl
                show RaceAt C CR (upd _ l.a (.ins C l.dx (fRace (.ref l.L) (nV r.lack) (.ref l.G) (.ref l.R) (V.int ((r.seen.length : Int) + 1))))) l _
                rw [ev]
                exact R2
              · rw [upd_ne fun z => n (foot_iff.mpr (.inl z)), upd_ne fun z => n (foot_iff.mpr (.inr (.inr (.inr (.inl ⟨k, q, hq, .inr (by rw [z]; exact List.mem_of_getElem? hd)⟩)))))]
                exact e
end
end Mat
end
section
set_option Elab.async false
set_option linter.unusedVariables false
set_option maxRecDepth 100000
set_option maxHeartbeats 2000000
namespace Mat
open PySem PySem.Spec L2
open PyProof.Rows hiding St
def AskedA (H : Hp) (r : Kyt.Race) (c : Kyt.Call) (Q : VK) : Prop := ∃ ans, Kyt.acts (some r) c = some (some r, ans) ∧ ∀ (H' : Hp) (p : Addr), Same H H' → H p = none → H' p = some (.lst ((ans.value :: KytNeutral.ints ans.out).map V.int)) → Q (.ref p) H'
theorem acts_of (r : Kyt.Race) (k : Nat) : Kyt.acts (some r) (.of k) = some (some r, if r.runners.length ≤ k then Kyt.say (-2) else ⟨(Kyt.status r k : Nat), [(Kyt.net r k).getD 0, (Kyt.gross r k).getD 0, match Kyt.way r k with | some (_, l) => Kyt.missing l | none => 0]⟩) := rfl
theorem acts_split (r : Kyt.Race) (k m : Nat) : Kyt.acts (some r) (.split k m) = some (some r, if r.runners.length ≤ k then Kyt.say (-2) else if m < 1 ∨ Kyt.last r < m then Kyt.say (-22) else match Kyt.way r k with
    | none => Kyt.say (-61)
    | some (b, l) => match l.getD (m - 1) none with
      | none => Kyt.say (-61)
      | some t => Kyt.say ((t - b : Nat) : Int)) := rfl
theorem acts_rank (r : Kyt.Race) (k : Nat) : Kyt.acts (some r) (.rank k) = some (some r, if r.runners.length ≤ k then Kyt.say (-2) else match (Kyt.results r).find? fun x => x.who == k with
    | none => Kyt.say (-61)
    | some x => ⟨(Kyt.place Kyt.before (Kyt.results r) x : Nat), [Kyt.place Kyt.faster (Kyt.ofKind (Kyt.results r) x.kind) x]⟩) := rfl
theorem acts_list (r : Kyt.Race) (q : Nat) : Kyt.acts (some r) (.list q) = some (some r, if 8 < q then Kyt.say (-22) else ⟨((Kyt.listOf r q).length : Nat), Kyt.listOf r q⟩) := rfl
theorem ownW_zero {z : WG} : (lastW z).isSome = false → ownW z = 0 := fun h => by
  cases z with
  | none => rfl
  | some z =>
    obtain ⟨g, b, l⟩ := z
    show (match l.getLast?.join with | some t => t - b | none => 0) = 0
    have h : (l.getLast?.join).isSome = false := h
    cases e : l.getLast?.join with
    | none => rfl
    | some t => rw [e] at h; cases h
theorem gunW_zero {z : WG} : (lastW z).isSome = false → gunW z = 0 := fun h => by
  cases z with
  | none => rfl
  | some z =>
    obtain ⟨g, b, l⟩ := z
    show (match l.getLast?.join with | some t => t - g | none => 0) = 0
    have h : (l.getLast?.join).isSome = false := h
    cases e : l.getLast?.join with
    | none => rfl
    | some t => rw [e] at h; cases h
theorem net_getD (r : Kyt.Race) (k : Nat) : (Kyt.net r k).getD 0 = ownW (wayG r k) := by
  rw [net_eq]
  cases e : lastW (wayG r k) with
  | none => rw [ownW_zero (by rw [e]; rfl)]; rfl
  | some t => rfl
theorem gross_getD (r : Kyt.Race) (k : Nat) : (Kyt.gross r k).getD 0 = gunW (wayG r k) := by
  rw [gross_eq]
  cases e : lastW (wayG r k) with
  | none => rw [gunW_zero (by rw [e]; rfl)]; rfl
  | some t => rfl
theorem miss_eq (r : Kyt.Race) (k : Nat) : (match Kyt.way r k with | some (_, l) => Kyt.missing l | none => 0) = missW (wayG r k) := by
  rw [wayG_way]
  cases wayG r k <;> rfl

section
variable {P : Program} {w : World} {K : PySem.W.Frag} {mg : Str → Option Value} {base : Heap} {C CR CW CF : Addr}
/-! ### answer_of -/
def spOf (C CR : Addr) : Sp := fun vs H Q _ => ∃ (l : Lay) (r : Kyt.Race) (k : Nat), vs = [.ref l.a, nV k] ∧ RaceAt C CR H l r ∧ AskedA H r (.of k) Q
theorem scOf : FnScope ["race", "who", "runner", "way"] ["race", "who"] (defScope sOf) := ⟨rfl, rfl, rfl, by decide +kernel, rfl, by decide +kernel, by decide +kernel⟩
theorem ok_of {f : Addr} {fd : FuncData} (F : Fun K "answer_of" "answer_of" sOf f fd) (T : Txt K mg C CR CW CF) (DW : CallD P w K mg base "find_way" 3 ["race", "runner"] (spWay C CR CW)) (DS : CallD P w K mg base "find_state" 2 ["race", "runner", "way"] (spState C CR CW))
    (DO : CallD P w K mg base "find_own_time" 2 ["way"] (spOwn CW)) (DG : CallD P w K mg base "find_gun_time" 2 ["way"] (spGunT CW)) (DM : CallD P w K mg base "count_missing" 1 ["way"] (spMiss CW)) : FnOk P w K mg base CX0 4 f fd ["race", "who"] (spOf C CR) := by
  refine F.ok scOf (fun vs H Q E h => ?_) (fun cdv A outer s H vs Q E hr h => ?_)
  · obtain ⟨l, r, k, rfl, _⟩ := h
    rfl
  · obtain ⟨l, r, k, rfl, RA, ans, e, kk⟩ := h
    have hr2 : Room 2 _ := hr.mono (by decide)
    have hr1 : Room 1 _ := hr.mono (by decide)
    refine ⟨_, pss_cons (ps_if (pt_cmpR op_ge (pv 1) (pe_callB call_len_seq (by rfl) T.len PySem.boot_len (pa_cons (pe_fld (pv 0) rfl) pa_nil)) (nomark _)) (pss_one (ps_ret (pe_lst (pa_cons (pe_gi T.gNoRunner) pa_nil)))) pss_nil)
      (pss_cons (ps_set (i := 2) scOf.nd rfl (Or.inl rfl) (pe_ix ix_list (pe_fld (pv 0) rfl) (pv 1) (fun _ _ => rfl)))
      (pss_cons (ps_set (i := 3) scOf.nd rfl (Or.inl rfl) (pe_def DW hr (pa_cons (pv 0) (pa_cons (pv 2) pa_nil))))
      (pss_one (ps_ret (pe_lst (pa_cons (pe_def DS hr2 (pa_cons (pv 0) (pa_cons (pv 2) (pa_cons (pv 3) pa_nil)))) (pa_cons (pe_def DO hr2 (pa_cons (pv 3) pa_nil)) (pa_cons (pe_def DG hr2 (pa_cons (pv 3) pa_nil)) (pa_cons (pe_def DM hr1 (pa_cons (pv 3) pa_nil)) pa_nil))))))))), ?_⟩
    rw [acts_of] at e
    refine ⟨_, rfl, _, rfl, l.a, C, l.dx, _, _, rfl, RA.obj, T.cC, T.nRuns, rfl, l.R, _, rfl, .inl (SqL.of RA.runs), _, _, rfl, rfl, _, rfl, ?_⟩
    rw [List.length_map, RA.len]
    refine ite2 (fun h => ?_) (fun h => ?_)
    · have h := of_decide_eq_true h
      rw [if_pos (by omega)] at e
      cases e
      exact ⟨(by show 1 ≤ sizeLine; decide), fun p hp => kk _ p (same_upd hp) hp upd_same⟩
    · have h : ¬ (r.runners.length : Int) ≤ (k : Int) := fun z => h (decide_eq_true z)
      have hk : k < r.runners.length := by omega
      rw [if_neg (by omega)] at e
      cases e
      obtain ⟨q, hq⟩ := RA.lay hk
      obtain ⟨x, hx, RU⟩ := RA.runner hq
      refine ⟨_, rfl, l.a, C, l.dx, _, _, rfl, RA.obj, T.cC, T.nRuns, rfl, _, rfl, l.R, _, _, _, rfl, rfl, SqL.of RA.runs, at_of (j := k) (v := V.ref q.x) rfl (by rw [List.getElem?_map, hq]; rfl), ?_⟩
      refine ⟨_, rfl, _, rfl, l, r, k, q, rfl, RA, hq, fun H2 v s2 hv => ?_⟩
      have ok := wayG_ok RA.good k
      refine ⟨_, rfl, _, rfl, _, rfl, l, r, k, q, v, rfl, RA.same s2, hq, hv, _, rfl, v, _, rfl, hv, ok, _, rfl, v, _, rfl, hv, ok, _, rfl, v, _, rfl, hv, ?_⟩
      refine ⟨(by show 4 ≤ sizeLine; decide), fun p hp => kk _ p (s2.trans (same_upd hp)) (s2.free hp) ?_⟩
      rw [upd_same, net_getD, gross_getD, miss_eq]
      rfl

/-! ### answer_split -/
def spSplit (C CR : Addr) : Sp := fun vs H Q _ => ∃ (l : Lay) (r : Kyt.Race) (k m : Nat), vs = [.ref l.a, nV k, nV m] ∧ RaceAt C CR H l r ∧ AskedA H r (.split k m) Q
theorem scSplit : FnScope ["race", "who", "mat", "way"] ["race", "who", "mat"] (defScope sSplit) := ⟨rfl, rfl, rfl, by decide +kernel, rfl, by decide +kernel, by decide +kernel⟩
theorem ok_split {f : Addr} {fd : FuncData} (F : Fun K "answer_split" "answer_split" sSplit f fd) (T : Txt K mg C CR CW CF) (DW : CallD P w K mg base "find_way" 3 ["race", "runner"] (spWay C CR CW)) : FnOk P w K mg base CX0 4 f fd ["race", "who", "mat"] (spSplit C CR) := by
  refine F.ok scSplit (fun vs H Q E h => ?_) (fun cdv A outer s H vs Q E hr h => ?_)
  · obtain ⟨l, r, k, m, rfl, _⟩ := h
    rfl
  · obtain ⟨l, r, k, m, rfl, RA, ans, e, kk⟩ := h
    refine ⟨_, pss_cons (ps_if (pt_cmpR op_ge (pv 1) (pe_callB call_len_seq (by rfl) T.len PySem.boot_len (pa_cons (pe_fld (pv 0) rfl) pa_nil)) (nomark _)) (pss_one (ps_ret (pe_lst (pa_cons (pe_gi T.gNoRunner) pa_nil)))) pss_nil)
      (pss_cons (ps_if (pw_or (pt_cmpR op_lt (pv 2) pe_int (nomark _)) (pw_or1 (pt_cmpR op_gt (pv 2) (pe_callB call_len_seq (by rfl) T.len PySem.boot_len (pa_cons (pe_fld (pv 0) rfl) pa_nil)) (nomark _)))).pt (pss_one (ps_ret (pe_lst (pa_cons (pe_gi T.gOut) pa_nil)))) pss_nil)
      (pss_cons (ps_set (i := 3) scSplit.nd rfl (Or.inl rfl) (pe_def DW hr (pa_cons (pv 0) (pa_cons (pe_ix ix_list (pe_fld (pv 0) rfl) (pv 1) (fun _ _ => rfl)) pa_nil))))
      (pss_cons (ps_if (pw_or (pt_cmpR op_isN (pv 3) pe_non (nomark _)) (pw_or1 (pt_cmpR op_isN (pe_ix ix_list (pe_fld (pv 3) rfl) (pv 2) (fun _ _ => rfl)) pe_non (nomark _)))).pt (pss_one (ps_ret (pe_lst (pa_cons (pe_gi T.gNoResult) pa_nil)))) pss_nil)
      (pss_one (ps_ret (pe_lst (pa_cons (pe_op op_subN (pe_ix ix_list (pe_fld (pv 3) rfl) (pv 2) (fun _ _ => rfl)) (pe_ix ix_list (pe_fld (pv 3) rfl) pe_int (fun _ _ => rfl))) pa_nil))))))), ?_⟩
    rw [acts_split] at e
    have one : ∀ (z : Int) (H1 : Hp), Same H H1 → some (some r, Kyt.say z) = some (some r, ans) → 1 ≤ sizeLine ∧ ∀ p, H1 p = none → Q (.ref p) (upd H1 p (.lst [.int z])) := fun z H1 s1 e => by
      cases e
      exact ⟨(by decide), fun p hp => kk _ p (s1.trans (same_upd hp)) (s1.free hp) upd_same⟩
    refine ⟨_, rfl, _, rfl, l.a, C, l.dx, _, _, rfl, RA.obj, T.cC, T.nRuns, rfl, l.R, _, rfl, .inl (SqL.of RA.runs), _, _, rfl, rfl, _, rfl, ?_⟩
    rw [List.length_map, RA.len]
    refine ite2 (fun h => ?_) (fun h => ?_)
    · have h := of_decide_eq_true h
      rw [if_pos (by omega)] at e
      exact one _ H (Same.refl _) e
    · have h : ¬ (r.runners.length : Int) ≤ (k : Int) := fun z => h (decide_eq_true z)
      have hk : k < r.runners.length := by omega
      rw [if_neg (by omega)] at e
      have hl : Kyt.last r = r.least.length := rfl
      refine ⟨_, rfl, _, _, rfl, rfl, _, rfl, ite2 (fun h2 => iteT ?_) (fun h2 => ?_)⟩
      · have h2 := of_decide_eq_true h2
        rw [if_pos (.inl (by omega))] at e
        exact one _ H (Same.refl _) e
      · have h2 : ¬ (m : Int) < 1 := fun z => h2 (decide_eq_true z)
        refine ⟨_, rfl, _, rfl, l.a, C, l.dx, _, _, rfl, RA.obj, T.cC, T.nLeast, rfl, l.L, _, rfl, .inl (SqL.of RA.least), _, _, rfl, rfl, _, rfl, ?_⟩
        rw [List.length_map]
        refine ite2 (fun h3 => ?_) (fun h3 => ?_)
        · have h3 := of_decide_eq_true h3
          rw [if_pos (.inr (by omega))] at e
          exact one _ H (Same.refl _) e
        · have h3 : ¬ (r.least.length : Int) < (m : Int) := fun z => h3 (decide_eq_true z)
          rw [if_neg (by omega), wayG_way] at e
          obtain ⟨q, hq⟩ := RA.lay hk
          obtain ⟨x, hx, RU⟩ := RA.runner hq
          refine ⟨_, rfl, _, rfl, l.a, C, l.dx, _, _, rfl, RA.obj, T.cC, T.nRuns, rfl, _, rfl, l.R, _, _, _, rfl, rfl, SqL.of RA.runs, at_of (j := k) (v := V.ref q.x) rfl (by rw [List.getElem?_map, hq]; rfl), l, r, k, q, rfl, RA, hq, fun H2 v s2 hv => ?_⟩
          have ok := wayG_ok RA.good k
          have hwl : ∀ g b l2, wayG r k = some (g, b, l2) → l2.length = r.least.length := fun g b l2 z => way_len (k := k) (b := b) (by rw [wayG_way, z]; rfl)
          refine ⟨_, rfl, rfl, _, rfl, ?_⟩
          cases ew : wayG r k with
          | none =>
            rw [ew] at e hv
            cases (show v = .non from hv)
            exact ite2 (fun _ => iteT (one _ H2 s2 e)) (fun h => absurd (by simp) h)
          | some z =>
            obtain ⟨g, b, l2⟩ := z
            have el := hwl g b l2 ew
            rw [ew] at e hv ok
            obtain ⟨y, dy, Tt, rfl, hy, hT⟩ := hv
            obtain ⟨o, ho⟩ : ∃ o, l2[m - 1]? = some o := ⟨_, List.getElem?_eq_getElem (by omega)⟩
            have hat : atI (nV b :: l2.map oV) ((m : Nat) : Int) = some (oV o) := by
              refine at_of (j := m) rfl ?_
              have em : m = (m - 1) + 1 := by omega
              rw [em, List.getElem?_cons_succ, List.getElem?_map]
              rw [ho]
              rfl
            have e : some (some r, match l2.getD (m - 1) none with | none => Kyt.say (-61) | some t => Kyt.say ((t - b : Nat) : Int)) = some (some r, ans) := e
            rw [List.getD_eq_getElem?_getD, ho] at e
            refine ite2 (fun h => absurd h (by simp)) (fun _ => ?_)
            refine ⟨_, rfl, y, CW, dy, _, _, rfl, hy, T.cW, T.wTimes, rfl, _, rfl, Tt, _, _, _, rfl, rfl, SqL.of hT, hat, rfl, _, rfl, ?_⟩
            cases o with
            | none => exact ite2 (fun _ => one _ H2 s2 e) (fun h => absurd (decide_eq_true rfl) h)
            | some t =>
              refine ite2 (fun h => absurd (of_decide_eq_true h) (fun z => nomatch z)) (fun _ => ?_)
              have hb : b ≤ t := ok.2.2 t (List.mem_of_getElem? ho)
              refine ⟨_, rfl, y, CW, dy, _, _, rfl, hy, T.cW, T.wTimes, rfl, _, rfl, Tt, _, _, _, rfl, rfl, SqL.of hT, hat, _, rfl, y, CW, dy, _, _, rfl, hy, T.cW, T.wTimes, rfl, Tt, _, _, _, rfl, rfl, SqL.of hT, at_of (j := 0) (v := nV b) rfl rfl, t, b, rfl, rfl, hb, ?_⟩
              exact one _ H2 s2 e
end
end Mat
end
section
set_option Elab.async false
set_option linter.unusedVariables false
set_option maxRecDepth 100000
set_option maxHeartbeats 2000000
namespace Mat
open PySem PySem.Spec L2
open PyProof.Rows hiding St
theorem Fins.getL {CF : Addr} {H : Hp} {as : List Addr} {l : List Kyt.Result} {i : Nat} {a : Addr} (h : Fins CF H as l) (e : as[i]? = some a) : ∃ x, l[i]? = some x ∧ FinAt CF H a x := Fins.get h e
theorem lexLt_kb (a b : Nat × Nat) : HT.lexLt [(a.1 : Int), (a.2 : Int)] [(b.1 : Int), (b.2 : Int)] = kb a b := by
  rw [HT.lexLt_cons, HT.lexLt_cons, HT.lexLt_nil_nil]
  unfold kb
  by_cases e : a.1 = b.1
  · rw [if_pos (by rw [e]), e, beq_self_eq_true, decide_eq_false (Nat.lt_irrefl _), Bool.false_or, Bool.true_and]
    by_cases e2 : a.2 = b.2
    · rw [if_pos (by rw [e2]), e2, decide_eq_false (Nat.lt_irrefl _)]
    · rw [if_neg (by omega)]
      by_cases h : a.2 < b.2
      · rw [decide_eq_true h, decide_eq_true (by omega)]
      · rw [decide_eq_false h, decide_eq_false (by omega)]
  · rw [if_neg (by omega), beq_eq_false_iff_ne.mpr e, Bool.false_and, Bool.or_false]
    by_cases h : a.1 < b.1
    · rw [decide_eq_true h, decide_eq_true (by omega)]
    · rw [decide_eq_false h, decide_eq_false (by omega)]
def cs3 (a b : Str) : Scope := { kind := .function, names := [(Str.ofString ".0", .local), (a, .local), (b, .free)], isGenerator := false, isCoroutine := false }
theorem scOfKind : FnScope ["race", "kind", "finish"] ["race", "kind"] (defScope sOfKind) := ⟨rfl, rfl, rfl, by decide +kernel, rfl, by decide +kernel, by decide +kernel⟩
theorem bkOfKind : BlkOk ["race", "kind", "finish"] (defScope sOfKind) { kind := .function, names := [(Str.ofString ".0", .local), (Str.ofString "finish", .local), (Str.ofString "kind", .free)], isGenerator := false, isCoroutine := false } [("finish", 2)] := blkOk_by (by decide +kernel)
theorem scPlaces : FnScope ["finish", "finishes", "ahead", "ahead_in_kind", "other"] ["finish", "finishes"] (defScope sPlaces) := ⟨rfl, rfl, rfl, by decide +kernel, rfl, by decide +kernel, by decide +kernel⟩
theorem bkPlaces : BlkOk ["finish", "finishes", "ahead", "ahead_in_kind", "other"] (defScope sPlaces) { kind := .function, names := [(Str.ofString ".0", .local), (Str.ofString "other", .local), (Str.ofString "finish", .free)], isGenerator := false, isCoroutine := false } [("other", 4)] := blkOk_by (by decide +kernel)
theorem scRank : FnScope ["race", "who", "finishes", "finish"] ["race", "who"] (defScope sRank) := ⟨rfl, rfl, rfl, by decide +kernel, rfl, by decide +kernel, by decide +kernel⟩

section
variable {P : Program} {w : World} {K : PySem.W.Frag} {mg : Str → Option Value} {base : Heap} {C CR CW CF : Addr}
/-! ### finishes_of_kind -/
def spOfKind (C CR CF : Addr) : Sp := fun vs H Q _ => ∃ (l : Lay) (r : Kyt.Race) (q : Nat), vs = [.ref l.a, nV q] ∧ RaceAt C CR H l r ∧ ∀ (H' : Hp) (p : Addr) (as : List Addr), Same H H' → H p = none → H' p = some (.lst (as.map V.ref)) → Fins CF H' as (Kyt.ofKind (Kyt.results r) q) → Q (.ref p) H'
theorem ofKind_snoc (l : List Kyt.Result) (q : Nat) {i : Nat} {x : Kyt.Result} (h : l[i]? = some x) : Kyt.ofKind (l.take (i + 1)) q = Kyt.ofKind (l.take i) q ++ (if x.kind = q then [x] else []) := by
  unfold Kyt.ofKind
  rw [take_snoc h, List.filter_append]
  congr 1
  by_cases e : x.kind = q
  · rw [if_pos e, List.filter_cons_of_pos (by simpa using e)]; rfl
  · rw [if_neg e, List.filter_cons_of_neg (by simpa using e)]; rfl
theorem ok_ofKind {f : Addr} {fd : FuncData} (F : Fun K "finishes_of_kind" "finishes_of_kind" sOfKind f fd) (T : Txt K mg C CR CW CF) (DA : CallD P w K mg base "all_finishes" 4 ["race"] (spAllF C CR CF)) : FnOk P w K mg base CX0 5 f fd ["race", "kind"] (spOfKind C CR CF) := by
  refine F.ok scOfKind (fun vs H Q E h => ?_) (fun cdv A outer s H vs Q E hr h => ?_)
  · obtain ⟨l, r, q, rfl, _⟩ := h
    rfl
  · obtain ⟨l, r, q, rfl, RA, kk⟩ := h
    refine ⟨_, pss_one (ps_ret (pe_lc (own := [("finish", 2)]) (g := gName 2) (tt := tTest (tOp rEq (tFld K (tVar 2) "kind") (tVar 1))) (te := tVar 2) rfl scOfKind.nd (pi_list (pe_def DA hr (pa_cons (pv 0) pa_nil))) bkOfKind (fun _ _ _ _ _ => pg_name (i := 2) scOfKind.nd rfl (Or.inl rfl)) (fun _ _ _ _ _ => pts_one (pt_cmpR op_eq (pe_fld (pv 2) rfl) (pv 1) (nomark _))) (fun _ _ _ _ _ => pv 2))), ?_⟩
    refine ⟨_, rfl, l, r, rfl, RA, fun H1 p as s1 hp hl fs => ⟨p, rfl, ⟨_, SqL.of hl⟩, fun D hD => ?_⟩⟩
    have la : as.length ≤ 48 := by
      rw [Paired.length fs, resTo_all]
      exact Nat.le_trans (resTo_len r _) RA.good.run
    refine lc_list (K := K) (a := p) (xs := as.map V.ref) (fun i H' => ∃ bs : List Addr, H' D = some (.lst (bs.map V.ref)) ∧ Fins CF H' bs (Kyt.ofKind ((Kyt.results r).take i) q) ∧ Same H1 H' ∧ bs.length ≤ i) ⟨[], upd_same, .nil, same_upd hD, Nat.le_refl _⟩ (fun i H' _ ⟨_, _, _, s2, _⟩ => SqL.of (s2 _ _ hl)) ?_ ?_
    · rintro i y H2 hi ⟨bs, h1, h2, s2, hb⟩
      obtain ⟨a, ha, rfl⟩ := mapRef_at hi
      obtain ⟨x, hx, FA⟩ := fs.getL ha
      have FA2 := FA.same s2
      obtain ⟨dx, o, ii, f1, f2, f3⟩ := FA2.ex
      refine ⟨rfl, _, rfl, a, CF, dx, _, _, rfl, f1, T.cF, T.fKind, rfl, _, rfl, rfl, _, rfl, ite2 (fun h => ?_) (fun h => ?_)⟩
      · have e : x.kind = q := by
          have := of_decide_eq_true h
          unfold nV at this
          injection this with e
          omega
        have hlt : i < as.length := (List.getElem?_eq_some_iff.mp ha).1
        refine ⟨_, rfl, bs.map V.ref, h1, by rw [List.length_map]; exact small1000 (by omega), bs ++ [a], by rw [upd_same, List.map_append]; rfl, ?_, fun b u e => by rw [upd_ne (ne_of_none e hD)]; exact s2 _ _ e, by rw [List.length_append]; exact Nat.succ_le_succ hb⟩
        rw [ofKind_snoc _ _ hx, if_pos e]
        exact Paired.snoc (Fins.lst h2 h1) (FA2.lst h1)
      · have e : ¬ x.kind = q := fun z => h (by rw [z]; exact decide_eq_true rfl)
        refine ⟨bs, h1, ?_, s2, Nat.le_succ_of_le hb⟩
        rw [ofKind_snoc _ _ hx, if_neg e, List.append_nil]
        exact h2
    · rintro H2 ⟨bs, h1, h2, s2, _⟩
      rw [List.length_map, Paired.length fs, List.take_length] at h2
      exact kk H2 D bs (s1.trans s2) (s1.free hD) h1 h2

/-! ### places_of -/
def spPlaces (CF : Addr) : Sp := fun vs H Q _ => ∃ (a p : Addr) (x : Kyt.Result) (as : List Addr) (l : List Kyt.Result), vs = [.ref a, .ref p] ∧ FinAt CF H a x ∧ H p = some (.lst (as.map V.ref)) ∧ Fins CF H as l ∧ l.length ≤ 48 ∧
  ∀ (H' : Hp) (pp : Addr), Same H H' → H pp = none → H' pp = some (.lst [nV (Kyt.place Kyt.before l x), nV (Kyt.place Kyt.faster (Kyt.ofKind l x.kind) x)]) → Q (.ref pp) H'
theorem filter_take_len {l : List Kyt.Result} (f : Kyt.Result → Bool) {i : Nat} {x : Kyt.Result} (h : l[i]? = some x) : ((l.take (i + 1)).filter f).length = ((l.take i).filter f).length + (if f x = true then 1 else 0) := by
  rw [take_snoc h, List.filter_append, List.length_append]
  congr 1
  by_cases e : f x = true
  · rw [if_pos e, List.filter_cons_of_pos e]; rfl
  · rw [if_neg e, List.filter_cons_of_neg e]; rfl
theorem ok_places {f : Addr} {fd : FuncData} (F : Fun K "places_of" "places_of" sPlaces f fd) (T : Txt K mg C CR CW CF) : FnOk P w K mg base CX0 1 f fd ["finish", "finishes"] (spPlaces CF) := by
  refine F.ok scPlaces (fun vs H Q E h => ?_) (fun cdv A outer s H vs Q E hr h => ?_)
  · obtain ⟨a, p, x, as, l, rfl, _⟩ := h
    rfl
  · obtain ⟨a, p, x, as, l, rfl, FA, hp, fs, l48, kk⟩ := h
    have hu0 : _ < cLine := hr.units0
    refine ⟨_, pss_cons (ps_setLc (i := 2) (own := [("other", 4)]) (g := gName 4) (tt := tTest (tOp (rLtT K) (tFld K (tVar 4) "over_all") (tFld K (tVar 0) "over_all"))) (te := tVar 4) rfl scPlaces.nd rfl rfl (sw_true rfl rfl rfl rfl) (pi_list (pv 1)) bkPlaces (fun _ _ _ _ _ => pg_name (i := 4) scPlaces.nd rfl (Or.inl rfl)) (fun _ _ _ _ _ => pts_one (pt_cmpR (op_ltT hu0) (pe_fld (pv 4) rfl) (pe_fld (pv 0) rfl) (nomark _))) (fun _ _ _ _ _ => pv 4))
      (pss_cons (ps_setLc (i := 3) (own := [("other", 4)]) (g := gName 4) (tt := tAnd (tTest (tOp rEq (tFld K (tVar 4) "kind") (tFld K (tVar 0) "kind"))) (tTest (tOp (rLtT K) (tFld K (tVar 4) "in_kind") (tFld K (tVar 0) "in_kind")))) (te := tVar 4) rfl scPlaces.nd rfl rfl (sw_true rfl rfl rfl rfl) (pi_list (pv 1)) bkPlaces (fun _ _ _ _ _ => pg_name (i := 4) scPlaces.nd rfl (Or.inl rfl))
        (fun _ _ _ _ _ => pts_one (pw_and (pt_cmpR op_eq (pe_fld (pv 4) rfl) (pe_fld (pv 0) rfl) (nomark _)) (pw_and1 (pt_cmpR (op_ltT hu0) (pe_fld (pv 4) rfl) (pe_fld (pv 0) rfl) (nomark _)))).pt) (fun _ _ _ _ _ => pv 4))
      (pss_one (ps_ret (pe_lst (pa_cons (pe_op op_addN pe_int (pe_callB call_len_seq (by rfl) T.len PySem.boot_len (pa_cons (pv 2) pa_nil))) (pa_cons (pe_op op_addN pe_int (pe_callB call_len_seq (by rfl) T.len PySem.boot_len (pa_cons (pv 3) pa_nil))) pa_nil)))))), ?_⟩
    have la : as.length ≤ 48 := by rw [Paired.length fs]; exact l48
    obtain ⟨dx, o, ii, f1, f2, f3⟩ := FA.ex
    refine ⟨_, rfl, p, rfl, ⟨_, SqL.of hp⟩, fun D hD => ?_⟩
    refine lc_list (K := K) (a := p) (xs := as.map V.ref) (fun i H' => ∃ bs : List Addr, H' D = some (.lst (bs.map V.ref)) ∧ bs.length = ((l.take i).filter fun y => Kyt.before y x).length ∧ Same H H' ∧ bs.length ≤ i) ⟨[], upd_same, rfl, same_upd hD, Nat.le_refl _⟩ (fun i H' _ ⟨_, _, _, s2, _⟩ => SqL.of (s2 _ _ hp)) ?_ ?_
    · rintro i y H2 hi ⟨bs, h1, h2, s2, hb⟩
      obtain ⟨b, hb', rfl⟩ := mapRef_at hi
      obtain ⟨z, hz, FB⟩ := fs.getL hb'
      obtain ⟨dy, oy, iy, g1, g2, g3⟩ := (FB.same s2).ex
      have hlt : i < as.length := (List.getElem?_eq_some_iff.mp hb').1
      have ek : HT.lexLt [(z.gross : Int), (z.net : Int)] [(x.gross : Int), (x.net : Int)] = Kyt.before z x := (lexLt_kb (z.gross, z.net) (x.gross, x.net)).trans (before_kb z x).symm
      refine ⟨rfl, _, rfl, b, CF, dy, _, _, rfl, g1, T.cF, T.fOver, rfl, _, rfl, a, CF, dx, _, _, rfl, s2 _ _ f1, T.cF, T.fOver, rfl, oy, o, [(z.gross : Int), (z.net : Int)], [(x.gross : Int), (x.net : Int)], rfl, rfl, SqT.of g2, SqT.of (s2 _ _ f2), _, rfl, ?_⟩
      rw [ek]
      refine ite2 (fun h => ?_) (fun h => ?_)
      · refine ⟨_, rfl, bs.map V.ref, h1, by rw [List.length_map]; exact small1000 (by omega), bs ++ [b], by rw [upd_same, List.map_append]; rfl, ?_, fun c u e => by rw [upd_ne (ne_of_none e hD)]; exact s2 _ _ e, by rw [List.length_append]; exact Nat.succ_le_succ hb⟩
        rw [List.length_append, h2, filter_take_len _ hz, if_pos h]
        rfl
      · refine ⟨bs, h1, ?_, s2, Nat.le_succ_of_le hb⟩
        rw [h2, filter_take_len _ hz, if_neg h]
        rfl
    · rintro H2 ⟨bs, h1, h2, s2, _⟩
      rw [List.length_map, Paired.length fs, List.take_length] at h2
      refine ⟨_, rfl, p, rfl, ⟨_, SqL.of (s2 _ _ hp)⟩, fun D2 hD2 => ?_⟩
      refine lc_list (K := K) (a := p) (xs := as.map V.ref) (fun i H' => ∃ cs : List Addr, H' D2 = some (.lst (cs.map V.ref)) ∧ cs.length = ((l.take i).filter fun y => y.kind == x.kind && Kyt.faster y x).length ∧ Same H2 H' ∧ cs.length ≤ i) ⟨[], upd_same, rfl, same_upd hD2, Nat.le_refl _⟩ (fun i H' _ ⟨_, _, _, s3, _⟩ => SqL.of (s3 _ _ (s2 _ _ hp))) ?_ ?_
      · rintro i y H3 hi ⟨cs, k1, k2, s3, hc⟩
        obtain ⟨b, hb', rfl⟩ := mapRef_at hi
        obtain ⟨z, hz, FB⟩ := fs.getL hb'
        have s23 := s2.trans s3
        obtain ⟨dy, oy, iy, g1, g2, g3⟩ := (FB.same s23).ex
        have hlt : i < as.length := (List.getElem?_eq_some_iff.mp hb').1
        have ek : HT.lexLt [(z.net : Int), (z.gross : Int)] [(x.net : Int), (x.gross : Int)] = Kyt.faster z x := (lexLt_kb (z.net, z.gross) (x.net, x.gross)).trans (faster_kb z x).symm
        have no : (z.kind == x.kind && Kyt.faster z x) ≠ true → Same H2 H3 ∧ cs.length = ((l.take (i + 1)).filter fun y => y.kind == x.kind && Kyt.faster y x).length := fun h => ⟨s3, by rw [k2, filter_take_len _ hz, if_neg h]; rfl⟩
        refine ⟨rfl, _, rfl, b, CF, dy, _, _, rfl, g1, T.cF, T.fKind, rfl, _, rfl, a, CF, dx, _, _, rfl, s23 _ _ f1, T.cF, T.fKind, rfl, rfl, _, rfl, ite2 (fun h => ?_) (fun h => ?_)⟩
        · have e : z.kind = x.kind := by
            have := of_decide_eq_true h
            unfold nV at this
            injection this with e
            omega
          refine ⟨_, rfl, b, CF, dy, _, _, rfl, g1, T.cF, T.fIn, rfl, _, rfl, a, CF, dx, _, _, rfl, s23 _ _ f1, T.cF, T.fIn, rfl, iy, ii, [(z.net : Int), (z.gross : Int)], [(x.net : Int), (x.gross : Int)], rfl, rfl, SqT.of g3, SqT.of (s23 _ _ f3), _, rfl, ?_⟩
          rw [ek]
          refine ite2 (fun h5 => ?_) (fun h5 => ?_)
          · refine ⟨_, rfl, cs.map V.ref, k1, by rw [List.length_map]; exact small1000 (by omega), cs ++ [b], by rw [upd_same, List.map_append]; rfl, ?_, fun c u e => by rw [upd_ne (ne_of_none e hD2)]; exact s3 _ _ e, by rw [List.length_append]; exact Nat.succ_le_succ hc⟩
            rw [List.length_append, k2, filter_take_len _ hz, if_pos (by rw [e, beq_self_eq_true, h5]; rfl)]
            rfl
          · obtain ⟨n1, n2⟩ := no (by rw [e, beq_self_eq_true, Bool.true_and]; exact h5)
            exact ⟨cs, k1, n2, n1, Nat.le_succ_of_le hc⟩
        · have e : ¬ z.kind = x.kind := fun y => h (by rw [y]; exact decide_eq_true rfl)
          obtain ⟨n1, n2⟩ := no (by rw [beq_eq_false_iff_ne.mpr e]; simp)
          exact iteF ⟨cs, k1, n2, n1, Nat.le_succ_of_le hc⟩
      · rintro H3 ⟨cs, k1, k2, s3, _⟩
        rw [List.length_map, Paired.length fs, List.take_length] at k2
        have s23 := s2.trans s3
        refine ⟨_, rfl, D, _, rfl, .inl (SqL.of (s3 _ _ h1)), 1, bs.length, rfl, by rw [List.length_map]; rfl, _, rfl, D2, _, rfl, .inl (SqL.of k1), 1, cs.length, rfl, by rw [List.length_map]; rfl, (by show 2 ≤ sizeLine; decide), fun pp hpp => kk _ pp (s23.trans (same_upd hpp)) (s23.free hpp) ?_⟩
        rw [upd_same]
        have e1 : 1 + bs.length = Kyt.place Kyt.before l x := by unfold Kyt.place; omega
        have e2 : 1 + cs.length = Kyt.place Kyt.faster (Kyt.ofKind l x.kind) x := by
          unfold Kyt.place Kyt.ofKind
          rw [List.filter_filter]
          have e3 : (l.filter fun a => Kyt.faster a x && a.kind == x.kind) = l.filter fun y => y.kind == x.kind && Kyt.faster y x := List.filter_congr fun y _ => Bool.and_comm _ _
          rw [e3]
          omega
        rw [e1, e2]

/-! ### answer_rank -/
def spRank (C CR : Addr) : Sp := fun vs H Q _ => ∃ (l : Lay) (r : Kyt.Race) (k : Nat), vs = [.ref l.a, nV k] ∧ RaceAt C CR H l r ∧ AskedA H r (.rank k) Q
theorem ok_rank {f : Addr} {fd : FuncData} (F : Fun K "answer_rank" "answer_rank" sRank f fd) (T : Txt K mg C CR CW CF) (DA : CallD P w K mg base "all_finishes" 4 ["race"] (spAllF C CR CF)) (DP : CallD P w K mg base "places_of" 1 ["finish", "finishes"] (spPlaces CF)) : FnOk P w K mg base CX0 5 f fd ["race", "who"] (spRank C CR) := by
  refine F.ok scRank (fun vs H Q E h => ?_) (fun cdv A outer s H vs Q E hr h => ?_)
  · obtain ⟨l, r, k, rfl, _⟩ := h
    rfl
  · obtain ⟨l, r, k, rfl, RA, ans, e, kk⟩ := h
    have hr1 : Room 1 _ := hr.mono (by decide)
    refine ⟨_, pss_cons (ps_if (pt_cmpR op_ge (pv 1) (pe_callB call_len_seq (by rfl) T.len PySem.boot_len (pa_cons (pe_fld (pv 0) rfl) pa_nil)) (nomark _)) (pss_one (ps_ret (pe_lst (pa_cons (pe_gi T.gNoRunner) pa_nil)))) pss_nil)
      (pss_cons (ps_set (i := 2) scRank.nd rfl (Or.inl rfl) (pe_def DA hr (pa_cons (pv 0) pa_nil)))
      (pss_cons (ps_for PassesOwn.never rfl (pi_list (pv 2)) (pg_name (i := 3) scRank.nd rfl (Or.inl rfl)) (pss_one (ps_if (pt_cmpR op_eq (pe_fld (pv 3) rfl) (pv 1) (nomark _)) (pss_one (ps_ret (pe_def DP hr1 (pa_cons (pv 3) (pa_cons (pv 2) pa_nil))))) pss_nil)))
      (pss_one (ps_ret (pe_lst (pa_cons (pe_gi T.gNoResult) pa_nil)))))), ?_⟩
    rw [acts_rank] at e
    have one : ∀ (z : Int) (H1 : Hp), Same H H1 → some (some r, Kyt.say z) = some (some r, ans) → 1 ≤ sizeLine ∧ ∀ p, H1 p = none → Q (.ref p) (upd H1 p (.lst [.int z])) := fun z H1 s1 e => by
      cases e
      exact ⟨(by decide), fun p hp => kk _ p (s1.trans (same_upd hp)) (s1.free hp) upd_same⟩
    refine ⟨_, rfl, _, rfl, l.a, C, l.dx, _, _, rfl, RA.obj, T.cC, T.nRuns, rfl, l.R, _, rfl, .inl (SqL.of RA.runs), _, _, rfl, rfl, _, rfl, ?_⟩
    rw [List.length_map, RA.len]
    refine ite2 (fun h => ?_) (fun h => ?_)
    · have h := of_decide_eq_true h
      rw [if_pos (by omega)] at e
      exact one _ H (Same.refl _) e
    · have h : ¬ (r.runners.length : Int) ≤ (k : Int) := fun z => h (decide_eq_true z)
      rw [if_neg (by omega)] at e
      refine ⟨_, rfl, l, r, rfl, RA, fun H1 p as s1 hp hl fs => ?_⟩
      have l48 : (Kyt.results r).length ≤ 48 := by
        rw [resTo_all]
        exact Nat.le_trans (resTo_len r _) RA.good.run
      refine ⟨_, rfl, p, rfl, ⟨_, SqL.of hl⟩, for_list (K := K) (a := p) (xs := as.map V.ref) (fun i σ H' => ∃ v : Option V, σ = [some (.ref l.a), some (nV k), some (.ref p), v] ∧ H' = H1 ∧ ∀ y ∈ (Kyt.results r).take i, ¬ y.who = k) ⟨none, rfl, rfl, fun y hy => by simp at hy⟩ (fun i σ H' _ ⟨_, _, e, _⟩ => by rw [e]; exact SqL.of hl) ?_ ?_⟩
      · rintro i y σ H' hi ⟨v, rfl, rfl, hno⟩
        obtain ⟨a, ha, rfl⟩ := mapRef_at hi
        obtain ⟨x, hx, FA⟩ := fs.getL ha
        obtain ⟨dx, o, ii, f1, f2, f3⟩ := FA.ex
        refine ⟨_, rfl, a, CF, dx, _, _, rfl, f1, T.cF, T.fWho, rfl, _, rfl, rfl, _, rfl, ite2 (fun h2 => ?_) (fun h2 => ?_)⟩
        · have ew : x.who = k := by
            have := of_decide_eq_true h2
            unfold nV at this
            injection this with e
            omega
          have ef : ((Kyt.results r).find? fun x => x.who == k) = some x := by
            rw [List.find?_eq_some_iff_append]
            obtain ⟨hlt, hxe⟩ := List.getElem?_eq_some_iff.mp hx
            refine ⟨by simpa using ew, (Kyt.results r).take i, (Kyt.results r).drop (i + 1), ?_, fun y hy => by simpa using hno y hy⟩
            rw [← hxe, ← List.drop_eq_getElem_cons hlt, List.take_append_drop]
          rw [ef] at e
          cases e
          refine ⟨_, rfl, _, rfl, a, p, x, as, _, rfl, FA, hl, fs, l48, fun H2 pp s2 hpp hpl => kk H2 pp (s1.trans s2) (s1.free hpp) ?_⟩
          exact hpl
        · have ew : ¬ x.who = k := fun z => h2 (by rw [z]; exact decide_eq_true rfl)
          refine ⟨_, rfl, rfl, fun y hy => ?_⟩
          rw [take_snoc hx] at hy
          rcases List.mem_append.mp hy with z | z
          · exact hno y z
          · rw [List.mem_singleton.mp z]; exact ew
      · rintro σ H' ⟨v, rfl, rfl, hno⟩
        rw [List.length_map, Paired.length fs, List.take_length] at hno
        have ef : ((Kyt.results r).find? fun x => x.who == k) = none := by
          rw [List.find?_eq_none]
          intro y hy
          simpa using hno y hy
        rw [ef] at e
        exact one _ H' s1 e
end
end Mat
end
section
set_option Elab.async false
set_option linter.unusedVariables false
set_option maxRecDepth 100000
set_option maxHeartbeats 2000000
namespace Mat
open PySem PySem.Spec L2
open PyProof.Rows hiding St
open PySem.W (CodeHd)
theorem nV_inj {a b : Nat} (h : nV a = nV b) : a = b := by unfold nV at h; injection h with h; omega
theorem FinAt.inj {CF : Addr} {H : Hp} {a : Addr} {x y : Kyt.Result} (h : FinAt CF H a x) (h' : FinAt CF H a y) : x = y := by
  obtain ⟨dx, o, i, h1, h2, h3⟩ := h.ex
  obtain ⟨dx', o', i', g1, g2, g3⟩ := h'.ex
  rw [h1] at g1
  have e := Option.some.inj g1
  injection e with _ _ e
  unfold fFin at e
  injection e with e1 e
  injection e with e2 e
  injection e with e3 _
  have w := nV_inj (congrArg Prod.snd e1)
  have k := nV_inj (congrArg Prod.snd e2)
  have oo : o = o' := by
    have := congrArg Prod.snd e3
    injection this
  subst oo
  rw [h2] at g2
  have e := Option.some.inj g2
  injection e with e
  injection e with e4 e
  injection e with e5 _
  have g := nV_inj e4
  have n := nV_inj e5
  cases x; cases y
  simp only at w k g n
  subst w k g n
  rfl
theorem Fins.fn {CF : Addr} {H : Hp} {as : List Addr} {l : List Kyt.Result} (h : Fins CF H as l) : ∃ R : Addr → Kyt.Result, (∀ x ∈ as, FinAt CF H x (R x)) ∧ l = as.map R := by
  obtain ⟨R, hR⟩ := Classical.axiomOfChoice (r := fun (x : Addr) (y : Kyt.Result) => ∀ z, FinAt CF H x z → z = y) fun x => by
    by_cases e : ∃ z, FinAt CF H x z
    · obtain ⟨z, hz⟩ := e
      exact ⟨z, fun y hy => hy.inj hz⟩
    · exact ⟨⟨0, 0, 0, 0⟩, fun y hy => absurd ⟨y, hy⟩ e⟩
  refine ⟨R, ?_⟩
  induction h with
  | nil => exact ⟨(fun x hx => absurd hx (by simp)), rfl⟩
  | cons r t ih =>
    rename_i a x as l
    have e := hR a x r
    refine ⟨fun y hy => ?_, ?_⟩
    · rcases List.mem_cons.mp hy with z | z
      · rw [z, ← e]; exact r
      · exact ih.1 y z
    · rw [List.map_cons, ← e, ← ih.2]
theorem sorted_rank {f : Kyt.Result → Kyt.Result → Bool} {key : Kyt.Result → Nat × Nat} (hf : ∀ a b, f a b = kb (key a) (key b)) {as as' : List Addr} {R : Addr → Kyt.Result} (hp : as'.Perm as) (hs : as'.Pairwise (fun x y => kb (key (R y)) (key (R x)) = false))
    (hst : ∀ c, (as'.filter fun x => decide (key (R x) = c)) = as.filter fun x => decide (key (R x) = c)) : Kyt.ranked f (as.map R) = as'.map fun x => (R x).who := by
  rw [ranked_sorted hf (hp.map R) (by rw [List.pairwise_map]; exact hs) (fun c => ?_), List.map_map]
  · rfl
  · rw [List.filter_map, List.filter_map]
    exact congrArg (List.map R) (hst c)
theorem SameT.free {P : Addr} {H H' : Hp} {qual : Str} {poss : List Pos} (s : SameT P H H') (T : TabOk H' P qual poss) {p : Addr} (h : H' p = none) : H p = none := by
  cases e : H p with
  | none => rfl
  | some o =>
    by_cases z : p = P
    · obtain ⟨tb, hP, _⟩ := T
      rw [z, hP] at h; cases h
    · rw [s p o z e] at h; cases h
theorem FinAt.sameT {CF P : Addr} {H H' : Hp} {a : Addr} {x : Kyt.Result} {qual : Str} {poss : List Pos} (h : FinAt CF H a x) (T : TabOk H P qual poss) (s : SameT P H H') : FinAt CF H' a x := by
  obtain ⟨tb, hP, _⟩ := T
  obtain ⟨dx, o, i, h1, h2, h3⟩ := h.ex
  exact ⟨dx, o, i, s _ _ (ne_of h1 hP fun z => nomatch z) h1, s _ _ (ne_of h2 hP fun z => nomatch z) h2, s _ _ (ne_of h3 hP fun z => nomatch z) h3⟩
def lamQ : Str := (Str.ofString "answer_list" ++ Str.ofString ".<locals>.") ++ Str.ofString "<lambda>"
def lamP : List Pos := [⟨185, 50, 185, 80⟩, ⟨187, 60, 187, 89⟩]
theorem scList : FnScope ["race", "kind", "finishes", "finish"] ["race", "kind"] (defScope sList) := ⟨rfl, rfl, rfl, by decide +kernel, rfl, by decide +kernel, by decide +kernel⟩
theorem bkList : BlkOk ["race", "kind", "finishes", "finish"] (defScope sList) { kind := .function, names := [(Str.ofString ".0", .local), (Str.ofString "finish", .local)], isGenerator := false, isCoroutine := false } [("finish", 3)] := blkOk_by (by decide +kernel)
section
variable {P : Program} {w : World} {K : PySem.W.Frag} {mg : Str → Option Value} {base : Heap} {C CR CW CF : Addr}
/-! ### answer_list -/
def spList (C CR Pt : Addr) : Sp := fun vs H Q _ => ∃ (l : Lay) (r : Kyt.Race) (q : Nat), vs = [.ref l.a, nV q] ∧ RaceAt C CR H l r ∧ TabOk H Pt lamQ lamP ∧ ∃ ans, Kyt.acts (some r) (.list q) = some (some r, ans) ∧
  ∀ (H' : Hp) (p : Addr), SameT Pt H H' → TabOk H' Pt lamQ lamP → H p = none → H' p = some (.lst ((ans.value :: KytNeutral.ints ans.out).map V.int)) → Q (.ref p) H'
theorem ok_list {f c Pt : Addr} {fd : FuncData} (F : Fun K "answer_list" "answer_list" sList f fd) (hcd : fd.code = .ref c) (hC : CodeHd base c Pt) (hB : BM mg base) (T : Txt K mg C CR CW CF) (DA : CallD P w K mg base "all_finishes" 4 ["race"] (spAllF C CR CF))
    (DK : CallD P w K mg base "finishes_of_kind" 5 ["race", "kind"] (spOfKind C CR CF)) : FnOk P w K mg base CX0 6 f fd ["race", "kind"] (spList C CR Pt) := by
  obtain ⟨oc, od, kV, doc, pm, an, cdv, ct, osl, rfl, lk, hcdv⟩ := F.ex
  have hcd : cdv = .ref c := hcd
  subst hcd
  refine fn_of lk hcdv scList (fun vs H Q E h => ?_) fun A outer s H vs Q E hr h => ?_
  · obtain ⟨l, r, q, rfl, _⟩ := h
    rfl
  · suffices z : ∃ t, PSs (cxOf CX0 P w K mg base ["race", "kind", "finishes", "finish"] "answer_list" (defScope sList) f (.ref c) A outer s H E).nox (defBody sList) t ∧ t { nx := fun _ H' => Q .non H', rt := Q } (start ["race", "kind", "finishes", "finish"] vs) H from let ⟨t, h, q⟩ := z; ⟨t, h.nox, q⟩
    obtain ⟨l, r, q, rfl, RA, TB, ans, e, kk⟩ := h
    have hr4 : Room 4 _ := hr.mono (by decide)
    refine ⟨_, pss_cons (ps_if (pt_cmpR op_gt (pv 1) (pe_gi T.gAll) (nomark _)) (pss_one (ps_ret (pe_lst (pa_cons (pe_gi T.gOut) pa_nil)))) pss_nil)
      (pss_cons (ps_if (pt_cmpR op_eq (pv 1) (pe_gi T.gAll) (nomark _))
        (pss_one (ps_set (i := 2) scList.nd rfl (Or.inl rfl) (pe_sortedL (P := Pt) (c := c) (qual := lamQ) (poss := lamP) (fld := "over_all") rfl T.sorted_ (pa_cons (pe_def DA hr4 (pa_cons (pv 0) pa_nil)) pa_nil) hr rfl hC hB rfl (by decide))))
        (pss_one (ps_set (i := 2) scList.nd rfl (Or.inl rfl) (pe_sortedL (P := Pt) (c := c) (qual := lamQ) (poss := lamP) (fld := "in_kind") rfl T.sorted_ (pa_cons (pe_def DK hr (pa_cons (pv 0) (pa_cons (pv 1) pa_nil))) pa_nil) hr rfl hC hB rfl (by decide)))))
      (pss_one (ps_ret (pe_op op_cat (pe_lst (pa_cons (pe_callB call_len_seq (by rfl) T.len PySem.boot_len (pa_cons (pv 2) pa_nil)) pa_nil))
        (pe_lc (own := [("finish", 3)]) (g := gName 3) (tt := tYes) (te := tFld K (tVar 3) "who") rfl scList.nd (pi_list (pv 2)) bkList (fun _ _ _ _ _ => pg_name (i := 3) scList.nd rfl (Or.inl rfl)) (fun _ _ _ _ _ => pts_nil) (fun _ _ _ _ _ => pe_fld (pv 3) rfl)))))), ?_⟩
    rw [acts_list] at e
    -- the last row: [len(finishes)] + [..]
    have last : ∀ (H2 : Hp) (D : Addr) (as' : List Addr) (R : Addr → Kyt.Result), SameT Pt H H2 → TabOk H2 Pt lamQ lamP → H2 D = some (.lst (as'.map V.ref)) → as'.length ≤ 48 → (∀ x ∈ as', FinAt CF H2 x (R x)) → ans = ⟨((as'.map fun x => (R x).who).length : Nat), as'.map fun x => (R x).who⟩ →
        tRet (tOp rCat (tLst (tCons (tCB (fun xs H Q => ∃ p ys, xs = [.ref p] ∧ (SqL K H p ys ∨ SqT K H p ys) ∧ Q (.int ys.length) H) (tCons (tVar 2) tNil)) tNil)) (tLc (iList K (tVar 2)) (gName 3) tYes (tFld K (tVar 3) "who") [3])) { nx := fun _ H' => Q .non H', rt := Q } [some (.ref l.a), some (nV q), some (.ref D), none] H2 := by
      intro H2 D as' R st tb hD l48 fin ea
      refine ⟨_, rfl, D, _, rfl, .inl (SqL.of hD), ?_⟩
      rw [List.length_map]
      refine ⟨(by show 1 ≤ sizeLine; decide), fun p1 hp1 => ?_⟩
      have s1 : Same H2 (upd H2 p1 (.lst [.int (as'.length : Nat)])) := same_upd hp1
      refine ⟨_, rfl, D, rfl, ⟨_, SqL.of (s1 _ _ hD)⟩, fun D2 hD2 => ?_⟩
      refine lc_list (K := K) (a := D) (xs := as'.map V.ref) (fun i H' => H' D2 = some (.lst ((as'.take i).map fun x => nV (R x).who)) ∧ Same (upd H2 p1 (.lst [.int (as'.length : Nat)])) H') ⟨upd_same, same_upd hD2⟩ (fun i H' _ ⟨_, s2⟩ => SqL.of (s2 _ _ (s1 _ _ hD))) ?_ ?_
      · rintro i y H3 hi ⟨h1, s2⟩
        obtain ⟨b, hb, rfl⟩ := mapRef_at hi
        obtain ⟨dy, oy, iy, g1, g2, g3⟩ := ((fin b (List.mem_of_getElem? hb)).same (s1.trans s2)).ex
        have hlt : i < as'.length := (List.getElem?_eq_some_iff.mp hb).1
        refine ⟨rfl, yes_ok (iteT ?_)⟩
        refine ⟨_, rfl, b, CF, dy, _, _, rfl, g1, T.cF, T.fWho, rfl, _, h1, by rw [List.length_map, List.length_take]; exact small1000 (by omega), ?_, fun c u e => by rw [upd_ne (ne_of_none e hD2)]; exact s2 _ _ e⟩
        rw [upd_same, take_snoc hb, List.map_append]
        rfl
      · rintro H3 ⟨h1, s2⟩
        rw [List.length_map, List.take_length] at h1
        refine ⟨p1, D2, _, _, rfl, rfl, s2 _ _ upd_same, h1, by rw [List.length_map]; exact Nat.le_of_lt (small1000 (by show 1 + as'.length ≤ 1000; omega)), fun pp hpp => ?_⟩
        have s3 : Same H2 (upd H3 pp (.lst ([.int (as'.length : Nat)] ++ as'.map fun x => nV (R x).who))) := (s1.trans s2).trans (same_upd hpp)
        refine kk _ pp (st.trans (SameT.of s3)) (tb.same s3) (st.free tb ((s1.trans s2).free hpp)) ?_
        rw [upd_same, ea]
        show _ = some (HO.lst (V.int ((as'.map fun x => (R x).who).length : Nat) :: ((as'.map fun x => (R x).who).map fun (x : Nat) => (x : Int)).map V.int))
        rw [List.map_map, List.map_map, List.length_map]
        rfl
    refine ⟨_, rfl, _, _, rfl, rfl, _, rfl, ite2 (fun h => ?_) (fun h => ?_)⟩
    · have h := of_decide_eq_true h
      rw [if_pos (by omega)] at e
      cases e
      exact ⟨(by show 1 ≤ sizeLine; decide), fun p hp => kk _ p (SameT.of (same_upd hp)) (TB.same (same_upd hp)) hp upd_same⟩
    · have h : ¬ (8 : Int) < (q : Int) := fun z => h (decide_eq_true z)
      rw [if_neg (by omega)] at e
      have e := (Prod.mk.inj (Option.some.inj e)).2
      have l48 : (Kyt.results r).length ≤ 48 := by
        rw [resTo_all]
        exact Nat.le_trans (resTo_len r _) RA.good.run
      refine ⟨_, rfl, rfl, _, rfl, ite2 (fun h2 => ?_) (fun h2 => ?_)⟩
      · have eq : q = 8 := nV_inj (of_decide_eq_true h2)
        refine ⟨_, rfl, l, r, rfl, RA, fun H1 p as s1 hp hl fs => ?_⟩
        obtain ⟨R, hR, eR⟩ := fs.fn
        have la : as.length ≤ 48 := by rw [Paired.length fs]; exact l48
        obtain ⟨kt, hkt⟩ := Classical.axiomOfChoice (r := fun (x o : Addr) => x ∈ as → ∃ dx fs, H1 x = some (.ins CF dx fs) ∧ fs.lookup (Str.ofString "over_all") = some (.ref o) ∧ H1 o = some (.tup [nV (R x).gross, nV (R x).net])) fun x => by
          by_cases hx : x ∈ as
          · obtain ⟨dx, o, i, g1, g2, g3⟩ := (hR x hx).ex
            exact ⟨o, fun _ => ⟨dx, _, g1, rfl, g2⟩⟩
          · exact ⟨0, fun z => absurd z hx⟩
        refine ⟨p, CF, as, kt, fun x => ((R x).gross, (R x).net), rfl, SqL.of hl, by omega, T.cF, T.fOver, hkt, TB.same s1, fun H2 D as' fD st tb hD hp' hs' hst' => ?_⟩
        refine last H2 D as' R ((SameT.of s1).trans st) tb hD (by rw [hp'.length_eq]; exact la) (fun x hx => (hR x (hp'.mem_iff.mp hx)).sameT (TB.same s1) st) ?_
        rw [← sorted_rank (f := Kyt.before) (key := fun x => (x.gross, x.net)) before_kb hp' hs' hst', ← eR, ← e]
        unfold Kyt.listOf
        rw [if_pos eq]
      · have eq : ¬ q = 8 := fun z => h2 (by rw [z]; exact decide_eq_true rfl)
        refine ⟨_, rfl, _, rfl, l, r, q, rfl, RA, fun H1 p as s1 hp hl fs => ?_⟩
        obtain ⟨R, hR, eR⟩ := fs.fn
        have la : as.length ≤ 48 := by
          rw [Paired.length fs]
          exact Nat.le_trans (List.length_filter_le ..) l48
        obtain ⟨kt, hkt⟩ := Classical.axiomOfChoice (r := fun (x o : Addr) => x ∈ as → ∃ dx fs, H1 x = some (.ins CF dx fs) ∧ fs.lookup (Str.ofString "in_kind") = some (.ref o) ∧ H1 o = some (.tup [nV (R x).net, nV (R x).gross])) fun x => by
          by_cases hx : x ∈ as
          · obtain ⟨dx, o, i, g1, g2, g3⟩ := (hR x hx).ex
            exact ⟨i, fun _ => ⟨dx, _, g1, rfl, g3⟩⟩
          · exact ⟨0, fun z => absurd z hx⟩
        refine ⟨p, CF, as, kt, fun x => ((R x).net, (R x).gross), rfl, SqL.of hl, by omega, T.cF, T.fIn, hkt, TB.same s1, fun H2 D as' fD st tb hD hp' hs' hst' => ?_⟩
        refine last H2 D as' R ((SameT.of s1).trans st) tb hD (by rw [hp'.length_eq]; exact la) (fun x hx => (hR x (hp'.mem_iff.mp hx)).sameT (TB.same s1) st) ?_
        rw [← sorted_rank (f := Kyt.faster) (key := fun x => (x.net, x.gross)) faster_kb hp' hs' hst', ← eR, ← e]
        unfold Kyt.listOf
        rw [if_neg eq]
end
end Mat
end
section
set_option Elab.async false
set_option linter.unusedVariables false
set_option maxHeartbeats 2000000
namespace Mat
/-- the numbers of one call -/
inductive Seg : List Nat → Kyt.Call → Prop
  | start (n : Nat) (ls : List Nat) : Seg (0 :: n :: ls.length :: ls) (.start ls n)
  | gun (w t : Nat) : Seg [1, w, t] (.gun w t)
  | runner (w q : Nat) : Seg [2, w, q] (.runner w q)
  | seen (k m t : Nat) : Seg [3, k, m, t] (.seen k m t)
  | strike (k o : Nat) : Seg [4, k, o] (.strike k o)
  | of (k : Nat) : Seg [5, k] (.of k)
  | split (k m : Nat) : Seg [6, k, m] (.split k m)
  | rank (k : Nat) : Seg [7, k] (.rank k)
  | list (q : Nat) : Seg [8, q] (.list q)
theorem Seg.pos {seg : List Nat} {c : Kyt.Call} (h : Seg seg c) : 0 < seg.length := by cases h <;> simp
abbrev cst (ks : List Nat) : List Int := ks.map fun (k : Nat) => (k : Int)
theorem cst_nats (ls : List Nat) : KytNeutral.natsOf (cst ls) = ls := by
  unfold KytNeutral.natsOf cst
  rw [List.map_map]
  conv => rhs; rw [← List.map_id ls]
  exact List.map_congr_left fun x _ => rfl
theorem whole_eq (c : List (List Int)) : PyKyt.whole c = c := by
  unfold PyKyt.whole
  split <;> rfl
theorem map_whole (cs : List (List (List Int))) : cs.map PyKyt.whole = cs := by
  conv => rhs; rw [← List.map_id cs]
  exact List.map_congr_left fun x _ => whole_eq x
/-- one call read off -/
theorem parse_call {ks : List Nat} {c : List (List Int)} {t : List Int} (h : PyFlat.call PyKyt.shape (cst ks) = some (c, t)) : ∃ seg rest kc, ks = seg ++ rest ∧ t = cst rest ∧ Seg seg kc ∧ KytNeutral.callOf c = some kc := by
  cases ks with
  | nil => cases h
  | cons p r =>
    have h : (match PyKyt.shape (p : Int) with
      | none => none
      | some (n, k) => if (cst r).length < n then none else match PyFlat.rows k ((cst r).drop n) with
        | none => none
        | some (xs, t) => some (((p : Int) :: (cst r).take n) :: xs, t)) = some (c, t) := h
    have lr : (cst r).length = r.length := List.length_map ..
    -- the calls without rows
    have plain : ∀ n, (if (cst r).length < n then none else match PyFlat.rows 0 ((cst r).drop n) with | none => none | some (xs, t) => some (((p : Int) :: (cst r).take n) :: xs, t)) = some (c, t) → n ≤ r.length ∧ c = [(p : Int) :: cst (r.take n)] ∧ t = cst (r.drop n) := fun n h => by
      by_cases l : (cst r).length < n
      · rw [if_pos l] at h; cases h
      · rw [if_neg l] at h
        have h : some (((p : Int) :: (cst r).take n) :: [], (cst r).drop n) = some (c, t) := h
        cases h
        refine ⟨by omega, ?_, ?_⟩
        · rw [← List.map_take]
        · rw [← List.map_drop]
    match p, h with
    | 0, h =>
      have h : (if (cst r).length < 1 then none else match PyFlat.rows 1 ((cst r).drop 1) with | none => none | some (xs, t) => some (((0 : Nat) : Int) :: (cst r).take 1) |>.map (fun x => (x :: xs, t))) = some (c, t) := by
        rw [← h]
        show _ = (if (cst r).length < 1 then none else match PyFlat.rows 1 ((cst r).drop 1) with | none => none | some (xs, t) => some ((((0 : Nat) : Int) :: (cst r).take 1) :: xs, t))
        split
        · rfl
        · cases PyFlat.rows 1 ((cst r).drop 1) <;> rfl
      match r, h with
      | [], h => cases h
      | [_], h => cases h
      | a :: n :: r2, h =>
        rw [if_neg (by simp)] at h
        have e1 : PyFlat.rows 1 ((cst (a :: n :: r2)).drop 1) = (match PyFlat.row ((n : Int) :: cst r2) with | none => none | some (x, s) => some ([x], s)) := rfl
        rw [e1] at h
        have e2 : PyFlat.row ((n : Int) :: cst r2) = if 0 ≤ (n : Int) ∧ (n : Int).toNat ≤ (cst r2).length then some ((cst r2).take (n : Int).toNat, (cst r2).drop (n : Int).toNat) else none := rfl
        rw [e2] at h
        by_cases l : n ≤ r2.length
        · rw [if_pos ⟨by omega, by rw [List.length_map]; simpa using l⟩] at h
          have h : some ([((0 : Nat) : Int) :: (cst (a :: n :: r2)).take 1, (cst r2).take (n : Int).toNat], (cst r2).drop (n : Int).toNat) = some (c, t) := h
          cases h
          rw [Int.toNat_natCast]
          refine ⟨0 :: a :: n :: r2.take n, r2.drop n, .start (r2.take n) a, ?_, ?_, ?_, ?_⟩
          · rw [List.cons_append, List.cons_append, List.cons_append, List.take_append_drop]
          · rw [← List.map_drop]
          · have en : n = (r2.take n).length := by rw [List.length_take]; omega
            have sg := Seg.start a (r2.take n)
            rw [← en] at sg
            exact sg
          · have et : (cst r2).take n = cst (r2.take n) := List.map_take.symm
            show KytNeutral.callOf [[((0 : Nat) : Int), (a : Int)], (cst r2).take n] = _
            rw [et]
            show some (Kyt.Call.start (KytNeutral.natsOf (cst (r2.take n))) ((a : Int)).toNat) = _
            rw [cst_nats, Int.toNat_natCast]
        · rw [if_neg (by rw [List.length_map]; simp; omega)] at h
          cases h
    | 1, h =>
      obtain ⟨l, rfl, rfl⟩ := plain 2 h
      match r, l with
      | a :: b :: r2, _ => exact ⟨[1, a, b], r2, _, rfl, rfl, .gun a b, by show some (Kyt.Call.gun (a : Int).toNat (b : Int).toNat) = _; rw [Int.toNat_natCast, Int.toNat_natCast]⟩
    | 2, h =>
      obtain ⟨l, rfl, rfl⟩ := plain 2 h
      match r, l with
      | a :: b :: r2, _ => exact ⟨[2, a, b], r2, _, rfl, rfl, .runner a b, by show some (Kyt.Call.runner (a : Int).toNat (b : Int).toNat) = _; rw [Int.toNat_natCast, Int.toNat_natCast]⟩
    | 3, h =>
      obtain ⟨l, rfl, rfl⟩ := plain 3 h
      match r, l with
      | a :: b :: d :: r2, _ => exact ⟨[3, a, b, d], r2, _, rfl, rfl, .seen a b d, by show some (Kyt.Call.seen (a : Int).toNat (b : Int).toNat (d : Int).toNat) = _; rw [Int.toNat_natCast, Int.toNat_natCast, Int.toNat_natCast]⟩
    | 4, h =>
      obtain ⟨l, rfl, rfl⟩ := plain 2 h
      match r, l with
      | a :: b :: r2, _ => exact ⟨[4, a, b], r2, _, rfl, rfl, .strike a b, by show some (Kyt.Call.strike (a : Int).toNat (b : Int).toNat) = _; rw [Int.toNat_natCast, Int.toNat_natCast]⟩
    | 5, h =>
      obtain ⟨l, rfl, rfl⟩ := plain 1 h
      match r, l with
      | a :: r2, _ => exact ⟨[5, a], r2, _, rfl, rfl, .of a, by show some (Kyt.Call.of (a : Int).toNat) = _; rw [Int.toNat_natCast]⟩
    | 6, h =>
      obtain ⟨l, rfl, rfl⟩ := plain 2 h
      match r, l with
      | a :: b :: r2, _ => exact ⟨[6, a, b], r2, _, rfl, rfl, .split a b, by show some (Kyt.Call.split (a : Int).toNat (b : Int).toNat) = _; rw [Int.toNat_natCast, Int.toNat_natCast]⟩
    | 7, h =>
      obtain ⟨l, rfl, rfl⟩ := plain 1 h
      match r, l with
      | a :: r2, _ => exact ⟨[7, a], r2, _, rfl, rfl, .rank a, by show some (Kyt.Call.rank (a : Int).toNat) = _; rw [Int.toNat_natCast]⟩
    | 8, h =>
      obtain ⟨l, rfl, rfl⟩ := plain 1 h
      match r, l with
      | a :: r2, _ => exact ⟨[8, a], r2, _, rfl, rfl, .list a, by show some (Kyt.Call.list (a : Int).toNat) = _; rw [Int.toNat_natCast]⟩
    | p + 9, h =>
      exfalso
      have e : PyKyt.shape ((p + 9 : Nat) : Int) = none := by
        unfold PyKyt.shape
        rw [if_neg (by omega), if_neg (by omega), if_neg (by omega), if_neg (by omega), if_neg (by omega), if_neg (by omega), if_neg (by omega), if_neg (by omega), if_neg (by omega)]
      rw [e] at h
      cases h
theorem parse_calls {ks : List Nat} {f : Nat} {cs : List (List (List Int))} (h : PyFlat.calls PyKyt.shape f (cst ks) = some cs) :
    (ks = [] ∧ cs = []) ∨ ∃ seg rest kc c cs' f', ks = seg ++ rest ∧ Seg seg kc ∧ KytNeutral.callOf c = some kc ∧ cs = c :: cs' ∧ PyFlat.calls PyKyt.shape f' (cst rest) = some cs' := by
  cases ks with
  | nil =>
    refine .inl ⟨rfl, ?_⟩
    cases f <;> (cases h; rfl)
  | cons p r =>
    right
    cases f with
    | zero => cases h
    | succ f =>
      have h : (match PyFlat.call PyKyt.shape (cst (p :: r)) with
        | none => none
        | some (c, t) => match PyFlat.calls PyKyt.shape f t with
          | none => none
          | some cs => some (c :: cs)) = some cs := h
      cases e : PyFlat.call PyKyt.shape (cst (p :: r)) with
      | none => rw [e] at h; cases h
      | some z =>
        obtain ⟨c, t⟩ := z
        rw [e] at h
        obtain ⟨seg, rest, kc, e1, rfl, sg, ec⟩ := parse_call e
        have h : (match PyFlat.calls PyKyt.shape f (cst rest) with
          | none => none
          | some cs => some (c :: cs)) = some cs := h
        cases e2 : PyFlat.calls PyKyt.shape f (cst rest) with
        | none => rw [e2] at h; cases h
        | some cs' =>
          rw [e2] at h
          cases h
          exact ⟨seg, rest, kc, c, cs', f, e1, sg, ec, rfl, e2⟩
/-- a call that may come -/
theorem may_step {s : Option Kyt.Race} {c : List (List Int)} {cs : List (List (List Int))} {kc : Kyt.Call} (ec : KytNeutral.callOf c = some kc) (h : KytNeutral.may s (c :: cs) = true) :
    ∃ s' ans, Kyt.acts s kc = some (s', ans) ∧ KytNeutral.step s c = (s', ans.value :: KytNeutral.ints ans.out) ∧ KytNeutral.may s' cs = true := by
  have h : (!((KytNeutral.step s c).2.isEmpty) && KytNeutral.may (KytNeutral.step s c).1 cs) = true := h
  rw [Bool.and_eq_true] at h
  have es : KytNeutral.step s c = match (some kc).bind (Kyt.acts s) with | none => (s, []) | some (t, a) => (t, a.value :: KytNeutral.ints a.out) := by
    unfold KytNeutral.step
    rw [ec]
    rfl
  have es : KytNeutral.step s c = match Kyt.acts s kc with | none => (s, []) | some (t, a) => (t, a.value :: KytNeutral.ints a.out) := es
  cases e : Kyt.acts s kc with
  | none =>
    rw [e] at es
    have es : KytNeutral.step s c = (s, []) := es
    rw [es] at h
    cases h.1
  | some z =>
    obtain ⟨t, a⟩ := z
    rw [e] at es
    have es : KytNeutral.step s c = (t, a.value :: KytNeutral.ints a.out) := es
    rw [es] at h
    exact ⟨t, a, rfl, es, h.2⟩
theorem flat_len {α : Type} (g : α → Nat) : ∀ (l : List α) (N : Nat), ((List.range N).flatMap fun p => l.filter fun x => g x == p).length ≤ l.length := fun l N => by
  have e : ∀ N, ((List.range N).flatMap fun p => l.filter fun x => g x == p).length = (l.filter fun x => decide (g x < N)).length := fun N => by
    induction N with
    | zero =>
      have : (l.filter fun x => decide (g x < 0)) = [] := by
        rw [List.filter_eq_nil_iff]
        intro x _
        simp
      rw [this]
      rfl
    | succ N ih =>
      rw [List.range_succ, List.flatMap_append, List.length_append, ih]
      show _ + ((l.filter fun x => g x == N) ++ []).length = _
      rw [List.append_nil]
      clear ih
      induction l with
      | nil => rfl
      | cons a l ih =>
        by_cases c : g a < N
        · rw [List.filter_cons_of_pos (by simpa using c), List.filter_cons_of_neg (by simp; omega), List.filter_cons_of_pos (by simp; omega), List.length_cons, List.length_cons, ← ih]
          omega
        · by_cases d : g a = N
          · rw [List.filter_cons_of_neg (by simpa using c), List.filter_cons_of_pos (by simpa using d), List.filter_cons_of_pos (by simp; omega), List.length_cons, List.length_cons, ← ih]
            omega
          · rw [List.filter_cons_of_neg (by simpa using c), List.filter_cons_of_neg (by simpa using d), List.filter_cons_of_neg (by simp; omega), ← ih]
  rw [e N]
  exact List.length_filter_le ..
theorem ranked_len (f : Kyt.Result → Kyt.Result → Bool) (l : List Kyt.Result) : (Kyt.ranked f l).length ≤ l.length := by
  unfold Kyt.ranked
  have e : ((List.range (l.length + 1)).flatMap fun p => (l.filter fun x => Kyt.place f l x == p).map fun x => x.who) = ((List.range (l.length + 1)).flatMap fun p => l.filter fun x => Kyt.place f l x == p).map fun x => x.who := by rw [List.map_flatMap]
  rw [e, List.length_map]
  exact flat_len _ _ _
theorem listOf_len (r : Kyt.Race) (q : Nat) : (Kyt.listOf r q).length ≤ r.runners.length := by
  have h : (Kyt.results r).length ≤ r.runners.length := by
    unfold Kyt.results
    refine Nat.le_trans (List.length_filterMap_le ..) ?_
    rw [List.length_range]
    exact Nat.le_refl _
  unfold Kyt.listOf
  split
  · exact Nat.le_trans (ranked_len _ _) h
  · refine Nat.le_trans (ranked_len _ _) (Nat.le_trans ?_ h)
    unfold Kyt.ofKind
    exact List.length_filter_le ..
end Mat
end
section
set_option Elab.async false
set_option linter.unusedVariables false
set_option maxRecDepth 100000
set_option maxHeartbeats 2000000
namespace Mat
open PySem PySem.Spec L2
open PyProof.Rows hiding St
theorem ite_no {a : Nat} {b : Int} {A B : Prop} (h : ¬ (a : Int) = b) (q : B) : if decide (nV a = V.int b) = true then A else B := ite2 (fun z => absurd (by have := of_decide_eq_true z; unfold nV at this; injection this) h) fun _ => q
theorem ite_yes {a : Nat} {b : Int} {A B : Prop} (h : (a : Int) = b) (q : A) : if decide (nV a = V.int b) = true then A else B := ite2 (fun _ => q) fun z => absurd (decide_eq_true (by unfold nV; rw [h])) z
structure MoveT (Pt : Addr) (l l' : Lay) (H H' : Hp) : Prop where
  a : l'.a = l.a
  keep : ∀ b o, H b = some o → b ∉ l.foot → b ≠ Pt → H' b = some o
  foot : ∀ b, b ∈ l'.foot → b ∈ l.foot ∨ H b = none
theorem Move.t {Pt : Addr} {l l' : Lay} {H H' : Hp} (m : Move l l' H H') : MoveT Pt l l' H H' := ⟨m.a, fun b o e n _ => m.keep b o e n, m.foot⟩
theorem tab_move {C CR Pt : Addr} {H H' : Hp} {l l' : Lay} {s : Option Kyt.Race} {qual : Str} {poss : List Pos} (RS : RaceS C CR H l s) (m : Move l l' H H') (T : TabOk H Pt qual poss) : TabOk H' Pt qual poss := by
  obtain ⟨tb, h1, h2, h3⟩ := T
  have far : ∀ {b : Addr} {o : HO}, H b = some o → ¬ Mut (some o) → H' b = some o := fun {b o} e n => m.keep b o e fun z => n (by have := RS.mut z; rw [e] at this; exact this)
  refine ⟨tb, far h1 (fun z => z), h2, fun pos hp => ?_⟩
  rcases h3 pos hp with h | ⟨c', oc, vs, t, q1, q2, q3⟩
  · exact .inl h
  · exact .inr ⟨c', oc, vs, t, q1, far q2 (fun z => z), q3⟩
theorem Told.same {C CR : Addr} {H H1 : Hp} {l : Lay} {c : Option (Option Kyt.Race × Kyt.Ans)} {Q : VK} (t : Told C CR H l c Q) (s : Same H H1) : Told C CR H1 l c Q := by
  obtain ⟨s', ans, e, k⟩ := t
  exact ⟨s', ans, e, fun H' l' RS m => k H' l' RS ((Move.same s).trans m)⟩
def Tells : Kyt.Call → Prop
  | .start _ _ => True
  | .gun _ _ => True
  | .runner _ _ => True
  | .seen _ _ _ => True
  | .strike _ _ => True
  | _ => False
theorem cut_from (xs : List V) (k : Nat) : cutV xs (some (k : Int)) none = xs.drop k := by
  unfold cutV
  rw [HT.sIx_nat, HT.sIx_none]
  by_cases h : k ≤ xs.length
  · rw [Nat.min_eq_left h, List.take_of_length_le (by rw [List.length_drop]; omega)]
  · rw [Nat.min_eq_right (by omega), List.drop_eq_nil_of_le (Nat.le_refl _), List.drop_eq_nil_of_le (by omega), List.take_nil]
theorem cut_seg (xs : List V) (i j : Nat) (h : i ≤ j) (hj : j ≤ xs.length) : cutV xs (some (i : Int)) (some (j : Int)) = (xs.drop i).take (j - i) := by
  unfold cutV
  rw [HT.sIx_nat, HT.sIx_nat, Nat.min_eq_left hj, Nat.min_eq_left (Nat.le_trans h hj)]
section
variable {P : Program} {w : World} {K : PySem.W.Frag} {mg : Str → Option Value} {base : Heap} {C CR CW CF : Addr}
/-! ### end_of_call -/
def spEnd (K : PySem.W.Frag) : Sp := fun vs H Q _ => ∃ (p : Addr) (ns seg rest : List Nat) (i : Nat) (c : Kyt.Call), vs = [.ref p, nV i] ∧ SqL K H p (ns.map nV) ∧ ns.drop i = seg ++ rest ∧ Seg seg c ∧ Q (nV (i + seg.length)) H
theorem scEnd : FnScope ["calls", "place", "end"] ["calls", "place"] (defScope sEnd) := ⟨rfl, rfl, rfl, by decide +kernel, rfl, by decide +kernel, by decide +kernel⟩
theorem ok_end {f : Addr} {fd : FuncData} (F : Fun K "end_of_call" "end_of_call" sEnd f fd) (T : Txt K mg C CR CW CF) : FnOk P w K mg base CX0 1 f fd ["calls", "place"] (spEnd K) := by
  refine F.ok scEnd (fun vs H Q E h => ?_) (fun cdv A outer s H vs Q E hr h => ?_)
  · obtain ⟨p, ns, seg, rest, i, c, rfl, _⟩ := h
    rfl
  · obtain ⟨p, ns, seg, rest, i, c, rfl, hp, hd, sg, k⟩ := h
    obtain ⟨ps, hm, hS⟩ := T.gSizes
    refine ⟨_, pss_cons (ps_set (i := 2) scEnd.nd rfl (Or.inl rfl) (pe_op op_addN (pv 1) (pe_ix ix_tup (pe_glob (v := V.ref ps) rfl hm rfl) (pe_ix ix_list (pv 0) (pv 1) (fun _ _ => rfl)) (fun _ _ => rfl))))
      (pss_cons (ps_if (pt_cmpR op_eq (pe_ix ix_list (pv 0) (pv 1) (fun _ _ => rfl)) (pe_gi T.gStart) (nomark _)) (pss_one (ps_ret (pe_op op_addN (pv 2) (pe_ix ix_list (pv 0) (pe_op op_subN (pv 2) pe_int) (fun _ _ => rfl))))) pss_nil)
      (pss_one (ps_ret (pv 2)))), ?_⟩
    have atN : ∀ (j n : Nat), (seg ++ rest)[j]? = some n → atI (ns.map nV) (((i + j : Nat) : Int)) = some (nV n) := fun j n hj => by
      refine at_of (j := i + j) rfl ?_
      rw [List.getElem?_map, ← List.getElem?_drop, hd, hj]
      rfl
    -- the sizes, by the first number
    have go : ∀ (n z : Nat), (seg ++ rest)[0]? = some n → atI ([3, 3, 3, 4, 3, 2, 3, 2, 2].map V.int) (n : Int) = some (nV z) → (if decide (nV n = V.int 0) = true then
        (∃ n3, (seg ++ rest)[2]? = some n3 ∧ z = 3 ∧ Q (nV (i + 3 + n3)) H) else Q (nV (i + z)) H) →
        tSeq (tAsg (tOp (fun x y H Q => ∃ a b : Nat, x = nV a ∧ y = nV b ∧ Q (nV (a + b)) H) (tVar 1) (tOp (rIxT K) (tC (.ref ps)) (tOp (rIxL K) (tVar 0) (tVar 1)))) (gName 2))
          (tSeq (tIfS (tTest (tOp rEq (tOp (rIxL K) (tVar 0) (tVar 1)) (tC (.int 0)))) (tRet (tOp (fun x y H Q => ∃ a b : Nat, x = nV a ∧ y = nV b ∧ Q (nV (a + b)) H) (tVar 2) (tOp (rIxL K) (tVar 0) (tOp (fun x y H Q => ∃ a b : Nat, x = nV a ∧ y = nV b ∧ b ≤ a ∧ Q (nV (a - b)) H) (tVar 2) (tC (.int 1)))))) tNext) (tRet (tVar 2)))
          { nx := fun _ H' => Q .non H', rt := Q } [some (.ref p), some (nV i), none] H := fun n z h0 hz q => by
      have a0 := atN 0 n h0
      rw [Nat.add_zero] at a0
      refine ⟨_, rfl, _, rfl, _, rfl, p, _, _, _, rfl, rfl, hp, a0, ps, _, _, _, rfl, rfl, hS H, hz, i, z, rfl, rfl, ?_⟩
      refine ⟨_, rfl, _, rfl, p, _, _, _, rfl, rfl, hp, a0, rfl, _, rfl, ?_⟩
      by_cases c0 : decide (nV n = V.int 0) = true
      · rw [if_pos c0] at q ⊢
        obtain ⟨n3, h3, rfl, q⟩ := q
        have a3 := atN 2 n3 h3
        have e3 : i + 3 - 1 = i + 2 := by omega
        exact ⟨_, rfl, _, rfl, _, rfl, i + 3, 1, rfl, rfl, by omega, p, _, _, _, rfl, by rw [e3]; rfl, hp, a3, i + 3, n3, rfl, rfl, q⟩
      · rw [if_neg c0] at q ⊢
        exact ⟨_, rfl, q⟩
    cases sg with
    | start n ls =>
      refine go 0 3 rfl rfl (ite_yes rfl ⟨ls.length, rfl, rfl, ?_⟩)
      have e : i + 3 + ls.length = i + (0 :: n :: ls.length :: ls).length := by simp; omega
      rw [e]
      exact k
    | gun a b => exact go 1 3 rfl rfl (ite_no (by decide) k)
    | runner a b => exact go 2 3 rfl rfl (ite_no (by decide) k)
    | seen a b c => exact go 3 4 rfl rfl (ite_no (by decide) k)
    | strike a b => exact go 4 3 rfl rfl (ite_no (by decide) k)
    | of a => exact go 5 2 rfl rfl (ite_no (by decide) k)
    | split a b => exact go 6 3 rfl rfl (ite_no (by decide) k)
    | rank a => exact go 7 2 rfl rfl (ite_no (by decide) k)
    | list a => exact go 8 2 rfl rfl (ite_no (by decide) k)

/-! ### answer_telling -/
def spTell (K : PySem.W.Frag) (C CR : Addr) : Sp := fun vs H Q _ => ∃ (l : Lay) (s : Option Kyt.Race) (p : Addr) (seg : List Nat) (c : Kyt.Call), vs = [.ref l.a, .ref p] ∧ RaceS C CR H l s ∧ SqL K H p (seg.map nV) ∧ Seg seg c ∧ Tells c ∧ Told C CR H l (Kyt.acts s c) Q
theorem scTell : FnScope ["race", "call"] ["race", "call"] (defScope sTell) := ⟨rfl, rfl, rfl, by decide +kernel, rfl, by decide +kernel, by decide +kernel⟩
theorem told_some {H : Hp} {l : Lay} {s : Option Kyt.Race} {c : Kyt.Call} {Q : VK} (RS : RaceS C CR H l s) (t : Told C CR H l (Kyt.acts s c) Q) (h : Kyt.acts none c = none) : ∃ r, s = some r ∧ RaceAt C CR H l r := by
  cases s with
  | none =>
    obtain ⟨_, _, e, _⟩ := t
    rw [h] at e
    cases e
  | some r => exact ⟨r, rfl, RS⟩
theorem ok_tell {f : Addr} {fd : FuncData} (F : Fun K "answer_telling" "answer_telling" sTell f fd) (T : Txt K mg C CR CW CF) (D0 : CallD P w K mg base "start_race" 2 ["race", "lack", "least"] (spStart K C CR)) (D1 : CallD P w K mg base "set_gun" 1 ["race", "wave", "time"] (spGun C CR))
    (D2 : CallD P w K mg base "add_runner" 3 ["race", "wave", "kind"] (spAddR C CR)) (D3 : CallD P w K mg base "add_sight" 1 ["race", "who", "mat", "time"] (spAddS C CR)) (D4 : CallD P w K mg base "set_struck" 1 ["race", "who", "on"] (spStruck C CR)) :
    FnOk P w K mg base CX0 4 f fd ["race", "call"] (spTell K C CR) := by
  refine F.ok scTell (fun vs H Q E h => ?_) (fun cdv A outer s H vs Q E hr h => ?_)
  · obtain ⟨l, s, p, seg, c, rfl, _⟩ := h
    rfl
  · obtain ⟨l, st, p, seg, c, rfl, RS, hp, sg, tl, td⟩ := h
    have hr1 : Room 1 _ := hr.mono (by decide)
    have hr2 : Room 2 _ := hr.mono (by decide)
    refine ⟨_, pss_cons (ps_if (pt_cmpR op_eq (pe_ix ix_list (pv 1) pe_int (fun _ _ => rfl)) (pe_gi T.gStart) (nomark _)) (pss_one (ps_ret (pe_def D0 hr2 (pa_cons (pv 0) (pa_cons (pe_ix ix_list (pv 1) pe_int (fun _ _ => rfl)) (pa_cons (pe_slice sl_list (pv 1) (po_some pe_int) po_none) pa_nil)))))) pss_nil)
      (pss_cons (ps_if (pt_cmpR op_eq (pe_ix ix_list (pv 1) pe_int (fun _ _ => rfl)) (pe_gi T.gGun) (nomark _)) (pss_one (ps_ret (pe_def D1 hr1 (pa_cons (pv 0) (pa_cons (pe_ix ix_list (pv 1) pe_int (fun _ _ => rfl)) (pa_cons (pe_ix ix_list (pv 1) pe_int (fun _ _ => rfl)) pa_nil)))))) pss_nil)
      (pss_cons (ps_if (pt_cmpR op_eq (pe_ix ix_list (pv 1) pe_int (fun _ _ => rfl)) (pe_gi T.gRunner) (nomark _)) (pss_one (ps_ret (pe_def D2 hr (pa_cons (pv 0) (pa_cons (pe_ix ix_list (pv 1) pe_int (fun _ _ => rfl)) (pa_cons (pe_ix ix_list (pv 1) pe_int (fun _ _ => rfl)) pa_nil)))))) pss_nil)
      (pss_cons (ps_if (pt_cmpR op_eq (pe_ix ix_list (pv 1) pe_int (fun _ _ => rfl)) (pe_gi T.gSeen) (nomark _)) (pss_one (ps_ret (pe_def D3 hr1 (pa_cons (pv 0) (pa_cons (pe_ix ix_list (pv 1) pe_int (fun _ _ => rfl)) (pa_cons (pe_ix ix_list (pv 1) pe_int (fun _ _ => rfl)) (pa_cons (pe_ix ix_list (pv 1) pe_int (fun _ _ => rfl)) pa_nil))))))) pss_nil)
      (pss_one (ps_ret (pe_def D4 hr1 (pa_cons (pv 0) (pa_cons (pe_ix ix_list (pv 1) pe_int (fun _ _ => rfl)) (pa_cons (pe_ix ix_list (pv 1) pe_int (fun _ _ => rfl)) pa_nil))))))))), ?_⟩
    cases sg with
    | start n ls =>
      refine ⟨_, rfl, p, _, _, _, rfl, rfl, hp, at_of (j := 0) rfl rfl, rfl, _, rfl, ite_yes rfl ?_⟩
      refine ⟨_, rfl, _, rfl, p, _, _, _, rfl, rfl, hp, at_of (j := 1) rfl rfl, _, rfl, _, rfl, p, _, rfl, hp, fun p2 hp2 => ?_⟩
      have ec : cutV ((0 :: n :: ls.length :: ls).map nV) (some 3) none = ls.map nV := (cut_from _ 3).trans rfl
      rw [ec]
      have s2 : Same H (upd H p2 (.lst (ls.map nV))) := same_upd hp2
      exact ⟨l, st, p2, n, ls, rfl, RS.same s2, SqL.of upd_same, td.same s2⟩
    | gun a b =>
      obtain ⟨r, rfl, RA⟩ := told_some RS td rfl
      refine ⟨_, rfl, p, _, _, _, rfl, rfl, hp, at_of (j := 0) rfl rfl, rfl, _, rfl, ite_no (by decide) ?_⟩
      refine ⟨_, rfl, p, _, _, _, rfl, rfl, hp, at_of (j := 0) rfl rfl, rfl, _, rfl, ite_yes rfl ?_⟩
      exact ⟨_, rfl, _, rfl, p, _, _, _, rfl, rfl, hp, at_of (j := 1) rfl rfl, _, rfl, p, _, _, _, rfl, rfl, hp, at_of (j := 2) rfl rfl, l, r, a, b, rfl, RA, td⟩
    | runner a b =>
      obtain ⟨r, rfl, RA⟩ := told_some RS td rfl
      refine ⟨_, rfl, p, _, _, _, rfl, rfl, hp, at_of (j := 0) rfl rfl, rfl, _, rfl, ite_no (by decide) ?_⟩
      refine ⟨_, rfl, p, _, _, _, rfl, rfl, hp, at_of (j := 0) rfl rfl, rfl, _, rfl, ite_no (by decide) ?_⟩
      refine ⟨_, rfl, p, _, _, _, rfl, rfl, hp, at_of (j := 0) rfl rfl, rfl, _, rfl, ite_yes rfl ?_⟩
      exact ⟨_, rfl, _, rfl, p, _, _, _, rfl, rfl, hp, at_of (j := 1) rfl rfl, _, rfl, p, _, _, _, rfl, rfl, hp, at_of (j := 2) rfl rfl, l, r, a, b, rfl, RA, td⟩
    | seen a b c =>
      obtain ⟨r, rfl, RA⟩ := told_some RS td rfl
      refine ⟨_, rfl, p, _, _, _, rfl, rfl, hp, at_of (j := 0) rfl rfl, rfl, _, rfl, ite_no (by decide) ?_⟩
      refine ⟨_, rfl, p, _, _, _, rfl, rfl, hp, at_of (j := 0) rfl rfl, rfl, _, rfl, ite_no (by decide) ?_⟩
      refine ⟨_, rfl, p, _, _, _, rfl, rfl, hp, at_of (j := 0) rfl rfl, rfl, _, rfl, ite_no (by decide) ?_⟩
      refine ⟨_, rfl, p, _, _, _, rfl, rfl, hp, at_of (j := 0) rfl rfl, rfl, _, rfl, ite_yes rfl ?_⟩
      exact ⟨_, rfl, _, rfl, p, _, _, _, rfl, rfl, hp, at_of (j := 1) rfl rfl, _, rfl, p, _, _, _, rfl, rfl, hp, at_of (j := 2) rfl rfl, _, rfl, p, _, _, _, rfl, rfl, hp, at_of (j := 3) rfl rfl, l, r, a, b, c, rfl, RA, td⟩
    | strike a b =>
      obtain ⟨r, rfl, RA⟩ := told_some RS td rfl
      refine ⟨_, rfl, p, _, _, _, rfl, rfl, hp, at_of (j := 0) rfl rfl, rfl, _, rfl, ite_no (by decide) ?_⟩
      refine ⟨_, rfl, p, _, _, _, rfl, rfl, hp, at_of (j := 0) rfl rfl, rfl, _, rfl, ite_no (by decide) ?_⟩
      refine ⟨_, rfl, p, _, _, _, rfl, rfl, hp, at_of (j := 0) rfl rfl, rfl, _, rfl, ite_no (by decide) ?_⟩
      refine ⟨_, rfl, p, _, _, _, rfl, rfl, hp, at_of (j := 0) rfl rfl, rfl, _, rfl, ite_no (by decide) ?_⟩
      exact ⟨_, rfl, _, rfl, p, _, _, _, rfl, rfl, hp, at_of (j := 1) rfl rfl, _, rfl, p, _, _, _, rfl, rfl, hp, at_of (j := 2) rfl rfl, l, r, a, b, rfl, RA, td⟩
    | of a => exact False.elim tl
    | split a b => exact False.elim tl
    | rank a => exact False.elim tl
    | list a => exact False.elim tl

/-! ### answer_asking -/
def AskedT (Pt : Addr) (H : Hp) (r : Kyt.Race) (c : Kyt.Call) (Q : VK) : Prop := ∃ ans, Kyt.acts (some r) c = some (some r, ans) ∧ ∀ (H' : Hp) (p : Addr), SameT Pt H H' → TabOk H' Pt lamQ lamP → H p = none → H' p = some (.lst ((ans.value :: KytNeutral.ints ans.out).map V.int)) → Q (.ref p) H'
theorem AskedT.a {Pt : Addr} {H : Hp} {r : Kyt.Race} {c : Kyt.Call} {Q : VK} (h : AskedT Pt H r c Q) (T : TabOk H Pt lamQ lamP) : AskedA H r c Q := by
  obtain ⟨ans, e, k⟩ := h
  exact ⟨ans, e, fun H' p s hp hl => k H' p (SameT.of s) (T.same s) hp hl⟩
def spAsk (K : PySem.W.Frag) (C CR Pt : Addr) : Sp := fun vs H Q _ => ∃ (l : Lay) (r : Kyt.Race) (p : Addr) (seg : List Nat) (c : Kyt.Call), vs = [.ref l.a, .ref p] ∧ RaceAt C CR H l r ∧ TabOk H Pt lamQ lamP ∧ SqL K H p (seg.map nV) ∧ Seg seg c ∧ ¬ Tells c ∧ AskedT Pt H r c Q
theorem scAsk : FnScope ["race", "call"] ["race", "call"] (defScope sAsk) := ⟨rfl, rfl, rfl, by decide +kernel, rfl, by decide +kernel, by decide +kernel⟩
theorem ok_ask {f Pt : Addr} {fd : FuncData} (F : Fun K "answer_asking" "answer_asking" sAsk f fd) (T : Txt K mg C CR CW CF) (D5 : CallD P w K mg base "answer_of" 4 ["race", "who"] (spOf C CR)) (D6 : CallD P w K mg base "answer_split" 4 ["race", "who", "mat"] (spSplit C CR))
    (D7 : CallD P w K mg base "answer_rank" 5 ["race", "who"] (spRank C CR)) (D8 : CallD P w K mg base "answer_list" 6 ["race", "kind"] (spList C CR Pt)) :
    FnOk P w K mg base CX0 7 f fd ["race", "call"] (spAsk K C CR Pt) := by
  refine F.ok scAsk (fun vs H Q E h => ?_) (fun cdv A outer s H vs Q E hr h => ?_)
  · obtain ⟨l, r, p, seg, c, rfl, _⟩ := h
    rfl
  · obtain ⟨l, r, p, seg, c, rfl, RA, TB, hp, sg, tl, ak⟩ := h
    have hr4 : Room 4 _ := hr.mono (by decide)
    have hr5 : Room 5 _ := hr.mono (by decide)
    refine ⟨_, pss_cons (ps_if (pt_cmpR op_eq (pe_ix ix_list (pv 1) pe_int (fun _ _ => rfl)) (pe_gi T.gOf) (nomark _)) (pss_one (ps_ret (pe_def D5 hr4 (pa_cons (pv 0) (pa_cons (pe_ix ix_list (pv 1) pe_int (fun _ _ => rfl)) pa_nil))))) pss_nil)
      (pss_cons (ps_if (pt_cmpR op_eq (pe_ix ix_list (pv 1) pe_int (fun _ _ => rfl)) (pe_gi T.gSplit) (nomark _)) (pss_one (ps_ret (pe_def D6 hr4 (pa_cons (pv 0) (pa_cons (pe_ix ix_list (pv 1) pe_int (fun _ _ => rfl)) (pa_cons (pe_ix ix_list (pv 1) pe_int (fun _ _ => rfl)) pa_nil)))))) pss_nil)
      (pss_cons (ps_if (pt_cmpR op_eq (pe_ix ix_list (pv 1) pe_int (fun _ _ => rfl)) (pe_gi T.gRank) (nomark _)) (pss_one (ps_ret (pe_def D7 hr5 (pa_cons (pv 0) (pa_cons (pe_ix ix_list (pv 1) pe_int (fun _ _ => rfl)) pa_nil))))) pss_nil)
      (pss_one (ps_ret (pe_def D8 hr (pa_cons (pv 0) (pa_cons (pe_ix ix_list (pv 1) pe_int (fun _ _ => rfl)) pa_nil))))))), ?_⟩
    cases sg with
    | start n ls => exact absurd trivial tl
    | gun a b => exact absurd trivial tl
    | runner a b => exact absurd trivial tl
    | seen a b c => exact absurd trivial tl
    | strike a b => exact absurd trivial tl
    | of a =>
      refine ⟨_, rfl, p, _, _, _, rfl, rfl, hp, at_of (j := 0) rfl rfl, rfl, _, rfl, ite_yes rfl ?_⟩
      exact ⟨_, rfl, _, rfl, p, _, _, _, rfl, rfl, hp, at_of (j := 1) rfl rfl, l, r, a, rfl, RA, ak.a TB⟩
    | split a b =>
      refine ⟨_, rfl, p, _, _, _, rfl, rfl, hp, at_of (j := 0) rfl rfl, rfl, _, rfl, ite_no (by decide) ?_⟩
      refine ⟨_, rfl, p, _, _, _, rfl, rfl, hp, at_of (j := 0) rfl rfl, rfl, _, rfl, ite_yes rfl ?_⟩
      exact ⟨_, rfl, _, rfl, p, _, _, _, rfl, rfl, hp, at_of (j := 1) rfl rfl, _, rfl, p, _, _, _, rfl, rfl, hp, at_of (j := 2) rfl rfl, l, r, a, b, rfl, RA, ak.a TB⟩
    | rank a =>
      refine ⟨_, rfl, p, _, _, _, rfl, rfl, hp, at_of (j := 0) rfl rfl, rfl, _, rfl, ite_no (by decide) ?_⟩
      refine ⟨_, rfl, p, _, _, _, rfl, rfl, hp, at_of (j := 0) rfl rfl, rfl, _, rfl, ite_no (by decide) ?_⟩
      refine ⟨_, rfl, p, _, _, _, rfl, rfl, hp, at_of (j := 0) rfl rfl, rfl, _, rfl, ite_yes rfl ?_⟩
      exact ⟨_, rfl, _, rfl, p, _, _, _, rfl, rfl, hp, at_of (j := 1) rfl rfl, l, r, a, rfl, RA, ak.a TB⟩
    | list a =>
      refine ⟨_, rfl, p, _, _, _, rfl, rfl, hp, at_of (j := 0) rfl rfl, rfl, _, rfl, ite_no (by decide) ?_⟩
      refine ⟨_, rfl, p, _, _, _, rfl, rfl, hp, at_of (j := 0) rfl rfl, rfl, _, rfl, ite_no (by decide) ?_⟩
      refine ⟨_, rfl, p, _, _, _, rfl, rfl, hp, at_of (j := 0) rfl rfl, rfl, _, rfl, ite_no (by decide) ?_⟩
      exact ⟨_, rfl, _, rfl, p, _, _, _, rfl, rfl, hp, at_of (j := 1) rfl rfl, l, r, a, rfl, RA, TB, ak⟩

theorem RaceAt.sameT {Pt : Addr} {H H' : Hp} {l : Lay} {r : Kyt.Race} {qual : Str} {poss : List Pos} (h : RaceAt C CR H l r) (T : TabOk H Pt qual poss) (s : SameT Pt H H') : RaceAt C CR H' l r := by
  obtain ⟨tb, hP, _⟩ := T
  have far : ∀ {b : Addr} {o : HO}, H b = some o → (∀ t, o ≠ .tbl t) → H' b = some o := fun {b o} e d => s b o (ne_of e hP (d _)) e
  obtain ⟨gs, hG, g1, g2⟩ := h.guns
  exact ⟨h.good, far h.obj (fun _ z => nomatch z), far h.least (fun _ z => nomatch z), ⟨gs, far hG (fun _ z => nomatch z), g1, g2⟩, far h.runs (fun _ z => nomatch z), h.len, fun k q x e1 e2 =>
    let RU := h.at_ k q x e1 e2
    ⟨far RU.obj (fun _ z => nomatch z), far RU.lst (fun _ z => nomatch z), RU.len, fun m d e => far (RU.at_ m d e) (fun _ z => nomatch z)⟩, h.injX, h.injD, h.dG, h.SR⟩

/-! ### answer_call -/
def spCall (K : PySem.W.Frag) (C CR Pt : Addr) : Sp := fun vs H Q _ => ∃ (l : Lay) (s s' : Option Kyt.Race) (p : Addr) (seg : List Nat) (c : Kyt.Call) (ans : Kyt.Ans), vs = [.ref l.a, .ref p] ∧ RaceS C CR H l s ∧ TabOk H Pt lamQ lamP ∧ SqL K H p (seg.map nV) ∧ Seg seg c ∧ Kyt.acts s c = some (s', ans) ∧
  ∀ (H' : Hp) (l' : Lay) (pp : Addr), RaceS C CR H' l' s' → TabOk H' Pt lamQ lamP → MoveT Pt l l' H H' → pp ∉ l'.foot → (∀ b o, H b = some o → b ∉ l.foot → b ≠ Pt → b ≠ pp) → H' pp = some (.lst ((ans.value :: KytNeutral.ints ans.out).map V.int)) → Q (.ref pp) H'
theorem scCall : FnScope ["race", "call"] ["race", "call"] (defScope sCall) := ⟨rfl, rfl, rfl, by decide +kernel, rfl, by decide +kernel, by decide +kernel⟩
theorem tells_out {s s' : Option Kyt.Race} {c : Kyt.Call} {ans : Kyt.Ans} (h : Tells c) (e : Kyt.acts s c = some (s', ans)) : ans.out = [] := by
  cases c with
  | start l n =>
    rw [acts_start] at e
    split at e <;> (cases e; rfl)
  | gun a b =>
    cases s with
    | none => cases e
    | some r =>
      rw [acts_gun] at e
      split at e <;> (cases e; rfl)
  | runner a b =>
    cases s with
    | none => cases e
    | some r =>
      rw [acts_runner] at e
      split at e
      · cases e; rfl
      · split at e <;> (cases e; rfl)
  | seen a b c =>
    cases s with
    | none => cases e
    | some r =>
      rw [acts_seen] at e
      split at e
      · cases e; rfl
      · split at e
        · cases e; rfl
        · split at e
          · cases e; rfl
          · split at e <;> (cases e; rfl)
  | strike a b =>
    cases s with
    | none => cases e
    | some r =>
      rw [acts_strike] at e
      cases hx : r.runners[a]? with
      | none => rw [hx] at e; cases e; rfl
      | some x =>
        rw [hx] at e
        have e : some (if 1 < b then (some r, Kyt.say (-22)) else (some { r with runners := r.runners.set a { x with out := b == 1 } }, Kyt.say 0)) = some (s', ans) := e
        split at e <;> (cases e; rfl)
  | of a => exact False.elim h
  | split a b => exact False.elim h
  | rank a => exact False.elim h
  | list a => exact False.elim h
theorem asks_some {s s' : Option Kyt.Race} {c : Kyt.Call} {ans : Kyt.Ans} (h : ¬ Tells c) (e : Kyt.acts s c = some (s', ans)) : ∃ r, s = some r ∧ s' = some r := by
  cases c with
  | start l n => exact absurd trivial h
  | gun a b => exact absurd trivial h
  | runner a b => exact absurd trivial h
  | seen a b c => exact absurd trivial h
  | strike a b => exact absurd trivial h
  | of a => cases s with | none => cases e | some r => cases e; exact ⟨r, rfl, rfl⟩
  | split a b => cases s with | none => cases e | some r => cases e; exact ⟨r, rfl, rfl⟩
  | rank a => cases s with | none => cases e | some r => cases e; exact ⟨r, rfl, rfl⟩
  | list a => cases s with | none => cases e | some r => cases e; exact ⟨r, rfl, rfl⟩
theorem ok_call {f Pt : Addr} {fd : FuncData} (F : Fun K "answer_call" "answer_call" sCall f fd) (T : Txt K mg C CR CW CF) (DT : CallD P w K mg base "answer_telling" 4 ["race", "call"] (spTell K C CR)) (DA : CallD P w K mg base "answer_asking" 7 ["race", "call"] (spAsk K C CR Pt)) :
    FnOk P w K mg base CX0 8 f fd ["race", "call"] (spCall K C CR Pt) := by
  refine F.ok scCall (fun vs H Q E h => ?_) (fun cdv A outer s H vs Q E hr h => ?_)
  · obtain ⟨l, s, s', p, seg, c, ans, rfl, _⟩ := h
    rfl
  · obtain ⟨l, st, st', p, seg, c, ans, rfl, RS, TB, hp, sg, e, k⟩ := h
    have hr4 : Room 4 _ := hr.mono (by decide)
    refine ⟨_, pss_cons (ps_if (pt_cmpR op_le (pe_ix ix_list (pv 1) pe_int (fun _ _ => rfl)) (pe_gi T.gStrike) (nomark _)) (pss_one (ps_ret (pe_lst (pa_cons (pe_def DT hr4 (pa_cons (pv 0) (pa_cons (pv 1) pa_nil))) pa_nil)))) pss_nil)
      (pss_one (ps_ret (pe_def DA hr (pa_cons (pv 0) (pa_cons (pv 1) pa_nil))))), ?_⟩
    obtain ⟨n, hn, hle⟩ : ∃ n : Nat, seg[0]? = some n ∧ ((n : Int) ≤ 4 ↔ Tells c) := by
      cases sg with
      | start n ls => exact ⟨0, rfl, by simp [Tells]⟩
      | gun a b => exact ⟨1, rfl, by simp [Tells]⟩
      | runner a b => exact ⟨2, rfl, by simp [Tells]⟩
      | seen a b c => exact ⟨3, rfl, by simp [Tells]⟩
      | strike a b => exact ⟨4, rfl, by simp [Tells]⟩
      | of a => exact ⟨5, rfl, by simp [Tells]⟩
      | split a b => exact ⟨6, rfl, by simp [Tells]⟩
      | rank a => exact ⟨7, rfl, by simp [Tells]⟩
      | list a => exact ⟨8, rfl, by simp [Tells]⟩
    refine ⟨_, rfl, p, _, _, _, rfl, rfl, hp, at_of (j := 0) (v := nV n) rfl (by rw [List.getElem?_map, hn]; rfl), _, _, rfl, rfl, _, rfl, ite2 (fun h => ?_) (fun h => ?_)⟩
    · have tl := hle.mp (of_decide_eq_true h)
      have eo := tells_out tl e
      refine ⟨_, rfl, _, rfl, l, st, p, seg, c, rfl, RS, hp, sg, tl, st', ans, e, fun H' l' RS' m => ?_⟩
      refine ⟨(by show 1 ≤ sizeLine; decide), fun pp hpp => ?_⟩
      have s2 : Same H' (upd H' pp (.lst [.int ans.value])) := same_upd hpp
      have nf : pp ∉ l'.foot := fun z => by
        have := RS'.mut z
        rw [hpp] at this
        exact this
      have fp : ∀ b o, H b = some o → b ∉ l.foot → b ≠ Pt → b ≠ pp := fun b o z zf _ => ne_of_none (m.keep b o z zf) hpp
      refine k _ l' pp (RS'.same s2) ((tab_move RS m TB).same s2) (Move.t (m.trans (Move.same s2))) nf fp ?_
      rw [upd_same, eo]
      rfl
    · have tl : ¬ Tells c := fun z => h (decide_eq_true (hle.mpr z))
      obtain ⟨r, rfl, rfl⟩ := asks_some tl e
      refine ⟨_, rfl, _, rfl, l, r, p, seg, c, rfl, RS, TB, hp, sg, tl, ans, e, fun H' pp st tb hpp hl => ?_⟩
      have RS2 : RaceAt C CR H l r := RS
      have nP : ∀ b, b ∈ l.foot → b ≠ Pt := fun b hb z => by
        have := RS2.mut hb
        obtain ⟨t, hP, _⟩ := TB
        rw [z, hP] at this
        exact this
      have RS' : RaceAt C CR H' l r := RS2.sameT TB st
      have nf : pp ∉ l.foot := fun z => by
        have := RS2.mut z
        rw [hpp] at this
        exact this
      exact k H' l pp RS' tb ⟨rfl, fun b o e _ n => st b o n e, fun b hb => .inl hb⟩ nf (fun b o z _ _ => ne_of_none z hpp) hl
end
end Mat
end
section
set_option Elab.async false
set_option linter.unusedVariables false
set_option maxRecDepth 100000
set_option maxHeartbeats 2000000
namespace Mat
open PySem PySem.Spec L2
open PyProof.Rows hiding St
theorem RaceAt.out {C CR : Addr} {H : Hp} {l : Lay} {r : Kyt.Race} (h : RaceAt C CR H l r) {g : Addr} {o : HO} (n : g ∉ l.foot) : RaceAt C CR (upd H g o) l r := by
  have far : ∀ {b : Addr} {u : HO}, H b = some u → b ∈ l.foot → (upd H g o) b = some u := fun {b u} e hb => by rw [upd_ne fun z => n (by rw [← z]; exact hb)]; exact e
  obtain ⟨gs, hG, g1, g2⟩ := h.guns
  refine ⟨h.good, far h.obj (foot_iff.mpr (.inl rfl)), far h.least (foot_iff.mpr (.inr (.inr (.inr (.inr (.inl rfl)))))), ⟨gs, far hG (foot_iff.mpr (.inr (.inl rfl))), g1, g2⟩, far h.runs (foot_iff.mpr (.inr (.inr (.inl rfl)))), h.len, fun k q x e1 e2 => ?_, h.injX, h.injD, h.dG, h.SR⟩
  have RU := h.at_ k q x e1 e2
  exact ⟨far RU.obj (foot_iff.mpr (.inr (.inr (.inr (.inl ⟨k, q, e1, .inl rfl⟩))))), far RU.lst (foot_iff.mpr (.inr (.inr (.inr (.inr (.inr ⟨k, q, e1, rfl⟩)))))), RU.len, fun m d e => far (RU.at_ m d e) (foot_iff.mpr (.inr (.inr (.inr (.inl ⟨k, q, e1, .inr (List.mem_of_getElem? e)⟩)))))⟩
theorem RaceS.out {C CR : Addr} {H : Hp} {l : Lay} {g : Addr} {o : HO} (n : g ∉ l.foot) : ∀ {s : Option Kyt.Race}, RaceS C CR H l s → RaceS C CR (upd H g o) l s
  | none, h => by
    obtain ⟨⟨L, k, G, R, m, e⟩, h2⟩ := h
    exact ⟨⟨L, k, G, R, m, by rw [upd_ne fun z => n (by rw [← z]; exact foot_iff.mpr (.inl rfl))]; exact e⟩, h2⟩
  | some r, h => RaceAt.out h n
theorem TabOk.lst {H : Hp} {P g : Addr} {qual : Str} {poss : List Pos} {xs ys : List V} (T : TabOk H P qual poss) (hg : H g = some (.lst xs)) : TabOk (upd H g (.lst ys)) P qual poss := by
  obtain ⟨tb, h1, h2, h3⟩ := T
  refine ⟨tb, by rw [upd_ne (ne_of h1 hg fun z => nomatch z)]; exact h1, h2, fun pos hp => ?_⟩
  rcases h3 pos hp with h | ⟨c', oc, vs, t, q1, q2, q3⟩
  · exact .inl h
  · exact .inr ⟨c', oc, vs, t, q1, by rw [upd_ne (ne_of q2 hg fun z => nomatch z)]; exact q2, q3⟩
/-- the argument as it stands -/
def ArgP (K : PySem.W.Frag) (H : Hp) (a : Addr) (xs : List V) : Prop := (∃ o, H a = some (.frz o (.lst xs))) ∨ ∀ H', SqL K H' a xs
theorem ArgP.sq {K : PySem.W.Frag} {H : Hp} {a : Addr} {xs : List V} (h : ArgP K H a xs) : SqL K H a xs := by
  rcases h with ⟨o, h⟩ | h
  · exact .inl (.inr ⟨o, h⟩)
  · exact h H
theorem ArgP.same {K : PySem.W.Frag} {H H' : Hp} {a : Addr} {xs : List V} (h : ArgP K H a xs) (s : Same H H') : ArgP K H' a xs := by
  rcases h with ⟨o, h⟩ | h
  · exact .inl ⟨o, s _ _ h⟩
  · exact .inr h
theorem ArgP.of {K : PySem.W.Frag} {H : Hp} {a : Addr} {xs : List V} (hO : ∀ b xs, H b ≠ some (.lst xs)) (h : SqL K H a xs) : ArgP K H a xs := by
  rcases h with (z | ⟨o, z⟩) | z
  · exact absurd z (hO _ _)
  · exact .inl ⟨o, z⟩
  · exact .inr fun H' => .inr z
theorem ArgP.move {K : PySem.W.Frag} {C CR Pt : Addr} {H H' : Hp} {l l' : Lay} {s : Option Kyt.Race} {qual : Str} {poss : List Pos} {a : Addr} {xs : List V} (h : ArgP K H a xs) (RS : RaceS C CR H l s) (T : TabOk H Pt qual poss) (m : MoveT Pt l l' H H') : ArgP K H' a xs := by
  rcases h with ⟨o, h⟩ | h
  · refine .inl ⟨o, m.keep _ _ h (fun z => ?_) ?_⟩
    · have := RS.mut z
      rw [h] at this
      exact this
    · obtain ⟨tb, hP, _⟩ := T
      exact ne_of h hP fun z => nomatch z
  · exact .inr h
theorem ArgP.lst {K : PySem.W.Frag} {H : Hp} {a g : Addr} {xs zs ys : List V} (h : ArgP K H a xs) (hg : H g = some (.lst zs)) : ArgP K (upd H g (.lst ys)) a xs := by
  rcases h with ⟨o, h⟩ | h
  · exact .inl ⟨o, by rw [upd_ne (ne_of h hg fun z => nomatch z)]; exact h⟩
  · exact .inr h
theorem ans_len {C CR : Addr} {H : Hp} {l : Lay} {s s' : Option Kyt.Race} {c : Kyt.Call} {ans : Kyt.Ans} (RS : RaceS C CR H l s) (e : Kyt.acts s c = some (s', ans)) : ans.out.length ≤ 48 := by
  by_cases h : Tells c
  · rw [tells_out h e]; exact Nat.zero_le _
  · obtain ⟨r, rfl, rfl⟩ := asks_some h e
    have g : r.runners.length ≤ 48 := (show RaceAt C CR H l r from RS).good.run
    cases c with
    | start l n => exact absurd trivial h
    | gun a b => exact absurd trivial h
    | runner a b => exact absurd trivial h
    | seen a b c => exact absurd trivial h
    | strike a b => exact absurd trivial h
    | of a =>
      rw [acts_of] at e
      have e := (Prod.mk.inj (Option.some.inj e)).2
      rw [← e]
      split
      · exact Nat.zero_le _
      · show 3 ≤ 48
        decide
    | split a b =>
      rw [acts_split] at e
      have e := (Prod.mk.inj (Option.some.inj e)).2
      rw [← e]
      split
      · exact Nat.zero_le _
      · split
        · exact Nat.zero_le _
        · split
          · exact Nat.zero_le _
          · split <;> exact Nat.zero_le _
    | rank a =>
      rw [acts_rank] at e
      have e := (Prod.mk.inj (Option.some.inj e)).2
      rw [← e]
      split
      · exact Nat.zero_le _
      · split
        · exact Nat.zero_le _
        · show 1 ≤ 48
          decide
    | list a =>
      rw [acts_list] at e
      have e := (Prod.mk.inj (Option.some.inj e)).2
      rw [← e]
      split
      · exact Nat.zero_le _
      · exact Nat.le_trans (listOf_len r a) g
section
variable {P : Program} {w : World} {K : PySem.W.Frag} {mg : Str → Option Value} {base : Heap} {C CR CW CF : Addr}
/-! ### answers -/
def spAns (K : PySem.W.Frag) (Pt : Addr) : Sp := fun vs H Q _ => ∃ (a : Addr) (ks : List Nat), vs = [.ref a] ∧ ArgP K H a (ks.map nV) ∧ TabOk H Pt lamQ lamP ∧ PyKyt.answers_asked (cst ks) = true ∧ ∀ (H' : Hp) (p : Addr), (∃ tb, H' Pt = some (.tbl tb)) → H' p = some (.lst ((PyKyt.answers (cst ks)).map V.int)) → Q (.ref p) H'
theorem scAns : FnScope ["calls", "race", "given", "place", "end", "answer"] ["calls"] (defScope sAns) := ⟨rfl, rfl, rfl, by decide +kernel, rfl, by decide +kernel, by decide +kernel⟩
theorem told_cons (x : List Int) (xs : List (List Int)) : PyFlat.told (x :: xs) = ((x.length : Int) :: x) ++ PyFlat.told xs := rfl
theorem ok_ans {f Pt : Addr} {fd : FuncData} (F : Fun K "answers" "answers" sAns f fd) (T : Txt K mg C CR CW CF) (MR : MakeD P w K mg base "Race" 1 C ["self"] (spRaceI C)) (DE : CallD P w K mg base "end_of_call" 1 ["calls", "place"] (spEnd K)) (DC : CallD P w K mg base "answer_call" 8 ["race", "call"] (spCall K C CR Pt)) :
    FnOk P w K mg base CX0 9 f fd ["calls"] (spAns K Pt) := by
  refine F.ok scAns (fun vs H Q E h => ?_) (fun cdv A outer s H vs Q E hr h => ?_)
  · obtain ⟨a, ks, rfl, _⟩ := h
    rfl
  · obtain ⟨a, ks, rfl, ha, TB, hask, kk⟩ := h
    have hr1 : Room 1 _ := hr.mono (by decide)
    have hr2 : Room 2 _ := hr.mono (by decide)
    refine ⟨_, pss_cons (ps_set (i := 1) scAns.nd rfl (Or.inl rfl) (pe_mk0 MR hr2))
      (pss_cons (ps_set (i := 2) scAns.nd rfl (Or.inl rfl) (pe_lst pa_nil))
      (pss_cons (ps_set (i := 3) scAns.nd rfl (Or.inl rfl) pe_int)
      (pss_cons (ps_while PassesOwn.never (pt_cmpR op_lt (pv 3) (pe_callB call_len_seq (by rfl) T.len PySem.boot_len (pa_cons (pv 0) pa_nil)) (nomark _))
        (pss_cons (ps_set (i := 4) scAns.nd rfl (Or.inl rfl) (pe_def DE hr1 (pa_cons (pv 0) (pa_cons (pv 3) pa_nil))))
        (pss_cons (ps_set (i := 5) scAns.nd rfl (Or.inl rfl) (pe_def DC hr (pa_cons (pv 1) (pa_cons (pe_slice sl_list (pv 0) (po_some (pv 3)) (po_some (pv 4))) pa_nil))))
        (pss_cons (ps_expr (pe_bm PySem.F.plainAttrs_list PySem.F.slot_list_append PySem.F.type_list_append mt_append (pv 2) (pa_cons (pe_callB call_len_seq (by rfl) T.len PySem.boot_len (pa_cons (pv 5) pa_nil)) pa_nil)))
        (pss_cons (ps_expr (pe_bm PySem.F.plainAttrs_list PySem.F.slot_list_extend PySem.F.type_list_extend mt_extend (pv 2) (pa_cons (pv 5) pa_nil)))
        (pss_one (ps_set (i := 3) scAns.nd rfl (Or.inl rfl) (pv 4))))))))
      (pss_one (ps_ret (pv 2)))))), ?_⟩
    -- what is asked
    obtain ⟨cs0, hcs, hlen, hmay, htot⟩ : ∃ cs0, PyFlat.calls PyKyt.shape (cst ks).length (cst ks) = some cs0 ∧ cs0.length ≤ 2000 ∧ KytNeutral.may none cs0 = true ∧ PyKyt.answers (cst ks) = PyFlat.told (PyFlat.played KytNeutral.step none cs0) := by
      unfold PyKyt.answers_asked PyKyt.calls at hask
      unfold PyKyt.answers PyKyt.calls
      cases e : PyFlat.calls PyKyt.shape (cst ks).length (cst ks) with
      | none => rw [e] at hask; cases hask
      | some cs0 =>
        rw [e] at hask
        have hask : (PyFlat.atMost 2000 (cs0.map PyKyt.whole) && KytNeutral.asked (cs0.map PyKyt.whole)) = true := hask
        rw [map_whole, Bool.and_eq_true] at hask
        refine ⟨cs0, rfl, of_decide_eq_true hask.1, ?_, ?_⟩
        · have h2 := hask.2
          unfold KytNeutral.asked at h2
          rw [Bool.and_eq_true] at h2
          exact h2.2
        · show PyFlat.told (PyFlat.played KytNeutral.step KytNeutral.start (cs0.map PyKyt.whole)) = _
          rw [map_whole]
          rfl
    rw [htot] at kk
    generalize htt : PyFlat.told (PyFlat.played KytNeutral.step none cs0) = total at kk
    -- race = Race()
    intro y dy ny ndy ney
    refine ⟨y, dy, rfl, upd_same, fun H1 hy k1 => ⟨rfl, ?_⟩⟩
    have s1 := Same.made ny ndy k1
    obtain ⟨L, kv, G, R, n, hy⟩ := hy
    -- given = []
    refine ⟨Nat.zero_le _, fun g hg => ?_⟩
    have s2 : Same H1 (upd H1 g (.lst [])) := same_upd hg
    have s12 := s1.trans s2
    -- place = 0; the loop
    refine while_by (fun σ H' => ∃ (i : Nat) (l : Lay) (s : Option Kyt.Race) (cs : List (List (List Int))) (fuel : Nat) (Gv : List Int) (done : Nat) (v4 v5 : Option V), σ = [some (.ref a), some (.ref l.a), some (.ref g), some (nV i), v4, v5] ∧ RaceS C CR H' l s ∧ TabOk H' Pt lamQ lamP ∧ ArgP K H' a (ks.map nV) ∧
        H' g = some (.lst (Gv.map V.int)) ∧ g ∉ l.foot ∧ i ≤ ks.length ∧ PyFlat.calls PyKyt.shape fuel (cst (ks.drop i)) = some cs ∧ KytNeutral.may s cs = true ∧ cs.length + done ≤ 2000 ∧ Gv.length ≤ 50 * done ∧ total = Gv ++ PyFlat.told (PyFlat.played KytNeutral.step s cs))
      (fun (σ : L2.St) H' => match (σ[3]? : Option (Option V)) with | some (some (V.int z)) => ks.length - z.toNat | _ => 0) ?_ ?_ ?_
    · refine ⟨0, ⟨y, dy, y, y, y, []⟩, none, cs0, _, [], 0, none, none, rfl, ⟨⟨L, kv, G, R, n, s2 _ _ hy⟩, fun b hb => ?_⟩, TB.same s12, ha.same s12, upd_same, ?_, Nat.zero_le _, hcs, hmay, hlen, Nat.zero_le _, htt.symm⟩
      · rcases foot_iff.mp hb with z | z | z | ⟨k, q, hq, _⟩ | z | ⟨k, q, hq, _⟩
        · exact z
        · exact z
        · exact z
        · simp at hq
        · exact z
        · simp at hq
      · intro hb
        have z : g = y := by
          rcases foot_iff.mp hb with z | z | z | ⟨k, q, hq, _⟩ | z | ⟨k, q, hq, _⟩
          · exact z
          · exact z
          · exact z
          · simp at hq
          · exact z
          · simp at hq
        rw [z, hy] at hg; cases hg
    · rintro σ H2 ⟨i, l, st, cs, fuel, Gv, done, v4, v5, rfl, RS, TB2, ha2, hg2, ng, hi, hcs2, hmay2, hl2, hG2, htot2⟩
      refine ⟨_, rfl, _, rfl, a, _, rfl, .inl ha2.sq, _, _, rfl, rfl, _, rfl, ?_⟩
      rw [List.length_map]
      refine ite2 (fun h => ?_) (fun h => ?_)
      · have h := of_decide_eq_true h
        have hi2 : i < ks.length := by omega
        rcases parse_calls hcs2 with ⟨z, _⟩ | ⟨seg, rest, kc, c, cs', f', e1, sg, ec, rfl, hcs3⟩
        · have := congrArg List.length z
          rw [List.length_drop] at this
          simp at this
          omega
        · obtain ⟨s', ans, ea, es, hmay3⟩ := may_step ec hmay2
          have sp := sg.pos
          have hsl : i + seg.length ≤ ks.length := by
            have := congrArg List.length e1
            rw [List.length_drop, List.length_append] at this
            omega
          -- end = end_of_call(calls, place)
          refine ⟨_, rfl, _, rfl, a, ks, seg, rest, i, kc, rfl, ha2.sq, e1, sg, ?_⟩
          -- answer = answer_call(race, calls[place:end])
          refine ⟨_, rfl, _, rfl, _, rfl, _, rfl, _, rfl, _, rfl, a, _, rfl, ha2.sq, fun p2 hp2 => ?_⟩
          have ecut : cutV (ks.map nV) (some (i : Int)) (some ((i + seg.length : Nat) : Int)) = seg.map nV := by
            rw [cut_seg _ _ _ (Nat.le_add_right _ _) (by rw [List.length_map]; exact hsl), ← List.map_drop, e1, Nat.add_sub_cancel_left, ← List.map_take, List.take_append_of_le_length (Nat.le_refl _), List.take_length]
          have s3 : Same H2 (upd H2 p2 (.lst (cutV (ks.map nV) (some (i : Int)) (some ((i + seg.length : Nat) : Int))))) := same_upd hp2
          have hseg : (upd H2 p2 (.lst (cutV (ks.map nV) (some (i : Int)) (some ((i + seg.length : Nat) : Int))))) p2 = some (.lst (seg.map nV)) := by rw [upd_same, ecut]
          generalize (upd H2 p2 (.lst (cutV (ks.map nV) (some (i : Int)) (some ((i + seg.length : Nat) : Int))))) = H3 at s3 hseg
          refine ⟨l, st, s', p2, seg, kc, ans, rfl, RS.same s3, TB2.same s3, SqL.of hseg, sg, ea, fun H4 l4 pp RS4 TB4 m4 np4 nq4 hpp => ?_⟩
          have hg3 := s3 _ _ hg2
          have gP : g ≠ Pt := by
            obtain ⟨tb, hP, _⟩ := TB2
            exact ne_of hg2 hP fun z => nomatch z
          have hg4 : H4 g = some (.lst (Gv.map V.int)) := m4.keep _ _ hg3 ng gP
          have ngp : g ≠ pp := nq4 _ _ hg3 ng gP
          have ng4 : g ∉ l4.foot := fun z => by
            rcases m4.foot _ z with z | z
            · exact ng z
            · rw [hg3] at z; cases z
          have ha4 : ArgP K H4 a (ks.map nV) := (ha2.same s3).move (RS.same s3) (TB2.same s3) m4
          have al := ans_len RS ea
          have hol : (ans.value :: KytNeutral.ints ans.out).length ≤ 49 := by
            rw [List.length_cons]
            unfold KytNeutral.ints
            rw [List.length_map]
            omega
          have hsz : sizeLine = 16777216 := sizeLine_eq
          rw [List.length_cons] at hl2
          -- given.append(len(answer))
          refine ⟨_, rfl, .inl ⟨rfl, _, SqL.of hg4⟩, _, rfl, pp, _, rfl, .inl (SqL.of hpp), g, _, _, rfl, rfl, hg4, by rw [List.length_map]; omega, ?_⟩
          -- given.extend(answer)
          refine ⟨_, rfl, .inl ⟨rfl, _, SqL.of upd_same⟩, _, rfl, g, pp, _, _, rfl, rfl, upd_same, by rw [upd_ne ngp.symm]; exact hpp, by rw [List.length_append, List.length_map, List.length_map]; show _ + 1 + _ ≤ _; omega, ?_⟩
          rw [upd_upd]
          -- place = end
          refine ⟨_, rfl, ⟨i + seg.length, l4, s', cs', f', Gv ++ (((ans.value :: KytNeutral.ints ans.out).length : Int) :: (ans.value :: KytNeutral.ints ans.out)), done + 1, some (nV (i + seg.length)), some (.ref pp), ?_, RS4.out ng4, TB4.lst hg4, ha4.lst hg4, ?_, ng4, hsl, ?_, hmay3, by omega, ?_, ?_⟩, ?_⟩
          · rw [m4.a]
            rfl
          · rw [upd_same, List.map_append, List.length_map, List.append_assoc]
            rfl
          · rw [← List.drop_drop, e1, List.drop_left]
            exact hcs3
          · rw [List.length_append]
            show _ + ((ans.value :: KytNeutral.ints ans.out).length + 1) ≤ _
            omega
          · rw [htot2]
            show Gv ++ PyFlat.told ((KytNeutral.step st c).2 :: PyFlat.played KytNeutral.step (KytNeutral.step st c).1 cs') = _
            rw [es, told_cons, List.append_assoc]
          · show ks.length - ((i + seg.length : Nat) : Int).toNat < ks.length - ((i : Nat) : Int).toNat
            rw [Int.toNat_natCast, Int.toNat_natCast]
            omega
      · have h : ¬ (i : Int) < (ks.length : Int) := fun z => h (decide_eq_true z)
        have hi2 : i = ks.length := by omega
        subst hi2
        rcases parse_calls hcs2 with ⟨_, rfl⟩ | ⟨seg, rest, kc, c, cs', f', e1, sg, ec, rfl, hcs3⟩
        · refine ⟨_, rfl, kk H2 g ?_ ?_⟩
          · obtain ⟨tb, hP, _⟩ := TB2
            exact ⟨tb, hP⟩
          · have e : total = Gv := by rw [htot2]; show Gv ++ [] = Gv; rw [List.append_nil]
            rw [e]
            exact hg2
        · have := congrArg List.length e1
          rw [List.length_drop, List.length_append] at this
          have := sg.pos
          omega
    · rintro σ H' Q1 Q2 hq ⟨v, e1, v0, e2, p, ys, e3, e4, i, j, e5, e6, k, e7, q⟩
      exact ⟨v, e1, v0, e2, p, ys, e3, e4, i, j, e5, e6, k, e7, hq _ _ q⟩
end
end Mat
end
section
set_option Elab.async false
set_option linter.unusedVariables false
set_option maxRecDepth 100000
set_option maxHeartbeats 2000000
namespace Mat
open PySem PySem.Spec L2
open PyProof.Rows hiding St
open PySem.W (WData Codec OpenSpec Well WellAll ReadsW ReadsAllW CodeHd tabObj)
theorem Same.tup {K : PySem.W.Frag} {H H' : Hp} {a : Addr} {xs : List V} (e : Same H H') (h : SqT K H a xs) : SqT K H' a xs := by
  rcases h with (h | ⟨o, h⟩) | h
  · exact .inl (.inl (e _ _ h))
  · exact .inl (.inr ⟨o, e _ _ h⟩)
  · exact .inr h
mutual
theorem dw_same {K : PySem.W.Frag} {H H' : Hp} (s : Same H H') : ∀ (d : WData) (v : V), Dw K H v d → Dw K H' v d
  | .none, _, x => by cases x; exact .non
  | .bool b, _, x => by cases x; exact .bl b
  | .int i, _, x => by cases x; exact .int i
  | .str t, _, x => by cases x; exact .str t
  | .bytes b, _, x => by cases x; exact .byt _
  | .list ds, _, x => by
    cases x with
    | lst hs ha => exact .lst (s.seq hs) (dw_sames s ds _ ha)
  | .tuple ds, _, x => by
    cases x with
    | tup hs ha => exact .tup (Same.tup s hs) (dw_sames s ds _ ha)
  | .float _, _, x => by cases x
  | .dict _, _, x => by cases x
  | .bytearray _, _, x => by cases x
  | .set _, _, x => by cases x
  | .frozenset _, _, x => by cases x
  | .obj _ _, _, x => by cases x
theorem dw_sames {K : PySem.W.Frag} {H H' : Hp} (s : Same H H') : ∀ (ds : List WData) (vs : List V), DwAll K H vs ds → DwAll K H' vs ds
  | [], _, x => by cases x; exact .nil
  | d :: ds, _, x => by
    cases x with
    | cons h1 h2 => exact .cons (dw_same s d _ h1) (dw_sames s ds _ h2)
end
/-! ### the call, with a table of codes that may grow -/
theorem spec_callT {P : Program} {w : World} {K : PySem.W.Frag} {mg mb : Str → Option Value} {k : Nat} {fa c Pt : Addr} {fd : FuncData} {ps : List Str} {sp : Sp} {s₁ : Shared} {vals : List Value} {ds : List WData} {R : PySem.W.WRecords} {cl : Str → Option Addr} {d0 : WData}
    (KX : K.In s₁.heap) (hns : s₁.heap.Ns mainGlobals mg) (hb : s₁.heap.Ns builtinsNs mb) (hbb : ∀ x : Str, x ≠ "__name__" → mb x = bootBuiltins x) (hlim : s₁.heap.NoLimit) (hg : s₁.gens = #[])
    (hC : CodeHd s₁.heap c Pt) (hPt : s₁.heap.get? Pt = some (tabObj #[])) (hKP : K.lookup Pt = none) (hBM : BM mg s₁.heap)
    (hwl : WellAll w.params s₁.heap vals ds) (hpl : plWs ds = true) (hwt : ∀ d ∈ ds, d.weight ≤ 1048576) (hr : Room k callerA)
    (F : ∀ base : Heap, K.In base → base.Ns mainGlobals mg → CodeHd base c Pt → BM mg base → FnOk P w K mg base CX0 k fa fd ps sp) (hbind : ∀ (s : Shared) (us : List Value), us.length = ps.length → BindsTo s fd ⟨us, []⟩ (ps.zip us)) (hlen : ds.length = ps.length)
    (hsp : ∀ (H : Hp) (xs : List V), (∀ b ys, H b ≠ some (.lst ys)) → H Pt = some (.tbl #[]) → DwAll K H xs ds → sp xs H (fun v H' => (∃ tb, H' Pt = some (.tbl tb)) ∧ Dw K H' v d0) fun _ _ _ => False) :
    codeAny (model P w) callerA (.call (.ref fa) ⟨vals, []⟩) (fun r s' => ∃ u as, r = .ok (.ret u) ∧ ReadsW R cl s'.heap u d0 as ∧ OldK s₁.heap s'.heap ∧ s'.os = s₁.os ∧ AllBare s'.gens) s₁ := by
  obtain ⟨A, ho, ar⟩ := area_all ds vals hwl hpl hwt
  have hO0 : OnlyF (argH K s₁.heap A) := argH_only ar
  have hok0 : HOk P w (argH K s₁.heap A) s₁.heap := argH_ok ar
  have hS0 := dw_all KX ar ds vals hwl hpl ho
  have hV := vals_toV ho
  -- an object whose class is neither a list's nor a tuple's is none of the arguments'
  have far : ∀ {b : Addr} {o : Obj}, s₁.heap.get? b = some o → o.cls ≠ .type "list" → o.cls ≠ .type "tuple" → argH K s₁.heap A b = none := fun {b o} e n1 n2 => by
    cases q : argH K s₁.heap A b with
    | none => rfl
    | some u =>
      obtain ⟨_, vs, _, _, ⟨e2, _⟩ | ⟨e2, _⟩⟩ := argH_is ar q
      · rw [e2] at e
        cases e
        exact absurd rfl n1
      · rw [e2] at e
        cases e
        exact absurd rfl n2
  have fP : argH K s₁.heap A Pt = none := far hPt (fun z => nomatch z) (fun z => nomatch z)
  obtain ⟨H, eH⟩ : ∃ H, H = upd (argH K s₁.heap A) Pt (.tbl #[]) := ⟨_, rfl⟩
  have sm : Same (argH K s₁.heap A) H := by rw [eH]; exact same_upd fP
  have hP : H Pt = some (.tbl #[]) := by rw [eH]; exact upd_same
  have at_ : ∀ b, b ≠ Pt → H b = argH K s₁.heap A b := fun b n => by rw [eH, upd_ne n]
  have hok : HOk P w H s₁.heap := fun b u q => by
    by_cases z : b = Pt
    · subst z
      rw [hP] at q
      cases q
      exact hPt
    · rw [at_ b z] at q
      exact (hok0 b u q).stay (fun c v _ r => r) (fun c r => sm _ _ r) fun c xs r => sm _ _ r
  have hS : DwAll K H (vals.map toV) ds := dw_sames sm ds _ hS0
  have hK : ∀ b u, H b = some u → K.lookup b = none := fun b u q => by
    by_cases z : b = Pt
    · rw [z]; exact hKP
    · rw [at_ b z] at q; exact (argH_is ar q).1
  have hO : ∀ b, b ≠ Pt → H b = none ∨ ∃ o u, H b = some (.frz o u) := fun b n => by rw [at_ b n]; exact hO0 b
  have hOl : ∀ b ys, H b ≠ some (.lst ys) := fun b ys q => by
    by_cases z : b = Pt
    · rw [z, hP] at q; cases q
    · rcases hO b z with w | ⟨o, u, w⟩
      · rw [w] at q; cases q
      · rw [w] at q; cases q
  have un0 : ∀ {b : Addr} {o : Obj}, s₁.heap.get? b = some o → b ≠ Pt → o.cls ≠ .type "list" → o.cls ≠ .type "tuple" → H b = none := fun {b o} e n n1 n2 => by rw [at_ b n]; exact far e n1 n2
  have noA : ∀ {b : Addr} {o : Obj} {es : Array DictEntry} {ep : Nat}, s₁.heap.get? b = some o → o.data = .dict es ep → H b = none := fun {b o es ep} e d => by
    have n : b ≠ Pt := fun z => by rw [z, hPt] at e; cases e; cases d
    rw [at_ b n]
    cases q : argH K s₁.heap A b with
    | none => rfl
    | some u =>
      obtain ⟨_, vs, _, _, ⟨e2, _⟩ | ⟨e2, _⟩⟩ := argH_is ar q
      · rw [e2] at e
        cases e
        have d' : Data.seq vs.toArray _ = Data.dict es ep := d
        cases d'
      · rw [e2] at e
        cases e
        have d' : Data.seq vs.toArray _ = Data.dict es ep := d
        cases d'
  clear eH hS0 hok0 hO0
  have base_of : ∀ {b : Addr} {o : Obj}, s₁.heap.get? b = some o → H b = none → (hidT s₁.heap H).get? b = some o := fun e n => hidT_get e n
  have nsK : ∀ {b : Addr} {m : Str → Option Value}, s₁.heap.Ns b m → (hidT s₁.heap H).Ns b m := fun {b m} ⟨o, es, ep, e, d, r⟩ => ⟨o, es, ep, base_of e (noA e d), d, r⟩
  have nK : ∀ b o, K.lookup b = some o → H b = none := fun b o e => by
    cases q : H b with
    | none => rfl
    | some u =>
      rw [hK b u q] at e
      cases e
  have hKb : K.In (hidT s₁.heap H) := fun b o e => base_of (KX b o e) (nK b o e)
  have hCb : CodeHd (hidT s₁.heap H) c Pt := by
    obtain ⟨o, vs, file, tf, flags, tg, inF, text, tt, e1, e2, r⟩ := hC
    have hne : c ≠ Pt := r.2.2.2.2.2.2.2
    exact ⟨o, vs, file, tf, flags, tg, inF, text, tt, base_of e1 (un0 e1 hne (by rw [e2]; decide) (by rw [e2]; decide)), e2, r⟩
  have hBb : BM mg (hidT s₁.heap H) := by
    obtain ⟨bm, ob, b1, b2, b3, b4, b5⟩ := hBM
    have hne : bm ≠ Pt := fun z => by rw [z, hPt] at b3; cases b3; cases b4
    exact ⟨bm, ob, b1, b2, base_of b3 (un0 b3 hne (by rw [b4]; decide) (by rw [b4]; decide)), b4, b5⟩
  have hM : Mod K mg (hidT s₁.heap H) := ⟨hKb, nsK hns, ⟨mb, nsK hb, hbb⟩, let ⟨mc, h1, h2⟩ := hlim; ⟨mc, nsK h1, h2⟩⟩
  have e0 : Env0 P w K mg (hidT s₁.heap H) callerA [] s₁ H := ⟨rfl, hM, fun b o e => of_hidT e, Nat.le_of_eq (hidT_size _ _), trivial, fun b hb => absurd (show b ∈ ([] : List Addr) from hb) (by simp), hok, .of_eq hg⟩
  have hl : vals.length = ps.length := by rw [wellAll_len hwl]; exact hlen
  refine codeAny_mono ((F _ hKb (nsK hns) hCb hBb).run callerA [] s₁ H ⟨vals, []⟩ vals (vals.map toV) _ _ hr e0 (hbind s₁ vals hl) hV (hsp H _ hOl hP hS)) fun r s' x => ?_
  cases r with
  | error e => exact False.elim x
  | ok fl =>
    cases fl with
    | next => exact False.elim x
    | brk => exact False.elim x
    | cont => exact False.elim x
    | ret u =>
      obtain ⟨v, H', os, bare, un, hok', r', ⟨tb, hP'⟩, q⟩ := x
      have kept : ∀ b o, b ≠ Pt → s₁.heap.get? b = some o → s'.heap.get? b = some o := fun b o n e => by
        cases q2 : H b with
        | none => exact un.keep b o e q2 (by intro z; exact absurd (show b ∈ ([] : List Addr) from z) (by simp)) (by simp)
        | some u2 =>
          rcases hO b n with z | ⟨ob, u3, z⟩
          · rw [q2] at z
            cases z
          · have z2 := un.frzs b ob _ z
            obtain ⟨e1, _⟩ := hok b _ z
            obtain ⟨e2, _⟩ := hok' b _ z2
            rw [e] at e1
            cases e1
            exact e2
      have gP' : s'.heap.get? Pt = some (tabObj tb) := hok' Pt _ hP'
      have KX' : K.In s'.heap := fun b o e => kept b o (fun z => by rw [z, hKP] at e; cases e) (KX b o e)
      obtain ⟨as, hrd⟩ := Dw.reads (R := R) (cl := cl) hok' KX' d0 v u q r'
      refine ⟨u, as, rfl, hrd, ⟨fun b o e => ?_, fun b o e => ?_⟩, os, bare⟩
      · by_cases z : b = Pt
        · subst z
          rw [hPt] at e
          cases e
          exact .inr (.inl ⟨(hC.tab hPt).isCodeTable, rfl, #[], tb, rfl, by rw [Array.empty_append]; exact gP'⟩)
        · exact .inl (kept b o z e)
      · by_cases z : b = Pt
        · exact ⟨_, by rw [z]; exact gP'⟩
        · exact ⟨o, kept b o z e⟩
/-! ### the row -/
theorem walk_specT {r : OpenSpec} {k : Nat} {q : Program} {loose : List Str} {XP : (Str → Option Value) → Heap → Prop} {YP : World → Heap → Prop} {d : DefRec} {x : Str} {K : Params → PySem.W.Frag} {ps : List Str} {sp : PySem.W.Frag → Addr → Sp}
    (hwell : r.wellSaid = true) (hlen : r.args.length = ps.length) (hr : Room k callerA) (hrec : ((recsOf q).find? (fun e => e.name == x)).isSome = true)
    (hY : ∀ (w : World) (h : Heap), YP w h → (K w.params).In h)
    (F : ∀ (w : World) (mg : Str → Option Value) (fa : Addr) (h : Heap), YP w h → (K w.params).In h → h.Ns mainGlobals mg → mg d.name = some (.ref fa) →
      ∃ (c Pt : Addr) (fd : FuncData), PySem.W.tabIn (K w.params) x = some (c, Pt) ∧ (K w.params).lookup Pt = none ∧ (∀ (s : Shared) (us : List Value), us.length = ps.length → BindsTo s fd ⟨us, []⟩ (ps.zip us)) ∧
        ∀ base : Heap, (K w.params).In base → base.Ns mainGlobals mg → CodeHd base c Pt → BM mg base → FnOk r.prog w (K w.params) mg base CX0 k fa fd ps (sp (K w.params) Pt))
    (hsp : ∀ (K : PySem.W.Frag) (Pt : Addr) (H : Hp) (xs : List V) (a : Codec.denoteAll r.args), (∀ b ys, H b ≠ some (.lst ys)) → H Pt = some (.tbl #[]) → Codec.withinAll r.args a = true → Codec.app r.args r.asked a = true → DwAll K H xs (Codec.encAll r.args a) →
      sp K Pt xs H (fun v H' => (∃ tb, H' Pt = some (.tbl tb)) ∧ Dw K H' v (r.ret.enc (Codec.app r.args r.f a))) fun _ _ _ => False) :
    PySem.W.WalkOS q loose XP YP r d [] (fun f vs => PySem.call f vs) := by
  intro w s_0 s₁ mg mb G Y fa o pm cd doc dV kV ho hd hcd hD hmg hg args vals as hpre hlay hrd hwl hlo
  obtain ⟨a, e1, e2⟩ := PySem.W.os_pre_some hpre
  obtain ⟨e3, hwi⟩ := Codec.encAll_of_decAll r.args args a e1
  subst e3
  have KX := hY w _ Y
  obtain ⟨c, Pt, fd, ht, hKP, hb, hF⟩ := F w mg fa _ Y KX G.T.g hmg
  obtain ⟨dl, hdl⟩ := Option.isSome_iff_exists.mp hrec
  obtain ⟨hC, hPt⟩ := PySem.W.tab_of G.T KX hdl ht
  refine PySem.W.enter_call (codeAny_mono (spec_callT (R := []) (cl := classAt s_0.heap) (d0 := r.ret.enc (Codec.app r.args r.f a)) KX G.T.g G.T.b G.T.builtins G.T.nolimit hg hC hPt hKP G.T.bmain hwl (pl_encAll _ _) (layable_weight hlay) hr hF hb (by rw [encAll_len]; exact hlen)
    (fun H xs hO hP hS => hsp (K w.params) Pt H xs a hO hP hwi e2 hS)) fun r' s' hq => ?_)
  obtain ⟨u, as', rfl, h1, h2, h3, h4⟩ := hq
  exact ⟨.inl ⟨u, _, as', rfl, fun _ => rfl, h1, (OpenSpec.post_iff hwell hwi _ _).mpr rfl, fun z => Bool.noConfusion (show false = true from z)⟩, h2, h3, h4⟩
end Mat
end
section
set_option Elab.async false
set_option linter.unusedVariables false
set_option maxRecDepth 100000
set_option maxHeartbeats 2000000
namespace Mat
open PySem PySem.Spec L2
open PyProof.Rows hiding St
open PySem.W (CodeHd)
/-! ### what the top has written -/
structure DefK (K : PySem.W.Frag) (x : Str) (st : Stmt) : Prop where
  ex : ∃ (f : Addr) (oc : Value) (od an : Option Addr) (osl : Array (Option Value)) (kV doc pm cdv ct : Value), PySem.W.nsIn K mainGlobals x = some (some (.ref f)) ∧
    K.lookup f = some ⟨oc, od, .func (PySem.W.fnOf x x (defArgs st) (defBody st) (defScope st) .none kV doc pm an cdv ct), osl⟩ ∧ PySem.W.codeIn K cdv x = true ∧ PySem.W.keepIn K (.ref f) = true
structure ClsK (K : PySem.W.Frag) (x qual : Str) (st : Stmt) (C : Addr) : Prop where
  ex : ∃ (f : Addr) (oc : Value) (od an : Option Addr) (osl : Array (Option Value)) (kV doc pm cdv ct : Value), PySem.W.nsIn K mainGlobals x = some (some (.ref C)) ∧ PySem.W.findIn K (.ref C) "__init__" = some (some (.ref f)) ∧ PySem.W.isFn K (.ref f) = true ∧
    K.lookup f = some ⟨oc, od, .func (PySem.W.fnOf "__init__" qual (defArgs st) (defBody st) (defScope st) .none kV doc pm an cdv ct), osl⟩ ∧ PySem.W.codeIn K cdv qual = true ∧ PySem.W.keepIn K (.ref f) = true
  pg : PySem.W.plainGet K C Str.empty = true
  hd : PySem.W.hasDictIn K C = true
  po : PySem.W.plainOver K C = true
  sa : PySem.W.findIn K (.ref C) "__setattr__" = some (some (.builtin "object.__setattr__"))
  mks : PySem.W.makesIn K C = true
  kc : PySem.W.keepIn K (.ref C) = true
def IntK (K : PySem.W.Frag) (x : Str) (n : Int) : Prop := ∃ t, PySem.W.nsIn K mainGlobals x = some (some (.int n t))
section
variable {K : PySem.W.Frag} {h : Heap} {mg : Str → Option Value}
theorem DefK.of {x : Str} {st : Stmt} {f : Addr} {oc : Value} {od an : Option Addr} {osl : Array (Option Value)} {kV doc pm cdv ct : Value} (a : PySem.W.nsIn K mainGlobals x = some (some (.ref f)))
    (l : K.lookup f = some ⟨oc, od, .func (PySem.W.fnOf x x (defArgs st) (defBody st) (defScope st) .none kV doc pm an cdv ct), osl⟩) (c : PySem.W.codeIn K cdv x = true) (k : PySem.W.keepIn K (.ref f) = true) : DefK K x st := ⟨_, _, _, _, _, _, _, _, _, _, a, l, c, k⟩
theorem ClsK.of {x qual : Str} {st : Stmt} {C f : Addr} {oc : Value} {od an : Option Addr} {osl : Array (Option Value)} {kV doc pm cdv ct : Value} (a : PySem.W.nsIn K mainGlobals x = some (some (.ref C))) (i : PySem.W.findIn K (.ref C) "__init__" = some (some (.ref f))) (fn : PySem.W.isFn K (.ref f) = true)
    (l : K.lookup f = some ⟨oc, od, .func (PySem.W.fnOf "__init__" qual (defArgs st) (defBody st) (defScope st) .none kV doc pm an cdv ct), osl⟩) (c : PySem.W.codeIn K cdv qual = true) (k : PySem.W.keepIn K (.ref f) = true)
    (pg : PySem.W.plainGet K C Str.empty = true) (hd : PySem.W.hasDictIn K C = true) (po : PySem.W.plainOver K C = true) (sa : PySem.W.findIn K (.ref C) "__setattr__" = some (some (.builtin "object.__setattr__"))) (mk : PySem.W.makesIn K C = true) (kc : PySem.W.keepIn K (.ref C) = true) : ClsK K x qual st C :=
  ⟨⟨_, _, _, _, _, _, _, _, _, _, a, i, fn, l, c, k⟩, pg, hd, po, sa, mk, kc⟩
theorem IntK.of {x : Str} {n : Int} {t : Tok} (a : PySem.W.nsIn K mainGlobals x = some (some (.int n t))) : IntK K x n := ⟨t, a⟩
theorem IntK.gi {x : Str} {n : Int} (i : IntK K x n) (X : K.In h) (G : h.Ns mainGlobals mg) : GI mg x n := by
  obtain ⟨t, i⟩ := i
  exact ⟨t, PySem.W.mg_of X G i⟩
theorem ClsK.cls {x qual : Str} {st : Stmt} {C : Addr} (d : ClsK K x qual st C) : Cls K C := ⟨d.pg, d.hd, d.po, d.sa⟩
theorem DefK.call {P : Program} {w : World} {base : Heap} {x : Str} {st : Stmt} {k : Nat} {ps : List Str} {sp : Sp} (d : DefK K x st) (X : K.In h) (G : h.Ns mainGlobals mg)
    (hb : ∀ (kV doc pm : Value) (an : Option Addr) (cdv ct : Value) (us : List Value), us.length = ps.length → bindArgs (PySem.W.fnOf x x (defArgs st) (defBody st) (defScope st) .none kV doc pm an cdv ct) ⟨us, []⟩ = pure (ps.zip us))
    (F : ∀ f fd, Fun K x x st f fd → FnOk P w K mg base CX0 k f fd ps sp) : CallD P w K mg base x k ps sp := by
  obtain ⟨f, oc, od, an, osl, kV, doc, pm, cdv, ct, a, l, c, kp⟩ := d.ex
  have Fn := fun_mk (st := st) l c kp
  exact ⟨f, _, PySem.W.mg_of X G a, kp, Fn.binds hb, F f _ Fn⟩
theorem ClsK.make {P : Program} {w : World} {base : Heap} {x qual : Str} {st : Stmt} {C : Addr} {k : Nat} {ps : List Str} {sp : Sp} (d : ClsK K x qual st C) (X : K.In h) (G : h.Ns mainGlobals mg)
    (hb : ∀ (kV doc pm : Value) (an : Option Addr) (cdv ct : Value) (us : List Value), us.length = ps.length → bindArgs (PySem.W.fnOf "__init__" qual (defArgs st) (defBody st) (defScope st) .none kV doc pm an cdv ct) ⟨us, []⟩ = pure (ps.zip us))
    (F : ∀ f fd, Fun K "__init__" qual st f fd → FnOk P w K mg base CX0 k f fd ps sp) : MakeD P w K mg base x k C ps sp := by
  obtain ⟨f, oc, od, an, osl, kV, doc, pm, cdv, ct, a, i, fn, l, c, kp⟩ := d.ex
  have Fn := fun_mk (st := st) l c kp
  exact ⟨f, _, PySem.W.mg_of X G a, ⟨d.mks, i, fn, d.kc⟩, Fn.binds hb, F f _ Fn⟩
end

set_option maxHeartbeats 4000000 in
theorem all_mk {P : Program} {w : World} {K : PySem.W.Frag} {h : Heap} {mg : Str → Option Value} {fa C CR CW CF : Addr} (X : K.In h) (G : h.Ns mainGlobals mg) (hfa : mg "answers" = some (.ref fa))
    (d_bad_least : DefK K "bad_least" sBad)
    (d_start_race : DefK K "start_race" sStart)
    (d_set_gun : DefK K "set_gun" sGun)
    (d_add_runner : DefK K "add_runner" sAddR)
    (d_add_sight : DefK K "add_sight" sAddS)
    (d_set_struck : DefK K "set_struck" sStruck)
    (d_find_beginning : DefK K "find_beginning" sBegin)
    (d_first_time_from : DefK K "first_time_from" sFirst)
    (d_find_way : DefK K "find_way" sWay)
    (d_has_last_mat : DefK K "has_last_mat" sHasLast)
    (d_count_missing : DefK K "count_missing" sMiss)
    (d_find_own_time : DefK K "find_own_time" sOwn)
    (d_find_gun_time : DefK K "find_gun_time" sGunT)
    (d_was_seen : DefK K "was_seen" sSeen)
    (d_find_state : DefK K "find_state" sState)
    (d_all_finishes : DefK K "all_finishes" sAllF)
    (d_finishes_of_kind : DefK K "finishes_of_kind" sOfKind)
    (d_answer_of : DefK K "answer_of" sOf)
    (d_answer_split : DefK K "answer_split" sSplit)
    (d_places_of : DefK K "places_of" sPlaces)
    (d_answer_rank : DefK K "answer_rank" sRank)
    (d_end_of_call : DefK K "end_of_call" sEnd)
    (d_answer_telling : DefK K "answer_telling" sTell)
    (d_answer_asking : DefK K "answer_asking" sAsk)
    (d_answer_call : DefK K "answer_call" sCall)
    (d_answers : DefK K "answers" sAns)
    (c_Race : ClsK K "Race" "Race.__init__" sRaceI C)
    (n_Race_least : PySem.W.findIn K (.ref C) "least" = some none)
    (n_Race_lack : PySem.W.findIn K (.ref C) "lack" = some none)
    (n_Race_guns : PySem.W.findIn K (.ref C) "guns" = some none)
    (n_Race_runners : PySem.W.findIn K (.ref C) "runners" = some none)
    (n_Race_sight_count : PySem.W.findIn K (.ref C) "sight_count" = some none)
    (c_Runner : ClsK K "Runner" "Runner.__init__" sRunI CR)
    (n_Runner_wave : PySem.W.findIn K (.ref CR) "wave" = some none)
    (n_Runner_kind : PySem.W.findIn K (.ref CR) "kind" = some none)
    (n_Runner_struck : PySem.W.findIn K (.ref CR) "struck" = some none)
    (n_Runner_sights : PySem.W.findIn K (.ref CR) "sights" = some none)
    (c_Way : ClsK K "Way" "Way.__init__" sWayI CW)
    (n_Way_gun : PySem.W.findIn K (.ref CW) "gun" = some none)
    (n_Way_times : PySem.W.findIn K (.ref CW) "times" = some none)
    (c_Finish : ClsK K "Finish" "Finish.__init__" sFinI CF)
    (n_Finish_who : PySem.W.findIn K (.ref CF) "who" = some none)
    (n_Finish_kind : PySem.W.findIn K (.ref CF) "kind" = some none)
    (n_Finish_over_all : PySem.W.findIn K (.ref CF) "over_all" = some none)
    (n_Finish_in_kind : PySem.W.findIn K (.ref CF) "in_kind" = some none)
    (z_len : PySem.W.nsIn K mainGlobals "len" = some none)
    (z_range : PySem.W.nsIn K mainGlobals "range" = some none)
    (z_enumerate : PySem.W.nsIn K mainGlobals "enumerate" = some none)
    (z_list : PySem.W.nsIn K mainGlobals "list" = some none)
    (z_sorted : PySem.W.nsIn K mainGlobals "sorted" = some none)
    (i_NO_RUNNER : IntK K "NO_RUNNER" (-2))
    (i_OUT_OF_BOUNDS : IntK K "OUT_OF_BOUNDS" (-22))
    (i_NO_ROOM : IntK K "NO_ROOM" (-28))
    (i_MOST_MATS : IntK K "MOST_MATS" 8)
    (i_LONGEST_LEAST : IntK K "LONGEST_LEAST" 100000000)
    (i_MOST_LACK : IntK K "MOST_LACK" 8)
    (i_LAST_WAVE : IntK K "LAST_WAVE" 3)
    (i_LAST_KIND : IntK K "LAST_KIND" 7)
    (i_LAST_TIME : IntK K "LAST_TIME" 86400000)
    (i_MOST_RUNNERS : IntK K "MOST_RUNNERS" 48)
    (i_MOST_SIGHTS : IntK K "MOST_SIGHTS" 1024)
    (i_LATEST_BEGINNING : IntK K "LATEST_BEGINNING" 3600000)
    (i_NO_RESULT : IntK K "NO_RESULT" (-61))
    (i_WAITING : IntK K "WAITING" 0)
    (i_UNDER_WAY : IntK K "UNDER_WAY" 1)
    (i_FINISHED : IntK K "FINISHED" 2)
    (i_MISSING_TOO_MANY : IntK K "MISSING_TOO_MANY" 3)
    (i_STRUCK_OUT : IntK K "STRUCK_OUT" 4)
    (i_ALL_KINDS : IntK K "ALL_KINDS" 8)
    (i_START : IntK K "START" 0)
    (i_GUN : IntK K "GUN" 1)
    (i_RUNNER : IntK K "RUNNER" 2)
    (i_SEEN : IntK K "SEEN" 3)
    (i_STRIKE : IntK K "STRIKE" 4)
    (i_OF : IntK K "OF" 5)
    (i_SPLIT : IntK K "SPLIT" 6)
    (i_RANK : IntK K "RANK" 7)
    {pS : Addr} {oS : Option Addr} {nS : Nat} {slS : Array (Option Value)} {its : Array Value} (z_S : PySem.W.nsIn K mainGlobals "CALL_SIZES" = some (some (.ref pS))) (l_S : K.lookup pS = some ⟨.type "tuple", oS, .seq its nS, slS⟩) (v_S : Vals ([3, 3, 3, 4, 3, 2, 3, 2, 2].map V.int) its.toList)
    {cL PL fL : Addr} {ocl kVl docl pml ctl : Value} {odl anl : Option Addr} {osll : Array (Option Value)} (a_L : PySem.W.nsIn K mainGlobals "answer_list" = some (some (.ref fL))) (l_F : K.lookup fL = some ⟨ocl, odl, .func (PySem.W.fnOf "answer_list" "answer_list" (defArgs sList) (defBody sList) (defScope sList) .none kVl docl pml anl (.ref cL) ctl), osll⟩) (c_L : PySem.W.codeIn K (.ref cL) "answer_list" = true) (k_L : PySem.W.keepIn K (.ref fL) = true)
    {ocL : Value} {odL : Option Addr} {slL : Array (Option Value)} {vsL : Array Value} (l_L : K.lookup cL = some ⟨ocL, odL, .fields vsL, slL⟩) (v_L : vsL[11]? = some (.ref PL)) (f_L : K.lookup PL = none)
    : ∃ (c Pt : Addr) (fd : FuncData), PySem.W.tabIn K "answer_list" = some (c, Pt) ∧ K.lookup Pt = none ∧ (∀ (s : Shared) (us : List Value), us.length = (["calls"] : List Str).length → BindsTo s fd ⟨us, []⟩ ((["calls"] : List Str).zip us)) ∧
      ∀ base : Heap, K.In base → base.Ns mainGlobals mg → CodeHd base c Pt → BM mg base → FnOk P w K mg base CX0 9 fa fd ["calls"] (spAns K Pt) := by
  have zs : its.size ≤ sizeLine := by
    have e9 : its.toList.length = 9 := v_S.length.symm
    show its.toList.length ≤ sizeLine
    rw [e9]
    decide
  have T : Txt K mg C CR CW CF := ⟨c_Race.cls, c_Runner.cls, c_Way.cls, c_Finish.cls, n_Race_least, n_Race_lack, n_Race_guns, n_Race_runners, n_Race_sight_count, n_Runner_wave, n_Runner_kind, n_Runner_struck, n_Runner_sights, n_Way_gun, n_Way_times, n_Finish_who, n_Finish_kind, n_Finish_over_all, n_Finish_in_kind, PySem.W.mg_none_of X G z_len, PySem.W.mg_none_of X G z_range, PySem.W.mg_none_of X G z_enumerate, PySem.W.mg_none_of X G z_list, PySem.W.mg_none_of X G z_sorted, i_NO_RUNNER.gi X G, i_OUT_OF_BOUNDS.gi X G, i_NO_ROOM.gi X G, i_MOST_MATS.gi X G, i_LONGEST_LEAST.gi X G, i_MOST_LACK.gi X G, i_LAST_WAVE.gi X G, i_LAST_KIND.gi X G, i_LAST_TIME.gi X G, i_MOST_RUNNERS.gi X G, i_MOST_SIGHTS.gi X G, i_LATEST_BEGINNING.gi X G, i_NO_RESULT.gi X G, i_WAITING.gi X G, i_UNDER_WAY.gi X G, i_FINISHED.gi X G, i_MISSING_TOO_MANY.gi X G, i_STRUCK_OUT.gi X G, i_ALL_KINDS.gi X G, i_START.gi X G, i_GUN.gi X G, i_RUNNER.gi X G, i_SEEN.gi X G, i_STRIKE.gi X G, i_OF.gi X G, i_SPLIT.gi X G, i_RANK.gi X G, ⟨pS, PySem.W.mg_of X G z_S, fun H => .inr ⟨_, its, nS, l_S, rfl, rfl, zs, v_S⟩⟩⟩
  have tab : PySem.W.tabIn K "answer_list" = some (cL, PL) := by
    unfold PySem.W.tabIn
    rw [a_L]
    dsimp only
    rw [l_F]
    dsimp only
    rw [l_L]
    dsimp only
    rw [v_L]
  obtain ⟨fA, oca, oda, ana, osla, kVa, doca, pma, cdva, cta, aA, lA, cA, kpA⟩ := d_answers.ex
  have e := hfa.symm.trans (PySem.W.mg_of X G aA)
  cases e
  have FA := fun_mk (st := sAns) lA cA kpA
  have FL := fun_mk (st := sList) l_F c_L k_L
  refine ⟨cL, PL, PySem.W.fnOf "answers" "answers" (defArgs sAns) (defBody sAns) (defScope sAns) .none kVa doca pma ana cdva cta, tab, f_L, fun s us hu => match us, hu with | [_], _ => .of_eq rfl, fun base Xb Gb hC hB => ?_⟩
  have Dbegin := d_find_beginning.call (P := P) (w := w) (base := base) (ps := ["gun", "start_times"]) X G (fun _ _ _ _ _ _ us hl => match us, hl with | [_, _], _ => rfl) fun f fd F => ok_begin F T
  have Dfirst := d_first_time_from.call (P := P) (w := w) (base := base) (ps := ["times", "earliest"]) X G (fun _ _ _ _ _ _ us hl => match us, hl with | [_, _], _ => rfl) fun f fd F => ok_first F
  have MW := c_Way.make (P := P) (w := w) (base := base) (ps := ["self", "gun", "times"]) X G (fun _ _ _ _ _ _ us hl => match us, hl with | [_, _, _], _ => rfl) fun f fd F => ok_wayI F T
  have Dway := d_find_way.call (P := P) (w := w) (base := base) (ps := ["race", "runner"]) X G (fun _ _ _ _ _ _ us hl => match us, hl with | [_, _], _ => rfl) fun f fd F => ok_way F T Dbegin Dfirst MW
  have Dhas := d_has_last_mat.call (P := P) (w := w) (base := base) (ps := ["way"]) X G (fun _ _ _ _ _ _ us hl => match us, hl with | [_], _ => rfl) fun f fd F => ok_has F T
  have Dmiss := d_count_missing.call (P := P) (w := w) (base := base) (ps := ["way"]) X G (fun _ _ _ _ _ _ us hl => match us, hl with | [_], _ => rfl) fun f fd F => ok_miss F T
  have Down := d_find_own_time.call (P := P) (w := w) (base := base) (ps := ["way"]) X G (fun _ _ _ _ _ _ us hl => match us, hl with | [_], _ => rfl) fun f fd F => ok_own F T Dhas
  have Dgunt := d_find_gun_time.call (P := P) (w := w) (base := base) (ps := ["way"]) X G (fun _ _ _ _ _ _ us hl => match us, hl with | [_], _ => rfl) fun f fd F => ok_gunT F T Dhas
  have Dseen := d_was_seen.call (P := P) (w := w) (base := base) (ps := ["runner"]) X G (fun _ _ _ _ _ _ us hl => match us, hl with | [_], _ => rfl) fun f fd F => ok_seen F T
  have Dstate := d_find_state.call (P := P) (w := w) (base := base) (ps := ["race", "runner", "way"]) X G (fun _ _ _ _ _ _ us hl => match us, hl with | [_, _, _], _ => rfl) fun f fd F => ok_state F T Dhas Dmiss Dseen
  have MF := c_Finish.make (P := P) (w := w) (base := base) (ps := ["self", "who", "kind", "own_time", "gun_time"]) X G (fun _ _ _ _ _ _ us hl => match us, hl with | [_, _, _, _, _], _ => rfl) fun f fd F => ok_finI F T
  have Dall := d_all_finishes.call (P := P) (w := w) (base := base) (ps := ["race"]) X G (fun _ _ _ _ _ _ us hl => match us, hl with | [_], _ => rfl) fun f fd F => ok_allF F T Dway Dstate Down Dgunt MF
  have Dkind := d_finishes_of_kind.call (P := P) (w := w) (base := base) (ps := ["race", "kind"]) X G (fun _ _ _ _ _ _ us hl => match us, hl with | [_, _], _ => rfl) fun f fd F => ok_ofKind F T Dall
  have Dof := d_answer_of.call (P := P) (w := w) (base := base) (ps := ["race", "who"]) X G (fun _ _ _ _ _ _ us hl => match us, hl with | [_, _], _ => rfl) fun f fd F => ok_of F T Dway Dstate Down Dgunt Dmiss
  have Dsplit := d_answer_split.call (P := P) (w := w) (base := base) (ps := ["race", "who", "mat"]) X G (fun _ _ _ _ _ _ us hl => match us, hl with | [_, _, _], _ => rfl) fun f fd F => ok_split F T Dway
  have Dplaces := d_places_of.call (P := P) (w := w) (base := base) (ps := ["finish", "finishes"]) X G (fun _ _ _ _ _ _ us hl => match us, hl with | [_, _], _ => rfl) fun f fd F => ok_places F T
  have Drank := d_answer_rank.call (P := P) (w := w) (base := base) (ps := ["race", "who"]) X G (fun _ _ _ _ _ _ us hl => match us, hl with | [_, _], _ => rfl) fun f fd F => ok_rank F T Dall Dplaces
  have Dlist : CallD P w K mg base "answer_list" 6 ["race", "kind"] (spList C CR PL) := ⟨fL, _, PySem.W.mg_of X G a_L, k_L, FL.binds (fun _ _ _ _ _ _ us hl => match us, hl with | [_, _], _ => rfl), ok_list FL rfl hC hB T Dall Dkind⟩
  have Dbad := d_bad_least.call (P := P) (w := w) (base := base) (ps := ["least"]) X G (fun _ _ _ _ _ _ us hl => match us, hl with | [_], _ => rfl) fun f fd F => ok_bad F T
  have Dstart := d_start_race.call (P := P) (w := w) (base := base) (ps := ["race", "lack", "least"]) X G (fun _ _ _ _ _ _ us hl => match us, hl with | [_, _, _], _ => rfl) fun f fd F => ok_start F T Dbad
  have Dgun := d_set_gun.call (P := P) (w := w) (base := base) (ps := ["race", "wave", "time"]) X G (fun _ _ _ _ _ _ us hl => match us, hl with | [_, _, _], _ => rfl) fun f fd F => ok_gun F T
  have MR := c_Runner.make (P := P) (w := w) (base := base) (ps := ["self", "wave", "kind", "mats"]) X G (fun _ _ _ _ _ _ us hl => match us, hl with | [_, _, _, _], _ => rfl) fun f fd F => ok_runI F T
  have DaddR := d_add_runner.call (P := P) (w := w) (base := base) (ps := ["race", "wave", "kind"]) X G (fun _ _ _ _ _ _ us hl => match us, hl with | [_, _, _], _ => rfl) fun f fd F => ok_addR F T MR
  have DaddS := d_add_sight.call (P := P) (w := w) (base := base) (ps := ["race", "who", "mat", "time"]) X G (fun _ _ _ _ _ _ us hl => match us, hl with | [_, _, _, _], _ => rfl) fun f fd F => ok_addS F T
  have Dstruck := d_set_struck.call (P := P) (w := w) (base := base) (ps := ["race", "who", "on"]) X G (fun _ _ _ _ _ _ us hl => match us, hl with | [_, _, _], _ => rfl) fun f fd F => ok_struck F T
  have Dend := d_end_of_call.call (P := P) (w := w) (base := base) (ps := ["calls", "place"]) X G (fun _ _ _ _ _ _ us hl => match us, hl with | [_, _], _ => rfl) fun f fd F => ok_end F T
  have Dtell := d_answer_telling.call (P := P) (w := w) (base := base) (ps := ["race", "call"]) X G (fun _ _ _ _ _ _ us hl => match us, hl with | [_, _], _ => rfl) fun f fd F => ok_tell F T Dstart Dgun DaddR DaddS Dstruck
  have Dask := d_answer_asking.call (P := P) (w := w) (base := base) (ps := ["race", "call"]) X G (fun _ _ _ _ _ _ us hl => match us, hl with | [_, _], _ => rfl) fun f fd F => ok_ask F T Dof Dsplit Drank Dlist
  have Dcall := d_answer_call.call (P := P) (w := w) (base := base) (ps := ["race", "call"]) X G (fun _ _ _ _ _ _ us hl => match us, hl with | [_, _], _ => rfl) fun f fd F => ok_call F T Dtell Dask
  have MRace := c_Race.make (P := P) (w := w) (base := base) (ps := ["self"]) X G (fun _ _ _ _ _ _ us hl => match us, hl with | [_], _ => rfl) fun f fd F => ok_raceI F T
  exact ok_ans FA T MRace Dend Dcall
end Mat
end
section
set_option Elab.async false
set_option linter.unusedVariables false
set_option maxRecDepth 100000
set_option maxHeartbeats 2000000
namespace Mat
open PySem PySem.Spec L2
open PyProof.Rows hiding St
theorem cst_of {ns : List Int} (h : ∀ x ∈ ns, 0 ≤ x) : ns = cst (ns.map Int.toNat) := by
  unfold cst
  rw [List.map_map]
  conv => lhs; rw [← List.map_id ns]
  refine List.map_congr_left fun x hx => ?_
  have := h x hx
  show x = ((x.toNat : Nat) : Int)
  omega
theorem sp_of {K : PySem.W.Frag} {Pt p : Addr} {H : Hp} {ns : List Int} {Q : VK} {E : XK} (hO : ∀ b ys, H b ≠ some (.lst ys)) (hP : H Pt = some (.tbl #[])) (hS : SqL K H p (ns.map V.int)) (h0 : ∀ x ∈ ns, 0 ≤ x) (hask : PyKyt.answers_asked ns = true)
    (k : ∀ (H' : Hp) (q : Addr), (∃ tb, H' Pt = some (.tbl tb)) → H' q = some (.lst ((PyKyt.answers ns).map V.int)) → Q (.ref q) H') : spAns K Pt [.ref p] H Q E := by
  have e := cst_of h0
  have em : (ns.map Int.toNat).map nV = ns.map V.int := by
    conv => rhs; rw [e]
    unfold cst
    rw [List.map_map (f := fun (k : Nat) => (k : Int))]
    rfl
  refine ⟨p, ns.map Int.toNat, rfl, by rw [em]; exact ArgP.of hO hS, ⟨#[], hP, trivial, fun pos _ => .inl rfl⟩, by rw [← e]; exact hask, fun H' q ht hq => k H' q ht ?_⟩
  rw [← e] at hq
  exact hq
end Mat
end
open PySem PySem.W PyProof.Rows
set_option Elab.async false
set_option maxRecDepth 100000 in
set_option maxHeartbeats 0 in
theorem PySem.Challenge.cw_matrace_s01_answers_holds : PySem.Challenge.rw_matrace_s01_answers.Holds := by
  w_on; k_headS; (case hw => exact ⟨[.list [.int 0, .int 0, .int 0]], by decide +kernel, by decide +kernel⟩)
  k_fillS
  refine Mat.walk_specT (r := PySem.Challenge.rw_matrace_s01_answers) (k := 9) (ps := ["calls"]) (x := "answer_list") (sp := Mat.spAns) (by decide +kernel) rfl ⟨rfl, by decide, by decide⟩ ?R (fun w h Y => PySem.W.kIn_of Y) ?F ?S
  case R => decide +kernel
  case F =>
    intro w mg fa h Y KX G hmg
    refine' Mat.all_mk KX G hmg ?d_bad_least ?d_start_race ?d_set_gun ?d_add_runner ?d_add_sight ?d_set_struck ?d_find_beginning ?d_first_time_from ?d_find_way ?d_has_last_mat ?d_count_missing ?d_find_own_time ?d_find_gun_time ?d_was_seen ?d_find_state ?d_all_finishes ?d_finishes_of_kind ?d_answer_of ?d_answer_split ?d_places_of ?d_answer_rank ?d_end_of_call ?d_answer_telling ?d_answer_asking ?d_answer_call ?d_answers ?c_Race ?n_Race_least ?n_Race_lack ?n_Race_guns ?n_Race_runners ?n_Race_sight_count ?c_Runner ?n_Runner_wave ?n_Runner_kind ?n_Runner_struck ?n_Runner_sights ?c_Way ?n_Way_gun ?n_Way_times ?c_Finish ?n_Finish_who ?n_Finish_kind ?n_Finish_over_all ?n_Finish_in_kind ?z_len ?z_range ?z_enumerate ?z_list ?z_sorted ?i_NO_RUNNER ?i_OUT_OF_BOUNDS ?i_NO_ROOM ?i_MOST_MATS ?i_LONGEST_LEAST ?i_MOST_LACK ?i_LAST_WAVE ?i_LAST_KIND ?i_LAST_TIME ?i_MOST_RUNNERS ?i_MOST_SIGHTS ?i_LATEST_BEGINNING ?i_NO_RESULT ?i_WAITING ?i_UNDER_WAY ?i_FINISHED ?i_MISSING_TOO_MANY ?i_STRUCK_OUT ?i_ALL_KINDS ?i_START ?i_GUN ?i_RUNNER ?i_SEEN ?i_STRIKE ?i_OF ?i_SPLIT ?i_RANK ?z_S ?l_S ?v_S ?a_L ?l_F ?c_L ?k_L ?l_L ?v_L ?f_L
    case c_Race => refine' Mat.ClsK.of ?a ?i ?fn ?l ?c ?k ?pg ?hd ?po ?sa ?mk ?kc; (case a => k_is); (case i => k_is); (case fn => k_is); (case l => k_is); (case c => k_is); (case k => k_is); (case pg => k_is); (case hd => k_is); (case po => k_is); (case sa => k_is); (case mk => k_is); (case kc => k_is)
    case c_Runner => refine' Mat.ClsK.of ?a ?i ?fn ?l ?c ?k ?pg ?hd ?po ?sa ?mk ?kc; (case a => k_is); (case i => k_is); (case fn => k_is); (case l => k_is); (case c => k_is); (case k => k_is); (case pg => k_is); (case hd => k_is); (case po => k_is); (case sa => k_is); (case mk => k_is); (case kc => k_is)
    case c_Way => refine' Mat.ClsK.of ?a ?i ?fn ?l ?c ?k ?pg ?hd ?po ?sa ?mk ?kc; (case a => k_is); (case i => k_is); (case fn => k_is); (case l => k_is); (case c => k_is); (case k => k_is); (case pg => k_is); (case hd => k_is); (case po => k_is); (case sa => k_is); (case mk => k_is); (case kc => k_is)
    case c_Finish => refine' Mat.ClsK.of ?a ?i ?fn ?l ?c ?k ?pg ?hd ?po ?sa ?mk ?kc; (case a => k_is); (case i => k_is); (case fn => k_is); (case l => k_is); (case c => k_is); (case k => k_is); (case pg => k_is); (case hd => k_is); (case po => k_is); (case sa => k_is); (case mk => k_is); (case kc => k_is)
    case d_bad_least => refine' Mat.DefK.of ?a ?l ?c ?k; (case a => k_is); (case l => k_is); (case c => k_is); (case k => k_is)
    case d_start_race => refine' Mat.DefK.of ?a ?l ?c ?k; (case a => k_is); (case l => k_is); (case c => k_is); (case k => k_is)
    case d_set_gun => refine' Mat.DefK.of ?a ?l ?c ?k; (case a => k_is); (case l => k_is); (case c => k_is); (case k => k_is)
    case d_add_runner => refine' Mat.DefK.of ?a ?l ?c ?k; (case a => k_is); (case l => k_is); (case c => k_is); (case k => k_is)
    case d_add_sight => refine' Mat.DefK.of ?a ?l ?c ?k; (case a => k_is); (case l => k_is); (case c => k_is); (case k => k_is)
    case d_set_struck => refine' Mat.DefK.of ?a ?l ?c ?k; (case a => k_is); (case l => k_is); (case c => k_is); (case k => k_is)
    case d_find_beginning => refine' Mat.DefK.of ?a ?l ?c ?k; (case a => k_is); (case l => k_is); (case c => k_is); (case k => k_is)
    case d_first_time_from => refine' Mat.DefK.of ?a ?l ?c ?k; (case a => k_is); (case l => k_is); (case c => k_is); (case k => k_is)
    case d_find_way => refine' Mat.DefK.of ?a ?l ?c ?k; (case a => k_is); (case l => k_is); (case c => k_is); (case k => k_is)
    case d_has_last_mat => refine' Mat.DefK.of ?a ?l ?c ?k; (case a => k_is); (case l => k_is); (case c => k_is); (case k => k_is)
    case d_count_missing => refine' Mat.DefK.of ?a ?l ?c ?k; (case a => k_is); (case l => k_is); (case c => k_is); (case k => k_is)
    case d_find_own_time => refine' Mat.DefK.of ?a ?l ?c ?k; (case a => k_is); (case l => k_is); (case c => k_is); (case k => k_is)
    case d_find_gun_time => refine' Mat.DefK.of ?a ?l ?c ?k; (case a => k_is); (case l => k_is); (case c => k_is); (case k => k_is)
    case d_was_seen => refine' Mat.DefK.of ?a ?l ?c ?k; (case a => k_is); (case l => k_is); (case c => k_is); (case k => k_is)
    case d_find_state => refine' Mat.DefK.of ?a ?l ?c ?k; (case a => k_is); (case l => k_is); (case c => k_is); (case k => k_is)
    case d_all_finishes => refine' Mat.DefK.of ?a ?l ?c ?k; (case a => k_is); (case l => k_is); (case c => k_is); (case k => k_is)
    case d_finishes_of_kind => refine' Mat.DefK.of ?a ?l ?c ?k; (case a => k_is); (case l => k_is); (case c => k_is); (case k => k_is)
    case d_answer_of => refine' Mat.DefK.of ?a ?l ?c ?k; (case a => k_is); (case l => k_is); (case c => k_is); (case k => k_is)
    case d_answer_split => refine' Mat.DefK.of ?a ?l ?c ?k; (case a => k_is); (case l => k_is); (case c => k_is); (case k => k_is)
    case d_places_of => refine' Mat.DefK.of ?a ?l ?c ?k; (case a => k_is); (case l => k_is); (case c => k_is); (case k => k_is)
    case d_answer_rank => refine' Mat.DefK.of ?a ?l ?c ?k; (case a => k_is); (case l => k_is); (case c => k_is); (case k => k_is)
    case d_end_of_call => refine' Mat.DefK.of ?a ?l ?c ?k; (case a => k_is); (case l => k_is); (case c => k_is); (case k => k_is)
    case d_answer_telling => refine' Mat.DefK.of ?a ?l ?c ?k; (case a => k_is); (case l => k_is); (case c => k_is); (case k => k_is)
    case d_answer_asking => refine' Mat.DefK.of ?a ?l ?c ?k; (case a => k_is); (case l => k_is); (case c => k_is); (case k => k_is)
    case d_answer_call => refine' Mat.DefK.of ?a ?l ?c ?k; (case a => k_is); (case l => k_is); (case c => k_is); (case k => k_is)
    case d_answers => refine' Mat.DefK.of ?a ?l ?c ?k; (case a => k_is); (case l => k_is); (case c => k_is); (case k => k_is)
    case n_Race_least => k_is
    case n_Race_lack => k_is
    case n_Race_guns => k_is
    case n_Race_runners => k_is
    case n_Race_sight_count => k_is
    case n_Runner_wave => k_is
    case n_Runner_kind => k_is
    case n_Runner_struck => k_is
    case n_Runner_sights => k_is
    case n_Way_gun => k_is
    case n_Way_times => k_is
    case n_Finish_who => k_is
    case n_Finish_kind => k_is
    case n_Finish_over_all => k_is
    case n_Finish_in_kind => k_is
    case z_len => k_is
    case z_range => k_is
    case z_enumerate => k_is
    case z_list => k_is
    case z_sorted => k_is
    case i_NO_RUNNER => refine' Mat.IntK.of ?a; (case a => k_is)
    case i_OUT_OF_BOUNDS => refine' Mat.IntK.of ?a; (case a => k_is)
    case i_NO_ROOM => refine' Mat.IntK.of ?a; (case a => k_is)
    case i_MOST_MATS => refine' Mat.IntK.of ?a; (case a => k_is)
    case i_LONGEST_LEAST => refine' Mat.IntK.of ?a; (case a => k_is)
    case i_MOST_LACK => refine' Mat.IntK.of ?a; (case a => k_is)
    case i_LAST_WAVE => refine' Mat.IntK.of ?a; (case a => k_is)
    case i_LAST_KIND => refine' Mat.IntK.of ?a; (case a => k_is)
    case i_LAST_TIME => refine' Mat.IntK.of ?a; (case a => k_is)
    case i_MOST_RUNNERS => refine' Mat.IntK.of ?a; (case a => k_is)
    case i_MOST_SIGHTS => refine' Mat.IntK.of ?a; (case a => k_is)
    case i_LATEST_BEGINNING => refine' Mat.IntK.of ?a; (case a => k_is)
    case i_NO_RESULT => refine' Mat.IntK.of ?a; (case a => k_is)
    case i_WAITING => refine' Mat.IntK.of ?a; (case a => k_is)
    case i_UNDER_WAY => refine' Mat.IntK.of ?a; (case a => k_is)
    case i_FINISHED => refine' Mat.IntK.of ?a; (case a => k_is)
    case i_MISSING_TOO_MANY => refine' Mat.IntK.of ?a; (case a => k_is)
    case i_STRUCK_OUT => refine' Mat.IntK.of ?a; (case a => k_is)
    case i_ALL_KINDS => refine' Mat.IntK.of ?a; (case a => k_is)
    case i_START => refine' Mat.IntK.of ?a; (case a => k_is)
    case i_GUN => refine' Mat.IntK.of ?a; (case a => k_is)
    case i_RUNNER => refine' Mat.IntK.of ?a; (case a => k_is)
    case i_SEEN => refine' Mat.IntK.of ?a; (case a => k_is)
    case i_STRIKE => refine' Mat.IntK.of ?a; (case a => k_is)
    case i_OF => refine' Mat.IntK.of ?a; (case a => k_is)
    case i_SPLIT => refine' Mat.IntK.of ?a; (case a => k_is)
    case i_RANK => refine' Mat.IntK.of ?a; (case a => k_is)
    case z_S => k_is
    case l_S => k_is
    case v_S => exact .cons ⟨_, rfl⟩ (.cons ⟨_, rfl⟩ (.cons ⟨_, rfl⟩ (.cons ⟨_, rfl⟩ (.cons ⟨_, rfl⟩ (.cons ⟨_, rfl⟩ (.cons ⟨_, rfl⟩ (.cons ⟨_, rfl⟩ (.cons ⟨_, rfl⟩ .nil))))))))
    case a_L => k_is
    case l_F => k_is
    case c_L => k_is
    case k_L => k_is
    case l_L => k_is
    case v_L => rfl
    case f_L => rfl
  case S =>
    intro K Pt H xs a hO hP hwi hask hx
    cases hx with
    | cons h1 h2 =>
      cases h2
      cases h1 with
      | lst hs ha =>
        have e := L2.ints_dw a.1 _ ha
        subst e
        have q : ((Codec.inLen 0 30000 a.1 && a.1.all (Codec.inInt 0 4294967295)) && true) = true := hwi
        rw [Bool.and_eq_true, Bool.and_eq_true] at q
        exact Mat.sp_of hO hP hs (fun x hx => (Codec.inInt_iff.mp (List.all_eq_true.mp q.1.2 x hx)).1) hask fun H' p ht hp => ⟨ht, .lst (L2.SqL.of hp) (L2.dw_ints _)⟩
#print axioms PySem.Challenge.cw_matrace_s01_answers_holds
