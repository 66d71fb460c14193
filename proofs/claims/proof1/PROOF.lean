import PyProof.Rows.All
import Wide.All
import OpenK.AllK
import Wide.FinOn
import PyProof.EqAt
import PyProof.EqKinds
import PyProof.TupleCall
import KE.BitLaws
import PySz17
import PyFlatLaws
import KE.OsGo
import KE.OsArgs
import PySem.Challenge.RW_tasklocks_s01_answers
set_option Elab.async false
set_option linter.all false
set_option maxRecDepth 100000
set_option maxHeartbeats 4000000
-- CHANGE: your row's module here, as the last of these rows
/-! THE HAND LAYER, for ints, bools, texts, own classes, lists, tuples, dicts, comprehensions, walks over dicts, enumerate, zip, reversed, texts, calls, loops. Paste it whole ahead of your own text; what your proof does not reach may be deleted. -/
namespace L2
open PySem PySem.Spec PyProof.Rows

/-- a key: an int or a str -/
abbrev Key := Sum Int Str
def keyIs : Key → Value → Bool
  | .inl k, v => Value.isInt k v
  | .inr x, v => Value.isStrOf x v
def keyH (w : World) : Key → Int
  | .inl k => hashInt k
  | .inr x => hashStr w x
theorem keyIs_shape : ∀ {k : Key} {v : Value}, keyIs k v = true → (∃ i t, k = Sum.inl i ∧ v = Value.int i t) ∨ (∃ x t, k = Sum.inr x ∧ v = Value.str x t)
  | .inl i, v, h => by
    obtain ⟨t, e⟩ := Value.isInt_shape (k := i) (v := v) h
    exact .inl ⟨i, t, rfl, e⟩
  | .inr x, v, h => by
    obtain ⟨t, e⟩ := Value.isStrOf_shape (x := x) (v := v) h
    exact .inr ⟨x, t, rfl, e⟩
theorem keyIs_int (i : Int) (t : Tok) : keyIs (.inl i) (.int i t) = true := by simp [keyIs, Value.isInt]
theorem keyIs_str (x : Str) (t : Tok) : keyIs (.inr x) (.str x t) = true := by simp [keyIs, Value.isStrOf]
theorem key_ll (a b : Int) : decide ((Sum.inl a : Key) = Sum.inl b) = (a == b) := by
  by_cases e : a = b
  · subst e; simp
  · have h : ¬ (Sum.inl a : Key) = Sum.inl b := fun q => e (Sum.inl.inj q)
    rw [decide_eq_false h]
    exact (beq_eq_false_iff_ne.mpr e).symm
theorem key_rr (a b : Str) : decide ((Sum.inr a : Key) = Sum.inr b) = decide (a = b) := by
  by_cases e : a = b
  · subst e; simp
  · have h : ¬ (Sum.inr a : Key) = Sum.inr b := fun q => e (Sum.inr.inj q)
    rw [decide_eq_false h, decide_eq_false e]
theorem key_lr (a : Int) (b : Str) : decide ((Sum.inl a : Key) = Sum.inr b) = false := decide_eq_false (fun q => nomatch q)
theorem key_rl (a : Str) (b : Int) : decide ((Sum.inr a : Key) = Sum.inl b) = false := decide_eq_false (fun q => nomatch q)

def mixKind (prog : Program) (w : World) : PySem.KeyKind prog w Key where
  is := keyIs
  hash := keyH w
  inj := fun v a b ha hb => by
    rcases keyIs_shape ha with ⟨i, t, rfl, rfl⟩ | ⟨x, t, rfl, rfl⟩
    · rcases keyIs_shape hb with ⟨j, u, rfl, e⟩ | ⟨y, u, rfl, e⟩
      · injection e with e1 _; rw [e1]
      · exact nomatch e
    · rcases keyIs_shape hb with ⟨j, u, rfl, e⟩ | ⟨y, u, rfl, e⟩
      · exact nomatch e
      · injection e with e1 _; rw [e1]
  byValue := fun k v h => by
    rcases keyIs_shape h with ⟨i, t, rfl, rfl⟩ | ⟨x, t, rfl, rfl⟩ <;> rfl
  pyHash := fun hv h => by
    rcases keyIs_shape hv with ⟨i, t, rfl, rfl⟩ | ⟨x, t, rfl, rfl⟩
    · exact wpAny_pyHash_int h
    · exact wpAny_pyHash_str h
  eqBool := fun hu hv h => by
    rcases keyIs_shape hu with ⟨i, t, rfl, rfl⟩ | ⟨x, t, rfl, rfl⟩
    · rcases keyIs_shape hv with ⟨j, u, rfl, rfl⟩ | ⟨y, u, rfl, rfl⟩
      · rw [key_ll] at h; exact wpAny_eqBool_int h
      · rw [key_lr] at h; exact SeqAt.EqAt.int_str i t y u _ _ _ _ h
    · rcases keyIs_shape hv with ⟨j, u, rfl, rfl⟩ | ⟨y, u, rfl, rfl⟩
      · rw [key_rl] at h; exact SeqAt.EqAt.str_int x t j u _ _ _ _ h
      · rw [key_rr] at h; exact wpAny_eqBool_str h
  «strs» := fun k x t v h => by
    rcases keyIs_shape h with ⟨i, u, rfl, e⟩ | ⟨y, u, rfl, e⟩
    · exact nomatch e
    · injection e with e1 _
      subst e1
      cases v <;> rfl

theorem mixKind_int (prog : Program) (w : World) (i : Int) (t : Tok) : (mixKind prog w).is (.inl i) (.int i t) = true := keyIs_int i t
theorem mixKind_str (prog : Program) (w : World) (x : Str) (t : Tok) : (mixKind prog w).is (.inr x) (.str x t) = true := keyIs_str x t
end L2

namespace L2
open PySem PySem.Spec PyProof.Rows

/-- a value, without the heap -/
inductive V where
  | non | bl (b : Bool) | int (i : Int) | str (x : Str) | byt (b : Array UInt8) | flt (b : UInt64) | ref (a : Addr) | ty (n : String)
  deriving DecidableEq

def RelV : V → Value → Prop
  | .non, u => u = Value.none
  | .bl b, u => u = Value.bool b
  | .int i, u => ∃ t, u = Value.int i t
  | .str x, u => ∃ t, u = Value.str x t
  | .byt b, u => ∃ t, u = Value.bytes b t
  | .flt b, u => ∃ t, u = Value.float b t
  | .ref a, u => u = Value.ref a
  | .ty n, u => u = Value.type n

abbrev Vals : List V → List Value → Prop := Paired RelV
theorem Vals.length {xs : List V} {us : List Value} (r : Vals xs us) : xs.length = us.length := Paired.length r
theorem Vals.get : ∀ {xs : List V} {us : List Value} {i : Nat} {x : V}, Vals xs us → xs[i]? = some x → ∃ u, us[i]? = some u ∧ RelV x u
  | _, _, _, _, .nil, e => by simp at e
  | _, _, 0, _, .cons r _, e => by simp at e; subst e; exact ⟨_, rfl, r⟩
  | _, _, i + 1, x, .cons _ t, e => by
    obtain ⟨u, h1, h2⟩ := Vals.get (i := i) (x := x) t (by simpa using e)
    exact ⟨u, by simpa using h1, h2⟩
theorem Vals.append : ∀ {xs ys : List V} {us ws : List Value}, Vals xs us → Vals ys ws → Vals (xs ++ ys) (us ++ ws)
  | _, _, _, _, .nil, s => s
  | _, _, _, _, .cons r t, s => .cons r (Vals.append t s)
theorem Vals.take : ∀ {xs : List V} {us : List Value} (n : Nat), Vals xs us → Vals (xs.take n) (us.take n)
  | _, _, 0, _ => .nil
  | _, _, _ + 1, .nil => .nil
  | _, _, n + 1, .cons r t => .cons r (Vals.take n t)
theorem Vals.drop : ∀ {xs : List V} {us : List Value} (n : Nat), Vals xs us → Vals (xs.drop n) (us.drop n)
  | _, _, 0, r => r
  | _, _, _ + 1, .nil => .nil
  | _, _, n + 1, .cons _ t => Vals.drop n t

def RelO : Option V → Option Value → Prop
  | some v, some u => RelV v u
  | none, none => True
  | _, _ => False
def KV {κ : Type} : List (κ × V) → List (κ × Value) → Prop := Paired fun (p : κ × V) (q : κ × Value) => p.1 = q.1 ∧ RelV p.2 q.2

/-- a key of a dict (00_mix): an int or a text -/
def kV : Key → V
  | .inl i => .int i
  | .inr x => .str x

/-- what stands at a tracked address -/
inductive HO where
  /-- a list -/
  | lst (xs : List V)
  /-- a tuple (never changes) -/
  | tup (xs : List V)
  /-- a dict whose keys are ints and texts; one whose keys are tuples of ints and texts (the empty one is both) -/
  | dK (kvs : List (Key × V)) | dT (kvs : List (List Key × V))
  /-- a set of ints: its members, its size -/
  | set (S : Int → Bool) (n : Nat)
  /-- an instance of the class at C, its dict at dx, its attributes -/
  | ins (C dx : Addr) (fs : List (Str × V))
  /-- the dict of the instance at x -/
  | own (x : Addr)
  /-- the dict of an exception -/
  | xd (fs : List (Str × V))
  /-- a bound method, f of x -/
  | met (f x : Addr)
  /-- a range object lo, lo + 1, .. below hi -/
  | rng (lo hi : Int)
  /-- a thing that is known to the object (the script; a dict while a loop walks it): read, never written while it is so -/
  | frz (o : Obj) (u : HO)
  /-- a code object's table -/
  | tbl (ps : Array Value)
  /-- any other thing, by what is true of its one object (a def of one's own: SetO a S n := HO.ext fun h => ..) -/
  | ext (φ : Heap → Prop)

abbrev Hp := Addr → Option HO
def upd (H : Hp) (a : Addr) (o : HO) : Hp := fun b => if b = a then some o else H b
theorem upd_same {H : Hp} {a : Addr} {o : HO} : upd H a o a = some o := by unfold upd; rw [if_pos rfl]
theorem upd_ne {H : Hp} {a b : Addr} {o : HO} (h : b ≠ a) : upd H a o b = H b := by unfold upd; rw [if_neg h]
theorem upd_upd {H : Hp} {a : Addr} {o u : HO} : upd (upd H a o) a u = upd H a u := by
  funext b; unfold upd; split <;> rfl
/-- two objects of different content stand apart -/
theorem ne_of {H : Hp} {a b : Addr} {o u : HO} (h : H a = some o) (h' : H b = some u) (d : o ≠ u) : a ≠ b := by
  intro e; subst e; rw [h] at h'; exact d (Option.some.inj h')
theorem ne_of_none {H : Hp} {a b : Addr} {o : HO} (h : H a = some o) (h' : H b = none) : a ≠ b := by
  intro e; subst e; rw [h] at h'; cases h'

section
variable (P : Program) (w : World)
def ObjOk (H : Hp) (h : Heap) (a : Addr) : HO → Prop
  | .lst xs => xs.length ≤ sizeLine ∧ ∃ (its : List Value) (n : Nat), Vals xs its ∧ h.get? a = some { cls := .type "list", data := .seq its.toArray n }
  | .tup xs => xs.length ≤ sizeLine ∧ ∃ its : List Value, Vals xs its ∧ IsTup h a its.toArray
  | .dK kvs => kvs.length ≤ sizeLine ∧ (a == sysModules) = false ∧ ∃ vs, KV kvs vs ∧ h.DictOf (mixKind P w) a vs
  | .dT kvs => kvs.length ≤ sizeLine ∧ (a == sysModules) = false ∧ ∃ xs : List (List Key × Addr × Value),
      Paired (fun (p : List Key × V) (q : List Key × Addr × Value) => p.1 = q.1 ∧ H q.2.1 = some (.tup (p.1.map kV)) ∧ RelV p.2 q.2.2) kvs xs ∧
      ∃ o es ep, h.get? a = some o ∧ o.ExactDict ∧ o.data = .dict es ep ∧ es.toList = xs.map (entryOfKey (tupleKind (mixKind P w))) ∧ (xs.map (·.1)).Nodup
  | .set S n => h.SetOf (intKind P w) a S n
  | .ins C dx fs => H dx = some (.own a) ∧ fs.length ≤ 1000 ∧ dx ≠ a ∧ h.get? a = some (PySem.W.instObj C dx) ∧
      ∃ mA, h.Ns1 dx mA ∧ (∀ f, RelO (fs.lookup f) (mA f)) ∧ PySem.Within mA (fs.map (·.1))
  | .own _ => ∃ o, h.get? a = some o
  | .xd fs => ∃ mA, h.Ns1 a mA ∧ ∀ f, RelO (fs.lookup f) (mA f)
  | .rng lo hi => ∃ t u v, h.get? a = some { cls := .type "range", data := .fields #[.int lo t, .int hi u, .int 1 v] }
  | .frz o u => h.get? a = some o ∧ ObjOk H h a u
  | .tbl ps => h.get? a = some { cls := .none, data := .fields ps }
  | .met f x => h.get? a = some (PySem.W.methodObj (.ref f) (.ref x))
  | .ext φ => φ h ∧ (∃ o, h.get? a = some o) ∧ ∀ h1 h2 : Heap, φ h1 → (∀ o, h1.get? a = some o → h2.get? a = some o) → φ h2
/-- the abstract heap is held -/
def HOk (H : Hp) (h : Heap) : Prop := ∀ a o, H a = some o → ObjOk P w H h a o
end

section
variable {P : Program} {w : World} {H H' : Hp} {h h' : Heap} {a : Addr} {o : HO}
theorem ObjOk.lt (x : ObjOk P w H h a o) : a < h.objs.size := by
  cases o with
  | lst xs => obtain ⟨_, _, _, _, e⟩ := x; exact Heap.lt_size e
  | tup xs => obtain ⟨_, _, _, p⟩ := x; exact p.lt
  | dK kvs => obtain ⟨_, _, _, _, o, _, _, e, _⟩ := x; exact Heap.lt_size e
  | dT kvs => obtain ⟨_, _, _, _, o, _, _, e, _⟩ := x; exact Heap.lt_size e
  | set S n => obtain ⟨o, _, _, _, e, _⟩ := x; exact Heap.lt_size e
  | ins C dx fs => obtain ⟨_, _, _, e, _⟩ := x; exact Heap.lt_size e
  | own y => obtain ⟨_, e⟩ := x; exact Heap.lt_size e
  | xd fs => obtain ⟨_, ⟨_, _, _, e, _⟩, _⟩ := x; exact Heap.lt_size e
  | rng lo hi => obtain ⟨_, _, _, e⟩ := x; exact Heap.lt_size e
  | frz ob u => obtain ⟨e, _⟩ := x; exact Heap.lt_size e
  | tbl ps => exact Heap.lt_size (show h.get? a = some _ from x)
  | met f y => exact Heap.lt_size (show h.get? a = some _ from x)
  | ext φ => obtain ⟨_, ⟨_, e⟩, _⟩ := x; exact Heap.lt_size e
theorem Paired.mapP {α β : Type} {F G : α → β → Prop} : ∀ {l₁ : List α} {l₂ : List β}, Paired F l₁ l₂ → (∀ a b, F a b → G a b) → Paired G l₁ l₂
  | _, _, .nil, _ => .nil
  | _, _, .cons r t, f => .cons (f _ _ r) (Paired.mapP t f)
/-- what an object's description leans on: its own object, its own dict, the tuples -/
theorem ObjOk.stay (x : ObjOk P w H h a o) (k : ∀ b u, (b = a ∨ H b = some (.own a)) → h.get? b = some u → h'.get? b = some u)
    (ho : ∀ b, H b = some (.own a) → H' b = some (.own a)) (ht : ∀ b xs, H b = some (.tup xs) → H' b = some (.tup xs)) : ObjOk P w H' h' a o := by
  induction o with
  | lst xs => obtain ⟨z, its, n, r, e⟩ := x; exact ⟨z, its, n, r, k _ _ (.inl rfl) e⟩
  | tup xs => obtain ⟨z, its, r, ob, e, c⟩ := x; exact ⟨z, its, r, ob, k _ _ (.inl rfl) e, c⟩
  | dK kvs => obtain ⟨z, y, vs, r, ob, es, ep, e, c⟩ := x; exact ⟨z, y, vs, r, ob, es, ep, k _ _ (.inl rfl) e, c⟩
  | dT kvs =>
    obtain ⟨z, y, xs, r, ob, es, ep, e, c⟩ := x
    exact ⟨z, y, xs, Paired.mapP r fun p q z => ⟨z.1, ht _ _ z.2.1, z.2.2⟩, ob, es, ep, k _ _ (.inl rfl) e, c⟩
  | set S n => obtain ⟨ob, es, ep, t, e, c⟩ := x; exact ⟨ob, es, ep, t, k _ _ (.inl rfl) e, c⟩
  | ins C dx fs =>
    obtain ⟨d, z, ne, e, mA, ⟨od, es, ep, e2, c⟩, r⟩ := x
    exact ⟨ho _ d, z, ne, k _ _ (.inl rfl) e, mA, ⟨od, es, ep, k _ _ (.inr d) e2, c⟩, r⟩
  | own y => obtain ⟨ob, e⟩ := x; exact ⟨ob, k _ _ (.inl rfl) e⟩
  | xd fs => obtain ⟨mA, ⟨od, es, ep, e, c⟩, r⟩ := x; exact ⟨mA, ⟨od, es, ep, k _ _ (.inl rfl) e, c⟩, r⟩
  | rng lo hi => obtain ⟨t, u, v, e⟩ := x; exact ⟨t, u, v, k _ _ (.inl rfl) e⟩
  | frz ob u ih => obtain ⟨e, q⟩ := x; exact ⟨k _ _ (.inl rfl) e, ih q⟩
  | tbl ps =>
    have e : h.get? a = some { cls := .none, data := .fields ps } := x
    show h'.get? a = some { cls := .none, data := .fields ps }
    exact k a _ (.inl rfl) e
  | met f y =>
    have e : h.get? a = some (PySem.W.methodObj (.ref f) (.ref y)) := x
    show h'.get? a = some (PySem.W.methodObj (.ref f) (.ref y))
    exact k a _ (.inl rfl) e
  | ext φ => obtain ⟨p, ⟨o, e⟩, st⟩ := x; exact ⟨st _ _ p fun o q => k _ _ (.inl rfl) q, ⟨o, k _ _ (.inl rfl) e⟩, st⟩
theorem HOk.lt (x : HOk P w H h) (e : H a = some o) : a < h.objs.size := (x a o e).lt
theorem HOk.fresh (x : HOk P w H h) (e : h.objs.size ≤ a) : H a = none := by
  cases q : H a with
  | none => rfl
  | some u => exact absurd (Nat.lt_of_lt_of_le (x.lt q) e) (Nat.lt_irrefl _)
/-- every object of the heap is kept -/
theorem HOk.kept (x : HOk P w H h) (k : ∀ b u, h.get? b = some u → h'.get? b = some u) : HOk P w H h' := fun a o e =>
  (x a o e).stay (fun b u _ q => k b u q) (fun _ q => q) fun _ _ q => q
/-- a new object is laid and tracked -/
theorem HOk.laid (x : HOk P w H h) (k : ∀ b u, h.get? b = some u → h'.get? b = some u) (hp : h.objs.size ≤ a) (new : ObjOk P w (upd H a o) h' a o) : HOk P w (upd H a o) h' := fun b u e => by
  have hn := x.fresh hp
  by_cases hb : b = a
  · subst hb; rw [upd_same] at e; cases e; exact new
  · rw [upd_ne hb] at e
    exact (x b u e).stay (fun c v _ q => k c v q) (fun c q => by rw [upd_ne (ne_of_none q hn)]; exact q) fun c xs q => by rw [upd_ne (ne_of_none q hn)]; exact q
end

/-- what may be read as u: it is u, or a known u -/
def Rd (H : Hp) (a : Addr) (u : HO) : Prop := H a = some u ∨ ∃ o, H a = some (.frz o u)
theorem Rd.ok {P : Program} {w : World} {H : Hp} {h : Heap} {a : Addr} {u : HO} (r : Rd H a u) (x : HOk P w H h) : ObjOk P w H h a u := by
  rcases r with r | ⟨o, r⟩
  · exact x a u r
  · obtain ⟨_, q⟩ := x a _ r
    exact q
/-- what may be written -/
def Mut : Option HO → Prop
  | some (.lst _) => True
  | some (.dK _) => True
  | some (.dT _) => True
  | some (.set _ _) => True
  | some (.ins _ _ _) => True
  | some (.ext _) => True
  | _ => False
section
variable {P : Program} {w : World} {H : Hp} {h h' : Heap} {x e : Addr} {o' : HO}
/-- the object at e is changed: x itself, or the dict of the instance x -/
theorem HOk.write (ok : HOk P w H h) (mu : Mut (H x)) (he : e = x ∨ H e = some (.own x)) (k : ∀ b u, b ≠ e → h.get? b = some u → h'.get? b = some u) (heo : ∃ u, h'.get? e = some u)
    (new : ObjOk P w (upd H x o') h' x o') : HOk P w (upd H x o') h' := fun b u q => by
  have nown : ∀ c y, H c = some (.own y) → c ≠ x := fun c y r z => by subst z; rw [r] at mu; exact mu
  have ntup : ∀ c xs, H c = some (.tup xs) → c ≠ x := fun c xs r z => by subst z; rw [r] at mu; exact mu
  by_cases hb : b = x
  · subst hb; rw [upd_same] at q; cases q; exact new
  · rw [upd_ne hb] at q
    by_cases hbe : b = e
    · have q' : H b = some (.own x) := by
        rcases he with z | z
        · exact absurd (hbe.trans z) hb
        · rw [hbe]; exact z
      rw [q] at q'; cases q'
      obtain ⟨v, hv⟩ := heo
      exact ⟨v, by rw [hbe]; exact hv⟩
    · refine (ok b u q).stay (fun c v hc r => k c v ?_ r) (fun c r => by rw [upd_ne (nown c b r)]; exact r) fun c xs r => by rw [upd_ne (ntup c xs r)]; exact r
      rcases hc with rfl | hc
      · exact hbe
      · rintro rfl
        rcases he with z | z
        · exact nown c b hc z
        · rw [hc] at z; cases z; exact hb rfl
end

/-! ### kept unless tracked; of the frames at fs (the callers') the slots may change (an exception that passes writes there); of the records at ex (iterators) nothing is said -/
structure Un (fs ex : List Addr) (H H' : Hp) (h h' : Heap) : Prop where
  keep : ∀ b o, h.get? b = some o → H b = none → b ∉ fs → b ∉ ex → h'.get? b = some o
  slot : ∀ b o, h.get? b = some o → H b = none → b ∈ fs → b ∉ ex → ∃ sl, h'.get? b = some { o with slots := sl }
  free : ∀ b o, h.get? b = some o → H b = none → b ∉ ex → H' b = none
  there : ∀ b o, h.get? b = some o → b ∉ ex → ∃ o', h'.get? b = some o'
  tups : ∀ b xs, H b = some (.tup xs) → H' b = some (.tup xs)
  frzs : ∀ b o u, H b = some (.frz o u) → H' b = some (.frz o u)
  tbls : ∀ b ps, H b = some (.tbl ps) → ∃ more, H' b = some (.tbl (ps ++ more))
section
variable {fs fs' ex ex' : List Addr} {H H1 H2 : Hp} {h h1 h2 h' : Heap} {a x e : Addr} {o : HO}
theorem Un.any (u : Un fs ex H H1 h h1) {b : Addr} {ob : Obj} (q : h.get? b = some ob) (n : H b = none) (hx : b ∉ ex) : ∃ sl, h1.get? b = some { ob with slots := sl } := by
  by_cases hb : b ∈ fs
  · exact u.slot b ob q n hb hx
  · exact ⟨ob.slots, u.keep b ob q n hb hx⟩
theorem Un.kept (k : ∀ b u, h.get? b = some u → h'.get? b = some u) : Un fs ex H H h h' :=
  ⟨fun b ob q _ _ _ => k b ob q, fun b ob q _ _ _ => ⟨ob.slots, k b ob q⟩, fun _ _ _ n _ => n, fun b ob q _ => ⟨ob, k b ob q⟩, fun _ _ q => q, fun _ _ _ q => q, fun _ ps q => ⟨#[], by rw [q]; simp⟩⟩
theorem Un.refl : Un fs ex H H h h := Un.kept fun _ _ q => q
theorem Un.laid (k : ∀ b u, h.get? b = some u → h'.get? b = some u) (hp : h.objs.size ≤ a) (hn : H a = none) : Un fs ex H (upd H a o) h h' where
  keep := fun b u q _ _ _ => k b u q
  slot := fun b u q _ _ _ => ⟨u.slots, k b u q⟩
  free := fun b u q n _ => by rw [upd_ne (Nat.ne_of_lt (Nat.lt_of_lt_of_le (Heap.lt_size q) hp))]; exact n
  there := fun b u q _ => ⟨u, k b u q⟩
  tups := fun b xs q => by rw [upd_ne (ne_of_none q hn)]; exact q
  frzs := fun b u xs q => by rw [upd_ne (ne_of_none q hn)]; exact q
  tbls := fun b ps q => ⟨#[], by rw [upd_ne (ne_of_none q hn), q]; simp⟩
theorem Un.write (mu : Mut (H x)) (he : e = x ∨ H e = some (.own x)) (k : ∀ b u, b ≠ e → h.get? b = some u → h'.get? b = some u) (heo : ∃ u, h'.get? e = some u) : Un fs ex H (upd H x o) h h' := by
  have hx : ∀ b, H b = none → b ≠ x := fun b n z => by subst z; rw [n] at mu; exact mu
  have hb : ∀ b, H b = none → b ≠ e := fun b n z => by
    subst z
    rcases he with r | r
    · exact hx b n r
    · rw [n] at r; cases r
  have hm : ∀ b u, H b = some u → ¬ Mut (some u) → b ≠ x := fun b u q nm z => by subst z; rw [q] at mu; exact nm mu
  refine ⟨fun b u q n _ _ => k b u (hb b n) q, fun b u q n _ _ => ⟨u.slots, k b u (hb b n) q⟩, fun b u q n _ => by rw [upd_ne (hx b n)]; exact n, fun b u q _ => ?_,
    fun b xs q => by rw [upd_ne (hm b _ q fun z => z)]; exact q, fun b u xs q => by rw [upd_ne (hm b _ q fun z => z)]; exact q, fun b ps q => ⟨#[], by rw [upd_ne (hm b _ q fun z => z), q]; simp⟩⟩
  by_cases hbe : b = e
  · subst hbe; exact heo
  · exact ⟨u, k b u hbe q⟩
end

/-! ### the heap without what is tracked -/
def trk (h : Heap) (H : Hp) : List Addr := (List.range h.objs.size).filter fun a => (H a).isSome
def hidT (h : Heap) (H : Hp) : Heap := PySem.W.hideAll h (trk h H)
theorem hidT_size (h : Heap) (H : Hp) : (hidT h H).objs.size = h.objs.size := PySem.W.hideAll_size _ _
theorem hidT_get {h : Heap} {H : Hp} {b : Addr} {o : Obj} (e : h.get? b = some o) (n : H b = none) : (hidT h H).get? b = some o :=
  PySem.W.hideAll_get _ e fun hm => by
    have q : (H b).isSome = true := (List.mem_filter.mp hm).2
    rw [n] at q; simp at q
theorem of_hidT {h : Heap} {H : Hp} {b : Addr} {o : Obj} (e : (hidT h H).get? b = some o) : h.get? b = some o ∧ H b = none := by
  have e' : h.get? b = some o := PySem.W.of_hideAll (trk h H) e
  refine ⟨e', ?_⟩
  cases q : H b with
  | none => rfl
  | some x =>
    have hm : b ∈ trk h H := List.mem_filter.mpr ⟨List.mem_range.mpr (Heap.lt_size e'), by simp [q]⟩
    have z : (hidT h H).get? b = none := PySem.W.hideAll_none (trk h H) hm
    rw [z] at e; cases e

/-! ### OpenK's ledger, filled with every new object but one -/
end L2

namespace L2
open PySem PySem.Spec PyProof.Rows

/-- the module's facts, over the base: the heap at the law's entry without what is tracked there -/
structure Mod (K : PySem.W.Frag) (mg : Str → Option Value) (base : Heap) : Prop where
  kin : K.In base
  glob : base.Ns mainGlobals mg
  blt : ∃ mb, base.Ns builtinsNs mb ∧ ∀ x : Str, x ≠ "__name__" → mb x = bootBuiltins x
  nolimit : base.NoLimit

/-- the context: a def's body (or a comprehension's block) running. base: fixed through the whole law; s₀, H₀: the entry; outer: the frames whose slots others may change (a def's callers); stack: all frames that run;
   ex: iterators that were made ahead of the entry and are walked here (a comprehension's); fn: the names whose cells were made at the entry (a def: all; a comprehension's block: its own); calm: not within an except suite; pn: pins that every state bears; xe: what is wanted of an exception that leaves the code -/
structure Cx where
  prog : Program
  w : World
  K : PySem.W.Frag
  mg : Str → Option Value
  base : Heap
  A : Around
  N : List Str
  s_0 : Shared
  H_0 : Hp
  env : Env
  outer : List Env
  stack : List Env
  ex : List Addr
  fn : Str → Bool
  calm : Bool
  pn : List (Addr × Obj)
  xe : Value → Shared → Prop
/-- the callers' frames -/
def frs (l : List Env) : List Addr := l.filterMap (·.frame)
abbrev Cx.fs (X : Cx) : List Addr := frs X.outer

def Vis (sc : Scope) (x : Str) : Prop := sc.names.lookup x = some .local ∨ sc.names.lookup x = some .cell ∨ sc.names.lookup x = some .free
def Loc (sc : Scope) (x : Str) : Prop := sc.names.lookup x = some .local ∨ sc.names.lookup x = some .cell
def Look (env : Env) (h : Heap) (m : Str → Option Value) (x : Str) (u : Value) : Prop :=
  (env.kindOf x = some .local ∧ m x = some u) ∨ ((env.kindOf x = some .cell ∨ env.kindOf x = some .free) ∧ ∃ c, env.cells.lookup x = some c ∧ h.IsCell c (some u))

structure Cx.Ok (X : Cx) : Prop where
  mod : Mod X.K X.mg X.base
  kind : X.env.scope.kind = .function
  glob : X.env.globals = mainGlobals
  blt : X.env.builtins = builtinsNs
  above : X.s_0.heap.objs.size ≤ X.env.locals
  inj : ∀ x y c, X.env.cells.lookup x = some c → X.env.cells.lookup y = some c → x = y
  has : ∀ x, (X.env.kindOf x = some .cell ∨ X.env.kindOf x = some .free) → ∃ c, X.env.cells.lookup x = some c
  cab : ∀ x c, X.fn x = true → X.env.cells.lookup x = some c → X.s_0.heap.objs.size ≤ c
  hd : X.calm = true → X.A.handled = none
  frames : X.A.frames = some X.stack
  stk : X.stack = X.outer ∨ (X.stack = X.env :: X.outer ∧ X.env.frame = some X.env.locals)
  exf : ∀ b ∈ X.ex, b ≠ X.env.locals ∧ ∀ x c, X.env.cells.lookup x = some c → c ≠ b
  bs : ∀ b o, X.base.get? b = some o → X.s_0.heap.get? b = some o ∧ X.H_0 b = none
  bsz : X.base.objs.size ≤ X.s_0.heap.objs.size
  noex : ∀ b o, X.base.get? b = some o → b ∉ X.ex
  exfs : ∀ b ∈ X.ex, b ∉ X.fs
  funs : X.s_0.heap.FunFrames X.base X.outer
  frf : ∀ b ∈ X.fs, X.H_0 b = none

structure Inv (X : Cx) (pins : List (Addr × Obj)) (σ : List (Option V)) (H : Hp) (s : Shared) : Prop where
  ok : X.Ok
  os : s.os = X.s_0.os
  bare : AllBare s.gens
  base : Un X.fs X.ex X.H_0 H X.s_0.heap s.heap
  loc : ∃ m, s.heap.Ns X.env.locals m ∧ ∀ (i : Nat) (x : Str) (v : V), X.N[i]? = some x → σ[i]? = some (some v) → Vis X.env.scope x → ∃ u, RelV v u ∧ Look X.env s.heap m x u
  cell : ∀ x c, X.env.cells.lookup x = some c → ∃ v, s.heap.IsCell c v
  free : H X.env.locals = none
  freeC : ∀ x c, X.env.cells.lookup x = some c → H c = none
  pin : ∀ p ∈ X.pn ++ pins, s.heap.get? p.1 = some p.2 ∧ H p.1 = none ∧ p.1 ≠ X.env.locals ∧ p.1 ∉ X.fs ∧ ∀ v, p.2.data ≠ .cell v
  hok : HOk X.prog X.w H s.heap
  len : σ.length = X.N.length

section
variable {X : Cx} {pins : List (Addr × Obj)} {σ : List (Option V)} {H H' : Hp} {s : Shared} {h' : Heap}

theorem Cx.Ok.nofr (ok : X.Ok) {b : Addr} {o : Obj} (e : X.base.get? b = some o) : b ∉ X.fs := fun hb => by
  have := (ok.funs.mem hb).1
  rw [e] at this; cases this
theorem Inv.bs (I : Inv X pins σ H s) : ∀ b o, X.base.get? b = some o → s.heap.get? b = some o ∧ H b = none := fun b o e =>
  ⟨I.base.keep b o (I.ok.bs b o e).1 (I.ok.bs b o e).2 (I.ok.nofr e) (I.ok.noex b o e), I.base.free b o (I.ok.bs b o e).1 (I.ok.bs b o e).2 (I.ok.noex b o e)⟩
theorem Inv.bk (I : Inv X pins σ H s) : ∀ b o, X.base.get? b = some o → s.heap.get? b = some o := fun b o e => (I.bs b o e).1
theorem Inv.mod (I : Inv X pins σ H s) : Mod X.K X.mg X.base := I.ok.mod
theorem Inv.kIn (I : Inv X pins σ H s) : X.K.In s.heap := I.ok.mod.kin.keeps I.bk
theorem Inv.lt (I : Inv X pins σ H s) : X.env.locals < s.heap.objs.size := let ⟨_, hn, _⟩ := I.loc; hn.lt
theorem Inv.sz (I : Inv X pins σ H s) : X.s_0.heap.objs.size ≤ s.heap.objs.size := Nat.le_trans I.ok.above (Nat.le_of_lt I.lt)
theorem Inv.nofs (I : Inv X pins σ H s) {a : Addr} (h : s.heap.objs.size ≤ a) : a ∉ X.fs := fun hb => by
  obtain ⟨_, o, ho, _⟩ := I.ok.funs.mem hb
  exact absurd (Nat.lt_of_lt_of_le (Heap.lt_size ho) (Nat.le_trans I.sz h)) (Nat.lt_irrefl _)
theorem Inv.cne (I : Inv X pins σ H s) : ∀ x c, X.env.cells.lookup x = some c → c ≠ X.env.locals := fun x c e z => by
  obtain ⟨v, o, ho, hd⟩ := I.cell x c e
  obtain ⟨m, ⟨o', es, ep, ho', hd', _⟩, _⟩ := I.loc
  rw [z, ho'] at ho; cases ho; rw [hd'] at hd; cases hd
theorem Inv.funs (I : Inv X pins σ H s) : s.heap.FunFrames X.base X.outer := by
  have all : ∀ (l : List Env), (∀ b ∈ frs l, b ∈ X.fs) → X.s_0.heap.FunFrames X.base l → s.heap.FunFrames X.base l := by
    intro l
    induction l with
    | nil => intro _ _; trivial
    | cons env r ih =>
      intro hs hl
      obtain ⟨hk, ⟨L, o, hf, hn, ho, hd⟩, hr⟩ := hl
      have hL : L ∈ X.fs := hs L (by unfold frs; rw [List.filterMap_cons, hf]; exact List.mem_cons_self)
      obtain ⟨sl, e⟩ := I.base.slot L o ho (I.ok.frf L hL) hL fun z => I.ok.exfs L z hL
      exact ⟨hk, ⟨L, _, hf, hn, e, hd⟩, ih (fun b hb => hs b (by unfold frs; rw [List.filterMap_cons, hf]; exact List.mem_cons_of_mem _ hb)) hr⟩
  exact all X.outer (fun _ hb => hb) I.ok.funs

/-- the frames that run, for a call -/
theorem Inv.stack (I : Inv X pins σ H s) : s.heap.FunFrames X.base X.stack := by
  rcases I.ok.stk with e | ⟨e, hf⟩
  · rw [e]; exact I.funs
  · rw [e]
    obtain ⟨m, hn, _⟩ := I.loc
    refine .cons (by rw [I.ok.kind]; decide) hf hn ?_ I.funs
    exact Heap.get?_none_of_le (Nat.le_trans I.ok.bsz I.ok.above)
theorem Inv.stkSub (I : Inv X pins σ H s) : ∀ b ∈ frs X.stack, b ∈ X.env.locals :: X.fs := fun b hb => by
  rcases I.ok.stk with e | ⟨e, hf⟩
  · rw [e] at hb; exact List.mem_cons_of_mem _ hb
  · rw [e] at hb
    unfold frs at hb
    rw [List.filterMap_cons, hf] at hb
    exact hb
theorem Inv.stkFree (I : Inv X pins σ H s) : ∀ b ∈ frs X.stack, H b = none := fun b hb => by
  rcases List.mem_cons.mp (I.stkSub b hb) with e | hb
  · rw [e]; exact I.free
  · obtain ⟨_, o, ho, _⟩ := I.ok.funs.mem hb
    exact I.base.free b o ho (I.ok.frf b hb) fun z => I.ok.exfs b z hb

/-- THE STEP: the untracked objects but the frame and the records at ch are kept (the callers' frames up to slots), the frame's map is kept, the new abstract heap is held -/
theorem Inv.step {g' : Array GenState} {t' : Nat} {d' : Drawn} {ch : List Addr} (I : Inv X pins σ H s)
    (hch : ∀ b ∈ ch, (b ∈ X.ex ∨ X.s_0.heap.objs.size ≤ b) ∧ b ≠ X.env.locals ∧ (∀ x c, X.env.cells.lookup x = some c → c ≠ b) ∧ ∀ p ∈ X.pn ++ pins, p.1 ≠ b)
    (keep : ∀ b o, b ≠ X.env.locals → b ∉ X.fs → b ∉ ch → s.heap.get? b = some o → H b = none → h'.get? b = some o)
    (slot : ∀ b o, b ≠ X.env.locals → b ∈ X.fs → b ∉ ch → s.heap.get? b = some o → H b = none → ∃ sl, h'.get? b = some { o with slots := sl }) (free : ∀ b o, b ∉ ch → s.heap.get? b = some o → H b = none → H' b = none)
    (there : ∀ b o, b ∉ ch → s.heap.get? b = some o → ∃ o', h'.get? b = some o')
    (tups : ∀ b xs, H b = some (.tup xs) → H' b = some (.tup xs)) (frzs : ∀ b o u, H b = some (.frz o u) → H' b = some (.frz o u)) (tbls : ∀ b ps, H b = some (.tbl ps) → ∃ more, H' b = some (.tbl (ps ++ more)))
    (ns : ∀ m, s.heap.Ns X.env.locals m → h'.Ns X.env.locals m) (hok : HOk X.prog X.w H' h') (hg : AllBare g') :
    Inv X pins σ H' { s with heap := h', gens := g', drawn := d', toks := t' } := by
  have neL : ∀ b o, X.s_0.heap.get? b = some o → b ≠ X.env.locals := fun b o e => Nat.ne_of_lt (Nat.lt_of_lt_of_le (Heap.lt_size e) I.ok.above)
  have neC : ∀ b o, X.s_0.heap.get? b = some o → b ∉ X.ex → b ∉ ch := fun b o e hx hb => by
    rcases (hch b hb).1 with z | z
    · exact hx z
    · exact absurd (Nat.lt_of_lt_of_le (Heap.lt_size e) z) (Nat.lt_irrefl _)
  have cellK : ∀ x c, X.env.cells.lookup x = some c → ∀ v, s.heap.IsCell c v → h'.IsCell c v := fun x c e v ⟨o, ho, hd⟩ => by
    have nch : c ∉ ch := fun z => (hch c z).2.2.1 x c e rfl
    by_cases hc : c ∈ X.fs
    · obtain ⟨sl, q⟩ := slot c o (I.cne x c e) hc nch ho (I.freeC x c e)
      exact ⟨_, q, hd⟩
    · exact ⟨o, keep c o (I.cne x c e) hc nch ho (I.freeC x c e), hd⟩
  refine ⟨I.ok, I.os, hg, ⟨fun b o e n hb hx => ?_, fun b o e n hb hx => ?_, fun b o e n hx => ?_, fun b o e hx => ?_, fun b xs e => tups b xs (I.base.tups b xs e), fun b o xs e => frzs b o xs (I.base.frzs b o xs e), fun b ps e => ?_⟩, ?_, fun x c e => ?_, ?_, fun x c e => ?_, fun p hp => ?_, hok, I.len⟩
  · exact keep b o (neL b o e) hb (neC b o e hx) (I.base.keep b o e n hb hx) (I.base.free b o e n hx)
  · obtain ⟨sl, e1⟩ := I.base.slot b o e n hb hx
    obtain ⟨sl', e2⟩ := slot b _ (neL b o e) hb (neC b o e hx) e1 (I.base.free b o e n hx)
    exact ⟨sl', e2⟩
  · obtain ⟨o', e1⟩ := I.base.there b o e hx
    exact free b o' (neC b o e hx) e1 (I.base.free b o e n hx)
  · obtain ⟨o', e1⟩ := I.base.there b o e hx
    exact there b o' (neC b o e hx) e1
  · obtain ⟨m1, e1⟩ := I.base.tbls b ps e
    obtain ⟨m2, e2⟩ := tbls b _ e1
    exact ⟨m1 ++ m2, by rw [e2, Array.append_assoc]⟩
  · obtain ⟨m, hn, hl⟩ := I.loc
    refine ⟨m, ns m hn, fun i x v e1 e2 e3 => ?_⟩
    obtain ⟨u, r, l⟩ := hl i x v e1 e2 e3
    refine ⟨u, r, ?_⟩
    rcases l with l | ⟨k, c, e, z⟩
    · exact .inl l
    · exact .inr ⟨k, c, e, cellK x c e _ z⟩
  · obtain ⟨v, z⟩ := I.cell x c e
    exact ⟨v, cellK x c e v z⟩
  · obtain ⟨m, ⟨o, _, _, ho, _⟩, _⟩ := I.loc
    exact free _ o (fun z => (hch _ z).2.1 rfl) ho I.free
  · obtain ⟨v, o, ho, hd⟩ := I.cell x c e
    exact free c o (fun z => (hch c z).2.2.1 x c e rfl) ho (I.freeC x c e)
  · obtain ⟨e, n, ne, nf, d⟩ := I.pin p hp
    have nch : p.1 ∉ ch := fun z => (hch p.1 z).2.2.2 p hp rfl
    exact ⟨keep p.1 p.2 ne nf nch e n, free p.1 p.2 nch e n, ne, nf, d⟩
/-- .. where the frame's own object is kept too -/
theorem Inv.un {t' : Nat} (I : Inv X pins σ H s) (u : Un X.fs [] H H' s.heap h') (hok : HOk X.prog X.w H' h') : Inv X pins σ H' { s with heap := h', toks := t' } := by
  obtain ⟨m, ⟨o, es, ep, ho, r⟩, _⟩ := id I.loc
  obtain ⟨sl, hL⟩ := u.any ho I.free (by simp)
  exact I.step (g' := s.gens) (d' := s.drawn) (ch := []) (fun _ z => nomatch z) (fun b o _ hb _ e n => u.keep b o e n hb (by simp)) (fun b o _ hb _ e n => u.slot b o e n hb (by simp)) (fun b o _ e n => u.free b o e n (by simp)) (fun b o _ e => u.there b o e (by simp)) u.tups u.frzs u.tbls (fun m' hm => by
    obtain ⟨o', es', ep', ho', r'⟩ := hm
    rw [ho] at ho'; cases ho'
    exact ⟨_, es', ep', hL, r'⟩) hok I.bare
/-- behind a call (or a comprehension's block): the slots of this frame may have changed too, the records at ch may have turned -/
theorem Inv.call {g' : Array GenState} {t' : Nat} {d' : Drawn} {ch : List Addr} (I : Inv X pins σ H s) (u : Un (frs X.stack) ch H H' s.heap h') (hok : HOk X.prog X.w H' h') (hg : AllBare g')
    (hch : ∀ b ∈ ch, (b ∈ X.ex ∨ X.s_0.heap.objs.size ≤ b) ∧ b ≠ X.env.locals ∧ (∀ x c, X.env.cells.lookup x = some c → c ≠ b) ∧ ∀ p ∈ X.pn ++ pins, p.1 ≠ b) :
    Inv X pins σ H' { s with heap := h', gens := g', drawn := d', toks := t' } := by
  obtain ⟨m, ⟨o, es, ep, ho, r⟩, _⟩ := id I.loc
  obtain ⟨sl, hL⟩ := u.any ho I.free fun z => (hch _ z).2.1 rfl
  exact I.step (ch := ch) hch (fun b o hL hb hc e n => u.keep b o e n (fun z => (List.mem_cons.mp (I.stkSub b z)).elim hL hb) hc) (fun b o _ _ hc e n => u.any e n hc) (fun b o hc e n => u.free b o e n hc) (fun b o hc e => u.there b o e hc) u.tups u.frzs u.tbls (fun m' hm => by
    obtain ⟨o', es', ep', ho', r'⟩ := hm
    rw [ho] at ho'; cases ho'
    exact ⟨_, es', ep', hL, r'⟩) hok hg
/-- an untracked record of ours (an iterator) has turned -/
theorem Inv.turned {t' : Nat} {it : Addr} (I : Inv X pins σ H s) (k : ∀ b o, b ≠ it → s.heap.get? b = some o → h'.get? b = some o) (hn : H it = none) (hL : it ≠ X.env.locals)
    (h1 : it ∈ X.ex ∨ X.s_0.heap.objs.size ≤ it) (h2 : ∀ x c, X.env.cells.lookup x = some c → c ≠ it) (h3 : ∀ p ∈ X.pn ++ pins, p.1 ≠ it) : Inv X pins σ H { s with heap := h', toks := t' } := by
  have nit : ∀ b u, H b = some u → b ≠ it := fun b u e z => by rw [z, hn] at e; cases e
  refine I.step (g' := s.gens) (d' := s.drawn) (ch := [it]) (fun b hb => ?_) (fun b o _ _ hc e _ => k b o (fun z => hc (by simp [z])) e) (fun b o _ _ hc e _ => ⟨o.slots, k b o (fun z => hc (by simp [z])) e⟩) (fun _ _ _ _ n => n)
    (fun b o hc e => ⟨o, k b o (fun z => hc (by simp [z])) e⟩) (fun _ _ e => e) (fun _ _ _ e => e) (fun b ps e => ⟨#[], by rw [e]; simp⟩) (fun m hm => ?_) (fun b u e => ?_) I.bare
  · have e : b = it := by simpa using hb
    subst e
    exact ⟨h1, hL, h2, h3⟩
  · obtain ⟨o, es, ep, ho, r⟩ := hm
    exact ⟨o, es, ep, k _ o (Ne.symm hL) ho, r⟩
  · refine (I.hok b u e).stay (fun c v hc q => k c v ?_ q) (fun _ q => q) fun _ _ q => q
    rcases hc with z | z
    · rw [z]; exact nit b u e
    · exact nit c _ z
theorem Inv.tok (I : Inv X pins σ H s) (t : Nat) : Inv X pins σ H { s with toks := t } := I.un (h' := s.heap) (t' := t) Un.refl I.hok
/-- all objects kept -/
theorem Inv.kept {t' : Nat} (I : Inv X pins σ H s) (k : ∀ b u, s.heap.get? b = some u → h'.get? b = some u) : Inv X pins σ H { s with heap := h', toks := t' } := I.un (Un.kept k) (I.hok.kept k)
/-- a new object laid and tracked -/
theorem Inv.laid {a : Addr} {o : HO} {t' : Nat} (I : Inv X pins σ H s) (k : ∀ b u, s.heap.get? b = some u → h'.get? b = some u) (hp : s.heap.objs.size ≤ a) (new : ObjOk X.prog X.w (upd H a o) h' a o) :
    Inv X pins σ (upd H a o) { s with heap := h', toks := t' } := I.un (Un.laid k hp (I.hok.fresh hp)) (I.hok.laid k hp new)
/-- an object written -/
theorem Inv.write {x e : Addr} {o : HO} {t' : Nat} (I : Inv X pins σ H s) (mu : Mut (H x)) (he : e = x ∨ H e = some (.own x)) (k : ∀ b u, b ≠ e → s.heap.get? b = some u → h'.get? b = some u) (heo : ∃ u, h'.get? e = some u)
    (new : ObjOk X.prog X.w (upd H x o) h' x o) : Inv X pins σ (upd H x o) { s with heap := h', toks := t' } := I.un (Un.write mu he k heo) (I.hok.write mu he k heo new)
/-- forgetting slots, pins -/
theorem Inv.weak {σ' : List (Option V)} (I : Inv X pins σ H s) (hl : σ'.length = σ.length) (w : ∀ (i : Nat) v, σ'[i]? = some (some v) → σ[i]? = some (some v)) : Inv X pins σ' H s :=
  ⟨I.ok, I.os, I.bare, I.base, let ⟨m, hn, hl'⟩ := I.loc; ⟨m, hn, fun i x v e1 e2 e3 => hl' i x v e1 (w i v e2) e3⟩, I.cell, I.free, I.freeC, I.pin, I.hok, hl.trans I.len⟩
theorem Inv.pins_of {pins' : List (Addr × Obj)} (I : Inv X pins σ H s) (h : ∀ p ∈ pins', s.heap.get? p.1 = some p.2 ∧ H p.1 = none ∧ p.1 ≠ X.env.locals ∧ p.1 ∉ X.fs ∧ ∀ v, p.2.data ≠ .cell v) : Inv X pins' σ H s :=
  ⟨I.ok, I.os, I.bare, I.base, I.loc, I.cell, I.free, I.freeC, fun p hp => (List.mem_append.mp hp).elim (fun z => I.pin p (List.mem_append_left _ z)) (h p), I.hok, I.len⟩

theorem nodup_ix {N : List Str} (hN : N.Nodup) {i j : Nat} {x : Str} (a : N[i]? = some x) (b : N[j]? = some x) : i = j := by
  obtain ⟨h1, e1⟩ := List.getElem?_eq_some_iff.mp a
  obtain ⟨h2, e2⟩ := List.getElem?_eq_some_iff.mp b
  exact (List.getElem_inj hN).mp (e1.trans e2.symm)

/-- a name is stored; what changed -/
theorem store_ok2 {M : Model} {A : Around} {E : Value → Shared → Prop} {i : Nat} {x : Str} {v : V} {u : Value} {Q : Unit → Shared → Prop} (I : Inv X pins σ H s) (hN : X.N.Nodup) (hi : X.N[i]? = some x) (hx : Loc X.env.scope x) (r : RelV v u)
    (h : ∀ s', Inv X pins (σ.set i (some v)) H s' → (∃ a, Heap.SameBut a s.heap s'.heap ∧ (a = X.env.locals ∨ X.env.cells.lookup x = some a)) → Q () s') (hf : X.fn x = true ∨ X.env.scope.names.lookup x = some .local := by first | exact .inl rfl | exact .inr rfl | assumption) : wpAny M A (storeName X.env x u) Q E s := by
  obtain ⟨m, hn, hl⟩ := id I.loc
  have hcls : (X.env.scope.kind == .class || (X.env.scope.kind == .module && X.env.locals != X.env.globals)) = false := by rw [I.ok.kind]; rfl
  have hiσ : i < σ.length := by rw [I.len]; exact (List.getElem?_eq_some_iff.mp hi).1
  have cne := I.cne
  have tracked : ∀ {a : Addr} {h' : Heap}, (∃ o, s.heap.get? a = some o ∧ H a = none) → Heap.SameBut a s.heap h' → HOk X.prog X.w H h' := fun {a h'} ha hs b ob e => by
    obtain ⟨_, _, hfree⟩ := ha
    refine (I.hok b ob e).stay (fun c w' hc q => (hs.2 c ?_).trans q) (fun _ q => q) fun _ _ q => q
    rintro rfl
    rcases hc with rfl | hc
    · rw [hfree] at e; cases e
    · rw [hfree] at hc; cases hc
  rcases hx with hk | hk
  · refine wpAny_storeName_local hk hn (fun h' hn' hs => ?_) hcls
    obtain ⟨oL, _, _, hoL, _⟩ := id hn
    refine h _ ⟨I.ok, I.os, I.bare, ⟨fun b o e n hb hx => ?_, fun b o e n hb hx => ?_, I.base.free, fun b o e hx => ?_, I.base.tups, I.base.frzs, I.base.tbls⟩, ⟨_, hn', fun j y v' e1 e2 e3 => ?_⟩, fun y c e => ?_, I.free, I.freeC, fun p hp => ?_, tracked ⟨oL, hoL, I.free⟩ hs, by simpa using I.len⟩ ⟨_, hs, .inl rfl⟩
    · exact (hs.2 b (Nat.ne_of_lt (Nat.lt_of_lt_of_le (Heap.lt_size e) I.ok.above))).trans (I.base.keep b o e n hb hx)
    · obtain ⟨sl, e1⟩ := I.base.slot b o e n hb hx
      exact ⟨sl, (hs.2 b (Nat.ne_of_lt (Nat.lt_of_lt_of_le (Heap.lt_size e) I.ok.above))).trans e1⟩
    · obtain ⟨o', e1⟩ := I.base.there b o e hx
      exact ⟨o', (hs.2 b (Nat.ne_of_lt (Nat.lt_of_lt_of_le (Heap.lt_size e) I.ok.above))).trans e1⟩
    · by_cases hj : j = i
      · subst hj
        rw [hi] at e1; cases e1
        rw [List.getElem?_set_self hiσ] at e2
        cases e2
        exact ⟨u, r, .inl ⟨hk, by simp⟩⟩
      · rw [List.getElem?_set_ne (Ne.symm hj)] at e2
        obtain ⟨u', r', q⟩ := hl j y v' e1 e2 e3
        refine ⟨u', r', ?_⟩
        rcases q with ⟨k, e⟩ | ⟨k, c, e, z⟩
        · refine .inl ⟨k, ?_⟩
          have : y ≠ x := fun e => hj (nodup_ix hN e1 (e ▸ hi))
          simp [this, e]
        · exact .inr ⟨k, c, e, z.sameBut hs (cne y c e)⟩
    · obtain ⟨w', z⟩ := I.cell y c e
      exact ⟨w', z.sameBut hs (cne y c e)⟩
    · obtain ⟨e, n, ne, nf, d⟩ := I.pin p hp
      exact ⟨(hs.2 p.1 ne).trans e, n, ne, nf, d⟩
  · have hfn : X.fn x = true := by
      rcases hf with z | z
      · exact z
      · rw [z] at hk; cases hk
    obtain ⟨c, hc⟩ := I.ok.has x (.inl hk)
    obtain ⟨w', z⟩ := I.cell x c hc
    refine wpAny_storeName_cell I.ok.kind hk hc z (fun h' hc' hs => ?_)
    obtain ⟨oc, hoc, hocd⟩ := id z
    refine h { s with heap := h' } ⟨I.ok, I.os, I.bare, ⟨fun b o e n hb hx => ?_, fun b o e n hb hx => ?_, I.base.free, fun b o e hx => ?_, I.base.tups, I.base.frzs, I.base.tbls⟩, ⟨m, hn.sameBut hs (Ne.symm (cne x c hc)), fun j y v' e1 e2 e3 => ?_⟩, fun y c' e => ?_, I.free, I.freeC, fun p hp => ?_, tracked ⟨oc, hoc, I.freeC x c hc⟩ hs, by simpa using I.len⟩ ⟨c, hs, .inr hc⟩
    · exact (hs.2 b (Nat.ne_of_lt (Nat.lt_of_lt_of_le (Heap.lt_size e) (I.ok.cab x c hfn hc)))).trans (I.base.keep b o e n hb hx)
    · obtain ⟨sl, e1⟩ := I.base.slot b o e n hb hx
      exact ⟨sl, (hs.2 b (Nat.ne_of_lt (Nat.lt_of_lt_of_le (Heap.lt_size e) (I.ok.cab x c hfn hc)))).trans e1⟩
    · obtain ⟨o', e1⟩ := I.base.there b o e hx
      exact ⟨o', (hs.2 b (Nat.ne_of_lt (Nat.lt_of_lt_of_le (Heap.lt_size e) (I.ok.cab x c hfn hc)))).trans e1⟩
    · by_cases hj : j = i
      · subst hj
        rw [hi] at e1; cases e1
        rw [List.getElem?_set_self hiσ] at e2
        cases e2
        exact ⟨u, r, .inr ⟨.inl hk, c, hc, hc'⟩⟩
      · rw [List.getElem?_set_ne (Ne.symm hj)] at e2
        obtain ⟨u', r', q⟩ := hl j y v' e1 e2 e3
        refine ⟨u', r', ?_⟩
        rcases q with q | ⟨k, c', e, z'⟩
        · exact .inl q
        · refine .inr ⟨k, c', e, z'.sameBut hs ?_⟩
          rintro rfl
          exact hj (nodup_ix hN e1 (I.ok.inj _ _ _ e hc ▸ hi))
    · by_cases hcc : c' = c
      · subst hcc; exact ⟨_, hc'⟩
      · obtain ⟨w2, z2⟩ := I.cell y c' e
        exact ⟨w2, z2.sameBut hs hcc⟩
    · obtain ⟨e, n, ne, nf, d⟩ := I.pin p hp
      refine ⟨(hs.2 p.1 ?_).trans e, n, ne, nf, d⟩
      intro q
      rw [q, hoc] at e
      have q' : oc = p.2 := Option.some.inj e
      exact d w' (by rw [← q']; exact hocd)
theorem store_ok {M : Model} {A : Around} {E : Value → Shared → Prop} {i : Nat} {x : Str} {v : V} {u : Value} {Q : Unit → Shared → Prop} (I : Inv X pins σ H s) (hN : X.N.Nodup) (hi : X.N[i]? = some x) (hx : Loc X.env.scope x) (r : RelV v u)
    (h : ∀ s', Inv X pins (σ.set i (some v)) H s' → Q () s') (hf : X.fn x = true ∨ X.env.scope.names.lookup x = some .local := by first | exact .inl rfl | exact .inr rfl | assumption) : wpAny M A (storeName X.env x u) Q E s :=
  store_ok2 I hN hi hx r (fun s' I' _ => h s' I') hf
/-- behind a call or a block, the state as it is -/
theorem Inv.call' {s' : Shared} {ch : List Addr} (I : Inv X pins σ H s) (ho : s'.os = s.os) (u : Un (frs X.stack) ch H H' s.heap s'.heap) (hok : HOk X.prog X.w H' s'.heap) (hg : AllBare s'.gens)
    (hch : ∀ b ∈ ch, (b ∈ X.ex ∨ X.s_0.heap.objs.size ≤ b) ∧ b ≠ X.env.locals ∧ (∀ x c, X.env.cells.lookup x = some c → c ≠ b) ∧ ∀ p ∈ X.pn ++ pins, p.1 ≠ b) : Inv X pins σ H' s' := by
  obtain ⟨h', g', d', t', o'⟩ := s'
  have e : o' = s.os := ho
  subst e
  exact I.call (g' := g') (t' := t') (d' := d') u hok hg hch
end

/-! ### the judgements -/
/-- an exception: its class, its own dict's address (where it has one), the abstract heap behind it -/
abbrev XK := Value → Option Addr → Hp → Prop
abbrev St := List (Option V)
abbrev VK := V → Hp → Prop
/-- an expression's reading; a test's; an argument list's -/
abbrev TE := St → Hp → VK → Prop
abbrev TT := St → Hp → (Bool → Hp → Prop) → Prop
abbrev TA := St → Hp → (List V → Hp → Prop) → Prop
/-- what is wanted behind a statement -/
structure Ends where
  nx : St → Hp → Prop
  rt : VK
  bk : St → Hp → Prop := fun _ _ => False
  ct : St → Hp → Prop := fun _ _ => False
abbrev TS := Ends → St → Hp → Prop

def EP (X : Cx) (pins : List (Addr × Obj)) (σ : St) (Q : VK) (u : Value) (s' : Shared) : Prop := ∃ v H', Inv X pins σ H' s' ∧ RelV v u ∧ Q v H'
def TP (X : Cx) (pins : List (Addr × Obj)) (σ : St) (Q : Bool → Hp → Prop) (b : Bool) (s' : Shared) : Prop := ∃ H', Inv X pins σ H' s' ∧ Q b H'
def AP (X : Cx) (pins : List (Addr × Obj)) (σ : St) (Q : List V → Hp → Prop) (us : List Value) (s' : Shared) : Prop := ∃ vs H', Inv X pins σ H' s' ∧ Vals vs us ∧ Q vs H'
def SP (X : Cx) (pins : List (Addr × Obj)) (D : Ends) (f : Flow) (s' : Shared) : Prop :=
  match f with
  | .next => ∃ σ' H', Inv X pins σ' H' s' ∧ D.nx σ' H'
  | .brk => ∃ σ' H', Inv X pins σ' H' s' ∧ D.bk σ' H'
  | .cont => ∃ σ' H', Inv X pins σ' H' s' ∧ D.ct σ' H'
  | .ret u => ∃ v σ' H', Inv X pins σ' H' s' ∧ RelV v u ∧ D.rt v H'

def PE (X : Cx) (e : Expr) (t : TE) : Prop :=
  ∀ (pins : List (Addr × Obj)) (s : Shared) (σ : St) (H : Hp) (Q : VK), Inv X pins σ H s → t σ H Q → wpAny (model X.prog X.w) X.A (eval e X.env) (EP X pins σ Q) X.xe s
def PT (X : Cx) (e : Expr) (t : TT) : Prop :=
  ∀ (pins : List (Addr × Obj)) (s : Shared) (σ : St) (H : Hp) (Q : Bool → Hp → Prop), Inv X pins σ H s → t σ H Q → wpAny (model X.prog X.w) X.A (isTrue e X.env (eval e X.env)) (TP X pins σ Q) X.xe s
/-- a test whatever its 'whole' is (and, or) -/
def PW (X : Cx) (e : Expr) (t : TT) : Prop :=
  ∀ (whole : Sem Value) (pins : List (Addr × Obj)) (s : Shared) (σ : St) (H : Hp) (Q : Bool → Hp → Prop), Inv X pins σ H s → t σ H Q → wpAny (model X.prog X.w) X.A (isTrue e X.env whole) (TP X pins σ Q) X.xe s
theorem PW.pt {X : Cx} {e : Expr} {t : TT} (h : PW X e t) : PT X e t := h _
/-- an argument list (no star), from the left -/
def PA (X : Cx) (es : List Expr) (t : TA) : Prop :=
  ∀ (pos : Pos) (pins : List (Addr × Obj)) (s : Shared) (σ : St) (H : Hp) (Q : List V → Hp → Prop), Inv X pins σ H s → t σ H Q → wpAny (model X.prog X.w) X.A (spliced (backTo pos (starEach es X.env))) (AP X pins σ Q) X.xe s
def PS (X : Cx) (st : Stmt) (t : TS) : Prop :=
  ∀ (pins : List (Addr × Obj)) (s : Shared) (σ : St) (H : Hp) (D : Ends), Inv X pins σ H s → t D σ H → wpAny (model X.prog X.w) X.A (exec st X.env) (SP X pins D) X.xe s
def PSs (X : Cx) (st : List Stmt) (t : TS) : Prop :=
  ∀ (pins : List (Addr × Obj)) (s : Shared) (σ : St) (H : Hp) (D : Ends), Inv X pins σ H s → t D σ H → wpAny (model X.prog X.w) X.A (execs st X.env) (SP X pins D) X.xe s
/-- weaken the end -/
theorem thn {α : Type} {t : Sem α} {Q Q' : α → Shared → Prop} {M : Model} {A : Around} {E : Value → Shared → Prop} {s : Shared} (h : wpAny M A t Q E s) (hQ : ∀ a s, Q a s → Q' a s) : wpAny M A t Q' E s := wpAny_mono h hQ fun _ _ x => x
end L2

namespace L2
open PySem PySem.Spec PyProof.Rows
section
variable {X : Cx}


/-! ### names and constants -/
inductive VarI (i : Nat) (σ : List (Option V)) (H : Hp) (Q : VK) : Prop
  | mk (v : V) : σ[i]? = some (some v) → Q v H → VarI i σ H Q
def tVar (i : Nat) : TE := fun σ H Q => VarI i σ H Q
def tC (v : V) : TE := fun _ H Q => Q v H
theorem pe_var {i : Nat} {x : Str} {pos : Pos} (hN : X.N[i]? = some x) (hv : Vis X.env.scope x) (hd : (x == ("__debug__" : Str)) = false := by decide) (hcd : (x == ("__classdict__" : Str)) = false := by decide) : PE X (.Name x pos) (tVar i) := by
  intro pins s σ H Q I h
  obtain ⟨v, e, h⟩ := h
  obtain ⟨m, hn, hl⟩ := I.loc
  obtain ⟨u, r, l⟩ := hl i x v hN e hv
  have fin : EP X pins σ Q u s := ⟨v, H, I, r, h⟩
  rcases l with ⟨hk, hm⟩ | ⟨hk, c, hc, hcell⟩
  · exact wpAny_Name (wpAny_loadName_local I.ok.kind hk hn hm fin) hd
  · rcases hk with hk | hk
    · exact wpAny_Name (wpAny_loadName_cell I.ok.kind hk hc hcell fin) hd
    · exact wpAny_Name (wpAny_loadName_free I.ok.kind hk hc hcell fin hcd) hd
theorem pe_int {i j pos} : PE X (.Constant (.int i) j pos) (tC (.int i)) := fun _ _ _ H _ I h => wpAny_Constant_int ⟨.int i, H, I.tok _, ⟨_, rfl⟩, h⟩
theorem pe_bl {b j pos} : PE X (.Constant (.bool b) j pos) (tC (.bl b)) := fun _ _ _ H _ I h => Constant_bool ⟨.bl b, H, I, rfl, h⟩
theorem pe_non {j pos} : PE X (.Constant .none j pos) (tC .non) := fun _ _ _ H _ I h => Constant_none ⟨.non, H, I, rfl, h⟩

/-- a global name of the def -/
def Gl (X : Cx) (x : Str) : Prop := X.env.kindOf x = some .globalImplicit
theorem ld_glob {E : Value → Shared → Prop} {pins : List (Addr × Obj)} {s : Shared} {σ : St} {H : Hp} {x : Str} {u : Value} {pos : Pos} {Q : Value → Shared → Prop} (I : Inv X pins σ H s) (hg : Gl X x) (hm : X.mg x = some u) (h : Q u s)
    (hd : (x == ("__debug__" : Str)) = false := by decide) : wpAny (model X.prog X.w) X.A (eval (.Name x pos) X.env) Q E s :=
  Calls.Name_function_global I.ok.kind hg (Calls.loadGlobal_global (by rw [I.ok.glob]; exact I.mod.glob.keeps I.bk) hm h) hd
theorem ld_blt {E : Value → Shared → Prop} {pins : List (Addr × Obj)} {s : Shared} {σ : St} {H : Hp} {x : Str} {u : Value} {pos : Pos} {Q : Value → Shared → Prop} (I : Inv X pins σ H s) (hg : Gl X x) (hm : X.mg x = none) (hv : bootBuiltins x = some u) (h : Q u s)
    (hn : x ≠ "__name__" := by decide) (hd : (x == ("__debug__" : Str)) = false := by decide) : wpAny (model X.prog X.w) X.A (eval (.Name x pos) X.env) Q E s := by
  obtain ⟨mb, h1, h2⟩ := I.mod.blt
  exact Calls.Name_function_global I.ok.kind hg (Calls.loadGlobal_builtin (by rw [I.ok.glob]; exact I.mod.glob.keeps I.bk) hm (by rw [I.ok.blt]; exact h1.keeps I.bk) ((h2 x hn).trans hv) h) hd
/-- a module's constant, a class, a function, as a value -/
theorem pe_glob {x : Str} {v : V} {u : Value} {pos : Pos} (hg : Gl X x) (hm : X.mg x = some u) (r : RelV v u) (hd : (x == ("__debug__" : Str)) = false := by decide) : PE X (.Name x pos) (tC v) :=
  fun _ _ _ H _ I h => ld_glob I hg hm ⟨v, H, I, r, h⟩ hd

/-! ### arithmetic -/
variable {a b : Expr} {ta tb : TE} {pos : Pos}

/-! ### comparisons -/
def PC (X : Cx) (op : CmpOp) (a b : Expr) (t : TE) : Prop :=
  ∀ (pins : List (Addr × Obj)) (s : Shared) (σ : St) (H : Hp) (Q : VK), Inv X pins σ H s → t σ H Q →
    wpAny (model X.prog X.w) X.A (eval a X.env) (fun v s₁ => wpAny (model X.prog X.w) X.A (eval b X.env) (fun u s₂ => wpAny (model X.prog X.w) X.A (compareOp op v u) (EP X pins σ Q) X.xe s₂) X.xe s₁) X.xe s
theorem nobehind (b : Expr) {op : CmpOp} (h : op ≠ .In) (h2 : op ≠ .NotIn) : behindInMarks op b = false := by
  have e1 : (op == CmpOp.In) = false := by cases op <;> first | rfl | exact absurd rfl h
  have e2 : (op == CmpOp.NotIn) = false := by cases op <;> first | rfl | exact absurd rfl h2
  cases b <;> simp [behindInMarks, e1, e2]
/-- is None -/
def tIsN (ta : TE) : TE := fun σ H Q => ta σ H fun x H1 => Q (.bl (decide (x = .non))) H1
def tNotN (ta : TE) : TE := fun σ H Q => ta σ H fun x H1 => Q (.bl (!decide (x = .non))) H1
theorem RelV.none_iff {x : V} {v : Value} (r : RelV x v) : (v == Value.none) = decide (x = .non) := by
  cases x with
  | non => cases r; rfl
  | bl _ => cases r; rfl
  | int _ => obtain ⟨t, rfl⟩ := r; rfl
  | str _ => obtain ⟨t, rfl⟩ := r; rfl
  | byt _ => obtain ⟨t, rfl⟩ := r; rfl
  | flt _ => obtain ⟨t, rfl⟩ := r; rfl
  | ref _ => cases r; rfl
  | ty _ => cases r; rfl
theorem pc_isN {j pos'} (ha : PE X a ta) : PC X .Is a (.Constant .none j pos') (tIsN ta) := by
  intro pins s σ H Q I h
  refine thn (ha pins s σ H _ I h) fun v s1 ⟨x, H1, I1, r1, q1⟩ => ?_
  exact Constant_none (is_none_gen ⟨.bl _, H1, I1, by rw [r1.none_iff]; rfl, q1⟩)
theorem pc_notN {j pos'} (ha : PE X a ta) : PC X .IsNot a (.Constant .none j pos') (tNotN ta) := by
  intro pins s σ H Q I h
  refine thn (ha pins s σ H _ I h) fun v s1 ⟨x, H1, I1, r1, q1⟩ => ?_
  exact Constant_none (isnot_none_gen ⟨.bl _, H1, I1, by rw [r1.none_iff]; rfl, q1⟩)
/-- a comparison as a value, as a test -/
def tB (t : TE) : TT := fun σ H Q => t σ H fun x H1 => ∃ c, x = .bl c ∧ Q c H1
theorem pe_cmp {op : CmpOp} {t : TE} (h : PC X op a b t) (h1 : behindInMarks op b = false := by first | exact nobehind _ (by decide) (by decide) | rfl) : PE X (.Compare a [op] [b] pos) t := fun pins s σ H Q I hw => wpAny_Compare1 (h pins s σ H Q I hw) h1
theorem pt_cmp {op : CmpOp} {t : TE} (h : PC X op a b t) (h1 : behindInMarks op b = false := by first | exact nobehind _ (by decide) (by decide) | rfl) : PT X (.Compare a [op] [b] pos) (tB t) := by
  intro pins s σ H Q I hw
  refine wpAny_isTrue_Compare1 (thn (h pins s σ H _ I hw) fun v s1 h1 => thn h1 fun u s2 h2 => thn h2 fun c s3 ⟨x, H1, I1, r1, q1⟩ => ?_) h1
  obtain ⟨d, rfl, q⟩ := q1
  cases r1
  exact wpAny_truthy_bool ⟨H1, I1, q⟩

/-! ### and, or, not -/
variable {tA tB' : TT} {rest : List Expr}
def tAnd (t u : TT) : TT := fun σ H Q => t σ H fun c H1 => if c = true then u σ H1 Q else Q false H1
def tOr (t u : TT) : TT := fun σ H Q => t σ H fun c H1 => if c = true then Q true H1 else u σ H1 Q
def tNot (t : TT) : TT := fun σ H Q => t σ H fun c H1 => Q (!c) H1
theorem pw_and1 (ha : PT X a tA) : PW X (.BoolOp .And [a] pos) tA := by
  intro wh pins s σ H Q I h
  refine isTrue_and (thn (ha pins s σ H Q I h) fun c s1 e => ?_)
  cases c with
  | true => exact isTrue_and_nil e
  | false => exact e
theorem pw_or1 (ha : PT X a tA) : PW X (.BoolOp .Or [a] pos) tA := by
  intro wh pins s σ H Q I h
  refine isTrue_or (thn (ha pins s σ H Q I h) fun c s1 e => ?_)
  cases c with
  | false => exact isTrue_or_nil e
  | true => exact e
theorem pw_and (ha : PT X a tA) (hb : PW X (.BoolOp .And (b :: rest) pos) tB') : PW X (.BoolOp .And (a :: b :: rest) pos) (tAnd tA tB') := by
  intro wh pins s σ H Q I h
  refine isTrue_and (thn (ha pins s σ H _ I h) fun c s1 ⟨H1, I1, q1⟩ => ?_)
  cases c with
  | true => exact hb wh pins s1 σ H1 Q I1 q1
  | false => exact ⟨H1, I1, q1⟩
theorem pw_or (ha : PT X a tA) (hb : PW X (.BoolOp .Or (b :: rest) pos) tB') : PW X (.BoolOp .Or (a :: b :: rest) pos) (tOr tA tB') := by
  intro wh pins s σ H Q I h
  refine isTrue_or (thn (ha pins s σ H _ I h) fun c s1 ⟨H1, I1, q1⟩ => ?_)
  cases c with
  | true => exact ⟨H1, I1, q1⟩
  | false => exact hb wh pins s1 σ H1 Q I1 q1
theorem pt_not (ha : PT X a tA) : PT X (.UnaryOp .Not a pos) (tNot tA) := by
  intro pins s σ H Q I h
  exact isTrue_not (ha pins s σ H (fun c H1 => Q (!c) H1) I h)
/-- .. as values (bools) -/
def tAndV (ta tb : TE) : TE := fun σ H Q => ta σ H fun x H1 => ∃ c, x = .bl c ∧ if c = true then tb σ H1 Q else Q (.bl false) H1
def tOrV (ta tb : TE) : TE := fun σ H Q => ta σ H fun x H1 => ∃ c, x = .bl c ∧ if c = true then Q (.bl true) H1 else tb σ H1 Q
theorem pe_one {op} {t : TE} (h : PE X a t) : PE X (.BoolOp op [a] pos) t := fun pins s σ H Q I hw => BoolOp_one (h pins s σ H Q I hw)
theorem pe_and (ha : PE X a ta) (hb : PE X (.BoolOp .And (b :: rest) pos) tb) : PE X (.BoolOp .And (a :: b :: rest) pos) (tAndV ta tb) := by
  intro pins s σ H Q I h
  refine BoolOp_and (thn (ha pins s σ H _ I h) fun v s1 ⟨x, H1, I1, r1, q1⟩ => ?_)
  obtain ⟨c, rfl, q1⟩ := q1
  cases r1
  refine wpAny_truthy_bool ?_
  cases c with
  | true => exact hb pins s1 σ H1 Q I1 q1
  | false => exact ⟨.bl false, H1, I1, rfl, q1⟩
theorem pe_or (ha : PE X a ta) (hb : PE X (.BoolOp .Or (b :: rest) pos) tb) : PE X (.BoolOp .Or (a :: b :: rest) pos) (tOrV ta tb) := by
  intro pins s σ H Q I h
  refine BoolOp_or (thn (ha pins s σ H _ I h) fun v s1 ⟨x, H1, I1, r1, q1⟩ => ?_)
  obtain ⟨c, rfl, q1⟩ := q1
  cases r1
  refine wpAny_truthy_bool ?_
  cases c with
  | false => exact hb pins s1 σ H1 Q I1 q1
  | true => exact ⟨.bl true, H1, I1, rfl, q1⟩
/-- a if t else b -/
def tIf (t : TT) (ta tb : TE) : TE := fun σ H Q => t σ H fun c H1 => if c = true then ta σ H1 Q else tb σ H1 Q
theorem pe_ifExp {c : Expr} (hc : PT X c tA) (ha : PE X a ta) (hb : PE X b tb) : PE X (.IfExp c a b pos) (tIf tA ta tb) := by
  intro pins s σ H Q I h
  refine wpAny_IfExp (thn (hc pins s σ H _ I h) fun d s1 ⟨H1, I1, q1⟩ => ?_)
  cases d with
  | true => exact ha pins s1 σ H1 Q I1 q1
  | false => exact hb pins s1 σ H1 Q I1 q1
end
end L2

namespace L2
open PySem PySem.Spec PyProof.Rows

/-! ### a list, a tuple that is read: tracked, frozen, or an object of the module -/
def SqL (K : PySem.W.Frag) (H : Hp) (a : Addr) (xs : List V) : Prop :=
  Rd H a (.lst xs) ∨
    ∃ (o : Obj) (its : Array Value) (n : Nat), K.lookup a = some o ∧ o.cls = .type "list" ∧ o.dict = none ∧ o.data = .seq its n ∧ its.size ≤ sizeLine ∧ Vals xs its.toList
def SqT (K : PySem.W.Frag) (H : Hp) (a : Addr) (xs : List V) : Prop :=
  Rd H a (.tup xs) ∨
    ∃ (o : Obj) (its : Array Value) (n : Nat), K.lookup a = some o ∧ o.cls = .type "tuple" ∧ o.data = .seq its n ∧ its.size ≤ sizeLine ∧ Vals xs its.toList
def absV : Value → Option V
  | .none => some .non
  | .bool b => some (.bl b)
  | .int i _ => some (.int i)
  | .str x _ => some (.str x)
  | .bytes b _ => some (.byt b)
  | .float b _ => some (.flt b)
  | .ref a => some (.ref a)
  | .type n => some (.ty n)
  | _ => none
theorem RelV.abs {x : V} {u : Value} (r : RelV x u) : absV u = some x := by
  cases x with
  | non => cases r; rfl
  | bl _ => cases r; rfl
  | int _ => obtain ⟨t, rfl⟩ := r; rfl
  | str _ => obtain ⟨t, rfl⟩ := r; rfl
  | byt _ => obtain ⟨t, rfl⟩ := r; rfl
  | flt _ => obtain ⟨t, rfl⟩ := r; rfl
  | ref _ => cases r; rfl
  | ty _ => cases r; rfl
theorem RelV.inj {x y : V} {u : Value} (r : RelV x u) (q : RelV y u) : x = y := Option.some.inj (r.abs.symm.trans q.abs)
theorem Vals.inj : ∀ {xs ys : List V} {us : List Value}, Vals xs us → Vals ys us → xs = ys
  | _, _, _, .nil, .nil => rfl
  | _, _, _, .cons r t, .cons r' t' => by rw [r.inj r', Vals.inj t t']
section
variable {X : Cx} {pins : List (Addr × Obj)} {σ : St} {H : Hp} {s : Shared} {a : Addr} {xs ys : List V}
theorem SqL.of {K : PySem.W.Frag} (h : H a = some (.lst xs)) : SqL K H a xs := .inl (.inl h)
theorem SqT.of {K : PySem.W.Frag} (h : H a = some (.tup xs)) : SqT K H a xs := .inl (.inl h)
theorem Inv.list (I : Inv X pins σ H s) (h : SqL X.K H a xs) : ∃ its : List Value, Vals xs its ∧ PlainL s.heap a its.toArray ∧ xs.length ≤ sizeLine := by
  rcases h with h | ⟨o, its, n, hk, hc, hd, hs, hz, r⟩
  · obtain ⟨z, its, n, r, e⟩ := h.ok I.hok
    exact ⟨its, r, ⟨_, n, e, rfl, rfl, rfl⟩, z⟩
  · refine ⟨its.toList, r, ⟨o, n, I.kIn a o hk, hc, hd, by simpa using hs⟩, ?_⟩
    have e := r.length
    simp only [Array.length_toList] at e
    lia
theorem Inv.tuple (I : Inv X pins σ H s) (h : SqT X.K H a xs) : ∃ its : List Value, Vals xs its ∧ IsTup s.heap a its.toArray ∧ xs.length ≤ sizeLine := by
  rcases h with h | ⟨o, its, n, hk, hc, hs, hz, r⟩
  · obtain ⟨z, its, r, p⟩ := h.ok I.hok
    exact ⟨its, r, p, z⟩
  · refine ⟨its.toList, r, ⟨o, I.kIn a o hk, hc, n, by simpa using hs⟩, ?_⟩
    have e := r.length
    simp only [Array.length_toList] at e
    lia
theorem Inv.list_inj (I : Inv X pins σ H s) (h : SqL X.K H a xs) (h' : SqL X.K H a ys) : xs = ys := by
  obtain ⟨its, r, ⟨o, n, e, _, _, d⟩, _⟩ := I.list h
  obtain ⟨its', r', ⟨o', n', e', _, _, d'⟩, _⟩ := I.list h'
  rw [e] at e'; cases e'
  rw [d] at d'
  injection d' with d1 _
  have : its = its' := by simpa using congrArg Array.toList d1
  subst this
  exact r.inj r'
end

/-! ### another wish about exceptions -/
abbrev Cx.wish (X : Cx) (E : Value → Shared → Prop) : Cx := { X with xe := E }
/-- no exception leaves -/
abbrev Cx.nox (X : Cx) : Cx := X.wish fun _ _ => False
theorem Cx.Ok.wish {X : Cx} (ok : X.Ok) (E : Value → Shared → Prop) : (X.wish E).Ok :=
  ⟨ok.mod, ok.kind, ok.glob, ok.blt, ok.above, ok.inj, ok.has, ok.cab, ok.hd, ok.frames, ok.stk, ok.exf, ok.bs, ok.bsz, ok.noex, ok.exfs, ok.funs, ok.frf⟩
theorem Cx.Ok.unwish {X : Cx} {E : Value → Shared → Prop} (ok : (X.wish E).Ok) : X.Ok :=
  ⟨ok.mod, ok.kind, ok.glob, ok.blt, ok.above, ok.inj, ok.has, ok.cab, ok.hd, ok.frames, ok.stk, ok.exf, ok.bs, ok.bsz, ok.noex, ok.exfs, ok.funs, ok.frf⟩
section
variable {X : Cx} {pins : List (Addr × Obj)} {σ : St} {H : Hp} {s : Shared} {E : Value → Shared → Prop}
theorem Inv.wish (I : Inv X pins σ H s) (E : Value → Shared → Prop) : Inv (X.wish E) pins σ H s := ⟨I.ok.wish E, I.os, I.bare, I.base, I.loc, I.cell, I.free, I.freeC, I.pin, I.hok, I.len⟩
theorem Inv.unwish (I : Inv (X.wish E) pins σ H s) : Inv X pins σ H s := ⟨I.ok.unwish, I.os, I.bare, I.base, I.loc, I.cell, I.free, I.freeC, I.pin, I.hok, I.len⟩
theorem SP.unwish {D : Ends} {f : Flow} {s' : Shared} (h : SP (X.wish E) pins D f s') : SP X pins D f s' := by
  cases f with
  | next => obtain ⟨σ', H', I, q⟩ := h; exact ⟨σ', H', I.unwish, q⟩
  | brk => obtain ⟨σ', H', I, q⟩ := h; exact ⟨σ', H', I.unwish, q⟩
  | cont => obtain ⟨σ', H', I, q⟩ := h; exact ⟨σ', H', I.unwish, q⟩
  | ret u => obtain ⟨v, σ', H', I, r, q⟩ := h; exact ⟨v, σ', H', I.unwish, r, q⟩
theorem PSs.nox {st : List Stmt} {t : TS} (h : PSs X.nox st t) : PSs X st t := fun pins s σ H D I hw =>
  wpAny_mono (h pins s σ H D (I.wish _) hw) (fun _ _ q => q.unwish) fun _ _ z => False.elim z
end

/-! ### blocks and small statements -/
section
variable {X : Cx} {st : Stmt} {rest : List Stmt} {t u : TS} {e : Expr} {te : TE} {pos : Pos}
def tNext : TS := fun D σ H => D.nx σ H
def tSeq (t u : TS) : TS := fun D σ H => t { D with nx := u D } σ H
theorem pss_nil : PSs X [] tNext := fun _ _ σ H _ I h => wpAny_execs_nil ⟨σ, H, I, h⟩
theorem pss_cons (h1 : PS X st t) (h2 : PSs X rest u) : PSs X (st :: rest) (tSeq t u) := by
  intro pins s σ H D I h
  refine wpAny_execs_cons (thn (h1 pins s σ H { D with nx := u D } I h) fun f s1 q => ?_)
  cases f with
  | next =>
    obtain ⟨σ', H', I', q⟩ := q
    exact h2 pins s1 σ' H' D I' q
  | ret v => exact q
  | brk => exact q
  | cont => exact q
theorem pss_one (h1 : PS X st t) : PSs X [st] t := by
  intro pins s σ H D I h
  refine wpAny_execs_cons (thn (h1 pins s σ H D I h) fun f s1 q => ?_)
  cases f with
  | next => exact wpAny_execs_nil q
  | ret v => exact q
  | brk => exact q
  | cont => exact q
def tCont : TS := fun D σ H => D.ct σ H
theorem ps_continue : PS X (.Continue pos) tCont := fun _ _ σ H _ I h => wpAny_Continue ⟨σ, H, I, h⟩
/-- in a def's body nothing is shown -/
theorem Inv.quiet {pins : List (Addr × Obj)} {σ : St} {H : Hp} {s : Shared} (I : Inv X pins σ H s) : interactive X.env = false := by simp [interactive, I.ok.kind]
/-- an expression whose value is dropped -/
def tDrop (te : TE) : TS := fun D σ H => te σ H fun _ H1 => D.nx σ H1
theorem ps_expr (he : PE X e te) (hs : swapsWith e none pos.line X.env = pure false := by rfl) : PS X (.Expr e pos) (tDrop te) := by
  intro pins s σ H D I h
  exact wpAny_Expr_any (thn (he pins s σ H _ I h) fun v s1 ⟨x, H1, I1, r1, q1⟩ => ⟨σ, H1, I1, q1⟩) I.quiet hs
def tRet (te : TE) : TS := fun D σ H => te σ H D.rt
theorem ps_ret (he : PE X e te) : PS X (.Return (some e) pos) (tRet te) := by
  intro pins s σ H D I h
  exact wpAny_Return_some (thn (he pins s σ H _ I h) fun v s1 ⟨x, H1, I1, r1, q1⟩ => ⟨x, σ, H1, I1, r1, q1⟩)
def tIfS (c : TT) (t u : TS) : TS := fun D σ H => c σ H fun b H1 => if b = true then t D σ H1 else u D σ H1
theorem ps_if {c : Expr} {a b : List Stmt} {tc : TT} (hc : PT X c tc) (ha : PSs X a t) (hb : PSs X b u) : PS X (.If c a b pos) (tIfS tc t u) := by
  intro pins s σ H D I h
  refine wpAny_If (thn (hc pins s σ H _ I h) fun d s1 ⟨H1, I1, q1⟩ => ?_)
  cases d with
  | true => exact ha pins s1 σ H1 D I1 q1
  | false => exact hb pins s1 σ H1 D I1 q1
/-- code that the proof never comes to -/
def tNever : TS := fun _ _ _ => False
theorem pss_never {sts : List Stmt} : PSs X sts tNever := fun _ _ _ _ _ _ h => h.elim
end

/-! ### targets -/
abbrev TG := V → St → Hp → (St → Hp → Prop) → Prop
abbrev TGs := List V → St → Hp → (St → Hp → Prop) → Prop
def PG (X : Cx) (target : Expr) (t : TG) : Prop :=
  ∀ (pins : List (Addr × Obj)) (s : Shared) (σ : St) (H : Hp) (v : V) (u : Value) (Q : St → Hp → Prop), Inv X pins σ H s → RelV v u → t v σ H Q →
    wpAny (model X.prog X.w) X.A (assign target X.env u) (fun _ s' => ∃ σ' H', Inv X pins σ' H' s' ∧ Q σ' H') X.xe s
/-- several targets, one after another -/
def PGs (X : Cx) (ts : List Expr) (t : TGs) : Prop :=
  ∀ (pins : List (Addr × Obj)) (s : Shared) (σ : St) (H : Hp) (vs : List V) (us : List Value) (Q : St → Hp → Prop), Inv X pins σ H s → Vals vs us → t vs σ H Q →
    wpAny (model X.prog X.w) X.A (assignInOrder ((assignEach ts X.env).map (·.2)) us) (fun _ s' => ∃ σ' H', Inv X pins σ' H' s' ∧ Q σ' H') X.xe s
/-- a op= b, by values -/
abbrev TIp := V → V → Hp → VK → Prop
def PIp (X : Cx) (op : Operator) (t : TIp) : Prop :=
  ∀ (pins : List (Addr × Obj)) (s : Shared) (σ : St) (H : Hp) (x y : V) (v u : Value) (Q : VK), Inv X pins σ H s → RelV x v → RelV y u → t x y H Q →
    wpAny (model X.prog X.w) X.A (inplaceOp op v u) (EP X pins σ Q) X.xe s
section
variable {X : Cx} {pos : Pos}
def gName (i : Nat) : TG := fun v σ H Q => Q (σ.set i (some v)) H
theorem pg_name {i : Nat} {x : Str} (hN : X.N.Nodup) (hi : X.N[i]? = some x) (hx : Loc X.env.scope x) (hf : X.fn x = true ∨ X.env.scope.names.lookup x = some .local := by first | exact .inl rfl | exact .inr rfl | assumption) : PG X (.Name x pos) (gName i) := by
  intro pins s σ H v u Q I r h
  exact wpAny_assign_Name (store_ok I hN hi hx r (fun s' I' => ⟨_, H, I', h⟩) hf)
def gNil : TGs := fun vs σ H Q => vs = [] ∧ Q σ H
def gCons (t : TG) (u : TGs) : TGs := fun vs σ H Q => ∃ v r, vs = v :: r ∧ t v σ H fun σ' H' => u r σ' H' Q
theorem pgs_nil : PGs X [] gNil := by
  intro pins s σ H vs us Q I r h
  obtain ⟨e, h⟩ := h
  subst e
  cases r
  exact assignInOrder_nil ⟨σ, H, I, h⟩
theorem pgs_cons {e : Expr} {es : List Expr} {t : TG} {u : TGs} (h1 : PG X e t) (h2 : PGs X es u)
    (hs : (assignEach (e :: es) X.env).map (·.2) = assign e X.env :: (assignEach es X.env).map (·.2) := by rfl) : PGs X (e :: es) (gCons t u) := by
  intro pins s σ H vs us Q I r h
  obtain ⟨v, vr, e1, h⟩ := h
  subst e1
  cases r with
  | cons r rr =>
    rw [hs]
    refine assignInOrder_cons (thn (h1 pins s σ H _ _ _ I r h) fun _ s1 ⟨σ1, H1, I1, q1⟩ => ?_)
    exact h2 pins s1 σ1 H1 _ _ Q I1 rr q1
/-- (a, b, ..) = a tuple of that length -/
def gTup (K : PySem.W.Frag) (n : Nat) (t : TGs) : TG := fun v σ H Q => ∃ a xs, v = .ref a ∧ SqT K H a xs ∧ xs.length = n ∧ t xs σ H Q
theorem pg_tup {es : List Expr} {k : Nat} {t : TGs} {n : Nat} (hc : X.calm = true) (h : PGs X es t)
    (hn : (assignEach es X.env).length = n := by rfl) (hst : (assignEach es X.env).findIdx? (·.1) = none := by rfl) : PG X (.Tuple es k pos) (gTup X.K n t) := by
  intro pins s σ H v u Q I r hw
  obtain ⟨a, xs, e1, hq, hl, hw⟩ := hw
  subst e1
  cases r
  obtain ⟨its, rv, ht, hz⟩ := I.tuple hq
  refine assign_Tuple_tuple (I.ok.hd hc) ht (by simp [hn, ← hl, rv.length]) hst fun h' hx => ?_
  have I1 : Inv X pins σ H { s with heap := h' } := I.kept (t' := s.toks) fun b o e => hx b o (Nat.ne_of_lt (Heap.lt_size e)) e
  exact h pins _ σ H xs _ Q I1 (by simpa using rv) hw
/-- target = value -/
def tAsg (te : TE) (g : TG) : TS := fun D σ H => te σ H fun x H1 => g x σ H1 D.nx
/-- name = value -/
theorem ps_set {i : Nat} {x : Str} {e : Expr} {te : TE} {pos' : Pos} (hN : X.N.Nodup) (hi : X.N[i]? = some x) (hx : Loc X.env.scope x) (he : PE X e te) (hs : swapsWith e (some (.Name x pos')) pos.line X.env = pure false := by rfl) (hf : X.fn x = true ∨ X.env.scope.names.lookup x = some .local := by first | exact .inl rfl | exact .inr rfl | assumption) :
    PS X (.Assign [.Name x pos'] e pos) (tAsg te (gName i)) := by
  intro pins s σ H D I h
  refine wpAny_Assign_Name (thn (he pins s σ H _ I h) fun v s1 ⟨y, H1, I1, r1, q1⟩ => ?_) hs
  exact store_ok I1 hN hi hx r1 (fun s2 I2 => ⟨_, H1, I2, q1⟩) hf
/-- name op= e -/
def tAug (i : Nat) (te : TE) (ti : TIp) : TS := fun D σ H => ∃ x, σ[i]? = some (some x) ∧ te σ H fun y H1 => ti x y H1 fun z H2 => D.nx (σ.set i (some z)) H2
theorem ps_aug {i : Nat} {x : Str} {e : Expr} {te : TE} {op : Operator} {ti : TIp} {pos' : Pos} (hN : X.N.Nodup) (hi : X.N[i]? = some x) (hx : Loc X.env.scope x) (he : PE X e te) (ho : PIp X op ti) (hf : X.fn x = true ∨ X.env.scope.names.lookup x = some .local := by first | exact .inl rfl | exact .inr rfl | assumption) :
    PS X (.AugAssign (.Name x pos') op e pos) (tAug i te ti) := by
  intro pins s σ H D I h
  obtain ⟨v, e1, h⟩ := h
  obtain ⟨m, hn, hl⟩ := I.loc
  have vis : Vis X.env.scope x := by rcases hx with k | k; exact .inl k; exact .inr (.inl k)
  obtain ⟨u, r, l⟩ := hl i x v hi e1 vis
  refine wpAny_AugAssign_Name ?_
  have go : wpAny (model X.prog X.w) X.A (eval e X.env) (fun w s₂ => wpAny (model X.prog X.w) X.A (inplaceOp op u w) (fun r s₃ => wpAny (model X.prog X.w) X.A (storeName X.env x r) (fun _ => SP X pins D .next) X.xe s₃) X.xe s₂) X.xe s := by
    refine thn (he pins s σ H _ I h) fun w s1 ⟨y, H1, I1, r1, q1⟩ => ?_
    refine thn (ho pins s1 σ H1 v y u w _ I1 r r1 q1) fun z s2 ⟨zv, H2, I2, r2, q2⟩ => ?_
    exact store_ok I2 hN hi hx r2 (fun s3 I3 => ⟨_, H2, I3, q2⟩) hf
  rcases l with ⟨hk, hm⟩ | ⟨hk, c, hc, hcell⟩
  · exact wpAny_loadName_local I.ok.kind hk hn hm go
  · rcases hk with hk | hk
    · exact wpAny_loadName_cell I.ok.kind hk hc hcell go
    · rcases hx with k | k
      · have : X.env.scope.names.lookup x = some .free := hk
        rw [k] at this; cases this
      · have : X.env.scope.names.lookup x = some .free := hk
        rw [k] at this; cases this
/-- ints -/
def ipI (f : Int → Int → Int) : TIp := fun x y H Q => ∃ i j, x = .int i ∧ y = .int j ∧ Q (.int (f i j)) H
theorem ip_add : PIp X .Add (ipI fun i j => i + j) := by
  intro pins s σ H x y v u Q I r1 r2 h
  obtain ⟨i, j, e1, e2, q⟩ := h
  subst e1; subst e2
  obtain ⟨t, rfl⟩ := r1
  obtain ⟨t', rfl⟩ := r2
  exact iadd_int ⟨.int _, H, I.tok _, ⟨_, rfl⟩, q⟩
end

/-! ### while -/
section
variable {X : Cx} {pos : Pos}
/-- the invariant W with its measure -/
def tWhile (c : TT) (tb : TS) : TS := fun D σ H => ∃ W : Nat → St → Hp → Prop, (∃ m, W m σ H) ∧ ∀ m σ H, W m σ H →
  c σ H fun b H1 => if b = true then ∃ N : St → Hp → Prop, (∀ σ' H', N σ' H' → ∃ m', m' < m ∧ W m' σ' H') ∧ tb { D with nx := N, ct := N, bk := D.nx } σ H1 else D.nx σ H1
theorem ps_while {c : Expr} {body : List Stmt} {tc : TT} {tb : TS} (hp : PassesOwn (model X.prog X.w) X.A X.env X.xe) (hc : PT X c tc) (hb : PSs X body tb) : PS X (.While c body [] pos) (tWhile tc tb) := by
  intro pins s σ H D I h
  obtain ⟨W, ⟨m0, w0⟩, turn⟩ := h
  refine wpAny_While (codeAny_whileLoop (fun n s' => ∃ σ' H', Inv X pins σ' H' s' ∧ W n σ' H') ?_ m0 ⟨σ, H, I, w0⟩)
  rintro n s1 ⟨σ1, H1, I1, w1⟩
  refine wpAny_passesOwn hp (thn (hc pins s1 σ1 H1 _ I1 (turn n σ1 H1 w1)) fun b s2 ⟨H2, I2, q2⟩ => ?_)
  cases b with
  | true =>
    obtain ⟨N, hN, q2⟩ := q2
    rw [if_pos rfl]
    refine wpAny_passesOwn hp (thn (hb pins s2 σ1 H2 _ I2 q2) fun f s3 q3 => ?_)
    cases f with
    | next =>
      obtain ⟨σ3, H3, I3, n3⟩ := q3
      obtain ⟨m', hm, w3⟩ := hN σ3 H3 n3
      exact ⟨m', hm, σ3, H3, I3, w3⟩
    | cont =>
      obtain ⟨σ3, H3, I3, n3⟩ := q3
      obtain ⟨m', hm, w3⟩ := hN σ3 H3 n3
      exact ⟨m', hm, σ3, H3, I3, w3⟩
    | brk => exact q3
    | ret v => exact q3
  | false =>
    rw [if_neg Bool.false_ne_true]
    exact wpAny_execs_nil ⟨σ1, H2, I2, q2⟩
end

/-! ### what a loop or a comprehension walks -/
/-- at turn i: it yields x (the heap may grow), or it stops -/
structure It where
  go : Nat → Hp → Prop
  yld : Nat → Hp → V → Hp → Prop
  stop : Nat → Hp → Prop
/-- the iterator's own objects may turn: they are not the frame's, not pinned, younger than the entry (or a comprehension's own) -/
def FpOk (X : Cx) (pins : List (Addr × Obj)) (H : Hp) (b : Addr) : Prop :=
  H b = none ∧ b ≠ X.env.locals ∧ b ∉ X.fs ∧ (b ∈ X.ex ∨ X.s_0.heap.objs.size ≤ b) ∧ (∀ x c, X.env.cells.lookup x = some c → c ≠ b) ∧ ∀ p ∈ X.pn ++ pins, p.1 ≠ b
theorem Inv.fpOk {X : Cx} {pins : List (Addr × Obj)} {σ : St} {H H' : Hp} {s : Shared} {b : Addr} (I : Inv X pins σ H s) (hb : s.heap.objs.size ≤ b) (hn : H' b = none) : FpOk X pins H' b := by
  refine ⟨hn, Nat.ne_of_gt (Nat.lt_of_lt_of_le I.lt hb), I.nofs hb, .inr (Nat.le_trans I.sz hb), fun x c e z => ?_, fun p hp z => ?_⟩
  · obtain ⟨v, q⟩ := I.cell x c e
    exact absurd (Nat.lt_of_lt_of_le q.lt (by rw [z]; exact hb)) (Nat.lt_irrefl _)
  · exact absurd (Nat.lt_of_lt_of_le (Heap.lt_size (I.pin p hp).1) (by rw [z]; exact hb)) (Nat.lt_irrefl _)
structure Turn (P : Program) (w : World) (K : PySem.W.Frag) (tg : Expr) (J : It) (fp : List Addr) (it : Addr) (tn : Nat → Heap → Prop) : Prop where
  mem : it ∈ fp
  obj : ∀ i h, tn i h → ∀ b ∈ fp, ∃ o, h.get? b = some o ∧ ∀ v, o.data ≠ .cell v
  keep : ∀ i h h', tn i h → (∀ b ∈ fp, ∀ o, h.get? b = some o → h'.get? b = some o) → tn i h'
  item : ∀ (X : Cx), X.prog = P → X.w = w → X.K = K → X.calm = true → ∀ (i : Nat) (pins : List (Addr × Obj)) (s : Shared) (σ : St) (H : Hp) (E : Value → Shared → Prop), Inv X pins σ H s → (∀ b ∈ fp, FpOk X pins H b) → tn i s.heap → J.go i H →
    wpAny (model P w) X.A (pyNext (.ref it)) (fun r s1 => ∃ u, r = some u ∧
      wpAny (model P w) X.A (letOwnedTupleGo tg (.ref it) u) (fun _ s2 => ∃ x H', Inv X pins σ H' s2 ∧ RelV x u ∧ J.yld i H x H' ∧ tn (i + 1) s2.heap ∧ ∀ b ∈ fp, H' b = none) E s1) E s
  done : ∀ (X : Cx), X.prog = P → X.w = w → X.K = K → X.calm = true → ∀ (i : Nat) (pins : List (Addr × Obj)) (s : Shared) (σ : St) (H : Hp) (E : Value → Shared → Prop), Inv X pins σ H s → (∀ b ∈ fp, FpOk X pins H b) → tn i s.heap → J.stop i H →
    wpAny (model P w) X.A (pyNext (.ref it)) (fun r s1 => r = none ∧ Inv X pins σ H s1) E s
  self : ∀ (A : Around) (i : Nat) (s : Shared) (Q : Value → Shared → Prop) (E : Value → Shared → Prop), tn i s.heap → Q (.ref it) s → wpAny (model P w) A (pyIter (.ref it)) Q E s
abbrev TI := St → Hp → (It → Hp → Prop) → Prop
/-- an iterator has come -/
def PIE (X : Cx) (pins : List (Addr × Obj)) (σ : St) (tg : Expr) (R : It → Hp → Prop) (itv : Value) (s2 : Shared) : Prop :=
  ∃ (it : Addr) (fp : List Addr) (tn : Nat → Heap → Prop) (J : It) (H' : Hp), itv = .ref it ∧ Inv X pins σ H' s2 ∧ Turn X.prog X.w X.K tg J fp it tn ∧ tn 0 s2.heap ∧ (∀ b ∈ fp, FpOk X pins H' b) ∧ R J H'
def PI (X : Cx) (tg iter : Expr) (wi : TI) : Prop :=
  ∀ (pins : List (Addr × Obj)) (s : Shared) (σ : St) (H : Hp) (R : It → Hp → Prop), Inv X pins σ H s → wi σ H R →
    wpAny (model X.prog X.w) X.A (eval iter X.env) (fun v s1 => wpAny (model X.prog X.w) X.A (pyIter v) (PIE X pins σ tg R) X.xe s1) X.xe s

/-- the step ahead of the store is nothing for an iterator that keeps no tuple -/
theorem go_of {M : Model} {A : Around} {E : Value → Shared → Prop} {s : Shared} {tg : Expr} {it : Addr} {u : Value} {o : Obj} {n : String} {vs : Array Value} {Q : Unit → Shared → Prop} (ho : s.heap.get? it = some o) (hc : o.cls = .type n) (hd : o.data = .fields vs)
    (hn : ["enumerate", "zip", "dict_itemiterator", "dict_reverseitemiterator", "odict_iterator", "itertools.zip_longest", "itertools.pairwise"].contains n = false) (hQ : Q () s) : wpAny M A (letOwnedTupleGo tg (.ref it) u) Q E s := by
  unfold letOwnedTupleGo
  cases tg <;> first
    | exact wpAny_pure hQ
    | (cases u <;> first
        | exact wpAny_pure hQ
        | (refine wpAny_bind (wpAny_load ho ?_)
           rw [hc, hd]
           show wpAny M A (if (["enumerate", "zip", "dict_itemiterator", "dict_reverseitemiterator", "odict_iterator", "itertools.zip_longest", "itertools.pairwise"].contains n && vs[0]? == some (rawInt _)) = true then _ else _) Q E s
           rw [if_neg (by intro h; rw [hn, Bool.false_and] at h; cases h)]
           exact wpAny_pure hQ))

/-- the list at a, as it stands at each turn (a loop may append to it) -/
def Itl (K : PySem.W.Frag) (a : Addr) : It :=
  ⟨fun i H => ∃ xs x, SqL K H a xs ∧ xs[i]? = some x, fun i H x H' => H' = H ∧ ∀ xs, SqL K H a xs → xs[i]? = some x, fun i H => ∃ xs, SqL K H a xs ∧ xs.length ≤ i⟩
theorem turn_list {P : Program} {w : World} {K : PySem.W.Frag} {tg : Expr} (a it : Addr) : Turn P w K tg (Itl K a) [it] it (fun i h => h.IsListIter it a i) where
  mem := by simp
  obj := fun i h st b hb => by
    have e : b = it := by simpa using hb
    subst e
    obtain ⟨o, e, c, d⟩ := st
    exact ⟨o, e, fun v z => by rw [d] at z; cases z⟩
  keep := fun i h h' st k => st.at fun o e => k it (by simp) o e
  item := by
    intro X hP hw hK hc i pins s σ H E I hf st hg
    subst hP hw hK
    obtain ⟨xs, x, hq, hx⟩ := hg
    obtain ⟨its, rv, p, hz⟩ := I.list hq
    obtain ⟨u, hu, ru⟩ := rv.get hx
    obtain ⟨f0, f1, f2, f3, f4, f5⟩ := hf it (by simp)
    refine wpAny_pyNext_list_item st p.isList (x := u) (by simpa using hu) fun h' st' sb => ?_
    have I1 : Inv X pins σ H { s with heap := h' } := I.turned (t' := s.toks) (fun b o hb e => (sb.2 b hb).trans e) f0 f1 f3 f4 f5
    obtain ⟨o, e, c, d⟩ := id st'
    exact ⟨u, rfl, go_of (s := { s with heap := h' }) e c d (by decide) ⟨x, H, I1, ru, ⟨rfl, fun ys hy => by rw [I.list_inj hy hq]; exact hx⟩, st', fun b hb => (hf b hb).1⟩⟩
  done := by
    intro X hP hw hK hc i pins s σ H E I hf st hg
    subst hP hw hK
    obtain ⟨xs, hq, hx⟩ := hg
    obtain ⟨its, rv, p, hz⟩ := I.list hq
    obtain ⟨f0, f1, f2, f3, f4, f5⟩ := hf it (by simp)
    have hl := rv.length
    exact wpAny_pyNext_list_end (I.ok.hd hc) st p.isList (by simp; lia) fun h' eb => ⟨rfl, I.turned (t' := s.toks) (fun b o hb e => eb b o hb e) f0 f1 f3 f4 f5⟩
  self := fun _ _ _ _ _ st h => wpAny_pyIter_listiter st h
end L2

namespace L2
open PySem PySem.Spec PyProof.Rows
section
variable {X : Cx} {tg : Expr}
def iList (K : PySem.W.Frag) (tl : TE) : TI := fun σ H R => tl σ H fun x H1 => ∃ a, x = .ref a ∧ (∃ xs, SqL K H1 a xs) ∧ R (Itl K a) H1
theorem pi_list {l : Expr} {tl : TE} (hl : PE X l tl) : PI X tg l (iList X.K tl) := by
  intro pins s σ H R I h
  refine thn (hl pins s σ H _ I h) fun v s1 ⟨x, H1, I1, r1, q1⟩ => ?_
  obtain ⟨a, e, ⟨xs, hq⟩, q⟩ := q1
  subst e
  cases r1
  obtain ⟨its, rv, p, hz⟩ := I1.list hq
  refine wpAny_pyIter_list p.isList ?_
  refine ⟨s1.heap.objs.size, [s1.heap.objs.size], _, _, H1, rfl, I1.kept (t' := s1.toks) fun b o e => Heap.get?_push_of_some _ e, turn_list a _, ⟨_, Heap.get?_push_size _ rfl, rfl, rfl⟩, fun b hb => ?_, q⟩
  have e : b = s1.heap.objs.size := by simpa using hb
  subst e
  exact I1.fpOk (Nat.le_refl _) (I1.hok.fresh (Nat.le_refl _))

/-! ### for -/
/-- W: the invariant by the turn and a measure; N: what the body is to reach -/
def tFor (wi : TI) (g : TG) (tb : TS) : TS := fun D σ H => wi σ H fun J H1 => ∃ W : Nat → Nat → St → Hp → Prop, (∃ m, W 0 m σ H1) ∧ ∀ i m σ H, W i m σ H →
  (J.stop i H ∧ D.nx σ H) ∨ (J.go i H ∧ ∃ N : St → Hp → Prop, (∀ σ' H', N σ' H' → ∃ m', m' < m ∧ W (i + 1) m' σ' H') ∧ ∀ x H', J.yld i H x H' → g x σ H' fun σ2 H2 => tb { D with nx := N, ct := N, bk := D.nx } σ2 H2)
/-- the records at fp as they stand -/
def pinsAt (fp : List Addr) (h : Heap) : List (Addr × Obj) := fp.filterMap fun b => (h.get? b).map fun o => (b, o)
theorem mem_pinsAt {fp : List Addr} {h : Heap} {b : Addr} {o : Obj} (hb : b ∈ fp) (e : h.get? b = some o) : (b, o) ∈ pinsAt fp h := List.mem_filterMap.mpr ⟨b, hb, by rw [e]; rfl⟩
theorem of_pinsAt {fp : List Addr} {h : Heap} {p : Addr × Obj} (hp : p ∈ pinsAt fp h) : p.1 ∈ fp ∧ h.get? p.1 = some p.2 := by
  obtain ⟨b, hb, e⟩ := List.mem_filterMap.mp hp
  cases q : h.get? b with
  | none => rw [q] at e; cases e
  | some o =>
    rw [q] at e
    have e' : (b, o) = p := Option.some.inj e
    subst e'
    exact ⟨hb, q⟩
theorem Inv.pinned {pins : List (Addr × Obj)} {σ : St} {H : Hp} {s : Shared} {fp : List Addr} (I : Inv X pins σ H s) (hf : ∀ b ∈ fp, FpOk X pins H b) (ho : ∀ b ∈ fp, ∃ o, s.heap.get? b = some o ∧ ∀ v, o.data ≠ .cell v) : Inv X (pins ++ pinsAt fp s.heap) σ H s :=
  I.pins_of fun p hp => (List.mem_append.mp hp).elim (fun z => I.pin p (List.mem_append_right _ z)) fun z => by
    obtain ⟨hb, e⟩ := of_pinsAt z
    obtain ⟨f0, f1, f2, _⟩ := hf p.1 hb
    obtain ⟨o, e', d⟩ := ho p.1 hb
    rw [e] at e'; cases e'
    exact ⟨e, f0, f1, f2, d⟩
theorem Inv.unpinned {pins pl : List (Addr × Obj)} {σ : St} {H : Hp} {s : Shared} (I : Inv X (pins ++ pl) σ H s) : Inv X pins σ H s := I.pins_of fun p hp => I.pin p (List.mem_append_right _ (List.mem_append_left _ hp))
theorem ps_for {iter : Expr} {body : List Stmt} {wi : TI} {g : TG} {tb : TS} {pos : Pos} (hp : PassesOwn (model X.prog X.w) X.A X.env X.xe) (hc : X.calm = true) (hi : PI X tg iter wi) (hg : PG X tg g) (hb : PSs X body tb)
    (hs : ∀ x, foldedSetIterable iter X.env x = pure x := by intro _; rfl) : PS X (.For tg iter body [] pos) (tFor wi g tb) := by
  intro pins s σ H D I h
  refine wpAny_For (thn (hi pins s σ H _ I h) fun v s1 h1 => thn h1 fun itv s2 h2 => ?_) hs
  obtain ⟨it, fp, tn, J, H2, e, I2, T, st2, f2, W, ⟨m0, w0⟩, turn⟩ := h2
  subst e
  -- what stays true of the iterator's objects through the loop
  have stat : ∀ {H' : Hp}, (∀ b ∈ fp, H' b = none) → ∀ b ∈ fp, FpOk X pins H' b := fun hn b hb => ⟨hn b hb, (f2 b hb).2⟩
  refine codeAny_forLoop_any (fun n s' => ∃ i σ' H', Inv X pins σ' H' s' ∧ tn i s'.heap ∧ (∀ b ∈ fp, H' b = none) ∧ W i n σ' H') ?_ m0 ⟨0, σ, H2, I2, st2, fun b hb => (f2 b hb).1, w0⟩
  rintro n s3 ⟨i, σ3, H3, I3, st3, fr3, w3⟩
  rcases turn i n σ3 H3 w3 with ⟨stop, qn⟩ | ⟨go, N, hN, step⟩
  · refine wpAny_passesOwn hp (thn (T.done X rfl rfl rfl hc i pins s3 σ3 H3 X.xe I3 (stat fr3) st3 stop) fun r s4 ⟨hr, I4⟩ => ?_)
    subst hr
    exact wpAny_execs_nil ⟨σ3, H3, I4, qn⟩
  · refine wpAny_passesOwn hp (thn (T.item X rfl rfl rfl hc i pins s3 σ3 H3 X.xe I3 (stat fr3) st3 go) fun r s4 ⟨u, hr, h4⟩ => ?_)
    subst hr
    refine wpAny_passesOwn hp (thn h4 fun _ s5 ⟨x, H5, I5, r5, y5, st5, fr5⟩ => ?_)
    have I5' := I5.pinned (stat fr5) (T.obj _ _ st5)
    refine wpAny_passesOwn hp (thn (hg _ s5 σ3 H5 x u _ I5' r5 (step x H5 y5)) fun _ s6 ⟨σ6, H6, I6, q6⟩ => ?_)
    refine wpAny_passesOwn hp (thn (hb _ s6 σ6 H6 _ I6 q6) fun f s7 q7 => ?_)
    have again : ∀ {σ7 : St} {H7 : Hp}, Inv X (pins ++ pinsAt fp s5.heap) σ7 H7 s7 → N σ7 H7 → ∃ m, m < n ∧ ∃ i σ' H', Inv X pins σ' H' s7 ∧ tn i s7.heap ∧ (∀ b ∈ fp, H' b = none) ∧ W i m σ' H' := fun {σ7 H7} I7 n7 => by
      obtain ⟨m', hm, w7⟩ := hN σ7 H7 n7
      refine ⟨m', hm, i + 1, σ7, H7, I7.unpinned, T.keep _ _ _ st5 fun b hb o e => (I7.pin (b, o) (List.mem_append_right _ (List.mem_append_right _ (mem_pinsAt hb e)))).1, fun b hb => ?_, w7⟩
      obtain ⟨o, e, d⟩ := T.obj _ _ st5 b hb
      exact (I7.pin (b, o) (List.mem_append_right _ (List.mem_append_right _ (mem_pinsAt hb e)))).2.1
    cases f with
    | next => obtain ⟨σ7, H7, I7, n7⟩ := q7; exact again I7 n7
    | cont => obtain ⟨σ7, H7, I7, n7⟩ := q7; exact again I7 n7
    | brk => obtain ⟨σ7, H7, I7, q7⟩ := q7; exact ⟨σ7, H7, I7.unpinned, q7⟩
    | ret v => obtain ⟨x7, σ7, H7, I7, r7, q7⟩ := q7; exact ⟨x7, σ7, H7, I7.unpinned, r7, q7⟩
end

/-! ### the forms one uses -/
/-- over a list that the body leaves as it is -/
theorem for_list {K : PySem.W.Frag} {a : Addr} {xs : List V} {g : TG} {tb : TS} {D : Ends} {σ : St} {H : Hp} (Pv : Nat → St → Hp → Prop) (h0 : Pv 0 σ H) (hl : ∀ i σ H, i ≤ xs.length → Pv i σ H → SqL K H a xs)
    (hs : ∀ i x σ H, xs[i]? = some x → Pv i σ H → g x σ H fun σ2 H2 => tb { D with nx := Pv (i + 1), ct := Pv (i + 1), bk := D.nx } σ2 H2) (hd : ∀ σ H, Pv xs.length σ H → D.nx σ H) :
    ∃ W : Nat → Nat → St → Hp → Prop, (∃ m, W 0 m σ H) ∧ ∀ i m σ H, W i m σ H →
      ((Itl K a).stop i H ∧ D.nx σ H) ∨ ((Itl K a).go i H ∧ ∃ N : St → Hp → Prop, (∀ σ' H', N σ' H' → ∃ m', m' < m ∧ W (i + 1) m' σ' H') ∧ ∀ x H', (Itl K a).yld i H x H' → g x σ H' fun σ2 H2 => tb { D with nx := N, ct := N, bk := D.nx } σ2 H2) := by
  refine ⟨fun i m σ H => m = xs.length - i ∧ i ≤ xs.length ∧ Pv i σ H, ⟨xs.length, by simp, Nat.zero_le _, h0⟩, ?_⟩
  rintro i m σ H ⟨rfl, hi, p⟩
  have q := hl i σ H hi p
  by_cases hlt : i < xs.length
  · refine .inr ⟨⟨xs, xs[i], q, by simp [hlt]⟩, Pv (i + 1), fun σ' H' p' => ⟨xs.length - (i + 1), by lia, rfl, hlt, p'⟩, fun x H' y => ?_⟩
    obtain ⟨e, y⟩ := y
    subst e
    exact hs i x σ _ (y xs q) p
  · have e : i = xs.length := by lia
    subst e
    exact .inl ⟨⟨xs, q, Nat.le_refl _⟩, hd σ H p⟩
end L2

namespace L2
open PySem PySem.Spec PyProof.Rows

abbrev R2 := V → V → Hp → VK → Prop
/-- a two-place operation on values: f is binaryOp op, inplaceOp op or compareOp op -/
def OpR (X : Cx) (f : Value → Value → Sem Value) (r : R2) : Prop :=
  ∀ (pins : List (Addr × Obj)) (s : Shared) (σ : St) (H : Hp) (x y : V) (v u : Value) (Q : VK), Inv X pins σ H s → RelV x v → RelV y u → r x y H Q →
    wpAny (model X.prog X.w) X.A (f v u) (EP X pins σ Q) X.xe s
/-- a one-place operation -/
def UnR (X : Cx) (f : Value → Sem Value) (r : V → Hp → VK → Prop) : Prop :=
  ∀ (pins : List (Addr × Obj)) (s : Shared) (σ : St) (H : Hp) (x : V) (v : Value) (Q : VK), Inv X pins σ H s → RelV x v → r x H Q →
    wpAny (model X.prog X.w) X.A (f v) (EP X pins σ Q) X.xe s
/-- a call of a value that is known (a builtin, a type) with values -/
def CallR (X : Cx) (f : Value) (r : List V → Hp → VK → Prop) : Prop :=
  ∀ (pins : List (Addr × Obj)) (s : Shared) (σ : St) (H : Hp) (xs : List V) (us : List Value) (Q : VK), Inv X pins σ H s → Vals xs us → r xs H Q →
    wpAny (model X.prog X.w) X.A (call f us) (EP X pins σ Q) X.xe s
/-- a value's truth -/
def TruR (X : Cx) (r : V → Hp → (Bool → Hp → Prop) → Prop) : Prop :=
  ∀ (pins : List (Addr × Obj)) (s : Shared) (σ : St) (H : Hp) (x : V) (v : Value) (Q : Bool → Hp → Prop), Inv X pins σ H s → RelV x v → r x H Q →
    wpAny (model X.prog X.w) X.A (truthy v) (TP X pins σ Q) X.xe s

def tOp (r : R2) (ta tb : TE) : TE := fun σ H Q => ta σ H fun x H1 => tb σ H1 fun y H2 => r x y H2 Q
def tUn (r : V → Hp → VK → Prop) (ta : TE) : TE := fun σ H Q => ta σ H fun x H1 => r x H1 Q
def rI0 (g : Int → Int → V) : R2 := fun x y H Q => ∃ i j, x = .int i ∧ y = .int j ∧ Q (g i j) H
def rU (g : Int → V) : V → Hp → VK → Prop := fun x H Q => ∃ i, x = .int i ∧ Q (g i) H

section
variable {X : Cx} {a b c : Expr} {ta tb tc : TE} {pos : Pos}

theorem binT (ha : PE X a ta) (hb : PE X b tb) {pins : List (Addr × Obj)} {s : Shared} {σ : St} {H : Hp} {R : V → V → Hp → Prop} (I : Inv X pins σ H s)
    (h : ta σ H fun x H1 => tb σ H1 fun y H2 => R x y H2) {Q : Value → Shared → Prop} {f : Value → Value → Sem Value}
    (hf : ∀ v u s2 x y H2, Inv X pins σ H2 s2 → RelV x v → RelV y u → R x y H2 → wpAny (model X.prog X.w) X.A (f v u) Q X.xe s2) :
    wpAny (model X.prog X.w) X.A (eval a X.env) (fun v s₁ => wpAny (model X.prog X.w) X.A (eval b X.env) (fun u s₂ => wpAny (model X.prog X.w) X.A (f v u) Q X.xe s₂) X.xe s₁) X.xe s := by
  refine thn (ha pins s σ H _ I h) fun v s1 ⟨x, H1, I1, r1, q1⟩ => ?_
  refine thn (hb pins s1 σ H1 _ I1 q1) fun u s2 ⟨y, H2, I2, r2, q2⟩ => ?_
  exact hf v u s2 x y H2 I2 r1 r2 q2

theorem pe_op {op : Operator} {r : R2} (ho : OpR X (binaryOp op) r) (ha : PE X a ta) (hb : PE X b tb) : PE X (.BinOp a op b pos) (tOp r ta tb) := by
  intro pins s σ H Q I h
  exact wpAny_BinOp (binT ha hb I h fun v u s2 x y H2 I2 rx ry q => ho pins s2 σ H2 x y v u Q I2 rx ry q)
theorem pe_un {op : UnaryOp} {r : V → Hp → VK → Prop} (ho : UnR X (unaryOp op) r) (ha : PE X a ta) : PE X (.UnaryOp op a pos) (tUn r ta) := by
  intro pins s σ H Q I h
  exact UnaryOp_ (thn (ha pins s σ H _ I h) fun v s1 ⟨x, H1, I1, r1, q1⟩ => ho pins s1 σ H1 x v Q I1 r1 q1)

/-! ### ints -/
theorem opI0 {f : Value → Value → Sem Value} {g : Int → Int → Int}
    (rule : ∀ (i j : Int) (t u : Tok) (s : Shared) (Q : Value → Shared → Prop) (E : Value → Shared → Prop), Q (.int (g i j) s.toks) { s with toks := s.toks + 1 } → wpAny (model X.prog X.w) X.A (f (.int i t) (.int j u)) Q E s) :
    OpR X f (rI0 fun i j => .int (g i j)) := by
  intro pins s σ H x y v u Q I rx ry h
  obtain ⟨i, j, rfl, rfl, q⟩ := h
  obtain ⟨t, rfl⟩ := rx
  obtain ⟨t', rfl⟩ := ry
  exact rule i j t t' s _ _ ⟨.int (g i j), H, I.tok _, ⟨_, rfl⟩, q⟩
theorem opB0 {f : Value → Value → Sem Value} {g : Int → Int → Bool}
    (rule : ∀ (i j : Int) (t u : Tok) (s : Shared) (Q : Value → Shared → Prop) (E : Value → Shared → Prop), Q (.bool (g i j)) s → wpAny (model X.prog X.w) X.A (f (.int i t) (.int j u)) Q E s) :
    OpR X f (rI0 fun i j => .bl (g i j)) := by
  intro pins s σ H x y v u Q I rx ry h
  obtain ⟨i, j, rfl, rfl, q⟩ := h
  obtain ⟨t, rfl⟩ := rx
  obtain ⟨t', rfl⟩ := ry
  exact rule i j t t' s _ _ ⟨.bl (g i j), H, I, rfl, q⟩


theorem op_add : OpR X (binaryOp .Add) (rI0 fun i j => .int (i + j)) := opI0 fun _ _ _ _ _ _ _ q => add_int q
theorem op_sub : OpR X (binaryOp .Sub) (rI0 fun i j => .int (i - j)) := opI0 fun _ _ _ _ _ _ _ q => sub_int q


theorem unI {f : Value → Sem Value} {g : Int → Int}
    (rule : ∀ (i : Int) (t : Tok) (s : Shared) (Q : Value → Shared → Prop) (E : Value → Shared → Prop), Q (.int (g i) s.toks) { s with toks := s.toks + 1 } → wpAny (model X.prog X.w) X.A (f (.int i t)) Q E s) :
    UnR X f (rU fun i => .int (g i)) := by
  intro pins s σ H x v Q I rx h
  obtain ⟨i, rfl, q⟩ := h
  obtain ⟨t, rfl⟩ := rx
  exact rule i t s _ _ ⟨.int (g i), H, I.tok _, ⟨_, rfl⟩, q⟩
theorem un_neg : UnR X (unaryOp .USub) (rU fun i => .int (-i)) := unI fun _ _ _ _ _ q => neg_int q

/-! ### bools among ints: n += (a < b) -/
end

/-! ### comparisons -/
/-- the scalars that == tells apart as data does -/
def scal : V → V → Bool
  | .non, .non => true | .non, .int _ => true | .int _, .non => true | .non, .bl _ => true | .bl _, .non => true | .non, .str _ => true | .str _, .non => true
  | .int _, .int _ => true | .bl _, .bl _ => true | .str _, .str _ => true | .byt _, .byt _ => true
  | .int _, .str _ => true | .str _, .int _ => true | .bl _, .str _ => true | .str _, .bl _ => true
  | _, _ => false
def rEq : R2 := fun x y H Q => scal x y = true ∧ Q (.bl (decide (x = y))) H

theorem dec_int {i j : Int} : decide (V.int i = V.int j) = (i == j) := by
  rw [Bool.eq_iff_iff]
  simp
theorem dec_bl {i j : Bool} : decide (V.bl i = V.bl j) = (i == j) := by
  rw [Bool.eq_iff_iff]
  simp
theorem dec_str {i j : Str} : decide (V.str i = V.str j) = (i == j) := by
  rw [Bool.eq_iff_iff]
  simp
theorem dec_byt {i j : Array UInt8} : decide (V.byt i = V.byt j) = (i.toList == j.toList) := by
  rw [Bool.eq_iff_iff]
  cases i
  cases j
  simp

section
variable {X : Cx} {a b c : Expr} {ta tb tc : TE} {pos : Pos}
theorem fin_bl {pins : List (Addr × Obj)} {σ : St} {H : Hp} {s : Shared} {Q : VK} {k k' : Bool} (I : Inv X pins σ H s) (q : Q (.bl k) H) (e : k = k') : EP X pins σ Q (.bool k') s := by
  subst e
  exact ⟨.bl k, H, I, rfl, q⟩
theorem op_eq : OpR X (compareOp .Eq) rEq := by
  intro pins s σ H x y v u Q I rx ry h
  obtain ⟨hs, q⟩ := h
  cases x with
  | non =>
    cases rx
    cases y with
    | non => cases ry; exact PySem.EqNone.eq_none_none (fin_bl I q (by simp))
    | bl j => cases ry; exact PySem.EqNone.eq_none_bool (fin_bl I q (by simp))
    | int j => obtain ⟨t', rfl⟩ := ry; exact PySem.EqNone.eq_none_int (fin_bl I q (by simp))
    | str j => obtain ⟨t', rfl⟩ := ry; exact PySem.EqNone.eq_none_str (fin_bl I q (by simp))
    | _ => exact absurd (show false = true from hs) Bool.false_ne_true
  | bl i =>
    cases rx
    cases y with
    | non => cases ry; exact PySem.EqNone.eq_bool_none (fin_bl I q (by simp))
    | bl j => cases ry; exact eq_bool (fin_bl I q dec_bl)
    | str j => obtain ⟨t', rfl⟩ := ry; exact PySem.EqMixed.eq_bool_str (fin_bl I q (by simp))
    | _ => exact absurd (show false = true from hs) Bool.false_ne_true
  | int i =>
    obtain ⟨t, rfl⟩ := rx
    cases y with
    | non => cases ry; exact PySem.EqNone.eq_int_none (fin_bl I q (by simp))
    | int j => obtain ⟨t', rfl⟩ := ry; exact eq_int (fin_bl I q dec_int)
    | str j => obtain ⟨t', rfl⟩ := ry; exact PySem.EqMixed.eq_int_str (fin_bl I q (by simp))
    | _ => exact absurd (show false = true from hs) Bool.false_ne_true
  | str i =>
    obtain ⟨t, rfl⟩ := rx
    cases y with
    | non => cases ry; exact PySem.EqNone.eq_str_none (fin_bl I q (by simp))
    | bl j => cases ry; exact PySem.EqMixed.eq_str_bool (fin_bl I q (by simp))
    | int j => obtain ⟨t', rfl⟩ := ry; exact PySem.EqMixed.eq_str_int (fin_bl I q (by simp))
    | str j => obtain ⟨t', rfl⟩ := ry; exact eq_str (fin_bl I q dec_str)
    | _ => exact absurd (show false = true from hs) Bool.false_ne_true
  | byt i =>
    obtain ⟨t, rfl⟩ := rx
    cases y with
    | byt j => obtain ⟨t', rfl⟩ := ry; exact PySem.W.eq_bytes (fin_bl I q dec_byt)
    | _ => exact absurd (show false = true from hs) Bool.false_ne_true
  | _ => cases y <;> exact absurd (show false = true from hs) Bool.false_ne_true

theorem op_lt : OpR X (compareOp .Lt) (rI0 fun i j => .bl (decide (i < j))) := opB0 fun _ _ _ _ _ _ _ q => lt_int q
theorem op_le : OpR X (compareOp .LtE) (rI0 fun i j => .bl (decide (i ≤ j))) := opB0 fun _ _ _ _ _ _ _ q => le_int q
theorem op_gt : OpR X (compareOp .Gt) (rI0 fun i j => .bl (decide (j < i))) := opB0 fun _ _ _ _ _ _ _ q => gt_int q
theorem op_ge : OpR X (compareOp .GtE) (rI0 fun i j => .bl (decide (j ≤ i))) := opB0 fun _ _ _ _ _ _ _ q => ge_int q




theorem nomark (b : Expr) {op : CmpOp} (h : op ≠ .In := by decide) (h2 : op ≠ .NotIn := by decide) : behindInMarks op b = false := by
  have e1 : (op == CmpOp.In) = false := by cases op <;> first | rfl | exact absurd rfl h
  have e2 : (op == CmpOp.NotIn) = false := by cases op <;> first | rfl | exact absurd rfl h2
  cases b <;> simp [behindInMarks, e1, e2]
/-- a comparison as a value; hm: nomark b, or (for in, not in) by with_unfolding_all rfl -/
theorem pe_cmpR {op : CmpOp} {r : R2} (ho : OpR X (compareOp op) r) (ha : PE X a ta) (hb : PE X b tb) (hm : behindInMarks op b = false) : PE X (.Compare a [op] [b] pos) (tOp r ta tb) := by
  intro pins s σ H Q I h
  exact wpAny_Compare1 (binT ha hb I h fun v u s2 x y H2 I2 rx ry q => ho pins s2 σ H2 x y v u Q I2 rx ry q) hm
/-- a reading of a value as a test -/
def tTest (t : TE) : TT := fun σ H Q => t σ H fun x H' => ∃ k, x = .bl k ∧ Q k H'
theorem pt_cmpR {op : CmpOp} {r : R2} (ho : OpR X (compareOp op) r) (ha : PE X a ta) (hb : PE X b tb) (hm : behindInMarks op b = false) : PT X (.Compare a [op] [b] pos) (tTest (tOp r ta tb)) := by
  intro pins s σ H Q I h
  refine wpAny_isTrue_Compare1 (thn (ha pins s σ H _ I h) fun v s1 ⟨x, H1, I1, r1, q1⟩ => thn (hb pins s1 σ H1 _ I1 q1) fun u s2 ⟨y, H2, I2, r2, q2⟩ =>
    thn (ho pins s2 σ H2 x y v u _ I2 r1 r2 q2) fun c s3 ⟨z, H3, I3, r3, k, e, q3⟩ => ?_) hm
  subst e
  cases r3
  exact wpAny_truthy_bool ⟨H3, I3, q3⟩
/-- a op1 b op2 c -/
def tChain (r r' : R2) (ta tb tc : TE) : TE := fun σ H Q => ta σ H fun x H1 => tb σ H1 fun y H2 => r x y H2 fun z H3 => ∃ k, z = .bl k ∧
  (if k = true then tc σ H3 fun w' H4 => r' y w' H4 Q else Q (.bl false) H3)
theorem pe_chain {op op' : CmpOp} {r r' : R2} (ho : OpR X (compareOp op) r) (ho' : OpR X (compareOp op') r') (ha : PE X a ta) (hb : PE X b tb) (hc : PE X c tc)
    (hm : lastMarks [op, op'] [b, c] = false := by with_unfolding_all rfl) : PE X (.Compare a [op, op'] [b, c] pos) (tChain r r' ta tb tc) := by
  intro pins s σ H Q I h
  refine Compare_chain (thn (ha pins s σ H _ I h) fun v s1 ⟨x, H1, I1, r1, q1⟩ => chain_link (thn (hb pins s1 σ H1 _ I1 q1) fun u s2 ⟨y, H2, I2, r2, q2⟩ =>
    thn (ho pins s2 σ H2 x y v u _ I2 r1 r2 q2) fun d s3 ⟨z, H3, I3, r3, k, e, q3⟩ => ?_)) hm
  subst e
  cases r3
  refine wpAny_truthy_bool ?_
  cases k with
  | false => exact ite_ff ⟨.bl false, H3, I3, rfl, q3⟩
  | true => exact ite_tt (chain_last (thn (hc pins s3 σ H3 _ I3 q3) fun w' s4 ⟨z', H4, I4, r4, q4⟩ => ho' pins s4 σ H4 y z' u w' Q I4 r2 r4 q4))
theorem pt_chain {op op' : CmpOp} {r r' : R2} (ho : OpR X (compareOp op) r) (ho' : OpR X (compareOp op') r') (ha : PE X a ta) (hb : PE X b tb) (hc : PE X c tc)
    (hm : lastMarks [op, op'] [b, c] = false := by with_unfolding_all rfl) : PT X (.Compare a [op, op'] [b, c] pos) (tTest (tChain r r' ta tb tc)) := by
  intro pins s σ H Q I h
  refine isTrue_chain (thn (ha pins s σ H _ I h) fun v s1 ⟨x, H1, I1, r1, q1⟩ => test_link (thn (hb pins s1 σ H1 _ I1 q1) fun u s2 ⟨y, H2, I2, r2, q2⟩ =>
    thn (ho pins s2 σ H2 x y v u _ I2 r1 r2 q2) fun d s3 ⟨z, H3, I3, r3, k, e, q3⟩ => ?_)) hm
  subst e
  cases r3
  refine wpAny_truthy_bool ?_
  cases k with
  | false =>
    obtain ⟨k', e', q'⟩ := q3
    cases e'
    exact ite_ff ⟨H3, I3, q'⟩
  | true =>
    refine ite_tt (test_last (thn (hc pins s3 σ H3 _ I3 q3) fun w' s4 ⟨z', H4, I4, r4, q4⟩ => thn (ho' pins s4 σ H4 y z' u w' _ I4 r2 r4 q4) fun d' s5 ⟨z2, H5, I5, r5, k2, e2, q5⟩ => ?_))
    subst e2
    cases r5
    exact wpAny_truthy_bool ⟨H5, I5, q5⟩

/-! ### truth -/
/-- a value's truth by the abstract heap -/
def TruV (K : PySem.W.Frag) (x : V) (H : Hp) (k : Bool) : Prop :=
  match x with
  | .non => k = false
  | .bl b => k = b
  | .int i => k = (i != 0)
  | .str y => y.length ≤ sizeLine ∧ k = ((y.length : Int) != 0)
  | .byt y => y.size ≤ sizeLine ∧ k = ((y.size : Int) != 0)
  | .ref p => (∃ xs, SqL K H p xs ∧ k = !xs.isEmpty) ∨ (∃ xs, SqT K H p xs ∧ k = !xs.isEmpty) ∨ ∃ kvs, H p = some (.dK kvs) ∧ k = !kvs.isEmpty
  | _ => False
theorem isEmpty_kv {κ : Type} {kvs : List (κ × V)} {vs : List (κ × Value)} (r : KV kvs vs) : (!vs.isEmpty) = !kvs.isEmpty := by
  cases r <;> rfl
theorem isEmpty_of {xs : List V} {its : List Value} (r : Vals xs its) : (!its.toArray.isEmpty) = !xs.isEmpty := by
  cases r <;> simp
theorem line63 : (sizeLine : Nat) < 2 ^ 63 := by rw [sizeLine_eq]; decide
theorem tru_ok : TruR X (fun x H Q => ∃ k, TruV X.K x H k ∧ Q k H) := by
  intro pins s σ H x v Q I rx h
  obtain ⟨k, e, q⟩ := h
  have hl := line63
  have hs : sizeLine = 16777216 := sizeLine_eq
  cases x with
  | non =>
    cases rx
    have e' : k = false := e
    subst e'
    exact truthy_none ⟨H, I, q⟩
  | bl b =>
    cases rx
    have e' : k = b := e
    subst e'
    exact wpAny_truthy_bool ⟨H, I, q⟩
  | int i =>
    obtain ⟨t, rfl⟩ := rx
    have e' : k = (i != 0) := e
    subst e'
    exact PySem.P.truthy_int ⟨H, I, q⟩
  | str y =>
    obtain ⟨t, rfl⟩ := rx
    obtain ⟨hy, e'⟩ : y.length ≤ sizeLine ∧ k = ((y.length : Int) != 0) := e
    subst e'
    exact PySem.P.truthy_str (by lia) ⟨H, I.tok _, q⟩
  | byt y =>
    obtain ⟨t, rfl⟩ := rx
    obtain ⟨hy, e'⟩ : y.size ≤ sizeLine ∧ k = ((y.size : Int) != 0) := e
    subst e'
    exact PySem.W.truthy_bytes (by lia) ⟨H, I.tok _, q⟩
  | ref p =>
    cases rx
    have e' : (∃ xs, SqL X.K H p xs ∧ k = !xs.isEmpty) ∨ (∃ xs, SqT X.K H p xs ∧ k = !xs.isEmpty) ∨ ∃ kvs, H p = some (.dK kvs) ∧ k = !kvs.isEmpty := e
    rcases e' with ⟨xs, hx, e'⟩ | ⟨xs, hx, e'⟩ | ⟨kvs, hx, e'⟩
    · subst e'
      obtain ⟨its, r, pl, hz⟩ := I.list hx
      have hlen := r.length
      exact wpAny_truthy_list pl.isList (by simp only [List.size_toArray]; lia) ⟨H, I.tok _, by rw [isEmpty_of r]; exact q⟩
    · subst e'
      obtain ⟨its, r, pl, hz⟩ := I.tuple hx
      have hlen := r.length
      exact truthy_tuple pl (by simp only [List.size_toArray]; lia) ⟨H, I.tok _, by rw [isEmpty_of r]; exact q⟩
    · subst e'
      obtain ⟨hz, hS, vs, r, m⟩ : kvs.length ≤ sizeLine ∧ (p == sysModules) = false ∧ ∃ vs, KV kvs vs ∧ s.heap.DictOf (mixKind X.prog X.w) p vs := I.hok p _ hx
      have hlen : kvs.length = vs.length := Paired.length r
      exact wpAny_truthy_dict hS m (by lia) ⟨H, I.tok _, by rw [isEmpty_kv r]; exact q⟩
  | _ => exact (show False from e).elim
/-- any expression whose test is its value's truth (a name, a call, a subscript, a field ..: he by fun _ => rfl) -/
theorem pt_truth (ha : PE X a ta) (he : ∀ whole, isTrue a X.env whole = (do let v ← whole; standAt a.pos; holding [v] (truthy v))) :
    PT X a (fun σ H Q => ta σ H fun x H' => ∃ k, TruV X.K x H' k ∧ Q k H') := by
  intro pins s σ H Q I h
  exact isTrue_plain (thn (ha pins s σ H _ I h) fun v s1 ⟨x, H1, I1, r1, q1⟩ => tru_ok pins s1 σ H1 x v Q I1 r1 q1) (he _)

/-! ### strs and bytes -/


/-! ### scalar builtins, by CallR -/
theorem vals1 {x : V} {us : List Value} (r : Vals [x] us) : ∃ u, us = [u] ∧ RelV x u := by
  cases r with
  | cons r1 r2 => cases r2; exact ⟨_, rfl, r1⟩
theorem vals2 {x y : V} {us : List Value} (r : Vals [x, y] us) : ∃ u w', us = [u, w'] ∧ RelV x u ∧ RelV y w' := by
  cases r with
  | cons r1 r2 =>
    cases r2 with
    | cons r3 r4 => cases r4; exact ⟨_, _, rfl, r1, r3⟩
theorem call_max2 (hc : X.calm = true) : CallR X (.builtin "max") (fun xs H Q => ∃ i j, xs = [.int i, .int j] ∧ Q (.int (if j > i then j else i)) H) := by
  intro pins s σ H xs us Q I r h
  obtain ⟨i, j, rfl, q⟩ := h
  obtain ⟨u, w', rfl, ⟨t, rfl⟩, ⟨t', rfl⟩⟩ := vals2 r
  refine max_two_ints (I.ok.hd hc) fun h' tk k => ⟨_, H, I.kept k, ?_, q⟩
  by_cases hj : j > i
  · rw [if_pos hj, if_pos hj]; exact ⟨_, rfl⟩
  · rw [if_neg hj, if_neg hj]; exact ⟨_, rfl⟩
theorem call_min2 (hc : X.calm = true) : CallR X (.builtin "min") (fun xs H Q => ∃ i j, xs = [.int i, .int j] ∧ Q (.int (if j < i then j else i)) H) := by
  intro pins s σ H xs us Q I r h
  obtain ⟨i, j, rfl, q⟩ := h
  obtain ⟨u, w', rfl, ⟨t, rfl⟩, ⟨t', rfl⟩⟩ := vals2 r
  refine min_two_ints (I.ok.hd hc) fun h' tk k => ⟨_, H, I.kept k, ?_, q⟩
  by_cases hj : j < i
  · rw [if_pos hj, if_pos hj]; exact ⟨_, rfl⟩
  · rw [if_neg hj, if_neg hj]; exact ⟨_, rfl⟩
end
end L2

namespace L2
open PySem PySem.Spec PyProof.Rows

/-! ### an instance, its attributes a map -/
structure ObjM (h : Heap) (x dx C : Addr) (mA : Str → Option Value) : Prop where
  obj : h.get? x = some (PySem.W.instObj C dx)
  ns : h.Ns1 dx mA
  ne : dx ≠ x

theorem lookIn_ns {h : Heap} {dx : Addr} {mA : Str → Option Value} (n : h.Ns1 dx mA) : ∃ od, h.get? dx = some od ∧ ∀ name, PySem.W.lookIn name od = some (mA name) := by
  obtain ⟨o, es, ep, ho, hd, hk, _, hm⟩ := n
  refine ⟨o, ho, fun name => ?_⟩
  have e := hm name
  unfold nsFind findBy at e
  rw [← Array.find?_toList] at e
  unfold PySem.W.lookIn
  rw [hd]
  dsimp only
  split
  · rename_i y q
    rw [q] at e
    exact congrArg some e
  · rename_i q
    rw [q] at e
    have a : es.toList.any (·.refKey) = false := by
      rw [List.any_eq_false]
      intro y hy
      obtain ⟨z, t, hkey⟩ := hk y (Array.mem_toList_iff.mp hy)
      simp [DictEntry.refKey, hkey]
    have a' : ¬ es.toList.any (·.refKey) = true := by rw [a]; exact Bool.false_ne_true
    rw [if_neg a']
    exact congrArg some e

theorem ObjM.look {h : Heap} {x dx C : Addr} {mA : Str → Option Value} (I : ObjM h x dx C mA) : ∃ od, PySem.W.InstAt h x (PySem.W.instObj C dx) C (some od) ∧ ∀ name, PySem.W.lookIn name od = some (mA name) :=
  let ⟨od, ho, hl⟩ := lookIn_ns I.ns
  ⟨od, ⟨I.obj, rfl, rfl, ho⟩, hl⟩

section
variable {prog : Program} {w : World} {A : Around} {E : Value → Shared → Prop} {s : Shared} {K : PySem.W.Frag} {x dx C f : Addr} {mA : Str → Option Value} {name : Str} {v : Value}

theorem get_map {expr : Bool} {Q : Value → Shared → Prop} (X : K.In s.heap) (I : ObjM s.heap x dx C mA) (hg : PySem.W.plainGet K C name = true) (hh : PySem.W.hasDictIn K C = true)
    (ha : PySem.W.findIn K (.ref C) name = some none) (hv : mA name = some v) (hv' : PySem.W.handedIn v = true) (h : Q v { s with toks := s.toks + 1 }) :
    wpAny (model prog w) A (getAttr (.ref x) name expr) Q E s := by
  obtain ⟨od, J, hl⟩ := I.look
  exact PySem.W.get_value X J (PySem.W.plainGet_of hg).1 (PySem.W.findObj_own hh ha rfl (by rw [hl, hv])) hv' h


theorem get_meth {pl : Sem Bool} {Q : Value × List Value → Shared → Prop} (X : K.In s.heap) (I : ObjM s.heap x dx C mA) (hg : PySem.W.plainGet K C name = true)
    (hf : PySem.W.findIn K (.ref C) name = some (some (.ref f))) (ht : PySem.W.isFn K (.ref f) = true) (hv : mA name = none) (h : Q (.ref f, [.ref x]) s) :
    wpAny (model prog w) A (getMethod (.ref x) name pl) Q E s := by
  obtain ⟨od, J, hl⟩ := I.look
  exact PySem.W.method_fn X J (PySem.W.plainGet_of hg).1 (PySem.W.plainGet_of hg).2 hf (beq_iff_eq.mp ht) (by show (PySem.W.lookIn name od).map (·.isSome) = some false; rw [hl, hv]; rfl) h

theorem set_map {ns : List Str} {Q : Unit → Shared → Prop} (X : K.In s.heap) (I : ObjM s.heap x dx C mA)
    (hs : PySem.W.findIn K (.ref C) "__setattr__" = some (some (.builtin "object.__setattr__"))) (hp : PySem.W.plainOver K C = true) (ht : PySem.W.takerIn K C name = some none) (hh : PySem.W.hasDictIn K C = true)
    (hw : PySem.Within mA ns) (hsz : ns.length ≤ sizeLine)
    (h : ∀ h', ObjM h' x dx C (fun y => if y = name then some v else mA y) → Heap.SameBut dx s.heap h' → Q () { s with heap := h', toks := s.toks + 2 }) :
    wpAny (model prog w) A (setAttr (.ref x) name v) Q E s := by
  obtain ⟨od, J, hl⟩ := I.look
  refine PySem.W.set_plain X J hs (PySem.W.osa_open (s := { s with toks := s.toks + 1 }) (r := none) X J hp ht fun b => ?_)
  obtain ⟨cd, hc, hd'⟩ := PySem.W.any_some hh
  have hx : s.heap.get? x = some ⟨.ref C, some dx, .plain, #[]⟩ := I.obj
  refine wpAny_bind (wpAny_pure (wpAny_bind (wpAny_bind (wpAny_loadPart hx (wpAny_bind (PySem.W.Looks.here (s := { s with toks := s.toks + 1 }) (PySem.W.looks_clsIn X hc) ?_))))))
  rw [hd']
  refine wpAny_pure (a := some dx) (wpAny_bind (wpAny_pure (wpAny_bind ?_)))
  refine wpAny_nsSet1 (s := { s with toks := s.toks + 1 }) I.ns fun h' hn2 hs2 => ?_
  obtain ⟨oD, esD, epD, hoD, hdD, hcD⟩ := hn2.count (PySem.Within.cons name v hw)
  refine wpAny_bind (wpAny_lookBehind hoD (by rw [hdD]; exact pastItsLine_dict (Nat.le_trans hcD (by rw [List.length_cons]; lia))) ?_)
  exact wpAny_pure (h _ ⟨(hs2.2 _ (Ne.symm I.ne)).trans I.obj, hn2, I.ne⟩ hs2)

/-- C(..): the dict at the heap's end, the instance behind it; then its __init__ -/
theorem make_map {R : Result → Shared → Prop} {vs : List Value} {kw : List (Str × Value)} (X : K.In s.heap) (hm : PySem.W.makesIn K C = true)
    (hi : PySem.W.findIn K (.ref C) "__init__" = some (some (.ref f))) (hf : PySem.W.typeIn K (.ref f) = some (.type "function"))
    (h : codeAny (model prog w) (A.under (.builtin "type.__call__" ⟨.ref C :: vs, kw⟩)) (.call (.ref f) ⟨.ref (s.heap.objs.size + 1) :: vs, kw⟩) (PySem.W.InitBack (s.heap.objs.size + 1) R)
      { s with heap := (s.heap.push PySem.W.emptyDict).push (PySem.W.instObj C s.heap.objs.size) }) :
    codeAny (model prog w) A (.call (.ref C) ⟨vs, kw⟩) R s := by
  obtain ⟨hh, g, d, t, os⟩ := s
  exact PySem.W.make_core (PySem.W.makes_of X hm) (PySem.W.looks_findIn X hi) (fun self => PySem.W.bind_fn X self hf) (.inl rfl) h
end

/-! ### the attributes as a list of pairs -/
def putF (f : Str) (v : V) : List (Str × V) → List (Str × V)
  | [] => [(f, v)]
  | (g, x) :: r => if g = f then (g, v) :: r else (g, x) :: putF f v r
theorem lookup_putF (f g : Str) (v : V) : ∀ fs : List (Str × V), (putF f v fs).lookup g = if g = f then some v else fs.lookup g
  | [] => by
    show List.lookup g [(f, v)] = _
    by_cases h : g = f
    · have hb : (g == f) = true := beq_iff_eq.mpr h
      simp only [List.lookup, hb, if_pos h]
    · have hb : (g == f) = false := beq_eq_false_iff_ne.mpr h
      simp only [List.lookup, hb, if_neg h]
  | (k, x) :: r => by
    have ih := lookup_putF f g v r
    rw [show putF f v ((k, x) :: r) = (if k = f then (k, v) :: r else (k, x) :: putF f v r) from rfl]
    by_cases hk : k = f
    · rw [if_pos hk]
      by_cases h : g = k
      · have hb : (g == k) = true := beq_iff_eq.mpr h
        simp only [List.lookup, hb, if_pos (h.trans hk)]
      · have hb : (g == k) = false := beq_eq_false_iff_ne.mpr h
        simp only [List.lookup, hb, if_neg (fun e : g = f => h (e.trans hk.symm))]
    · rw [if_neg hk]
      by_cases h : g = k
      · have hb : (g == k) = true := beq_iff_eq.mpr h
        simp only [List.lookup, hb, if_neg (fun e : g = f => hk (h.symm.trans e))]
      · have hb : (g == k) = false := beq_eq_false_iff_ne.mpr h
        simp only [List.lookup, hb]
        exact ih
theorem keys_putF (f : Str) (v : V) : ∀ fs : List (Str × V), f ∈ (putF f v fs).map (·.1) ∧ ∀ g, g ∈ fs.map (·.1) → g ∈ (putF f v fs).map (·.1)
  | [] => ⟨by simp [putF], fun g h => by simp at h⟩
  | (k, x) :: r => by
    obtain ⟨i1, i2⟩ := keys_putF f v r
    rw [show putF f v ((k, x) :: r) = (if k = f then (k, v) :: r else (k, x) :: putF f v r) from rfl]
    by_cases hk : k = f
    · rw [if_pos hk]
      subst hk
      exact ⟨by simp, fun g h => by simpa using h⟩
    · rw [if_neg hk]
      refine ⟨?_, fun g h => ?_⟩
      · rw [List.map_cons]
        exact List.mem_cons_of_mem _ i1
      · rw [List.map_cons] at h ⊢
        rcases List.mem_cons.mp h with e | e
        · exact List.mem_cons.mpr (.inl e)
        · exact List.mem_cons_of_mem _ (i2 g e)
theorem length_putF (f : Str) (v : V) : ∀ fs : List (Str × V), (putF f v fs).length ≤ fs.length + 1
  | [] => by simp [putF]
  | (k, x) :: r => by
    have ih := length_putF f v r
    rw [show putF f v ((k, x) :: r) = (if k = f then (k, v) :: r else (k, x) :: putF f v r) from rfl]
    by_cases hk : k = f
    · rw [if_pos hk, List.length_cons, List.length_cons]; lia
    · rw [if_neg hk, List.length_cons, List.length_cons]; lia

theorem RelO.some_of {v : V} {o : Option Value} (r : RelO (some v) o) : ∃ u, o = some u ∧ RelV v u := by
  cases o with
  | none => exact (show False from r).elim
  | some u => exact ⟨u, rfl, r⟩
theorem RelO.none_of {o : Option Value} (r : RelO none o) : o = none := by
  cases o with
  | none => rfl
  | some u => exact (show False from r).elim
theorem handed_of {v : V} {u : Value} (r : RelV v u) : PySem.W.handedIn u = true := by
  cases v with
  | non => cases (show u = Value.none from r); rfl
  | bl b => cases (show u = Value.bool b from r); rfl
  | int i => obtain ⟨t, e⟩ := (show ∃ t, u = Value.int i t from r); cases e; rfl
  | str x => obtain ⟨t, e⟩ := (show ∃ t, u = Value.str x t from r); cases e; rfl
  | byt b => obtain ⟨t, e⟩ := (show ∃ t, u = Value.bytes b t from r); cases e; rfl
  | flt b => obtain ⟨t, e⟩ := (show ∃ t, u = Value.float b t from r); cases e; rfl
  | ref a => cases (show u = Value.ref a from r); rfl
  | ty n => cases (show u = Value.type n from r); rfl

section
variable {P : Program} {w : World} {H H' : Hp} {h h' : Heap} {a C dx : Addr} {fs fs' : List (Str × V)}
theorem ins_get (hok : HOk P w H h) (e : H a = some (.ins C dx fs)) : ∃ mA, ObjM h a dx C mA ∧ (∀ f, RelO (fs.lookup f) (mA f)) ∧ PySem.Within mA (fs.map (·.1)) ∧ fs.length ≤ 1000 ∧ H dx = some (.own a) := by
  obtain ⟨d, z, ne, ob, mA, n, r, q⟩ := (show ObjOk P w H h a (.ins C dx fs) from hok a _ e)
  exact ⟨mA, ⟨ob, n, ne⟩, r, q, z, d⟩
end

/-! ### what of the text a class must have -/
structure Cls (K : PySem.W.Frag) (C : Addr) : Prop where
  pg : PySem.W.plainGet K C Str.empty = true
  hd : PySem.W.hasDictIn K C = true
  po : PySem.W.plainOver K C = true
  sa : PySem.W.findIn K (.ref C) "__setattr__" = some (some (.builtin "object.__setattr__"))
theorem Cls.get {K : PySem.W.Frag} {C : Addr} (c : Cls K C) (f : Str) : PySem.W.plainGet K C f = true := c.pg
/-- no class of it has the name -/
def NoAttr (K : PySem.W.Frag) (C : Addr) (f : Str) : Prop := PySem.W.findIn K (.ref C) f = some none
theorem NoAttr.taker {K : PySem.W.Frag} {C : Addr} {f : Str} (n : NoAttr K C f) : PySem.W.takerIn K C f = some none := by
  unfold PySem.W.takerIn
  rw [show PySem.W.findIn K (.ref C) f = some none from n]
  rfl
/-- a method: a plain def of the class or of one above it -/
structure Meth (K : PySem.W.Frag) (C : Addr) (m : Str) (f : Addr) : Prop where
  at_ : PySem.W.findIn K (.ref C) m = some (some (.ref f))
  fn : PySem.W.isFn K (.ref f) = true
  kp : PySem.W.keepIn K (.ref f) = true

section
variable {X : Cx} {pins : List (Addr × Obj)} {σ : St} {H : Hp} {s : Shared} {a C dx : Addr} {fs : List (Str × V)} {f : Str} {v : V} {A : Around} {E : Value → Shared → Prop}

theorem getattr_ok {b : Bool} {Q : Value → Shared → Prop} (I : Inv X pins σ H s) (e : H a = some (.ins C dx fs)) (c : Cls X.K C) (n : NoAttr X.K C f) (l : fs.lookup f = some v)
    (h : ∀ u s', Inv X pins σ H s' → RelV v u → Q u s') : wpAny (model X.prog X.w) A (getAttr (.ref a) f b) Q E s := by
  obtain ⟨mA, O, r, _, _, _⟩ := ins_get I.hok e
  obtain ⟨u, hu, ru⟩ := RelO.some_of (v := v) (o := mA f) (by rw [← l]; exact r f)
  exact get_map I.kIn O (c.get f) c.hd n hu (handed_of ru) (h u _ (I.tok _) ru)


theorem getmeth_ok {m : Str} {g : Addr} {pl : Sem Bool} {Q : Value × List Value → Shared → Prop} (I : Inv X pins σ H s) (e : H a = some (.ins C dx fs)) (c : Cls X.K C) (k : Meth X.K C m g) (l : fs.lookup m = none)
    (h : Q (.ref g, [.ref a]) s) : wpAny (model X.prog X.w) A (getMethod (.ref a) m pl) Q E s := by
  obtain ⟨mA, O, r, _, _, _⟩ := ins_get I.hok e
  have hn : mA m = none := RelO.none_of (by rw [← l]; exact r m)
  exact get_meth I.kIn O (c.get m) k.at_ k.fn hn h

theorem setattr_ok {y : V} {u : Value} {Q : Unit → Shared → Prop} (I : Inv X pins σ H s) (e : H a = some (.ins C dx fs)) (c : Cls X.K C) (n : NoAttr X.K C f) (hl : fs.length < 1000) (ry : RelV y u)
    (h : ∀ s', Inv X pins σ (upd H a (.ins C dx (putF f y fs))) s' → Q () s') : wpAny (model X.prog X.w) A (setAttr (.ref a) f u) Q E s := by
  obtain ⟨mA, O, r, wi, _, ho⟩ := ins_get I.hok e
  have hz : (fs.map (·.1)).length ≤ sizeLine := by rw [List.length_map, sizeLine_eq]; lia
  refine set_map I.kIn O c.sa c.po n.taker c.hd wi hz fun h' O' sb => h _ ?_
  have hd : ∃ o, h'.get? dx = some o := let ⟨o, _, _, e', _⟩ := O'.ns; ⟨o, e'⟩
  refine I.write (x := a) (e := dx) (by rw [e]; exact True.intro) (.inr ho) (fun b q hb z => (sb.2 b hb).trans z) hd ?_
  refine ⟨by rw [upd_ne O.ne]; exact ho, ?_, O.ne, O'.obj, _, O'.ns, fun g => ?_, fun g hg => ?_⟩
  · have := length_putF f y fs; lia
  · show RelO ((putF f y fs).lookup g) (if g = f then some u else mA g)
    rw [lookup_putF]
    by_cases q : g = f
    · rw [if_pos q, if_pos q]; exact ry
    · rw [if_neg q, if_neg q]; exact r g
  · by_cases q : g = f
    · rw [q]; exact (keys_putF f y fs).1
    · refine (keys_putF f y fs).2 g (wi g fun z => hg ?_)
      show (if g = f then some u else mA g) = none
      rw [if_neg q]; exact z

/-- a new instance, tracked, without attributes -/
theorem Inv.made (I : Inv X pins σ H s) : Inv X pins σ (upd (upd H s.heap.objs.size (.own (s.heap.objs.size + 1))) (s.heap.objs.size + 1) (.ins C s.heap.objs.size []))
    { s with heap := (s.heap.push PySem.W.emptyDict).push (PySem.W.instObj C s.heap.objs.size) } := by
  have e1 : (s.heap.push PySem.W.emptyDict).get? s.heap.objs.size = some PySem.W.emptyDict := Heap.get?_push_size s.heap rfl
  have e2 : ((s.heap.push PySem.W.emptyDict).push (PySem.W.instObj C s.heap.objs.size)).get? (s.heap.objs.size + 1) = some (PySem.W.instObj C s.heap.objs.size) := by
    have := Heap.get?_push_size (s.heap.push PySem.W.emptyDict) (o := PySem.W.instObj C s.heap.objs.size) rfl
    rwa [Heap.size_push] at this
  have e3 : (s.heap.push PySem.W.emptyDict).Ns s.heap.objs.size (fun _ => none) := ⟨PySem.W.emptyDict, #[], _, e1, rfl, (fun e he => absurd he (by simp)), fun _ => rfl⟩
  have I1 := I.laid (a := s.heap.objs.size) (o := .own (s.heap.objs.size + 1)) (h' := s.heap.push PySem.W.emptyDict) (t' := s.toks) (fun b u q => Heap.get?_push_of_some _ q) (Nat.le_refl _) ⟨_, e1⟩
  refine I1.laid (a := s.heap.objs.size + 1) (o := .ins C s.heap.objs.size []) (t' := s.toks) (fun b u q => Heap.get?_push_of_some _ q) (Nat.le_of_eq (Heap.size_push _ _)) ?_
  have ne : s.heap.objs.size ≠ s.heap.objs.size + 1 := Nat.ne_of_lt (Nat.lt_succ_self _)
  refine ⟨by rw [upd_ne ne, upd_same], Nat.zero_le _, ne, e2, fun _ => none, (Heap.Ns1.of_empty e3).at fun o q => Heap.get?_push_of_some _ q, fun _ => True.intro, fun y hy => absurd rfl hy⟩

/-- e.f where nothing but the object is asked: through attributeBase (super) and the last hold -/
theorem attr_of {prog : Program} {w : World} {env : Env} {e : Expr} {f : Str} {pos : Pos} {s : Shared} {Q : Value → Shared → Prop} (hb : attributeBase e f env (eval e env) = eval e env)
    (h : wpAny (model prog w) A (eval e env) (fun o s₁ => wpAny (model prog w) A (getAttr o f true) Q E s₁) E s) : wpAny (model prog w) A (eval (.Attribute e f pos) env) Q E s :=
  Attribute_any_ h (by rw [arm_eval_Attribute, hb])
end

/-! ### readings and rules -/
/-- e.f, an attribute of the instance -/
inductive FldI (K : PySem.W.Frag) (f : Str) (x : V) (H1 : Hp) (Q : VK) : Prop
  | mk (a C dx : Addr) (fs : List (Str × V)) (v : V) : x = .ref a → H1 a = some (.ins C dx fs) → Cls K C → NoAttr K C f → fs.lookup f = some v → Q v H1 → FldI K f x H1 Q
def tFld (K : PySem.W.Frag) (ta : TE) (f : Str) : TE := fun σ H Q => ta σ H fun x H1 => FldI K f x H1 Q
/-- e.f = value -/
inductive SFldI (K : PySem.W.Frag) (f : Str) (x y : V) (H2 : Hp) (N : Hp → Prop) : Prop
  | mk (a C dx : Addr) (fs : List (Str × V)) : x = .ref a → H2 a = some (.ins C dx fs) → Cls K C → NoAttr K C f → fs.length < 1000 → N (upd H2 a (.ins C dx (putF f y fs))) → SFldI K f x y H2 N
def sFld (K : PySem.W.Frag) (ta tv : TE) (f : Str) : TS := fun D σ H => tv σ H fun y H1 => ta σ H1 fun x H2 => SFldI K f x y H2 (D.nx σ)
/-- an augmented operator on two values -/
def InOp (X : Cx) (op : Operator) (rd : V → V → Hp → VK → Prop) : Prop :=
  ∀ (pins : List (Addr × Obj)) (s : Shared) (σ : St) (H : Hp) (x y : V) (u v : Value) (Q : VK), Inv X pins σ H s → RelV x u → RelV y v → rd x y H Q → wpAny (model X.prog X.w) X.A (inplaceOp op u v) (EP X pins σ Q) X.xe s
inductive AugI (K : PySem.W.Frag) (f : Str) (x : V) (H1 : Hp) (R : Addr → Addr → V → Prop) : Prop
  | mk (a C dx : Addr) (fs : List (Str × V)) (v : V) : x = .ref a → H1 a = some (.ins C dx fs) → Cls K C → NoAttr K C f → fs.lookup f = some v → R a C v → AugI K f x H1 R
/-- e.f op= value -/
def sFldAug (K : PySem.W.Frag) (ta tv : TE) (rd : V → V → Hp → VK → Prop) (f : Str) : TS := fun D σ H => ta σ H fun x H1 => AugI K f x H1 fun a C v =>
  tv σ H1 fun y H2 => rd v y H2 fun z H3 => ∃ dx' fs', H3 a = some (.ins C dx' fs') ∧ fs'.length < 1000 ∧ D.nx σ (upd H3 a (.ins C dx' (putF f z fs')))

section
variable {X : Cx} {o e value : Expr} {f : Str} {pos pos' tpos : Pos} {ta tv : TE}
theorem pe_fld (he : PE X e ta) (hb : attributeBase e f X.env (eval e X.env) = eval e X.env) : PE X (.Attribute e f pos) (tFld X.K ta f) := by
  intro pins s σ H Q I h
  refine attr_of hb (thn (he pins s σ H _ I h) fun u s1 ⟨x, H1, I1, rx, a, C, dx, fs, v, ex, ea, c, n, l, q⟩ => ?_)
  subst ex
  obtain rfl : u = Value.ref a := rx
  exact getattr_ok I1 ea c n l fun u' s2 I2 ru => ⟨v, H1, I2, ru, q⟩
theorem ps_fld (ha : PE X o ta) (hv : PE X value tv) (hs : swapsWith value (some (.Attribute o f pos')) pos.line X.env = pure false) : PS X (.Assign [.Attribute o f pos'] value pos) (sFld X.K ta tv f) := by
  intro pins s σ H D I h
  refine plainObj_wpAny_Assign_Attribute (thn (hv pins s σ H _ I h) fun u s1 ⟨y, H1, I1, ry, q⟩ => thn (ha pins s1 σ H1 _ I1 q) fun ov s2 ⟨x, H2, I2, rx, a, C, dx, fs, ex, ea, c, n, l, q2⟩ => ?_) hs
  subst ex
  obtain rfl : ov = Value.ref a := rx
  exact setattr_ok I2 ea c n l ry fun s3 I3 => ⟨σ, _, I3, q2⟩
theorem ps_fldaug {op : Operator} {rd : V → V → Hp → VK → Prop} (ha : PE X o ta) (hv : PE X value tv) (hop : InOp X op rd) : PS X (.AugAssign (.Attribute o f tpos) op value pos) (sFldAug X.K ta tv rd f) := by
  intro pins s σ H D I h
  refine wpAny_AugAssign_AttributeAny (thn (ha pins s σ H _ I h) fun ov s1 ⟨x, H1, I1, rx, a, C, dx, fs, v, ex, ea, c, n, l, q⟩ => ?_)
  subst ex
  obtain rfl : ov = Value.ref a := rx
  refine getattr_ok I1 ea c n l fun u s2 I2 ru => thn (hv pins s2 σ H1 _ I2 q) fun w3 s3 ⟨y, H2, I3, ry, q3⟩ => thn (hop pins s3 σ H2 v y u w3 _ I3 ru ry q3) fun w4 s4 ⟨z, H3, I4, rz, dx', fs', ea', l', q4⟩ => ?_
  exact setattr_ok I4 ea' c n l' rz fun s5 I5 => ⟨σ, _, I5, q4⟩
def rAdd : V → V → Hp → VK → Prop := fun x y H Q => ∃ i j, x = .int i ∧ y = .int j ∧ Q (.int (i + j)) H
theorem in_add : InOp X .Add rAdd := by
  rintro pins s σ H x y u v Q I rx ry ⟨i, j, rfl, rfl, q⟩
  obtain ⟨t, rfl⟩ := (show ∃ t, u = Value.int i t from rx)
  obtain ⟨t', rfl⟩ := (show ∃ t', v = Value.int j t' from ry)
  exact PyProof.Rows.iadd_int ⟨.int (i + j), H, I.tok _, ⟨_, rfl⟩, q⟩

end

/-! ### isinstance -/
section
variable {X : Cx} {pins : List (Addr × Obj)} {σ : St} {H : Hp} {s : Shared} {A : Around} {E : Value → Shared → Prop} {Q : Value → Shared → Prop} {c : Value} {b : Bool}
end
end L2

namespace L2
open PySem PySem.Spec PyProof.Rows

/-! ### room -/
structure Room (k : Nat) (A : Around) : Prop where
  hd : A.handled = none
  dp : A.depth + 3 * k + 5 < recursionLimit
  un : A.units + 16 * k + 200 < cLine
theorem Room.mono {j k : Nat} {A : Around} (r : Room k A) (h : j ≤ k) : Room j A := ⟨r.hd, by have := r.dp; lia, by have := r.un; lia⟩
theorem Room.deeper {k : Nat} {A : Around} (r : Room (k + 1) A) (env : Env) : Room k (A.deeper env) :=
  ⟨r.hd, by have := r.dp; show A.depth + 1 + 3 * k + 5 < _; lia, by have := r.un; show A.units + 3 + 16 * k + 200 < _; lia⟩
theorem make_depth {A : Around} {C : Addr} {us : List Value} {kw : List (Str × Value)} : (A.under (.builtin "type.__call__" ⟨.ref C :: us, kw⟩)).depth = A.depth + 1 := by
  first | rfl | simp [Around.under, Code.weight, Code.isCreation, Code.isGuard, Code.isCaller, Code.frames, Code.isFrame, guardIds]
theorem make_units {A : Around} {C : Addr} {us : List Value} {kw : List (Str × Value)} : (A.under (.builtin "type.__call__" ⟨.ref C :: us, kw⟩)).units = A.units + 1 := by
  first | rfl | simp [Around.under, Code.cUnits, Code.frames, Code.isFrame]
theorem Room.make {k : Nat} {A : Around} (r : Room (k + 1) A) (C : Addr) (us : List Value) (kw : List (Str × Value)) : Room k (A.under (.builtin "type.__call__" ⟨.ref C :: us, kw⟩)) :=
  ⟨r.hd, by have := r.dp; rw [make_depth]; lia, by have := r.un; rw [make_units]; lia⟩
theorem Room.depth {k : Nat} {A : Around} (r : Room k A) : A.depth < recursionLimit := by have := r.dp; lia
theorem Room.units {k : Nat} {A : Around} (r : Room k A) : A.units + 64 < cLine := by have := r.un; lia

/-! ### argument lists and displays -/
def tNil : TA := fun _ H Q => Q [] H
def tCons (ta : TE) (tr : TA) : TA := fun σ H Q => ta σ H fun x H1 => tr σ H1 fun xs H2 => Q (x :: xs) H2
section
variable {X : Cx} {e : Expr} {es : List Expr} {te : TE} {t : TA} {pos : Pos}
theorem pa_nil : PA X [] tNil := fun _ _ _ _ H Q I h => Calls.spliced_nil ⟨[], H, I, .nil, h⟩
theorem pa_cons (ha : PE X e te) (hr : PA X es t) (hs : starEach (e :: es) X.env = (false, eval e X.env) :: starEach es X.env := by rfl) : PA X (e :: es) (tCons te t) := by
  intro pos pins s σ H Q I h
  rw [hs]
  show wpAny _ _ (spliced ((false, eval e X.env) :: backTo pos (starEach es X.env))) _ _ s
  refine Calls.spliced_cons (thn (ha pins s σ H _ I h) fun u s1 ⟨x, H1, I1, r1, q1⟩ => ?_)
  exact thn (hr pos pins s1 σ H1 _ I1 q1) fun us s2 ⟨xs, H2, I2, r2, q2⟩ => ⟨x :: xs, H2, I2, .cons r1 r2, q2⟩

/-- a tuple, a list of written items -/
def tTup (t : TA) : TE := fun σ H Q => t σ H fun xs H1 => xs.length ≤ sizeLine ∧ ∀ p, H1 p = none → Q (.ref p) (upd H1 p (.tup xs))
def tLst (t : TA) : TE := fun σ H Q => t σ H fun xs H1 => xs.length ≤ sizeLine ∧ ∀ p, H1 p = none → Q (.ref p) (upd H1 p (.lst xs))
theorem pe_tup {x1} (h : PA X es t) : PE X (.Tuple es x1 pos) (tTup t) := by
  intro pins s σ H Q I hq
  refine wpAny_Tuple_spliced (thn (h pos pins s σ H _ I hq) fun us s1 ⟨xs, H1, I1, r, z, q⟩ => ⟨by rw [← r.length]; exact z, ?_⟩)
  have hf : H1 s1.heap.objs.size = none := I1.hok.fresh (Nat.le_refl _)
  refine ⟨.ref s1.heap.objs.size, upd H1 s1.heap.objs.size (.tup xs), I1.laid (t' := s1.toks) (fun b u e => Heap.get?_push_of_some _ e) (Nat.le_refl _) ?_, rfl, q _ hf⟩
  exact ⟨z, us, r, ⟨_, Heap.get?_push_size _ rfl, rfl, _, rfl⟩⟩
theorem pe_lst (h : PA X es t) : PE X (.List es pos) (tLst t) := by
  intro pins s σ H Q I hq
  refine wpAny_List_spliced (thn (h pos pins s σ H _ I hq) fun us s1 ⟨xs, H1, I1, r, z, q⟩ => ⟨by rw [← r.length]; exact z, ?_⟩)
  have hf : H1 s1.heap.objs.size = none := I1.hok.fresh (Nat.le_refl _)
  refine ⟨.ref s1.heap.objs.size, upd H1 s1.heap.objs.size (.lst xs), I1.laid (t' := s1.toks) (fun b u e => Heap.get?_push_of_some _ e) (Nat.le_refl _) ?_, rfl, q _ hf⟩
  exact ⟨z, us, 0, r, Heap.get?_push_size _ rfl⟩
end

/-! ### what a def promises -/
/-- a def's promise: the bound arguments in the parameters' order, the heap, the wanted end, the wanted exception -/
abbrev Sp := List V → Hp → VK → XK → Prop
/-- how an exception lies behind a call (file 08 gives it): the callers' frames, abstract heap and state ahead of the call, the wish, the exception, the state -/
abbrev CXT := List Env → Hp → Shared → XK → Value → Shared → Prop

/-- the state at a call -/
structure Env0 (P : Program) (w : World) (K : PySem.W.Frag) (mg : Str → Option Value) (base : Heap) (A : Around) (outer : List Env) (s : Shared) (H : Hp) : Prop where
  frames : A.frames = some outer
  mod : Mod K mg base
  bs : ∀ b o, base.get? b = some o → s.heap.get? b = some o ∧ H b = none
  bsz : base.objs.size ≤ s.heap.objs.size
  funs : s.heap.FunFrames base outer
  frf : ∀ b ∈ frs outer, H b = none
  hok : HOk P w H s.heap
  bare : AllBare s.gens
/-- a call's end -/
def CE (outer : List Env) (P : Program) (w : World) (H : Hp) (s : Shared) (Q : VK) (u : Value) (s' : Shared) : Prop :=
  ∃ v H', s'.os = s.os ∧ AllBare s'.gens ∧ Un (frs outer) [] H H' s.heap s'.heap ∧ HOk P w H' s'.heap ∧ RelV v u ∧ Q v H'
def CR (CX : CXT) (outer : List Env) (P : Program) (w : World) (H : Hp) (s : Shared) (Q : VK) (E : XK) (r : Result) (s' : Shared) : Prop :=
  match r with
  | .ok (.ret u) => CE outer P w H s Q u s'
  | .ok _ => False
  | .error e => CX outer H s E e s'
structure FnOk (P : Program) (w : World) (K : PySem.W.Frag) (mg : Str → Option Value) (base : Heap) (CX : CXT) (k : Nat) (f : Addr) (fd : FuncData) (ps : List Str) (sp : Sp) : Prop where
  len : ∀ vs H Q E, sp vs H Q E → vs.length = ps.length
  run : ∀ (A : Around) (outer : List Env) (s : Shared) (H : Hp) (args : Args) (us : List Value) (vs : List V) (Q : VK) (E : XK), Room k A → Env0 P w K mg base A outer s H → BindsTo s fd args (ps.zip us) → Vals vs us → sp vs H Q E →
    codeAny (model P w) A (.call (.ref f) args) (CR CX outer P w H s Q E) s

theorem Env0.make {P : Program} {w : World} {K : PySem.W.Frag} {mg : Str → Option Value} {base : Heap} {A : Around} {outer : List Env} {s : Shared} {H : Hp} (e : Env0 P w K mg base A outer s H) (C : Addr) (us : List Value) (kw : List (Str × Value)) :
    Env0 P w K mg base (A.under (.builtin "type.__call__" ⟨.ref C :: us, kw⟩)) outer s H := ⟨by first | exact e.frames | (simpa [Around.under, Code.envs, Code.isFrame, pushEnvs] using e.frames), e.mod, e.bs, e.bsz, e.funs, e.frf, e.hok, e.bare⟩

section
variable {X : Cx} {pins : List (Addr × Obj)} {σ : St} {H : Hp} {s s' : Shared}
/-- from a body: what a callee wants -/
theorem Inv.env0 (I : Inv X pins σ H s) : Env0 X.prog X.w X.K X.mg X.base X.A X.stack s H :=
  ⟨I.ok.frames, I.ok.mod, I.bs, Nat.le_trans I.ok.bsz I.sz, I.stack, I.stkFree, I.hok, I.bare⟩
/-- behind a call -/
theorem Inv.after {Q : VK} {u : Value} (I : Inv X pins σ H s) (h : CE X.stack X.prog X.w H s Q u s') : EP X pins σ Q u s' := by
  obtain ⟨v, H', os, bare, un, hok, r, q⟩ := h
  obtain ⟨hh, g, d, t, os'⟩ := s'
  obtain rfl : os' = s.os := os
  exact ⟨v, H', I.call (h' := hh) (g' := g) (d' := d) (t' := t) (ch := []) un hok bare (fun b z => absurd z (by simp)), r, q⟩
end

/-! ### calls -/
/-- f(..): the written arguments, then the defaults dvs; E: what is wanted of an exception -/
def tCall (sp : Sp) (dvs : List V) (E : XK) (t : TA) : TE := fun σ H Q => t σ H fun vs H1 => sp (vs ++ dvs) H1 Q E
inductive MethI (C : Addr) (m : Str) (x : V) (H1 : Hp) (R : Prop) : Prop
  | mk (a dx : Addr) (fs : List (Str × V)) : x = .ref a → H1 a = some (.ins C dx fs) → fs.lookup m = none → R → MethI C m x H1 R
/-- o.m(..) of an instance of the class at C -/
def tMeth (C : Addr) (m : Str) (sp : Sp) (dvs : List V) (E : XK) (ta : TE) (t : TA) : TE := fun σ H Q => ta σ H fun x H1 => MethI C m x H1 (t σ H1 fun vs H2 => sp (x :: (vs ++ dvs)) H2 Q E)
/-- C(..): a new instance and its dict, then __init__ -/
def tMake (C : Addr) (sp : Sp) (dvs : List V) (E : XK) (t : TA) : TE := fun σ H Q => t σ H fun vs H1 => ∀ x dx, H1 x = none → H1 dx = none → dx ≠ x →
  sp (.ref x :: (vs ++ dvs)) (upd (upd H1 dx (.own x)) x (.ins C dx [])) (fun v H2 => v = .non ∧ Q (.ref x) H2) E

/-- how the parameters are bound: us the positional arguments, kw the keywords' values by name, ds the defaults that fill up -/
def Binds (K : PySem.W.Frag) (fd : FuncData) (ps : List Str) (ds : List Value) : Prop :=
  ∀ (s : Shared) (us : List Value), K.In s.heap → (us ++ ds).length = ps.length → BindsTo s fd ⟨us, []⟩ (ps.zip (us ++ ds))
/-- every parameter is given -/
theorem Binds.all {K : PySem.W.Frag} {fd : FuncData} {ps : List Str} (h : ∀ us : List Value, us.length = ps.length → bindArgs fd ⟨us, []⟩ = pure (ps.zip us)) : Binds K fd ps [] := fun s us _ hl => by
  rw [List.append_nil] at hl ⊢
  exact .of_eq (h us hl)

/-- an exception of a callee reaches what this body wants of exceptions -/
def Passes (CX : CXT) (X : Cx) (E : XK) : Prop := ∀ (pins : List (Addr × Obj)) (σ : St) (H : Hp) (s : Shared) (e : Value) (s' : Shared), Inv X pins σ H s → CX X.stack H s E e s' → X.xe e s'

section
variable {X : Cx} {CX : CXT} {k : Nat} {f C : Addr} {fd : FuncData} {ps : List Str} {sp : Sp} {dvs : List V} {ds : List Value} {E : XK} {x m : Str} {p pos apos : Pos} {e o : Expr} {es : List Expr} {ta : TE} {t : TA}

/-- the callee runs -/
theorem run_fn {pins : List (Addr × Obj)} {σ : St} {H : Hp} {s : Shared} {Q : VK} {us : List Value} {vs : List V} (F : FnOk X.prog X.w X.K X.mg X.base CX k f fd ps sp) (hr : Room k X.A) (hb : Binds X.K fd ps ds) (hd : Vals dvs ds) (hx : Passes CX X E)
    (I : Inv X pins σ H s) (r : Vals vs us) (h : sp (vs ++ dvs) H Q E) : wpAny (model X.prog X.w) X.A (call (.ref f) us) (EP X pins σ Q) X.xe s := by
  have r2 : Vals (vs ++ dvs) (us ++ ds) := r.append hd
  have hl : (us ++ ds).length = ps.length := by rw [← r2.length]; exact F.len _ _ _ _ h
  refine wpAny_call (codeAny_mono (F.run X.A X.stack s H ⟨us, []⟩ (us ++ ds) (vs ++ dvs) Q E hr I.env0 (hb s us I.kIn hl) r2 h) fun r s' hq => ?_)
  cases r with
  | error e => exact hx pins σ H s e s' I hq
  | ok fl =>
    cases fl with
    | ret u => exact I.after hq
    | next => exact False.elim hq
    | brk => exact False.elim hq
    | cont => exact False.elim hq

theorem pe_call (F : FnOk X.prog X.w X.K X.mg X.base CX k f fd ps sp) (hr : Room k X.A) (hg : Gl X x) (hm : X.mg x = some (.ref f)) (hk : PySem.W.keepIn X.K (.ref f) = true) (hb : Binds X.K fd ps ds) (hd : Vals dvs ds) (hx : Passes CX X E)
    (ha : PA X (e :: es) t) (hdb : (x == ("__debug__" : Str)) = false := by decide) (he : starEach (e :: es) X.env = (false, eval e X.env) :: starEach es X.env := by rfl) (hpl : (backTo pos (starEach es X.env)).any (·.1) = false := by rfl) :
    PE X (.Call (.Name x p) (e :: es) [] pos) (tCall sp dvs E t) := by
  intro pins s σ H Q I h
  refine wpAny_Call_Name_kw (ld_glob I hg hm ?_ hdb)
  refine PySem.W.callWith_K (h₀ := X.base) I.ok.mod.kin hk (thn (ha pos pins s σ H _ I h) fun us s1 ⟨vs, H1, I1, r, q⟩ => ⟨I1.kIn, ?_⟩) he hpl
  exact run_fn F hr hb hd hx I1 r q

/-- o.m(e, ..) -/
theorem pe_meth {pl : Sem Bool} (he : PE X o ta) (c : Cls X.K C) (hm : Meth X.K C m f) (F : FnOk X.prog X.w X.K X.mg X.base CX k f fd ps sp) (hr : Room k X.A) (hb : Binds X.K fd ps ds) (hd : Vals dvs ds) (hx : Passes CX X E) (ha : PA X (e :: es) t)
    (hst : starEach (e :: es) X.env = (false, eval e X.env) :: starEach es X.env := by rfl) (hpl : (backTo pos (starEach es X.env)).any (·.1) = false := by rfl)
    (ht : eval (.Call (.Attribute o m apos) (e :: es) [] pos) X.env = (do
      let ov ← eval o X.env
      standAt apos.atName
      let (f, first) ← holding [ov] (getMethod ov m pl)
      callWith pos f first (backTo pos (starEach (e :: es) X.env)) (backToKw pos (keywordEach [] X.env))) := by rfl) :
    PE X (.Call (.Attribute o m apos) (e :: es) [] pos) (tMeth C m sp dvs E ta t) := by
  intro pins s σ H Q I h
  refine PySem.W.methodCall_KW (pl := pl) (thn (he pins s σ H _ I h) fun u s1 ⟨x, H1, I1, rx, a, dx, fs, ex, ea, l, q⟩ => ?_) ht
  subst ex
  obtain rfl : u = Value.ref a := rx
  refine getmeth_ok I1 ea c hm l ?_
  refine PySem.W.callWith_K (first := [.ref a]) (h₀ := X.base) I.ok.mod.kin hm.kp (thn (ha pos pins s1 σ H1 _ I1 q) fun us s2 ⟨vs, H2, I2, r, q2⟩ => ⟨I2.kIn, ?_⟩) hst hpl
  exact run_fn (us := .ref a :: us) (vs := .ref a :: vs) F hr hb hd hx I2 (.cons rfl r) q2
/-- o.m() -/
theorem pe_meth0 {pl : Sem Bool} (he : PE X o ta) (c : Cls X.K C) (hm : Meth X.K C m f) (F : FnOk X.prog X.w X.K X.mg X.base CX k f fd ps sp) (hr : Room k X.A) (hb : Binds X.K fd ps ds) (hd : Vals dvs ds) (hx : Passes CX X E)
    (ht : eval (.Call (.Attribute o m apos) [] [] pos) X.env = (do
      let ov ← eval o X.env
      standAt apos.atName
      let (f, first) ← holding [ov] (getMethod ov m pl)
      callWith pos f first (backTo pos (starEach [] X.env)) (backToKw pos (keywordEach [] X.env))) := by rfl) :
    PE X (.Call (.Attribute o m apos) [] [] pos) (tMeth C m sp dvs E ta tNil) := by
  intro pins s σ H Q I h
  refine PySem.W.methodCall_KW (pl := pl) (thn (he pins s σ H _ I h) fun u s1 ⟨x, H1, I1, rx, a, dx, fs, ex, ea, l, q⟩ => ?_) ht
  subst ex
  obtain rfl : u = Value.ref a := rx
  refine getmeth_ok I1 ea c hm l ?_
  exact PySem.W.callWith_K0 (first := [.ref a]) I1.kIn hm.kp (run_fn (us := [.ref a]) (vs := [.ref a]) F hr hb hd hx I1 (.cons rfl .nil) q)

/-- what a class must have to be made -/
structure Mk (K : PySem.W.Frag) (C f : Addr) : Prop where
  makes : PySem.W.makesIn K C = true
  init : PySem.W.findIn K (.ref C) "__init__" = some (some (.ref f))
  fn : PySem.W.isFn K (.ref f) = true
  kp : PySem.W.keepIn K (.ref C) = true

theorem run_make {pins : List (Addr × Obj)} {σ : St} {H : Hp} {s : Shared} {Q : VK} {us : List Value} {vs : List V} (M : Mk X.K C f) (F : FnOk X.prog X.w X.K X.mg X.base CX k f fd ps sp) (hr : Room (k + 1) X.A) (hb : Binds X.K fd ps ds) (hd : Vals dvs ds)
    (hx : Passes CX X E) (I : Inv X pins σ H s) (r : Vals vs us)
    (h : ∀ x dx, H x = none → H dx = none → dx ≠ x → sp (.ref x :: (vs ++ dvs)) (upd (upd H dx (.own x)) x (.ins C dx [])) (fun v H2 => v = .non ∧ Q (.ref x) H2) E) :
    wpAny (model X.prog X.w) X.A (call (.ref C) us) (EP X pins σ Q) X.xe s := by
  have hq := h (s.heap.objs.size + 1) s.heap.objs.size (I.hok.fresh (Nat.le_succ _)) (I.hok.fresh (Nat.le_refl _)) (Nat.ne_of_lt (Nat.lt_succ_self _))
  have I2 := Inv.made (C := C) I
  have r2 : Vals (V.ref (s.heap.objs.size + 1) :: (vs ++ dvs)) (Value.ref (s.heap.objs.size + 1) :: (us ++ ds)) := .cons rfl (r.append hd)
  have hl : (Value.ref (s.heap.objs.size + 1) :: us ++ ds).length = ps.length := by
    have e := r2.length
    rw [F.len _ _ _ _ hq] at e
    exact e.symm
  refine wpAny_call (make_map (f := f) I.kIn M.makes M.init (beq_iff_eq.mp M.fn) (codeAny_mono (F.run _ X.stack _ _ ⟨Value.ref (s.heap.objs.size + 1) :: us, []⟩ (Value.ref (s.heap.objs.size + 1) :: (us ++ ds)) _ _ E (hr.make C us [])
    (I2.env0.make C us []) (hb _ (Value.ref (s.heap.objs.size + 1) :: us) I2.kIn hl) r2 hq) fun r s' hq' => ?_))
  cases r with
  | error e => exact hx pins σ _ _ e s' I2 hq'
  | ok fl =>
    cases fl with
    | ret u =>
      obtain ⟨v, H', I3, rv, ev, q3⟩ := I2.after hq'
      subst ev
      exact ⟨rv, ⟨V.ref (s.heap.objs.size + 1), H', I3, rfl, q3⟩⟩
    | next => exact False.elim hq'
    | brk => exact False.elim hq'
    | cont => exact False.elim hq'
theorem pe_make (M : Mk X.K C f) (F : FnOk X.prog X.w X.K X.mg X.base CX k f fd ps sp) (hr : Room (k + 1) X.A) (hg : Gl X x) (hm : X.mg x = some (.ref C)) (hb : Binds X.K fd ps ds) (hd : Vals dvs ds) (hx : Passes CX X E)
    (ha : PA X (e :: es) t) (hdb : (x == ("__debug__" : Str)) = false := by decide) (he : starEach (e :: es) X.env = (false, eval e X.env) :: starEach es X.env := by rfl) (hpl : (backTo pos (starEach es X.env)).any (·.1) = false := by rfl) :
    PE X (.Call (.Name x p) (e :: es) [] pos) (tMake C sp dvs E t) := by
  intro pins s σ H Q I h
  refine wpAny_Call_Name_kw (ld_glob I hg hm ?_ hdb)
  refine PySem.W.callWith_K (h₀ := X.base) I.ok.mod.kin M.kp (thn (ha pos pins s σ H _ I h) fun us s1 ⟨vs, H1, I1, r, q⟩ => ⟨I1.kIn, ?_⟩) he hpl
  exact run_make M F hr hb hd hx I1 r q
theorem pe_make0 (M : Mk X.K C f) (F : FnOk X.prog X.w X.K X.mg X.base CX k f fd ps sp) (hr : Room (k + 1) X.A) (hg : Gl X x) (hm : X.mg x = some (.ref C)) (hb : Binds X.K fd ps ds) (hd : Vals dvs ds) (hx : Passes CX X E)
    (hdb : (x == ("__debug__" : Str)) = false := by decide) : PE X (.Call (.Name x p) [] [] pos) (tMake C sp dvs E tNil) := by
  intro pins s σ H Q I h
  refine wpAny_Call_Name_kw (ld_glob I hg hm ?_ hdb)
  exact PySem.W.callWith_K0 I.kIn M.kp (run_make (us := []) M F hr hb hd hx I .nil h)
end

/-! ### keywords -/
section
variable {X : Cx} {CX : CXT} {k : Nat} {f C : Addr} {fd : FuncData} {ps ks : List Str} {sp : Sp} {E : XK} {x m : Str} {p pos apos kpos : Pos} {e o : Expr} {es : List Expr} {kws : List Keyword} {te ta : TE} {t tk : TA} {nm : Option Str}

variable {g : List Value → List Value → List Value} {gV : List V → List V → List V}
end

/-! ### a def's body keeps its promise -/
/-- names: the parameters first -/
structure FnScope (N P : List Str) (sc : Scope) : Prop where
  kind : sc.kind = .function
  co : sc.isCoroutine = false
  gen : sc.isGenerator = false
  nd : N.Nodup
  pre : N.take P.length = P
  par : ∀ x ∈ P, sc.names.lookup x = some .local ∨ sc.names.lookup x = some .cell
  nofree : ∀ y ∈ sc.names, y.2 ≠ .free

theorem bindL_out {kindOf : Str → Option NameKind} {x : Str} : ∀ {binds : List (Str × Value)} {m : Str → Option Value}, (∀ v, (x, v) ∉ binds) → bindL kindOf binds m x = m x
  | [], _, _ => rfl
  | (n, v) :: r, m, h => by
    unfold bindL
    rw [bindL_out fun w hw => h w (List.mem_cons_of_mem _ hw)]
    split
    · have : x ≠ n := by rintro rfl; exact h v List.mem_cons_self
      simp [this]
    · rfl
theorem bindC_out {kindOf : Str → Option NameKind} {x : Str} : ∀ {binds : List (Str × Value)} {m : Str → Option Value}, (∀ v, (x, v) ∉ binds) → bindC kindOf binds m x = m x
  | [], _, _ => rfl
  | (n, v) :: r, m, h => by
    unfold bindC
    rw [bindC_out fun w hw => h w (List.mem_cons_of_mem _ hw)]
    split
    · rfl
    · have : x ≠ n := by rintro rfl; exact h v List.mem_cons_self
      simp [this]
theorem bindL_get {kindOf : Str → Option NameKind} {x : Str} {v : Value} : ∀ {P : List Str} {vs : List Value} {i : Nat} {m : Str → Option Value}, P.Nodup → P[i]? = some x → vs[i]? = some v → kindOf x = some .local →
    bindL kindOf (P.zip vs) m x = some v
  | [], _, _, _, _, h, _, _ => by simp at h
  | _ :: _, [], _, _, _, _, h, _ => by simp at h
  | p :: P, w :: vs, 0, m, nd, h1, h2, hk => by
    simp at h1 h2; subst h1; subst h2
    show bindL kindOf ((p, w) :: P.zip vs) m p = _
    unfold bindL
    rw [bindL_out fun v hv => (List.nodup_cons.mp nd).1 (List.of_mem_zip hv).1, if_pos hk]
    simp
  | p :: P, w :: vs, i + 1, m, nd, h1, h2, hk => by
    show bindL kindOf ((p, w) :: P.zip vs) m x = _
    unfold bindL
    exact bindL_get (i := i) (List.nodup_cons.mp nd).2 (by simpa using h1) (by simpa using h2) hk
theorem bindC_get {kindOf : Str → Option NameKind} {x : Str} {v : Value} : ∀ {P : List Str} {vs : List Value} {i : Nat} {m : Str → Option Value}, P.Nodup → P[i]? = some x → vs[i]? = some v → kindOf x ≠ some .local →
    bindC kindOf (P.zip vs) m x = some v
  | [], _, _, _, _, h, _, _ => by simp at h
  | _ :: _, [], _, _, _, _, h, _ => by simp at h
  | p :: P, w :: vs, 0, m, nd, h1, h2, hk => by
    simp at h1 h2; subst h1; subst h2
    show bindC kindOf ((p, w) :: P.zip vs) m p = _
    unfold bindC
    rw [bindC_out fun v hv => (List.nodup_cons.mp nd).1 (List.of_mem_zip hv).1, if_neg hk]
    simp
  | p :: P, w :: vs, i + 1, m, nd, h1, h2, hk => by
    show bindC kindOf ((p, w) :: P.zip vs) m x = _
    unfold bindC
    exact bindC_get (i := i) (List.nodup_cons.mp nd).2 (by simpa using h1) (by simpa using h2) hk

/-- the names' values at the entry -/
def start (N : List Str) (vs : List V) : St := vs.map some ++ List.replicate (N.length - vs.length) none

/-- the context of a def's body, at its entry; an exception leaves the frame, then lies as CX says -/
def cxOf (CX : CXT) (P : Program) (w : World) (K : PySem.W.Frag) (mg : Str → Option Value) (base : Heap) (N : List Str) (qual : Str) (scope : Scope) (f : Addr) (cd : Value) (A : Around) (outer : List Env) (s : Shared) (H : Hp) (E : XK) : Cx where
  prog := P
  w := w
  K := K
  mg := mg
  base := base
  A := A.deeper (envOfC qual scope s.heap.objs.size f cd)
  N := N
  s_0 := s
  H_0 := H
  env := envOfC qual scope s.heap.objs.size f cd
  outer := outer
  stack := envOfC qual scope s.heap.objs.size f cd :: outer
  ex := []
  calm := true
  fn := fun _ => true
  pn := []
  xe := fun e s' => wpAny (model P w) (A.deeper (envOfC qual scope s.heap.objs.size f cd)) (leaving (envOfC qual scope s.heap.objs.size f cd) e) (fun _ s'' => CX outer H s E e s'') (fun e' s'' => CX outer H s E e' s'') s'

theorem cell_has {sc : Scope} {n : Nat} {x : Str} (h : sc.names.lookup x = some .cell) : ∃ c, (cellsFrom n sc.names []).lookup x = some c := by
  have q := PySem.W.cellsFrom_some sc.names n [] (.inl h)
  exact Option.isSome_iff_exists.mp q

theorem inv_start {CX : CXT} {P : Program} {w : World} {K : PySem.W.Frag} {mg : Str → Option Value} {base : Heap} {N ps : List Str} {qual : Str} {scope : Scope} {f : Addr} {cd : Value} {A : Around} {outer : List Env} {s s1 : Shared} {H : Hp} {E : XK} {us : List Value} {vs : List V}
    (S : FnScope N ps scope) (hd : A.handled = none) (e0 : Env0 P w K mg base A outer s H) (hl : vs.length = ps.length) (r : Vals vs us)
    (x : InCallC s s.heap.objs.size (bindL (envOfC qual scope s.heap.objs.size f cd).kindOf (ps.zip us) fun _ => none) (cellsFrom (s.heap.objs.size + 1) scope.names []) (bindC (envOfC qual scope s.heap.objs.size f cd).kindOf (ps.zip us) fun _ => none) s1) :
    Inv (cxOf CX P w K mg base N qual scope f cd A outer s H E) [] (start N vs) H s1 := by
  have hpl : ps.length ≤ N.length := by have := congrArg List.length S.pre; rw [List.length_take] at this; lia
  obtain ⟨h1, tk, rfl, hk⟩ := x.done
  have noA : ∀ b : Addr, b ∉ (cxOf CX P w K mg base N qual scope f cd A outer s H E).ex := fun b z => absurd (show b ∈ ([] : List Addr) from z) (by simp)
  refine ⟨⟨e0.mod, S.kind, rfl, rfl, Nat.le_refl _, fun y z c h1 h2 => ?_, fun y hy => ?_, fun y c _ h => ?_, fun _ => hd, Around.frames_deeper e0.frames, .inr ⟨rfl, rfl⟩, fun b z => absurd z (noA b), e0.bs, e0.bsz, fun b _ _ => noA b, fun b z => absurd z (noA b), e0.funs, e0.frf⟩,
    rfl, e0.bare, Un.kept hk, ⟨_, x.toInCall.ns, fun i y v h1 h2 h3 => ?_⟩, fun y c h => ⟨_, x.cell y c h⟩, e0.hok.fresh (Nat.le_refl _), fun y c h => ?_, fun p hp => absurd (show p ∈ ([] : List (Addr × Obj)) from hp) (by simp), e0.hok.kept hk, ?_⟩
  · exact name_of_addr x.apart (PySem.mem_of_lookup h1) (PySem.mem_of_lookup h2)
  · have hy : scope.names.lookup y = some .cell ∨ scope.names.lookup y = some .free := hy
    rcases hy with hy | hy
    · exact cell_has hy
    · exact absurd rfl (S.nofree _ (PySem.mem_of_lookup hy))
  · exact Nat.le_of_lt (x.above y c (PySem.mem_of_lookup h))
  · have hi : i < vs.length := by
      unfold start at h2
      by_cases hi : i < vs.length
      · exact hi
      · rw [List.getElem?_append_right (by simpa using hi)] at h2
        rw [List.getElem?_replicate] at h2
        split at h2 <;> cases h2
    have ha : vs[i]? = some v := by
      unfold start at h2
      rw [List.getElem?_append_left (by simpa using hi), List.getElem?_map] at h2
      cases e : vs[i]? with
      | none => rw [e] at h2; cases h2
      | some a => rw [e] at h2; cases h2; rfl
    obtain ⟨u, hu, rv⟩ := r.get ha
    have hp : ps[i]? = some y := by
      rw [← S.pre, List.getElem?_take_of_lt (by lia)]; exact h1
    have ndP : ps.Nodup := by rw [← S.pre]; exact S.nd.sublist (List.take_sublist _ _)
    refine ⟨u, rv, ?_⟩
    rcases S.par y (List.mem_of_getElem? hp) with k | k
    · exact .inl ⟨k, bindL_get ndP hp hu k⟩
    · obtain ⟨c, e⟩ := cell_has (n := s.heap.objs.size + 1) k
      refine .inr ⟨.inl k, c, e, ?_⟩
      have q := x.cell y c e
      rw [bindC_get ndP hp hu (by show scope.names.lookup y ≠ _; rw [k]; decide)] at q
      exact q
  · exact e0.hok.fresh (Nat.le_of_lt (x.above y c (PySem.mem_of_lookup h)))
  · unfold start
    show _ = N.length
    rw [List.length_append, List.length_map, List.length_replicate]
    lia

/-- THE RULE: a def (or a method) of the text, by its body. The body's reading t is chosen for each entry; it is run at the parameters' values -/
theorem fn_of {CX : CXT} {P : Program} {w : World} {K : PySem.W.Frag} {mg : Str → Option Value} {base : Heap} {k : Nat} {f : Addr} {name qual : Str} {params : Arguments} {body : List Stmt} {scope : Scope} {dV kV doc pm cdv ct oc : Value} {an od : Option Addr}
    {osl : Array (Option Value)} {N ps : List Str} {sp : Sp} (lk : K.lookup f = some ⟨oc, od, .func (PySem.W.fnOf name qual params body scope dV kV doc pm an cdv ct), osl⟩) (hcd : PySem.W.codeIn K cdv qual = true) (S : FnScope N ps scope)
    (len : ∀ vs H Q E, sp vs H Q E → vs.length = ps.length)
    (hbody : ∀ (A : Around) (outer : List Env) (s : Shared) (H : Hp) (vs : List V) (Q : VK) (E : XK), Room k (A.deeper (envOfC qual scope s.heap.objs.size f cdv)) → sp vs H Q E →
      ∃ t, PSs (cxOf CX P w K mg base N qual scope f cdv A outer s H E) body t ∧ t { nx := fun _ H' => Q .non H', rt := Q } (start N vs) H) :
    FnOk P w K mg base CX (k + 1) f (PySem.W.fnOf name qual params body scope dV kV doc pm an cdv ct) ps sp := by
  refine ⟨len, fun A outer s H args us vs Q E hr e0 hb r hsp => ?_⟩
  have hl := len _ _ _ _ hsp
  have KX : K.In s.heap := e0.mod.kin.keeps fun b o e => (e0.bs b o e).1
  have lim : s.heap.NoLimit := e0.mod.nolimit.keeps fun b o e => (e0.bs b o e).1
  have hkind : ∀ y ∈ ps.zip us, scope.names.lookup y.1 = some .local ∨ (scope.names.lookup y.1 = some .cell ∧ ((cellsFrom (s.heap.objs.size + 1) scope.names []).lookup y.1).isSome = true) := fun ⟨n, v⟩ hy => by
    rcases S.par n (List.of_mem_zip hy).1 with q | q
    · exact .inl q
    · exact .inr ⟨q, PySem.W.cellsFrom_some _ _ _ (.inl q)⟩
  refine codeAny_call_function hr.depth (KX _ _ lk) rfl S.co S.gen rfl (PySem.W.codeRec_of KX hcd) (hb _ _ _ _ ?_)
  refine wpAny_newFunctionEnv_cells S.kind hkind fun env he s1 x => ?_
  subst he
  refine ⟨lim.keeps x.toInCall.keep, codeAny_func ?_⟩
  obtain ⟨t, ht, hq⟩ := hbody A outer s H vs Q E (hr.deeper _) hsp
  have I : Inv (cxOf CX P w K mg base N qual scope f cdv A outer s H E) [] (start N vs) H s1 := inv_start S hr.hd e0 hl r x
  refine wpAny_mono (ht [] s1 (start N vs) H _ I hq) (fun fl s' hs => ?_) fun e s' hs => hs
  have fin : ∀ {σ' : St} {H' : Hp} {v : V} {u : Value}, Inv (cxOf CX P w K mg base N qual scope f cdv A outer s H E) [] σ' H' s' → RelV v u → Q v H' → CE outer P w H s Q u s' :=
    fun {σ' H' v u} J rv q => ⟨v, H', J.os, J.bare, J.base, J.hok, rv, q⟩
  cases fl with
  | ret u =>
    obtain ⟨v, σ', H', J, rv, q⟩ := hs
    exact fin J rv q
  | next =>
    obtain ⟨σ', H', J, q⟩ := hs
    exact fin (v := V.non) (u := Value.none) J rfl q
  | brk =>
    obtain ⟨_, _, _, q⟩ := hs
    exact False.elim q
  | cont =>
    obtain ⟨_, _, _, q⟩ := hs
    exact False.elim q
end L2

namespace L2
open PySem PySem.Spec PyProof.Rows
section
variable {X : Cx} {x : Str} {p pos : Pos} {e : Expr} {es : List Expr} {t : TA} {id T : String} {r : List V → Hp → VK → Prop}

def tCB (r : List V → Hp → VK → Prop) (t : TA) : TE := fun σ H Q => t σ H fun vs H1 => r vs H1 Q
/-- f(e, ..), f a built-in function -/
theorem pe_callB (hc : CallR X (.builtin id) r) (hg : Gl X x) (hm : X.mg x = none) (hv : bootBuiltins x = some (.builtin id)) (ha : PA X (e :: es) t) (hn : x ≠ "__name__" := by decide) (hdb : (x == ("__debug__" : Str)) = false := by decide)
    (he : starEach (e :: es) X.env = (false, eval e X.env) :: starEach es X.env := by rfl) (hpl : (backTo pos (starEach es X.env)).any (·.1) = false := by rfl) : PE X (.Call (.Name x p) (e :: es) [] pos) (tCB r t) := by
  intro pins s σ H Q I h
  refine wpAny_Call_Name_kw (ld_blt I hg hm hv ?_ hn hdb)
  exact PyProof.Rows.callWith_builtin1 (thn (ha pos pins s σ H _ I h) fun us s1 ⟨vs, H1, I1, r1, q1⟩ => hc pins s1 σ H1 vs us Q I1 r1 q1) he hpl
end
end L2

namespace HT
open PySem PyProof.Rows



section
open PySem.SeqAt
open PySem.AutoSeq1 (wpAny_loadPart')
open PySem.MeetsSeq PySem.MeetsSeq2 PySem.MeetsSeq3

end

section
variable {prog : Program} {w : World} {A : Around} {E : Value → Shared → Prop} {s : Shared}



/-! ### t[a:b], not the whole -/
/-- a slice's bound as a place among n (d where it is left out) -/
def sIx (n d : Nat) : Option Int → Nat
  | none => d
  | some v => if v < 0 then (v + (n : Int)).toNat else min v.toNat n
theorem sIx_none (n d : Nat) : sIx n d none = d := rfl
theorem sIx_nat (n d k : Nat) : sIx n d (some (k : Int)) = min k n := by
  show (if (k : Int) < 0 then ((k : Int) + (n : Int)).toNat else min (k : Int).toNat n) = min k n
  rw [if_neg (by lia), Int.toNat_natCast]

end
end HT

namespace L2
open PySem PySem.Spec PyProof.Rows

/-! ### the parts of a slice -/
abbrev TO := St → Hp → (Option Int → Hp → Prop) → Prop
/-- a slice's part (left out, or an int) -/
def PO (X : Cx) (e : Option Expr) (t : TO) : Prop :=
  ∀ (pins : List (Addr × Obj)) (s : Shared) (σ : St) (H : Hp) (Q : Option Int → Hp → Prop), Inv X pins σ H s → t σ H Q →
    wpAny (model X.prog X.w) X.A (evalPart e X.env) (fun u s' => ∃ o H', Inv X pins σ H' s' ∧ IsPart u o ∧ Q o H') X.xe s
def tNoPart : TO := fun _ H Q => Q none H
def tPart (t : TE) : TO := fun σ H Q => t σ H fun x H1 => ∃ i, x = .int i ∧ Q (some i) H1


section
variable {X : Cx} {e : Expr} {te : TE} {lo hi : Option Expr} {tl th : TO} {pos p2 : Pos}

theorem po_none : PO X none tNoPart := by
  intro pins s σ H Q I h
  rw [evalPart_none]
  exact wpAny_pure ⟨none, H, I, .none, h⟩
theorem po_some (h : PE X e te) : PO X (some e) (tPart te) := by
  intro pins s σ H Q I hw
  rw [evalPart_some]
  refine thn (h pins s σ H _ I hw) fun u s1 ⟨x, H1, I1, r1, q1⟩ => ?_
  obtain ⟨i, rfl, q⟩ := q1
  obtain ⟨t, rfl⟩ := r1
  exact ⟨some i, H1, I1, .int i t, q⟩

/-- what a slice of a value is, by values: the slice object stands at sl -/
def SlR (X : Cx) (r : V → Option Int → Option Int → Hp → VK → Prop) : Prop :=
  ∀ (pins : List (Addr × Obj)) (s : Shared) (σ : St) (H : Hp) (x : V) (v vl vu : Value) (lo hi : Option Int) (sl : Addr) (Q : VK), Inv X pins σ H s → RelV x v → s.heap.IsSliceOf sl vl vu .none → IsPart vl lo → IsPart vu hi → r x lo hi H Q →
    ∃ T id, typeLookup (.type T) "__getitem__" = pure (some (.builtin id)) ∧ s.TypeIs v T ∧ wpAny (model X.prog X.w) X.A (getItem v (.ref sl)) (EP X pins σ Q) X.xe s
def tSl (r : V → Option Int → Option Int → Hp → VK → Prop) (te : TE) (tl th : TO) : TE := fun σ H Q => te σ H fun x H1 => tl σ H1 fun l H2 => th σ H2 fun u H3 => r x l u H3 Q
/-- a[lo:hi], any a -/
theorem pe_slice {r : V → Option Int → Option Int → Hp → VK → Prop} (hr : SlR X r) (he : PE X e te) (hl : PO X lo tl) (hu : PO X hi th) : PE X (.Subscript e (.Slice lo hi none p2) pos) (tSl r te tl th) := by
  intro pins s σ H Q I h
  refine Subscript_ (thn (he pins s σ H _ I h) fun v s1 ⟨x, H1, I1, r1, q1⟩ => ?_)
  refine wpAny_Slice (thn (hl pins s1 σ H1 _ I1 q1) fun vl s2 ⟨l, H2, I2, pl, q2⟩ => thn (hu pins s2 σ H2 _ I2 q2) fun vu s3 ⟨u, H3, I3, pu, q3⟩ => ?_)
  rw [evalPart_none]
  refine wpAny_pure ?_
  have I4 : Inv X pins σ H3 { s3 with heap := s3.heap.push { cls := .type "slice", data := .fields #[vl, vu, .none] } } := I3.kept (t' := s3.toks) fun b ob q => Heap.get?_push_of_some _ q
  obtain ⟨T, id, hT, ht, hg⟩ := hr pins { s3 with heap := s3.heap.push { cls := .type "slice", data := .fields #[vl, vu, .none] } } σ H3 x v vl vu l u s3.heap.objs.size Q I4 r1 (Heap.IsSliceOf.new ..) pl pu q3
  show wpAny (model X.prog X.w) X.A (subscriptTail e (.Slice lo hi none p2) v (.ref s3.heap.objs.size)) (EP X pins σ Q) X.xe { s3 with heap := s3.heap.push { cls := .type "slice", data := .fields #[vl, vu, .none] } }
  exact tail_any (ops := [.ref s3.heap.objs.size, v]) ht hT hg (by with_unfolding_all rfl)

/-- the items of xs[lo:hi] -/
def cutV (xs : List V) (lo hi : Option Int) : List V := (xs.drop (HT.sIx xs.length 0 lo)).take (HT.sIx xs.length xs.length hi - HT.sIx xs.length 0 lo)
theorem cutV_length (xs : List V) (lo hi : Option Int) : (cutV xs lo hi).length ≤ xs.length := by
  unfold cutV
  rw [List.length_take, List.length_drop]
  lia

/-! ### t < u, t + u -/
end
end L2

namespace L2
open PySem PySem.Spec PyProof.Rows

/-! ### places -/
/-- the place that an index of any sign means -/
def ixN (n : Nat) (i : Int) : Option Nat := if 0 ≤ i then (if i < n then some i.toNat else none) else if -(n : Int) ≤ i then some (i + n).toNat else none
def atI {α : Type} (xs : List α) (i : Int) : Option α := (ixN xs.length i).bind fun j => xs[j]?
theorem ixN_seq {n : Nat} {i : Int} {j : Nat} (h : ixN n i = some j) : seqIndex? i n = some j ∧ j < n ∧ -(n : Int) ≤ i ∧ i < n := by
  unfold ixN at h
  by_cases h0 : 0 ≤ i
  · rw [if_pos h0] at h
    by_cases h1 : i < n
    · rw [if_pos h1] at h
      have e : i.toNat = j := Option.some.inj h
      exact ⟨by rw [seqIndex_of h0 h1, e], by lia, by lia, h1⟩
    · rw [if_neg h1] at h; cases h
  · rw [if_neg h0] at h
    by_cases h1 : -(n : Int) ≤ i
    · rw [if_pos h1] at h
      have e : (i + n).toNat = j := Option.some.inj h
      exact ⟨by rw [seqIndex_neg (by lia) h1, e], by lia, h1, by lia⟩
    · rw [if_neg h1] at h; cases h
theorem atI_get {α : Type} {xs : List α} {i : Int} {v : α} (h : atI xs i = some v) : ∃ j, seqIndex? i xs.length = some j ∧ xs[j]? = some v ∧ j < xs.length ∧ -(xs.length : Int) ≤ i ∧ i < xs.length := by
  unfold atI at h
  cases e : ixN xs.length i with
  | none => rw [e] at h; cases h
  | some j =>
    rw [e] at h
    obtain ⟨h1, h2, h3, h4⟩ := ixN_seq e
    exact ⟨j, h1, h, h2, h3, h4⟩
theorem atI_nat {α : Type} {xs : List α} {j : Nat} {v : α} (h : xs[j]? = some v) : atI xs (j : Int) = some v := by
  have hj : j < xs.length := (List.getElem?_eq_some_iff.mp h).1
  have e : ixN xs.length (j : Int) = some j := by
    unfold ixN
    rw [if_pos (by lia), if_pos (by lia)]; simp
  unfold atI; rw [e]; exact h

/-! ### what may be subscripted -/
/-- what stands as an index of a plain subscript -/
def PlainIx (b : Expr) : Prop := ∀ o i, subscripted b false o i = operate [o, i] (getItem o i)
/-- a subscript by values -/
def IxR (X : Cx) (r : R2) : Prop :=
  ∀ (value slice : Expr) (pins : List (Addr × Obj)) (s : Shared) (σ : St) (H : Hp) (x y : V) (v u : Value) (Q : VK), Inv X pins σ H s → RelV x v → RelV y u → r x y H Q →
    subscripted slice false v u = operate [v, u] (getItem v u) → wpAny (model X.prog X.w) X.A (subscriptTail value slice v u) (EP X pins σ Q) X.xe s
/-- a call of a builtin's method by values: the receiver, the arguments -/
def MtR (X : Cx) (id : String) (r : V → List V → Hp → VK → Prop) : Prop :=
  ∀ (pins : List (Addr × Obj)) (s : Shared) (σ : St) (H : Hp) (x : V) (xs : List V) (v : Value) (us : List Value) (Q : VK), Inv X pins σ H s → RelV x v → Vals xs us → r x xs H Q →
    wpAny (model X.prog X.w) X.A (call (.builtin id) (v :: us)) (EP X pins σ Q) X.xe s
section
variable {X : Cx} {a b : Expr} {ta tb : TE} {pos : Pos}
/-- a[b] -/
theorem pe_ix {r : R2} (hr : IxR X r) (ha : PE X a ta) (hb : PE X b tb) (hs : PlainIx b) : PE X (.Subscript a b pos) (tOp r ta tb) := by
  intro pins s σ H Q I h
  exact Subscript_ (binT ha hb I h fun v u s2 x y H2 I2 rx ry q => hr a b pins s2 σ H2 x y v u Q I2 rx ry q (hs _ _))

def rIxL (K : PySem.W.Frag) : R2 := fun x y H Q => ∃ p xs i v, x = .ref p ∧ y = .int i ∧ SqL K H p xs ∧ atI xs i = some v ∧ Q v H
def rIxT (K : PySem.W.Frag) : R2 := fun x y H Q => ∃ p xs i v, x = .ref p ∧ y = .int i ∧ SqT K H p xs ∧ atI xs i = some v ∧ Q v H
theorem ix_list : IxR X (rIxL X.K) := by
  intro value slice pins s σ H x y v u Q I rx ry h hs
  obtain ⟨p, xs, i, z, rfl, rfl, hq, he, q⟩ := h
  cases rx
  obtain ⟨t, rfl⟩ := ry
  obtain ⟨its, r, pl, hz⟩ := I.list hq
  obtain ⟨j, h1, h2, h3, h4, h5⟩ := atI_get he
  obtain ⟨w, ew, rw'⟩ := r.get h2
  have hl := r.length
  have hn := line63
  have fin : EP X pins σ Q w s := ⟨z, H, I, rw', q⟩
  by_cases h0 : 0 ≤ i
  · have hj : i.toNat = j := by
      rw [seqIndex_of h0 h5] at h1
      exact Option.some.inj h1
    exact item_listR pl.isList h0 (by lia) (by rw [hj]; simpa using ew) fin hs
  · have hj : (i + (its.toArray.size : Int)).toNat = j := by
      rw [seqIndex_neg (by lia) h4] at h1
      rw [List.size_toArray, ← hl]
      exact Option.some.inj h1
    exact subscriptTail_builtinR (x := w) pl.isList.typeIs slot_list_getitem.lookup
      (wpAny_getItem_list_neg (Q := fun r s' => r = w ∧ EP X pins σ Q r s') pl.isList (by lia) (by rw [List.size_toArray] <;> lia) (by lia) (by rw [hj]; simpa using ew) ⟨rfl, fin⟩) hs
theorem ix_tup : IxR X (rIxT X.K) := by
  intro value slice pins s σ H x y v u Q I rx ry h hs
  obtain ⟨p, xs, i, z, rfl, rfl, hq, he, q⟩ := h
  cases rx
  obtain ⟨t, rfl⟩ := ry
  obtain ⟨its, r, pl, hz⟩ := I.tuple hq
  obtain ⟨j, h1, h2, h3, h4, h5⟩ := atI_get he
  obtain ⟨w, ew, rw'⟩ := r.get h2
  have hl := r.length
  have hn := line63
  have fin : EP X pins σ Q w s := ⟨z, H, I, rw', q⟩
  exact subscriptTail_builtinR (x := w) pl.typeIs slot_tuple_getitem.lookup
    (getItem_tuple (j := j) (Q := fun r s' => r = w ∧ EP X pins σ Q r s') pl (by lia) (by lia) (by rw [List.size_toArray, ← hl]; exact h1) (by simpa using ew) ⟨rfl, fin⟩) hs

/-! ### xs[i] = v, any sign -/

/-! ### slices -/
theorem slice_bounds (lo hi : Option Int) (n : Nat) : (sliceBounds lo hi none n).1 = ((HT.sIx n 0 lo : Nat) : Int) ∧ (sliceBounds lo hi none n).2.1 = ((HT.sIx n n hi : Nat) : Int) ∧ (sliceBounds lo hi none n).2.2 = 1 := by
  refine ⟨?_, ?_, rfl⟩
  · cases lo with
    | none => simp [sliceBounds, HT.sIx]
    | some i =>
      simp only [sliceBounds, HT.sIx, Option.getD_none, show (1 : Int) > 0 by decide, if_true]
      by_cases h : i < 0
      · simp only [h, if_true] <;> lia
      · simp only [h, if_false] <;> lia
  · cases hi with
    | none => simp [sliceBounds, HT.sIx]
    | some i =>
      simp only [sliceBounds, HT.sIx, Option.getD_none, show (1 : Int) > 0 by decide, if_true]
      by_cases h : i < 0
      · simp only [h, if_true] <;> lia
      · simp only [h, if_false] <;> lia
theorem slicePick_cut (its : List Value) (lo hi : Option Int) : slicePick its.toArray lo hi none = ((its.drop (HT.sIx its.length 0 lo)).take (HT.sIx its.length its.length hi - HT.sIx its.length 0 lo)).toArray := by
  obtain ⟨h1, h2, h3⟩ := slice_bounds lo hi its.toArray.size
  unfold slicePick
  rw [h1, h2, h3]
  simp only [sliceRange_one, pick_run, List.size_toArray] <;> rfl
/-- xs[lo:hi] of a list: a new list -/
def rSlL (K : PySem.W.Frag) : V → Option Int → Option Int → Hp → VK → Prop := fun x lo hi H Q => ∃ a xs, x = .ref a ∧ SqL K H a xs ∧ ∀ p, H p = none → Q (.ref p) (upd H p (.lst (cutV xs lo hi)))
theorem sl_list : SlR X (rSlL X.K) := by
  intro pins s σ H x v vl vu lo hi sl Q I rx hs pl pu h
  obtain ⟨a, xs, rfl, hx, q⟩ := h
  cases rx
  obtain ⟨its, r, ht, hz⟩ := I.list hx
  have hlen := r.length
  refine ⟨"list", _, slot_list_getitem.lookup, ht.isList.typeIs, ?_⟩
  refine wpAny_getItem_list_slice ht.isList hs pl pu .none (by simp) ?_ (by rw [List.size_toArray] <;> lia)
  rw [slicePick_cut, ← hlen]
  refine ⟨.ref s.heap.objs.size, _, I.laid (t' := s.toks) (o := .lst (cutV xs lo hi)) (fun b ob q => Heap.get?_push_of_some _ q) (Nat.le_refl _) ?_, rfl, q _ (I.hok.fresh (Nat.le_refl _))⟩
  exact ⟨Nat.le_trans (cutV_length xs lo hi) hz, _, 0, (r.drop (HT.sIx xs.length 0 lo)).take (HT.sIx xs.length xs.length hi - HT.sIx xs.length 0 lo), Heap.get?_push_size _ rfl⟩

/-! ### in, not in: flat items -/
def flatV : V → Bool
  | .non => true
  | .bl _ => true
  | .int _ => true
  | .str _ => true
  | _ => false
/-- == of flat values -/
def eqV : V → V → Bool
  | .non, .non => true
  | .bl a, .bl b => a == b
  | .bl a, .int b => (if a then 1 else 0) == b
  | .int a, .bl b => a == (if b then 1 else 0)
  | .int a, .int b => a == b
  | .str a, .str b => a == b
  | _, _ => false
theorem eqAt_V {A : Around} {s : Shared} {y x : V} {u v : Value} (ry : RelV y u) (rx : RelV x v) (fy : flatV y = true) (fx : flatV x = true) : SeqAt.EqAt A s u v (eqV y x) := by
  cases y with
  | non =>
    cases ry
    cases x with
    | non => cases rx; exact SeqAt.EqAt.same _
    | bl b => cases rx; exact SeqAt.EqAt.none_bool b
    | int b => obtain ⟨t, rfl⟩ := rx; exact SeqAt.EqAt.none_int b t
    | str b => obtain ⟨t, rfl⟩ := rx; exact SeqAt.EqAt.none_str b t
    | _ => exact absurd (show false = true from fx) Bool.false_ne_true
  | bl a =>
    cases ry
    cases x with
    | non => cases rx; exact SeqAt.EqAt.bool_none a
    | bl b => cases rx; exact SeqAt.EqAt.bool_bool a b
    | int b => obtain ⟨t, rfl⟩ := rx; exact SeqAt.EqAt.bool_int a b t
    | str b => obtain ⟨t, rfl⟩ := rx; exact SeqAt.EqAt.bool_str a b t
    | _ => exact absurd (show false = true from fx) Bool.false_ne_true
  | int a =>
    obtain ⟨t', rfl⟩ := ry
    cases x with
    | non => cases rx; exact SeqAt.EqAt.int_none a t'
    | bl b => cases rx; exact SeqAt.EqAt.int_bool a t' b
    | int b => obtain ⟨t, rfl⟩ := rx; exact SeqAt.EqAt.int_int a t' b t
    | str b => obtain ⟨t, rfl⟩ := rx; exact SeqAt.EqAt.int_str a t' b t
    | _ => exact absurd (show false = true from fx) Bool.false_ne_true
  | str a =>
    obtain ⟨t', rfl⟩ := ry
    cases x with
    | non => cases rx; exact SeqAt.EqAt.str_none a t'
    | bl b => cases rx; exact SeqAt.EqAt.str_bool a t' b
    | int b => obtain ⟨t, rfl⟩ := rx; exact SeqAt.EqAt.str_int a t' b t
    | str b => obtain ⟨t, rfl⟩ := rx; exact SeqAt.EqAt.str_str a t' b t
    | _ => exact absurd (show false = true from fx) Bool.false_ne_true
  | _ => exact absurd (show false = true from fy) Bool.false_ne_true
/-- the items' answers, read off the values (a value's own answer does not lean on its token) -/
def eqU (x : V) (u : Value) : Bool := match u with
  | .none => eqV .non x
  | .bool b => eqV (.bl b) x
  | .int i _ => eqV (.int i) x
  | .str z _ => eqV (.str z) x
  | _ => false
theorem eqU_of {x y : V} {u : Value} (r : RelV y u) (f : flatV y = true) : eqU x u = eqV y x := by
  cases y with
  | non => cases r; rfl
  | bl b => cases r; rfl
  | int i => obtain ⟨t, rfl⟩ := r; rfl
  | str z => obtain ⟨t, rfl⟩ := r; rfl
  | _ => exact absurd (show false = true from f) Bool.false_ne_true
theorem any_eqU {x : V} : ∀ {xs : List V} {us : List Value}, Vals xs us → xs.all flatV = true → us.any (eqU x) = xs.any fun y => eqV y x
  | _, _, .nil, _ => rfl
  | y :: xs, u :: us, .cons r t, f => by
    rw [List.all_cons, Bool.and_eq_true] at f
    rw [List.any_cons, List.any_cons, eqU_of r f.1, any_eqU t f.2]
theorem mem_eqAt {A : Around} {s : Shared} {x : V} {v : Value} (rx : RelV x v) (fx : flatV x = true) : ∀ {xs : List V} {us : List Value}, Vals xs us → xs.all flatV = true → ∀ u ∈ us, SeqAt.EqAt A s u v (eqU x u)
  | _, _, .nil, _ => fun u hu => by cases hu
  | y :: xs, u :: us, .cons r t, f => fun u' hu => by
    rw [List.all_cons, Bool.and_eq_true] at f
    rcases List.mem_cons.mp hu with rfl | hu
    · rw [eqU_of r f.1]; exact eqAt_V r rx f.1 fx
    · exact mem_eqAt rx fx t f.2 u' hu
def inV (x : V) (xs : List V) : Bool := xs.any fun y => eqV y x
/-- x in a list or tuple of flat items -/
def rIn (K : PySem.W.Frag) (neg : Bool) : R2 := fun x y H Q => ∃ p xs, y = .ref p ∧ (SqL K H p xs ∨ SqT K H p xs) ∧ flatV x = true ∧ xs.all flatV = true ∧ Q (.bl (if neg then !inV x xs else inV x xs)) H
theorem op_in_seq : OpR X (compareOp .In) (rIn X.K false) := by
  intro pins s σ H x y v u Q I rx ry h
  obtain ⟨p, xs, rfl, hq, fx, fs, q⟩ := h
  cases ry
  rcases hq with hq | hq
  · obtain ⟨its, r, pl, hz⟩ := I.list hq
    refine SeqAt.in_listAt (eqU x) pl.isList (fun w hw => mem_eqAt rx fx r fs w (by simpa using hw)) ⟨.bl _, H, I, rfl, ?_⟩
    rw [show its.toArray.any (eqU x) = its.any (eqU x) by simp, any_eqU r fs]
    exact q
  · obtain ⟨its, r, pl, hz⟩ := I.tuple hq
    refine SeqAt.in_tupleAt (eqU x) pl (fun w hw => mem_eqAt rx fx r fs w (by simpa using hw)) ⟨.bl _, H, I, rfl, ?_⟩
    rw [show its.toArray.any (eqU x) = its.any (eqU x) by simp, any_eqU r fs]
    exact q
theorem op_notIn_seq : OpR X (compareOp .NotIn) (rIn X.K true) := by
  intro pins s σ H x y v u Q I rx ry h
  obtain ⟨p, xs, rfl, hq, fx, fs, q⟩ := h
  cases ry
  rcases hq with hq | hq
  · obtain ⟨its, r, pl, hz⟩ := I.list hq
    refine SeqAt.notIn_listAt (eqU x) pl.isList (fun w hw => mem_eqAt rx fx r fs w (by simpa using hw)) ⟨.bl _, H, I, rfl, ?_⟩
    rw [show its.toArray.any (eqU x) = its.any (eqU x) by simp, any_eqU r fs]
    exact q
  · obtain ⟨its, r, pl, hz⟩ := I.tuple hq
    refine SeqAt.notIn_tupleAt (eqU x) pl (fun w hw => mem_eqAt rx fx r fs w (by simpa using hw)) ⟨.bl _, H, I, rfl, ?_⟩
    rw [show its.toArray.any (eqU x) = its.any (eqU x) by simp, any_eqU r fs]
    exact q

/-! ### len, list(x), tuple(x) of any list or tuple that is read -/
theorem call_len_seq : CallR X (.builtin "len") (fun xs H Q => ∃ p ys, xs = [.ref p] ∧ (SqL X.K H p ys ∨ SqT X.K H p ys) ∧ Q (.int ys.length) H) := by
  intro pins s σ H xs us Q I r h
  obtain ⟨p, ys, rfl, hq, q⟩ := h
  obtain ⟨u, rfl, rx⟩ := vals1 r
  cases rx
  have hn := line63
  rcases hq with hq | hq
  · obtain ⟨its, r', pl, hz⟩ := I.list hq
    have hlen := r'.length
    exact Calls.call_len_list pl.isList (by simp only [List.size_toArray] <;> lia) ⟨.int ys.length, H, I.tok _, ⟨s.toks + 1, by rw [List.size_toArray, hlen]⟩, q⟩
  · obtain ⟨its, r', pl, hz⟩ := I.tuple hq
    have hlen := r'.length
    exact len_tuple pl (by simp only [List.size_toArray] <;> lia) ⟨.int ys.length, H, I.tok _, ⟨s.toks + 1, by rw [List.size_toArray, hlen]⟩, q⟩

/-! ### the call of a builtin's method: o.m(..) -/
/-- the value is of that builtin type -/
def tyV (K : PySem.W.Frag) (T : String) (x : V) (H : Hp) : Prop := match x with
  | .str _ => T = "str"
  | .int _ => T = "int"
  | .ref p => (T = "list" ∧ ∃ xs, SqL K H p xs) ∨ (T = "tuple" ∧ ∃ o, K.lookup p = some o ∧ o.cls = .type "tuple" ∧ o.dict = none) ∨
      (T = "dict" ∧ ((∃ kvs, H p = some (.dK kvs)) ∨ ∃ kvs, H p = some (.dT kvs))) ∨ (T = "set" ∧ ∃ S n, H p = some (.set S n))
  | _ => False
theorem tyV_is {pins : List (Addr × Obj)} {σ : St} {H : Hp} {s : Shared} {T : String} {x : V} {v : Value} (I : Inv X pins σ H s) (r : RelV x v) (ty : tyV X.K T x H) :
    s.TypeIs v T ∧ ∀ a, v = .ref a → ∃ ob, s.heap.get? a = some ob ∧ ob.dict = none := by
  cases x with
  | str z =>
    obtain ⟨t, rfl⟩ := r
    cases (show T = "str" from ty)
    exact ⟨typeIs_str s z t, fun _ e => nomatch e⟩
  | int i =>
    obtain ⟨t, rfl⟩ := r
    cases (show T = "int" from ty)
    exact ⟨typeIs_int s i t, fun _ e => nomatch e⟩
  | ref p =>
    cases r
    rcases ty with ⟨rfl, xs, hq⟩ | ⟨rfl, o, hk, hc, hd⟩ | ⟨rfl, hk⟩ | ⟨rfl, S, n, hk⟩
    · obtain ⟨its, _, pl, _⟩ := I.list hq
      refine ⟨pl.isList.typeIs, fun a e => ?_⟩
      cases e
      obtain ⟨o, n, e, c, hd, _⟩ := pl
      exact ⟨o, e, hd⟩
    · refine ⟨⟨o, I.kIn p o hk, hc⟩, fun a e => ?_⟩
      cases e
      exact ⟨o, I.kIn _ o hk, hd⟩
    · have z : ∃ o, s.heap.get? p = some o ∧ o.ExactDict := by
        rcases hk with ⟨kvs, hk⟩ | ⟨kvs, hk⟩
        · obtain ⟨_, _, _, _, o, _, _, e, ex, _⟩ := I.hok p _ hk
          exact ⟨o, e, ex⟩
        · obtain ⟨_, _, _, _, o, _, _, e, ex, _⟩ := I.hok p _ hk
          exact ⟨o, e, ex⟩
      obtain ⟨o, e, ex⟩ := z
      refine ⟨⟨o, e, ex.1⟩, fun a e2 => ?_⟩
      cases e2
      exact ⟨o, e, ex.2.1⟩
    · obtain ⟨o, _, _, _, e, ex, _⟩ := I.hok p _ hk
      refine ⟨⟨o, e, ex.1⟩, fun a e2 => ?_⟩
      cases e2
      exact ⟨o, e, ex.2.1⟩
  | _ => exact False.elim ty
def tBM (K : PySem.W.Frag) (T : String) (r : V → List V → Hp → VK → Prop) (to : TE) (t : TA) : TE := fun σ H Q => to σ H fun x H1 => tyV K T x H1 ∧ t σ H1 fun xs H2 => r x xs H2 Q
variable {o e : Expr} {es : List Expr} {to : TE} {t : TA} {name : Str} {apos cpos : Pos} {T id : String} {r : V → List V → Hp → VK → Prop}
theorem pe_bm (pa : PlainAttrs T) (slot : Slot T name id) (hty : typeOf (.builtin id) = pure (.type "method_descriptor")) (hm : MtR X id r) (ho : PE X o to) (ha : PA X (e :: es) t)
    (hbase : attributeBase o name X.env (eval o X.env) = eval o X.env := by rfl)
    (hfew : ((backTo cpos (starEach (e :: es) X.env)).all (fun x => !x.1) && (backToKw cpos (keywordEach [] X.env)).all (fun x => x.1.isSome)
      && decide ((e :: es).length + ([] : List Keyword).length + (if ([] : List Keyword).isEmpty then 0 else 1) < 30)) = true := by rfl)
    (hline : (apos.endLine == cpos.line) = true := by rfl) (hs : starEach (e :: es) X.env = (false, eval e X.env) :: starEach es X.env := by rfl) (hplain : (backTo cpos (starEach es X.env)).any (·.1) = false := by rfl) :
    PE X (.Call (.Attribute o name apos) (e :: es) [] cpos) (tBM X.K T r to t) := by
  intro pins s σ H Q I h
  refine wpAny_Call_method_late hbase hfew hline rfl (thn (ho pins s σ H _ I h) fun v s1 ⟨x, H1, I1, r1, ty, q1⟩ => ?_)
  obtain ⟨h1, h2⟩ := tyV_is I1 r1 ty
  refine ⟨T, id, pa, slot, hty, h1, h2, ?_⟩
  have hA := ha cpos pins s1 σ H1 _ I1 q1
  rw [hs] at hA ⊢
  refine Calls.callWith_builtin (by show (false || (backTo cpos (starEach es X.env)).any (·.1)) = false; rw [hplain] <;> rfl) (Calls.evalArgs_plain ?_)
  exact thn hA fun us s2 ⟨vs, H2, I2, r2, q2⟩ => hm pins s2 σ H2 x vs v us Q I2 r1 r2 q2
/- xs.append(e), list.index on a module's tuple .. are MtR facts of 06m -/
end
end L2

namespace L2
open PySem PySem.Spec PyProof.Rows

def MtM (X : Cx) (id : String) (r : V → List V → Hp → VK → Prop) : Prop :=
  ∀ (pins : List (Addr × Obj)) (s : Shared) (σ : St) (H : Hp) (x : V) (xs : List V) (v : Value) (us : List Value) (Q : VK), Inv X pins σ H s → RelV x v → Vals xs us → r x xs H Q →
    wpAny (model X.prog X.w) X.A (call (.builtin id) (v :: us)) (EP X pins σ Q) X.xe s

/-! ### lists of values -/
theorem Vals.one : ∀ {x : V} {us : List Value}, Vals [x] us → ∃ u, us = [u] ∧ RelV x u
  | _, _, .cons r .nil => ⟨_, rfl, r⟩
theorem Vals.eraseIdx : ∀ {xs : List V} {us : List Value} (i : Nat), Vals xs us → Vals (xs.eraseIdx i) (us.eraseIdx i)
  | _, _, _, .nil => .nil
  | _, _, 0, .cons _ t => t
  | _, _, i + 1, .cons r t => .cons r (Vals.eraseIdx i t)
theorem Vals.rep {xs : List V} {us : List Value} (h : Vals xs us) : ∀ k : Nat, Vals (List.replicate k xs).flatten (List.replicate k us).flatten
  | 0 => .nil
  | k + 1 => by
    rw [List.replicate_succ, List.replicate_succ, List.flatten_cons, List.flatten_cons]
    exact Vals.append h (Vals.rep h k)
theorem foldl_rep (its : List Value) : ∀ (k : Nat) (acc : List Value),
    List.foldl (fun x1 x2 => x1 ++ x2) acc.toArray (List.replicate k its.toArray) = (acc ++ (List.replicate k its).flatten).toArray
  | 0, acc => by simp
  | k + 1, acc => by
    have e : acc.toArray ++ its.toArray = (acc ++ its).toArray := by simp
    have e2 : (acc ++ its) ++ (List.replicate k its).flatten = acc ++ (List.replicate (k + 1) its).flatten := by
      rw [List.replicate_succ, List.flatten_cons, List.append_assoc]
    rw [← e2, ← foldl_rep its k (acc ++ its), ← e, List.replicate_succ, List.foldl_cons]

section
variable {X : Cx} {pins : List (Addr × Obj)} {σ : St} {H : Hp} {s : Shared} {l b : Addr} {xs ys zs : List V}

/-! ### the two steps: a tracked list is rewritten, a new list is laid -/
theorem Inv.lset {its its' : List Value} {n : Nat} {f : Array Value → Array Value} {t' : Nat} (I : Inv X pins σ H s) (hH : H l = some (.lst xs))
    (e : s.heap.get? l = some { cls := .type "list", data := .seq its.toArray n }) (hf : f its.toArray = its'.toArray) (hv : Vals ys its') (hz : ys.length ≤ sizeLine) :
    Inv X pins σ (upd H l (.lst ys)) { s with heap := s.heap.update l (Obj.mapSeq f), toks := t' } := by
  have q := PySem.IsL.update e f
  rw [hf] at q
  refine I.write (x := l) (e := l) (by rw [hH]; exact trivial) (.inl rfl) (fun b' u hb hu => (Heap.get?_update_other s.heap (Obj.mapSeq f) (Ne.symm hb)).trans hu) ⟨_, q⟩ ?_
  exact ⟨hz, its', _, hv, q⟩
theorem Inv.lnew {its : List Value} {t' : Nat} (I : Inv X pins σ H s) (hv : Vals ys its) (hz : ys.length ≤ sizeLine) :
    Inv X pins σ (upd H s.heap.objs.size (.lst ys)) { s with heap := s.heap.push { cls := .type "list", data := .seq its.toArray }, toks := t' } :=
  I.laid (fun _ _ q => Heap.get?_push_of_some _ q) (Nat.le_refl _) ⟨hz, its, 0, hv, Heap.get?_push_size _ rfl⟩
theorem Inv.fresh (I : Inv X pins σ H s) : H s.heap.objs.size = none := I.hok.fresh (Nat.le_refl _)
theorem Inv.lstM (I : Inv X pins σ H s) (hH : H l = some (.lst xs)) : xs.length ≤ sizeLine ∧ ∃ (its : List Value) (n : Nat), Vals xs its ∧ xs.length = its.length ∧ s.heap.get? l = some { cls := .type "list", data := .seq its.toArray n } := by
  obtain ⟨z, its, n, r, e⟩ := I.hok l _ hH
  exact ⟨z, its, n, r, r.length, e⟩

theorem notLongL {n : Nat} (h : n ≤ sizeLine) : Builtin.List.listTooLong n = false := by
  unfold Builtin.List.listTooLong
  exact decide_eq_false (by lia)
end

section
variable {X : Cx}

/-! ### methods -/
def rAppend : V → List V → Hp → VK → Prop := fun x vs H Q => ∃ l xs y, x = .ref l ∧ vs = [y] ∧ H l = some (.lst xs) ∧ xs.length < sizeLine ∧ Q .non (upd H l (.lst (xs ++ [y])))
theorem mt_append : MtM X "list.append" rAppend := by
  intro pins s σ H x vs v us Q I rx rv h
  obtain ⟨l, xs, y, rfl, rfl, hH, hz, q⟩ := h
  cases rx
  obtain ⟨u, rfl, ru⟩ := rv.one
  obtain ⟨z, its, n, r, hl, e⟩ := I.lstM hH
  refine call_meets F.slot_list_append ⟨_, e, rfl⟩ F.entry_list_append (F.args_list_append_2 _ _) (PySem.list_append l its.toArray n u (by rw [List.size_toArray]; lia)) ⟨e, ?_⟩
  refine ⟨.non, _, I.lset (its' := its ++ [u]) hH e (by simp) (r.append (.cons ru .nil)) ?_, rfl, q⟩
  rw [List.length_append, List.length_singleton]
  lia

def rExtend : V → List V → Hp → VK → Prop := fun x vs H Q => ∃ l b xs zs, x = .ref l ∧ vs = [.ref b] ∧ H l = some (.lst xs) ∧ H b = some (.lst zs) ∧ xs.length + zs.length ≤ sizeLine ∧ Q .non (upd H l (.lst (xs ++ zs)))
theorem mt_extend : MtM X "list.extend" rExtend := by
  intro pins s σ H x vs v us Q I rx rv h
  obtain ⟨l, b, xs, zs, rfl, rfl, hH, hB, hz, q⟩ := h
  cases rx
  obtain ⟨u, rfl, ru⟩ := rv.one
  cases ru
  obtain ⟨z, its, n, r, hl, e⟩ := I.lstM hH
  obtain ⟨z2, its2, n2, r2, hl2, e2⟩ := I.lstM hB
  have hsz : its.toArray.size + its2.toArray.size ≤ sizeLine := by rw [List.size_toArray, List.size_toArray]; lia
  have hlong : ¬ (!its.toArray.isEmpty && Builtin.List.listTooLong (its.toArray.size + its2.toArray.size)) = true := by
    rw [notLongL hsz, Bool.and_false]
    exact Bool.false_ne_true
  refine call_meets F.slot_list_extend ⟨_, e, rfl⟩ F.entry_list_extend (F.args_list_extend_2 _ _)
    (AutoSeq1.list_extend_list_list_0 l its.toArray n b its2.toArray n2 hlong (by rw [List.size_toArray]; lia) (by lia)) ⟨e, e2, ?_⟩
  refine ⟨.non, _, I.lset (its' := its ++ its2) hH e (by simp) (r.append r2) ?_, rfl, q⟩
  rw [List.length_append]
  lia





/-! ### list + list, list += list, list * int -/
def rCat : R2 := fun x y H Q => ∃ l b xs zs, x = .ref l ∧ y = .ref b ∧ H l = some (.lst xs) ∧ H b = some (.lst zs) ∧ xs.length + zs.length ≤ sizeLine ∧ ∀ p, H p = none → Q (.ref p) (upd H p (.lst (xs ++ zs)))
theorem op_cat : OpR X (binaryOp .Add) rCat := by
  intro pins s σ H x y v u Q I rx ry h
  obtain ⟨l, b, xs, zs, rfl, rfl, hH, hB, hz, q⟩ := h
  cases rx
  cases ry
  obtain ⟨z, its, n, r, hl, e⟩ := I.lstM hH
  obtain ⟨z2, its2, n2, r2, hl2, e2⟩ := I.lstM hB
  refine PySem.P.add_list e e2 ?_ (by rw [List.size_toArray, List.size_toArray]; lia)
  have ea : its.toArray ++ its2.toArray = (its ++ its2).toArray := by simp
  rw [ea]
  exact ⟨.ref _, _, I.lnew (t' := s.toks) (r.append r2) (by rw [List.length_append]; lia), rfl, q _ I.fresh⟩
/-- a list times an int (a negative one is nothing) -/
def rRep : R2 := fun x y H Q => ∃ l k xs, x = .ref l ∧ y = .int k ∧ H l = some (.lst xs) ∧ -(2 ^ 63) ≤ k ∧ k < 2 ^ 63 ∧ xs.length * k.toNat ≤ sizeLine ∧
  ∀ p, H p = none → Q (.ref p) (upd H p (.lst (List.replicate k.toNat xs).flatten))
theorem len_rep {α : Type} (xs : List α) (k : Nat) : (List.replicate k xs).flatten.length = k * xs.length := by
  induction k with
  | zero => simp
  | succ k ih => rw [List.replicate_succ, List.flatten_cons, List.length_append, ih, Nat.succ_mul, Nat.add_comm]
theorem op_rep : OpR X (binaryOp .Mult) rRep := by
  intro pins s σ H x y v u Q I rx ry h
  obtain ⟨l, k, xs, rfl, rfl, hH, h1, h2, hz, q⟩ := h
  cases rx
  obtain ⟨t, rfl⟩ := ry
  obtain ⟨z, its, n, r, hl, e⟩ := I.lstM hH
  have hlen : its.toArray.size * k.toNat ≤ sizeLine := by rw [List.size_toArray, ← hl]; exact hz
  have hcap : ¬ its.toArray.size * k.toNat > (2 ^ 63 - 1) / 8 := by
    have : (sizeLine : Nat) ≤ (2 ^ 63 - 1) / 8 := by decide
    lia
  have hfit : ¬ (!Builtin.List.listFitsIndex k) = true := by
    rw [fitsIndex_both h1 h2]
    exact Bool.false_ne_true
  have hlong : ¬ Builtin.List.listTooLong (its.toArray.size * k.toNat) = true := by
    rw [notLongL hlen]
    exact Bool.false_ne_true
  have hnew : List.foldl (fun x1 x2 => x1 ++ x2) #[] (List.replicate (if its.toArray.isEmpty = true then 0 else k.toNat) its.toArray) = (List.replicate k.toNat its).flatten.toArray := by
    have f0 : ∀ m : Nat, List.foldl (fun x1 x2 => x1 ++ x2) #[] (List.replicate m its.toArray) = (List.replicate m its).flatten.toArray := fun m => by
      have := foldl_rep its m []
      rw [List.nil_append] at this
      exact this
    rw [f0]
    cases its with
    | nil => simp
    | cons a r' => rw [if_neg (by simp)]
  refine wpAny_binaryOp_repeat_ref (T := "list") (U := "int") (by decide) ⟨_, e, rfl⟩ (fun s' => typeIs_int s' k t) noFill_list_mul F.fills_int_mul F.slot_int_rmul repeat_list F.slot_int_index.lookup
    (call_meets F.slot_int_rmul (typeIs_int s k t) F.entry_int_rmul (F.args_int_rmul_2 _ _) (int___rmul___int_list k t l its.toArray n)
      ⟨e, rfl, ⟨_, e, rfl⟩, call_meets F.slot_list_mul ⟨_, e, rfl⟩ F.entry_list_mul (F.args_list_mul_2 _ _) (AutoListH.list___mul___list_int_3 l its.toArray n k t hfit hcap hlong) ⟨e, ?_⟩⟩)
  rw [hnew]
  exact ⟨.ref _, _, I.lnew (t' := s.toks) (r.rep k.toNat) (by rw [len_rep, Nat.mul_comm]; exact hz), rfl, q _ I.fresh⟩

/-! ### del xs[i] -/
end

/-! ### xs[a:b] = ys -/
section
variable {prog : Program} {w : World} {A : Around} {E : Value → Shared → Prop} {s : Shared}
set_option maxRecDepth 100000 in
end

section
variable {X : Cx}
end
end L2

namespace L2
open PySem PySem.Spec PyProof.Rows

theorem Vals.ints : ∀ {ns : List Int} {us : List Value}, Vals (ns.map V.int) us → IntsAre us ns
  | [], us, h => by
    rw [List.map_nil] at h
    cases h
    exact IntsAre.nil
  | n :: ns, us, h => by
    rw [List.map_cons] at h
    cases h with
    | cons r t =>
      obtain ⟨k, rfl⟩ := r
      exact IntsAre.cons n k (Vals.ints t)
theorem Vals.bls : ∀ {bs : List Bool} {us : List Value}, Vals (bs.map V.bl) us → us = bs.map Value.bool
  | [], us, h => by
    rw [List.map_nil] at h
    cases h
    rfl
  | b :: bs, us, h => by
    rw [List.map_cons] at h
    cases h with
    | cons r t =>
      cases r
      rw [Vals.bls t, List.map_cons]
theorem Vals.ref1 {a : Addr} {us : List Value} (r : Vals [V.ref a] us) : us = [Value.ref a] := by
  cases r with
  | cons r t =>
    cases t
    cases r
    rfl

/-! ### the library's walks over a list of ints, kept objects alone -/
section
variable {prog : Program} {w : World} {A : Around} {E : Value → Shared → Prop} {s : Shared} {l : Addr} {its : List Value} {ns : List Int} {Q : Value → Shared → Prop}
theorem min_raw (hh : A.handled = none) (hl : s.heap.IsList l its.toArray) (hi : IntsAre its ns) (hne : 0 < ns.length)
    (h : ∀ h' tk M t', (∀ b o, s.heap.get? b = some o → h'.get? b = some o) → M ∈ ns → (∀ a, a ∈ ns → M ≤ a) → Q (.int M t') { s with heap := h', toks := tk }) : wpAny (model prog w) A (call (.builtin "min") [.ref l]) Q E s := by
  obtain ⟨xs, e⟩ := hi.allInts.items
  have hn : numsOf (intItems xs).toList = ns := by rw [← e]; exact hi.numsOf
  rw [nums_intItems] at hn
  subst hn
  rw [e] at hl
  have hsz : 0 < xs.size := by simpa using hne
  refine PySem.min_intList hh hl hsz fun v h' tk hv hk => ?_
  obtain ⟨t, rfl⟩ := intItems_at hv
  obtain ⟨h1, h2⟩ := argBest_lt (numAt xs) (xs.size - 1)
  refine h h' tk _ t hk ?_ fun a ha => ?_
  · rw [numAt_eq]; exact PySem.getD_mem (by rw [List.length_map, Array.length_toList]; lia)
  · obtain ⟨j, hj, rfl⟩ := mem_getD ha
    rw [List.length_map, Array.length_toList] at hj
    rw [← numAt_eq]; exact h2 j (by lia)
end

/-! ### the calls, by values (CallR of 03t; MtR of 06l) -/
section
variable {X : Cx}
def rMin (K : PySem.W.Frag) : List V → Hp → VK → Prop := fun vs H Q => ∃ (a : Addr) (ns : List Int), vs = [V.ref a] ∧ SqL K H a (ns.map V.int) ∧ 0 < ns.length ∧ ∀ m, m ∈ ns → (∀ y, y ∈ ns → m ≤ y) → Q (.int m) H
theorem cr_min (hc : X.calm = true) : CallR X (.builtin "min") (rMin X.K) := by
  intro pins s σ H vs us Q I r h
  obtain ⟨a, ns, rfl, hs, hne, q⟩ := h
  obtain ⟨its, rv, hl, _⟩ := I.list hs
  rw [Vals.ref1 r]
  exact min_raw (I.ok.hd hc) hl.isList rv.ints hne fun h' tk m t' hk h1 h2 => ⟨.int _, H, I.kept hk, ⟨_, rfl⟩, q m h1 h2⟩

/-! sorted, sort (fewer than 64 items: the library's own bound) -/
end

/-! ### list.index, flat items -/
section
variable {X : Cx}
end

/-! ### type(x) of an own instance; is, is not of a module's class -/
section
variable {X : Cx}
end

/-! ### any(xs), all(xs) of a list of bools -/
theorem iter_any {prog : Program} {w : World} {A : Around} {E : Value → Shared → Prop} {s : Shared} {l : Addr} {items : Array Value} {Q : Value → Shared → Prop} (hl : s.heap.IsList l items)
    (h : ∀ s₂ : Shared, s₂ = { s with heap := s.heap.push { cls := .type "list_iterator", data := .fields #[.ref l, .int 0 0] } } →
      (s₂.heap.IsListIter s.heap.objs.size l 0 ∧ s₂.heap.IsList l items) → l ≠ s.heap.objs.size → Q (.ref s.heap.objs.size) s₂) : wpAny (model prog w) A (pyIter (.ref l)) Q E s := by
  have hlt : l < s.heap.objs.size := by obtain ⟨_, e, _⟩ := hl; exact Heap.lt_size e
  exact wpAny_pyIter_list hl (h _ rfl ⟨⟨_, Heap.get?_push_size _ rfl, rfl, rfl⟩, hl.push _⟩ (Nat.ne_of_lt hlt))
theorem truth_bools {prog : Program} {w : World} {A : Around} {bs : List Bool} {its : List Value} (e : its = bs.map Value.bool) :
    TruthOf prog w A (fun i v => its.toArray[i]? = some v) (fun i => bs.getD i false) := fun i v s Q E hv hq => by
  have hv' : its[i]? = some v := by simpa using hv
  rw [e, List.getElem?_map] at hv'
  obtain ⟨b, hb, rfl⟩ := Option.map_eq_some_iff.mp hv'
  have hg : bs.getD i false = b := by rw [List.getD_eq_getElem?_getD, hb] <;> rfl
  have hq' : Q (bs.getD i false) s := hq
  rw [hg] at hq'
  exact wpAny_truthy_bool hq'
theorem any_range : ∀ bs : List Bool, (List.range bs.length).any (fun i => bs.getD i false) = bs.any id
  | [] => rfl
  | b :: bs => by
    rw [List.length_cons, List.range_succ_eq_map, List.any_cons, List.any_map, List.any_cons, ← any_range bs]
    all_goals rfl
theorem all_range : ∀ bs : List Bool, (List.range bs.length).all (fun i => bs.getD i false) = bs.all id
  | [] => rfl
  | b :: bs => by
    rw [List.length_cons, List.range_succ_eq_map, List.all_cons, List.all_map, List.all_cons, ← all_range bs]
    all_goals rfl
section
variable {X : Cx}
def rAny (K : PySem.W.Frag) : List V → Hp → VK → Prop := fun vs H Q => ∃ (a : Addr) (bs : List Bool), vs = [V.ref a] ∧ SqL K H a (bs.map V.bl) ∧ Q (.bl (bs.any id)) H
def rAll (K : PySem.W.Frag) : List V → Hp → VK → Prop := fun vs H Q => ∃ (a : Addr) (bs : List Bool), vs = [V.ref a] ∧ SqL K H a (bs.map V.bl) ∧ Q (.bl (bs.all id)) H
theorem cr_any (hc : X.calm = true) : CallR X (.builtin "any") (rAny X.K) := by
  intro pins s σ H vs us Q I r h
  obtain ⟨a, bs, rfl, hs, q⟩ := h
  obtain ⟨its, rv, hl, _⟩ := I.list hs
  rw [Vals.ref1 r]
  have hb := rv.bls
  refine call_any_walk (iter_any hl.isList fun s₂ e2 st hne => ?_)
  subst e2
  refine ⟨_, _, _, _, _, _, _, rfl, Walks.list (A := X.A.in1) (I.ok.hd hc) _ a hne its.toArray, st, truth_bools hb, fun h' tk hk => ?_⟩
  refine ⟨.bl _, H, I.kept fun b o eo => hk b o (fun hmem => ?_) (Heap.get?_push_of_some _ eo), ?_, q⟩
  · rcases List.mem_cons.mp hmem with e1 | hmem
    · exact absurd (e1 ▸ Heap.lt_size eo) (Nat.lt_irrefl _)
    · cases hmem
  · show Value.bool _ = Value.bool _
    rw [← any_range, hb, List.size_toArray, List.length_map]
theorem cr_all (hc : X.calm = true) : CallR X (.builtin "all") (rAll X.K) := by
  intro pins s σ H vs us Q I r h
  obtain ⟨a, bs, rfl, hs, q⟩ := h
  obtain ⟨its, rv, hl, _⟩ := I.list hs
  rw [Vals.ref1 r]
  have hb := rv.bls
  refine call_all_walk (iter_any hl.isList fun s₂ e2 st hne => ?_)
  subst e2
  refine ⟨_, _, _, _, _, _, _, rfl, Walks.list (A := X.A.in1) (I.ok.hd hc) _ a hne its.toArray, st, truth_bools hb, fun h' tk hk => ?_⟩
  refine ⟨.bl _, H, I.kept fun b o eo => hk b o (fun hmem => ?_) (Heap.get?_push_of_some _ eo), ?_, q⟩
  · rcases List.mem_cons.mp hmem with e1 | hmem
    · exact absurd (e1 ▸ Heap.lt_size eo) (Nat.lt_irrefl _)
    · cases hmem
  · show Value.bool _ = Value.bool _
    rw [← all_range, hb, List.size_toArray, List.length_map]
end

/-! ### == and != of data at any depth: none, bools, ints, texts, lists, tuples -/
section
variable {X : Cx} {pins : List (Addr × Obj)} {σ : St} {H : Hp} {s : Shared}
end
section
variable {X : Cx}
end
end L2

namespace L2
open PySem PySem.Spec PyProof.Rows
abbrev CellAt (h : Heap) (c : Addr) (v : Option Value) : Prop := h.IsCell c v
def relS (scope sc : Scope) : Scope :=
  { scope with names := scope.names.map fun (n, k) => if (k == .free && sc.kind == .function && sc.names.lookup n == some .cell) then (n, .cell) else (n, k) }

def cloFrom (cells : List (Str × Addr)) : List (Str × NameKind) → List (Str × Addr) → List (Str × Addr)
  | [], acc => acc
  | (n, k) :: r, acc => if k == .free then cloFrom cells r ((n, (cells.lookup n).getD 0) :: acc) else cloFrom cells r acc

theorem closure_loop (env : Env) (f : Str × NameKind → List (Str × Addr) → Sem (ForInStep (List (Str × Addr))))
    (hf : ∀ n k c, f (n, k) c = if k == .free then (do let a ← cellOf env n; pure (.yield ((n, a) :: c))) else pure (.yield c)) :
    ∀ (names : List (Str × NameKind)) (acc : List (Str × Addr)), (∀ y ∈ names, y.2 = .free → ∃ c, env.cells.lookup y.1 = some c) → forIn names acc f = pure (cloFrom env.cells names acc)
  | [], acc, _ => by rw [List.forIn_nil]; rfl
  | (n, k) :: r, acc, h => by
    rw [List.forIn_cons, hf]
    have ih := fun acc => closure_loop env f hf r acc fun y hy => h y (List.mem_cons_of_mem _ hy)
    unfold cloFrom
    by_cases hk : (k == NameKind.free) = true
    · rw [if_pos hk, if_pos hk]
      obtain ⟨c, hc⟩ := h (n, k) List.mem_cons_self (by simpa using hk)
      have e : cellOf env n = pure c := by unfold cellOf; rw [hc]
      rw [e]
      have e2 : (env.cells.lookup n).getD 0 = c := by rw [hc]; rfl
      rw [e2]
      exact ih _
    · rw [if_neg hk, if_neg hk]
      exact ih _
theorem closure_ok {scope : Scope} {env : Env} (h : ∀ y ∈ scope.names, y.2 = .free → ∃ c, env.cells.lookup y.1 = some c) : closureFor scope env = pure (cloFrom env.cells scope.names []) := by
  simp only [closureFor]
  rw [closure_loop env _ (fun n k c => rfl) scope.names [] h]
  rfl

theorem mem_lookup {α : Type} : ∀ {l : List (Str × α)} {n : Str} {c : α}, (n, c) ∈ l → ∃ c', l.lookup n = some c'
  | (k, v) :: r, n, c, h => by
    rw [List.lookup_cons]
    cases hb : n == k with
    | true => exact ⟨_, rfl⟩
    | false =>
      rcases List.mem_cons.mp h with e | h
      · cases e; simp at hb
      · exact mem_lookup h

theorem cloFrom_mem {cells : List (Str × Addr)} : ∀ {names : List (Str × NameKind)} {acc : List (Str × Addr)} {n : Str} {c : Addr}, (n, c) ∈ cloFrom cells names acc → (n, c) ∈ acc ∨ ((n, .free) ∈ names ∧ c = (cells.lookup n).getD 0)
  | [], _, _, _, h => .inl h
  | (m, k) :: r, acc, n, c, h => by
    unfold cloFrom at h
    split at h
    · rename_i hk
      have hk : k = .free := by simpa using hk
      rcases cloFrom_mem h with h | ⟨h1, h2⟩
      · rcases List.mem_cons.mp h with e | h
        · cases e; exact .inr ⟨hk ▸ List.mem_cons_self, rfl⟩
        · exact .inl h
      · exact .inr ⟨List.mem_cons_of_mem _ h1, h2⟩
    · rcases cloFrom_mem h with h | ⟨h1, h2⟩
      · exact .inl h
      · exact .inr ⟨List.mem_cons_of_mem _ h1, h2⟩
theorem cloFrom_acc {cells : List (Str × Addr)} : ∀ {names : List (Str × NameKind)} {acc : List (Str × Addr)} {p : Str × Addr}, p ∈ acc → p ∈ cloFrom cells names acc
  | [], _, _, h => h
  | (m, k) :: r, acc, p, h => by
    unfold cloFrom
    split
    · exact cloFrom_acc (List.mem_cons_of_mem _ h)
    · exact cloFrom_acc h
theorem cloFrom_has {cells : List (Str × Addr)} : ∀ {names : List (Str × NameKind)} {acc : List (Str × Addr)} {n : Str}, (n, .free) ∈ names → (n, (cells.lookup n).getD 0) ∈ cloFrom cells names acc
  | (m, k) :: r, acc, n, h => by
    unfold cloFrom
    rcases List.mem_cons.mp h with e | h
    · cases e
      exact cloFrom_acc List.mem_cons_self
    · split
      · exact cloFrom_has h
      · exact cloFrom_has h

theorem cells_mem : ∀ {names : List (Str × NameKind)} {h : Heap} {acc : List (Str × Addr)} {x : Str} {c : Addr}, (x, c) ∈ cellsFrom h.objs.size names acc →
    (x, c) ∈ acc ∨ ((x, .cell) ∈ names ∧ h.objs.size ≤ c ∧ CellAt (pushCells h names) c none)
  | [], _, _, _, _, h => .inl h
  | (n, k) :: r, h, acc, x, c, hm => by
    unfold cellsFrom at hm
    unfold pushCells
    split at hm
    · rename_i hk
      rw [if_pos hk]
      have hk : k = .cell := by simpa using hk
      rw [← Heap.size_push h { cls := .type "cell", data := .cell none }] at hm
      rcases cells_mem hm with hm | ⟨h1, h2, h3⟩
      · rcases List.mem_cons.mp hm with e | hm
        · cases e
          exact .inr ⟨hk ▸ List.mem_cons_self, Nat.le_refl _, _, pushCells_keeps r _ _ _ (Heap.get?_push_size _ rfl), rfl⟩
        · exact .inl hm
      · rw [Heap.size_push] at h2
        exact .inr ⟨List.mem_cons_of_mem _ h1, Nat.le_of_succ_le h2, h3⟩
    · rename_i hk
      rw [if_neg hk]
      rcases cells_mem hm with hm | ⟨h1, h2, h3⟩
      · exact .inl hm
      · exact .inr ⟨List.mem_cons_of_mem _ h1, h2, h3⟩
theorem cells_acc : ∀ {names : List (Str × NameKind)} {n : Nat} {acc : List (Str × Addr)} {p : Str × Addr}, p ∈ acc → p ∈ cellsFrom n names acc
  | [], _, _, _, h => h
  | (m, k) :: r, n, acc, p, h => by
    unfold cellsFrom
    split
    · exact cells_acc (List.mem_cons_of_mem _ h)
    · exact cells_acc h
theorem cells_has : ∀ {names : List (Str × NameKind)} {n : Nat} {acc : List (Str × Addr)} {x : Str}, (x, .cell) ∈ names → ∃ c, (x, c) ∈ cellsFrom n names acc
  | (m, k) :: r, n, acc, x, h => by
    unfold cellsFrom
    rcases List.mem_cons.mp h with e | h
    · cases e
      exact ⟨n, cells_acc List.mem_cons_self⟩
    · split
      · exact cells_has h
      · exact cells_has h
theorem cells_inj : ∀ {names : List (Str × NameKind)} {h : Heap} {acc : List (Str × Addr)} {x y : Str} {c : Addr}, (∀ p ∈ acc, p.2 < h.objs.size) → (∀ x y c, (x, c) ∈ acc → (y, c) ∈ acc → x = y) →
    (x, c) ∈ cellsFrom h.objs.size names acc → (y, c) ∈ cellsFrom h.objs.size names acc → x = y
  | [], _, _, _, _, _, _, hi, h1, h2 => hi _ _ _ h1 h2
  | (n, k) :: r, h, acc, x, y, c, hl, hi, h1, h2 => by
    unfold cellsFrom at h1 h2
    split at h1
    · rename_i hk
      rw [if_pos hk] at h2
      rw [← Heap.size_push h { cls := .type "cell", data := .cell none }] at h1 h2
      refine cells_inj (h := h.push _) (fun p hp => ?_) (fun x y c a b => ?_) h1 h2
      · rw [Heap.size_push]
        rcases List.mem_cons.mp hp with rfl | hp
        · exact Nat.lt_succ_self _
        · exact Nat.lt_succ_of_lt (hl p hp)
      · rcases List.mem_cons.mp a with e | a <;> rcases List.mem_cons.mp b with e' | b
        · cases e; cases e'; rfl
        · cases e; exact absurd (hl _ b) (Nat.lt_irrefl _)
        · cases e'; exact absurd (hl _ a) (Nat.lt_irrefl _)
        · exact hi _ _ _ a b
    · rename_i hk
      rw [if_neg hk] at h2
      exact cells_inj hl hi h1 h2

theorem newEnv_comp {M : Model} {A : Around} {E : Value → Shared → Prop} {s : Shared} {scope : Scope} {globals : Addr} {closure : List (Str × Addr)} {qual : Str} {func : Option Addr} {code : Value} {around : Env} {builtins : Addr} {Q : Env → Shared → Prop}
    (h : Q (newEnv scope s.heap.objs.size globals (cellsFrom (s.heap.objs.size + 1) scope.names closure) qual func code (some around) builtins)
      { s with heap := pushCells (s.heap.push { cls := .type "dict", data := .dict #[] }) scope.names }) :
    wpAny M A (newFunctionEnv scope globals closure [] qual func code (some around) builtins) Q E s := by
  simp only [newFunctionEnv, Option.isSome_some, if_true]
  refine wpAny_bind (wpAny_alloc ?_)
  refine wpAny_bind (wpAny_layCells _ (fun n k c => rfl) scope.names closure _ _ ?_)
  rw [show ({ s with heap := s.heap.push { cls := .type "dict", data := .dict #[] } } : Shared).heap.objs.size = s.heap.objs.size + 1 from Heap.size_push ..]
  rw [List.forIn_nil]
  exact wpAny_bind (wpAny_pure (wpAny_pure h))

/-- every name of the written scope, in the scope that runs -/
theorem lookup_relS {sc : Scope} : ∀ {names : List (Str × NameKind)} {x : Str} {k : NameKind},
    (names.map fun (n, k) => if (k == NameKind.free && sc.kind == .function && sc.names.lookup n == some .cell) then (n, NameKind.cell) else (n, k)).lookup x = some k →
    ∃ k', names.lookup x = some k' ∧ (k = k' ∨ (k' = .free ∧ k = .cell))
  | [], _, _, h => by simp at h
  | (n, k₀) :: r, x, k, h => by
    have ih := @lookup_relS sc r x k
    have h' : List.lookup x ((if (k₀ == NameKind.free && sc.kind == .function && sc.names.lookup n == some .cell) = true then (n, NameKind.cell) else (n, k₀)) :: (r.map _)) = some k := h
    cases hx : x == n with
    | true =>
      simp only [List.lookup_cons, hx]
      by_cases hc : (k₀ == NameKind.free && sc.kind == .function && sc.names.lookup n == some .cell) = true
      · rw [if_pos hc] at h'
        simp only [List.lookup_cons, hx] at h'
        cases h'
        simp only [Bool.and_eq_true, beq_iff_eq] at hc
        exact ⟨k₀, rfl, .inr ⟨hc.1.1, rfl⟩⟩
      · rw [if_neg hc] at h'
        simp only [List.lookup_cons, hx] at h'
        cases h'
        exact ⟨_, rfl, .inl rfl⟩
    | false =>
      simp only [List.lookup_cons, hx]
      by_cases hc : (k₀ == NameKind.free && sc.kind == .function && sc.names.lookup n == some .cell) = true
      · rw [if_pos hc] at h'
        simp only [List.lookup_cons, hx] at h'
        exact ih h'
      · rw [if_neg hc] at h'
        simp only [List.lookup_cons, hx] at h'
        exact ih h'



/-- the names of a comprehension's block: its own (with their places in N), or captured -/
structure BlkOk (N : List Str) (sc scope : Scope) (own : List (Str × Nat)) : Prop where
  kind : scope.kind = .function
  uniq : ∀ y ∈ scope.names, scope.names.lookup y.1 = some y.2
  ix : ∀ p ∈ own, N[p.2]? = some p.1
  free : ∀ y ∈ scope.names, y.2 = .free → sc.names.lookup y.1 = some .cell ∨ sc.names.lookup y.1 = some .free
  own : ∀ y ∈ scope.names, y.2 = .local ∨ y.2 = .cell → y.1 ∈ own.map (·.1) ∨ y.1 ∉ N
/-- the slots of the block's own names forgotten -/
def wipe (σ : St) : List Nat → St
  | [] => σ
  | v :: vs => (wipe σ vs).set v none
theorem wipe_length (σ : St) : ∀ vs : List Nat, (wipe σ vs).length = σ.length
  | [] => rfl
  | v :: vs => by unfold wipe; rw [List.length_set, wipe_length σ vs]
theorem wipe_some {σ : St} {i : Nat} {x : V} : ∀ {vs : List Nat}, (wipe σ vs)[i]? = some (some x) → σ[i]? = some (some x) ∧ i ∉ vs
  | [], h => ⟨h, by simp⟩
  | v :: vs, h => by
    unfold wipe at h
    by_cases hi : v = i
    · subst hi
      by_cases hv : v < (wipe σ vs).length
      · rw [List.getElem?_set_self hv] at h; cases h
      · rw [List.getElem?_eq_none (by simpa using hv)] at h; cases h
    · rw [List.getElem?_set_ne hi] at h
      obtain ⟨h1, h2⟩ := wipe_some h
      exact ⟨h1, by simp only [List.mem_cons, not_or]; exact ⟨fun e => hi e.symm, h2⟩⟩

/-- the context of a block that starts at s, its iterator's objects at fp -/
abbrev Cx.blk (X : Cx) (s : Shared) (H : Hp) (scope : Scope) (cenv : Env) (fp : List Addr) : Cx := { X with s_0 := s, H_0 := H, env := cenv, outer := X.stack, ex := fp, fn := fun x => scope.names.lookup x == some .cell, pn := [], xe := fun _ _ => False }
section
variable {X : Cx} {pins : List (Addr × Obj)} {σ : St} {H : Hp} {s : Shared}
theorem block_start {scope : Scope} {own : List (Str × Nat)} {fp : List Addr} (I : Inv X pins σ H s) (ok : BlkOk X.N X.env.scope scope own) (hN : X.N.Nodup) (hfp : ∀ b ∈ fp, FpOk X pins H b ∧ b < s.heap.objs.size) :
    Inv (X.blk s H scope (compEnvC scope (cellsFrom (s.heap.objs.size + 1) scope.names (cloFrom X.env.cells scope.names [])) s.heap.objs.size X.env) fp) [] (wipe σ (own.map (·.2))) H { s with heap := pushCells (s.heap.push { cls := .type "dict", data := .dict #[] }) scope.names } := by
  have hfree : ∀ y ∈ scope.names, y.2 = .free → ∃ c, X.env.cells.lookup y.1 = some c := fun y hy e => by
    rcases ok.free y hy e with k | k
    · exact I.ok.has _ (.inl k)
    · exact I.ok.has _ (.inr k)
  generalize hcenv : compEnvC scope (cellsFrom (s.heap.objs.size + 1) scope.names (cloFrom X.env.cells scope.names [])) s.heap.objs.size X.env = cenv
  have kp : ∀ b o, s.heap.get? b = some o → (pushCells (s.heap.push { cls := .type "dict", data := .dict #[] }) scope.names).get? b = some o := fun b o e => pushCells_keeps _ _ _ _ (Heap.get?_push_of_some _ e)
  have hL : cenv.locals = s.heap.objs.size := by rw [← hcenv]; rfl
  have hcl : cenv.cells = cellsFrom (s.heap.objs.size + 1) scope.names (cloFrom X.env.cells scope.names []) := by rw [← hcenv]; rfl
  have hsc : cenv.scope = relS scope X.env.scope := by rw [← hcenv]; rfl
  rw [← Heap.size_push s.heap { cls := .type "dict", data := .dict #[] }] at hcl
  have cm : ∀ {y c}, (y, c) ∈ cloFrom X.env.cells scope.names [] → X.env.cells.lookup y = some c ∧ c < s.heap.objs.size := fun {y c} hm => by
    rcases cloFrom_mem hm with hm | ⟨h1, rfl⟩
    · cases hm
    · obtain ⟨c, hc⟩ := hfree _ h1 rfl
      rw [hc]
      obtain ⟨w, z⟩ := I.cell _ _ hc
      exact ⟨rfl, z.lt⟩
  have mem : ∀ {y c}, cenv.cells.lookup y = some c → (X.env.cells.lookup y = some c ∧ c < s.heap.objs.size) ∨ (s.heap.objs.size + 1 ≤ c ∧ CellAt (pushCells (s.heap.push { cls := .type "dict", data := .dict #[] }) scope.names) c none) := fun {y c} e => by
    rw [hcl] at e
    rcases cells_mem (PySem.mem_of_lookup e) with hm | ⟨_, h2, h3⟩
    · exact .inl (cm hm)
    · rw [Heap.size_push] at h2; exact .inr ⟨h2, h3⟩
  have look : ∀ {y}, scope.names.lookup y = some .free → ∃ c, cenv.cells.lookup y = some c ∧ X.env.cells.lookup y = some c := fun {y} hl => by
    have hy : (y, NameKind.free) ∈ scope.names := PySem.mem_of_lookup hl
    obtain ⟨c', e'⟩ := mem_lookup (cells_acc (names := scope.names) (n := (s.heap.push { cls := .type "dict", data := .dict #[] }).objs.size) (cloFrom_has (cells := X.env.cells) (acc := []) hy))
    rw [← hcl] at e'
    refine ⟨c', e', ?_⟩
    rw [hcl] at e'
    rcases cells_mem (PySem.mem_of_lookup e') with hm | ⟨h1, _, _⟩
    · exact (cm hm).1
    · have := ok.uniq _ h1
      rw [hl] at this; cases this
  have okB : (X.blk s H scope cenv fp).Ok := by
    refine ⟨I.ok.mod, by show cenv.scope.kind = _; rw [hsc]; exact ok.kind, by show cenv.globals = _; rw [← hcenv]; exact I.ok.glob, by show cenv.builtins = _; rw [← hcenv]; exact I.ok.blt, by show s.heap.objs.size ≤ cenv.locals; rw [hL]; exact Nat.le_refl _,
      fun y z c e1 e2 => ?_, fun y hy => ?_, fun y c z e => ?_, I.ok.hd, I.ok.frames, .inl rfl, fun b hb => ⟨?_, fun y c e z => ?_⟩, I.bs, Nat.le_trans I.ok.bsz I.sz, fun b o e hb => ?_, fun b hb z => ?_, I.stack, I.stkFree⟩
    · have e1 : cenv.cells.lookup y = some c := e1
      have e2 : cenv.cells.lookup z = some c := e2
      rw [hcl] at e1 e2
      refine cells_inj (fun p hp => ?_) (fun y z c a b => I.ok.inj y z c (cm a).1 (cm b).1) (PySem.mem_of_lookup e1) (PySem.mem_of_lookup e2)
      rw [Heap.size_push]
      exact Nat.lt_succ_of_lt (cm (y := p.1) (c := p.2) hp).2
    · show ∃ c, cenv.cells.lookup y = some c
      have key : ∀ k, cenv.kindOf y = some k → (k = .cell ∨ k = .free) → ∃ c, cenv.cells.lookup y = some c := fun k hk hk' => by
        unfold Env.kindOf at hk
        rw [hsc] at hk
        obtain ⟨k', e, r⟩ := lookup_relS hk
        have : k' = .cell ∨ k' = .free := by
          rcases r with rfl | ⟨rfl, _⟩
          · exact hk'
          · exact .inr rfl
        rcases this with rfl | rfl
        · obtain ⟨c, hm⟩ := cells_has (n := (s.heap.push { cls := .type "dict", data := .dict #[] }).objs.size) (acc := cloFrom X.env.cells scope.names []) (PySem.mem_of_lookup e)
          obtain ⟨c', e'⟩ := mem_lookup hm
          exact ⟨c', by rw [hcl]; exact e'⟩
        · obtain ⟨c, h1, _⟩ := look e
          exact ⟨c, h1⟩
      rcases hy with hy | hy
      · exact key _ hy (.inl rfl)
      · exact key _ hy (.inr rfl)
    · have z : (scope.names.lookup y == some NameKind.cell) = true := z
      have z : scope.names.lookup y = some .cell := by simpa using z
      have e : cenv.cells.lookup y = some c := e
      rw [hcl] at e
      rcases cells_mem (PySem.mem_of_lookup e) with hm | ⟨_, h2, _⟩
      · rcases cloFrom_mem hm with hm | ⟨h1, _⟩
        · cases hm
        · have q := ok.uniq _ h1
          rw [z] at q; cases q
      · rw [Heap.size_push] at h2
        exact Nat.le_of_succ_le h2
    · show b ≠ cenv.locals
      rw [hL]; exact Nat.ne_of_lt (hfp b hb).2
    · have e : cenv.cells.lookup y = some c := e
      rcases mem e with ⟨h1, _⟩ | ⟨h1, _⟩
      · exact (hfp b hb).1.2.2.2.2.1 y c h1 z
      · have h2 : s.heap.objs.size + 1 ≤ b := by rw [← z]; exact h1
        exact absurd (Nat.lt_of_lt_of_le (hfp b hb).2 (Nat.le_of_succ_le h2)) (Nat.lt_irrefl _)
    · rcases (hfp b hb).1.2.2.2.1 with z | z
      · exact I.ok.noex b o e z
      · exact absurd (Nat.lt_of_lt_of_le (Heap.lt_size e) (Nat.le_trans I.ok.bsz z)) (Nat.lt_irrefl _)
    · rcases List.mem_cons.mp (I.stkSub b z) with z | z
      · exact (hfp b hb).1.2.1 z
      · exact (hfp b hb).1.2.2.1 z
  refine ⟨okB, rfl, I.bare, Un.kept kp, ⟨fun _ => none, ?_, fun i y av e1 e2 e3 => ?_⟩, fun y c e => ?_, ?_, fun y c e => ?_, fun p hp => ?_, I.hok.kept kp, by rw [wipe_length]; exact I.len⟩
  · show Heap.Ns _ cenv.locals _
    rw [hL]
    exact Heap.Ns.keeps (Heap.Ns.new ..) fun b o e => pushCells_keeps _ _ _ _ e
  · obtain ⟨e2, hne⟩ := wipe_some e2
    have hfr : scope.names.lookup y = some .free ∧ (cenv.kindOf y = some .cell ∨ cenv.kindOf y = some .free) := by
      have key : ∀ k, cenv.scope.names.lookup y = some k → k = .local ∨ k = .cell ∨ k = .free → scope.names.lookup y = some .free ∧ (cenv.kindOf y = some .cell ∨ cenv.kindOf y = some .free) := fun k hk hk' => by
        have hk0 := hk
        rw [hsc] at hk
        obtain ⟨k', e, r⟩ := lookup_relS hk
        have no : ¬ (k' = .local ∨ k' = .cell) := fun hh => by
          rcases ok.own _ (PySem.mem_of_lookup e) hh with e' | e'
          · obtain ⟨p, hp, hpy⟩ := List.mem_map.mp e'
            have e3 := ok.ix p hp
            have : p.1 = y := hpy
            rw [this] at e3
            exact hne (List.mem_map.mpr ⟨p, hp, nodup_ix hN e3 e1⟩)
          · exact e' (List.mem_of_getElem? e1)
        rcases r with rfl | ⟨rfl, rfl⟩
        · rcases hk' with rfl | rfl | rfl
          · exact absurd (.inl rfl) no
          · exact absurd (.inr rfl) no
          · exact ⟨e, .inr hk0⟩
        · exact ⟨e, .inl hk0⟩
      have e3 : Vis cenv.scope y := e3
      rcases e3 with e3 | e3 | e3
      · exact key _ e3 (.inl rfl)
      · exact key _ e3 (.inr (.inl rfl))
      · exact key _ e3 (.inr (.inr rfl))
    obtain ⟨m, hn, hl⟩ := I.loc
    have hvis : Vis X.env.scope y := (ok.free _ (PySem.mem_of_lookup hfr.1) rfl).elim (fun k => .inr (.inl k)) (fun k => .inr (.inr k))
    obtain ⟨w, r, q⟩ := hl i y av e1 e2 hvis
    refine ⟨w, r, .inr ⟨hfr.2, ?_⟩⟩
    obtain ⟨c, h1, h2⟩ := look hfr.1
    rcases q with ⟨k, _⟩ | ⟨_, c', e', z⟩
    · have k : X.env.scope.names.lookup y = some .local := k
      rcases ok.free _ (PySem.mem_of_lookup hfr.1) rfl with k' | k' <;> rw [show X.env.scope.names.lookup y = _ from k'] at k <;> cases k
    · rw [h2] at e'; cases e'
      exact ⟨c, h1, z.keeps kp⟩
  · have e : cenv.cells.lookup y = some c := e
    rcases mem e with ⟨h1, _⟩ | ⟨_, z⟩
    · obtain ⟨w, z⟩ := I.cell y c h1
      exact ⟨w, z.keeps kp⟩
    · exact ⟨_, z⟩
  · show H cenv.locals = none
    rw [hL]; exact I.hok.fresh (Nat.le_refl _)
  · have e : cenv.cells.lookup y = some c := e
    rcases mem e with ⟨h1, _⟩ | ⟨h1, _⟩
    · exact I.freeC y c h1
    · exact I.hok.fresh (Nat.le_of_succ_le h1)
  · exact absurd (show p ∈ ([] : List (Addr × Obj)) ++ [] from hp) (by simp)

/-- an item appended to a tracked list -/
theorem app_ok {E : Value → Shared → Prop} {D : Addr} {xs : List V} {y : V} {v : Value} {Q : Value → Shared → Prop} (I : Inv X pins σ H s) (hD : H D = some (.lst xs)) (hz : xs.length < sizeLine) (r : RelV y v)
    (h : ∀ s', Inv X pins σ (upd H D (.lst (xs ++ [y]))) s' → Q .none s') : wpAny (model X.prog X.w) X.A (call (.builtin "list.append") [.ref D, v]) Q E s := by
  obtain ⟨hz', its, n, ri, e⟩ := I.hok D _ hD
  have hl := ri.length
  refine append_at (hsz := by rw [List.size_toArray]; lia) e fun h' sb ho' => ?_
  refine h { s with heap := h' } (I.write (t' := s.toks) (by rw [hD]; trivial) (.inl rfl) (fun b u hb q => (sb.2 b hb).trans q) ⟨_, ho'⟩ ⟨by rw [List.length_append]; exact hz, its ++ [v], n + 1, ri.append (.cons r .nil), ?_⟩)
  rw [ho']
  simp

/-- a clause's tests -/
def PTs (X : Cx) (ifs : List Expr) (t : TT) : Prop :=
  ∀ (pins : List (Addr × Obj)) (s : Shared) (σ : St) (H : Hp) (Q : Bool → Hp → Prop), Inv X pins σ H s → t σ H Q →
    wpAny (model X.prog X.w) X.A (forIn ifs true fun c r => if r = true then do let ok ← isTrue c X.env (eval c X.env); pure (ForInStep.yield ok) else pure (ForInStep.yield r)) (TP X pins σ Q) X.xe s
def tYes : TT := fun _ H Q => Q true H
theorem pts_nil : PTs X [] tYes := fun _ _ _ H _ I h => wpAny_tests_nil ⟨H, I, h⟩
end

theorem thnF {α : Type} {t : Sem α} {Q Q' : α → Shared → Prop} {M : Model} {A : Around} {E : Value → Shared → Prop} {s : Shared} (h : wpAny M A t Q (fun _ _ => False) s) (hQ : ∀ a s, Q a s → Q' a s) : wpAny M A t Q' E s := wpAny_mono h hQ fun _ _ z => False.elim z

/-- the loop of a list comprehension's block, the target of any form (codeAny_compLoop_tests asks a target that no tuple goes to; statement and proof follow it, PyProof/CompMap.lean:41-61, with the step letOwnedTupleGo kept) -/
theorem compLoop_any {prog : Program} {w : World} {A : Around} {R : Result → Shared → Prop} {s : Shared} {elt target iter : Expr} {ifs : List Expr} {scope : Scope} {pos : Pos} {it acc : Value} {env : Env} (I : Nat → Shared → Prop)
    (turn : ∀ n s, I n s → wpAny (model prog w) A (pyNext it) (fun r s₁ => match r with
      | none => R (.ok .next) s₁
      | some v => wpAny (model prog w) A (letOwnedTupleGo target it v) (fun _ s₁' => wpAny (model prog w) A (assign target env v) (fun _ s₂ =>
          wpAny (model prog w) A (forIn ifs true fun c r => if r = true then do let ok ← isTrue c env (eval c env); pure (ForInStep.yield ok) else pure (ForInStep.yield r)) (fun ok s₃ =>
            if ok = true then wpAny (model prog w) A (eval elt env) (fun x s₄ =>
              wpAny (model prog w) A (call (.builtin "list.append") [acc, x]) (fun _ s₅ => ∃ m, m < n ∧ I m s₅) (notedBy (model prog w) A env fun e s' => R (.error e) s') s₄) (notedBy (model prog w) A env fun e s' => R (.error e) s') s₃
            else ∃ m, m < n ∧ I m s₃) (notedBy (model prog w) A env fun e s' => R (.error e) s') s₂) (notedBy (model prog w) A env fun e s' => R (.error e) s') s₁') (notedBy (model prog w) A env fun e s' => R (.error e) s') s₁) (notedBy (model prog w) A env fun e s' => R (.error e) s') s)
    (n : Nat) (h : I n s) :
    codeAny (model prog w) A (.compLoop (.ListComp elt [⟨target, iter, ifs, 0⟩] scope pos) 0 it acc env) R s := by
  refine codeAny_loop rfl I (fun n s hI => ?_) n h
  show wpAny _ A ((compTurn (.ListComp elt [⟨target, iter, ifs, 0⟩] scope pos) 0 it acc env).onRaise (fun x => do noteFrame x env; theTreesLotGoes x)) _ _ s
  refine wpAny_noted ?_
  rw [compTurn_list]
  refine wpAny_bind (wpAny_standAt (wpAny_bind (wpAny_mono (turn n s hI) (fun r s₁ h₁ => ?_) fun _ _ h' => h')))
  cases r with
  | none => exact wpAny_pure h₁
  | some v =>
    refine wpAny_bind (wpAny_mono h₁ (fun _ s₁' h₁' => ?_) fun _ _ h' => h')
    refine wpAny_bind (wpAny_mono h₁' (fun _ s₂ h₂ => wpAny_bind (wpAny_mono h₂ (fun ok s₃ h₃ => ?_) fun _ _ h' => h')) fun _ _ h' => h')
    cases ok with
    | false => exact wpAny_pure ⟨rfl, h₃⟩
    | true =>
      exact wpAny_bind (wpAny_bind (wpAny_mono h₃ (fun x s₄ h₄ => wpAny_bind (wpAny_mono h₄ (fun _ s₅ h₅ => wpAny_pure (wpAny_pure ⟨rfl, h₅⟩)) fun _ _ h' => h')) fun _ _ h' => h'))

section
variable {X : Cx}
/-- [elt for target in iter if ..]: D the new list; W by the turn and a measure, Nx what a turn is to reach -/
def tLc (wi : TI) (g : TG) (tt : TT) (te : TE) (vs : List Nat) : TE := fun σ H Q => wi σ H fun J H1 => ∀ D, H1 D = none → ∃ W : Nat → Nat → Hp → Prop, (∃ m, W 0 m (upd H1 D (.lst []))) ∧ ∀ i m H, W i m H →
  (J.stop i H ∧ Q (.ref D) H) ∨ (J.go i H ∧ ∃ Nx : Hp → Prop, (∀ H', Nx H' → ∃ m', m' < m ∧ W (i + 1) m' H') ∧ ∀ x H', J.yld i H x H' → g x (wipe σ vs) H' fun σ2 H2 => wipe σ2 vs = wipe σ vs ∧ tt σ2 H2 fun b H3 =>
    if b = true then te σ2 H3 fun y H4 => ∃ acc, H4 D = some (.lst acc) ∧ acc.length < sizeLine ∧ Nx (upd H4 D (.lst (acc ++ [y]))) else Nx H3)
theorem lc_core {pins : List (Addr × Obj)} {s : Shared} {σ : St} {H : Hp} {Q : VK} {elt tg iter : Expr} {ifs : List Expr} {scope : Scope} {own : List (Str × Nat)} {pos pos' : Pos} {wi : TI} {g : TG} {tt : TT} {te : TE} {use : Option (Value → Sem Unit)} {Qf : Value → Shared → Prop}
    (hc : X.calm = true) (hN : X.N.Nodup) (I : Inv X pins σ H s) (hi : PI X tg iter wi) (ok : BlkOk X.N X.env.scope scope own)
    (hg : ∀ (s : Shared) (H : Hp) (C : Addr) (cl : List (Str × Addr)) (fp : List Addr), PG (X.blk s H scope (compEnvC scope cl C X.env) fp) tg g) (ht : ∀ (s : Shared) (H : Hp) (C : Addr) (cl : List (Str × Addr)) (fp : List Addr), PTs (X.blk s H scope (compEnvC scope cl C X.env) fp) ifs tt)
    (he : ∀ (s : Shared) (H : Hp) (C : Addr) (cl : List (Str × Addr)) (fp : List Addr), PE (X.blk s H scope (compEnvC scope cl C X.env) fp) elt te) (hs : ∀ x, foldedSetIterable iter X.env x = pure x)
    (h : tLc wi g tt te (own.map (·.2)) σ H Q)
    (hRR : ∀ D C s' m H', Inv X pins σ H' s' → Q (.ref D) H' → s'.heap.Ns C m → FpOk X pins H' C → compPost (model X.prog X.w) X.A X.xe use Qf (.ref D) C (.ok .next) s') :
    wpAny (model X.prog X.w) X.A (comprehension (.ListComp elt [⟨tg, iter, ifs, 0⟩] scope pos) scope X.env pos' (newList []) false (eval iter X.env) use) Qf X.xe s := by
  have hfree : ∀ y ∈ scope.names, y.2 = .free → ∃ c, X.env.cells.lookup y.1 = some c := fun y hy e => by
    rcases ok.free y hy e with k | k
    · exact I.ok.has _ (.inl k)
    · exact I.ok.has _ (.inr k)
  refine wpAny_comprehension_free (use := use) rfl hs (closure_ok hfree) ok.kind (fun y hy e => by rw [ok.uniq y hy, e])
    (thn (hi pins s σ H _ I h) fun xv s1 hx => thn hx fun itv s2 h2 => ?_)
  obtain ⟨it, fp, tn, J, H2, e, I2, T, st2, f2, q⟩ := h2
  subst e
  refine wpAny_newObj_type (newEnv_comp ?_) (by show 0 ≤ sizeLine; decide)
  generalize hD : s2.heap.objs.size = D
  have hDn : H2 D = none := I2.hok.fresh (Nat.le_of_eq hD)
  obtain ⟨W, ⟨m0, w0⟩, turn⟩ := q D hDn
  -- the new list
  generalize hs3 : ({ s2 with heap := s2.heap.push { cls := .type "list", data := .seq ([] : List Value).toArray } } : Shared) = s3
  have I3 : Inv X pins σ (upd H2 D (.lst [])) s3 := by
    rw [← hs3]
    refine I2.laid (t' := s2.toks) (fun b o e => Heap.get?_push_of_some _ e) (Nat.le_of_eq hD) ⟨Nat.zero_le _, [], 0, .nil, ?_⟩
    rw [← hD]
    exact Heap.get?_push_size _ rfl
  have h3 : s3.heap = s2.heap.push { cls := .type "list", data := .seq ([] : List Value).toArray } := by rw [← hs3]
  have sz : ∀ b ∈ fp, b < s2.heap.objs.size := fun b hb => by
    obtain ⟨o, e, _⟩ := T.obj _ _ st2 b hb
    exact Heap.lt_size e
  have f3 : ∀ b ∈ fp, FpOk X pins (upd H2 D (.lst [])) b ∧ b < s3.heap.objs.size := fun b hb => by
    have hlt := sz b hb
    refine ⟨⟨?_, (f2 b hb).2⟩, by rw [h3, Heap.size_push]; exact Nat.lt_succ_of_lt hlt⟩
    rw [upd_ne (by rw [← hD]; exact Nat.ne_of_lt hlt)]
    exact (f2 b hb).1
  have st3 : tn 0 s3.heap := T.keep _ _ _ st2 fun b _ o e => by rw [h3]; exact Heap.get?_push_of_some _ e
  have I4 := block_start I3 ok hN f3
  have pg := hg s3 (upd H2 D (.lst [])) s3.heap.objs.size (cellsFrom (s3.heap.objs.size + 1) scope.names (cloFrom X.env.cells scope.names [])) fp
  have pt := ht s3 (upd H2 D (.lst [])) s3.heap.objs.size (cellsFrom (s3.heap.objs.size + 1) scope.names (cloFrom X.env.cells scope.names [])) fp
  have pe := he s3 (upd H2 D (.lst [])) s3.heap.objs.size (cellsFrom (s3.heap.objs.size + 1) scope.names (cloFrom X.env.cells scope.names [])) fp
  show codeAny _ _ (.compStart (.ListComp elt [⟨tg, iter, ifs, 0⟩] scope pos) 0 (.ref it) (.ref D) (compEnvC scope (cellsFrom (s3.heap.objs.size + 1) scope.names (cloFrom X.env.cells scope.names [])) s3.heap.objs.size X.env)) (compPost (model X.prog X.w) X.A X.xe use Qf (.ref D) s3.heap.objs.size) { s3 with heap := pushCells (s3.heap.push { cls := .type "dict", data := .dict #[] }) scope.names }
  have nfp : ∀ b ∈ fp, (upd H2 D (.lst [])) b = none := fun b hb => (f3 b hb).1.1
  generalize hce : compEnvC scope (cellsFrom (s3.heap.objs.size + 1) scope.names (cloFrom X.env.cells scope.names [])) s3.heap.objs.size X.env = ce at I4 pg pt pe ⊢
  have cL : ce.locals = s3.heap.objs.size := by subst hce; rfl
  generalize hH3 : upd H2 D (.lst []) = H3 at I3 I4 pg pt pe w0 nfp f3
  generalize hs4 : ({ s3 with heap := pushCells (s3.heap.push { cls := .type "dict", data := .dict #[] }) scope.names } : Shared) = s4 at I4 ⊢
  have st4 : tn 0 s4.heap := T.keep _ _ _ st3 fun b _ o e => by rw [← hs4]; exact pushCells_keeps _ _ _ _ (Heap.get?_push_of_some _ e)
  have stat : ∀ {σ' : St} {H' : Hp} {s' : Shared}, Inv (X.blk s3 H3 scope ce fp) [] σ' H' s' → (∀ b ∈ fp, H' b = none) → ∀ b ∈ fp, FpOk (X.blk s3 H3 scope ce fp) [] H' b := fun {σ' H' s'} I' hn b hb =>
    ⟨hn b hb, (I'.ok.exf b hb).1, I'.ok.exfs b hb, .inl hb, fun x c e => (I'.ok.exf b hb).2 x c e, fun p hp => absurd (show p ∈ ([] : List (Addr × Obj)) ++ [] from hp) (by simp)⟩
  have loop : codeAny (model X.prog X.w) X.A (.compLoop (.ListComp elt [⟨tg, iter, ifs, 0⟩] scope pos) 0 (.ref it) (.ref D) ce) (compPost (model X.prog X.w) X.A X.xe use Qf (.ref D) s3.heap.objs.size) s4 := by
    refine compLoop_any (fun n s' => ∃ i H', Inv (X.blk s3 H3 scope ce fp) [] (wipe σ (own.map (·.2))) H' s' ∧ tn i s'.heap ∧ (∀ b ∈ fp, H' b = none) ∧ W i n H') ?_ m0 ⟨0, H3, I4, st4, nfp, w0⟩
    rintro n s5 ⟨i, H5, I5, st5, n5, w5⟩
    rcases turn i n H5 w5 with ⟨stop, qq⟩ | ⟨go, Nx, hNx, step⟩
    · have td := T.done (X.blk s3 H3 scope ce fp) rfl rfl rfl hc i [] s5 _ H5 (fun _ _ => False) I5 (stat I5 n5) st5 stop
      refine thnF td fun r s6 ⟨hr, I6⟩ => ?_
      subst hr
      -- back in the def's context
      have I7 : Inv X pins σ H5 s6 := I3.call' (ch := fp) I6.os I6.base I6.hok I6.bare fun b hb => ⟨(f3 b hb).1.2.2.2.1, (f3 b hb).1.2.1, (f3 b hb).1.2.2.2.2.1, (f3 b hb).1.2.2.2.2.2⟩
      have nC : H5 s3.heap.objs.size = none := by
        have z : H5 ce.locals = none := I6.free
        rw [cL] at z
        exact z
      obtain ⟨m, hn, _⟩ := I6.loc
      have hn : s6.heap.Ns ce.locals m := hn
      rw [cL] at hn
      exact hRR D s3.heap.objs.size s6 m H5 I7 qq hn (I3.fpOk (Nat.le_refl _) nC)
    · have ti := T.item (X.blk s3 H3 scope ce fp) rfl rfl rfl hc i [] s5 _ H5 (fun _ _ => False) I5 (stat I5 n5) st5 go
      refine thnF ti fun r s6 ⟨u, hr, h6⟩ => ?_
      subst hr
      refine thnF h6 fun _ s7 ⟨x, H7, I7, r7, y7, st7, n7⟩ => ?_
      have I7' := I7.pinned (stat I7 n7) (T.obj _ _ st7)
      refine thnF (pg _ s7 _ H7 x u _ I7' r7 (step x H7 y7)) fun _ s8 ⟨σ8, H8, I8, hw8, q8⟩ => ?_
      refine thnF (pt _ s8 σ8 H8 _ I8 q8) fun b s9 ⟨H9, I9, q9⟩ => ?_
      -- the turn's end
      have fin : ∀ {s' : Shared} {H' : Hp}, Inv (X.blk s3 H3 scope ce fp) ([] ++ pinsAt fp s7.heap) σ8 H' s' → Nx H' → ∃ m, m < n ∧ ∃ i H', Inv (X.blk s3 H3 scope ce fp) [] (wipe σ (own.map (·.2))) H' s' ∧ tn i s'.heap ∧ (∀ b ∈ fp, H' b = none) ∧ W i m H' := fun {s' H'} I' nx => by
        obtain ⟨m', hm, w'⟩ := hNx H' nx
        have pin' : ∀ b ∈ fp, ∀ o, s7.heap.get? b = some o → s'.heap.get? b = some o ∧ H' b = none := fun b hb o e =>
          let z := I'.pin (b, o) (List.mem_append_right _ (List.mem_append_right _ (mem_pinsAt hb e)))
          ⟨z.1, z.2.1⟩
        have hl : (wipe σ (own.map (·.2))).length = σ8.length := by rw [← hw8, wipe_length]
        refine ⟨m', hm, i + 1, H', (I'.unpinned (pins := [])).weak hl (fun j v e => ?_), T.keep _ _ _ st7 fun b hb o e => (pin' b hb o e).1, fun b hb => ?_, w'⟩
        · rw [← hw8] at e
          exact (wipe_some e).1
        · obtain ⟨o, e, _⟩ := T.obj _ _ st7 b hb
          exact (pin' b hb o e).2
      cases b with
      | false =>
        simp only [Bool.false_eq_true, if_false] at q9 ⊢
        exact fin I9 q9
      | true =>
        simp only [if_true] at q9 ⊢
        refine thnF (pe _ s9 σ8 H9 _ I9 q9) fun z s10 ⟨yv, H10, I10, r10, acc, hD10, hz10, nx⟩ => ?_
        exact app_ok (X := X.blk s3 H3 scope ce fp) I10 hD10 hz10 r10 fun s11 I11 => fin I11 nx
  exact codeAny_compStart_list loop (T.self X.A 0 _ _ _ st4 loop)
/-- as a value -/
theorem pe_lc {elt tg iter : Expr} {ifs : List Expr} {scope : Scope} {own : List (Str × Nat)} {pos : Pos} {wi : TI} {g : TG} {tt : TT} {te : TE} (hc : X.calm = true) (hN : X.N.Nodup) (hi : PI X tg iter wi) (ok : BlkOk X.N X.env.scope scope own)
    (hg : ∀ (s : Shared) (H : Hp) (C : Addr) (cl : List (Str × Addr)) (fp : List Addr), PG (X.blk s H scope (compEnvC scope cl C X.env) fp) tg g) (ht : ∀ (s : Shared) (H : Hp) (C : Addr) (cl : List (Str × Addr)) (fp : List Addr), PTs (X.blk s H scope (compEnvC scope cl C X.env) fp) ifs tt)
    (he : ∀ (s : Shared) (H : Hp) (C : Addr) (cl : List (Str × Addr)) (fp : List Addr), PE (X.blk s H scope (compEnvC scope cl C X.env) fp) elt te) (hs : ∀ x, foldedSetIterable iter X.env x = pure x := by intro _; rfl) :
    PE X (.ListComp elt [⟨tg, iter, ifs, 0⟩] scope pos) (tLc wi g tt te (own.map (·.2))) := by
  intro pins s σ H Q I h
  rw [eval_ListComp]
  refine lc_core hc hN I hi ok hg ht he hs h fun D C s' m H' I' q hn f => ⟨m, hn, fun h'' sb => ?_⟩
  obtain ⟨f0, f1, f2, f3, f4, f5⟩ := f
  exact ⟨.ref D, H', I'.turned (t' := s'.toks) (fun b o hb e => (sb.2 b hb).trans e) f0 f1 f3 f4 f5, rfl, q⟩
end

/-! ### the forms one uses -/
/-- over a list that the block leaves as it is -/
theorem lc_list {K : PySem.W.Frag} {a : Addr} {xs : List V} {g : TG} {tt : TT} {te : TE} {vs : List Nat} {σ : St} {H1 : Hp} {D : Addr} {Qd : Hp → Prop} (Pv : Nat → Hp → Prop) (h0 : Pv 0 (upd H1 D (.lst []))) (hl : ∀ i H, i ≤ xs.length → Pv i H → SqL K H a xs)
    (hs : ∀ i x H, xs[i]? = some x → Pv i H → g x (wipe σ vs) H fun σ2 H2 => wipe σ2 vs = wipe σ vs ∧ tt σ2 H2 fun b H3 =>
      if b = true then te σ2 H3 fun y H4 => ∃ acc, H4 D = some (.lst acc) ∧ acc.length < sizeLine ∧ Pv (i + 1) (upd H4 D (.lst (acc ++ [y]))) else Pv (i + 1) H3) (hd : ∀ H, Pv xs.length H → Qd H) :
    ∃ W : Nat → Nat → Hp → Prop, (∃ m, W 0 m (upd H1 D (.lst []))) ∧ ∀ i m H, W i m H →
      ((Itl K a).stop i H ∧ Qd H) ∨ ((Itl K a).go i H ∧ ∃ Nx : Hp → Prop, (∀ H', Nx H' → ∃ m', m' < m ∧ W (i + 1) m' H') ∧ ∀ x H', (Itl K a).yld i H x H' → g x (wipe σ vs) H' fun σ2 H2 => wipe σ2 vs = wipe σ vs ∧ tt σ2 H2 fun b H3 =>
        if b = true then te σ2 H3 fun y H4 => ∃ acc, H4 D = some (.lst acc) ∧ acc.length < sizeLine ∧ Nx (upd H4 D (.lst (acc ++ [y]))) else Nx H3) := by
  refine ⟨fun i m H => m = xs.length - i ∧ i ≤ xs.length ∧ Pv i H, ⟨xs.length, by simp, Nat.zero_le _, h0⟩, ?_⟩
  rintro i m H ⟨rfl, hi, p⟩
  have q := hl i H hi p
  by_cases hlt : i < xs.length
  · refine .inr ⟨⟨xs, xs[i], q, by simp [hlt]⟩, Pv (i + 1), fun H' p' => ⟨xs.length - (i + 1), by lia, rfl, hlt, p'⟩, fun x H' y => ?_⟩
    obtain ⟨e, y⟩ := y
    subst e
    exact hs i x _ (y xs q) p
  · have e : i = xs.length := by lia
    subst e
    exact .inl ⟨⟨xs, q, Nat.le_refl _⟩, hd H p⟩
def blkC (N : List Str) (sc scope : Scope) (own : List (Str × Nat)) : Bool :=
  (match scope.kind with | .function => true | _ => false) && (scope.names.all fun y => decide (scope.names.lookup y.1 = some y.2)) && (own.all fun p => decide (N[p.2]? = some p.1)) &&
    (scope.names.all fun y => match y.2 with
      | .free => (match sc.names.lookup y.1 with | some .cell => true | some .free => true | _ => false)
      | .local => decide (y.1 ∈ own.map (·.1)) || decide (y.1 ∉ N)
      | .cell => decide (y.1 ∈ own.map (·.1)) || decide (y.1 ∉ N)
      | _ => true)
theorem blkOk_by {N : List Str} {sc scope : Scope} {own : List (Str × Nat)} (h : blkC N sc scope own = true) : BlkOk N sc scope own := by
  unfold blkC at h
  simp only [Bool.and_eq_true, List.all_eq_true, decide_eq_true_eq] at h
  obtain ⟨⟨⟨h1, h2⟩, h3⟩, h4⟩ := h
  refine ⟨?_, h2, h3, fun y hy e => ?_, fun y hy e => ?_⟩
  · split at h1
    · assumption
    · cases h1
  · have q := h4 y hy
    simp only [e] at q
    split at q <;> first | exact .inl (by assumption) | exact .inr (by assumption) | cases q
  · have q := h4 y hy
    rcases e with e | e <;> (simp only [e, Bool.or_eq_true, decide_eq_true_eq] at q; exact q)
end L2

namespace L2
open PySem PySem.Spec PyProof.Rows


section
variable {prog : Program} {w : World} {A : Around} {R : Result → Shared → Prop} {s : Shared} {elt t0 i0 t1 i1 : Expr} {ifs0 ifs1 : List Expr} {scope : Scope} {pos : Pos} {it acc : Value} {env : Env}
end

section
variable {X : Cx}
end
end L2

namespace L2
open PySem PySem.Spec PyProof.Rows

/-! ### lists of pairs as tables -/
section
variable {κ : Type} [DecidableEq κ]
def valV (kvs : List (κ × V)) (k : κ) : Option V := (kvs.find? fun kv => decide (kv.1 = k)).map (·.2)
/-- in its place, or at the end -/
def putK (kvs : List (κ × V)) (k : κ) (v : V) : List (κ × V) :=
  if (kvs.any fun kv => decide (kv.1 = k)) = true then kvs.map (fun kv => if kv.1 = k then (kv.1, v) else kv) else kvs ++ [(k, v)]
def dropK (kvs : List (κ × V)) (k : κ) : List (κ × V) := kvs.filter fun kv => decide (kv.1 ≠ k)

theorem valV_pos {p : κ × V} {r : List (κ × V)} {k : κ} (e : p.1 = k) : valV (p :: r) k = some p.2 := by simp [valV, List.find?_cons, e]
theorem valV_neg {p : κ × V} {r : List (κ × V)} {k : κ} (e : ¬ p.1 = k) : valV (p :: r) k = valV r k := by simp [valV, List.find?_cons, e]
theorem valV_any (k : κ) : ∀ kvs : List (κ × V), (kvs.any fun kv => decide (kv.1 = k)) = (valV kvs k).isSome
  | [] => rfl
  | p :: r => by
    rw [List.any_cons]
    by_cases e : p.1 = k
    · simp only [valV_pos e, decide_eq_true e, Bool.true_or, Option.isSome_some]
    · rw [valV_neg e, decide_eq_false e, Bool.false_or]; exact valV_any k r
theorem length_putK (kvs : List (κ × V)) (k : κ) (v : V) : (putK kvs k v).length ≤ kvs.length + 1 := by
  unfold putK
  split
  · rw [List.length_map]; lia
  · rw [List.length_append, List.length_cons, List.length_nil]; lia

theorem RelO.isSome_eq {o : Option V} {u : Option Value} (r : RelO o u) : o.isSome = u.isSome := by
  cases o with
  | none => cases u with
    | none => rfl
    | some _ => exact (show False from r).elim
  | some _ => cases u with
    | none => exact (show False from r).elim
    | some _ => rfl

/-- raw tables of the same keys -/
theorem KV.val {kvs : List (κ × V)} {vs : List (κ × Value)} (r : KV kvs vs) (k : κ) : RelO (valV kvs k) (valueAt vs k) := by
  unfold KV at r
  induction r with
  | nil => exact True.intro
  | @cons p q ps qs h t ih =>
    obtain ⟨h1, h2⟩ := h
    by_cases e : p.1 = k
    · have e' : q.1 = k := h1.symm.trans e
      have b : valueAt (q :: qs) k = some q.2 := by simp [valueAt, List.find?_cons, e']
      rw [valV_pos e, b]; exact h2
    · have e' : ¬ q.1 = k := fun z => e (h1.trans z)
      have b : valueAt (q :: qs) k = valueAt qs k := by simp [valueAt, List.find?_cons, e']
      rw [valV_neg e, b]; exact ih
theorem KV.any {kvs : List (κ × V)} {vs : List (κ × Value)} (r : KV kvs vs) (k : κ) : (kvs.any fun kv => decide (kv.1 = k)) = vs.any fun kv => decide (kv.1 = k) := by
  unfold KV at r
  induction r with
  | nil => rfl
  | cons h t ih => rw [List.any_cons, List.any_cons, ih, h.1]
theorem KV.repl {kvs : List (κ × V)} {vs : List (κ × Value)} (r : KV kvs vs) (k : κ) {y : V} {u : Value} (ry : RelV y u) :
    KV (kvs.map fun kv => if kv.1 = k then (kv.1, y) else kv) (vs.map fun kv => if kv.1 = k then (kv.1, u) else kv) := by
  unfold KV at r ⊢
  induction r with
  | nil => exact .nil
  | @cons p q ps qs h t ih =>
    rw [List.map_cons, List.map_cons]
    refine .cons ?_ ih
    obtain ⟨h1, h2⟩ := h
    by_cases e : p.1 = k
    · rw [if_pos e, if_pos (h1.symm.trans e)]; exact ⟨h1, ry⟩
    · rw [if_neg e, if_neg (fun z => e (h1.trans z))]; exact ⟨h1, h2⟩
theorem KV.put {kvs : List (κ × V)} {vs : List (κ × Value)} (r : KV kvs vs) (k : κ) {y : V} {u : Value} (ry : RelV y u) : KV (putK kvs k y) (stored vs k u) := by
  unfold putK stored
  rw [r.any k]
  by_cases e : (vs.any fun kv => decide (kv.1 = k)) = true
  · rw [if_pos e, if_pos e]; exact r.repl k ry
  · rw [if_neg e, if_neg e]; exact Paired.snoc r ⟨rfl, ry⟩
theorem KV.drop {kvs : List (κ × V)} {vs : List (κ × Value)} (r : KV kvs vs) (k : κ) : KV (dropK kvs k) (without vs k) := by
  unfold KV at r ⊢
  unfold dropK without
  induction r with
  | nil => exact .nil
  | @cons p q ps qs h t ih =>
    obtain ⟨h1, h2⟩ := h
    rw [List.filter_cons, List.filter_cons]
    by_cases e : p.1 = k
    · have a : ¬ decide (p.1 ≠ k) = true := by simp [e]
      have b : ¬ decide (q.1 ≠ k) = true := by simp [h1.symm.trans e]
      rw [if_neg a, if_neg b]; exact ih
    · have e' : ¬ q.1 = k := fun z => e (h1.trans z)
      have a : decide (p.1 ≠ k) = true := by simp [e]
      have b : decide (q.1 ≠ k) = true := by simp [e']
      rw [if_pos a, if_pos b]; exact .cons ⟨h1, h2⟩ ih
theorem KV.length {kvs : List (κ × V)} {vs : List (κ × Value)} (r : KV kvs vs) : kvs.length = vs.length := Paired.length r
theorem dropK_le (kvs : List (κ × V)) (k : κ) : (dropK kvs k).length ≤ kvs.length := List.length_filter_le _ _
end


/-! ### a tracked dict, its keys ints and texts or tuples of these -/
theorem kV_is {P : Program} {w : World} {k : Key} {u : Value} (r : RelV (kV k) u) : (mixKind P w).is k u = true := by
  cases k with
  | inl i => obtain ⟨t, e⟩ := (show ∃ t, u = Value.int i t from r); subst e; exact mixKind_int P w i t
  | inr x => obtain ⟨t, e⟩ := (show ∃ t, u = Value.str x t from r); subst e; exact mixKind_str P w x t
theorem items_are {P : Program} {w : World} : ∀ {ks : List Key} {us : List Value}, Vals (ks.map kV) us → ItemsAre (mixKind P w) ks us
  | [], _, r => by rw [List.map_nil] at r; cases r; exact .nil
  | k :: ks, _, r => by
    rw [List.map_cons] at r
    cases r with
    | cons h t => exact .cons (kV_is h) (items_are t)

/-- raw entries of a dict with tuple keys -/
abbrev KT (H : Hp) : List (List Key × V) → List (List Key × Addr × Value) → Prop := Paired fun p q => p.1 = q.1 ∧ H q.2.1 = some (.tup (p.1.map kV)) ∧ RelV p.2 q.2.2
theorem KT.val {H : Hp} {kvs : List (List Key × V)} {xs : List (List Key × Addr × Value)} (r : KT H kvs xs) (k : List Key) : RelO (valV kvs k) ((atKey xs k).map (·.2)) := by
  induction r with
  | nil => exact True.intro
  | @cons p q ps qs h t ih =>
    obtain ⟨h1, _, h2⟩ := h
    by_cases e : p.1 = k
    · have e' : q.1 = k := h1.symm.trans e
      have b : atKey (q :: qs) k = some q.2 := by simp [atKey, List.find?_cons, e']
      rw [valV_pos e, b]; exact h2
    · have e' : ¬ q.1 = k := fun z => e (h1.trans z)
      have b : atKey (q :: qs) k = atKey qs k := by simp [atKey, List.find?_cons, e']
      rw [valV_neg e, b]; exact ih
theorem KT.repl {H : Hp} {kvs : List (List Key × V)} {xs : List (List Key × Addr × Value)} (r : KT H kvs xs) (k : List Key) {y : V} {u : Value} (ry : RelV y u) :
    KT H (kvs.map fun kv => if kv.1 = k then (kv.1, y) else kv) (xs.map (putAt k u)) := by
  induction r with
  | nil => exact .nil
  | @cons p q ps qs h t ih =>
    rw [List.map_cons, List.map_cons]
    refine .cons ?_ ih
    obtain ⟨h1, h2, h3⟩ := h
    unfold putAt
    by_cases e : p.1 = k
    · rw [if_pos e, if_pos (h1.symm.trans e)]; exact ⟨h1, h2, ry⟩
    · rw [if_neg e, if_neg (fun z => e (h1.trans z))]; exact ⟨h1, h2, h3⟩
theorem KT.put {H : Hp} {kvs : List (List Key × V)} {xs : List (List Key × Addr × Value)} (r : KT H kvs xs) (k : List Key) {b : Addr} {y : V} {u : Value} (hb : H b = some (.tup (k.map kV))) (ry : RelV y u) :
    KT H (putK kvs k y) (storedH xs k b u) := by
  have e : (kvs.any fun kv => decide (kv.1 = k)) = (atKey xs k).isSome := by
    rw [valV_any, (r.val k).isSome_eq, Option.isSome_map]
  unfold putK storedH
  rw [e]
  by_cases q : (atKey xs k).isSome = true
  · rw [if_pos q, if_pos q]; exact r.repl k ry
  · rw [if_neg q, if_neg q]; exact Paired.snoc r ⟨rfl, hb, ry⟩
theorem KT.keeps {H H' : Hp} {kvs : List (List Key × V)} {xs : List (List Key × Addr × Value)} (r : KT H kvs xs) (ht : ∀ b ys, H b = some (.tup ys) → H' b = some (.tup ys)) : KT H' kvs xs :=
  Paired.mapP r fun _ _ z => ⟨z.1, ht _ _ z.2.1, z.2.2⟩

section
variable {P : Program} {w : World} {H : Hp} {h : Heap} {a : Addr}
theorem rd_of {u : HO} (ok : HOk P w H h) (e : Rd H a u) : ObjOk P w H h a u := e.ok ok
theorem dk_rd {kvs : List (Key × V)} (ok : HOk P w H h) (e : Rd H a (.dK kvs)) : kvs.length ≤ sizeLine ∧ (a == sysModules) = false ∧ ∃ vs, KV kvs vs ∧ h.DictOf (mixKind P w) a vs :=
  show ObjOk P w H h a (.dK kvs) from rd_of ok e
theorem dk_of {kvs : List (Key × V)} (ok : HOk P w H h) (e : H a = some (.dK kvs)) : kvs.length ≤ sizeLine ∧ (a == sysModules) = false ∧ ∃ vs, KV kvs vs ∧ h.DictOf (mixKind P w) a vs := dk_rd ok (.inl e)
/-- a tracked tuple of ints and texts is a key -/
theorem key_of {ks : List Key} (ok : HOk P w H h) (e : H a = some (.tup (ks.map kV))) : (tupleKind (mixKind P w)).is h ks a := by
  obtain ⟨_, its, r, o, h1, h2, n, h3⟩ := (show ObjOk P w H h a (.tup (ks.map kV)) from ok a _ e)
  exact ⟨o, its.toArray, n, h1, h2, h3, by simpa using items_are r⟩
theorem dt_rd {kvs : List (List Key × V)} (ok : HOk P w H h) (e : Rd H a (.dT kvs)) : kvs.length ≤ sizeLine ∧ (a == sysModules) = false ∧
    ∃ xs, KT H kvs xs ∧ h.DictOfH (tupleKind (mixKind P w)) a xs := by
  obtain ⟨z, y, xs, r, o, es, ep, h1, h2, h3, h4, h5⟩ := (show ObjOk P w H h a (.dT kvs) from rd_of ok e)
  refine ⟨z, y, xs, r, o, es, ep, h1, h2, h3, h4, fun x hx => ?_, h5⟩
  have all : ∀ {l : List (List Key × V)} {m : List (List Key × Addr × Value)}, KT H l m → ∀ x ∈ m, (tupleKind (mixKind P w)).is h x.1 x.2.1 := by
    intro l m q
    induction q with
    | nil => intro x hx; exact nomatch hx
    | @cons p q ps qs hq t ih =>
      intro x hx
      rcases List.mem_cons.mp hx with e | hx
      · subst e
        exact key_of ok (by rw [← hq.1]; exact hq.2.1)
      · exact ih x hx
  exact all r x hx
theorem dt_of {kvs : List (List Key × V)} (ok : HOk P w H h) (e : H a = some (.dT kvs)) : kvs.length ≤ sizeLine ∧ (a == sysModules) = false ∧
    ∃ xs, KT H kvs xs ∧ h.DictOfH (tupleKind (mixKind P w)) a xs := dt_rd ok (.inl e)
end

/-- what the dict at a holds at the key y -/
def DGet (H : Hp) (a : Addr) (y : V) (r : Option V) : Prop :=
  (∃ kvs k, Rd H a (.dK kvs) ∧ y = kV k ∧ r = valV kvs k) ∨ ∃ kvs k b, Rd H a (.dT kvs) ∧ y = .ref b ∧ H b = some (.tup (k.map kV)) ∧ r = valV kvs k
/-- the heap behind a[y] = v -/
def DPut (H : Hp) (a : Addr) (y v : V) (H' : Hp) : Prop :=
  (∃ kvs k, H a = some (.dK kvs) ∧ y = kV k ∧ kvs.length < sizeLine ∧ H' = upd H a (.dK (putK kvs k v))) ∨
  ∃ kvs k b, H a = some (.dT kvs) ∧ y = .ref b ∧ H b = some (.tup (k.map kV)) ∧ kvs.length < sizeLine ∧ H' = upd H a (.dT (putK kvs k v))


section
variable {X : Cx} {pins : List (Addr × Obj)} {σ : St} {H : Hp} {s : Shared} {a : Addr} {y v : V} {u r : Value} {o : Option V} {A : Around} {E : Value → Shared → Prop}

theorem Inv.big (I : Inv X pins σ H s) : sysModules < s.heap.objs.size := by
  have h : mainGlobals < s.heap.objs.size := (I.mod.glob.keeps I.bk).lt
  exact Nat.lt_trans (by decide) h

/-- d[y], there -/
theorem d_getItem {Q : Value → Shared → Prop} (hu : A.units + 1 < cLine) (I : Inv X pins σ H s) (g : DGet H a y (some v)) (ry : RelV y u) (h : ∀ w' s', Inv X pins σ H s' → RelV v w' → Q w' s') :
    wpAny (model X.prog X.w) A (getItem (.ref a) u) Q E s := by
  rcases g with ⟨kvs, k, e, ey, l⟩ | ⟨kvs, k, b, e, ey, eb, l⟩
  · subst ey
    obtain ⟨z, hd, vs, rel, dd⟩ := dk_rd I.hok e
    obtain ⟨w', hw, rw'⟩ := RelO.some_of (v := v) (o := valueAt vs k) (by rw [l]; exact rel.val k)
    exact wpAny_getItem_of (kV_is ry) dd.mapOf hw (h w' _ (I.tok _) rw')
  · subst ey
    cases (show u = Value.ref b from ry)
    obtain ⟨z, hd, xs, rel, dd⟩ := dt_rd I.hok e
    obtain ⟨w', hw, rw'⟩ := RelO.some_of (v := v) (o := (atKey xs k).map (·.2)) (by rw [l]; exact rel.val k)
    obtain ⟨p, hp, hp2⟩ := Option.map_eq_some_iff.mp hw
    refine wpAny_getItem_heap (tupleKind_room_in1 hu) (key_of I.hok eb) dd hp ?_
    rw [hp2]
    exact h w' _ (I.tok _) rw'
/-- y in d -/
theorem d_in {Q : Value → Shared → Prop} (hu : A.units + 1 < cLine) (I : Inv X pins σ H s) (g : DGet H a y o) (ry : RelV y u) (h : ∀ s', Inv X pins σ H s' → Q (.bool o.isSome) s') :
    wpAny (model X.prog X.w) A (compareOp .In u (.ref a)) Q E s := by
  rcases g with ⟨kvs, k, e, ey, l⟩ | ⟨kvs, k, b, e, ey, eb, l⟩
  · subst ey
    obtain ⟨z, hd, vs, rel, dd⟩ := dk_rd I.hok e
    refine wpAny_in_of (kV_is ry) hd dd.mapOf ?_
    rw [← (rel.val k).isSome_eq, ← l]
    exact h _ (I.tok _)
  · subst ey
    cases (show u = Value.ref b from ry)
    obtain ⟨z, hd, xs, rel, dd⟩ := dt_rd I.hok e
    refine wpAny_in_heap (tupleKind_room_in1 hu) (key_of I.hok eb) hd dd ?_
    have q := (rel.val k).isSome_eq
    rw [Option.isSome_map] at q
    rw [← q, ← l]
    exact h _ (I.tok _)
theorem d_notIn {Q : Value → Shared → Prop} (hu : A.units + 1 < cLine) (I : Inv X pins σ H s) (g : DGet H a y o) (ry : RelV y u) (h : ∀ s', Inv X pins σ H s' → Q (.bool (!o.isSome)) s') :
    wpAny (model X.prog X.w) A (compareOp .NotIn u (.ref a)) Q E s := by
  rcases g with ⟨kvs, k, e, ey, l⟩ | ⟨kvs, k, b, e, ey, eb, l⟩
  · subst ey
    obtain ⟨z, hd, vs, rel, dd⟩ := dk_rd I.hok e
    refine wpAny_notIn_of (kV_is ry) hd dd.mapOf ?_
    rw [← (rel.val k).isSome_eq, ← l]
    exact h _ (I.tok _)
  · subst ey
    cases (show u = Value.ref b from ry)
    obtain ⟨z, hd, xs, rel, dd⟩ := dt_rd I.hok e
    refine wpAny_notIn_heap (tupleKind_room_in1 hu) (key_of I.hok eb) hd dd ?_
    have q := (rel.val k).isSome_eq
    rw [Option.isSome_map] at q
    rw [← q, ← l]
    exact h _ (I.tok _)
/-- a dict's object is replaced -/
theorem d_write {h' : Heap} {t' : Nat} {ob : HO} (I : Inv X pins σ H s) (mu : Mut (H a)) (hs : Heap.SameBut a s.heap h') (he : ∃ q, h'.get? a = some q) (new : ObjOk X.prog X.w (upd H a ob) h' a ob) :
    Inv X pins σ (upd H a ob) { s with heap := h', toks := t' } :=
  I.write (x := a) (e := a) mu (.inl rfl) (fun b q hb z => (hs.2 b hb).trans z) he new
theorem dk_new {P : Program} {w : World} {H' : Hp} {h' : Heap} {kvs : List (Key × V)} {vs : List (Key × Value)} (z : kvs.length ≤ sizeLine) (hd : (a == sysModules) = false) (rel : KV kvs vs) (dd : h'.DictOf (mixKind P w) a vs) :
    ObjOk P w H' h' a (.dK kvs) := ⟨z, hd, vs, rel, dd⟩
/-- d[y] = v -/
theorem d_setItem {H' : Hp} {Q : Unit → Shared → Prop} (hu : A.units + 1 < cLine) (I : Inv X pins σ H s) (g : DPut H a y v H') (ry : RelV y u) (rv : RelV v r) (h : ∀ s', Inv X pins σ H' s' → Q () s') :
    wpAny (model X.prog X.w) A (setItem (.ref a) u r) Q E s := by
  rcases g with ⟨kvs, k, e, ey, l, eH⟩ | ⟨kvs, k, b, e, ey, eb, l, eH⟩
  · subst ey eH
    obtain ⟨z, hd, vs, rel, dd⟩ := dk_of I.hok e
    have hz : vs.length ≤ sizeLine := by rw [← rel.length]; exact z
    have hl : (putK kvs k v).length ≤ sizeLine := by have := length_putK kvs k v; lia
    refine wpAny_setItem_pairs (hsz := hz) (kV_is ry) dd fun h' dd' hs => h _ ?_
    have he : ∃ q, h'.get? a = some q := let ⟨q, _, _, hq, _⟩ := dd'; ⟨q, hq⟩
    exact d_write I (by rw [e]; exact True.intro) hs he (dk_new hl hd (rel.put k rv) dd')
  · subst ey eH
    cases (show u = Value.ref b from ry)
    obtain ⟨z, hd, xs, rel, dd⟩ := dt_of I.hok e
    have hz : xs.length ≤ sizeLine := by rw [← Paired.length rel]; exact z
    have hl : (putK kvs k v).length ≤ sizeLine := by have := length_putK kvs k v; lia
    refine wpAny_setItem_heap (hsz := hz) (tupleKind_room_in1 hu) (key_of I.hok eb) dd fun h' dd' hs => h _ ?_
    obtain ⟨q, es, ep, hq, h2, h3, h4, _, h5⟩ := dd'
    refine d_write I (by rw [e]; exact True.intro) hs ⟨q, hq⟩ ⟨hl, hd, _, (rel.put k eb rv).keeps fun c ys ec => ?_, q, es, ep, hq, h2, h3, h4, h5⟩
    rw [upd_ne (ne_of ec e (fun z => nomatch z))]
    exact ec
end

section
variable {X : Cx} {pins : List (Addr × Obj)} {σ : St} {H : Hp} {s : Shared} {a : Addr} {kvs : List (Key × V)} {k : Key} {u : Value} {A : Around} {E : Value → Shared → Prop}
/-- d.pop(k[, x]), there -/
theorem d_pop {v : V} {more : List Value} {Q : Value → Shared → Prop} (I : Inv X pins σ H s) (e : H a = some (.dK kvs)) (ry : RelV (kV k) u) (l : valV kvs k = some v) (hm : more = [] ∨ ∃ x, more = [x])
    (h : ∀ w' s', Inv X pins σ (upd H a (.dK (dropK kvs k))) s' → RelV v w' → Q w' s') : wpAny (model X.prog X.w) A (call (.builtin "dict.pop") (.ref a :: u :: more)) Q E s := by
  obtain ⟨z, hd, vs, rel, dd⟩ := dk_of I.hok e
  obtain ⟨w', hw, rw'⟩ := RelO.some_of (v := v) (o := valueAt vs k) (by rw [← l]; exact rel.val k)
  have hp : (keyPart u).isSome = true := by
    cases k with
    | inl i => obtain ⟨t, q⟩ := (show ∃ t, u = Value.int i t from ry); subst q; rfl
    | inr x => obtain ⟨t, q⟩ := (show ∃ t, u = Value.str x t from ry); subst q; rfl
  have ha : argsOk "dict.pop" ⟨.ref a :: u :: more, []⟩ := by
    rcases hm with q | ⟨x, q⟩
    · subst q; exact PySem.F.args_dict_pop_2 _ _
    · subst q; exact PySem.F.args_dict_pop_3 _ _ _
  refine call_meetsIn PySem.F.slot_dict_pop dd.typeIs PySem.F.entry_dict_pop ha (meets_dict_pop_there (mixKind X.prog X.w) a (kV_is ry) more hm hp)
    ⟨vs, w', dd, by rw [← rel.length]; exact z, hw, fun h' dd' hs => h w' _ ?_ rw'⟩
  have he : ∃ q, h'.get? a = some q := let ⟨q, _, _, hq, _⟩ := dd'; ⟨q, hq⟩
  exact d_write I (by rw [e]; exact True.intro) hs he (dk_new (Nat.le_trans (dropK_le kvs k) z) hd (rel.drop k) dd')
/-- len(d) -/
theorem d_len {Q : Value → Shared → Prop} (I : Inv X pins σ H s) (e : Rd H a (.dK kvs)) (h : ∀ t s', Inv X pins σ H s' → Q (.int kvs.length t) s') : wpAny (model X.prog X.w) A (call (.builtin "len") [.ref a]) Q E s := by
  obtain ⟨z, hd, vs, rel, dd⟩ := dk_rd I.hok e
  refine call_len_dict hd dd (by rw [← rel.length]; rw [sizeLine_eq] at z; lia) ?_
  rw [← rel.length]
  exact h _ _ (I.tok _)
end


/-! ### readings and rules -/
/-- the element of a subscription, not a slice -/
def NoSl (i : Expr) : Prop := ∀ ov iv, subscripted i false ov iv = operate [ov, iv] (getItem ov iv)
theorem subD_of {prog : Program} {w : World} {A : Around} {E : Value → Shared → Prop} {s : Shared} {env : Env} {value slice : Expr} {pos : Pos} {T id : String} {Q : Value → Shared → Prop}
    (hl : typeLookup (.type T) "__getitem__" = pure (some (.builtin id))) (hs : NoSl slice)
    (h : wpAny (model prog w) A (eval value env) (fun o s₁ => wpAny (model prog w) A (eval slice env) (fun i s₂ => s₂.TypeIs o T ∧ wpAny (model prog w) A (getItem o i) Q E s₂) E s₁) E s) :
    wpAny (model prog w) A (eval (.Subscript value slice pos) env) Q E s := by
  refine Subscript_ (wpAny_mono h (fun o s₁ h₁ => wpAny_mono h₁ (fun i s₂ h₂ => ?_) fun _ _ x => x) fun _ _ x => x)
  obtain ⟨hT, h₂⟩ := h₂
  unfold subscriptTail
  refine wpAny_bind ?_
  rw [getitemInPython_of_ne hT.not_modules]
  refine wpAny_bind (wpAny_specialOf hT hl ?_)
  have fin : wpAny (model prog w) A (subscripted slice false o i) (fun r s₃ => wpAny (model prog w) A (letTemporaryGo value o r >>= fun _ => pure r) Q E s₃) E s₂ := by
    rw [hs o i]
    exact wpAny_operating (wpAny_mono h₂ (fun r s₃ h₃ => wpAny_bind (wpAny_letTemporaryGo (wpAny_pure h₃))) fun _ _ x => x)
  first
    | exact wpAny_pure (wpAny_bind fin)
    | exact wpAny_bind (wpAny_pure (wpAny_bind fin))
    | exact wpAny_bind fin

theorem dict_typeIs {X : Cx} {pins : List (Addr × Obj)} {σ : St} {H : Hp} {s : Shared} {a : Addr} {y : V} {o : Option V} (I : Inv X pins σ H s) (g : DGet H a y o) : s.TypeIs (.ref a) "dict" := by
  rcases g with ⟨kvs, k, e, _, _⟩ | ⟨kvs, k, b, e, _, _, _⟩
  · obtain ⟨_, _, vs, _, dd⟩ := dk_rd I.hok e
    exact dd.typeIs
  · obtain ⟨_, _, xs, _, dd⟩ := dt_rd I.hok e
    exact dd.typeIs

/-- d[y] -/
def tDGet (td ty : TE) : TE := fun σ H Q => td σ H fun x H1 => ty σ H1 fun y H2 => ∃ a v, x = .ref a ∧ DGet H2 a y (some v) ∧ Q v H2
/-- y in d, y not in d -/
def tDIn (ty td : TE) : TE := fun σ H Q => ty σ H fun y H1 => td σ H1 fun x H2 => ∃ a o, x = .ref a ∧ DGet H2 a y o ∧ Q (.bl o.isSome) H2
def tDNotIn (ty td : TE) : TE := fun σ H Q => ty σ H fun y H1 => td σ H1 fun x H2 => ∃ a o, x = .ref a ∧ DGet H2 a y o ∧ Q (.bl (!o.isSome)) H2
/-- d[y] = v -/
def sDPut (td ty tv : TE) : TS := fun D σ H => tv σ H fun v H1 => td σ H1 fun x H2 => ty σ H2 fun y H3 => ∃ a H4, x = .ref a ∧ DPut H3 a y v H4 ∧ D.nx σ H4

section
variable {X : Cx} {o i e value : Expr} {pos pos' tpos : Pos} {td ty tv : TE}
theorem pe_dget (hu : X.A.units + 1 < cLine) (ho : PE X o td) (hi : PE X i ty) (hs : NoSl i) : PE X (.Subscript o i pos) (tDGet td ty) := by
  intro pins s σ H Q I h
  refine subD_of PySem.F.slot_dict_getitem.lookup hs (thn (ho pins s σ H _ I h) fun u s1 ⟨x, H1, I1, rx, q1⟩ => thn (hi pins s1 σ H1 _ I1 q1) fun iv s2 ⟨y, H2, I2, ry, a, v, ex, g, q2⟩ => ?_)
  subst ex
  obtain rfl : u = Value.ref a := rx
  exact ⟨dict_typeIs I2 g, d_getItem hu I2 g ry fun w' s3 I3 rw' => ⟨v, H2, I3, rw', q2⟩⟩
theorem pc_din (hu : X.A.units + 1 < cLine) (hi : PE X i ty) (ho : PE X o td) : PC X .In i o (tDIn ty td) := by
  intro pins s σ H Q I h
  refine thn (hi pins s σ H _ I h) fun iv s1 ⟨y, H1, I1, ry, q1⟩ => thn (ho pins s1 σ H1 _ I1 q1) fun u s2 ⟨x, H2, I2, rx, a, ov, ex, g, q2⟩ => ?_
  subst ex
  obtain rfl : u = Value.ref a := rx
  exact d_in hu I2 g ry fun s3 I3 => ⟨.bl ov.isSome, H2, I3, rfl, q2⟩
theorem pc_dnotin (hu : X.A.units + 1 < cLine) (hi : PE X i ty) (ho : PE X o td) : PC X .NotIn i o (tDNotIn ty td) := by
  intro pins s σ H Q I h
  refine thn (hi pins s σ H _ I h) fun iv s1 ⟨y, H1, I1, ry, q1⟩ => thn (ho pins s1 σ H1 _ I1 q1) fun u s2 ⟨x, H2, I2, rx, a, ov, ex, g, q2⟩ => ?_
  subst ex
  obtain rfl : u = Value.ref a := rx
  exact d_notIn hu I2 g ry fun s3 I3 => ⟨.bl (!ov.isSome), H2, I3, rfl, q2⟩
theorem ps_dput (hu : X.A.units + 1 < cLine) (ho : PE X o td) (hi : PE X i ty) (hv : PE X value tv) (hs : swapsWith value (some (.Subscript o i pos')) pos.line X.env = pure false) :
    PS X (.Assign [.Subscript o i pos'] value pos) (sDPut td ty tv) := by
  intro pins s σ H D I h
  refine wpAny_Assign_Subscript (thn (hv pins s σ H _ I h) fun r s1 ⟨v, H1, I1, rv, q1⟩ => thn (ho pins s1 σ H1 _ I1 q1) fun u s2 ⟨x, H2, I2, rx, q2⟩ => thn (hi pins s2 σ H2 _ I2 q2) fun iv s3 ⟨y, H3, I3, ry, a, H4, ex, g, q3⟩ => ?_) hs
  subst ex
  obtain rfl : u = Value.ref a := rx
  exact d_setItem hu I3 g ry rv fun s4 I4 => ⟨σ, H4, I4, q3⟩
end


/-! ### displays -/
theorem dk_empty {P : Program} {w : World} {H : Hp} (h : Heap) (hb : sysModules < h.objs.size) : ObjOk P w H (h.push { cls := .type "dict", data := .dict #[] }) h.objs.size (.dK []) :=
  ⟨Nat.zero_le _, beq_eq_false_iff_ne.mpr (Ne.symm (Nat.ne_of_lt hb)), [], .nil, Heap.DictOf.new h⟩
/-- {}, to be a dict of the kind that is wanted -/
def tDNewK : TE := fun _ H Q => ∀ p, H p = none → Q (.ref p) (upd H p (.dK []))
section
variable {X : Cx} {pos : Pos}
theorem pe_dnewK : PE X (.Dict [] [] pos) tDNewK := fun pins s σ H Q I h =>
  wpAny_Dict_empty ⟨.ref s.heap.objs.size, _, I.laid (a := s.heap.objs.size) (o := .dK []) (t' := s.toks) (fun _ _ q => Heap.get?_push_of_some _ q) (Nat.le_refl _) (dk_empty s.heap I.big), rfl, h _ (I.hok.fresh (Nat.le_refl _))⟩
end




/-! ### methods -/
/-- a method call o.m(e) of a built-in, with one argument: what must be seen of the text -/
structure M1 (X : Cx) (o : Expr) (m : Str) (apos : Pos) (e : Expr) (cpos : Pos) : Prop where
  base : attributeBase o m X.env (eval o X.env) = eval o X.env
  few : ((backTo cpos (starEach [e] X.env)).all (fun x => !x.1) && (backToKw cpos (keywordEach [] X.env)).all (fun x => x.1.isSome)
    && decide (([e] : List Expr).length + ([] : List Keyword).length + (if ([] : List Keyword).isEmpty then 0 else 1) < 30)) = true
  line : (apos.endLine == cpos.line) = true
  trees : backTo cpos (starEach [e] X.env) = [(false, eval e X.env)]

/-- a is a dict, whatever its keys -/
def IsD (H : Hp) (a : Addr) : Prop := (∃ kvs, Rd H a (.dK kvs)) ∨ ∃ kvs, Rd H a (.dT kvs)
theorem isD_at {X : Cx} {pins : List (Addr × Obj)} {σ : St} {H : Hp} {s : Shared} {a : Addr} (I : Inv X pins σ H s) (d : IsD H a) :
    s.TypeIs (.ref a) "dict" ∧ (∀ b, Value.ref a = .ref b → ∃ ob, s.heap.get? b = some ob ∧ ob.dict = none) ∧ (a == sysModules) = false := by
  rcases d with ⟨kvs, e⟩ | ⟨kvs, e⟩
  · obtain ⟨_, hd, vs, _, dd⟩ := dk_rd I.hok e
    refine ⟨dd.typeIs, fun b q => ?_, hd⟩
    cases q
    obtain ⟨ob, _, _, h1, h2, _⟩ := dd
    exact ⟨ob, h1, h2.2.1⟩
  · obtain ⟨_, hd, xs, _, dd⟩ := dt_rd I.hok e
    refine ⟨dd.typeIs, fun b q => ?_, hd⟩
    cases q
    obtain ⟨ob, _, _, h1, h2, _⟩ := dd
    exact ⟨ob, h1, h2.2.1⟩

section
variable {X : Cx} {pins : List (Addr × Obj)} {σ : St} {H : Hp} {s : Shared} {a : Addr} {y d : V} {u r : Value} {o : Option V} {A : Around} {E : Value → Shared → Prop}
end

/-- d.pop(k): there; d.pop(k, x): there or not -/
def tDPop1 (td ty : TE) : TE := fun σ H Q => td σ H fun x H1 => ∃ a, x = .ref a ∧ IsD H1 a ∧ ty σ H1 fun y H2 => ∃ kvs k v, H2 a = some (.dK kvs) ∧ y = kV k ∧ valV kvs k = some v ∧ Q v (upd H2 a (.dK (dropK kvs k)))
section
variable {X : Cx} {o e f : Expr} {apos cpos : Pos} {td ty tx : TE}
theorem pe_dpop1 (ho : PE X o td) (he : PE X e ty) (m : M1 X o "pop" apos e cpos) : PE X (.Call (.Attribute o "pop" apos) [e] [] cpos) (tDPop1 td ty) := by
  intro pins s σ H Q I h
  refine wpAny_Call_method m.base m.few m.line PySem.F.plainAttrs_dict PySem.F.slot_dict_pop PySem.F.type_dict_pop (thn (ho pins s σ H _ I h) fun u s1 ⟨x, H1, I1, rx, a, ex, d, q1⟩ => ?_)
  subst ex
  obtain rfl : u = Value.ref a := rx
  obtain ⟨t1, t2, _⟩ := isD_at I1 d
  refine ⟨t1, t2, ?_⟩
  rw [m.trees]
  refine Calls.callWith_builtin rfl (Calls.evalArgs_plain (Calls.spliced_cons (thn (he pins s1 σ H1 _ I1 q1) fun iv s2 ⟨y, H2, I2, ry, kvs, k, v, ea, ey, l, q2⟩ => Calls.spliced_nil ?_)))
  subst ey
  exact d_pop I2 ea ry l (.inl rfl) fun w' s3 I3 rw' => ⟨v, _, I3, rw', q2⟩
end

/-! ### dict(d): a copy -/
section
variable {X : Cx} {pins : List (Addr × Obj)} {σ : St} {H : Hp} {s : Shared} {a : Addr} {kvs : List (Key × V)} {A : Around} {E : Value → Shared → Prop}
end


section
variable {X : Cx} {pins : List (Addr × Obj)} {σ : St} {H : Hp} {s : Shared} {a : Addr} {y : V} {u : Value} {A : Around} {E : Value → Shared → Prop}
end
end L2

namespace L2
open PySem PySem.Spec PyProof.Rows


section
variable {prog : Program} {w : World} {A : Around} {E : Value → Shared → Prop}


end

section
variable {X : Cx}
end
end L2

namespace L2
open PySem PySem.Spec PyProof.Rows


section
variable {X : Cx} {pins : List (Addr × Obj)} {σ : St} {H : Hp} {s : Shared} {h' : Heap}
/-- .. and one new object is laid -/
theorem Inv.turnedNew {t' : Nat} {ch : List Addr} {T : Addr} {ob : HO} (I : Inv X pins σ H s) (k : ∀ b o, b ∉ ch → s.heap.get? b = some o → h'.get? b = some o) (hf : ∀ b ∈ ch, FpOk X pins H b) (hT : s.heap.objs.size ≤ T)
    (new : ObjOk X.prog X.w (upd H T ob) h' T ob) : Inv X pins σ (upd H T ob) { s with heap := h', toks := t' } := by
  have hn : H T = none := I.hok.fresh hT
  have nit : ∀ b u, H b = some u → b ∉ ch := fun b u e z => by
    have q := (hf b z).1
    rw [q] at e; cases e
  refine I.step (g' := s.gens) (d' := s.drawn) (ch := ch) (fun b hb => ⟨(hf b hb).2.2.2.1, (hf b hb).2.1, (hf b hb).2.2.2.2.1, (hf b hb).2.2.2.2.2⟩) (fun b o _ _ hc e _ => k b o hc e) (fun b o _ _ hc e _ => ⟨o.slots, k b o hc e⟩)
    (fun b o _ e n => ?_) (fun b o hc e => ⟨o, k b o hc e⟩) (fun b xs e => ?_) (fun b o u e => ?_) (fun b ps e => ⟨#[], ?_⟩) (fun m hm => ?_) (fun b u e => ?_) I.bare
  · rw [upd_ne (Nat.ne_of_lt (Nat.lt_of_lt_of_le (Heap.lt_size e) hT))]; exact n
  · rw [upd_ne (ne_of_none e hn)]; exact e
  · rw [upd_ne (ne_of_none e hn)]; exact e
  · rw [upd_ne (ne_of_none e hn), e]; simp
  · obtain ⟨o, es, ep, ho, r⟩ := hm
    exact ⟨o, es, ep, k _ o (fun z => (hf _ z).2.1 rfl) ho, r⟩
  · by_cases hb : b = T
    · subst hb
      rw [upd_same] at e
      cases e
      exact new
    · rw [upd_ne hb] at e
      refine (I.hok b u e).stay (fun c v hc q => k c v ?_ q) (fun c q => by rw [upd_ne (ne_of_none q hn)]; exact q) fun c xs q => by rw [upd_ne (ne_of_none q hn)]; exact q
      rcases hc with z | z
      · rw [z]; exact nit b u e
      · exact nit c _ z

/-! ### locking a thing while a statement runs -/
theorem Inv.lock {d : Addr} {u : HO} (I : Inv X pins σ H s) (h : H d = some u) (mu : Mut (some u)) : ∃ od, Inv X pins σ (upd H d (.frz od u)) s := by
  have x := I.hok d u h
  have ex : ∃ od, s.heap.get? d = some od := by
    cases u with
    | lst xs => obtain ⟨_, _, _, _, e⟩ := x; exact ⟨_, e⟩
    | dK kvs => obtain ⟨_, _, _, _, o, _, _, e, _⟩ := x; exact ⟨o, e⟩
    | dT kvs => obtain ⟨_, _, _, _, o, _, _, e, _⟩ := x; exact ⟨o, e⟩
    | set S n => obtain ⟨o, _, _, _, e, _⟩ := x; exact ⟨o, e⟩
    | ins C dx fs => obtain ⟨_, _, _, e, _⟩ := x; exact ⟨_, e⟩
    | ext φ => obtain ⟨_, ⟨_, e⟩, _⟩ := x; exact ⟨_, e⟩
    | _ => exact False.elim mu
  obtain ⟨od, e⟩ := ex
  have new : ObjOk X.prog X.w (upd H d (.frz od u)) s.heap d (.frz od u) := by
    refine ⟨e, x.stay (fun b v _ q => q) (fun b q => ?_) fun b xs q => ?_⟩
    · rw [upd_ne (fun z => by rw [z, h] at q; cases q; exact mu)]; exact q
    · rw [upd_ne (fun z => by rw [z, h] at q; cases q; exact mu)]; exact q
  exact ⟨od, I.write (x := d) (e := d) (t' := s.toks) (h' := s.heap) (by rw [h]; exact mu) (.inl rfl) (fun b v _ q => q) ⟨od, e⟩ new⟩
theorem Inv.nofrz {d : Addr} {u : HO} (I : Inv X pins σ H s) (h : H d = some u) (mu : Mut (some u)) : ∀ o' u', X.H_0 d ≠ some (.frz o' u') := fun o' u' e => by
  have q := I.base.frzs d o' u' e
  rw [h] at q
  cases q
  exact mu
theorem Inv.unlock {d : Addr} {od : Obj} {u : HO} (I : Inv X pins σ H s) (h : H d = some (.frz od u)) (hn : ∀ o' u', X.H_0 d ≠ some (.frz o' u')) : Inv X pins σ (upd H d u) s := by
  have neH : ∀ b o, H b = some o → (∀ o' u', o ≠ .frz o' u') → b ≠ d := fun b o e hne z => by
    rw [z, h] at e
    cases e
    exact hne _ _ rfl
  have neN : ∀ b, H b = none → b ≠ d := fun b e z => by rw [z, h] at e; cases e
  refine ⟨I.ok, I.os, I.bare, ⟨I.base.keep, I.base.slot, fun b o e n hx => ?_, I.base.there, fun b xs e => ?_, fun b o x e => ?_, fun b ps e => ?_⟩, I.loc, I.cell, ?_, fun x c e => ?_, fun p hp => ?_, fun b o e => ?_, I.len⟩
  · rw [upd_ne (neN b (I.base.free b o e n hx))]; exact I.base.free b o e n hx
  · have q := I.base.tups b xs e
    rw [upd_ne (neH b _ q (fun _ _ z => nomatch z))]; exact q
  · have q := I.base.frzs b o x e
    rw [upd_ne (fun z => by rw [z] at e; exact hn _ _ e)]; exact q
  · obtain ⟨m, q⟩ := I.base.tbls b ps e
    exact ⟨m, by rw [upd_ne (neH b _ q (fun _ _ z => nomatch z))]; exact q⟩
  · rw [upd_ne (neN _ I.free)]; exact I.free
  · rw [upd_ne (neN c (I.freeC x c e))]; exact I.freeC x c e
  · obtain ⟨e, n, r⟩ := I.pin p hp
    exact ⟨e, by rw [upd_ne (neN _ n)]; exact n, r⟩
  · by_cases hb : b = d
    · rw [hb, upd_same] at e
      cases e
      rw [hb]
      obtain ⟨_, x⟩ := I.hok d _ h
      exact x.stay (fun c v _ q => q) (fun c q => by rw [upd_ne (neH c _ q (fun _ _ z => nomatch z))]; exact q) fun c xs q => by rw [upd_ne (neH c _ q (fun _ _ z => nomatch z))]; exact q
    · rw [upd_ne hb] at e
      exact (I.hok b o e).stay (fun c v _ q => q) (fun c q => by rw [upd_ne (neH c _ q (fun _ _ z => nomatch z))]; exact q) fun c xs q => by rw [upd_ne (neH c _ q (fun _ _ z => nomatch z))]; exact q
end
/-- the statement runs while the thing at d is locked (read, not written); d and what stands there are the reading's choice -/
def tLock (t : TS) : TS := fun D σ H => ∃ d u, H d = some u ∧ Mut (some u) ∧ ∀ od, t ⟨fun σ' H' => H' d = some (.frz od u) ∧ D.nx σ' (upd H' d u), fun v H' => H' d = some (.frz od u) ∧ D.rt v (upd H' d u), fun σ' H' => H' d = some (.frz od u) ∧ D.bk σ' (upd H' d u), fun σ' H' => H' d = some (.frz od u) ∧ D.ct σ' (upd H' d u)⟩ σ (upd H d (.frz od u))
def tLockE (t : TE) : TE := fun σ H Q => ∃ d u, H d = some u ∧ Mut (some u) ∧ ∀ od, t σ (upd H d (.frz od u)) fun v H' => H' d = some (.frz od u) ∧ Q v (upd H' d u)
section
variable {X : Cx}
theorem ps_lock {st : Stmt} {t : TS} (h : PS X st t) : PS X st (tLock t) := by
  intro pins s σ H D I hw
  obtain ⟨d, u, hd, mu, hw⟩ := hw
  obtain ⟨od, I1⟩ := I.lock hd mu
  refine thn (h pins s σ _ _ I1 (hw od)) fun f s1 q => ?_
  cases f with
  | next => obtain ⟨σ', H', I2, e, q⟩ := q; exact ⟨σ', _, I2.unlock e (I.nofrz hd mu), q⟩
  | brk => obtain ⟨σ', H', I2, e, q⟩ := q; exact ⟨σ', _, I2.unlock e (I.nofrz hd mu), q⟩
  | cont => obtain ⟨σ', H', I2, e, q⟩ := q; exact ⟨σ', _, I2.unlock e (I.nofrz hd mu), q⟩
  | ret v => obtain ⟨x, σ', H', I2, r, e, q⟩ := q; exact ⟨x, σ', _, I2.unlock e (I.nofrz hd mu), r, q⟩
theorem pe_lock {e : Expr} {t : TE} (h : PE X e t) : PE X e (tLockE t) := by
  intro pins s σ H Q I hw
  obtain ⟨d, u, hd, mu, hw⟩ := hw
  obtain ⟨od, I1⟩ := I.lock hd mu
  refine thn (h pins s σ _ _ I1 (hw od)) fun v s1 ⟨x, H1, I2, r, e2, q⟩ => ?_
  exact ⟨x, _, I2.unlock e2 (I.nofrz hd mu), r, q⟩

/-! ### one iterator just laid -/
theorem pi_one {tg : Expr} {pins : List (Addr × Obj)} {σ : St} {H : Hp} {s : Shared} {R : It → Hp → Prop} {J : It} {tn : Nat → Heap → Prop} {tk : Nat} (I : Inv X pins σ H s) (o : Obj)
    (T : Turn X.prog X.w X.K tg J [s.heap.objs.size] s.heap.objs.size tn) (st : tn 0 (s.heap.push o)) (q : R J H) : PIE X pins σ tg R (.ref s.heap.objs.size) { s with heap := s.heap.push o, toks := tk } := by
  refine ⟨s.heap.objs.size, [s.heap.objs.size], tn, J, H, rfl, I.kept fun b ob e => Heap.get?_push_of_some _ e, T, st, fun b hb => ?_, q⟩
  have e : b = s.heap.objs.size := by simpa using hb
  subst e
  exact I.fpOk (Nat.le_refl _) (I.hok.fresh (Nat.le_refl _))
end

/-! ### range with a step -/
section
variable {X : Cx} {tg : Expr}
end

/-! ### reversed(list) -/
section
variable {X : Cx} {tg : Expr}
end

/-! ### a str -/

/-! ### a dict's keys: any dict's entries -/
section
variable {prog : Program} {w : World} {A : Around} {E : Value → Shared → Prop} {s : Shared}
end

/-! ### a locked dict -/
theorem kv_get {κ : Type} {kvs : List (κ × V)} {vs : List (κ × Value)} (h : KV kvs vs) : ∀ {i : Nat} {k : κ} {v : V}, kvs[i]? = some (k, v) → ∃ u, vs[i]? = some (k, u) ∧ RelV v u := by
  unfold KV at h
  induction h with
  | nil => intro i k v e; simp at e
  | @cons a b l₁ l₂ r t ih =>
    intro i k v e
    cases i with
    | zero =>
      simp only [List.getElem?_cons_zero, Option.some.injEq] at e
      subst e
      refine ⟨b.2, ?_, r.2⟩
      simp only [List.getElem?_cons_zero]
      exact congrArg some (Prod.ext r.1.symm rfl)
    | succ j =>
      simp only [List.getElem?_cons_succ] at e ⊢
      exact ih e
section
variable {X : Cx} {pins : List (Addr × Obj)} {σ : St} {H : Hp} {s : Shared} {d : Addr} {o : Obj}
theorem Inv.frzK {kvs : List (Key × V)} (I : Inv X pins σ H s) (h : H d = some (.frz o (.dK kvs))) :
    (d == sysModules) = false ∧ s.heap.get? d = some o ∧ o.ExactDict ∧ ∃ (es : Array DictEntry) (ep : Nat) (vs : List (Key × Value)), o.data = .dict es ep ∧ es.size = kvs.length ∧ KV kvs vs ∧ s.heap.DictAt (mixKind X.prog X.w) d vs ep := by
  obtain ⟨hd, z, hs, vs, kv, o', es, ep, ho, hx, hdt, r⟩ := I.hok d _ h
  rw [hd] at ho
  cases ho
  refine ⟨hs, hd, hx, es, ep, vs, hdt, ?_, kv, o, es, hd, hx, hdt, r⟩
  have l1 := r.2.1.length
  have l2 : kvs.length = vs.length := Paired.length kv
  rw [Array.length_toList] at l1
  lia
end

/-- the values -/
def Itd (d : Addr) (o : Obj) (kvs : List (Key × V)) : It :=
  ⟨fun i H => H d = some (.frz o (.dK kvs)) ∧ i < kvs.length, fun i H x H' => H' = H ∧ ∃ k, kvs[i]? = some (k, x), fun i H => H d = some (.frz o (.dK kvs)) ∧ kvs.length ≤ i⟩
theorem dict_ep {o : Obj} {es es' : Array DictEntry} {ep ep' : Nat} (h : o.data = .dict es ep) (h' : o.data = .dict es' ep') : es' = es ∧ ep' = ep := by
  rw [h] at h'
  cases h'
  exact ⟨rfl, rfl⟩
section
variable {P : Program} {w : World} {K : PySem.W.Frag} {tg : Expr} {d : Addr} {o : Obj} {es : Array DictEntry} {ep : Nat}
theorem turn_vals {kvs : List (Key × V)} (it : Addr) (hod : o.data = .dict es ep) : Turn P w K tg (Itd d o kvs) [it] it (fun i h => h.IsValIter it d i kvs.length ep) where
  mem := by simp
  obj := fun i h st b hb => by
    have e : b = it := by simpa using hb
    subst e
    obtain ⟨oi, e, c, dd⟩ := st
    exact ⟨oi, e, fun v z => by rw [dd] at z; cases z⟩
  keep := fun i h h' st k => st.at fun oi e => k it (by simp) oi e
  item := by
    intro X hP hw hK hc i pins s σ H E I hf st hg
    subst hP hw hK
    obtain ⟨hd, hi⟩ := hg
    obtain ⟨f0, f1, f2, f3, f4, f5⟩ := hf it (by simp)
    obtain ⟨hs, hgd, hx, es', ep', vs, hdt, hsz, kv, hm⟩ := I.frzK hd
    obtain ⟨rfl, rfl⟩ := dict_ep hod hdt
    obtain ⟨⟨k, v⟩, hkv⟩ : ∃ p, kvs[i]? = some p := ⟨kvs[i], List.getElem?_eq_getElem hi⟩
    obtain ⟨u, hu, ru⟩ := kv_get kv hkv
    have hl : kvs.length = vs.length := Paired.length kv
    rw [hl] at st
    refine wpAny_pyNext_values_item st hm hu fun h' st' sb => ?_
    have I1 : Inv X pins σ H { s with heap := h' } := I.turned (t' := s.toks) (fun b ob hb e => (sb.2 b hb).trans e) f0 f1 f3 f4 f5
    obtain ⟨oi, e, c, dd⟩ := id st'
    refine ⟨u, rfl, go_of (s := { s with heap := h' }) e c dd (by decide) ⟨v, H, I1, ru, ⟨rfl, k, hkv⟩, ?_, fun b hb => (hf b hb).1⟩⟩
    show h'.IsValIter it d (i + 1) kvs.length _
    rw [hl]
    exact st'
  done := by
    intro X hP hw hK hc i pins s σ H E I hf st hg
    subst hP hw hK
    obtain ⟨hd, hi⟩ := hg
    obtain ⟨f0, f1, f2, f3, f4, f5⟩ := hf it (by simp)
    obtain ⟨hs, hgd, hx, es', ep', vs, hdt, hsz, kv, hm⟩ := I.frzK hd
    obtain ⟨rfl, rfl⟩ := dict_ep hod hdt
    have hl : kvs.length = vs.length := Paired.length kv
    rw [hl] at st
    exact wpAny_pyNext_values_end (I.ok.hd hc) st hm (List.getElem?_eq_none (by lia)) fun h' eb => ⟨rfl, I.turned (t' := s.toks) (fun b ob hb e => eb b ob hb e) f0 f1 f3 f4 f5⟩
  self := fun A i s Q E st h => wpAny_pyIter_valiter st h
end

/-! ### for k in d, d.keys(), d.values(), d.items() -/
def iVals (td : TE) : TI := fun σ H R => td σ H fun x H1 => ∃ d o kvs, x = .ref d ∧ H1 d = some (.frz o (.dK kvs)) ∧ R (Itd d o kvs) H1
section
variable {X : Cx} {tg e : Expr} {td : TE} {apos cpos : Pos}
theorem pi_values (he : PE X e td) (hbase : attributeBase e "values" X.env (eval e X.env) = eval e X.env := by rfl) (hline : (apos.endLine == cpos.line) = true := by rfl) : PI X tg (.Call (.Attribute e "values" apos) [] [] cpos) (iVals td) := by
  intro pins s σ H R I h
  refine wpAny_Call_method (T := "dict") (id := "dict.values") hbase rfl hline F.plainAttrs_dict F.slot_dict_values F.type_dict_values (thn (he pins s σ H _ I h) fun u s1 ⟨x, H1, I1, rx, d, o, kvs, ex, hd, q⟩ => ?_)
  subst ex
  obtain rfl : u = Value.ref d := rx
  obtain ⟨hs, hgd, hx, es, ep, vs, hdt, hsz, kv, hm⟩ := I1.frzK hd
  have hl : kvs.length = vs.length := Paired.length kv
  refine ⟨hm.dictOf.typeIs, hm.dictOf.mapOf.noDict, ?_⟩
  have I2 : Inv X pins σ H1 { s1 with heap := s1.heap.push { cls := .type "dict_values", data := .fields #[.ref d] } } := I1.kept (t' := s1.toks) fun b ob q => Heap.get?_push_of_some _ q
  have fin : wpAny (model X.prog X.w) X.A (pyIter (.ref s1.heap.objs.size)) (PIE X pins σ tg R) X.xe { s1 with heap := s1.heap.push { cls := .type "dict_values", data := .fields #[.ref d] } } := by
    refine wpAny_pyIter_values (d := d) (knd := mixKind X.prog X.w) ⟨_, Heap.get?_push_size _ rfl, rfl, rfl⟩ (hm.push _) (pi_one (tk := s1.toks) I2 _ (turn_vals _ hdt) ⟨_, Heap.get?_push_size _ rfl, rfl, ?_⟩ q)
    rw [hl] <;> rfl
  show wpAny _ _ (callWith cpos (.builtin "dict.values") [.ref d] [] []) _ X.xe s1
  exact method_meetsIn F.slot_dict_values F.entry_dict_values rfl (PySem.evalArgs_none ⟨rfl, hm.dictOf.typeIs, F.args_dict_values_1 _, _, meets_dict_values (mixKind X.prog X.w) d hs, ⟨vs, hm.dictOf⟩, fin⟩)
end

/-! ### enumerate(list) -/
/-- the list at a as it stands at each turn, each item in a new pair -/
def Ite (K : PySem.W.Frag) (a : Addr) : It :=
  ⟨fun i H => ∃ (xs : List V) (x : V), SqL K H a xs ∧ xs[i]? = some x, fun i H v H' => ∃ T x, v = .ref T ∧ H T = none ∧ H' = upd H T (.tup [.int (i : Nat), x]) ∧ ∀ xs, SqL K H a xs → xs[i]? = some x, fun i H => ∃ xs : List V, SqL K H a xs ∧ xs.length ≤ i⟩
theorem turn_enum {P : Program} {w : World} {K : PySem.W.Frag} {elts : List Expr} {kk : Nat} {tpos : Pos} (a e it : Addr) :
    Turn P w K (.Tuple elts kk tpos) (Ite K a) [e, it] e (fun i h => (∃ old, IsEnum h e it ((i : Nat) : Int) old) ∧ h.IsListIter it a i ∧ e ≠ it) where
  mem := by simp
  obj := fun i h st b hb => by
    obtain ⟨⟨old, he⟩, ⟨o, ho, hc, hd⟩, _⟩ := st
    have e' : b = e ∨ b = it := by simpa using hb
    rcases e' with z | z
    · rw [z]; exact ⟨_, he, fun v q => nomatch q⟩
    · rw [z]; exact ⟨o, ho, fun v q => by rw [hd] at q; cases q⟩
  keep := fun i h h' st k => let ⟨⟨old, he⟩, hi, hne⟩ := st; ⟨⟨old, k e (by simp) _ he⟩, hi.at fun o q => k it (by simp) o q, hne⟩
  item := by
    intro X hP hw hK hc i pins s σ H E I hf st hg
    subst hP hw hK
    obtain ⟨⟨old, he⟩, hit, hne⟩ := st
    obtain ⟨xs, x, hq, hx⟩ := hg
    obtain ⟨its, rv, p, hz⟩ := I.list hq
    obtain ⟨u, hu, ru⟩ := rv.get hx
    have hel : e < s.heap.objs.size := Heap.lt_size he
    have hil : it < s.heap.objs.size := by obtain ⟨_, q, _⟩ := hit; exact Heap.lt_size q
    refine wpAny_pyNext_enum_item he hit p.isList (x := u) (by simpa using hu) hne fun h' ho hit' hT hsz hk => ?_
    refine ⟨_, rfl, wpAny_letOwnedTupleGo_enum (s := { s with heap := h', toks := s.toks + 1 }) ho fun h'' he' sb => ?_⟩
    have hT2 : h''.get? s.heap.objs.size = some { cls := .type "tuple", data := .seq #[.int i s.toks, u] } := (sb.2 _ (Nat.ne_of_gt hel)).trans hT
    have new : ObjOk X.prog X.w (upd H s.heap.objs.size (.tup [.int (i : Nat), x])) h'' s.heap.objs.size (.tup [.int (i : Nat), x]) :=
      ⟨by show 2 ≤ sizeLine; decide, [.int i s.toks, u], .cons ⟨_, rfl⟩ (.cons ru .nil), ⟨_, hT2, rfl, _, rfl⟩⟩
    have I1 : Inv X pins σ (upd H s.heap.objs.size (.tup [.int (i : Nat), x])) { s with heap := h'', toks := s.toks + 1 } :=
      I.turnedNew (ch := [e, it]) (fun b ob hb q => (sb.2 b (fun z => hb (by simp [z]))).trans (hk b ob (fun z => hb (by simp [z])) (fun z => hb (by simp [z])) q)) hf (Nat.le_refl _) new
    refine ⟨.ref s.heap.objs.size, _, I1, rfl, ⟨_, x, rfl, I.hok.fresh (Nat.le_refl _), rfl, fun ys hy => by rw [I.list_inj hy hq]; exact hx⟩, ⟨⟨u, ?_⟩, hit'.at fun o q => (sb.2 it (Ne.symm hne)).trans q, hne⟩, fun b hb => ?_⟩
    · have e1 : ((i + 1 : Nat) : Int) = (i : Int) + 1 := by lia
      rw [e1]; exact he'
    · have hb' : b < s.heap.objs.size := by
        have e' : b = e ∨ b = it := by simpa using hb
        rcases e' with z | z
        · rw [z]; exact hel
        · rw [z]; exact hil
      rw [upd_ne (Nat.ne_of_lt hb')]
      exact (hf b hb).1
  done := by
    intro X hP hw hK hc i pins s σ H E I hf st hg
    subst hP hw hK
    obtain ⟨⟨old, he⟩, hit, hne⟩ := st
    obtain ⟨xs, hq, hx⟩ := hg
    obtain ⟨its, rv, p, hz⟩ := I.list hq
    obtain ⟨f0, f1, f2, f3, f4, f5⟩ := hf it (by simp)
    have hl := rv.length
    exact wpAny_pyNext_enum_end (I.ok.hd hc) he hit p.isList (by simp; lia) fun h' eb => ⟨rfl, I.turned (t' := s.toks) (fun b o hb q => eb b o hb q) f0 f1 f3 f4 f5⟩
  self := fun A i s Q E st h => let ⟨⟨_, he⟩, _⟩ := st; wpAny_pyIter_enum he h
def iEnum (K : PySem.W.Frag) (ta : TA) : TI := fun σ H R => ta σ H fun vs H1 => ∃ a xs, vs = [.ref a] ∧ SqL K H1 a xs ∧ R (Ite K a) H1
theorem pi_enum {X : Cx} {e : Expr} {ta : TA} {p pos tpos : Pos} {elts : List Expr} {kk : Nat} (hg : Gl X "enumerate") (hm : X.mg "enumerate" = none) (ha : PA X [e] ta) (hs : starEach [e] X.env = [(false, eval e X.env)] := by rfl) :
    PI X (.Tuple elts kk tpos) (.Call (.Name "enumerate" p) [e] [] pos) (iEnum X.K ta) := by
  intro pins s σ H R I h
  refine Call_ (ld_blt I hg hm boot_enumerate (PyProof.Rows.callWith_type1 (thn (ha pos pins s σ H _ I h) fun us s1 ⟨vs, H1, I1, r1, q1⟩ => ?_) hs rfl))
  obtain ⟨a, xs, ex, hq, q⟩ := q1
  subst ex
  cases r1 with
  | cons r rr =>
    cases rr
    cases r
    obtain ⟨its, rv, p', hz⟩ := I1.list hq
    refine call_enumerate_list p'.isList fun h' he hit hsz hk => wpAny_pyIter_enum he ?_
    have I2 : Inv X pins σ H1 { s1 with heap := h' } := I1.kept (t' := s1.toks) hk
    refine ⟨s1.heap.objs.size + 1, [s1.heap.objs.size + 1, s1.heap.objs.size], _, _, H1, rfl, I2, turn_enum a (s1.heap.objs.size + 1) s1.heap.objs.size, ⟨⟨.none, he⟩, hit, Nat.succ_ne_self _⟩, fun b hb => ?_, q⟩
    have e' : b = s1.heap.objs.size + 1 ∨ b = s1.heap.objs.size := by simpa using hb
    have hle : s1.heap.objs.size ≤ b := by
      rcases e' with z | z
      · rw [z]; exact Nat.le_add_right _ _
      · rw [z]; exact Nat.le_refl _
    exact I1.fpOk hle (I1.hok.fresh hle)
/-! ### zip(list, list) -/
end L2

section 
namespace Bits
open PySem PyProof.Rows








end Bits
end 

section 
namespace TL
open PySem PySem.Builtin PySem.Builtin.Str PySem.StrLaws


/-! ### the list functions -/




/-! ### the model's split and partition are these -/




/-! ### computing spl and par -/


/-! ### digits -/

/-! ### words: x.split() -/
end TL
end 

namespace L2
open PySem PySem.Spec PyProof.Rows




section
variable {X : Cx} {pins : List (Addr × Obj)} {σ : St} {H : Hp} {s : Shared} {Q : VK}
end

section
variable {X : Cx}





/-! ### of a text alone -/

/-! ### of a text and a text -/

end

section
variable {X : Cx} {o e : Expr} {to te : TE}

end
end L2

namespace L2
open PySem PySem.Spec PyProof.Rows

section
variable {X : Cx}
end

/-! ### slices of a text -/


end L2

namespace Att
open PySem PySem.W PySem.Calls PyProof.Rows

/-! ### the script -/
theorem ints_of_wellAll {P : Params} {h : Heap} : ∀ (ns : List Int) (vs : List Value), WellAll P h vs (ns.map WData.int) → IntsAre vs ns := by
  intro ns
  induction ns with
  | nil =>
    intro vs w
    rw [List.map_nil] at w
    cases w
    exact .nil
  | cons n ns ih =>
    intro vs w
    rw [List.map_cons] at w
    cases w with
    | cons a b =>
      cases a
      exact .cons _ _ (ih _ b)



/-! ### the attachment: holds_open's last premise (the goal 'hc' behind k_head) from a wpAny of the law's body -/



/-! ### rules over ANY heap (no ledger) from facts about the written part K: the library's own take a ledger (News) for what they write -/
section
variable {prog : Program} {w : World} {A : Around} {E : Value → Shared → Prop} {s : Shared} {K : Frag}





/-! the whole heap as the ledger: makes every rule that writes through a ledger a rule over any heap -/

end
end Att

namespace L2
open PySem PySem.Spec PyProof.Rows

theorem vals_ints : ∀ {vs : List Value} {ns : List Int}, IntsAre vs ns → Vals (ns.map V.int) vs
  | _, _, .nil => .nil
  | _, _, .cons n t h => .cons ⟨t, rfl⟩ (vals_ints h)

/-- nothing is tracked but the script, known to the object (or it is an object of the module) -/
def Only (H : Hp) : Prop := ∀ b, H b = none ∨ ∃ o xs, H b = some (.frz o (.lst xs))

end L2

namespace L2
open PySem PySem.Spec PyProof.Rows

abbrev KOf {K : PySem.W.Frag} {h : Heap} (_ : K.In h) : PySem.W.Frag := K

end L2

/- THE LAST THEOREM (shape; LID, My.* are yours):
   My.Adr: a structure of the addresses that your layer names (classes, functions); My.Txt K t: a structure (Prop) of the equations over K;
   My.txt_mk : {K} {implicit addresses ..} (e1 : nsIn K mainGlobals "law" = some (some (.ref f))) (e2 : K.lookup f = some ⟨oc, od, .func (fnOf "law" "law" params body scope dV kV doc pm an cdv ct), sl⟩) (e3 : codeIn K cdv "law" = true) .. : ∃ t, My.Txt K t

set_option maxRecDepth 100000 in
set_option maxHeartbeats 0 in
theorem PySem.Challenge.cw_LID_holds : PySem.Challenge.rw_LID.Holds := by
  w_on; o_law; k_head; (case hw => w_witness2)
  k_fill
  refine L2.walk_of (l := PySem.Challenge.rw_LID) (n := 63) (k := 40) (x := "script") (CX := fun w => ..) (sp := fun _ => My.sp_law) rfl (by decide) rfl ⟨rfl, by decide, by decide⟩ (fun w h Y => PySem.W.kIn_of Y) ?F ?S ?C
  case F =>
    intro w mg fa h KX G hmg
    have T : ∃ t, My.Txt (L2.KOf KX) t := by
      dsimp only [L2.KOf]                          -- K must stand as «<heap const> w.params» for k_is
      refine' My.txt_mk ?e1 ?e2 ?e3 ..
      (case e1 => PySem.W.k_is)                    -- in the order: a name -> its address -> its object -> its parts
      (case e2 => PySem.W.k_is)
      ..
    obtain ⟨t, T⟩ := T
    have e0 := hmg.symm.trans (PySem.W.mg_of KX G T.law)
    cases e0                                       -- fa is the law's own address
    exact ⟨_, fun s u => .of_eq rfl, fun base kb nb => My.law_fn T kb nb⟩     -- if «.of_eq rfl» comes too early: refine' ⟨_, ?b, fun base kb nb => My.law_fn T kb nb⟩; exact fun s u => .of_eq rfl
  case S => exact fun w H a ns hl hO hS => ..
  case C => exact ..
(the tactic k_is has no namespace: write k_is) -/

/-! SHORT WORDS over the layer: a def of the text, its body, what a loop and a test want. -/
namespace L2
open PySem PySem.Spec PyProof.Rows

/-! ### the text by places -/
/-- the j-th statement of a class's body -/
def inClass (s : Stmt) (j : Nat) : Stmt := match s with
  | .ClassDef _ _ _ body _ _ _ _ _ _ _ => body.getD j (.Pass ⟨0, 0, 0, 0⟩)
  | _ => .Pass ⟨0, 0, 0, 0⟩
def defArgs (s : Stmt) : Arguments := match s with
  | .FunctionDef _ a _ _ _ _ _ _ _ _ => a
  | _ => { posonlyargs := [], args := [], vararg := none, kwonlyargs := [], kw_defaults := [], kwarg := none, defaults := [] }
def defBody (s : Stmt) : List Stmt := match s with
  | .FunctionDef _ _ b _ _ _ _ _ _ _ => b
  | _ => []
def defScope (s : Stmt) : Scope := match s with
  | .FunctionDef _ _ _ _ _ _ sc _ _ _ => sc
  | _ => { kind := .function, names := [], isGenerator := false, isCoroutine := false }

/-! ### no exception leaves a def -/
abbrev CX0 : CXT := fun _ _ _ _ _ _ => False
abbrev E0 : XK := fun _ _ _ => False
theorem pass0 {X : Cx} : Passes CX0 X E0 := fun _ _ _ _ _ _ _ h => h.elim

/-! ### a def (or method) of the text as it stands behind the top -/
structure Fun (K : PySem.W.Frag) (x qual : Str) (st : Stmt) (f : Addr) (fd : FuncData) : Prop where
  ex : ∃ (oc : Value) (od : Option Addr) (kV doc pm : Value) (an : Option Addr) (cdv ct : Value) (osl : Array (Option Value)),
    fd = PySem.W.fnOf x qual (defArgs st) (defBody st) (defScope st) .none kV doc pm an cdv ct ∧ K.lookup f = some ⟨oc, od, .func fd, osl⟩ ∧ PySem.W.codeIn K cdv qual = true
  kp : PySem.W.keepIn K (.ref f) = true
section
variable {P : Program} {w : World} {K : PySem.W.Frag} {mg : Str → Option Value} {base : Heap}
/-- THE RULE for a def: its body as a term of rules, and the reading of that term -/
theorem Fun.ok {x qual : Str} {st : Stmt} {f : Addr} {fd : FuncData} {N ps : List Str} {k : Nat} {sp : Sp} (F : Fun K x qual st f fd) (S : FnScope N ps (defScope st)) (len : ∀ vs H Q E, sp vs H Q E → vs.length = ps.length)
    (hbody : ∀ (cdv : Value) (A : Around) (outer : List Env) (s : Shared) (H : Hp) (vs : List V) (Q : VK) (E : XK), Room k (A.deeper (envOfC qual (defScope st) s.heap.objs.size f cdv)) → sp vs H Q E →
      ∃ t, PSs (cxOf CX0 P w K mg base N qual (defScope st) f cdv A outer s H E).nox (defBody st) t ∧ t { nx := fun _ H' => Q .non H', rt := Q } (start N vs) H) : FnOk P w K mg base CX0 (k + 1) f fd ps sp := by
  obtain ⟨oc, od, kV, doc, pm, an, cdv, ct, osl, rfl, lk, hcd⟩ := F.ex
  refine fn_of lk hcd S len fun A outer s H vs Q E hr hsp => ?_
  obtain ⟨t, h, q⟩ := hbody cdv A outer s H vs Q E hr hsp
  exact ⟨t, h.nox, q⟩
/-- how its arguments bind (no defaults): h is «fun _ _ _ _ _ _ us hl => match us, hl with | [_, _], _ => rfl», one _ a parameter -/
theorem Fun.binds {x qual : Str} {st : Stmt} {f : Addr} {fd : FuncData} {ps : List Str} (F : Fun K x qual st f fd)
    (h : ∀ (kV doc pm : Value) (an : Option Addr) (cdv ct : Value) (us : List Value), us.length = ps.length → bindArgs (PySem.W.fnOf x qual (defArgs st) (defBody st) (defScope st) .none kV doc pm an cdv ct) ⟨us, []⟩ = pure (ps.zip us)) : Binds K fd ps [] := by
  obtain ⟨oc, od, kV, doc, pm, an, cdv, ct, osl, rfl, lk, hcd⟩ := F.ex
  exact .all (h kV doc pm an cdv ct)
theorem fun_mk {x qual : Str} {st : Stmt} {f : Addr} {oc : Value} {od an : Option Addr} {osl : Array (Option Value)} {kV doc pm cdv ct : Value} (l : K.lookup f = some ⟨oc, od, .func (PySem.W.fnOf x qual (defArgs st) (defBody st) (defScope st) .none kV doc pm an cdv ct), osl⟩)
    (c : PySem.W.codeIn K cdv qual = true) (k : PySem.W.keepIn K (.ref f) = true) : Fun K x qual st f (PySem.W.fnOf x qual (defArgs st) (defBody st) (defScope st) .none kV doc pm an cdv ct) := ⟨⟨oc, od, kV, doc, pm, an, cdv, ct, osl, rfl, l, c⟩, k⟩
end
theorem hu_of {A : Around} {k : Nat} (hr : Room k A) : A.units + 1 < cLine := Nat.lt_of_le_of_lt (Nat.add_le_add_left (by decide : 1 ≤ 64) _) hr.units

/-! ### expressions in short: the name that stands in the i-th slot -/
section
variable {X : Cx}
theorem pv (i : Nat) {x : Str} {pos : Pos} (hN : X.N[i]? = some x := by rfl) (hv : Vis X.env.scope x := by first | exact Or.inl rfl | exact Or.inr (Or.inl rfl) | exact Or.inr (Or.inr rfl)) (hd : (x == ("__debug__" : Str)) = false := by decide)
    (hcd : (x == ("__classdict__" : Str)) = false := by decide) : PE X (.Name x pos) (tVar i) := pe_var hN hv hd hcd
end

/-! ### tests -/
theorem iteF {A B : Prop} (h : B) : if false = true then A else B := by
  rw [if_neg Bool.false_ne_true]
  exact h
theorem iteT {A B : Prop} (h : A) : if true = true then A else B := by
  rw [if_pos rfl]
  exact h
theorem ite2 {c A B : Prop} [Decidable c] (h1 : c → A) (h2 : ¬ c → B) : if c then A else B := by
  by_cases h : c
  · rw [if_pos h]
    exact h1 h
  · rw [if_neg h]
    exact h2 h

/-! ### heaps -/
/-- all that was tracked is as it was -/
def Same (H H' : Hp) : Prop := ∀ b o, H b = some o → H' b = some o
theorem Same.refl (H : Hp) : Same H H := fun _ _ h => h
theorem Same.trans {H H1 H2 : Hp} (a : Same H H1) (b : Same H1 H2) : Same H H2 := fun c o h => b c o (a c o h)
theorem Same.free {H H' : Hp} (e : Same H H') {l : Addr} (h : H' l = Option.none) : H l = Option.none := by
  cases q : H l with
  | none => rfl
  | some o =>
    rw [e l o q] at h
    cases h
theorem Same.seq {K : PySem.W.Frag} {H H' : Hp} {a : Addr} {xs : List V} (e : Same H H') (h : SqL K H a xs) : SqL K H' a xs := by
  rcases h with (h | ⟨o, h⟩) | h
  · exact .inl (.inl (e _ _ h))
  · exact .inl (.inr ⟨o, e _ _ h⟩)
  · exact .inr h

/-! ### a dict's pairs: keys that differ -/
section
variable {κ : Type} [DecidableEq κ]
end
/-! ### lists -/
end L2
namespace SM
open Sz17

/-! ### whom a job waits for -/
def nxt (s : St) (k : Nat) : Option Nat := (s.job k).bind fun j => j.waits.bind fun l => holder s l
def walk (s : St) : Nat → Nat → Option Nat
  | 0, k => some k
  | n + 1, k => (nxt s k).bind (walk s n)
/-- the one that is able, over at most so many steps -/
def rootN (s : St) : Nat → Nat → Option Nat
  | 0, k => if able s k = true then some k else none
  | n + 1, k => if able s k = true then some k else (nxt s k).bind (rootN s n)

theorem behind_succ (s : St) (n k i : Nat) : behind s (n + 1) k i = match nxt s k with
    | some h => h == i || behind s n h i
    | none => false := rfl

theorem behind_iff (s : St) : ∀ (n k i : Nat), behind s n k i = true ↔ ∃ m, m < n ∧ walk s (m + 1) k = some i
  | 0, k, i => by
    constructor
    · intro h; cases h
    · rintro ⟨m, hm, _⟩; lia
  | n + 1, k, i => by
    rw [behind_succ]
    cases e : nxt s k with
    | none =>
      constructor
      · intro h; cases h
      · rintro ⟨m, _, h⟩
        rw [walk, e] at h; cases h
    | some h =>
      show (h == i || behind s n h i) = true ↔ _
      rw [Bool.or_eq_true, behind_iff s n h i, beq_iff_eq]
      constructor
      · rintro (rfl | ⟨m, hm, hw⟩)
        · exact ⟨0, by lia, by rw [walk, e]; rfl⟩
        · exact ⟨m + 1, by lia, by rw [walk, e]; exact hw⟩
      · rintro ⟨m, hm, hw⟩
        rw [walk, e] at hw
        cases m with
        | zero => left; exact Option.some.inj hw
        | succ m => right; exact ⟨m, by lia, hw⟩

theorem able_iff (s : St) (k : Nat) : able s k = true ↔ (s.job k).isSome = true ∧ nxt s k = none := by
  unfold able nxt
  cases s.job k with
  | none => simp
  | some j =>
    cases e : j.waits with
    | none => simp [e]
    | some l => simp [e]

theorem job_of_nxt {s : St} {k h : Nat} (e : nxt s k = some h) : (s.job k).isSome = true := by
  unfold nxt at e
  cases q : s.job k with
  | none => rw [q] at e; cases e
  | some j => rfl

theorem holder_some {s : St} {l h : Nat} (e : holder s l = some h) : h < s.tasks.length ∧ ∃ j, s.job h = some j ∧ l ∈ j.has := by
  unfold holder at e
  have h1 := List.find?_some e
  have h2 := List.mem_of_find?_eq_some e
  refine ⟨List.mem_range.mp h2, ?_⟩
  cases q : s.job h with
  | none => rw [q] at h1; cases h1
  | some j => rw [q] at h1; exact ⟨j, rfl, List.contains_iff_mem.mp h1⟩

theorem nxt_job {s : St} {k h : Nat} (e : nxt s k = some h) : h < s.tasks.length ∧ (s.job h).isSome = true := by
  unfold nxt at e
  cases q : s.job k with
  | none => rw [q] at e; cases e
  | some j =>
    rw [q] at e
    cases w : j.waits with
    | none => simp [w] at e
    | some l =>
      simp [w] at e
      obtain ⟨h1, j', h2, _⟩ := holder_some e
      exact ⟨h1, by rw [h2]; rfl⟩

theorem rootN_iff (s : St) : ∀ (n k i : Nat), rootN s n k = some i ↔ able s i = true ∧ ∃ m, m ≤ n ∧ walk s m k = some i
  | 0, k, i => by
    unfold rootN
    constructor
    · intro h
      by_cases a : able s k = true
      · rw [if_pos a] at h
        cases h
        exact ⟨a, 0, Nat.le_refl _, rfl⟩
      · rw [if_neg a] at h; cases h
    · rintro ⟨a, m, hm, hw⟩
      obtain rfl : m = 0 := by lia
      cases hw
      rw [if_pos a]
  | n + 1, k, i => by
    unfold rootN
    by_cases a : able s k = true
    · rw [if_pos a]
      have e := ((able_iff s k).mp a).2
      constructor
      · intro h
        cases h
        exact ⟨a, 0, by lia, rfl⟩
      · rintro ⟨_, m, _, hw⟩
        cases m with
        | zero => exact hw
        | succ m => rw [walk, e] at hw; cases hw
    · rw [if_neg a]
      cases e : nxt s k with
      | none =>
        constructor
        · intro h; cases h
        · rintro ⟨ai, m, _, hw⟩
          cases m with
          | zero => cases hw; exact absurd ai a
          | succ m => rw [walk, e] at hw; cases hw
      | some h =>
        show rootN s n h = some i ↔ _
        rw [rootN_iff s n h i]
        constructor
        · rintro ⟨ai, m, hm, hw⟩
          exact ⟨ai, m + 1, by lia, by rw [walk, e]; exact hw⟩
        · rintro ⟨ai, m, hm, hw⟩
          cases m with
          | zero => cases hw; exact absurd ai a
          | succ m => rw [walk, e] at hw; exact ⟨ai, m, by lia, hw⟩

/-! ### no way is longer than there are jobs -/
theorem walk_add (s : St) : ∀ (a b k : Nat), walk s (a + b) k = (walk s a k).bind (walk s b)
  | 0, b, k => by rw [Nat.zero_add]; rfl
  | a + 1, b, k => by
    rw [Nat.succ_add, walk, walk]
    cases nxt s k with
    | none => rfl
    | some h => exact walk_add s a b h

theorem walk_stop {s : St} {i : Nat} (e : nxt s i = none) {m : Nat} {x : Nat} (h : walk s m i = some x) : m = 0 := by
  cases m with
  | zero => rfl
  | succ m => rw [walk, e] at h; cases h

/-- the nodes of a way -/
def nodes (s : St) : Nat → Nat → List Nat
  | 0, k => [k]
  | n + 1, k => k :: match nxt s k with
    | some h => nodes s n h
    | none => []

theorem nodes_len {s : St} : ∀ {m k i : Nat}, walk s m k = some i → (nodes s m k).length = m + 1
  | 0, _, _, _ => rfl
  | m + 1, k, i, h => by
    rw [walk] at h
    cases e : nxt s k with
    | none => rw [e] at h; cases h
    | some h' =>
      rw [e] at h
      have h : walk s m h' = some i := h
      rw [nodes, e, List.length_cons, nodes_len h]

theorem mem_nodes {s : St} : ∀ {m k i x : Nat}, walk s m k = some i → x ∈ nodes s m k → ∃ a, a ≤ m ∧ walk s a k = some x ∧ walk s (m - a) x = some i
  | 0, k, i, x, h, hx => by
    rw [nodes, List.mem_singleton] at hx
    subst hx
    exact ⟨0, Nat.le_refl _, rfl, h⟩
  | m + 1, k, i, x, h, hx => by
    have h0 := h
    rw [walk] at h
    cases e : nxt s k with
    | none => rw [e] at h; cases h
    | some h' =>
      rw [e] at h
      have h : walk s m h' = some i := h
      rw [nodes, e] at hx
      rcases List.mem_cons.mp hx with rfl | hx
      · exact ⟨0, by lia, rfl, h0⟩
      · obtain ⟨a, h1, h2, h3⟩ := mem_nodes h hx
        exact ⟨a + 1, by lia, by rw [walk, e]; exact h2, by rw [Nat.add_sub_add_right]; exact h3⟩

theorem nodes_nodup {s : St} {i : Nat} (ei : nxt s i = none) : ∀ {m k : Nat}, walk s m k = some i → (nodes s m k).Nodup
  | 0, _, _ => by simp [nodes]
  | m + 1, k, h => by
    have h0 := h
    rw [walk] at h
    cases e : nxt s k with
    | none => rw [e] at h; cases h
    | some h' =>
      rw [e] at h
      have h : walk s m h' = some i := h
      rw [nodes, e]
      refine List.nodup_cons.mpr ⟨fun hk => ?_, nodes_nodup ei h⟩
      obtain ⟨a, h1, h2, h3⟩ := mem_nodes h hk
      -- k comes again: the way from k is both m + 1 and m - a long
      have h4 : walk s ((m - a) + (a + 1)) k = some i := by rw [show (m - a) + (a + 1) = m + 1 by lia]; exact h0
      rw [walk_add, h3] at h4
      have h5 : walk s (a + 1) i = some i := h4
      have := walk_stop ei h5
      lia

theorem length_le_of_subset : ∀ {l ks : List Nat}, l.Nodup → (∀ x, x ∈ l → x ∈ ks) → l.length ≤ ks.length
  | [], _, _, _ => Nat.zero_le _
  | a :: r, ks, h, hs => by
    obtain ⟨h1, h2⟩ := List.nodup_cons.mp h
    have ha := hs a List.mem_cons_self
    have h3 : r.length ≤ (ks.erase a).length := by
      refine length_le_of_subset h2 fun x hx => ?_
      have hxa : x ≠ a := fun e => h1 (e ▸ hx)
      exact (List.mem_erase_of_ne hxa).mpr (hs x (List.mem_cons_of_mem _ hx))
    rw [List.length_erase_of_mem ha] at h3
    have : 0 < ks.length := List.length_pos_of_mem ha
    rw [List.length_cons]
    lia

theorem nodes_job {s : St} : ∀ {m k : Nat}, (s.job k).isSome = true → ∀ x, x ∈ nodes s m k → (s.job x).isSome = true
  | 0, k, hk, x, hx => by
    rw [nodes, List.mem_singleton] at hx
    rw [hx]; exact hk
  | m + 1, k, hk, x, hx => by
    rw [nodes] at hx
    rcases List.mem_cons.mp hx with rfl | hx
    · exact hk
    · cases e : nxt s k with
      | none => rw [e] at hx; cases hx
      | some h => rw [e] at hx; exact nodes_job (nxt_job e).2 x hx

theorem walk_short {s : St} {ks : List Nat} {m k i : Nat} (hks : ∀ x, (s.job x).isSome = true → x ∈ ks) (hk : (s.job k).isSome = true) (ai : able s i = true) (h : walk s m k = some i) : m < ks.length := by
  have e := ((able_iff s i).mp ai).2
  have h1 := length_le_of_subset (nodes_nodup e h) fun x hx => hks x (nodes_job hk x hx)
  rw [nodes_len h] at h1
  lia

/-- whom k lends its urgency to: over any number of steps that is at least one less than there are jobs -/
theorem rootN_same {s : St} {ks ks' : List Nat} {k : Nat} (h1 : ∀ x, (s.job x).isSome = true → x ∈ ks) (h2 : ∀ x, (s.job x).isSome = true → x ∈ ks') (hk : (s.job k).isSome = true) {n n' : Nat} (hn : ks.length ≤ n + 1) (hn' : ks'.length ≤ n' + 1) :
    rootN s n k = rootN s n' k := by
  have key : ∀ i, rootN s n k = some i ↔ rootN s n' k = some i := fun i => by
    rw [rootN_iff, rootN_iff]
    constructor
    · rintro ⟨a, m, _, hw⟩
      have := walk_short h2 hk a hw
      exact ⟨a, m, by lia, hw⟩
    · rintro ⟨a, m, _, hw⟩
      have := walk_short h1 hk a hw
      exact ⟨a, m, by lia, hw⟩
  cases e : rootN s n k with
  | some i => exact ((key i).mp e).symm
  | none =>
    cases e' : rootN s n' k with
    | none => rfl
    | some i => rw [(key i).mpr e'] at e; cases e
end SM
namespace SM
open Sz17

/-! ### urgency -/
/-- k lends its own urgency to i: it is i, or waits for it -/
def lends (s : St) (k i : Nat) : Prop := k = i ∨ behind s TASKS k i = true
def ownD (s : St) (k : Nat) : Int := match s.job k with
  | some q => own s k q
  | none => 0

/-- one turn of the fold in urgency -/
def uf (s : St) (i : Nat) (u : Int) (k : Nat) : Int := match s.job k with
  | some q => if behind s TASKS k i = true then max u (own s k q) else u
  | none => u
theorem urgency_eq (s : St) (i : Nat) : urgency s i = (s.job i).map fun j => (List.range s.tasks.length).foldl (uf s i) (own s i j) := rfl

theorem uf_none {s : St} {i a : Nat} {u : Int} (e : s.job a = none) : uf s i u a = u := by unfold uf; rw [e]
theorem uf_no {s : St} {i a : Nat} {u : Int} (e : ¬ behind s TASKS a i = true) : uf s i u a = u := by
  unfold uf
  cases s.job a with
  | none => rfl
  | some q => exact if_neg e
theorem uf_yes {s : St} {i a : Nat} {u : Int} {q : Job} (e : s.job a = some q) (h : behind s TASKS a i = true) : uf s i u a = max u (own s a q) := by
  unfold uf; rw [e]; exact if_pos h

theorem fold_max (s : St) (i : Nat) : ∀ (l : List Nat) (u : Int),
    u ≤ l.foldl (uf s i) u ∧ (∀ k, k ∈ l → (s.job k).isSome = true → behind s TASKS k i = true → ownD s k ≤ l.foldl (uf s i) u) ∧ (l.foldl (uf s i) u = u ∨ ∃ k, k ∈ l ∧ (s.job k).isSome = true ∧ behind s TASKS k i = true ∧ ownD s k = l.foldl (uf s i) u)
  | [], u => ⟨Int.le_refl _, fun _ h => (by cases h), .inl rfl⟩
  | a :: r, u => by
    rw [List.foldl_cons]
    have keep : uf s i u a = u → (∀ q, s.job a = some q → ¬ behind s TASKS a i = true) →
        u ≤ r.foldl (uf s i) (uf s i u a) ∧ (∀ k, k ∈ a :: r → (s.job k).isSome = true → behind s TASKS k i = true → ownD s k ≤ r.foldl (uf s i) (uf s i u a)) ∧ (r.foldl (uf s i) (uf s i u a) = u ∨ ∃ k, k ∈ a :: r ∧ (s.job k).isSome = true ∧ behind s TASKS k i = true ∧ ownD s k = r.foldl (uf s i) (uf s i u a)) := fun eu hn => by
      rw [eu]
      obtain ⟨h1, h2, h3⟩ := fold_max s i r u
      refine ⟨h1, fun k hk hj hb => ?_, ?_⟩
      · rcases List.mem_cons.mp hk with rfl | hk
        · obtain ⟨q, hq⟩ := Option.isSome_iff_exists.mp hj
          exact absurd hb (hn q hq)
        · exact h2 k hk hj hb
      · rcases h3 with h3 | ⟨k, hk, h4⟩
        · exact .inl h3
        · exact .inr ⟨k, List.mem_cons_of_mem _ hk, h4⟩
    cases e : s.job a with
    | none => exact keep (uf_none e) (fun q hq => by rw [e] at hq; cases hq)
    | some q =>
      by_cases hb : behind s TASKS a i = true
      · have ea : ownD s a = own s a q := by unfold ownD; rw [e]
        rw [uf_yes e hb]
        obtain ⟨h1, h2, h3⟩ := fold_max s i r (max u (own s a q))
        refine ⟨by lia, fun k hk hj hb' => ?_, ?_⟩
        · rcases List.mem_cons.mp hk with rfl | hk
          · lia
          · exact h2 k hk hj hb'
        · rcases h3 with h3 | ⟨k, hk, h4⟩
          · by_cases h5 : u ≤ own s a q
            · exact .inr ⟨a, List.mem_cons_self, by rw [e]; rfl, hb, by lia⟩
            · exact .inl (by lia)
          · exact .inr ⟨k, List.mem_cons_of_mem _ hk, h4⟩
      · exact keep (uf_no hb) (fun _ _ => hb)

def urg (s : St) (i : Nat) : Int := (urgency s i).getD 0

theorem urg_ge {s : St} {i k : Nat} (hi : (s.job i).isSome = true) (hk : k < s.tasks.length) (hj : (s.job k).isSome = true) (hl : lends s k i) : ownD s k ≤ urg s i := by
  unfold urg
  rw [urgency_eq]
  cases e : s.job i with
  | none => rw [e] at hi; cases hi
  | some j =>
    show ownD s k ≤ List.foldl (uf s i) (own s i j) _
    obtain ⟨h1, h2, h3⟩ := fold_max s i (List.range s.tasks.length) (own s i j)
    rcases hl with rfl | hb
    · have : ownD s k = own s k j := by unfold ownD; rw [e]
      rw [this]; exact h1
    · exact h2 k (List.mem_range.mpr hk) hj hb

theorem urg_at {s : St} {i : Nat} (hi : (s.job i).isSome = true) (hl : i < s.tasks.length) : ∃ k, k < s.tasks.length ∧ (s.job k).isSome = true ∧ lends s k i ∧ ownD s k = urg s i := by
  unfold urg
  rw [urgency_eq]
  cases e : s.job i with
  | none => rw [e] at hi; cases hi
  | some j =>
    show ∃ k, _ ∧ _ ∧ _ ∧ ownD s k = List.foldl (uf s i) (own s i j) _
    obtain ⟨h1, h2, h3⟩ := fold_max s i (List.range s.tasks.length) (own s i j)
    rcases h3 with h3 | ⟨k, hk, hj, hb, h4⟩
    · exact ⟨i, hl, by rw [e]; rfl, .inl rfl, by rw [h3]; unfold ownD; rw [e]⟩
    · exact ⟨k, List.mem_range.mp hk, hj, .inr hb, h4⟩

/-! ### the chosen one -/
/-- what the chosen one is -/
def IsCh (s : St) (n : Nat) : Option Nat → Prop
  | none => ∀ i, i < n → able s i = false
  | some i => i < n ∧ able s i = true ∧ ∀ k, k < n → able s k = true → urg s k < urg s i ∨ (urg s k = urg s i ∧ i ≤ k)

theorem isCh_uniq {s : St} {n : Nat} {a b : Option Nat} (ha : IsCh s n a) (hb : IsCh s n b) : a = b := by
  cases a with
  | none =>
    cases b with
    | none => rfl
    | some i => have := ha i hb.1; rw [hb.2.1] at this; cases this
  | some i =>
    cases b with
    | none => have := hb i ha.1; rw [ha.2.1] at this; cases this
    | some j =>
      have h1 := ha.2.2 j hb.1 hb.2.1
      have h2 := hb.2.2 i ha.1 ha.2.1
      have : i = j := by lia
      rw [this]

/-- one turn of the fold in chosen -/
def cf (s : St) (b : Option Nat) (i : Nat) : Option Nat := if able s i = false then b else match b with
  | none => some i
  | some k => if (urgency s k).getD 0 < (urgency s i).getD 0 then some i else b
theorem chosen_eq (s : St) : chosen s = (List.range s.tasks.length).foldl (cf s) none := rfl
theorem cf_no {s : St} {b : Option Nat} {i : Nat} (h : able s i = false) : cf s b i = b := if_pos h
theorem cf_none {s : St} {i : Nat} (h : able s i = true) : cf s none i = some i := if_neg (by rw [h]; decide)
theorem cf_some {s : St} {i k : Nat} (h : able s i = true) : cf s (some k) i = if urg s k < urg s i then some i else some k := if_neg (by rw [h]; decide)

theorem chosen_fold (s : St) : ∀ n, IsCh s n ((List.range n).foldl (cf s) none)
  | 0 => fun i h => by lia
  | n + 1 => by
    rw [List.range_succ, List.foldl_append, List.foldl_cons, List.foldl_nil]
    have ih := chosen_fold s n
    generalize (List.range n).foldl (cf s) none = b at ih
    cases ha : able s n with
    | false =>
      rw [cf_no ha]
      cases b with
      | none =>
        intro i hi
        by_cases e : i = n
        · rw [e]; exact ha
        · exact ih i (by lia)
      | some i =>
        refine ⟨by have := ih.1; lia, ih.2.1, fun k hk ak => ?_⟩
        by_cases e : k = n
        · rw [e, ha] at ak; cases ak
        · exact ih.2.2 k (by lia) ak
    | true =>
      cases b with
      | none =>
        rw [cf_none ha]
        refine ⟨by lia, ha, fun k hk ak => ?_⟩
        by_cases e : k = n
        · right; rw [e]; exact ⟨rfl, Nat.le_refl _⟩
        · have := ih k (by lia); rw [ak] at this; cases this
      | some i =>
        rw [cf_some ha]
        have ih1 := ih.1
        by_cases h : urg s i < urg s n
        · rw [if_pos h]
          refine ⟨by lia, ha, fun k hk ak => ?_⟩
          by_cases e : k = n
          · right; rw [e]; exact ⟨rfl, Nat.le_refl _⟩
          · have := ih.2.2 k (by lia) ak
            lia
        · rw [if_neg h]
          refine ⟨by lia, ih.2.1, fun k hk ak => ?_⟩
          by_cases e : k = n
          · rw [e]; lia
          · exact ih.2.2 k (by lia) ak

theorem chosen_is (s : St) : IsCh s s.tasks.length (chosen s) := chosen_fold s _

/-! ### the same, by walking over the jobs once -/
/-- one turn: (the one, its urgency) so far; k's own urgency, whom it lends it to -/
def pick (own : Nat → Int) (root : Nat → Option Nat) (b : Option Nat × Int) (k : Nat) : Option Nat × Int :=
  match b.1 with
  | none => match root k with
    | none => b
    | some a => (some a, own k)
  | some c => if own k < b.2 then b else match root k with
    | none => b
    | some a => if b.2 < own k ∨ a < c then (some a, own k) else b

def Best (own : Nat → Int) (root : Nat → Option Nat) (l : List Nat) (b : Option Nat × Int) : Prop :=
  match b.1 with
  | none => ∀ k, k ∈ l → root k = none
  | some c => (∃ k, k ∈ l ∧ root k = some c ∧ own k = b.2) ∧ ∀ k, k ∈ l → ∀ a, root k = some a → own k < b.2 ∨ (own k = b.2 ∧ c ≤ a)

theorem pick_best {own : Nat → Int} {root : Nat → Option Nat} {l : List Nat} {b : Option Nat × Int} {k : Nat} (h : Best own root l b) : Best own root (l ++ [k]) (pick own root b k) := by
  obtain ⟨b1, u⟩ := b
  unfold pick
  cases b1 with
  | none =>
    have h : ∀ k, k ∈ l → root k = none := h
    dsimp only
    cases e : root k with
    | none =>
      intro x hx
      rcases List.mem_append.mp hx with hx | hx
      · exact h x hx
      · rw [List.mem_singleton.mp hx]; exact e
    | some a =>
      refine ⟨⟨k, List.mem_append_right _ (List.mem_singleton.mpr rfl), e, rfl⟩, fun x hx y ey => ?_⟩
      rcases List.mem_append.mp hx with hx | hx
      · rw [h x hx] at ey; cases ey
      · rw [List.mem_singleton.mp hx, e] at ey
        cases ey
        rw [List.mem_singleton.mp hx]
        exact .inr ⟨rfl, Nat.le_refl _⟩
  | some c =>
    obtain ⟨⟨k0, hk0, r0, o0⟩, h2⟩ := h
    have o0 : own k0 = u := o0
    have h2 : ∀ k, k ∈ l → ∀ a, root k = some a → own k < u ∨ (own k = u ∧ c ≤ a) := h2
    dsimp only
    have stay : (∀ a, root k = some a → own k < u ∨ (own k = u ∧ c ≤ a)) → Best own root (l ++ [k]) (some c, u) := fun hk => by
      refine ⟨⟨k0, List.mem_append_left _ hk0, r0, o0⟩, fun x hx y ey => ?_⟩
      rcases List.mem_append.mp hx with hx | hx
      · exact h2 x hx y ey
      · rw [List.mem_singleton.mp hx] at ey ⊢; exact hk y ey
    by_cases hlt : own k < u
    · rw [if_pos hlt]
      exact stay fun a _ => .inl hlt
    · rw [if_neg hlt]
      cases e : root k with
      | none => exact stay fun a ea => by rw [e] at ea; cases ea
      | some a =>
        dsimp only
        by_cases h3 : u < own k ∨ a < c
        · rw [if_pos h3]
          refine ⟨⟨k, List.mem_append_right _ (List.mem_singleton.mpr rfl), e, rfl⟩, fun x hx y ey => ?_⟩
          show own x < own k ∨ (own x = own k ∧ a ≤ y)
          rcases List.mem_append.mp hx with hx | hx
          · have := h2 x hx y ey
            lia
          · rw [List.mem_singleton.mp hx] at ey ⊢
            rw [e] at ey
            cases ey
            exact .inr ⟨rfl, Nat.le_refl _⟩
        · rw [if_neg h3]
          exact stay fun y ey => by rw [e] at ey; cases ey; lia

theorem picks_best {own : Nat → Int} {root : Nat → Option Nat} : ∀ (l l0 : List Nat) (b : Option Nat × Int), Best own root l0 b → Best own root (l0 ++ l) (l.foldl (pick own root) b)
  | [], l0, b, h => by rw [List.append_nil]; exact h
  | k :: r, l0, b, h => by
    have := picks_best r (l0 ++ [k]) _ (pick_best (k := k) h)
    rw [List.append_assoc] at this
    exact this

theorem tasks_list {s : St} (hl : s.jobs.length = s.tasks.length) {k : Nat} (hk : (s.job k).isSome = true) : k < s.tasks.length := by
  unfold St.job at hk
  by_cases h : k < s.jobs.length
  · lia
  · rw [List.getElem?_eq_none (by lia)] at hk
    cases hk

/-- k lends to i, who is able: i stands at the end of k's way -/
theorem lends_root {s : St} (hl : s.jobs.length = s.tasks.length) (h32 : s.tasks.length ≤ TASKS) {k i : Nat} (hk : (s.job k).isSome = true) (ai : able s i = true) {N : Nat} (hN : ∀ m, walk s m k = some i → m ≤ N) :
    lends s k i ↔ rootN s N k = some i := by
  rw [rootN_iff]
  unfold lends
  rw [behind_iff]
  constructor
  · rintro (rfl | ⟨m, _, hw⟩)
    · exact ⟨ai, 0, Nat.zero_le _, rfl⟩
    · exact ⟨ai, m + 1, hN _ hw, hw⟩
  · rintro ⟨_, m, _, hw⟩
    cases m with
    | zero => cases hw; exact .inl rfl
    | succ m =>
      have hs := walk_short (ks := List.range s.tasks.length) (fun x hx => List.mem_range.mpr (tasks_list hl hx)) hk ai hw
      rw [List.length_range] at hs
      exact .inr ⟨m, by lia, hw⟩

/-- **who is chosen**, by one walk over the jobs ks in any order -/
theorem chosen_picks {s : St} (hl : s.jobs.length = s.tasks.length) (h32 : s.tasks.length ≤ TASKS) {ks : List Nat} (h1 : ∀ k, k ∈ ks ↔ (s.job k).isSome = true) {N : Nat} (hN : ks.length ≤ N + 1) (u0 : Int) :
    (ks.foldl (pick (ownD s) (rootN s N)) (none, u0)).1 = chosen s := by
  refine isCh_uniq ?_ (chosen_is s)
  have hb := picks_best (own := ownD s) (root := rootN s N) ks [] (none, u0) (fun k h => by cases h)
  rw [List.nil_append] at hb
  generalize ks.foldl (pick (ownD s) (rootN s N)) (none, u0) = b at hb
  obtain ⟨b1, u⟩ := b
  have lend : ∀ {k i}, (s.job k).isSome = true → able s i = true → (lends s k i ↔ rootN s N k = some i) := fun {k i} hk ai =>
    lends_root hl h32 hk ai fun m hw => by
      have := walk_short (ks := ks) (fun x hx => (h1 x).mpr hx) hk ai hw
      lia
  have jobOf : ∀ {i}, able s i = true → (s.job i).isSome = true := fun {i} ai => ((able_iff s i).mp ai).1
  cases b1 with
  | none =>
    intro i hi
    cases ha : able s i with
    | false => rfl
    | true =>
      have hj := jobOf ha
      have := hb i ((h1 i).mpr hj)
      rw [(lend hj ha).mp (.inl rfl)] at this
      cases this
  | some c =>
    obtain ⟨⟨k0, hk0, r0, o0⟩, h2⟩ := hb
    have o0 : ownD s k0 = u := o0
    have h2 : ∀ k, k ∈ ks → ∀ a, rootN s N k = some a → ownD s k < u ∨ (ownD s k = u ∧ c ≤ a) := h2
    have ac : able s c = true := ((rootN_iff s N k0 c).mp r0).1
    have jc := jobOf ac
    have lc := tasks_list hl jc
    have j0 := (h1 k0).mp hk0
    have uc : urg s c = u := by
      have g1 := urg_ge jc (tasks_list hl j0) j0 ((lend j0 ac).mpr r0)
      obtain ⟨k, hk, jk, lk, ek⟩ := urg_at jc lc
      have := h2 k ((h1 k).mpr jk) c ((lend jk ac).mp lk)
      lia
    refine ⟨lc, ac, fun i hi ai => ?_⟩
    obtain ⟨k, hk, jk, lk, ek⟩ := urg_at (jobOf ai) hi
    have := h2 k ((h1 k).mpr jk) i ((lend jk ai).mp lk)
    lia
end SM
namespace SM
open Sz17

/-! ### jobs, one changed -/
theorem job_setJob {s : St} {i : Nat} {o : Option Job} (hi : i < s.jobs.length) (k : Nat) : (s.setJob i o).job k = if k = i then o else s.job k := by
  unfold St.setJob St.job
  show ((s.jobs.set i o)[k]?).join = _
  by_cases h : k = i
  · subst h
    rw [if_pos rfl, List.getElem?_set_self hi]
    rfl
  · rw [if_neg h, List.getElem?_set_ne (fun e => h e.symm)]
theorem job_setJob_same {s : St} {i : Nat} {o : Option Job} (hi : i < s.jobs.length) : (s.setJob i o).job i = o := by rw [job_setJob hi, if_pos rfl]
theorem job_setJob_ne {s : St} {i k : Nat} {o : Option Job} (hi : i < s.jobs.length) (h : k ≠ i) : (s.setJob i o).job k = s.job k := by rw [job_setJob hi, if_neg h]
theorem job_see (s : St) (i : Nat) (f : Seen → Seen) (k : Nat) : (s.see i f).job k = s.job k := rfl
theorem tasks_setJob (s : St) (i : Nat) (o : Option Job) : (s.setJob i o).tasks = s.tasks := rfl
theorem tasks_see (s : St) (i : Nat) (f : Seen → Seen) : (s.see i f).tasks = s.tasks := rfl
theorem task_setJob (s : St) (i : Nat) (o : Option Job) (k : Nat) : (s.setJob i o).task k = s.task k := rfl
theorem task_see (s : St) (i : Nat) (f : Seen → Seen) (k : Nat) : (s.see i f).task k = s.task k := rfl
theorem jlen_setJob (s : St) (i : Nat) (o : Option Job) : (s.setJob i o).jobs.length = s.jobs.length := List.length_set
theorem slen_see (s : St) (i : Nat) (f : Seen → Seen) : (s.see i f).seen.length = s.seen.length := List.length_mapIdx
theorem job_lt {s : St} {i : Nat} {j : Job} (h : s.job i = some j) : i < s.jobs.length := by
  unfold St.job at h
  by_cases hi : i < s.jobs.length
  · exact hi
  · rw [List.getElem?_eq_none (by lia)] at h
    cases h

/-! ### states that there are -/
structure JOk (s : St) (i : Nat) (j : Job) : Prop where
  ne : j.left ≠ []
  rt : right j.has j.left = true
  wt : ∀ l, j.waits = some l → ∃ r, j.left = .take l :: r
  len : j.left.length ≤ 64
  cm : j.came ≤ s.now
  sf : ∃ p, (s.task i).steps.length = p + j.left.length
structure TOk (t : Doing) : Prop where
  rt : right [] t.steps = true
  ne : t.steps ≠ []
  len : t.steps.length ≤ 64
  f : t.first ≤ 1000000
  p : t.period ≤ 1000000
  d1 : 1 ≤ t.deadline
  d2 : t.deadline ≤ 1000000
  r : t.rank ≤ 255
structure Ok (s : St) : Prop where
  jl : s.jobs.length = s.tasks.length
  sl : s.seen.length = s.tasks.length
  t32 : s.tasks.length ≤ 32
  tk : ∀ t, t ∈ s.tasks → TOk t
  jb : ∀ i j, s.job i = some j → JOk s i j
  lk : ∀ i j k q l, s.job i = some j → s.job k = some q → l ∈ j.has → l ∈ q.has → i = k

theorem Ok.task_mem {s : St} (_ : Ok s) {i : Nat} (h : i < s.tasks.length) : s.task i ∈ s.tasks := by
  unfold St.task
  rw [List.getD_eq_getElem?_getD, List.getElem?_eq_getElem h]
  exact List.getElem_mem h
theorem Ok.tk_at {s : St} (o : Ok s) {i : Nat} (h : i < s.tasks.length) : TOk (s.task i) := o.tk _ (o.task_mem h)

/-- one job is another now (same task, no lock that another has) -/
theorem Ok.setJob {s : St} (o : Ok s) {i : Nat} (hi : i < s.tasks.length) {nj : Option Job} (h1 : ∀ j, nj = some j → JOk s i j) (h2 : ∀ j l k q, nj = some j → l ∈ j.has → s.job k = some q → l ∈ q.has → k = i) : Ok (s.setJob i nj) := by
  have hi' : i < s.jobs.length := by rw [o.jl]; exact hi
  refine ⟨(jlen_setJob s i nj).trans o.jl, o.sl, o.t32, o.tk, fun k j e => ?_, fun k j m q l e1 e2 l1 l2 => ?_⟩
  · rw [job_setJob hi'] at e
    by_cases h : k = i
    · subst h
      rw [if_pos rfl] at e
      obtain ⟨a, b, c, d, f, g⟩ := h1 j e
      exact ⟨a, b, c, d, f, g⟩
    · rw [if_neg h] at e
      obtain ⟨a, b, c, d, f, g⟩ := o.jb k j e
      exact ⟨a, b, c, d, f, g⟩
  · rw [job_setJob hi'] at e1 e2
    by_cases h : k = i
    · by_cases h' : m = i
      · rw [h, h']
      · rw [if_pos h] at e1
        rw [if_neg h'] at e2
        rw [h, h2 j l m q e1 l1 e2 l2]
    · rw [if_neg h] at e1
      by_cases h' : m = i
      · rw [if_pos h'] at e2
        rw [h', h2 q l k j e2 l2 e1 l1]
      · rw [if_neg h'] at e2
        exact o.lk k j m q l e1 e2 l1 l2
theorem Ok.see {s : St} (o : Ok s) (i : Nat) (f : Seen → Seen) : Ok (s.see i f) :=
  ⟨o.jl, (slen_see s i f).trans o.sl, o.t32, o.tk, fun k j e => let ⟨a, b, c, d, x, g⟩ := o.jb k j e; ⟨a, b, c, d, x, g⟩, o.lk⟩

/-! ### a job is done -/
/-- the state with job i gone, its end counted -/
def gone (s : St) (i : Nat) (t : Nat) (came : Nat) : St := (s.setJob i none).see i fun x => { x with done := x.done + 1, longest := max x.longest (t - came) }
theorem ended_end {s : St} {i t : Nat} {j : Job} (h : s.job i = some j) (e : j.left = []) : ended s i t = gone s i t j.came := by
  unfold ended
  rw [h]
  exact if_pos e
theorem ended_no {s : St} {i t : Nat} {j : Job} (h : s.job i = some j) (e : j.left ≠ []) : ended s i t = s := by
  unfold ended
  rw [h]
  exact if_neg e

theorem setJob_setJob (s : St) (i : Nat) (a b : Option Job) : (s.setJob i a).setJob i b = s.setJob i b := by
  show ({ s with jobs := (s.jobs.set i a).set i b } : St) = { s with jobs := s.jobs.set i b }
  rw [List.set_set]

/-! ### who has a lock -/
theorem holder_none {s : St} {l : Nat} (h : holder s l = none) {i : Nat} {j : Job} (hl : i < s.tasks.length) (e : s.job i = some j) : ¬ l ∈ j.has := by
  unfold holder at h
  have := List.find?_eq_none.mp h i (List.mem_range.mpr hl)
  rw [e] at this
  intro hm
  exact this (List.contains_iff_mem.mpr hm)
theorem holder_iff {s : St} (o : Ok s) {l i : Nat} : holder s l = some i ↔ ∃ j, s.job i = some j ∧ l ∈ j.has := by
  constructor
  · intro h
    exact (holder_some h).2
  · rintro ⟨j, hj, hl⟩
    have hi : i < s.tasks.length := by rw [← o.jl]; exact job_lt hj
    cases e : holder s l with
    | none => exact absurd hl (holder_none e hi hj)
    | some k =>
      obtain ⟨_, q, hq, hlq⟩ := holder_some e
      rw [o.lk k q i j l hq hj hlq hl]

/-! ### what the chosen one is -/
theorem chosen_lt {s : St} {i : Nat} (h : chosen s = some i) : i < s.tasks.length ∧ able s i = true := by
  have := chosen_is s
  rw [h] at this
  exact ⟨this.1, this.2.1⟩
theorem chosen_job {s : St} {i : Nat} (h : chosen s = some i) : ∃ j, s.job i = some j :=
  Option.isSome_iff_exists.mp ((able_iff s i).mp (chosen_lt h).2).1
/-- an able one that waits: nobody has the lock -/
theorem able_waits {s : St} {i l : Nat} {j : Job} (h : able s i = true) (e : s.job i = some j) (w : j.waits = some l) : holder s l = none := by
  have := ((able_iff s i).mp h).2
  unfold nxt at this
  rw [e] at this
  simpa [w] using this

/-! ### settle, step by step -/
theorem settle_none {s : St} {n : Nat} (h : chosen s = none) : settle (n + 1) s = (s, none) := by
  rw [settle, h]
theorem settle_work {s : St} {n i m : Nat} {j : Job} {r : List Step} (h : chosen s = some i) (e : s.job i = some j) (q : j.left = .work m :: r) : settle (n + 1) s = (s, some i) := by
  rw [settle, h]
  dsimp only
  rw [e]
  dsimp only
  rw [q]
theorem settle_wait {s : St} {n i l : Nat} {j : Job} {r : List Step} (h : chosen s = some i) (e : s.job i = some j) (q : j.left = .take l :: r) (hh : (holder s l).isSome = true) :
    settle (n + 1) s = settle n (s.setJob i (some { j with waits := some l })) := by
  rw [settle, h]
  dsimp only
  rw [e]
  dsimp only
  rw [q]
  dsimp only
  rw [if_pos hh]
theorem settle_take {s : St} {n i l : Nat} {j : Job} {r : List Step} (h : chosen s = some i) (e : s.job i = some j) (q : j.left = .take l :: r) (hh : holder s l = none) :
    settle (n + 1) s = settle n (s.setJob i (some { j with left := r, has := l :: j.has, waits := none })) := by
  rw [settle, h]
  dsimp only
  rw [e]
  dsimp only
  rw [q]
  dsimp only
  rw [if_neg (by rw [hh]; decide)]
theorem settle_give {s : St} {n i l : Nat} {j : Job} {r : List Step} (h : chosen s = some i) (e : s.job i = some j) (q : j.left = .give l :: r) :
    settle (n + 1) s = settle n (ended (s.setJob i (some { j with left := r, has := j.has.filter fun k => k != l })) i s.now) := by
  rw [settle, h]
  dsimp only
  rw [e]
  dsimp only
  rw [q]

/-! ### the steps keep the state good -/
theorem Ok.wait {s : St} (o : Ok s) {i l : Nat} {j : Job} {r : List Step} (e : s.job i = some j) (q : j.left = .take l :: r) : Ok (s.setJob i (some { j with waits := some l })) := by
  have hi : i < s.tasks.length := by rw [← o.jl]; exact job_lt e
  obtain ⟨a, b, c, d, f, g⟩ := o.jb i j e
  refine o.setJob hi (fun j' ej => ?_) (fun j' l' k q' ej hl hk hl' => ?_)
  · cases ej
    exact ⟨a, b, fun l' w => by cases w; exact ⟨r, q⟩, d, f, g⟩
  · cases ej
    exact o.lk k q' i j l' hk e hl' hl
theorem Ok.take {s : St} (o : Ok s) {i l : Nat} {j : Job} {r : List Step} (e : s.job i = some j) (q : j.left = .take l :: r) (hh : holder s l = none) : Ok (s.setJob i (some { j with left := r, has := l :: j.has, waits := none })) := by
  have hi : i < s.tasks.length := by rw [← o.jl]; exact job_lt e
  obtain ⟨a, b, c, d, f, ⟨p, g⟩⟩ := o.jb i j e
  rw [q, right, Bool.and_eq_true, Bool.and_eq_true] at b
  rw [q] at d g
  refine o.setJob hi (fun j' ej => ?_) (fun j' l' k q' ej hl hk hl' => ?_)
  · cases ej
    refine ⟨fun er => ?_, b.2.2, fun l' w => (by cases w), by rw [List.length_cons] at d; show r.length ≤ 64; lia, f, ⟨p + 1, by rw [g, List.length_cons]; show _ = p + 1 + r.length; lia⟩⟩
    have er : r = [] := er
    rw [er] at b
    have := b.2.2
    rw [right] at this
    simp at this
  · cases ej
    rcases List.mem_cons.mp hl with rfl | hl
    · have hk' : k < s.tasks.length := by rw [← o.jl]; exact job_lt hk
      exact absurd hl' (holder_none hh hk' hk)
    · exact o.lk k q' i j l' hk e hl' hl
theorem Ok.give {s : St} (o : Ok s) {i l t : Nat} {j : Job} {r : List Step} (e : s.job i = some j) (q : j.left = .give l :: r) : Ok (ended (s.setJob i (some { j with left := r, has := j.has.filter fun k => k != l })) i t) := by
  have hi : i < s.tasks.length := by rw [← o.jl]; exact job_lt e
  have hi' := job_lt e
  obtain ⟨a, b, c, d, f, ⟨p, g⟩⟩ := o.jb i j e
  rw [q, right, Bool.and_eq_true] at b
  rw [q] at d g
  have ej := job_setJob_same (s := s) (o := some { j with left := r, has := j.has.filter fun k => k != l }) hi'
  by_cases hr : r = []
  · rw [ended_end ej hr]
    unfold gone
    rw [setJob_setJob]
    exact (o.setJob hi (fun j' ej' => by cases ej') (fun j' l' k q' ej' => by cases ej')).see _ _
  · rw [ended_no ej hr]
    refine o.setJob hi (fun j' ej' => ?_) (fun j' l' k q' ej' hl hk hl' => ?_)
    · cases ej'
      refine ⟨hr, b.2, fun l' w => ?_, by rw [List.length_cons] at d; show r.length ≤ 64; lia, f, ⟨p + 1, by rw [g, List.length_cons]; show _ = p + 1 + r.length; lia⟩⟩
      have w : j.waits = some l' := w
      obtain ⟨r', hr'⟩ := c l' w
      rw [q] at hr'
      cases hr'
    · cases ej'
      exact o.lk k q' i j l' hk e hl' (List.mem_filter.mp hl).1

/-! ### the number of steps until somebody works -/
def wgt : Option Job → Nat
  | none => 0
  | some j => 2 * j.left.length - if j.waits.isSome = true then 1 else 0
def mu (s : St) : Nat := ((List.range s.tasks.length).map fun i => wgt (s.job i)).sum
theorem sum_change (f g : Nat → Nat) : ∀ (n i : Nat), i < n → (∀ k, k ≠ i → g k = f k) → ((List.range n).map g).sum + f i = ((List.range n).map f).sum + g i
  | 0, i, h, _ => by lia
  | n + 1, i, h, hk => by
    rw [List.range_succ, List.map_append, List.map_append, List.sum_append_nat, List.sum_append_nat]
    simp only [List.map_cons, List.map_nil, List.sum_cons, List.sum_nil, Nat.add_zero]
    by_cases e : i = n
    · subst e
      have : (List.range i).map g = (List.range i).map f := List.map_congr_left fun k hk' => hk k (by have := List.mem_range.mp hk'; lia)
      rw [this]
      lia
    · have := sum_change f g n i (by lia) hk
      rw [hk n (fun q => e q.symm)]
      lia
theorem mu_setJob {s : St} (o : Ok s) {i : Nat} (hi : i < s.tasks.length) (nj : Option Job) : mu (s.setJob i nj) + wgt (s.job i) = mu s + wgt nj := by
  have hi' : i < s.jobs.length := by rw [o.jl]; exact hi
  unfold mu
  rw [tasks_setJob]
  have := sum_change (fun k => wgt (s.job k)) (fun k => wgt ((s.setJob i nj).job k)) s.tasks.length i hi (fun k hk => by
    rw [job_setJob_ne hi' hk])
  rw [job_setJob_same hi'] at this
  exact this
theorem mu_see (s : St) (i : Nat) (f : Seen → Seen) : mu (s.see i f) = mu s := rfl
theorem sum_bound (f : Nat → Nat) (b : Nat) : ∀ (n : Nat), (∀ k, k < n → f k ≤ b) → ((List.range n).map f).sum ≤ n * b
  | 0, _ => by simp
  | n + 1, h => by
    rw [List.range_succ, List.map_append, List.sum_append_nat]
    simp only [List.map_cons, List.map_nil, List.sum_cons, List.sum_nil, Nat.add_zero]
    have h1 := sum_bound f b n fun k hk => h k (by lia)
    have h2 := h n (by lia)
    rw [Nat.succ_mul]
    lia
theorem mu_lt {s : St} (o : Ok s) : mu s < 8192 := by
  have h : mu s ≤ s.tasks.length * 128 := sum_bound _ 128 _ fun k hk => by
    cases e : s.job k with
    | none => exact Nat.zero_le _
    | some j =>
      have := (o.jb k j e).len
      have h2 : wgt (some j) ≤ 2 * j.left.length := Nat.sub_le _ _
      lia
  have := o.t32
  lia

theorem wgt_none {j : Job} (h : j.waits = none) : wgt (some j) = 2 * j.left.length := by
  show 2 * j.left.length - (if j.waits.isSome = true then 1 else 0) = _
  rw [h]
  rfl
theorem wgt_some {j : Job} {l : Nat} (h : j.waits = some l) : wgt (some j) = 2 * j.left.length - 1 := by
  show 2 * j.left.length - (if j.waits.isSome = true then 1 else 0) = _
  rw [h]
  rfl
theorem wgt_ge (j : Job) : 2 * j.left.length - 1 ≤ wgt (some j) := by
  cases h : j.waits with
  | none => rw [wgt_none h]; lia
  | some l => rw [wgt_some h]; exact Nat.le_refl _
theorem mu_wait {s : St} (o : Ok s) {i l : Nat} {j : Job} {r : List Step} (h : able s i = true) (e : s.job i = some j) (q : j.left = .take l :: r) (hh : (holder s l).isSome = true) : mu (s.setJob i (some { j with waits := some l })) < mu s := by
  have hi : i < s.tasks.length := by rw [← o.jl]; exact job_lt e
  have hm := mu_setJob o hi (some { j with waits := some l })
  have hw : j.waits = none := by
    cases w : j.waits with
    | none => rfl
    | some l' =>
      obtain ⟨r', hr'⟩ := (o.jb i j e).wt l' w
      rw [q] at hr'
      cases hr'
      rw [able_waits h e w] at hh
      cases hh
  have w1 : wgt (s.job i) = 2 * j.left.length := by rw [e]; exact wgt_none hw
  have w2 : wgt (some { j with waits := some l }) = 2 * j.left.length - 1 := wgt_some rfl
  have w3 : j.left.length = r.length + 1 := by rw [q]; rfl
  lia
theorem mu_take {s : St} (o : Ok s) {i l : Nat} {j : Job} {r : List Step} (e : s.job i = some j) (q : j.left = .take l :: r) : mu (s.setJob i (some { j with left := r, has := l :: j.has, waits := none })) < mu s := by
  have hi : i < s.tasks.length := by rw [← o.jl]; exact job_lt e
  have hm := mu_setJob o hi (some { j with left := r, has := l :: j.has, waits := none })
  have w1 : 2 * j.left.length - 1 ≤ wgt (s.job i) := by rw [e]; exact wgt_ge j
  have w2 : wgt (some { j with left := r, has := l :: j.has, waits := none }) = 2 * r.length := wgt_none rfl
  have w3 : j.left.length = r.length + 1 := by rw [q]; rfl
  lia
theorem mu_give {s : St} (o : Ok s) {i l t : Nat} {j : Job} {r : List Step} (e : s.job i = some j) (q : j.left = .give l :: r) : mu (ended (s.setJob i (some { j with left := r, has := j.has.filter fun k => k != l })) i t) < mu s := by
  have hi : i < s.tasks.length := by rw [← o.jl]; exact job_lt e
  have hi' := job_lt e
  have hw : j.waits = none := by
    cases w : j.waits with
    | none => rfl
    | some l' =>
      obtain ⟨r', hr'⟩ := (o.jb i j e).wt l' w
      rw [q] at hr'
      cases hr'
  have ej := job_setJob_same (s := s) (o := some { j with left := r, has := j.has.filter fun k => k != l }) hi'
  have w1 : wgt (s.job i) = 2 * j.left.length := by rw [e]; exact wgt_none hw
  have w3 : j.left.length = r.length + 1 := by rw [q]; rfl
  by_cases hr : r = []
  · rw [ended_end ej hr]
    unfold gone
    rw [setJob_setJob, mu_see]
    have hm := mu_setJob o hi none
    have w2 : wgt none = 0 := rfl
    lia
  · rw [ended_no ej hr]
    have hm := mu_setJob o hi (some { j with left := r, has := j.has.filter fun k => k != l })
    have w2 : wgt (some { j with left := r, has := j.has.filter fun k => k != l }) = 2 * r.length := wgt_none hw
    lia
end SM
namespace SM
open Sz17

/-! ### jobs come -/
/-- a job of task i comes at this tick -/
def due (s : St) (i : Nat) : Prop := (s.task i).first ≤ s.now ∧ (((s.task i).period = 0 ∧ s.now = (s.task i).first) ∨ ((s.task i).period ≠ 0 ∧ (s.now - (s.task i).first) % (s.task i).period = 0))
instance (s : St) (i : Nat) : Decidable (due s i) := by unfold due; exact inferInstance
def newJob (s : St) (i : Nat) : Job := ⟨s.now, (s.task i).steps, [], none, false⟩
theorem comes_no {s : St} {i : Nat} (h : ¬ due s i) : comes s i = s := if_neg h
theorem comes_skip {s : St} {i : Nat} {j : Job} (h : due s i) (e : s.job i = some j) : comes s i = s.see i fun x => { x with skipped := x.skipped + 1 } := by
  unfold comes
  rw [e]
  exact if_pos h
theorem comes_new {s : St} {i : Nat} (h : due s i) (e : s.job i = none) : comes s i = s.setJob i (some (newJob s i)) := by
  unfold comes
  rw [e]
  exact if_pos h
theorem Ok.comes {s : St} (o : Ok s) {i : Nat} (hi : i < s.tasks.length) : Ok (comes s i) := by
  by_cases h : due s i
  · cases e : s.job i with
    | some j => rw [comes_skip h e]; exact o.see _ _
    | none =>
      rw [comes_new h e]
      have t := o.tk_at hi
      refine o.setJob hi (fun j ej => ?_) (fun j l k q ej hl => ?_)
      · cases ej
        exact ⟨t.ne, t.rt, fun l w => (by cases w), t.len, Nat.le_refl _, ⟨0, (Nat.zero_add _).symm⟩⟩
      · cases ej
        cases hl
  · rw [comes_no h]; exact o
theorem comes_now (s : St) (i : Nat) : (comes s i).now = s.now := by
  by_cases h : due s i
  · cases e : s.job i with
    | some j => rw [comes_skip h e]; rfl
    | none => rw [comes_new h e]; rfl
  · rw [comes_no h]
theorem comes_tasks (s : St) (i : Nat) : (comes s i).tasks = s.tasks := by
  by_cases h : due s i
  · cases e : s.job i with
    | some j => rw [comes_skip h e]; rfl
    | none => rw [comes_new h e]; rfl
  · rw [comes_no h]
theorem comes_byd (s : St) (i : Nat) : (comes s i).byDeadline = s.byDeadline := by
  by_cases h : due s i
  · cases e : s.job i with
    | some j => rw [comes_skip h e]; rfl
    | none => rw [comes_new h e]; rfl
  · rw [comes_no h]

/-! ### late -/
def isLate (s : St) (i : Nat) (j : Job) : Prop := j.late = false ∧ j.came + (s.task i).deadline ≤ s.now
instance (s : St) (i : Nat) (j : Job) : Decidable (isLate s i j) := by unfold isLate; exact inferInstance
theorem late_none {s : St} {i : Nat} (e : s.job i = none) : late s i = s := by
  unfold late
  rw [e]
theorem late_no {s : St} {i : Nat} {j : Job} (e : s.job i = some j) (h : ¬ isLate s i j) : late s i = s := by
  unfold late
  rw [e]
  exact if_neg h
theorem late_yes {s : St} {i : Nat} {j : Job} (e : s.job i = some j) (h : isLate s i j) : late s i = (s.setJob i (some { j with late := true })).see i fun x => { x with missed := x.missed + 1 } := by
  unfold late
  rw [e]
  exact if_pos h
theorem Ok.late {s : St} (o : Ok s) (i : Nat) : Ok (late s i) := by
  cases e : s.job i with
  | none => rw [late_none e]; exact o
  | some j =>
    by_cases h : isLate s i j
    · rw [late_yes e h]
      have hi : i < s.tasks.length := by rw [← o.jl]; exact job_lt e
      refine (o.setJob hi (fun j' ej => ?_) (fun j' l k q ej hl hk hl' => ?_)).see _ _
      · cases ej
        obtain ⟨a, b, c, d, x, y⟩ := o.jb i j e
        exact ⟨a, b, c, d, x, y⟩
      · cases ej
        exact o.lk k q i j l hk e hl' hl
    · rw [late_no e h]; exact o

/-! ### what the choice hangs on -/
def core (s : St) (i : Nat) : Option (Nat × List Nat × Option Nat) := (s.job i).map fun j => (j.came, j.has, j.waits)
structure Alike (s t : St) : Prop where
  tk : s.tasks = t.tasks
  bd : s.byDeadline = t.byDeadline
  co : ∀ i, core s i = core t i
theorem Alike.refl (s : St) : Alike s s := ⟨rfl, rfl, fun _ => rfl⟩
theorem Alike.symm {s t : St} (h : Alike s t) : Alike t s := ⟨h.tk.symm, h.bd.symm, fun i => (h.co i).symm⟩
theorem Alike.trans {s t u : St} (h : Alike s t) (g : Alike t u) : Alike s u := ⟨h.tk.trans g.tk, h.bd.trans g.bd, fun i => (h.co i).trans (g.co i)⟩
theorem Alike.job {s t : St} (h : Alike s t) (i : Nat) : (s.job i = none ∧ t.job i = none) ∨ ∃ j q, s.job i = some j ∧ t.job i = some q ∧ j.came = q.came ∧ j.has = q.has ∧ j.waits = q.waits := by
  have := h.co i
  unfold core at this
  cases e : s.job i with
  | none =>
    cases e' : t.job i with
    | none => exact .inl ⟨rfl, rfl⟩
    | some q => rw [e, e'] at this; cases this
  | some j =>
    cases e' : t.job i with
    | none => rw [e, e'] at this; cases this
    | some q =>
      rw [e, e'] at this
      have := Option.some.inj this
      exact .inr ⟨j, q, rfl, rfl, congrArg Prod.fst this, congrArg (fun x => x.2.1) this, congrArg (fun x => x.2.2) this⟩
theorem Alike.holder {s t : St} (h : Alike s t) (l : Nat) : holder s l = holder t l := by
  unfold Sz17.holder
  rw [h.tk]
  congr 1
  funext i
  rcases h.job i with ⟨e1, e2⟩ | ⟨j, q, e1, e2, _, e3, _⟩
  · rw [e1, e2]
  · rw [e1, e2]
    show j.has.contains l = q.has.contains l
    rw [e3]
theorem Alike.nxt {s t : St} (h : Alike s t) (k : Nat) : nxt s k = nxt t k := by
  unfold SM.nxt
  rcases h.job k with ⟨e1, e2⟩ | ⟨j, q, e1, e2, _, _, e3⟩
  · rw [e1, e2]
    rfl
  · rw [e1, e2]
    show (j.waits.bind fun l => Sz17.holder s l) = (q.waits.bind fun l => Sz17.holder t l)
    rw [e3]
    congr 1
    funext l
    exact h.holder l
theorem Alike.behind {s t : St} (h : Alike s t) : ∀ (n k i : Nat), behind s n k i = behind t n k i
  | 0, _, _ => rfl
  | n + 1, k, i => by
    rw [behind_succ, behind_succ, h.nxt k]
    cases SM.nxt t k with
    | none => rfl
    | some x => show (x == i || Sz17.behind s n x i) = _; rw [h.behind n x i]
theorem Alike.able {s t : St} (h : Alike s t) (i : Nat) : able s i = able t i := by
  have e : Sz17.able s i = true ↔ Sz17.able t i = true := by
    rw [able_iff, able_iff, h.nxt i]
    rcases h.job i with ⟨e1, e2⟩ | ⟨j, q, e1, e2, _⟩
    · rw [e1, e2]
    · rw [e1, e2]; exact Iff.rfl
  cases h1 : Sz17.able s i with
  | true => exact (e.mp h1).symm
  | false =>
    cases h2 : Sz17.able t i with
    | false => rfl
    | true => rw [e.mpr h2] at h1; cases h1
theorem Alike.own {s t : St} (h : Alike s t) (i : Nat) {j q : Job} (e : j.came = q.came) : own s i j = own t i q := by
  unfold Sz17.own St.task
  rw [h.bd, h.tk, e]
theorem Alike.urgency {s t : St} (h : Alike s t) (i : Nat) : urgency s i = urgency t i := by
  rw [urgency_eq, urgency_eq, h.tk]
  have hf : uf s i = uf t i := by
    funext u k
    unfold uf
    rcases h.job k with ⟨e1, e2⟩ | ⟨j, q, e1, e2, e3, _⟩
    · rw [e1, e2]
    · rw [e1, e2]
      show (if Sz17.behind s TASKS k i = true then _ else _) = (if Sz17.behind t TASKS k i = true then _ else _)
      rw [h.behind, h.own k e3]
  rw [hf]
  rcases h.job i with ⟨e1, e2⟩ | ⟨j, q, e1, e2, e3, _⟩
  · rw [e1, e2]; rfl
  · rw [e1, e2]
    show some (List.foldl (uf t i) (Sz17.own s i j) _) = some (List.foldl (uf t i) (Sz17.own t i q) _)
    rw [h.own i e3]
theorem Alike.chosen {s t : St} (h : Alike s t) : chosen s = chosen t := by
  rw [chosen_eq, chosen_eq, h.tk]
  have hf : cf s = cf t := by
    funext b i
    unfold cf
    rw [h.able i, h.urgency i]
    cases b with
    | none => rfl
    | some k =>
      show (if Sz17.able t i = false then some k else if (Sz17.urgency s k).getD 0 < (Sz17.urgency t i).getD 0 then some i else some k) = _
      rw [h.urgency k]
  rw [hf]

theorem Alike.see (s : St) (i : Nat) (f : Seen → Seen) : Alike (s.see i f) s := ⟨rfl, rfl, fun _ => rfl⟩
theorem Alike.setJob {s : St} {i : Nat} {j q : Job} (e : s.job i = some j) (h1 : q.came = j.came) (h2 : q.has = j.has) (h3 : q.waits = j.waits) : Alike (s.setJob i (some q)) s := by
  refine ⟨rfl, rfl, fun k => ?_⟩
  unfold core
  rw [job_setJob (job_lt e)]
  by_cases h : k = i
  · subst h
    rw [if_pos rfl, e]
    show some (q.came, q.has, q.waits) = some (j.came, j.has, j.waits)
    rw [h1, h2, h3]
  · rw [if_neg h]
theorem Alike.now (s : St) (n : Nat) : Alike { s with now := n } s := ⟨rfl, rfl, fun _ => rfl⟩
theorem Alike.late (s : St) (i : Nat) : Alike (late s i) s := by
  cases e : s.job i with
  | none => rw [late_none e]; exact Alike.refl s
  | some j =>
    by_cases h : isLate s i j
    · rw [late_yes e h]
      exact (Alike.see _ _ _).trans (Alike.setJob e rfl rfl rfl)
    · rw [late_no e h]; exact Alike.refl s
theorem Alike.lates : ∀ (l : List Nat) (s : St), Alike (l.foldl Sz17.late s) s
  | [], s => Alike.refl s
  | a :: r, s => (Alike.lates r (Sz17.late s a)).trans (Alike.late s a)
theorem Ok.lates : ∀ (l : List Nat) {s : St}, Ok s → Ok (l.foldl Sz17.late s)
  | [], _, o => o
  | a :: r, _, o => Ok.lates r (o.late a)
theorem late_now (s : St) (i : Nat) : (late s i).now = s.now := by
  cases e : s.job i with
  | none => rw [late_none e]
  | some j =>
    by_cases h : isLate s i j
    · rw [late_yes e h]; rfl
    · rw [late_no e h]
theorem lates_now : ∀ (l : List Nat) (s : St), (l.foldl late s).now = s.now
  | [], _ => rfl
  | a :: r, s => (lates_now r (late s a)).trans (late_now s a)
theorem late_left (s : St) (i k : Nat) : ((late s i).job k).map (·.left) = (s.job k).map (·.left) := by
  cases e : s.job i with
  | none => rw [late_none e]
  | some j =>
    by_cases h : isLate s i j
    · rw [late_yes e h, job_see, job_setJob (job_lt e)]
      by_cases hk : k = i
      · subst hk
        rw [if_pos rfl, e]
        rfl
      · rw [if_neg hk]
    · rw [late_no e h]
theorem lates_left : ∀ (l : List Nat) (s : St) (k : Nat), ((l.foldl late s).job k).map (·.left) = (s.job k).map (·.left)
  | [], _, _ => rfl
  | a :: r, s, k => (lates_left r (late s a) k).trans (late_left s a k)

/-! ### a tick in which nothing comes -/
def front (s : St) : St := (List.range s.tasks.length).foldl late ((List.range s.tasks.length).foldl comes s)
theorem comes_quiet : ∀ (l : List Nat) (s : St), (∀ i, i ∈ l → ¬ due s i) → l.foldl comes s = s
  | [], _, _ => rfl
  | a :: r, s, h => by
    rw [List.foldl_cons, comes_no (h a List.mem_cons_self)]
    exact comes_quiet r s fun i hi => h i (List.mem_cons_of_mem _ hi)
theorem front_quiet {s : St} (h : ∀ i, i < s.tasks.length → ¬ due s i) : front s = (List.range s.tasks.length).foldl late s := by
  unfold front
  rw [comes_quiet _ s fun i hi => h i (List.mem_range.mp hi)]
theorem tick_eq (s : St) : tick s = match (settle 8192 (front s)).2 with
    | some i => ({ worked (settle 8192 (front s)).1 i with now := s.now + 1 }, i)
    | none => ({ (settle 8192 (front s)).1 with now := s.now + 1 }, 255) := rfl
theorem tick_some {s t : St} {i : Nat} (h : settle 8192 (front s) = (t, some i)) : tick s = ({ worked t i with now := s.now + 1 }, i) := by
  rw [tick_eq, h]
theorem tick_none {s t : St} (h : settle 8192 (front s) = (t, none)) : tick s = ({ t with now := s.now + 1 }, 255) := by
  rw [tick_eq, h]
/-- nobody is able, nothing comes -/
theorem tick_idle {s : St} (h : ∀ i, i < s.tasks.length → ¬ due s i) (hc : chosen s = none) : tick s = ({ (List.range s.tasks.length).foldl late s with now := s.now + 1 }, 255) := by
  refine tick_none ?_
  rw [front_quiet h]
  exact settle_none ((Alike.lates _ s).chosen.trans hc)
/-- the same one works on, nothing comes -/
theorem tick_on {s : St} {i n : Nat} {j : Job} {r : List Step} (h : ∀ i, i < s.tasks.length → ¬ due s i) (hc : chosen s = some i) (e : s.job i = some j) (q : j.left = .work n :: r) :
    tick s = ({ worked ((List.range s.tasks.length).foldl late s) i with now := s.now + 1 }, i) := by
  refine tick_some ?_
  rw [front_quiet h]
  have hl := lates_left (List.range s.tasks.length) s i
  rw [e] at hl
  cases e' : ((List.range s.tasks.length).foldl late s).job i with
  | none => rw [e'] at hl; cases hl
  | some j' =>
    rw [e'] at hl
    have hl : j'.left = j.left := Option.some.inj hl
    exact settle_work ((Alike.lates _ s).chosen.trans hc) e' (hl.trans q)

/-! ### a tick's work -/
theorem worked_on {s : St} {i n : Nat} {j : Job} {r : List Step} (e : s.job i = some j) (q : j.left = .work n :: r) (hn : 2 ≤ n) : worked s i = s.setJob i (some { j with left := .work (n - 1) :: r }) := by
  unfold worked
  rw [e]
  dsimp only
  rw [q]
  dsimp only
  rw [if_neg (by lia)]
  exact ended_no (job_setJob_same (job_lt e)) (by intro h; cases h)
theorem worked_next {s : St} {i n : Nat} {j : Job} {r : List Step} (e : s.job i = some j) (q : j.left = .work n :: r) (hn : n ≤ 1) (hr : r ≠ []) : worked s i = s.setJob i (some { j with left := r }) := by
  unfold worked
  rw [e]
  dsimp only
  rw [q]
  dsimp only
  rw [if_pos hn]
  exact ended_no (job_setJob_same (job_lt e)) hr
theorem worked_done {s : St} {i n : Nat} {j : Job} (e : s.job i = some j) (q : j.left = [.work n]) (hn : n ≤ 1) : worked s i = gone s i (s.now + 1) j.came := by
  unfold worked
  rw [e]
  dsimp only
  rw [q]
  dsimp only
  rw [if_pos hn, ended_end (job_setJob_same (job_lt e)) rfl]
  unfold gone
  rw [setJob_setJob]
theorem Ok.worked {s : St} (o : Ok s) {i n : Nat} {j : Job} {r : List Step} (e : s.job i = some j) (q : j.left = .work n :: r) : Ok (worked s i) := by
  have hi : i < s.tasks.length := by rw [← o.jl]; exact job_lt e
  obtain ⟨a, b, c, d, f, ⟨p, g⟩⟩ := o.jb i j e
  rw [q, right, Bool.and_eq_true, Bool.and_eq_true, decide_eq_true_eq, decide_eq_true_eq] at b
  have hw : j.waits = none := by
    cases w : j.waits with
    | none => rfl
    | some l' =>
      obtain ⟨r', hr'⟩ := c l' w
      rw [q] at hr'
      cases hr'
  rw [q, List.length_cons] at d g
  by_cases hn : n ≤ 1
  · by_cases hr : r = []
    · subst hr
      rw [worked_done e q hn]
      exact (o.setJob hi (fun j' ej => by cases ej) (fun j' l k q' ej => by cases ej)).see _ _
    · rw [worked_next e q hn hr]
      refine o.setJob hi (fun j' ej => ?_) (fun j' l k q' ej hl hk hl' => ?_)
      · cases ej
        refine ⟨hr, b.2.2, fun l w => ?_, by show r.length ≤ 64; lia, f, ⟨p + 1, by rw [g]; show _ = p + 1 + r.length; lia⟩⟩
        have w : j.waits = some l := w
        rw [hw] at w
        cases w
      · cases ej
        exact o.lk k q' i j l hk e hl' hl
  · rw [worked_on e q (by lia)]
    refine o.setJob hi (fun j' ej => ?_) (fun j' l k q' ej hl hk hl' => ?_)
    · cases ej
      refine ⟨List.cons_ne_nil _ _, ?_, fun l w => ?_, by show r.length + 1 ≤ 64; lia, f, ⟨p, by rw [g]; rfl⟩⟩
      · show right j.has (.work (n - 1) :: r) = true
        rw [right, Bool.and_eq_true, Bool.and_eq_true, decide_eq_true_eq, decide_eq_true_eq]
        exact ⟨by lia, by lia, b.2.2⟩
      · have w : j.waits = some l := w
        rw [hw] at w
        cases w
    · cases ej
      exact o.lk k q' i j l hk e hl' hl
theorem Ok.later {s : St} (o : Ok s) {n : Nat} (h : s.now ≤ n) : Ok { s with now := n } :=
  ⟨o.jl, o.sl, o.t32, o.tk, fun i j e => let ⟨a, b, c, d, f, g⟩ := o.jb i j e; ⟨a, b, c, d, Nat.le_trans f h, g⟩, o.lk⟩

/-! ### ticks follow one another -/
theorem ticks_add : ∀ (m n : Nat) (s : St), ticks (m + n) s = ((ticks n (ticks m s).1).1, (ticks m s).2 ++ (ticks n (ticks m s).1).2)
  | 0, n, s => by rw [Nat.zero_add]; rfl
  | m + 1, n, s => by
    rw [Nat.succ_add]
    show ((ticks (m + n) (tick s).1).1, (tick s).2 :: (ticks (m + n) (tick s).1).2) = _
    rw [ticks_add m n (tick s).1]
    rfl
end SM
/-! The program's own looks at steps, as plain functions, and what they say of the document's steps. -/
namespace Mi
def isWork (z : Int) : Bool := decide (1 ≤ z ∧ z ≤ 10000)
def isTake (z : Int) : Bool := decide (20000 ≤ z ∧ z < 20016)
def isGive (z : Int) : Bool := decide (30000 ≤ z ∧ z < 30016)
def lockOf (z : Int) : Int := if isTake z = true then z - 20000 else z - 30000
/-- the locks, as the program looks at them -/
def locksR (had : List Int) : List Int → Bool
  | [] => had.isEmpty
  | x :: r => if isTake x = true then (if lockOf x ∈ had then false else locksR (had ++ [lockOf x]) r)
    else if isGive x = true then (if lockOf x ∈ had then locksR (had.erase (lockOf x)) r else false) else locksR had r
def stepsR (ns : List Int) : Bool := (ns.all fun x => isWork x || (isTake x || isGive x)) && (ns.any isWork && locksR [] ns)
/-- first, period, deadline, rank, steps -/
def taskR (f p d r : Int) (ns : List Int) : Bool := decide ((0 ≤ f ∧ f ≤ 1000000) ∧ (0 ≤ p ∧ p ≤ 1000000) ∧ (1 ≤ d ∧ d ≤ 1000000)) && (decide (0 ≤ r ∧ r ≤ 255) && (decide (1 ≤ ns.length ∧ ns.length ≤ 64) && stepsR ns))
end Mi
namespace SM
open Sz17 Mi
/-- the step that a number says -/
def stepZ (z : Int) : Option Step := stepOf z.toNat
def isW : Step → Bool
  | .work _ => true
  | _ => false
theorem work_of {z : Int} (h : isWork z = true) : stepZ z = some (.work z.toNat) := by
  unfold isWork at h
  rw [decide_eq_true_eq] at h
  unfold stepZ stepOf
  rw [if_pos (by lia)]
theorem take_of {z : Int} (h : isTake z = true) : stepZ z = some (.take (z.toNat - 20000)) := by
  unfold isTake at h
  rw [decide_eq_true_eq] at h
  unfold stepZ stepOf
  rw [if_neg (by lia), if_pos (by lia)]
theorem give_of {z : Int} (h : isGive z = true) : stepZ z = some (.give (z.toNat - 30000)) := by
  unfold isGive at h
  rw [decide_eq_true_eq] at h
  unfold stepZ stepOf
  rw [if_neg (by lia), if_neg (by lia), if_pos (by lia)]
theorem none_of {z : Int} (h1 : isWork z = false) (h2 : isTake z = false) (h3 : isGive z = false) : stepZ z = none := by
  unfold isWork at h1
  unfold isTake at h2
  unfold isGive at h3
  rw [decide_eq_false_iff_not] at h1 h2 h3
  unfold stepZ stepOf
  rw [if_neg (by lia), if_neg (by lia), if_neg (by lia)]
theorem lock_take {z : Int} (h : isTake z = true) : lockOf z = ((z.toNat - 20000 : Nat) : Int) ∧ z.toNat - 20000 < 16 := by
  unfold lockOf
  rw [if_pos h]
  unfold isTake at h
  rw [decide_eq_true_eq] at h
  lia
theorem lock_give {z : Int} (h : isGive z = true) : isTake z = false ∧ lockOf z = ((z.toNat - 30000 : Nat) : Int) ∧ z.toNat - 30000 < 16 := by
  unfold isGive at h
  rw [decide_eq_true_eq] at h
  have ht : isTake z = false := by unfold isTake; rw [decide_eq_false_iff_not]; lia
  unfold lockOf
  rw [ht, if_neg Bool.false_ne_true]
  exact ⟨rfl, by lia, by lia⟩
theorem work_no {z : Int} (h : isWork z = true) : isTake z = false ∧ isGive z = false := by
  unfold isWork at h
  rw [decide_eq_true_eq] at h
  unfold isTake isGive
  rw [decide_eq_false_iff_not, decide_eq_false_iff_not]
  lia
theorem take_no {z : Int} (h : isTake z = true) : isWork z = false ∧ isGive z = false := by
  unfold isTake at h
  rw [decide_eq_true_eq] at h
  unfold isWork isGive
  rw [decide_eq_false_iff_not, decide_eq_false_iff_not]
  lia
theorem give_no {z : Int} (h : isGive z = true) : isWork z = false ∧ isTake z = false := by
  unfold isGive at h
  rw [decide_eq_true_eq] at h
  unfold isWork isTake
  rw [decide_eq_false_iff_not, decide_eq_false_iff_not]
  lia

/-- steps that are such, each a work of 1 to 10000 ticks or a lock -/
inductive Reads : List Int → List Step → Prop
  | nil : Reads [] []
  | work {z r st} : isWork z = true → Reads r st → Reads (z :: r) (.work z.toNat :: st)
  | take {z r st} : isTake z = true → Reads r st → Reads (z :: r) (.take (z.toNat - 20000) :: st)
  | give {z r st} : isGive z = true → Reads r st → Reads (z :: r) (.give (z.toNat - 30000) :: st)

theorem mapM_cons' {α β : Type} (f : α → Option β) (a : α) (l : List α) : (a :: l).mapM f = (f a).bind fun b => (l.mapM f).map fun bs => b :: bs := by
  rw [List.mapM_cons]
  cases f a with
  | none => rfl
  | some b =>
    cases l.mapM f with
    | none => rfl
    | some bs => rfl
theorem reads_of : ∀ {ns : List Int} {st : List Step}, (ns.map Int.toNat).mapM stepOf = some st → Reads ns st
  | [], st, h => by
    have : some [] = some st := h
    cases this
    exact .nil
  | z :: r, st, h => by
    rw [List.map_cons, mapM_cons'] at h
    have hz : stepOf z.toNat = stepZ z := rfl
    rw [hz] at h
    cases hw : isWork z with
    | true =>
      rw [work_of hw] at h
      cases e : (r.map Int.toNat).mapM stepOf with
      | none => rw [e] at h; cases h
      | some s' => rw [e] at h; cases h; exact .work hw (reads_of e)
    | false =>
      cases ht : isTake z with
      | true =>
        rw [take_of ht] at h
        cases e : (r.map Int.toNat).mapM stepOf with
        | none => rw [e] at h; cases h
        | some s' => rw [e] at h; cases h; exact .take ht (reads_of e)
      | false =>
        cases hg : isGive z with
        | true =>
          rw [give_of hg] at h
          cases e : (r.map Int.toNat).mapM stepOf with
          | none => rw [e] at h; cases h
          | some s' => rw [e] at h; cases h; exact .give hg (reads_of e)
        | false => rw [none_of hw ht hg] at h; cases h
theorem reads_none : ∀ {ns : List Int}, (ns.map Int.toNat).mapM stepOf = none → (ns.all fun x => isWork x || (isTake x || isGive x)) = false
  | [], h => by cases h
  | z :: r, h => by
    rw [List.map_cons, mapM_cons'] at h
    have hz : stepOf z.toNat = stepZ z := rfl
    rw [hz] at h
    rw [List.all_cons]
    have tail : (stepZ z).isSome = true → (r.all fun x => isWork x || (isTake x || isGive x)) = false := fun hs => by
      obtain ⟨b, hb⟩ := Option.isSome_iff_exists.mp hs
      rw [hb] at h
      cases e : (r.map Int.toNat).mapM stepOf with
      | none => exact reads_none e
      | some s' => rw [e] at h; cases h
    cases hw : isWork z with
    | true => rw [tail (by rw [work_of hw]; rfl), Bool.and_false]
    | false =>
      cases ht : isTake z with
      | true => rw [tail (by rw [take_of ht]; rfl), Bool.and_false]
      | false =>
        cases hg : isGive z with
        | true => rw [tail (by rw [give_of hg]; rfl), Bool.and_false]
        | false => rfl

theorem reads_all {ns : List Int} {st : List Step} (h : Reads ns st) : (ns.all fun x => isWork x || (isTake x || isGive x)) = true ∧ ns.any isWork = st.any isW ∧ ns.length = st.length := by
  induction h with
  | nil => exact ⟨rfl, rfl, rfl⟩
  | work hz _ ih => exact ⟨by rw [List.all_cons, ih.1, hz]; rfl, by rw [List.any_cons, List.any_cons, hz]; rfl, by rw [List.length_cons, List.length_cons, ih.2.2]⟩
  | take hz _ ih => exact ⟨by rw [List.all_cons, ih.1, hz, (take_no hz).1]; rfl, by rw [List.any_cons, List.any_cons, (take_no hz).1, ih.2.1]; rfl, by rw [List.length_cons, List.length_cons, ih.2.2]⟩
  | give hz _ ih => exact ⟨by rw [List.all_cons, ih.1, hz, (give_no hz).1, (give_no hz).2]; rfl, by rw [List.any_cons, List.any_cons, (give_no hz).1, ih.2.1]; rfl, by rw [List.length_cons, List.length_cons, ih.2.2]⟩

structure Had (had : List Int) (has : List Nat) : Prop where
  nd : had.Nodup
  mem : ∀ z : Int, z ∈ had ↔ ∃ l, l ∈ has ∧ z = (l : Int)
theorem Had.at {had : List Int} {has : List Nat} (h : Had had has) (l : Nat) : (l : Int) ∈ had ↔ l ∈ has := by
  rw [h.mem]
  constructor
  · rintro ⟨k, hk, e⟩
    rw [Int.ofNat.inj e]
    exact hk
  · intro hl
    exact ⟨l, hl, rfl⟩
theorem Had.nil : Had [] [] := ⟨List.nodup_nil, fun z => ⟨fun q => (by cases q), fun ⟨l, hl, _⟩ => (by cases hl)⟩⟩
theorem locks_right : ∀ {ns : List Int} {st : List Step}, Reads ns st → ∀ {had : List Int} {has : List Nat}, Had had has → locksR had ns = right has st := by
  intro ns st h
  induction h with
  | nil =>
    intro had has hh
    rw [locksR, right]
    cases had with
    | nil =>
      cases has with
      | nil => rfl
      | cons l r => exact absurd ((hh.at l).mpr List.mem_cons_self) (by simp)
    | cons z r =>
      cases has with
      | nil =>
        obtain ⟨l, hl, _⟩ := (hh.mem z).mp List.mem_cons_self
        cases hl
      | cons l r' => rfl
  | @work z r st hz _ ih =>
    intro had has hh
    rw [locksR, right, (work_no hz).1, (work_no hz).2, if_neg Bool.false_ne_true, if_neg Bool.false_ne_true, ih hh]
    unfold isWork at hz
    rw [decide_eq_true_eq] at hz
    rw [decide_eq_true (show 1 ≤ z.toNat by lia), decide_eq_true (show z.toNat ≤ 10000 by lia)]
    rfl
  | @take z r st hz _ ih =>
    intro had has hh
    obtain ⟨e, hlt⟩ := lock_take hz
    rw [locksR, right, hz, if_pos rfl, e, decide_eq_true (show z.toNat - 20000 < LOCKS from hlt), Bool.true_and]
    by_cases hm : z.toNat - 20000 ∈ has
    · rw [if_pos ((hh.at _).mpr hm), List.contains_iff_mem.mpr hm]
      rfl
    · have hm' : ¬ ((z.toNat - 20000 : Nat) : Int) ∈ had := fun q => hm ((hh.at _).mp q)
      have hc : has.contains (z.toNat - 20000) = false := by
        cases q : has.contains (z.toNat - 20000) with
        | false => rfl
        | true => exact absurd (List.contains_iff_mem.mp q) hm
      rw [if_neg hm', hc]
      refine ih ⟨?_, fun x => ?_⟩
      · refine List.nodup_append.mpr ⟨hh.nd, by simp, fun a ha b hb => ?_⟩
        rw [List.mem_singleton.mp hb]
        intro q
        exact hm' (q ▸ ha)
      · rw [List.mem_append, List.mem_singleton, hh.mem]
        constructor
        · rintro (⟨l, hl, q⟩ | q)
          · exact ⟨l, List.mem_cons_of_mem _ hl, q⟩
          · exact ⟨z.toNat - 20000, List.mem_cons_self, q⟩
        · rintro ⟨l, hl, q⟩
          rcases List.mem_cons.mp hl with hl0 | hl
          · rw [hl0] at q
            exact .inr q
          · exact .inl ⟨l, hl, q⟩
  | @give z r st hz _ ih =>
    intro had has hh
    obtain ⟨ht, e, hlt⟩ := lock_give hz
    rw [locksR, right, ht, if_neg Bool.false_ne_true, hz, if_pos rfl, e]
    by_cases hm : z.toNat - 30000 ∈ has
    · rw [if_pos ((hh.at _).mpr hm), List.contains_iff_mem.mpr hm, Bool.true_and]
      refine ih ⟨hh.nd.erase _, fun x => ?_⟩
      rw [hh.nd.mem_erase_iff, hh.mem]
      constructor
      · rintro ⟨hne, l, hl, q⟩
        refine ⟨l, List.mem_filter.mpr ⟨hl, ?_⟩, q⟩
        rw [bne_iff_ne]
        intro w
        exact hne (by rw [q, w])
      · rintro ⟨l, hl, q⟩
        obtain ⟨h1, h2⟩ := List.mem_filter.mp hl
        rw [bne_iff_ne] at h2
        exact ⟨fun w => h2 (Int.ofNat.inj (q.symm.trans w)), l, h1, q⟩
    · have hm' : ¬ ((z.toNat - 30000 : Nat) : Int) ∈ had := fun q => hm ((hh.at _).mp q)
      have hc : has.contains (z.toNat - 30000) = false := by
        cases q : has.contains (z.toNat - 30000) with
        | false => rfl
        | true => exact absurd (List.contains_iff_mem.mp q) hm
      rw [if_neg hm', hc]
      rfl
/-- the program's look at the steps is the document's -/
theorem stepsR_some {ns : List Int} {st : List Step} (h : (ns.map Int.toNat).mapM stepOf = some st) : stepsR ns = (right [] st && st.any isW) := by
  have hr := reads_of h
  obtain ⟨h1, h2, _⟩ := reads_all hr
  unfold stepsR
  rw [h1, h2, locks_right hr Had.nil, Bool.true_and, Bool.and_comm]
theorem stepsR_none {ns : List Int} (h : (ns.map Int.toNat).mapM stepOf = none) : stepsR ns = false := by
  unfold stepsR
  rw [reads_none h, Bool.false_and]
end SM
namespace SM
open PyFlat

theorem len1 {l : List Int} (h : l.length = 1) : ∃ a, l = [a] := match l, h with | [a], _ => ⟨a, rfl⟩
theorem len2 {l : List Int} (h : l.length = 2) : ∃ a b, l = [a, b] := match l, h with | [a, b], _ => ⟨a, b, rfl⟩
theorem len4 {l : List Int} (h : l.length = 4) : ∃ a b c d, l = [a, b, c, d] := match l, h with | [a, b, c, d], _ => ⟨a, b, c, d, rfl⟩
theorem rows0 {l : List (List Int)} (h : l.length = 0) : l = [] := List.length_eq_zero_iff.mp h
theorem rows1 {l : List (List Int)} (h : l.length = 1) : ∃ a, l = [a] := match l, h with | [a], _ => ⟨a, rfl⟩

/-- a call as it may be asked -/
inductive Form : List (List Int) → Prop
  | clear : Form [[1]]
  | order (b : Int) : Form [[2, b]]
  | task (f p d r : Int) (st : List Int) : st.length ≤ 64 → (∀ z, z ∈ st → 0 ≤ z ∧ z < 65536) → Form [[3, f, p, d, r], st]
  | run (n : Int) : (n ≤ 2000 ∨ 100000 < n) → Form [[4, n]]
  | now : Form [[5]]
  | known (i w : Int) : Form [[6, i, w]]
  | state (i : Int) : Form [[7, i]]
  | owner (l : Int) : Form [[8, l]]

theorem form_of {c : List (List Int)} (h : okCall PySz17.shape c) (ha : Sz17Neutral.asked1 (PySz17.whole c) = true) : Form c := by
  obtain ⟨p, a, xs, rfl, hs⟩ := h
  unfold PySz17.shape at hs
  by_cases h1 : p = 1
  · subst h1
    have e := Option.some.inj hs
    obtain rfl : a = [] := List.length_eq_zero_iff.mp (congrArg Prod.fst e).symm
    obtain rfl := rows0 (congrArg Prod.snd e).symm
    exact .clear
  rw [if_neg h1] at hs
  by_cases h2 : p = 2
  · subst h2
    rw [if_pos rfl] at hs
    have e := Option.some.inj hs
    obtain ⟨b, rfl⟩ := len1 (congrArg Prod.fst e).symm
    obtain rfl := rows0 (congrArg Prod.snd e).symm
    exact .order b
  rw [if_neg h2] at hs
  by_cases h3 : p = 3
  · subst h3
    rw [if_pos rfl] at hs
    have e := Option.some.inj hs
    obtain ⟨f, p, d, r, rfl⟩ := len4 (congrArg Prod.fst e).symm
    obtain ⟨st, rfl⟩ := rows1 (congrArg Prod.snd e).symm
    have ha : Sz17Neutral.asked1 [[3, f, p, d, r, (st.length : Int)], st] = true := ha
    have ha : (Sz17Neutral.whole32 f && (Sz17Neutral.whole32 p && (Sz17Neutral.whole32 d && (Sz17Neutral.whole32 r && (Sz17Neutral.whole32 (st.length : Int) && ((st.all (fun (z : Int) => Sz17Neutral.natural z 16) && Sz17Neutral.long st (st.length : Int) 1 64))))))) = true := ha
    rw [Bool.and_eq_true, Bool.and_eq_true, Bool.and_eq_true, Bool.and_eq_true, Bool.and_eq_true, Bool.and_eq_true] at ha
    obtain ⟨_, _, _, _, _, hall, hlong⟩ := ha
    unfold Sz17Neutral.long at hlong
    rw [decide_eq_true_eq] at hlong
    refine .task f p d r st ?_ ?_
    · by_cases hl : st.length ≤ 64
      · exact hl
      · rw [if_neg (by lia)] at hlong
        lia
    · intro z hz
      have := List.all_eq_true.mp hall z hz
      unfold Sz17Neutral.natural at this
      rw [Bool.and_eq_true, decide_eq_true_eq, decide_eq_true_eq] at this
      lia
  rw [if_neg h3] at hs
  by_cases h4 : p = 4
  · subst h4
    rw [if_pos rfl] at hs
    have e := Option.some.inj hs
    obtain ⟨b, rfl⟩ := len1 (congrArg Prod.fst e).symm
    obtain rfl := rows0 (congrArg Prod.snd e).symm
    have ha : Sz17Neutral.asked1 [[4, b]] = true := ha
    have ha : (Sz17Neutral.whole32 b && (decide (b ≤ 2000) || decide (100000 < b))) = true := ha
    rw [Bool.and_eq_true, Bool.or_eq_true, decide_eq_true_eq, decide_eq_true_eq] at ha
    exact .run b ha.2
  rw [if_neg h4] at hs
  by_cases h5 : p = 5
  · subst h5
    rw [if_pos rfl] at hs
    have e := Option.some.inj hs
    obtain rfl : a = [] := List.length_eq_zero_iff.mp (congrArg Prod.fst e).symm
    obtain rfl := rows0 (congrArg Prod.snd e).symm
    exact .now
  rw [if_neg h5] at hs
  by_cases h6 : p = 6
  · subst h6
    rw [if_pos rfl] at hs
    have e := Option.some.inj hs
    obtain ⟨i, w, rfl⟩ := len2 (congrArg Prod.fst e).symm
    obtain rfl := rows0 (congrArg Prod.snd e).symm
    exact .known i w
  rw [if_neg h6] at hs
  by_cases h7 : p = 7
  · subst h7
    rw [if_pos rfl] at hs
    have e := Option.some.inj hs
    obtain ⟨i, rfl⟩ := len1 (congrArg Prod.fst e).symm
    obtain rfl := rows0 (congrArg Prod.snd e).symm
    exact .state i
  rw [if_neg h7] at hs
  by_cases h8 : p = 8
  · subst h8
    rw [if_pos rfl] at hs
    have e := Option.some.inj hs
    obtain ⟨i, rfl⟩ := len1 (congrArg Prod.fst e).symm
    obtain rfl := rows0 (congrArg Prod.snd e).symm
    exact .owner i
  rw [if_neg h8] at hs
  cases hs

/-- what is handed in, read: calls in form, one behind another, the first is rt_clear; what is due -/
theorem asked_forms {ns : List Int} (h : PySz17.answers_asked ns = true) : ∃ cs : List (List (List Int)), ns = put cs ∧ (∀ c, c ∈ cs → Form c) ∧ cs.length ≤ 400 ∧ (∃ r, cs = [[1]] :: r) ∧
    PySz17.answers ns = told (played Sz17Neutral.step Sz17Neutral.start (cs.map PySz17.whole)) := by
  unfold PySz17.answers_asked at h
  unfold PySz17.answers
  unfold PySz17.calls at h ⊢
  cases e : PyFlat.calls PySz17.shape ns.length ns with
  | none => rw [e] at h; cases h
  | some cs =>
    rw [e] at h
    dsimp only at h ⊢
    rw [Bool.and_eq_true] at h
    obtain ⟨h1, h2⟩ := h
    unfold Sz17Neutral.asked at h2
    rw [Bool.and_eq_true, Bool.and_eq_true, decide_eq_true_eq] at h2
    obtain ⟨⟨hall, hlen⟩, hhead⟩ := h2
    obtain ⟨hput, hok⟩ := put_calls _ _ _ e
    have hf : ∀ c, c ∈ cs → Form c := fun c hc => form_of (hok c hc) (List.all_eq_true.mp hall _ (List.mem_map_of_mem hc))
    refine ⟨cs, hput, hf, by rw [List.length_map] at hlen; exact hlen, ?_, rfl⟩
    cases cs with
    | nil => cases hhead
    | cons c r =>
      have hc : (PySz17.whole c == [[1]]) = true := hhead
      rw [beq_iff_eq] at hc
      have := hf c List.mem_cons_self
      cases this with
      | clear => exact ⟨r, rfl⟩
      | order b => cases hc
      | task f p d r st _ _ => cases hc
      | run n _ => cases hc
      | now => cases hc
      | known i w => cases hc
      | state i => cases hc
      | owner l => cases hc
theorem told_cons (a : List Int) (r : List (List Int)) : told (a :: r) = (a.length : Int) :: a ++ told r := rfl
theorem played_cons {S : Type} (step : S → List (List Int) → S × List Int) (s : S) (c : List (List Int)) (r : List (List (List Int))) : played step s (c :: r) = (step s c).2 :: played step (step s c).1 r := rfl
end SM
namespace SM
open Sz17
/-! ### when a task's next job comes -/
/-- a job of the task comes at tick n -/
def dueAt (t : Doing) (n : Nat) : Prop := t.first ≤ n ∧ ((t.period = 0 ∧ n = t.first) ∨ (t.period ≠ 0 ∧ (n - t.first) % t.period = 0))
theorem due_iff (s : St) (i : Nat) : due s i ↔ dueAt (s.task i) s.now := Iff.rfl
def NEVER : Nat := 2000000000
/-- c is the first tick from n on at which a job of the task comes; or there is none, and c is later than all -/
def NextAt (t : Doing) (n c : Nat) : Prop :=
  (t.period = 0 ∧ ((n ≤ t.first ∧ c = t.first) ∨ (t.first < n ∧ c = NEVER))) ∨ (t.period ≠ 0 ∧ ∃ k, c = t.first + k * t.period ∧ n ≤ c ∧ (k = 0 ∨ c < n + t.period))
theorem next_start (t : Doing) : NextAt t 0 t.first := by
  by_cases h : t.period = 0
  · exact .inl ⟨h, .inl ⟨Nat.zero_le _, rfl⟩⟩
  · exact .inr ⟨h, 0, by rw [Nat.zero_mul, Nat.add_zero], Nat.zero_le _, .inl rfl⟩
theorem next_due {t : Doing} {n c : Nat} (h : NextAt t n c) (hn : n < NEVER) : dueAt t n ↔ c = n := by
  rcases h with ⟨hp, ⟨h1, rfl⟩ | ⟨h1, rfl⟩⟩ | ⟨hp, k, rfl, h1, h2⟩
  · unfold dueAt
    constructor
    · rintro ⟨_, ⟨_, e⟩ | ⟨q, _⟩⟩
      · exact e.symm
      · exact absurd hp q
    · intro e
      exact ⟨by lia, .inl ⟨hp, e.symm⟩⟩
  · unfold dueAt
    constructor
    · rintro ⟨_, ⟨_, e⟩ | ⟨q, _⟩⟩
      · lia
      · exact absurd hp q
    · intro e
      lia
  · unfold dueAt
    have hpos : 0 < t.period := Nat.pos_of_ne_zero hp
    constructor
    · rintro ⟨hf, ⟨q, _⟩ | ⟨_, hm⟩⟩
      · exact absurd q hp
      · -- n = first + m * period
        obtain ⟨m, hm⟩ := Nat.dvd_of_mod_eq_zero hm
        have en : n = t.first + m * t.period := by rw [Nat.mul_comm] at hm; lia
        rcases h2 with rfl | h2
        · rw [Nat.zero_mul] at h1 ⊢; lia
        · -- m * p <= k * p < m * p + p
          have h3 : m * t.period ≤ k * t.period := by lia
          have h4 : k * t.period < (m + 1) * t.period := by rw [Nat.succ_mul]; lia
          have h5 : m ≤ k := Nat.le_of_mul_le_mul_right h3 hpos
          have h6 : k < m + 1 := Nat.lt_of_mul_lt_mul_right h4
          have : k = m := by lia
          rw [this, en]
    · intro e
      refine ⟨by lia, .inr ⟨hp, ?_⟩⟩
      have : n - t.first = k * t.period := by lia
      rw [this, Nat.mul_mod_left]
theorem next_later {t : Doing} {n m c : Nat} (h : NextAt t n c) (h1 : n ≤ m) (h2 : m ≤ c) (hm : m < NEVER) : NextAt t m c := by
  rcases h with ⟨hp, ⟨h3, rfl⟩ | ⟨h3, rfl⟩⟩ | ⟨hp, k, rfl, h3, h4⟩
  · exact .inl ⟨hp, .inl ⟨h2, rfl⟩⟩
  · exact .inl ⟨hp, .inr ⟨by lia, rfl⟩⟩
  · refine .inr ⟨hp, k, rfl, h2, ?_⟩
    rcases h4 with h4 | h4
    · exact .inl h4
    · exact .inr (by lia)
/-- behind a coming -/
theorem next_pass {t : Doing} {n : Nat} (h : NextAt t n n) (hn : n < NEVER) : NextAt t (n + 1) (if t.period = 0 then NEVER else n + t.period) := by
  rcases h with ⟨hp, ⟨h3, e⟩ | ⟨h3, e⟩⟩ | ⟨hp, k, e, h3, h4⟩
  · rw [if_pos hp]
    exact .inl ⟨hp, .inr ⟨by lia, rfl⟩⟩
  · lia
  · rw [if_neg hp]
    exact .inr ⟨hp, k + 1, by rw [Nat.succ_mul]; lia, by have := Nat.pos_of_ne_zero hp; lia, .inr (by lia)⟩
/-- nothing comes ahead of it -/
theorem next_quiet {t : Doing} {n m c : Nat} (h : NextAt t n c) (h1 : n ≤ m) (h2 : m < c) (hm : m < NEVER) : ¬ dueAt t m := fun q => by
  have := (next_due (next_later h h1 (Nat.le_of_lt h2) hm) hm).mp q
  lia
theorem next_ge {t : Doing} {n c : Nat} (h : NextAt t n c) (hn : n < NEVER) : n ≤ c := by
  rcases h with ⟨hp, ⟨h3, rfl⟩ | ⟨h3, rfl⟩⟩ | ⟨hp, k, rfl, h3, h4⟩
  · exact h3
  · exact Nat.le_of_lt hn
  · exact h3
end SM
namespace SM
open Sz17

/-! ### the late ones, in any order -/
def lateJ (s : St) (i : Nat) : Option Job → Option Job
  | none => none
  | some j => if isLate s i j then some { j with late := true } else some j
def lateX (s : St) (i : Nat) (x : Seen) : Seen := match s.job i with
  | none => x
  | some j => if isLate s i j then { x with missed := x.missed + 1 } else x
def lateS (s : St) (p : Nat → Bool) : St := { s with jobs := s.jobs.mapIdx fun i o => if p i = true then lateJ s i o else o, seen := s.seen.mapIdx fun i x => if p i = true then lateX s i x else x }
theorem jobs_get (s : St) {i : Nat} (h : i < s.jobs.length) : s.jobs[i]? = some (s.job i) := by
  unfold St.job
  rw [List.getElem?_eq_getElem h]
  rfl
theorem st_ext {s t : St} (h1 : s.tasks = t.tasks) (h2 : s.jobs = t.jobs) (h3 : s.seen = t.seen) (h4 : s.now = t.now) (h5 : s.byDeadline = t.byDeadline) : s = t := by
  cases s; cases t
  simp only at h1 h2 h3 h4 h5
  subst h1; subst h2; subst h3; subst h4; subst h5
  rfl
theorem late_jobs (s : St) (i k : Nat) : (late s i).jobs[k]? = if k = i then (s.jobs[k]?).map (lateJ s i) else s.jobs[k]? := by
  cases e : s.job i with
  | none =>
    rw [late_none e]
    by_cases h : k = i
    · subst h
      rw [if_pos rfl]
      unfold St.job at e
      cases q : s.jobs[k]? with
      | none => rfl
      | some o =>
        rw [q] at e
        have e : o = none := e
        rw [e]
        rfl
    · rw [if_neg h]
  | some j =>
    have hi := job_lt e
    have eg := jobs_get s hi
    rw [e] at eg
    by_cases hl : isLate s i j
    · rw [late_yes e hl]
      show (s.jobs.set i (some { j with late := true }))[k]? = _
      by_cases h : k = i
      · subst h
        rw [if_pos rfl, List.getElem?_set_self hi, eg]
        show _ = some (if isLate s k j then some { j with late := true } else some j)
        rw [if_pos hl]
      · rw [if_neg h, List.getElem?_set_ne (fun q => h q.symm)]
    · rw [late_no e hl]
      by_cases h : k = i
      · subst h
        rw [if_pos rfl, eg]
        show _ = some (if isLate s k j then some { j with late := true } else some j)
        rw [if_neg hl]
      · rw [if_neg h]
theorem see_get (s : St) (i : Nat) (f : Seen → Seen) (k : Nat) : (s.see i f).seen[k]? = if k = i then (s.seen[k]?).map f else s.seen[k]? := by
  show (s.seen.mapIdx fun k x => if k = i then f x else x)[k]? = _
  rw [List.getElem?_mapIdx]
  by_cases h : k = i
  · rw [if_pos h]
    simp only [if_pos h]
  · rw [if_neg h]
    simp only [if_neg h]
    cases s.seen[k]? <;> rfl
theorem late_seen (s : St) (i k : Nat) : (late s i).seen[k]? = if k = i then (s.seen[k]?).map (lateX s i) else s.seen[k]? := by
  cases e : s.job i with
  | none =>
    rw [late_none e]
    by_cases h : k = i
    · rw [if_pos h]
      unfold lateX
      rw [e]
      cases s.seen[k]? <;> rfl
    · rw [if_neg h]
  | some j =>
    by_cases hl : isLate s i j
    · rw [late_yes e hl, see_get]
      unfold lateX
      rw [e]
      simp only [if_pos hl]
      rfl
    · rw [late_no e hl]
      unfold lateX
      rw [e]
      simp only [if_neg hl]
      by_cases h : k = i
      · rw [if_pos h]
        cases s.seen[k]? <;> rfl
      · rw [if_neg h]
theorem late_tasks (s : St) (i : Nat) : (late s i).tasks = s.tasks := (Alike.late s i).tk
theorem late_job_ne {s : St} {i k : Nat} (h : k ≠ i) : (late s i).job k = s.job k := by
  unfold St.job
  rw [late_jobs, if_neg h]
theorem isLate_late (s : St) (a k : Nat) (j : Job) : isLate (late s a) k j ↔ isLate s k j := by
  unfold isLate
  have e1 : (late s a).task k = s.task k := by unfold St.task; rw [late_tasks]
  rw [e1, late_now]
theorem lates_eq : ∀ (l : List Nat) (s : St), l.Nodup → l.foldl late s = lateS s fun k => decide (k ∈ l)
  | [], s, _ => by
    refine st_ext rfl ?_ ?_ rfl rfl
    · refine List.ext_getElem? fun k => ?_
      show s.jobs[k]? = (s.jobs.mapIdx _)[k]?
      rw [List.getElem?_mapIdx]
      cases s.jobs[k]? <;> simp
    · refine List.ext_getElem? fun k => ?_
      show s.seen[k]? = (s.seen.mapIdx _)[k]?
      rw [List.getElem?_mapIdx]
      cases s.seen[k]? <;> simp
  | a :: r, s, hn => by
    obtain ⟨ha, hr⟩ := List.nodup_cons.mp hn
    rw [List.foldl_cons, lates_eq r _ hr]
    have hmem : ∀ k, k ∈ r → k ≠ a := fun k hk e => ha (e ▸ hk)
    refine st_ext (late_tasks s a) ?_ ?_ (late_now s a) (Alike.late s a).bd
    · refine List.ext_getElem? fun k => ?_
      show ((late s a).jobs.mapIdx _)[k]? = (s.jobs.mapIdx _)[k]?
      rw [List.getElem?_mapIdx, List.getElem?_mapIdx, late_jobs]
      by_cases h : k = a
      · subst h
        rw [if_pos rfl]
        simp only [decide_eq_true_eq, if_neg ha, List.mem_cons, true_or, if_true]
        cases s.jobs[k]? <;> rfl
      · rw [if_neg h]
        simp only [decide_eq_true_eq, List.mem_cons, h, false_or]
        have : lateJ (late s a) k = lateJ s k := by
          funext o
          cases o with
          | none => rfl
          | some j =>
            show (if _ then _ else _) = (if _ then _ else _)
            simp only [isLate_late]
        rw [this]
    · refine List.ext_getElem? fun k => ?_
      show ((late s a).seen.mapIdx _)[k]? = (s.seen.mapIdx _)[k]?
      rw [List.getElem?_mapIdx, List.getElem?_mapIdx, late_seen]
      by_cases h : k = a
      · subst h
        rw [if_pos rfl]
        simp only [decide_eq_true_eq, if_neg ha, List.mem_cons, true_or, if_true]
        cases s.seen[k]? <;> rfl
      · rw [if_neg h]
        simp only [decide_eq_true_eq, List.mem_cons, h, false_or]
        have : lateX (late s a) k = lateX s k := by
          funext x
          unfold lateX
          rw [late_job_ne h]
          simp only [isLate_late]
        rw [this]
/-- in whatever order the jobs are looked at -/
theorem lates_any {s : St} (hl : s.jobs.length = s.tasks.length) {ks : List Nat} (nd : ks.Nodup) (h : ∀ k, k ∈ ks ↔ (s.job k).isSome = true) : ks.foldl late s = (List.range s.tasks.length).foldl late s := by
  rw [lates_eq ks s nd, lates_eq _ s List.nodup_range]
  refine st_ext rfl ?_ ?_ rfl rfl
  · refine List.ext_getElem? fun k => ?_
    show (s.jobs.mapIdx _)[k]? = (s.jobs.mapIdx _)[k]?
    rw [List.getElem?_mapIdx, List.getElem?_mapIdx]
    by_cases hk : k < s.jobs.length
    · rw [jobs_get s hk]
      have hm : k < s.tasks.length := by lia
      simp only [decide_eq_true_eq, h, List.mem_range, hm, if_true, Option.map_some]
      cases e : s.job k with
      | none => rfl
      | some j => rfl
    · rw [List.getElem?_eq_none (by lia)]
      rfl
  · refine List.ext_getElem? fun k => ?_
    show (s.seen.mapIdx _)[k]? = (s.seen.mapIdx _)[k]?
    rw [List.getElem?_mapIdx, List.getElem?_mapIdx]
    congr 1
    funext x
    simp only [decide_eq_true_eq, h, List.mem_range]
    cases e : s.job k with
    | none =>
      unfold lateX
      rw [e]
      simp
    | some j =>
      have hk := job_lt e
      have hm : k < s.tasks.length := by lia
      simp [hm]
theorem lates_quiet : ∀ (l : List Nat) (s : St), (∀ i j, s.job i = some j → ¬ isLate s i j) → l.foldl late s = s
  | [], _, _ => rfl
  | a :: r, s, h => by
    rw [List.foldl_cons]
    have e : late s a = s := by
      cases e : s.job a with
      | none => exact late_none e
      | some j => exact late_no e (h a j e)
    rw [e]
    exact lates_quiet r s h

/-! ### ticks alike -/
theorem ended_now (s : St) (i t n : Nat) : ended { s with now := n } i t = { ended s i t with now := n } := by
  unfold ended
  show (match s.job i with | some j => _ | none => _) = _
  cases e : s.job i with
  | none => rfl
  | some j =>
    dsimp only
    by_cases h : j.left = []
    · rw [if_pos h, if_pos h]; rfl
    · rw [if_neg h, if_neg h]
/-- the state behind m ticks' work of job i, whose step is work of n -/
def wkS (u : St) (i : Nat) (j : Job) (r : List Step) (n m : Nat) : St := ended (u.setJob i (some { j with left := if n ≤ m then r else .work (n - m) :: r })) i (u.now + m)
theorem worked_wk {u : St} {i n : Nat} {j : Job} {r : List Step} (e : u.job i = some j) (q : j.left = .work n :: r) : worked u i = wkS u i j r n 1 := by
  unfold worked
  rw [e]
  dsimp only
  rw [q]
  rfl
/-- from lo on, ahead of hi nothing comes and nobody is late -/
structure Quiet (t : St) (lo hi : Nat) : Prop where
  come : ∀ i, i < t.tasks.length → ∀ q, lo ≤ q → q < hi → ¬ dueAt (t.task i) q
  late : ∀ i j, t.job i = some j → j.late = false → hi ≤ j.came + (t.task i).deadline
theorem Quiet.none_late {t : St} {lo hi n : Nat} (h : Quiet t lo hi) (hn : n < hi) (l : List Nat) : l.foldl Sz17.late { t with now := n } = { t with now := n } := by
  refine lates_quiet l _ fun i j e hl => ?_
  have e : t.job i = some j := e
  obtain ⟨h1, h2⟩ := hl
  have h2 : j.came + (t.task i).deadline ≤ n := h2
  have := h.late i j e h1
  lia
theorem idle_from : ∀ (m : Nat) (s t : St), tick s = ({ t with now := s.now + 1 }, 255) → chosen t = none → Quiet t (s.now + 1) (s.now + (m + 1)) → ticks (m + 1) s = ({ t with now := s.now + (m + 1) }, List.replicate (m + 1) 255)
  | 0, s, t, h, _, _ => by
    show ((ticks 0 (tick s).1).1, (tick s).2 :: (ticks 0 (tick s).1).2) = _
    rw [h]
    rfl
  | m + 1, s, t, h, hc, hq => by
    show ((ticks (m + 1) (tick s).1).1, (tick s).2 :: (ticks (m + 1) (tick s).1).2) = _
    rw [h]
    dsimp only
    have hd : ∀ i, i < ({ t with now := s.now + 1 } : St).tasks.length → ¬ due { t with now := s.now + 1 } i := fun i hi => hq.come i hi (s.now + 1) (Nat.le_refl _) (by lia)
    have h2 := tick_idle hd ((Alike.now t _).chosen.trans hc)
    rw [hq.none_late (by lia)] at h2
    have := idle_from m { t with now := s.now + 1 } t h2 hc ⟨fun i hi q q1 q2 => hq.come i hi q (by have q1 : s.now + 1 + 1 ≤ q := q1; lia) (by have q2 : q < s.now + 1 + (m + 1) := q2; lia), fun i j e f => by have := hq.late i j e f; show s.now + 1 + (m + 1) ≤ _; lia⟩
    rw [this]
    have e : ({ t with now := s.now + 1 } : St).now + (m + 1) = s.now + (m + 1 + 1) := by show s.now + 1 + (m + 1) = _; lia
    rw [e]
    rfl
theorem work_from {i : Nat} {r : List Step} : ∀ (m n : Nat) (s t : St) (j : Job), tick s = ({ wkS t i j r n 1 with now := s.now + 1 }, i) → t.now = s.now → chosen t = some i → t.job i = some j → j.left = .work n :: r → m + 1 ≤ n → Quiet t (s.now + 1) (s.now + (m + 1)) →
    ticks (m + 1) s = ({ wkS t i j r n (m + 1) with now := s.now + (m + 1) }, List.replicate (m + 1) i)
  | 0, n, s, t, j, h, _, _, _, _, _, _ => by
    show ((ticks 0 (tick s).1).1, (tick s).2 :: (ticks 0 (tick s).1).2) = _
    rw [h]
    rfl
  | m + 1, n, s, t, j, h, hnow, hc, e, q, hmn, hq => by
    show ((ticks (m + 1) (tick s).1).1, (tick s).2 :: (ticks (m + 1) (tick s).1).2) = _
    rw [h]
    dsimp only
    have hi := job_lt e
    have ew : wkS t i j r n 1 = t.setJob i (some { j with left := .work (n - 1) :: r }) := by
      rw [← worked_wk e q]
      exact worked_on e q (by lia)
    rw [ew]
    -- the state from there on
    have ej : ({ t.setJob i (some { j with left := .work (n - 1) :: r }) with now := s.now + 1 } : St).job i = some { j with left := .work (n - 1) :: r } := job_setJob_same hi
    have al : Alike ({ t.setJob i (some { j with left := .work (n - 1) :: r }) with now := s.now + 1 } : St) t := (Alike.now _ _).trans (Alike.setJob e rfl rfl rfl)
    have hq' : Quiet ({ t.setJob i (some { j with left := .work (n - 1) :: r }) with now := s.now + 1 } : St) (s.now + 1) (s.now + (m + 1 + 1)) := by
      refine ⟨hq.come, fun k jk ek hk => ?_⟩
      have ek : (t.setJob i (some { j with left := .work (n - 1) :: r })).job k = some jk := ek
      rw [job_setJob hi] at ek
      by_cases hki : k = i
      · subst hki
        rw [if_pos rfl] at ek
        cases ek
        exact hq.late k j e hk
      · rw [if_neg hki] at ek
        exact hq.late k jk ek hk
    have hd : ∀ k, k < ({ t.setJob i (some { j with left := .work (n - 1) :: r }) with now := s.now + 1 } : St).tasks.length → ¬ due ({ t.setJob i (some { j with left := .work (n - 1) :: r }) with now := s.now + 1 } : St) k := fun k hk => hq.come k hk (s.now + 1) (Nat.le_refl _) (by lia)
    have h2 := tick_on hd (al.chosen.trans hc) ej rfl
    rw [hq'.none_late (n := s.now + 1) (by lia), worked_wk ej rfl] at h2
    have := work_from (i := i) (r := r) m (n - 1) _ _ _ h2 rfl (al.chosen.trans hc) ej rfl (by lia) ⟨fun k hk x x1 x2 => hq'.come k hk x (by have x1 : s.now + 1 + 1 ≤ x := x1; lia) (by have x2 : x < s.now + 1 + (m + 1) := x2; lia), fun k jk ek f => by have := hq'.late k jk ek f; show s.now + 1 + (m + 1) ≤ _; lia⟩
    rw [this]
    have e1 : s.now + 1 + (m + 1) = s.now + (m + 1 + 1) := by lia
    have e2 : wkS ({ t.setJob i (some { j with left := .work (n - 1) :: r }) with now := s.now + 1 } : St) i { j with left := .work (n - 1) :: r } r (n - 1) (m + 1) = { wkS t i j r n (m + 1 + 1) with now := s.now + 1 } := by
      unfold wkS
      show ended ({ (t.setJob i (some { j with left := .work (n - 1) :: r })).setJob i (some { j with left := if n - 1 ≤ m + 1 then r else .work (n - 1 - (m + 1)) :: r }) with now := s.now + 1 } : St) i (s.now + 1 + (m + 1)) = _
      rw [ended_now, setJob_setJob, e1, hnow]
      have e3 : (if n - 1 ≤ m + 1 then r else Step.work (n - 1 - (m + 1)) :: r) = if n ≤ m + 1 + 1 then r else Step.work (n - (m + 1 + 1)) :: r := by
        by_cases hx : n ≤ m + 1 + 1
        · rw [if_pos hx, if_pos (by lia)]
        · rw [if_neg hx, if_neg (by lia), show n - 1 - (m + 1) = n - (m + 1 + 1) by lia]
      rw [e3]
    rw [e2]
    show (({ wkS t i j r n (m + 1 + 1) with now := s.now + 1 + (m + 1) } : St), _) = _
    rw [e1]
    rfl
/-- a stretch in which nobody works -/
theorem seg_idle {s t : St} {m : Nat} (h : settle 8192 (front s) = (t, none)) (hc : chosen t = none) (hm : 1 ≤ m) (hq : Quiet t (s.now + 1) (s.now + m)) : ticks m s = ({ t with now := s.now + m }, List.replicate m 255) := by
  obtain ⟨k, rfl⟩ : ∃ k, m = k + 1 := ⟨m - 1, by lia⟩
  exact idle_from k s t (tick_none h) hc hq
/-- a stretch in which one works -/
theorem seg_work {s t : St} {i n m : Nat} {j : Job} {r : List Step} (h : settle 8192 (front s) = (t, some i)) (hn : t.now = s.now) (hc : chosen t = some i) (e : t.job i = some j) (q : j.left = .work n :: r) (hm : 1 ≤ m) (hmn : m ≤ n) (hq : Quiet t (s.now + 1) (s.now + m)) :
    ticks m s = ({ wkS t i j r n m with now := s.now + m }, List.replicate m i) := by
  obtain ⟨k, rfl⟩ : ∃ k, m = k + 1 := ⟨m - 1, by lia⟩
  refine work_from k n s t j ?_ hn hc e q hmn hq
  rw [tick_some h, worked_wk e q]
end SM
namespace SM
open Sz17
/-! ### what settling leaves -/
structure Kept (s t : St) : Prop where
  now : t.now = s.now
  tasks : t.tasks = s.tasks
  byd : t.byDeadline = s.byDeadline
  job : ∀ k j, t.job k = some j → ∃ j0, s.job k = some j0 ∧ j.came = j0.came ∧ j.late = j0.late
theorem Kept.refl (s : St) : Kept s s := ⟨rfl, rfl, rfl, fun k j e => ⟨j, e, rfl, rfl⟩⟩
theorem Kept.trans {s t u : St} (h : Kept s t) (g : Kept t u) : Kept s u := ⟨g.now.trans h.now, g.tasks.trans h.tasks, g.byd.trans h.byd, fun k j e => by
  obtain ⟨j1, e1, c1, l1⟩ := g.job k j e
  obtain ⟨j0, e0, c0, l0⟩ := h.job k j1 e1
  exact ⟨j0, e0, c1.trans c0, l1.trans l0⟩⟩
theorem Kept.setJob {s : St} {i : Nat} {j : Job} (e : s.job i = some j) (q : Job) (h1 : q.came = j.came) (h2 : q.late = j.late) : Kept s (s.setJob i (some q)) := ⟨rfl, rfl, rfl, fun k jk ek => by
  rw [job_setJob (job_lt e)] at ek
  by_cases h : k = i
  · subst h
    rw [if_pos rfl] at ek
    cases ek
    exact ⟨j, e, h1, h2⟩
  · rw [if_neg h] at ek
    exact ⟨jk, ek, rfl, rfl⟩⟩
theorem Kept.ended (s : St) (i t : Nat) : Kept s (ended s i t) := by
  cases e : s.job i with
  | none =>
    have : Sz17.ended s i t = s := by unfold Sz17.ended; rw [e]
    rw [this]; exact Kept.refl s
  | some j =>
    by_cases h : j.left = []
    · rw [ended_end e h]
      refine ⟨rfl, rfl, rfl, fun k jk ek => ?_⟩
      have ek : (s.setJob i none).job k = some jk := ek
      rw [job_setJob (job_lt e)] at ek
      by_cases hk : k = i
      · rw [if_pos hk] at ek; cases ek
      · rw [if_neg hk] at ek
        exact ⟨jk, ek, rfl, rfl⟩
    · rw [ended_no e h]; exact Kept.refl s
/-- one step that takes no time, of the chosen one -/
def lockL (s : St) (i : Nat) (j : Job) : List Step → St
  | .take l :: r => if (holder s l).isSome = true then s.setJob i (some { j with waits := some l }) else s.setJob i (some { j with left := r, has := l :: j.has, waits := none })
  | .give l :: r => Sz17.ended (s.setJob i (some { j with left := r, has := j.has.filter fun k => k != l })) i s.now
  | _ => s
def lockS (s : St) (i : Nat) (j : Job) : St := lockL s i j j.left
theorem lockS_wait {s : St} {i l : Nat} {j : Job} {r : List Step} (q : j.left = .take l :: r) (hh : (holder s l).isSome = true) : lockS s i j = s.setJob i (some { j with waits := some l }) := by
  have e : ∀ left, left = Step.take l :: r → lockL s i j left = s.setJob i (some { j with waits := some l }) := fun left h => by
    rw [h]
    exact if_pos hh
  exact e _ q
theorem lockS_take {s : St} {i l : Nat} {j : Job} {r : List Step} (q : j.left = .take l :: r) (hh : holder s l = none) : lockS s i j = s.setJob i (some { j with left := r, has := l :: j.has, waits := none }) := by
  unfold lockS
  rw [q]
  exact if_neg (by rw [hh]; simp)
theorem lockS_give {s : St} {i l : Nat} {j : Job} {r : List Step} (q : j.left = .give l :: r) : lockS s i j = Sz17.ended (s.setJob i (some { j with left := r, has := j.has.filter fun k => k != l })) i s.now := by
  unfold lockS
  rw [q]
  rfl
def isLk : List Step → Bool
  | .take _ :: _ => true
  | .give _ :: _ => true
  | _ => false
theorem settle_step {s : St} {n i : Nat} {j : Job} (h : chosen s = some i) (e : s.job i = some j) (hl : isLk j.left = true) : settle (n + 1) s = settle n (lockS s i j) := by
  cases q : j.left with
  | nil => rw [q] at hl; cases hl
  | cons x r =>
    cases x with
    | work m => rw [q] at hl; cases hl
    | take l =>
      cases hh : holder s l with
      | none => rw [lockS_take q hh, settle_take h e q hh]
      | some k =>
        have hs : (holder s l).isSome = true := by rw [hh]; rfl
        rw [lockS_wait q hs, settle_wait h e q hs]
    | give l => rw [lockS_give q]; exact settle_give h e q
theorem lockS_ok {s : St} (o : Ok s) {i : Nat} {j : Job} (h : chosen s = some i) (e : s.job i = some j) (hl : isLk j.left = true) : Ok (lockS s i j) ∧ mu (lockS s i j) < mu s ∧ Kept s (lockS s i j) := by
  cases q : j.left with
  | nil => rw [q] at hl; cases hl
  | cons x r =>
    cases x with
    | work m => rw [q] at hl; cases hl
    | take l =>
      cases hh : holder s l with
      | none =>
        rw [lockS_take q hh]
        exact ⟨o.take e q hh, mu_take o e q, Kept.setJob e _ rfl rfl⟩
      | some k =>
        have hs : (holder s l).isSome = true := by rw [hh]; rfl
        rw [lockS_wait q hs]
        exact ⟨o.wait e q, mu_wait o (chosen_lt h).2 e q hs, Kept.setJob e _ rfl rfl⟩
    | give l =>
      rw [lockS_give q]
      exact ⟨o.give e q, mu_give o e q, (Kept.setJob e { j with left := r, has := j.has.filter fun k => k != l } rfl rfl).trans (Kept.ended _ _ _)⟩
structure Settled (s t : St) (w : Option Nat) : Prop where
  ok : Ok t
  kept : Kept s t
  ch : chosen t = w
  wk : ∀ i, w = some i → ∃ j n r, t.job i = some j ∧ j.left = .work n :: r
theorem settle_facts : ∀ (n : Nat) (s : St), Ok s → mu s < n → Settled s (settle n s).1 (settle n s).2
  | 0, s, o, h => by lia
  | n + 1, s, o, h => by
    cases hc : chosen s with
    | none =>
      rw [settle_none hc]
      exact ⟨o, Kept.refl s, hc, fun i e => by cases e⟩
    | some i =>
      obtain ⟨j, hj⟩ := chosen_job hc
      cases hl : isLk j.left with
      | true =>
        obtain ⟨h1, h2, h3⟩ := lockS_ok o hc hj hl
        rw [settle_step hc hj hl]
        obtain ⟨a, b, c, d⟩ := settle_facts n _ h1 (by lia)
        exact ⟨a, h3.trans b, c, d⟩
      | false =>
        cases q : j.left with
        | nil => exact absurd q (o.jb i j hj).ne
        | cons x r =>
          cases x with
          | take l => rw [q] at hl; cases hl
          | give l => rw [q] at hl; cases hl
          | work m =>
            rw [settle_work hc hj q]
            exact ⟨o, Kept.refl s, hc, fun k e => by cases e; exact ⟨j, m, r, hj, q⟩⟩
/-! ### behind the late ones nobody is late -/
theorem lates_none (s : St) (hl : s.jobs.length = s.tasks.length) (k : Nat) (j : Job) (e : ((List.range s.tasks.length).foldl late s).job k = some j) : ¬ isLate s k j := by
  rw [lates_eq _ s List.nodup_range] at e
  unfold St.job at e
  have e : ((s.jobs.mapIdx fun i o => if decide (i ∈ List.range s.tasks.length) = true then lateJ s i o else o)[k]?).join = some j := e
  rw [List.getElem?_mapIdx] at e
  by_cases hk : k < s.jobs.length
  · rw [jobs_get s hk] at e
    have hm : k ∈ List.range s.tasks.length := List.mem_range.mpr (by lia)
    simp only [decide_eq_true hm, if_true, Option.map_some, Option.join_some] at e
    cases q : s.job k with
    | none => rw [q] at e; cases e
    | some j0 =>
      rw [q] at e
      have e : (if isLate s k j0 then some { j0 with late := true } else some j0) = some j := e
      by_cases h : isLate s k j0
      · rw [if_pos h] at e
        cases e
        rintro ⟨h1, _⟩
        cases h1
      · rw [if_neg h] at e
        cases e
        exact h
  · rw [List.getElem?_eq_none (by lia)] at e
    cases e
/-! ### work -/
theorem Ok.wk {s : St} (o : Ok s) {i n m : Nat} {j : Job} {r : List Step} (e : s.job i = some j) (q : j.left = .work n :: r) (hm : m ≤ n) (t : Nat) : Ok (ended (s.setJob i (some { j with left := if n ≤ m then r else .work (n - m) :: r })) i t) := by
  have hi : i < s.tasks.length := by rw [← o.jl]; exact job_lt e
  have hi' := job_lt e
  obtain ⟨a, b, c, d, f, ⟨p, g⟩⟩ := o.jb i j e
  rw [q, right, Bool.and_eq_true, Bool.and_eq_true, decide_eq_true_eq, decide_eq_true_eq] at b
  have hw : j.waits = none := by
    cases w : j.waits with
    | none => rfl
    | some l' =>
      obtain ⟨r', hr'⟩ := c l' w
      rw [q] at hr'
      cases hr'
  rw [q, List.length_cons] at d g
  have wt : ∀ (x : List Step) l, j.waits = some l → ∃ r, x = .take l :: r := fun x l w => by rw [hw] at w; cases w
  by_cases hn : n ≤ m
  · rw [if_pos hn]
    have ej := job_setJob_same (s := s) (o := some { j with left := r }) hi'
    by_cases hr : r = []
    · rw [ended_end ej hr]
      unfold gone
      rw [setJob_setJob]
      exact (o.setJob hi (fun j' ej => by cases ej) (fun j' l k q' ej => by cases ej)).see _ _
    · rw [ended_no ej hr]
      refine o.setJob hi (fun j' ej => ?_) (fun j' l k q' ej hl hk hl' => ?_)
      · cases ej
        exact ⟨hr, b.2.2, wt _, by show r.length ≤ 64; lia, f, ⟨p + 1, by rw [g]; show _ = p + 1 + r.length; lia⟩⟩
      · cases ej
        exact o.lk k q' i j l hk e hl' hl
  · rw [if_neg hn]
    have ej := job_setJob_same (s := s) (o := some { j with left := .work (n - m) :: r }) hi'
    rw [ended_no ej (List.cons_ne_nil _ _)]
    refine o.setJob hi (fun j' ej => ?_) (fun j' l k q' ej hl hk hl' => ?_)
    · cases ej
      refine ⟨List.cons_ne_nil _ _, ?_, wt _, by show r.length + 1 ≤ 64; lia, f, ⟨p, by rw [g]; rfl⟩⟩
      show right j.has (.work (n - m) :: r) = true
      rw [right, Bool.and_eq_true, Bool.and_eq_true, decide_eq_true_eq, decide_eq_true_eq]
      exact ⟨by lia, by lia, b.2.2⟩
    · cases ej
      exact o.lk k q' i j l hk e hl' hl
/-- a step of work is some; one's last step leaves no lock -/
theorem Ok.at_work {s : St} (o : Ok s) {i n : Nat} {j : Job} {r : List Step} (e : s.job i = some j) (q : j.left = .work n :: r) : 1 ≤ n ∧ (r = [] → j.has = []) := by
  have b := (o.jb i j e).rt
  rw [q, right, Bool.and_eq_true, Bool.and_eq_true, decide_eq_true_eq, decide_eq_true_eq] at b
  refine ⟨b.1, fun hr => ?_⟩
  have b := b.2.2
  rw [hr, right] at b
  exact List.isEmpty_iff.mp b
/-! ### another task -/
theorem any_isW {st : List Step} (g : Step → Bool) (h : ∀ x, g x = isW x) : st.any g = st.any isW := by
  rw [show g = isW from funext h]
theorem task_yes {s : St} {f p d r : Int} {ns : List Int} (h0 : s.now = 0) (h1 : ¬ s.tasks.length = 32) (h : Mi.taskR f p d r ns = true) :
    ∃ st, Reads ns st ∧ TOk ⟨f.toNat, p.toNat, d.toNat, r.toNat, st⟩ ∧ (0 ≤ f ∧ 0 ≤ p ∧ 0 ≤ d ∧ 0 ≤ r) ∧
      does s (.task f p d r (ns.map Int.toNat) ns.length) = ({ s with tasks := s.tasks ++ [⟨f.toNat, p.toNat, d.toNat, r.toNat, st⟩], jobs := s.jobs ++ [none], seen := s.seen ++ [⟨0, 0, 0, 0⟩] }, only s.tasks.length) := by
  unfold Mi.taskR at h
  rw [Bool.and_eq_true, Bool.and_eq_true, Bool.and_eq_true, decide_eq_true_eq, decide_eq_true_eq, decide_eq_true_eq] at h
  obtain ⟨⟨hf, hp, hd⟩, hr, hn, hs⟩ := h
  cases e : (ns.map Int.toNat).mapM stepOf with
  | none => rw [stepsR_none e] at hs; cases hs
  | some st =>
    rw [stepsR_some e, Bool.and_eq_true] at hs
    have hread := reads_of e
    have hlen := (reads_all hread).2.2
    refine ⟨st, hread, ⟨hs.1, fun z => ?_, by show st.length ≤ 64; lia, by show f.toNat ≤ 1000000; lia, by show p.toNat ≤ 1000000; lia, by show 1 ≤ d.toNat; lia, by show d.toNat ≤ 1000000; lia, by show r.toNat ≤ 255; lia⟩, ⟨hf.1, hp.1, by lia, hr.1⟩, ?_⟩
    · have z : st = [] := z
      rw [z] at hs
      cases hs.2
    · unfold does
      dsimp only
      rw [if_neg (by lia), if_neg (show ¬ s.tasks.length = TASKS from h1), if_neg (by lia), e]
      exact if_pos ⟨hs.1, (any_isW _ (fun x => by cases x <;> rfl)).trans hs.2⟩
theorem task_no {s : St} {f p d r : Int} {ns : List Int} (h0 : s.now = 0) (h1 : ¬ s.tasks.length = 32) (h : Mi.taskR f p d r ns = false) :
    does s (.task f p d r (ns.map Int.toNat) ns.length) = (s, only (-3)) := by
  unfold does
  dsimp only
  rw [if_neg (by lia), if_neg (show ¬ s.tasks.length = TASKS from h1)]
  by_cases hc : f < 0 ∨ 1000000 < f ∨ p < 0 ∨ 1000000 < p ∨ d < 1 ∨ 1000000 < d ∨ r < 0 ∨ 255 < r ∨ (ns.length : Int) < 1 ∨ 64 < (ns.length : Int)
  · rw [if_pos hc]
  · rw [if_neg hc]
    unfold Mi.taskR at h
    rw [decide_eq_true (by lia), decide_eq_true (by lia), decide_eq_true (by lia), Bool.true_and, Bool.true_and, Bool.true_and] at h
    cases e : (ns.map Int.toNat).mapM stepOf with
    | none => rfl
    | some st =>
      rw [stepsR_some e] at h
      exact if_neg fun z => by
        have z2 := (any_isW _ (fun x => by cases x <;> rfl)).symm.trans z.2
        rw [z.1, z2] at h
        cases h
theorem task_now {s : St} {f p d r n : Int} {l : List Nat} (h0 : ¬ s.now = 0) : does s (.task f p d r l n) = (s, only (-1)) := by
  unfold does
  dsimp only
  rw [if_pos h0]
theorem task_full {s : St} {f p d r n : Int} {l : List Nat} (h0 : s.now = 0) (h1 : s.tasks.length = 32) : does s (.task f p d r l n) = (s, only (-2)) := by
  unfold does
  dsimp only
  rw [if_neg (by lia), if_pos (show s.tasks.length = TASKS from h1)]
theorem run_no {s : St} {n : Int} (h : n < 0 ∨ 100000 < n ∨ (1000000000 : Int) < s.now + n) : does s (.run n) = (s, only (-1)) := by
  unfold does
  dsimp only
  rw [if_pos h]
theorem run_yes {s : St} {n : Nat} (h : ¬ ((n : Int) < 0 ∨ 100000 < (n : Int) ∨ (1000000000 : Int) < s.now + (n : Int))) : does s (.run (n : Nat)) = ((ticks n s).1, ⟨0, (ticks n s).2⟩) := by
  unfold does
  dsimp only
  rw [if_neg h]
  rfl
end SM
namespace SH
open PySem PySem.W PySem.Calls PyProof.Rows L2

/-- the head: the promise of the called def, at the heap behind the top -/
theorem spec_call {P : Program} {w : World} {K : PySem.W.Frag} {mg mb : Str → Option Value} {k : Nat} {fa a : Addr} {fd : FuncData} {x : Str} {sp : Sp} {s₁ : Shared} {vs : List Value} {ns out : List Int}
    (KX : K.In s₁.heap) (hns : s₁.heap.Ns mainGlobals mg) (hb : s₁.heap.Ns builtinsNs mb) (hbb : ∀ x : Str, x ≠ "__name__" → mb x = bootBuiltins x) (hlim : s₁.heap.NoLimit) (hg : s₁.gens = #[])
    (ha : s₁.heap.get? a = some { cls := .type "list", data := .seq vs.toArray }) (hi : IntsAre vs ns) (hl : ns.length ≤ sizeLine) (hr : Room k callerA)
    (F : ∀ base : Heap, K.In base → base.Ns mainGlobals mg → FnOk P w K mg base CX0 k fa fd [x] sp) (hbind : ∀ (s : Shared) (u : Value), BindsTo s fd ⟨[u], []⟩ [(x, u)])
    (hsp : ∀ H : Hp, Only H → SqL K H a (ns.map V.int) → sp [.ref a] H (fun v H' => ∃ l, v = .ref l ∧ H' l = some (.lst (out.map V.int))) E0) :
    codeAny (model P w) callerA (.call (.ref fa) ⟨[.ref a], []⟩) (fun r s' => (∃ (l : Addr) (its : List Value) (n : Nat), r = .ok (.ret (.ref l)) ∧ s'.heap.get? l = some { cls := .type "list", data := .seq its.toArray n } ∧ Vals (out.map V.int) its) ∧ OldK s₁.heap s'.heap ∧ s'.os = s₁.os ∧ AllBare s'.gens) s₁ := by
  have rv := vals_ints hi
  have lenV := hi.length
  have core : ∀ H : Hp, Only H → SqL K H a (ns.map V.int) → HOk P w H s₁.heap → (∀ b, H b ≠ none → b = a) → (H a ≠ none → K.lookup a = none) →
      codeAny (model P w) callerA (.call (.ref fa) ⟨[.ref a], []⟩) (fun r s' => (∃ (l : Addr) (its : List Value) (n : Nat), r = .ok (.ret (.ref l)) ∧ s'.heap.get? l = some { cls := .type "list", data := .seq its.toArray n } ∧ Vals (out.map V.int) its) ∧ OldK s₁.heap s'.heap ∧ s'.os = s₁.os ∧ AllBare s'.gens) s₁ := by
    intro H hO hS hok hA hK
    have base_of : ∀ {b : Addr} {o : Obj}, s₁.heap.get? b = some o → H b = none → (hidT s₁.heap H).get? b = some o := fun e n => hidT_get e n
    have noA : ∀ {b : Addr} {o : Obj} {es : Array DictEntry} {ep : Nat}, s₁.heap.get? b = some o → o.data = .dict es ep → H b = none := fun {b o es ep} e d => by
      cases q : H b with
      | none => rfl
      | some u =>
        have e' : b = a := hA b (by rw [q]; simp)
        subst e'
        rw [ha] at e; cases e
        have d' : Data.seq vs.toArray _ = Data.dict es ep := d
        cases d'
    have nsK : ∀ {b : Addr} {m : Str → Option Value}, s₁.heap.Ns b m → (hidT s₁.heap H).Ns b m := fun {b m} ⟨o, es, ep, e, d, r⟩ => ⟨o, es, ep, base_of e (noA e d), d, r⟩
    have hKb : K.In (hidT s₁.heap H) := fun b o e => base_of (KX b o e) (by
      cases q : H b with
      | none => rfl
      | some u =>
        have e' : b = a := hA b (by rw [q]; simp)
        subst e'
        rw [hK (by rw [q]; simp)] at e; cases e)
    have hM : Mod K mg (hidT s₁.heap H) := ⟨hKb, nsK hns, ⟨mb, nsK hb, hbb⟩, let ⟨mc, h1, h2⟩ := hlim; ⟨mc, nsK h1, h2⟩⟩
    have e0 : Env0 P w K mg (hidT s₁.heap H) callerA [] s₁ H := ⟨rfl, hM, fun b o e => of_hidT e, Nat.le_of_eq (hidT_size _ _), trivial, fun b hb => absurd (show b ∈ ([] : List Addr) from hb) (by simp), hok, .of_eq hg⟩
    refine codeAny_mono ((F _ hKb (nsK hns)).run callerA [] s₁ H ⟨[.ref a], []⟩ [.ref a] [.ref a] _ _ hr e0 (hbind s₁ (.ref a)) (.cons rfl .nil) (hsp H hO hS)) fun r s' h => ?_
    cases r with
    | error e => exact False.elim h
    | ok fl =>
      cases fl with
      | next => exact False.elim h
      | brk => exact False.elim h
      | cont => exact False.elim h
      | ret u =>
        obtain ⟨v, H', os, bare, un, hok', r', l, rfl, hl'⟩ := h
        obtain rfl : u = Value.ref l := r'
        obtain ⟨_, its, n, hv, hget⟩ := hok' l _ hl'
        refine ⟨⟨l, its, n, rfl, hget, hv⟩, OldK.of_keep fun b o e => ?_, os, bare⟩
        cases q : H b with
        | none => exact un.keep b o e q (by intro z; exact absurd (show b ∈ ([] : List Addr) from z) (by simp)) (by simp)
        | some u =>
          rcases hO b with z | ⟨ob, xs, z⟩
          · rw [q] at z; cases z
          · have z2 := un.frzs b ob _ z
            obtain ⟨e1, _⟩ := hok b _ z
            obtain ⟨e2, _⟩ := hok' b _ z2
            rw [e] at e1; cases e1
            exact e2
  cases hk : K.lookup a with
  | some o =>
    have e := KX a o hk
    rw [ha] at e
    cases e
    refine core (fun _ => none) (fun _ => .inl rfl) (.inr ⟨_, vs.toArray, _, hk, rfl, rfl, rfl, by rw [List.size_toArray, lenV]; exact hl, by simpa using rv⟩) (fun b u z => by have z' : (none : Option HO) = some u := z; cases z') (fun b z => absurd rfl z) fun z => absurd rfl z
  | none =>
    refine core (fun b => if b = a then some (.frz { cls := .type "list", data := .seq vs.toArray } (.lst (ns.map V.int))) else none) (fun b => ?_) (.inl (.inr ⟨{ cls := .type "list", data := .seq vs.toArray }, if_pos rfl⟩)) (fun b u z => ?_) (fun b z => ?_) fun _ => hk
    · by_cases hb : b = a
      · exact .inr ⟨_, _, if_pos hb⟩
      · exact .inl (if_neg hb)
    · by_cases hb : b = a
      · have z' := (if_pos hb).symm.trans z
        cases z'
        subst hb
        exact ⟨ha, by rw [List.length_map]; exact hl, vs, _, rv, ha⟩
      · have z' := (if_neg hb).symm.trans z
        cases z'
    · by_cases hb : b = a
      · exact hb
      · exact absurd (if_neg hb) z

theorem readsAll_ints {R : WRecords} {cl : Str → Option Addr} {h : Heap} : ∀ {ns : List Int} {us : List Value}, Vals (ns.map V.int) us → ∃ as, ReadsAllW R cl h us (ns.map WData.int) as
  | [], _, r => by
    rw [List.map_nil] at r
    cases r
    exact ⟨[], .nil⟩
  | n :: ns, _, r => by
    rw [List.map_cons] at r
    cases r with
    | cons a b =>
      obtain ⟨t, rfl⟩ := a
      obtain ⟨as, h⟩ := readsAll_ints b
      exact ⟨_, .cons (.int n t) h⟩

theorem walk_ofS {prog : Program} {name : Str} {least most l2 m2 : Nat} {lo hi lo2 hi2 : Int} {asked : List Int → Bool} {f : List Int → List Int}
    {k : Nat} {q : Program} {loose : List Str} {XP : (Str → Option Value) → Heap → Prop} {YP : World → Heap → Prop} {d : DefRec} {K : Params → PySem.W.Frag} {sp : PySem.W.Frag → Sp} {x : Str}
    (said : (OpenSpec.mk prog name [.list least most (.int lo hi)] (.list l2 m2 (.int lo2 hi2)) asked f).wellSaid = true)
    (hn2 : most ≤ sizeLine) (hdf : d.params.defaults = []) (hr : Room k callerA)
    (hY : ∀ (w : World) (h : Heap), YP w h → (K w.params).In h)
    (F : ∀ (w : World) (mg : Str → Option Value) (fa : Addr) (h : Heap), (K w.params).In h → h.Ns mainGlobals mg → mg d.name = some (.ref fa) →
      ∃ fd : FuncData, (∀ (s : Shared) (u : Value), BindsTo s fd ⟨[u], []⟩ [(x, u)]) ∧
        ∀ base : Heap, (K w.params).In base → base.Ns mainGlobals mg → FnOk prog w (K w.params) mg base CX0 k fa fd [x] (sp (K w.params)))
    (hsp : ∀ (K : PySem.W.Frag) (H : Hp) (a : Addr) (ns : List Int), ns.length ≤ most → (∀ z, z ∈ ns → lo ≤ z ∧ z ≤ hi) → asked ns = true → Only H → SqL K H a (ns.map V.int) →
      sp K [.ref a] H (fun v H' => ∃ l, v = .ref l ∧ H' l = some (.lst ((f ns).map V.int))) E0) :
    WalkOS q loose XP YP (OpenSpec.mk prog name [.list least most (.int lo hi)] (.list l2 m2 (.int lo2 hi2)) asked f) d [] (fun f vs => PySem.call f vs) := by
  intro w s₀ s₁ mg mb G Y fa o pm cd doc dV kV ho hd hcd hD hmg hg args vals as hpre hlay hrd hwl hlo
  obtain ⟨⟨ns, u⟩, hin, hask, rfl⟩ := os_pre said hpre
  have hin' : (Codec.inList least most (Codec.inInt lo hi) ns && true) = true := hin
  have hask' : asked ns = true := hask
  rw [Bool.and_true] at hin'
  unfold Codec.inList Codec.inLen Codec.inNat at hin'
  simp only [Bool.and_eq_true, decide_eq_true_eq, List.all_eq_true] at hin'
  obtain ⟨⟨_, hlen⟩, hall⟩ := hin'
  have hb : ∀ z, z ∈ ns → lo ≤ z ∧ z ≤ hi := fun z hz => by
    have h := hall z hz
    unfold Codec.inInt at h
    simp only [Bool.and_eq_true, decide_eq_true_eq] at h
    exact h
  have hwl' : WellAll w.params s₁.heap vals [WData.list (ns.map WData.int)] := hwl
  cases hwl' with
  | cons w1 w2 =>
    cases w2
    cases w1 with
    | list ho' hall' =>
      have hints := Att.ints_of_wellAll ns _ hall'
      have KX := hY w _ Y
      obtain ⟨fd, hbind, hF⟩ := F w mg fa _ KX G.T.g hmg
      refine enter_call (codeAny_mono (spec_call (out := f ns) KX G.T.g G.T.b G.T.builtins G.T.nolimit hg ho' hints (Nat.le_trans hlen hn2) hr hF hbind (fun H hO hS => hsp _ H _ ns hlen hb hask' hO hS)) fun r s' hq => ?_)
      obtain ⟨⟨l, its, n, rfl, hget, hv⟩, h2, h3, h4⟩ := hq
      obtain ⟨as', hra⟩ := readsAll_ints (R := []) (cl := classAt s₀.heap) (h := s'.heap) hv
      refine ⟨.inl ⟨.ref l, .list ((f ns).map WData.int), _, rfl, fun _ => rfl, .list hget rfl rfl (by rw [List.toList_toArray]; exact hra), ?_, fun z => by cases z⟩, h2, h3, h4⟩
      exact os_shut said hin rfl
end SH
namespace Rm
open PySem PySem.Spec PyProof.Rows L2
def isI (k : Int) : Value → Bool
  | .int a _ => a == k
  | _ => false
theorem map_eraseIdx {α β : Type} (f : α → β) : ∀ (l : List α) (i : Nat), (l.eraseIdx i).map f = (l.map f).eraseIdx i
  | [], _ => rfl
  | _ :: _, 0 => rfl
  | a :: r, i + 1 => congrArg (f a :: ·) (map_eraseIdx f r i)
theorem vals_at : ∀ {ns : List Int} {us : List Value}, Vals (ns.map V.int) us → ∀ (i : Nat) (h : i < us.length) (k : Int), ∃ n t, ns[i]? = some n ∧ us[i] = Value.int n t ∧ isI k us[i] = (n == k)
  | [], us, r => by
    rw [List.map_nil] at r
    cases r
    intro i h
    cases h
  | n :: ns, us, r => by
    rw [List.map_cons] at r
    cases r with
    | cons a b =>
      obtain ⟨t, rfl⟩ := a
      intro i h k
      cases i with
      | zero => exact ⟨n, t, rfl, rfl, rfl⟩
      | succ i => exact vals_at b i (Nat.lt_of_succ_lt_succ h) k
section
variable {X : Cx}
/-- xs.remove(k), ints -/
def rRemove : V → List V → Hp → VK → Prop := fun x vs H Q => ∃ (l : Addr) (ns : List Int) (k : Int), x = V.ref l ∧ vs = [V.int k] ∧ H l = some (.lst (ns.map V.int)) ∧ k ∈ ns ∧ Q .non (upd H l (.lst ((ns.erase k).map V.int)))
theorem mt_remove : MtM X "list.remove" rRemove := by
  intro pins s σ H x vs v us Q I rx rv h
  obtain ⟨l, ns, k, rfl, rfl, hH, hk, q⟩ := h
  cases rx
  obtain ⟨u, rfl, ru⟩ := rv.one
  obtain ⟨t, rfl⟩ := ru
  obtain ⟨z, its, n, r, hl, e⟩ := I.lstM hH
  rw [List.length_map] at z hl
  have hj : ns.idxOf k < ns.length := List.idxOf_lt_length_iff.mpr hk
  refine call_meets PySem.F.slot_list_remove ⟨_, e, rfl⟩ PySem.F.entry_list_remove (PySem.F.args_list_remove_2 _ _)
    (MeetsSeq.list_remove l its.toArray n (.int k t) (isI k) (fun y hy => ?_) (ns.idxOf k) (by rw [List.size_toArray]; lia) ?_ (fun m hm hlt => ?_) (by rw [List.size_toArray]; lia)) ⟨e, ?_⟩
  · obtain ⟨i, hi, rfl⟩ := List.getElem_of_mem (show y ∈ its by simpa using hy)
    obtain ⟨n', t', _, e2, e3⟩ := vals_at r i hi k
    rw [e2]
    exact MeetsSeq.EqGives.int n' k t' t
  · obtain ⟨n', t', e1, _, e3⟩ := vals_at r (ns.idxOf k) (by lia) k
    have e4 : ns[ns.idxOf k]? = some k := by
      rw [List.getElem?_eq_getElem hj, List.getElem_idxOf hj]
    rw [e4] at e1
    cases e1
    have : isI k its[ns.idxOf k] = true := by rw [e3]; exact beq_self_eq_true k
    simpa using this
  · have hm' : m < its.length := by simpa using hm
    obtain ⟨n', t', e1, _, e3⟩ := vals_at r m hm' k
    have hne : n' ≠ k := fun en => by
      subst en
      have := List.not_of_lt_findIdx (p := (· == n')) (xs := ns) (i := m) hlt
      obtain ⟨h1, h2⟩ := List.getElem?_eq_some_iff.mp e1
      rw [h2] at this
      simp at this
    have : isI k its[m] = false := by rw [e3]; exact beq_false_of_ne hne
    simpa using this
  · refine ⟨.non, _, I.lset (its' := its.eraseIdx (ns.idxOf k)) hH e ?_ ?_ ?_, rfl, q⟩
    · show its.toArray.eraseIdxIfInBounds (ns.idxOf k) = (its.eraseIdx (ns.idxOf k)).toArray
      rw [List.eraseIdxIfInBounds_toArray]
    · rw [List.erase_eq_eraseIdx_of_idxOf rfl, map_eraseIdx]
      exact r.eraseIdx _
    · rw [List.length_map]
      have := List.length_erase_of_mem hk
      lia
end
end Rm
namespace Tx
open PySem PySem.W PyProof.Rows L2
def top (i : Nat) : Stmt := PySem.Challenge.pw_tasklocks_s01_answers.main.body.getD i (.Pass ⟨0, 0, 0, 0⟩)
abbrev s_is_work : Stmt := top 5
abbrev s_is_take : Stmt := top 6
abbrev s_is_give : Stmt := top 7
abbrev s_lock_of : Stmt := top 8
abbrev s_locks_are_right : Stmt := top 9
abbrev s_steps_are_right : Stmt := top 10
abbrev s_task_is_right : Stmt := top 17
abbrev s_Task_init : Stmt := inClass (top 18) 0
abbrev s_Task_pass_coming : Stmt := inClass (top 18) 1
abbrev s_Task_count_done : Stmt := inClass (top 18) 2
abbrev s_Task_known : Stmt := inClass (top 18) 3
abbrev s_Job_init : Stmt := inClass (top 19) 0
abbrev s_Job_current_step : Stmt := inClass (top 19) 1
abbrev s_Job_work_left : Stmt := inClass (top 19) 2
abbrev s_Job_end_step : Stmt := inClass (top 19) 3
abbrev s_Job_is_done : Stmt := inClass (top 19) 4
abbrev s_Job_is_at_work : Stmt := inClass (top 19) 5
abbrev s_Scheduler_init : Stmt := inClass (top 28) 0
abbrev s_Scheduler_set_order : Stmt := inClass (top 28) 1
abbrev s_Scheduler_add_task : Stmt := inClass (top 28) 2
abbrev s_Scheduler_run : Stmt := inClass (top 28) 3
abbrev s_Scheduler_known : Stmt := inClass (top 28) 4
abbrev s_Scheduler_state : Stmt := inClass (top 28) 5
abbrev s_Scheduler_owner : Stmt := inClass (top 28) 6
abbrev s_Scheduler_is_task : Stmt := inClass (top 28) 7
abbrev s_Scheduler_let_jobs_come : Stmt := inClass (top 28) 8
abbrev s_Scheduler_new_job : Stmt := inClass (top 28) 9
abbrev s_Scheduler_tell_late : Stmt := inClass (top 28) 10
abbrev s_Scheduler_find_worker : Stmt := inClass (top 28) 11
abbrev s_Scheduler_chosen_job : Stmt := inClass (top 28) 12
abbrev s_Scheduler_able_job_behind : Stmt := inClass (top 28) 13
abbrev s_Scheduler_is_able : Stmt := inClass (top 28) 14
abbrev s_Scheduler_do_lock_step : Stmt := inClass (top 28) 15
abbrev s_Scheduler_leave_step : Stmt := inClass (top 28) 16
abbrev s_Scheduler_ticks_alike : Stmt := inClass (top 28) 17
abbrev s_Scheduler_work : Stmt := inClass (top 28) 18
abbrev s_answers : Stmt := top 40
abbrev s_call_size : Stmt := top 41
abbrev s_answer_call : Stmt := top 42
theorem sc_is_work : FnScope ["step"] ["step"] (defScope s_is_work) := ⟨rfl, rfl, rfl, by decide +kernel, rfl, by decide +kernel, by decide +kernel⟩
theorem sc_is_take : FnScope ["step"] ["step"] (defScope s_is_take) := ⟨rfl, rfl, rfl, by decide +kernel, rfl, by decide +kernel, by decide +kernel⟩
theorem sc_is_give : FnScope ["step"] ["step"] (defScope s_is_give) := ⟨rfl, rfl, rfl, by decide +kernel, rfl, by decide +kernel, by decide +kernel⟩
theorem sc_lock_of : FnScope ["step"] ["step"] (defScope s_lock_of) := ⟨rfl, rfl, rfl, by decide +kernel, rfl, by decide +kernel, by decide +kernel⟩
theorem sc_locks_are_right : FnScope ["steps", "had", "step"] ["steps"] (defScope s_locks_are_right) := ⟨rfl, rfl, rfl, by decide +kernel, rfl, by decide +kernel, by decide +kernel⟩
theorem sc_steps_are_right : FnScope ["steps", "step"] ["steps"] (defScope s_steps_are_right) := ⟨rfl, rfl, rfl, by decide +kernel, rfl, by decide +kernel, by decide +kernel⟩
theorem sc_task_is_right : FnScope ["first", "period", "deadline", "rank", "steps"] ["first", "period", "deadline", "rank", "steps"] (defScope s_task_is_right) := ⟨rfl, rfl, rfl, by decide +kernel, rfl, by decide +kernel, by decide +kernel⟩
theorem sc_Task_init : FnScope ["self", "first", "period", "deadline", "rank", "steps"] ["self", "first", "period", "deadline", "rank", "steps"] (defScope s_Task_init) := ⟨rfl, rfl, rfl, by decide +kernel, rfl, by decide +kernel, by decide +kernel⟩
theorem sc_Task_pass_coming : FnScope ["self"] ["self"] (defScope s_Task_pass_coming) := ⟨rfl, rfl, rfl, by decide +kernel, rfl, by decide +kernel, by decide +kernel⟩
theorem sc_Task_count_done : FnScope ["self", "ticks"] ["self", "ticks"] (defScope s_Task_count_done) := ⟨rfl, rfl, rfl, by decide +kernel, rfl, by decide +kernel, by decide +kernel⟩
theorem sc_Task_known : FnScope ["self"] ["self"] (defScope s_Task_known) := ⟨rfl, rfl, rfl, by decide +kernel, rfl, by decide +kernel, by decide +kernel⟩
theorem sc_Job_init : FnScope ["self", "number", "steps", "came_at", "deadline", "own_urgency"] ["self", "number", "steps", "came_at", "deadline", "own_urgency"] (defScope s_Job_init) := ⟨rfl, rfl, rfl, by decide +kernel, rfl, by decide +kernel, by decide +kernel⟩
theorem sc_Job_current_step : FnScope ["self"] ["self"] (defScope s_Job_current_step) := ⟨rfl, rfl, rfl, by decide +kernel, rfl, by decide +kernel, by decide +kernel⟩
theorem sc_Job_work_left : FnScope ["self"] ["self"] (defScope s_Job_work_left) := ⟨rfl, rfl, rfl, by decide +kernel, rfl, by decide +kernel, by decide +kernel⟩
theorem sc_Job_end_step : FnScope ["self"] ["self"] (defScope s_Job_end_step) := ⟨rfl, rfl, rfl, by decide +kernel, rfl, by decide +kernel, by decide +kernel⟩
theorem sc_Job_is_done : FnScope ["self"] ["self"] (defScope s_Job_is_done) := ⟨rfl, rfl, rfl, by decide +kernel, rfl, by decide +kernel, by decide +kernel⟩
theorem sc_Job_is_at_work : FnScope ["self"] ["self"] (defScope s_Job_is_at_work) := ⟨rfl, rfl, rfl, by decide +kernel, rfl, by decide +kernel, by decide +kernel⟩
theorem sc_Scheduler_init : FnScope ["self"] ["self"] (defScope s_Scheduler_init) := ⟨rfl, rfl, rfl, by decide +kernel, rfl, by decide +kernel, by decide +kernel⟩
theorem sc_Scheduler_set_order : FnScope ["self", "by_deadline"] ["self", "by_deadline"] (defScope s_Scheduler_set_order) := ⟨rfl, rfl, rfl, by decide +kernel, rfl, by decide +kernel, by decide +kernel⟩
theorem sc_Scheduler_add_task : FnScope ["self", "first", "period", "deadline", "rank", "steps"] ["self", "first", "period", "deadline", "rank", "steps"] (defScope s_Scheduler_add_task) := ⟨rfl, rfl, rfl, by decide +kernel, rfl, by decide +kernel, by decide +kernel⟩
theorem sc_Scheduler_run : FnScope ["self", "n", "answer", "end", "worker", "ticks"] ["self", "n"] (defScope s_Scheduler_run) := ⟨rfl, rfl, rfl, by decide +kernel, rfl, by decide +kernel, by decide +kernel⟩
theorem sc_Scheduler_known : FnScope ["self", "i", "which", "known"] ["self", "i", "which"] (defScope s_Scheduler_known) := ⟨rfl, rfl, rfl, by decide +kernel, rfl, by decide +kernel, by decide +kernel⟩
theorem sc_Scheduler_state : FnScope ["self", "i", "owner"] ["self", "i"] (defScope s_Scheduler_state) := ⟨rfl, rfl, rfl, by decide +kernel, rfl, by decide +kernel, by decide +kernel⟩
theorem sc_Scheduler_owner : FnScope ["self", "lock"] ["self", "lock"] (defScope s_Scheduler_owner) := ⟨rfl, rfl, rfl, by decide +kernel, rfl, by decide +kernel, by decide +kernel⟩
theorem sc_Scheduler_is_task : FnScope ["self", "i"] ["self", "i"] (defScope s_Scheduler_is_task) := ⟨rfl, rfl, rfl, by decide +kernel, rfl, by decide +kernel, by decide +kernel⟩
theorem sc_Scheduler_let_jobs_come : FnScope ["self", "number", "task"] ["self"] (defScope s_Scheduler_let_jobs_come) := ⟨rfl, rfl, rfl, by decide +kernel, rfl, by decide +kernel, by decide +kernel⟩
theorem sc_Scheduler_new_job : FnScope ["self", "number", "task", "deadline", "own_urgency"] ["self", "number", "task"] (defScope s_Scheduler_new_job) := ⟨rfl, rfl, rfl, by decide +kernel, rfl, by decide +kernel, by decide +kernel⟩
theorem sc_Scheduler_tell_late : FnScope ["self", "job", "task"] ["self"] (defScope s_Scheduler_tell_late) := ⟨rfl, rfl, rfl, by decide +kernel, rfl, by decide +kernel, by decide +kernel⟩
theorem sc_Scheduler_find_worker : FnScope ["self", "chosen"] ["self"] (defScope s_Scheduler_find_worker) := ⟨rfl, rfl, rfl, by decide +kernel, rfl, by decide +kernel, by decide +kernel⟩
theorem sc_Scheduler_chosen_job : FnScope ["self", "chosen", "urgency", "job", "able"] ["self"] (defScope s_Scheduler_chosen_job) := ⟨rfl, rfl, rfl, by decide +kernel, rfl, by decide +kernel, by decide +kernel⟩
theorem sc_Scheduler_able_job_behind : FnScope ["self", "job", "hops"] ["self", "job"] (defScope s_Scheduler_able_job_behind) := ⟨rfl, rfl, rfl, by decide +kernel, rfl, by decide +kernel, by decide +kernel⟩
theorem sc_Scheduler_is_able : FnScope ["self", "job"] ["self", "job"] (defScope s_Scheduler_is_able) := ⟨rfl, rfl, rfl, by decide +kernel, rfl, by decide +kernel, by decide +kernel⟩
theorem sc_Scheduler_do_lock_step : FnScope ["self", "job", "lock"] ["self", "job"] (defScope s_Scheduler_do_lock_step) := ⟨rfl, rfl, rfl, by decide +kernel, rfl, by decide +kernel, by decide +kernel⟩
theorem sc_Scheduler_leave_step : FnScope ["self", "job"] ["self", "job"] (defScope s_Scheduler_leave_step) := ⟨rfl, rfl, rfl, by decide +kernel, rfl, by decide +kernel, by decide +kernel⟩
theorem sc_Scheduler_ticks_alike : FnScope ["self", "worker", "end", "stop", "task", "job"] ["self", "worker", "end"] (defScope s_Scheduler_ticks_alike) := ⟨rfl, rfl, rfl, by decide +kernel, rfl, by decide +kernel, by decide +kernel⟩
theorem sc_Scheduler_work : FnScope ["self", "worker", "ticks"] ["self", "worker", "ticks"] (defScope s_Scheduler_work) := ⟨rfl, rfl, rfl, by decide +kernel, rfl, by decide +kernel, by decide +kernel⟩
theorem sc_answers : FnScope ["calls", "scheduler", "answered", "place", "call", "answer"] ["calls"] (defScope s_answers) := ⟨rfl, rfl, rfl, by decide +kernel, rfl, by decide +kernel, by decide +kernel⟩
theorem sc_call_size : FnScope ["calls", "place", "number"] ["calls", "place"] (defScope s_call_size) := ⟨rfl, rfl, rfl, by decide +kernel, rfl, by decide +kernel, by decide +kernel⟩
theorem sc_answer_call : FnScope ["scheduler", "call", "number"] ["scheduler", "call"] (defScope s_answer_call) := ⟨rfl, rfl, rfl, by decide +kernel, rfl, by decide +kernel, by decide +kernel⟩
theorem len1 {us : List Value} (h : us.length = 1) : ∃ u0, us = [u0] := by
  cases us with
  | nil => cases h
  | cons u0 us =>
  cases us with
  | nil => exact ⟨u0, rfl⟩
  | cons _ _ => cases h
theorem len2 {us : List Value} (h : us.length = 2) : ∃ u0 u1, us = [u0, u1] := by
  cases us with
  | nil => cases h
  | cons u0 us =>
  cases us with
  | nil => cases h
  | cons u1 us =>
  cases us with
  | nil => exact ⟨u0, u1, rfl⟩
  | cons _ _ => cases h
theorem len3 {us : List Value} (h : us.length = 3) : ∃ u0 u1 u2, us = [u0, u1, u2] := by
  cases us with
  | nil => cases h
  | cons u0 us =>
  cases us with
  | nil => cases h
  | cons u1 us =>
  cases us with
  | nil => cases h
  | cons u2 us =>
  cases us with
  | nil => exact ⟨u0, u1, u2, rfl⟩
  | cons _ _ => cases h
theorem len4 {us : List Value} (h : us.length = 4) : ∃ u0 u1 u2 u3, us = [u0, u1, u2, u3] := by
  cases us with
  | nil => cases h
  | cons u0 us =>
  cases us with
  | nil => cases h
  | cons u1 us =>
  cases us with
  | nil => cases h
  | cons u2 us =>
  cases us with
  | nil => cases h
  | cons u3 us =>
  cases us with
  | nil => exact ⟨u0, u1, u2, u3, rfl⟩
  | cons _ _ => cases h
theorem len5 {us : List Value} (h : us.length = 5) : ∃ u0 u1 u2 u3 u4, us = [u0, u1, u2, u3, u4] := by
  cases us with
  | nil => cases h
  | cons u0 us =>
  cases us with
  | nil => cases h
  | cons u1 us =>
  cases us with
  | nil => cases h
  | cons u2 us =>
  cases us with
  | nil => cases h
  | cons u3 us =>
  cases us with
  | nil => cases h
  | cons u4 us =>
  cases us with
  | nil => exact ⟨u0, u1, u2, u3, u4, rfl⟩
  | cons _ _ => cases h
theorem len6 {us : List Value} (h : us.length = 6) : ∃ u0 u1 u2 u3 u4 u5, us = [u0, u1, u2, u3, u4, u5] := by
  cases us with
  | nil => cases h
  | cons u0 us =>
  cases us with
  | nil => cases h
  | cons u1 us =>
  cases us with
  | nil => cases h
  | cons u2 us =>
  cases us with
  | nil => cases h
  | cons u3 us =>
  cases us with
  | nil => cases h
  | cons u4 us =>
  cases us with
  | nil => cases h
  | cons u5 us =>
  cases us with
  | nil => exact ⟨u0, u1, u2, u3, u4, u5, rfl⟩
  | cons _ _ => cases h
set_option genInjectivity false in
set_option genSizeOf false in
/-- the addresses of the text -/
structure Ad where
  c_Task : Addr
  c_Job : Addr
  c_Scheduler : Addr
  f_is_work : Addr
  d_is_work : FuncData
  f_is_take : Addr
  d_is_take : FuncData
  f_is_give : Addr
  d_is_give : FuncData
  f_lock_of : Addr
  d_lock_of : FuncData
  f_locks_are_right : Addr
  d_locks_are_right : FuncData
  f_steps_are_right : Addr
  d_steps_are_right : FuncData
  f_task_is_right : Addr
  d_task_is_right : FuncData
  f_Task_init : Addr
  d_Task_init : FuncData
  f_Task_pass_coming : Addr
  d_Task_pass_coming : FuncData
  f_Task_count_done : Addr
  d_Task_count_done : FuncData
  f_Task_known : Addr
  d_Task_known : FuncData
  f_Job_init : Addr
  d_Job_init : FuncData
  f_Job_current_step : Addr
  d_Job_current_step : FuncData
  f_Job_work_left : Addr
  d_Job_work_left : FuncData
  f_Job_end_step : Addr
  d_Job_end_step : FuncData
  f_Job_is_done : Addr
  d_Job_is_done : FuncData
  f_Job_is_at_work : Addr
  d_Job_is_at_work : FuncData
  f_Scheduler_init : Addr
  d_Scheduler_init : FuncData
  f_Scheduler_set_order : Addr
  d_Scheduler_set_order : FuncData
  f_Scheduler_add_task : Addr
  d_Scheduler_add_task : FuncData
  f_Scheduler_run : Addr
  d_Scheduler_run : FuncData
  f_Scheduler_known : Addr
  d_Scheduler_known : FuncData
  f_Scheduler_state : Addr
  d_Scheduler_state : FuncData
  f_Scheduler_owner : Addr
  d_Scheduler_owner : FuncData
  f_Scheduler_is_task : Addr
  d_Scheduler_is_task : FuncData
  f_Scheduler_let_jobs_come : Addr
  d_Scheduler_let_jobs_come : FuncData
  f_Scheduler_new_job : Addr
  d_Scheduler_new_job : FuncData
  f_Scheduler_tell_late : Addr
  d_Scheduler_tell_late : FuncData
  f_Scheduler_find_worker : Addr
  d_Scheduler_find_worker : FuncData
  f_Scheduler_chosen_job : Addr
  d_Scheduler_chosen_job : FuncData
  f_Scheduler_able_job_behind : Addr
  d_Scheduler_able_job_behind : FuncData
  f_Scheduler_is_able : Addr
  d_Scheduler_is_able : FuncData
  f_Scheduler_do_lock_step : Addr
  d_Scheduler_do_lock_step : FuncData
  f_Scheduler_leave_step : Addr
  d_Scheduler_leave_step : FuncData
  f_Scheduler_ticks_alike : Addr
  d_Scheduler_ticks_alike : FuncData
  f_Scheduler_work : Addr
  d_Scheduler_work : FuncData
  f_answers : Addr
  d_answers : FuncData
  f_call_size : Addr
  d_call_size : FuncData
  f_answer_call : Addr
  d_answer_call : FuncData
structure Txt (a : Ad) (K : Frag) (mg : Str → Option Value) : Prop where
  k_LOCKS : ∃ t, mg "LOCKS" = some (.int (16) t)
  k_MOST_WORK : ∃ t, mg "MOST_WORK" = some (.int (10000) t)
  k_TAKE_LOCK_0 : ∃ t, mg "TAKE_LOCK_0" = some (.int (20000) t)
  k_GIVE_LOCK_0 : ∃ t, mg "GIVE_LOCK_0" = some (.int (30000) t)
  k_MOST_TICKS : ∃ t, mg "MOST_TICKS" = some (.int (1000000000) t)
  k_MOST_TIME : ∃ t, mg "MOST_TIME" = some (.int (1000000) t)
  k_MOST_RANK : ∃ t, mg "MOST_RANK" = some (.int (255) t)
  k_MOST_STEPS : ∃ t, mg "MOST_STEPS" = some (.int (64) t)
  k_NEVER : ∃ t, mg "NEVER" = some (.int (2000000000) t)
  k_MOST_TASKS : ∃ t, mg "MOST_TASKS" = some (.int (32) t)
  k_MOST_TICKS_A_RUN : ∃ t, mg "MOST_TICKS_A_RUN" = some (.int (100000) t)
  k_NOBODY_WORKED : ∃ t, mg "NOBODY_WORKED" = some (.int (255) t)
  k_NO_JOB : ∃ t, mg "NO_JOB" = some (.int (0) t)
  k_ABLE_WITHOUT_LOCK : ∃ t, mg "ABLE_WITHOUT_LOCK" = some (.int (1) t)
  k_ABLE_WITH_LOCK : ∃ t, mg "ABLE_WITH_LOCK" = some (.int (2) t)
  k_NOT_ABLE : ∃ t, mg "NOT_ABLE" = some (.int (3) t)
  k_CLEAR : ∃ t, mg "CLEAR" = some (.int (1) t)
  k_ORDER : ∃ t, mg "ORDER" = some (.int (2) t)
  k_TASK : ∃ t, mg "TASK" = some (.int (3) t)
  k_RUN : ∃ t, mg "RUN" = some (.int (4) t)
  k_NOW : ∃ t, mg "NOW" = some (.int (5) t)
  k_KNOWN : ∃ t, mg "KNOWN" = some (.int (6) t)
  k_STATE : ∃ t, mg "STATE" = some (.int (7) t)
  k_OWNER : ∃ t, mg "OWNER" = some (.int (8) t)
  k_TASK_HEAD : ∃ t, mg "TASK_HEAD" = some (.int (6) t)
  n_len : mg "len" = none
  n_all : mg "all" = none
  n_any : mg "any" = none
  n_max : mg "max" = none
  n_enumerate : mg "enumerate" = none
  n_min : mg "min" = none
  cl_Task : Cls K a.c_Task
  mg_Task : mg "Task" = some (.ref a.c_Task)
  at_Task_period : NoAttr K a.c_Task "period"
  at_Task_deadline : NoAttr K a.c_Task "deadline"
  at_Task_rank : NoAttr K a.c_Task "rank"
  at_Task_steps : NoAttr K a.c_Task "steps"
  at_Task_comes_at : NoAttr K a.c_Task "comes_at"
  at_Task_jobs_done : NoAttr K a.c_Task "jobs_done"
  at_Task_missed_deadlines : NoAttr K a.c_Task "missed_deadlines"
  at_Task_jobs_left_out : NoAttr K a.c_Task "jobs_left_out"
  at_Task_longest : NoAttr K a.c_Task "longest"
  cl_Job : Cls K a.c_Job
  mg_Job : mg "Job" = some (.ref a.c_Job)
  at_Job_number : NoAttr K a.c_Job "number"
  at_Job_steps : NoAttr K a.c_Job "steps"
  at_Job_came_at : NoAttr K a.c_Job "came_at"
  at_Job_late_at : NoAttr K a.c_Job "late_at"
  at_Job_own_urgency : NoAttr K a.c_Job "own_urgency"
  at_Job_place : NoAttr K a.c_Job "place"
  at_Job_worked : NoAttr K a.c_Job "worked"
  at_Job_waits_for : NoAttr K a.c_Job "waits_for"
  cl_Scheduler : Cls K a.c_Scheduler
  mg_Scheduler : mg "Scheduler" = some (.ref a.c_Scheduler)
  at_Scheduler_by_deadline : NoAttr K a.c_Scheduler "by_deadline"
  at_Scheduler_now : NoAttr K a.c_Scheduler "now"
  at_Scheduler_tasks : NoAttr K a.c_Scheduler "tasks"
  at_Scheduler_jobs : NoAttr K a.c_Scheduler "jobs"
  at_Scheduler_owners : NoAttr K a.c_Scheduler "owners"
  fn_is_work : Fun K "is_work" "is_work" s_is_work a.f_is_work a.d_is_work
  bd_is_work : Binds K a.d_is_work ["step"] []
  mg_is_work : mg "is_work" = some (.ref a.f_is_work)
  fn_is_take : Fun K "is_take" "is_take" s_is_take a.f_is_take a.d_is_take
  bd_is_take : Binds K a.d_is_take ["step"] []
  mg_is_take : mg "is_take" = some (.ref a.f_is_take)
  fn_is_give : Fun K "is_give" "is_give" s_is_give a.f_is_give a.d_is_give
  bd_is_give : Binds K a.d_is_give ["step"] []
  mg_is_give : mg "is_give" = some (.ref a.f_is_give)
  fn_lock_of : Fun K "lock_of" "lock_of" s_lock_of a.f_lock_of a.d_lock_of
  bd_lock_of : Binds K a.d_lock_of ["step"] []
  mg_lock_of : mg "lock_of" = some (.ref a.f_lock_of)
  fn_locks_are_right : Fun K "locks_are_right" "locks_are_right" s_locks_are_right a.f_locks_are_right a.d_locks_are_right
  bd_locks_are_right : Binds K a.d_locks_are_right ["steps"] []
  mg_locks_are_right : mg "locks_are_right" = some (.ref a.f_locks_are_right)
  fn_steps_are_right : Fun K "steps_are_right" "steps_are_right" s_steps_are_right a.f_steps_are_right a.d_steps_are_right
  bd_steps_are_right : Binds K a.d_steps_are_right ["steps"] []
  mg_steps_are_right : mg "steps_are_right" = some (.ref a.f_steps_are_right)
  fn_task_is_right : Fun K "task_is_right" "task_is_right" s_task_is_right a.f_task_is_right a.d_task_is_right
  bd_task_is_right : Binds K a.d_task_is_right ["first", "period", "deadline", "rank", "steps"] []
  mg_task_is_right : mg "task_is_right" = some (.ref a.f_task_is_right)
  fn_Task_init : Fun K "__init__" "Task.__init__" s_Task_init a.f_Task_init a.d_Task_init
  bd_Task_init : Binds K a.d_Task_init ["self", "first", "period", "deadline", "rank", "steps"] []
  mk_Task : Mk K a.c_Task a.f_Task_init
  fn_Task_pass_coming : Fun K "pass_coming" "Task.pass_coming" s_Task_pass_coming a.f_Task_pass_coming a.d_Task_pass_coming
  bd_Task_pass_coming : Binds K a.d_Task_pass_coming ["self"] []
  me_Task_pass_coming : Meth K a.c_Task "pass_coming" a.f_Task_pass_coming
  fn_Task_count_done : Fun K "count_done" "Task.count_done" s_Task_count_done a.f_Task_count_done a.d_Task_count_done
  bd_Task_count_done : Binds K a.d_Task_count_done ["self", "ticks"] []
  me_Task_count_done : Meth K a.c_Task "count_done" a.f_Task_count_done
  fn_Task_known : Fun K "known" "Task.known" s_Task_known a.f_Task_known a.d_Task_known
  bd_Task_known : Binds K a.d_Task_known ["self"] []
  me_Task_known : Meth K a.c_Task "known" a.f_Task_known
  fn_Job_init : Fun K "__init__" "Job.__init__" s_Job_init a.f_Job_init a.d_Job_init
  bd_Job_init : Binds K a.d_Job_init ["self", "number", "steps", "came_at", "deadline", "own_urgency"] []
  mk_Job : Mk K a.c_Job a.f_Job_init
  fn_Job_current_step : Fun K "current_step" "Job.current_step" s_Job_current_step a.f_Job_current_step a.d_Job_current_step
  bd_Job_current_step : Binds K a.d_Job_current_step ["self"] []
  me_Job_current_step : Meth K a.c_Job "current_step" a.f_Job_current_step
  fn_Job_work_left : Fun K "work_left" "Job.work_left" s_Job_work_left a.f_Job_work_left a.d_Job_work_left
  bd_Job_work_left : Binds K a.d_Job_work_left ["self"] []
  me_Job_work_left : Meth K a.c_Job "work_left" a.f_Job_work_left
  fn_Job_end_step : Fun K "end_step" "Job.end_step" s_Job_end_step a.f_Job_end_step a.d_Job_end_step
  bd_Job_end_step : Binds K a.d_Job_end_step ["self"] []
  me_Job_end_step : Meth K a.c_Job "end_step" a.f_Job_end_step
  fn_Job_is_done : Fun K "is_done" "Job.is_done" s_Job_is_done a.f_Job_is_done a.d_Job_is_done
  bd_Job_is_done : Binds K a.d_Job_is_done ["self"] []
  me_Job_is_done : Meth K a.c_Job "is_done" a.f_Job_is_done
  fn_Job_is_at_work : Fun K "is_at_work" "Job.is_at_work" s_Job_is_at_work a.f_Job_is_at_work a.d_Job_is_at_work
  bd_Job_is_at_work : Binds K a.d_Job_is_at_work ["self"] []
  me_Job_is_at_work : Meth K a.c_Job "is_at_work" a.f_Job_is_at_work
  fn_Scheduler_init : Fun K "__init__" "Scheduler.__init__" s_Scheduler_init a.f_Scheduler_init a.d_Scheduler_init
  bd_Scheduler_init : Binds K a.d_Scheduler_init ["self"] []
  mk_Scheduler : Mk K a.c_Scheduler a.f_Scheduler_init
  fn_Scheduler_set_order : Fun K "set_order" "Scheduler.set_order" s_Scheduler_set_order a.f_Scheduler_set_order a.d_Scheduler_set_order
  bd_Scheduler_set_order : Binds K a.d_Scheduler_set_order ["self", "by_deadline"] []
  me_Scheduler_set_order : Meth K a.c_Scheduler "set_order" a.f_Scheduler_set_order
  fn_Scheduler_add_task : Fun K "add_task" "Scheduler.add_task" s_Scheduler_add_task a.f_Scheduler_add_task a.d_Scheduler_add_task
  bd_Scheduler_add_task : Binds K a.d_Scheduler_add_task ["self", "first", "period", "deadline", "rank", "steps"] []
  me_Scheduler_add_task : Meth K a.c_Scheduler "add_task" a.f_Scheduler_add_task
  fn_Scheduler_run : Fun K "run" "Scheduler.run" s_Scheduler_run a.f_Scheduler_run a.d_Scheduler_run
  bd_Scheduler_run : Binds K a.d_Scheduler_run ["self", "n"] []
  me_Scheduler_run : Meth K a.c_Scheduler "run" a.f_Scheduler_run
  fn_Scheduler_known : Fun K "known" "Scheduler.known" s_Scheduler_known a.f_Scheduler_known a.d_Scheduler_known
  bd_Scheduler_known : Binds K a.d_Scheduler_known ["self", "i", "which"] []
  me_Scheduler_known : Meth K a.c_Scheduler "known" a.f_Scheduler_known
  fn_Scheduler_state : Fun K "state" "Scheduler.state" s_Scheduler_state a.f_Scheduler_state a.d_Scheduler_state
  bd_Scheduler_state : Binds K a.d_Scheduler_state ["self", "i"] []
  me_Scheduler_state : Meth K a.c_Scheduler "state" a.f_Scheduler_state
  fn_Scheduler_owner : Fun K "owner" "Scheduler.owner" s_Scheduler_owner a.f_Scheduler_owner a.d_Scheduler_owner
  bd_Scheduler_owner : Binds K a.d_Scheduler_owner ["self", "lock"] []
  me_Scheduler_owner : Meth K a.c_Scheduler "owner" a.f_Scheduler_owner
  fn_Scheduler_is_task : Fun K "is_task" "Scheduler.is_task" s_Scheduler_is_task a.f_Scheduler_is_task a.d_Scheduler_is_task
  bd_Scheduler_is_task : Binds K a.d_Scheduler_is_task ["self", "i"] []
  me_Scheduler_is_task : Meth K a.c_Scheduler "is_task" a.f_Scheduler_is_task
  fn_Scheduler_let_jobs_come : Fun K "let_jobs_come" "Scheduler.let_jobs_come" s_Scheduler_let_jobs_come a.f_Scheduler_let_jobs_come a.d_Scheduler_let_jobs_come
  bd_Scheduler_let_jobs_come : Binds K a.d_Scheduler_let_jobs_come ["self"] []
  me_Scheduler_let_jobs_come : Meth K a.c_Scheduler "let_jobs_come" a.f_Scheduler_let_jobs_come
  fn_Scheduler_new_job : Fun K "new_job" "Scheduler.new_job" s_Scheduler_new_job a.f_Scheduler_new_job a.d_Scheduler_new_job
  bd_Scheduler_new_job : Binds K a.d_Scheduler_new_job ["self", "number", "task"] []
  me_Scheduler_new_job : Meth K a.c_Scheduler "new_job" a.f_Scheduler_new_job
  fn_Scheduler_tell_late : Fun K "tell_late" "Scheduler.tell_late" s_Scheduler_tell_late a.f_Scheduler_tell_late a.d_Scheduler_tell_late
  bd_Scheduler_tell_late : Binds K a.d_Scheduler_tell_late ["self"] []
  me_Scheduler_tell_late : Meth K a.c_Scheduler "tell_late" a.f_Scheduler_tell_late
  fn_Scheduler_find_worker : Fun K "find_worker" "Scheduler.find_worker" s_Scheduler_find_worker a.f_Scheduler_find_worker a.d_Scheduler_find_worker
  bd_Scheduler_find_worker : Binds K a.d_Scheduler_find_worker ["self"] []
  me_Scheduler_find_worker : Meth K a.c_Scheduler "find_worker" a.f_Scheduler_find_worker
  fn_Scheduler_chosen_job : Fun K "chosen_job" "Scheduler.chosen_job" s_Scheduler_chosen_job a.f_Scheduler_chosen_job a.d_Scheduler_chosen_job
  bd_Scheduler_chosen_job : Binds K a.d_Scheduler_chosen_job ["self"] []
  me_Scheduler_chosen_job : Meth K a.c_Scheduler "chosen_job" a.f_Scheduler_chosen_job
  fn_Scheduler_able_job_behind : Fun K "able_job_behind" "Scheduler.able_job_behind" s_Scheduler_able_job_behind a.f_Scheduler_able_job_behind a.d_Scheduler_able_job_behind
  bd_Scheduler_able_job_behind : Binds K a.d_Scheduler_able_job_behind ["self", "job"] []
  me_Scheduler_able_job_behind : Meth K a.c_Scheduler "able_job_behind" a.f_Scheduler_able_job_behind
  fn_Scheduler_is_able : Fun K "is_able" "Scheduler.is_able" s_Scheduler_is_able a.f_Scheduler_is_able a.d_Scheduler_is_able
  bd_Scheduler_is_able : Binds K a.d_Scheduler_is_able ["self", "job"] []
  me_Scheduler_is_able : Meth K a.c_Scheduler "is_able" a.f_Scheduler_is_able
  fn_Scheduler_do_lock_step : Fun K "do_lock_step" "Scheduler.do_lock_step" s_Scheduler_do_lock_step a.f_Scheduler_do_lock_step a.d_Scheduler_do_lock_step
  bd_Scheduler_do_lock_step : Binds K a.d_Scheduler_do_lock_step ["self", "job"] []
  me_Scheduler_do_lock_step : Meth K a.c_Scheduler "do_lock_step" a.f_Scheduler_do_lock_step
  fn_Scheduler_leave_step : Fun K "leave_step" "Scheduler.leave_step" s_Scheduler_leave_step a.f_Scheduler_leave_step a.d_Scheduler_leave_step
  bd_Scheduler_leave_step : Binds K a.d_Scheduler_leave_step ["self", "job"] []
  me_Scheduler_leave_step : Meth K a.c_Scheduler "leave_step" a.f_Scheduler_leave_step
  fn_Scheduler_ticks_alike : Fun K "ticks_alike" "Scheduler.ticks_alike" s_Scheduler_ticks_alike a.f_Scheduler_ticks_alike a.d_Scheduler_ticks_alike
  bd_Scheduler_ticks_alike : Binds K a.d_Scheduler_ticks_alike ["self", "worker", "end"] []
  me_Scheduler_ticks_alike : Meth K a.c_Scheduler "ticks_alike" a.f_Scheduler_ticks_alike
  fn_Scheduler_work : Fun K "work" "Scheduler.work" s_Scheduler_work a.f_Scheduler_work a.d_Scheduler_work
  bd_Scheduler_work : Binds K a.d_Scheduler_work ["self", "worker", "ticks"] []
  me_Scheduler_work : Meth K a.c_Scheduler "work" a.f_Scheduler_work
  fn_answers : Fun K "answers" "answers" s_answers a.f_answers a.d_answers
  bd_answers : Binds K a.d_answers ["calls"] []
  mg_answers : mg "answers" = some (.ref a.f_answers)
  fn_call_size : Fun K "call_size" "call_size" s_call_size a.f_call_size a.d_call_size
  bd_call_size : Binds K a.d_call_size ["calls", "place"] []
  mg_call_size : mg "call_size" = some (.ref a.f_call_size)
  fn_answer_call : Fun K "answer_call" "answer_call" s_answer_call a.f_answer_call a.d_answer_call
  bd_answer_call : Binds K a.d_answer_call ["scheduler", "call"] []
  mg_answer_call : mg "answer_call" = some (.ref a.f_answer_call)
  ba_answers : ∀ (s : Shared) (u : Value), BindsTo s a.d_answers ⟨[u], []⟩ [("calls", u)]
theorem mk {K : Frag} {h : Heap} {mg : Str → Option Value} (X : K.In h) (G : h.Ns mainGlobals mg)
    {t_LOCKS : Tok}
    {t_MOST_WORK : Tok}
    {t_TAKE_LOCK_0 : Tok}
    {t_GIVE_LOCK_0 : Tok}
    {t_MOST_TICKS : Tok}
    {t_MOST_TIME : Tok}
    {t_MOST_RANK : Tok}
    {t_MOST_STEPS : Tok}
    {t_NEVER : Tok}
    {t_MOST_TASKS : Tok}
    {t_MOST_TICKS_A_RUN : Tok}
    {t_NOBODY_WORKED : Tok}
    {t_NO_JOB : Tok}
    {t_ABLE_WITHOUT_LOCK : Tok}
    {t_ABLE_WITH_LOCK : Tok}
    {t_NOT_ABLE : Tok}
    {t_CLEAR : Tok}
    {t_ORDER : Tok}
    {t_TASK : Tok}
    {t_RUN : Tok}
    {t_NOW : Tok}
    {t_KNOWN : Tok}
    {t_STATE : Tok}
    {t_OWNER : Tok}
    {t_TASK_HEAD : Tok}
    {C_Task : Addr}
    {C_Job : Addr}
    {C_Scheduler : Addr}
    {f_is_work : Addr} {od_is_work an_is_work : Option Addr} {sl_is_work : Array (Option Value)} {oc_is_work kV_is_work dc_is_work pm_is_work cd_is_work ct_is_work : Value}
    {f_is_take : Addr} {od_is_take an_is_take : Option Addr} {sl_is_take : Array (Option Value)} {oc_is_take kV_is_take dc_is_take pm_is_take cd_is_take ct_is_take : Value}
    {f_is_give : Addr} {od_is_give an_is_give : Option Addr} {sl_is_give : Array (Option Value)} {oc_is_give kV_is_give dc_is_give pm_is_give cd_is_give ct_is_give : Value}
    {f_lock_of : Addr} {od_lock_of an_lock_of : Option Addr} {sl_lock_of : Array (Option Value)} {oc_lock_of kV_lock_of dc_lock_of pm_lock_of cd_lock_of ct_lock_of : Value}
    {f_locks_are_right : Addr} {od_locks_are_right an_locks_are_right : Option Addr} {sl_locks_are_right : Array (Option Value)} {oc_locks_are_right kV_locks_are_right dc_locks_are_right pm_locks_are_right cd_locks_are_right ct_locks_are_right : Value}
    {f_steps_are_right : Addr} {od_steps_are_right an_steps_are_right : Option Addr} {sl_steps_are_right : Array (Option Value)} {oc_steps_are_right kV_steps_are_right dc_steps_are_right pm_steps_are_right cd_steps_are_right ct_steps_are_right : Value}
    {f_task_is_right : Addr} {od_task_is_right an_task_is_right : Option Addr} {sl_task_is_right : Array (Option Value)} {oc_task_is_right kV_task_is_right dc_task_is_right pm_task_is_right cd_task_is_right ct_task_is_right : Value}
    {f_Task_init : Addr} {od_Task_init an_Task_init : Option Addr} {sl_Task_init : Array (Option Value)} {oc_Task_init kV_Task_init dc_Task_init pm_Task_init cd_Task_init ct_Task_init : Value}
    {f_Task_pass_coming : Addr} {od_Task_pass_coming an_Task_pass_coming : Option Addr} {sl_Task_pass_coming : Array (Option Value)} {oc_Task_pass_coming kV_Task_pass_coming dc_Task_pass_coming pm_Task_pass_coming cd_Task_pass_coming ct_Task_pass_coming : Value}
    {f_Task_count_done : Addr} {od_Task_count_done an_Task_count_done : Option Addr} {sl_Task_count_done : Array (Option Value)} {oc_Task_count_done kV_Task_count_done dc_Task_count_done pm_Task_count_done cd_Task_count_done ct_Task_count_done : Value}
    {f_Task_known : Addr} {od_Task_known an_Task_known : Option Addr} {sl_Task_known : Array (Option Value)} {oc_Task_known kV_Task_known dc_Task_known pm_Task_known cd_Task_known ct_Task_known : Value}
    {f_Job_init : Addr} {od_Job_init an_Job_init : Option Addr} {sl_Job_init : Array (Option Value)} {oc_Job_init kV_Job_init dc_Job_init pm_Job_init cd_Job_init ct_Job_init : Value}
    {f_Job_current_step : Addr} {od_Job_current_step an_Job_current_step : Option Addr} {sl_Job_current_step : Array (Option Value)} {oc_Job_current_step kV_Job_current_step dc_Job_current_step pm_Job_current_step cd_Job_current_step ct_Job_current_step : Value}
    {f_Job_work_left : Addr} {od_Job_work_left an_Job_work_left : Option Addr} {sl_Job_work_left : Array (Option Value)} {oc_Job_work_left kV_Job_work_left dc_Job_work_left pm_Job_work_left cd_Job_work_left ct_Job_work_left : Value}
    {f_Job_end_step : Addr} {od_Job_end_step an_Job_end_step : Option Addr} {sl_Job_end_step : Array (Option Value)} {oc_Job_end_step kV_Job_end_step dc_Job_end_step pm_Job_end_step cd_Job_end_step ct_Job_end_step : Value}
    {f_Job_is_done : Addr} {od_Job_is_done an_Job_is_done : Option Addr} {sl_Job_is_done : Array (Option Value)} {oc_Job_is_done kV_Job_is_done dc_Job_is_done pm_Job_is_done cd_Job_is_done ct_Job_is_done : Value}
    {f_Job_is_at_work : Addr} {od_Job_is_at_work an_Job_is_at_work : Option Addr} {sl_Job_is_at_work : Array (Option Value)} {oc_Job_is_at_work kV_Job_is_at_work dc_Job_is_at_work pm_Job_is_at_work cd_Job_is_at_work ct_Job_is_at_work : Value}
    {f_Scheduler_init : Addr} {od_Scheduler_init an_Scheduler_init : Option Addr} {sl_Scheduler_init : Array (Option Value)} {oc_Scheduler_init kV_Scheduler_init dc_Scheduler_init pm_Scheduler_init cd_Scheduler_init ct_Scheduler_init : Value}
    {f_Scheduler_set_order : Addr} {od_Scheduler_set_order an_Scheduler_set_order : Option Addr} {sl_Scheduler_set_order : Array (Option Value)} {oc_Scheduler_set_order kV_Scheduler_set_order dc_Scheduler_set_order pm_Scheduler_set_order cd_Scheduler_set_order ct_Scheduler_set_order : Value}
    {f_Scheduler_add_task : Addr} {od_Scheduler_add_task an_Scheduler_add_task : Option Addr} {sl_Scheduler_add_task : Array (Option Value)} {oc_Scheduler_add_task kV_Scheduler_add_task dc_Scheduler_add_task pm_Scheduler_add_task cd_Scheduler_add_task ct_Scheduler_add_task : Value}
    {f_Scheduler_run : Addr} {od_Scheduler_run an_Scheduler_run : Option Addr} {sl_Scheduler_run : Array (Option Value)} {oc_Scheduler_run kV_Scheduler_run dc_Scheduler_run pm_Scheduler_run cd_Scheduler_run ct_Scheduler_run : Value}
    {f_Scheduler_known : Addr} {od_Scheduler_known an_Scheduler_known : Option Addr} {sl_Scheduler_known : Array (Option Value)} {oc_Scheduler_known kV_Scheduler_known dc_Scheduler_known pm_Scheduler_known cd_Scheduler_known ct_Scheduler_known : Value}
    {f_Scheduler_state : Addr} {od_Scheduler_state an_Scheduler_state : Option Addr} {sl_Scheduler_state : Array (Option Value)} {oc_Scheduler_state kV_Scheduler_state dc_Scheduler_state pm_Scheduler_state cd_Scheduler_state ct_Scheduler_state : Value}
    {f_Scheduler_owner : Addr} {od_Scheduler_owner an_Scheduler_owner : Option Addr} {sl_Scheduler_owner : Array (Option Value)} {oc_Scheduler_owner kV_Scheduler_owner dc_Scheduler_owner pm_Scheduler_owner cd_Scheduler_owner ct_Scheduler_owner : Value}
    {f_Scheduler_is_task : Addr} {od_Scheduler_is_task an_Scheduler_is_task : Option Addr} {sl_Scheduler_is_task : Array (Option Value)} {oc_Scheduler_is_task kV_Scheduler_is_task dc_Scheduler_is_task pm_Scheduler_is_task cd_Scheduler_is_task ct_Scheduler_is_task : Value}
    {f_Scheduler_let_jobs_come : Addr} {od_Scheduler_let_jobs_come an_Scheduler_let_jobs_come : Option Addr} {sl_Scheduler_let_jobs_come : Array (Option Value)} {oc_Scheduler_let_jobs_come kV_Scheduler_let_jobs_come dc_Scheduler_let_jobs_come pm_Scheduler_let_jobs_come cd_Scheduler_let_jobs_come ct_Scheduler_let_jobs_come : Value}
    {f_Scheduler_new_job : Addr} {od_Scheduler_new_job an_Scheduler_new_job : Option Addr} {sl_Scheduler_new_job : Array (Option Value)} {oc_Scheduler_new_job kV_Scheduler_new_job dc_Scheduler_new_job pm_Scheduler_new_job cd_Scheduler_new_job ct_Scheduler_new_job : Value}
    {f_Scheduler_tell_late : Addr} {od_Scheduler_tell_late an_Scheduler_tell_late : Option Addr} {sl_Scheduler_tell_late : Array (Option Value)} {oc_Scheduler_tell_late kV_Scheduler_tell_late dc_Scheduler_tell_late pm_Scheduler_tell_late cd_Scheduler_tell_late ct_Scheduler_tell_late : Value}
    {f_Scheduler_find_worker : Addr} {od_Scheduler_find_worker an_Scheduler_find_worker : Option Addr} {sl_Scheduler_find_worker : Array (Option Value)} {oc_Scheduler_find_worker kV_Scheduler_find_worker dc_Scheduler_find_worker pm_Scheduler_find_worker cd_Scheduler_find_worker ct_Scheduler_find_worker : Value}
    {f_Scheduler_chosen_job : Addr} {od_Scheduler_chosen_job an_Scheduler_chosen_job : Option Addr} {sl_Scheduler_chosen_job : Array (Option Value)} {oc_Scheduler_chosen_job kV_Scheduler_chosen_job dc_Scheduler_chosen_job pm_Scheduler_chosen_job cd_Scheduler_chosen_job ct_Scheduler_chosen_job : Value}
    {f_Scheduler_able_job_behind : Addr} {od_Scheduler_able_job_behind an_Scheduler_able_job_behind : Option Addr} {sl_Scheduler_able_job_behind : Array (Option Value)} {oc_Scheduler_able_job_behind kV_Scheduler_able_job_behind dc_Scheduler_able_job_behind pm_Scheduler_able_job_behind cd_Scheduler_able_job_behind ct_Scheduler_able_job_behind : Value}
    {f_Scheduler_is_able : Addr} {od_Scheduler_is_able an_Scheduler_is_able : Option Addr} {sl_Scheduler_is_able : Array (Option Value)} {oc_Scheduler_is_able kV_Scheduler_is_able dc_Scheduler_is_able pm_Scheduler_is_able cd_Scheduler_is_able ct_Scheduler_is_able : Value}
    {f_Scheduler_do_lock_step : Addr} {od_Scheduler_do_lock_step an_Scheduler_do_lock_step : Option Addr} {sl_Scheduler_do_lock_step : Array (Option Value)} {oc_Scheduler_do_lock_step kV_Scheduler_do_lock_step dc_Scheduler_do_lock_step pm_Scheduler_do_lock_step cd_Scheduler_do_lock_step ct_Scheduler_do_lock_step : Value}
    {f_Scheduler_leave_step : Addr} {od_Scheduler_leave_step an_Scheduler_leave_step : Option Addr} {sl_Scheduler_leave_step : Array (Option Value)} {oc_Scheduler_leave_step kV_Scheduler_leave_step dc_Scheduler_leave_step pm_Scheduler_leave_step cd_Scheduler_leave_step ct_Scheduler_leave_step : Value}
    {f_Scheduler_ticks_alike : Addr} {od_Scheduler_ticks_alike an_Scheduler_ticks_alike : Option Addr} {sl_Scheduler_ticks_alike : Array (Option Value)} {oc_Scheduler_ticks_alike kV_Scheduler_ticks_alike dc_Scheduler_ticks_alike pm_Scheduler_ticks_alike cd_Scheduler_ticks_alike ct_Scheduler_ticks_alike : Value}
    {f_Scheduler_work : Addr} {od_Scheduler_work an_Scheduler_work : Option Addr} {sl_Scheduler_work : Array (Option Value)} {oc_Scheduler_work kV_Scheduler_work dc_Scheduler_work pm_Scheduler_work cd_Scheduler_work ct_Scheduler_work : Value}
    {f_answers : Addr} {od_answers an_answers : Option Addr} {sl_answers : Array (Option Value)} {oc_answers kV_answers dc_answers pm_answers cd_answers ct_answers : Value}
    {f_call_size : Addr} {od_call_size an_call_size : Option Addr} {sl_call_size : Array (Option Value)} {oc_call_size kV_call_size dc_call_size pm_call_size cd_call_size ct_call_size : Value}
    {f_answer_call : Addr} {od_answer_call an_answer_call : Option Addr} {sl_answer_call : Array (Option Value)} {oc_answer_call kV_answer_call dc_answer_call pm_answer_call cd_answer_call ct_answer_call : Value}
    (e_LOCKS : nsIn K mainGlobals "LOCKS" = some (some (.int (16) t_LOCKS)))
    (e_MOST_WORK : nsIn K mainGlobals "MOST_WORK" = some (some (.int (10000) t_MOST_WORK)))
    (e_TAKE_LOCK_0 : nsIn K mainGlobals "TAKE_LOCK_0" = some (some (.int (20000) t_TAKE_LOCK_0)))
    (e_GIVE_LOCK_0 : nsIn K mainGlobals "GIVE_LOCK_0" = some (some (.int (30000) t_GIVE_LOCK_0)))
    (e_MOST_TICKS : nsIn K mainGlobals "MOST_TICKS" = some (some (.int (1000000000) t_MOST_TICKS)))
    (e_MOST_TIME : nsIn K mainGlobals "MOST_TIME" = some (some (.int (1000000) t_MOST_TIME)))
    (e_MOST_RANK : nsIn K mainGlobals "MOST_RANK" = some (some (.int (255) t_MOST_RANK)))
    (e_MOST_STEPS : nsIn K mainGlobals "MOST_STEPS" = some (some (.int (64) t_MOST_STEPS)))
    (e_NEVER : nsIn K mainGlobals "NEVER" = some (some (.int (2000000000) t_NEVER)))
    (e_MOST_TASKS : nsIn K mainGlobals "MOST_TASKS" = some (some (.int (32) t_MOST_TASKS)))
    (e_MOST_TICKS_A_RUN : nsIn K mainGlobals "MOST_TICKS_A_RUN" = some (some (.int (100000) t_MOST_TICKS_A_RUN)))
    (e_NOBODY_WORKED : nsIn K mainGlobals "NOBODY_WORKED" = some (some (.int (255) t_NOBODY_WORKED)))
    (e_NO_JOB : nsIn K mainGlobals "NO_JOB" = some (some (.int (0) t_NO_JOB)))
    (e_ABLE_WITHOUT_LOCK : nsIn K mainGlobals "ABLE_WITHOUT_LOCK" = some (some (.int (1) t_ABLE_WITHOUT_LOCK)))
    (e_ABLE_WITH_LOCK : nsIn K mainGlobals "ABLE_WITH_LOCK" = some (some (.int (2) t_ABLE_WITH_LOCK)))
    (e_NOT_ABLE : nsIn K mainGlobals "NOT_ABLE" = some (some (.int (3) t_NOT_ABLE)))
    (e_CLEAR : nsIn K mainGlobals "CLEAR" = some (some (.int (1) t_CLEAR)))
    (e_ORDER : nsIn K mainGlobals "ORDER" = some (some (.int (2) t_ORDER)))
    (e_TASK : nsIn K mainGlobals "TASK" = some (some (.int (3) t_TASK)))
    (e_RUN : nsIn K mainGlobals "RUN" = some (some (.int (4) t_RUN)))
    (e_NOW : nsIn K mainGlobals "NOW" = some (some (.int (5) t_NOW)))
    (e_KNOWN : nsIn K mainGlobals "KNOWN" = some (some (.int (6) t_KNOWN)))
    (e_STATE : nsIn K mainGlobals "STATE" = some (some (.int (7) t_STATE)))
    (e_OWNER : nsIn K mainGlobals "OWNER" = some (some (.int (8) t_OWNER)))
    (e_TASK_HEAD : nsIn K mainGlobals "TASK_HEAD" = some (some (.int (6) t_TASK_HEAD)))
    (z_len : nsIn K mainGlobals "len" = some none)
    (z_all : nsIn K mainGlobals "all" = some none)
    (z_any : nsIn K mainGlobals "any" = some none)
    (z_max : nsIn K mainGlobals "max" = some none)
    (z_enumerate : nsIn K mainGlobals "enumerate" = some none)
    (z_min : nsIn K mainGlobals "min" = some none)
    (a_Task : nsIn K mainGlobals "Task" = some (some (.ref C_Task)))
    (pg_Task : plainGet K C_Task Str.empty = true)
    (hd_Task : hasDictIn K C_Task = true)
    (po_Task : plainOver K C_Task = true)
    (sa_Task : findIn K (.ref C_Task) "__setattr__" = some (some (.builtin "object.__setattr__")))
    (mk_Task : makesIn K C_Task = true)
    (kc_Task : keepIn K (.ref C_Task) = true)
    (na_Task_period : findIn K (.ref C_Task) "period" = some none)
    (na_Task_deadline : findIn K (.ref C_Task) "deadline" = some none)
    (na_Task_rank : findIn K (.ref C_Task) "rank" = some none)
    (na_Task_steps : findIn K (.ref C_Task) "steps" = some none)
    (na_Task_comes_at : findIn K (.ref C_Task) "comes_at" = some none)
    (na_Task_jobs_done : findIn K (.ref C_Task) "jobs_done" = some none)
    (na_Task_missed_deadlines : findIn K (.ref C_Task) "missed_deadlines" = some none)
    (na_Task_jobs_left_out : findIn K (.ref C_Task) "jobs_left_out" = some none)
    (na_Task_longest : findIn K (.ref C_Task) "longest" = some none)
    (a_Job : nsIn K mainGlobals "Job" = some (some (.ref C_Job)))
    (pg_Job : plainGet K C_Job Str.empty = true)
    (hd_Job : hasDictIn K C_Job = true)
    (po_Job : plainOver K C_Job = true)
    (sa_Job : findIn K (.ref C_Job) "__setattr__" = some (some (.builtin "object.__setattr__")))
    (mk_Job : makesIn K C_Job = true)
    (kc_Job : keepIn K (.ref C_Job) = true)
    (na_Job_number : findIn K (.ref C_Job) "number" = some none)
    (na_Job_steps : findIn K (.ref C_Job) "steps" = some none)
    (na_Job_came_at : findIn K (.ref C_Job) "came_at" = some none)
    (na_Job_late_at : findIn K (.ref C_Job) "late_at" = some none)
    (na_Job_own_urgency : findIn K (.ref C_Job) "own_urgency" = some none)
    (na_Job_place : findIn K (.ref C_Job) "place" = some none)
    (na_Job_worked : findIn K (.ref C_Job) "worked" = some none)
    (na_Job_waits_for : findIn K (.ref C_Job) "waits_for" = some none)
    (a_Scheduler : nsIn K mainGlobals "Scheduler" = some (some (.ref C_Scheduler)))
    (pg_Scheduler : plainGet K C_Scheduler Str.empty = true)
    (hd_Scheduler : hasDictIn K C_Scheduler = true)
    (po_Scheduler : plainOver K C_Scheduler = true)
    (sa_Scheduler : findIn K (.ref C_Scheduler) "__setattr__" = some (some (.builtin "object.__setattr__")))
    (mk_Scheduler : makesIn K C_Scheduler = true)
    (kc_Scheduler : keepIn K (.ref C_Scheduler) = true)
    (na_Scheduler_by_deadline : findIn K (.ref C_Scheduler) "by_deadline" = some none)
    (na_Scheduler_now : findIn K (.ref C_Scheduler) "now" = some none)
    (na_Scheduler_tasks : findIn K (.ref C_Scheduler) "tasks" = some none)
    (na_Scheduler_jobs : findIn K (.ref C_Scheduler) "jobs" = some none)
    (na_Scheduler_owners : findIn K (.ref C_Scheduler) "owners" = some none)
    (a_is_work : nsIn K mainGlobals "is_work" = some (some (.ref f_is_work)))
    (l_is_work : K.lookup f_is_work = some ⟨oc_is_work, od_is_work, .func (fnOf "is_work" "is_work" (defArgs s_is_work) (defBody s_is_work) (defScope s_is_work) .none kV_is_work dc_is_work pm_is_work an_is_work cd_is_work ct_is_work), sl_is_work⟩)
    (c_is_work : codeIn K cd_is_work "is_work" = true)
    (k_is_work : keepIn K (.ref f_is_work) = true)
    (a_is_take : nsIn K mainGlobals "is_take" = some (some (.ref f_is_take)))
    (l_is_take : K.lookup f_is_take = some ⟨oc_is_take, od_is_take, .func (fnOf "is_take" "is_take" (defArgs s_is_take) (defBody s_is_take) (defScope s_is_take) .none kV_is_take dc_is_take pm_is_take an_is_take cd_is_take ct_is_take), sl_is_take⟩)
    (c_is_take : codeIn K cd_is_take "is_take" = true)
    (k_is_take : keepIn K (.ref f_is_take) = true)
    (a_is_give : nsIn K mainGlobals "is_give" = some (some (.ref f_is_give)))
    (l_is_give : K.lookup f_is_give = some ⟨oc_is_give, od_is_give, .func (fnOf "is_give" "is_give" (defArgs s_is_give) (defBody s_is_give) (defScope s_is_give) .none kV_is_give dc_is_give pm_is_give an_is_give cd_is_give ct_is_give), sl_is_give⟩)
    (c_is_give : codeIn K cd_is_give "is_give" = true)
    (k_is_give : keepIn K (.ref f_is_give) = true)
    (a_lock_of : nsIn K mainGlobals "lock_of" = some (some (.ref f_lock_of)))
    (l_lock_of : K.lookup f_lock_of = some ⟨oc_lock_of, od_lock_of, .func (fnOf "lock_of" "lock_of" (defArgs s_lock_of) (defBody s_lock_of) (defScope s_lock_of) .none kV_lock_of dc_lock_of pm_lock_of an_lock_of cd_lock_of ct_lock_of), sl_lock_of⟩)
    (c_lock_of : codeIn K cd_lock_of "lock_of" = true)
    (k_lock_of : keepIn K (.ref f_lock_of) = true)
    (a_locks_are_right : nsIn K mainGlobals "locks_are_right" = some (some (.ref f_locks_are_right)))
    (l_locks_are_right : K.lookup f_locks_are_right = some ⟨oc_locks_are_right, od_locks_are_right, .func (fnOf "locks_are_right" "locks_are_right" (defArgs s_locks_are_right) (defBody s_locks_are_right) (defScope s_locks_are_right) .none kV_locks_are_right dc_locks_are_right pm_locks_are_right an_locks_are_right cd_locks_are_right ct_locks_are_right), sl_locks_are_right⟩)
    (c_locks_are_right : codeIn K cd_locks_are_right "locks_are_right" = true)
    (k_locks_are_right : keepIn K (.ref f_locks_are_right) = true)
    (a_steps_are_right : nsIn K mainGlobals "steps_are_right" = some (some (.ref f_steps_are_right)))
    (l_steps_are_right : K.lookup f_steps_are_right = some ⟨oc_steps_are_right, od_steps_are_right, .func (fnOf "steps_are_right" "steps_are_right" (defArgs s_steps_are_right) (defBody s_steps_are_right) (defScope s_steps_are_right) .none kV_steps_are_right dc_steps_are_right pm_steps_are_right an_steps_are_right cd_steps_are_right ct_steps_are_right), sl_steps_are_right⟩)
    (c_steps_are_right : codeIn K cd_steps_are_right "steps_are_right" = true)
    (k_steps_are_right : keepIn K (.ref f_steps_are_right) = true)
    (a_task_is_right : nsIn K mainGlobals "task_is_right" = some (some (.ref f_task_is_right)))
    (l_task_is_right : K.lookup f_task_is_right = some ⟨oc_task_is_right, od_task_is_right, .func (fnOf "task_is_right" "task_is_right" (defArgs s_task_is_right) (defBody s_task_is_right) (defScope s_task_is_right) .none kV_task_is_right dc_task_is_right pm_task_is_right an_task_is_right cd_task_is_right ct_task_is_right), sl_task_is_right⟩)
    (c_task_is_right : codeIn K cd_task_is_right "task_is_right" = true)
    (k_task_is_right : keepIn K (.ref f_task_is_right) = true)
    (a_Task_init : findIn K (.ref C_Task) "__init__" = some (some (.ref f_Task_init)))
    (i_Task_init : isFn K (.ref f_Task_init) = true)
    (l_Task_init : K.lookup f_Task_init = some ⟨oc_Task_init, od_Task_init, .func (fnOf "__init__" "Task.__init__" (defArgs s_Task_init) (defBody s_Task_init) (defScope s_Task_init) .none kV_Task_init dc_Task_init pm_Task_init an_Task_init cd_Task_init ct_Task_init), sl_Task_init⟩)
    (c_Task_init : codeIn K cd_Task_init "Task.__init__" = true)
    (k_Task_init : keepIn K (.ref f_Task_init) = true)
    (a_Task_pass_coming : findIn K (.ref C_Task) "pass_coming" = some (some (.ref f_Task_pass_coming)))
    (i_Task_pass_coming : isFn K (.ref f_Task_pass_coming) = true)
    (l_Task_pass_coming : K.lookup f_Task_pass_coming = some ⟨oc_Task_pass_coming, od_Task_pass_coming, .func (fnOf "pass_coming" "Task.pass_coming" (defArgs s_Task_pass_coming) (defBody s_Task_pass_coming) (defScope s_Task_pass_coming) .none kV_Task_pass_coming dc_Task_pass_coming pm_Task_pass_coming an_Task_pass_coming cd_Task_pass_coming ct_Task_pass_coming), sl_Task_pass_coming⟩)
    (c_Task_pass_coming : codeIn K cd_Task_pass_coming "Task.pass_coming" = true)
    (k_Task_pass_coming : keepIn K (.ref f_Task_pass_coming) = true)
    (a_Task_count_done : findIn K (.ref C_Task) "count_done" = some (some (.ref f_Task_count_done)))
    (i_Task_count_done : isFn K (.ref f_Task_count_done) = true)
    (l_Task_count_done : K.lookup f_Task_count_done = some ⟨oc_Task_count_done, od_Task_count_done, .func (fnOf "count_done" "Task.count_done" (defArgs s_Task_count_done) (defBody s_Task_count_done) (defScope s_Task_count_done) .none kV_Task_count_done dc_Task_count_done pm_Task_count_done an_Task_count_done cd_Task_count_done ct_Task_count_done), sl_Task_count_done⟩)
    (c_Task_count_done : codeIn K cd_Task_count_done "Task.count_done" = true)
    (k_Task_count_done : keepIn K (.ref f_Task_count_done) = true)
    (a_Task_known : findIn K (.ref C_Task) "known" = some (some (.ref f_Task_known)))
    (i_Task_known : isFn K (.ref f_Task_known) = true)
    (l_Task_known : K.lookup f_Task_known = some ⟨oc_Task_known, od_Task_known, .func (fnOf "known" "Task.known" (defArgs s_Task_known) (defBody s_Task_known) (defScope s_Task_known) .none kV_Task_known dc_Task_known pm_Task_known an_Task_known cd_Task_known ct_Task_known), sl_Task_known⟩)
    (c_Task_known : codeIn K cd_Task_known "Task.known" = true)
    (k_Task_known : keepIn K (.ref f_Task_known) = true)
    (a_Job_init : findIn K (.ref C_Job) "__init__" = some (some (.ref f_Job_init)))
    (i_Job_init : isFn K (.ref f_Job_init) = true)
    (l_Job_init : K.lookup f_Job_init = some ⟨oc_Job_init, od_Job_init, .func (fnOf "__init__" "Job.__init__" (defArgs s_Job_init) (defBody s_Job_init) (defScope s_Job_init) .none kV_Job_init dc_Job_init pm_Job_init an_Job_init cd_Job_init ct_Job_init), sl_Job_init⟩)
    (c_Job_init : codeIn K cd_Job_init "Job.__init__" = true)
    (k_Job_init : keepIn K (.ref f_Job_init) = true)
    (a_Job_current_step : findIn K (.ref C_Job) "current_step" = some (some (.ref f_Job_current_step)))
    (i_Job_current_step : isFn K (.ref f_Job_current_step) = true)
    (l_Job_current_step : K.lookup f_Job_current_step = some ⟨oc_Job_current_step, od_Job_current_step, .func (fnOf "current_step" "Job.current_step" (defArgs s_Job_current_step) (defBody s_Job_current_step) (defScope s_Job_current_step) .none kV_Job_current_step dc_Job_current_step pm_Job_current_step an_Job_current_step cd_Job_current_step ct_Job_current_step), sl_Job_current_step⟩)
    (c_Job_current_step : codeIn K cd_Job_current_step "Job.current_step" = true)
    (k_Job_current_step : keepIn K (.ref f_Job_current_step) = true)
    (a_Job_work_left : findIn K (.ref C_Job) "work_left" = some (some (.ref f_Job_work_left)))
    (i_Job_work_left : isFn K (.ref f_Job_work_left) = true)
    (l_Job_work_left : K.lookup f_Job_work_left = some ⟨oc_Job_work_left, od_Job_work_left, .func (fnOf "work_left" "Job.work_left" (defArgs s_Job_work_left) (defBody s_Job_work_left) (defScope s_Job_work_left) .none kV_Job_work_left dc_Job_work_left pm_Job_work_left an_Job_work_left cd_Job_work_left ct_Job_work_left), sl_Job_work_left⟩)
    (c_Job_work_left : codeIn K cd_Job_work_left "Job.work_left" = true)
    (k_Job_work_left : keepIn K (.ref f_Job_work_left) = true)
    (a_Job_end_step : findIn K (.ref C_Job) "end_step" = some (some (.ref f_Job_end_step)))
    (i_Job_end_step : isFn K (.ref f_Job_end_step) = true)
    (l_Job_end_step : K.lookup f_Job_end_step = some ⟨oc_Job_end_step, od_Job_end_step, .func (fnOf "end_step" "Job.end_step" (defArgs s_Job_end_step) (defBody s_Job_end_step) (defScope s_Job_end_step) .none kV_Job_end_step dc_Job_end_step pm_Job_end_step an_Job_end_step cd_Job_end_step ct_Job_end_step), sl_Job_end_step⟩)
    (c_Job_end_step : codeIn K cd_Job_end_step "Job.end_step" = true)
    (k_Job_end_step : keepIn K (.ref f_Job_end_step) = true)
    (a_Job_is_done : findIn K (.ref C_Job) "is_done" = some (some (.ref f_Job_is_done)))
    (i_Job_is_done : isFn K (.ref f_Job_is_done) = true)
    (l_Job_is_done : K.lookup f_Job_is_done = some ⟨oc_Job_is_done, od_Job_is_done, .func (fnOf "is_done" "Job.is_done" (defArgs s_Job_is_done) (defBody s_Job_is_done) (defScope s_Job_is_done) .none kV_Job_is_done dc_Job_is_done pm_Job_is_done an_Job_is_done cd_Job_is_done ct_Job_is_done), sl_Job_is_done⟩)
    (c_Job_is_done : codeIn K cd_Job_is_done "Job.is_done" = true)
    (k_Job_is_done : keepIn K (.ref f_Job_is_done) = true)
    (a_Job_is_at_work : findIn K (.ref C_Job) "is_at_work" = some (some (.ref f_Job_is_at_work)))
    (i_Job_is_at_work : isFn K (.ref f_Job_is_at_work) = true)
    (l_Job_is_at_work : K.lookup f_Job_is_at_work = some ⟨oc_Job_is_at_work, od_Job_is_at_work, .func (fnOf "is_at_work" "Job.is_at_work" (defArgs s_Job_is_at_work) (defBody s_Job_is_at_work) (defScope s_Job_is_at_work) .none kV_Job_is_at_work dc_Job_is_at_work pm_Job_is_at_work an_Job_is_at_work cd_Job_is_at_work ct_Job_is_at_work), sl_Job_is_at_work⟩)
    (c_Job_is_at_work : codeIn K cd_Job_is_at_work "Job.is_at_work" = true)
    (k_Job_is_at_work : keepIn K (.ref f_Job_is_at_work) = true)
    (a_Scheduler_init : findIn K (.ref C_Scheduler) "__init__" = some (some (.ref f_Scheduler_init)))
    (i_Scheduler_init : isFn K (.ref f_Scheduler_init) = true)
    (l_Scheduler_init : K.lookup f_Scheduler_init = some ⟨oc_Scheduler_init, od_Scheduler_init, .func (fnOf "__init__" "Scheduler.__init__" (defArgs s_Scheduler_init) (defBody s_Scheduler_init) (defScope s_Scheduler_init) .none kV_Scheduler_init dc_Scheduler_init pm_Scheduler_init an_Scheduler_init cd_Scheduler_init ct_Scheduler_init), sl_Scheduler_init⟩)
    (c_Scheduler_init : codeIn K cd_Scheduler_init "Scheduler.__init__" = true)
    (k_Scheduler_init : keepIn K (.ref f_Scheduler_init) = true)
    (a_Scheduler_set_order : findIn K (.ref C_Scheduler) "set_order" = some (some (.ref f_Scheduler_set_order)))
    (i_Scheduler_set_order : isFn K (.ref f_Scheduler_set_order) = true)
    (l_Scheduler_set_order : K.lookup f_Scheduler_set_order = some ⟨oc_Scheduler_set_order, od_Scheduler_set_order, .func (fnOf "set_order" "Scheduler.set_order" (defArgs s_Scheduler_set_order) (defBody s_Scheduler_set_order) (defScope s_Scheduler_set_order) .none kV_Scheduler_set_order dc_Scheduler_set_order pm_Scheduler_set_order an_Scheduler_set_order cd_Scheduler_set_order ct_Scheduler_set_order), sl_Scheduler_set_order⟩)
    (c_Scheduler_set_order : codeIn K cd_Scheduler_set_order "Scheduler.set_order" = true)
    (k_Scheduler_set_order : keepIn K (.ref f_Scheduler_set_order) = true)
    (a_Scheduler_add_task : findIn K (.ref C_Scheduler) "add_task" = some (some (.ref f_Scheduler_add_task)))
    (i_Scheduler_add_task : isFn K (.ref f_Scheduler_add_task) = true)
    (l_Scheduler_add_task : K.lookup f_Scheduler_add_task = some ⟨oc_Scheduler_add_task, od_Scheduler_add_task, .func (fnOf "add_task" "Scheduler.add_task" (defArgs s_Scheduler_add_task) (defBody s_Scheduler_add_task) (defScope s_Scheduler_add_task) .none kV_Scheduler_add_task dc_Scheduler_add_task pm_Scheduler_add_task an_Scheduler_add_task cd_Scheduler_add_task ct_Scheduler_add_task), sl_Scheduler_add_task⟩)
    (c_Scheduler_add_task : codeIn K cd_Scheduler_add_task "Scheduler.add_task" = true)
    (k_Scheduler_add_task : keepIn K (.ref f_Scheduler_add_task) = true)
    (a_Scheduler_run : findIn K (.ref C_Scheduler) "run" = some (some (.ref f_Scheduler_run)))
    (i_Scheduler_run : isFn K (.ref f_Scheduler_run) = true)
    (l_Scheduler_run : K.lookup f_Scheduler_run = some ⟨oc_Scheduler_run, od_Scheduler_run, .func (fnOf "run" "Scheduler.run" (defArgs s_Scheduler_run) (defBody s_Scheduler_run) (defScope s_Scheduler_run) .none kV_Scheduler_run dc_Scheduler_run pm_Scheduler_run an_Scheduler_run cd_Scheduler_run ct_Scheduler_run), sl_Scheduler_run⟩)
    (c_Scheduler_run : codeIn K cd_Scheduler_run "Scheduler.run" = true)
    (k_Scheduler_run : keepIn K (.ref f_Scheduler_run) = true)
    (a_Scheduler_known : findIn K (.ref C_Scheduler) "known" = some (some (.ref f_Scheduler_known)))
    (i_Scheduler_known : isFn K (.ref f_Scheduler_known) = true)
    (l_Scheduler_known : K.lookup f_Scheduler_known = some ⟨oc_Scheduler_known, od_Scheduler_known, .func (fnOf "known" "Scheduler.known" (defArgs s_Scheduler_known) (defBody s_Scheduler_known) (defScope s_Scheduler_known) .none kV_Scheduler_known dc_Scheduler_known pm_Scheduler_known an_Scheduler_known cd_Scheduler_known ct_Scheduler_known), sl_Scheduler_known⟩)
    (c_Scheduler_known : codeIn K cd_Scheduler_known "Scheduler.known" = true)
    (k_Scheduler_known : keepIn K (.ref f_Scheduler_known) = true)
    (a_Scheduler_state : findIn K (.ref C_Scheduler) "state" = some (some (.ref f_Scheduler_state)))
    (i_Scheduler_state : isFn K (.ref f_Scheduler_state) = true)
    (l_Scheduler_state : K.lookup f_Scheduler_state = some ⟨oc_Scheduler_state, od_Scheduler_state, .func (fnOf "state" "Scheduler.state" (defArgs s_Scheduler_state) (defBody s_Scheduler_state) (defScope s_Scheduler_state) .none kV_Scheduler_state dc_Scheduler_state pm_Scheduler_state an_Scheduler_state cd_Scheduler_state ct_Scheduler_state), sl_Scheduler_state⟩)
    (c_Scheduler_state : codeIn K cd_Scheduler_state "Scheduler.state" = true)
    (k_Scheduler_state : keepIn K (.ref f_Scheduler_state) = true)
    (a_Scheduler_owner : findIn K (.ref C_Scheduler) "owner" = some (some (.ref f_Scheduler_owner)))
    (i_Scheduler_owner : isFn K (.ref f_Scheduler_owner) = true)
    (l_Scheduler_owner : K.lookup f_Scheduler_owner = some ⟨oc_Scheduler_owner, od_Scheduler_owner, .func (fnOf "owner" "Scheduler.owner" (defArgs s_Scheduler_owner) (defBody s_Scheduler_owner) (defScope s_Scheduler_owner) .none kV_Scheduler_owner dc_Scheduler_owner pm_Scheduler_owner an_Scheduler_owner cd_Scheduler_owner ct_Scheduler_owner), sl_Scheduler_owner⟩)
    (c_Scheduler_owner : codeIn K cd_Scheduler_owner "Scheduler.owner" = true)
    (k_Scheduler_owner : keepIn K (.ref f_Scheduler_owner) = true)
    (a_Scheduler_is_task : findIn K (.ref C_Scheduler) "is_task" = some (some (.ref f_Scheduler_is_task)))
    (i_Scheduler_is_task : isFn K (.ref f_Scheduler_is_task) = true)
    (l_Scheduler_is_task : K.lookup f_Scheduler_is_task = some ⟨oc_Scheduler_is_task, od_Scheduler_is_task, .func (fnOf "is_task" "Scheduler.is_task" (defArgs s_Scheduler_is_task) (defBody s_Scheduler_is_task) (defScope s_Scheduler_is_task) .none kV_Scheduler_is_task dc_Scheduler_is_task pm_Scheduler_is_task an_Scheduler_is_task cd_Scheduler_is_task ct_Scheduler_is_task), sl_Scheduler_is_task⟩)
    (c_Scheduler_is_task : codeIn K cd_Scheduler_is_task "Scheduler.is_task" = true)
    (k_Scheduler_is_task : keepIn K (.ref f_Scheduler_is_task) = true)
    (a_Scheduler_let_jobs_come : findIn K (.ref C_Scheduler) "let_jobs_come" = some (some (.ref f_Scheduler_let_jobs_come)))
    (i_Scheduler_let_jobs_come : isFn K (.ref f_Scheduler_let_jobs_come) = true)
    (l_Scheduler_let_jobs_come : K.lookup f_Scheduler_let_jobs_come = some ⟨oc_Scheduler_let_jobs_come, od_Scheduler_let_jobs_come, .func (fnOf "let_jobs_come" "Scheduler.let_jobs_come" (defArgs s_Scheduler_let_jobs_come) (defBody s_Scheduler_let_jobs_come) (defScope s_Scheduler_let_jobs_come) .none kV_Scheduler_let_jobs_come dc_Scheduler_let_jobs_come pm_Scheduler_let_jobs_come an_Scheduler_let_jobs_come cd_Scheduler_let_jobs_come ct_Scheduler_let_jobs_come), sl_Scheduler_let_jobs_come⟩)
    (c_Scheduler_let_jobs_come : codeIn K cd_Scheduler_let_jobs_come "Scheduler.let_jobs_come" = true)
    (k_Scheduler_let_jobs_come : keepIn K (.ref f_Scheduler_let_jobs_come) = true)
    (a_Scheduler_new_job : findIn K (.ref C_Scheduler) "new_job" = some (some (.ref f_Scheduler_new_job)))
    (i_Scheduler_new_job : isFn K (.ref f_Scheduler_new_job) = true)
    (l_Scheduler_new_job : K.lookup f_Scheduler_new_job = some ⟨oc_Scheduler_new_job, od_Scheduler_new_job, .func (fnOf "new_job" "Scheduler.new_job" (defArgs s_Scheduler_new_job) (defBody s_Scheduler_new_job) (defScope s_Scheduler_new_job) .none kV_Scheduler_new_job dc_Scheduler_new_job pm_Scheduler_new_job an_Scheduler_new_job cd_Scheduler_new_job ct_Scheduler_new_job), sl_Scheduler_new_job⟩)
    (c_Scheduler_new_job : codeIn K cd_Scheduler_new_job "Scheduler.new_job" = true)
    (k_Scheduler_new_job : keepIn K (.ref f_Scheduler_new_job) = true)
    (a_Scheduler_tell_late : findIn K (.ref C_Scheduler) "tell_late" = some (some (.ref f_Scheduler_tell_late)))
    (i_Scheduler_tell_late : isFn K (.ref f_Scheduler_tell_late) = true)
    (l_Scheduler_tell_late : K.lookup f_Scheduler_tell_late = some ⟨oc_Scheduler_tell_late, od_Scheduler_tell_late, .func (fnOf "tell_late" "Scheduler.tell_late" (defArgs s_Scheduler_tell_late) (defBody s_Scheduler_tell_late) (defScope s_Scheduler_tell_late) .none kV_Scheduler_tell_late dc_Scheduler_tell_late pm_Scheduler_tell_late an_Scheduler_tell_late cd_Scheduler_tell_late ct_Scheduler_tell_late), sl_Scheduler_tell_late⟩)
    (c_Scheduler_tell_late : codeIn K cd_Scheduler_tell_late "Scheduler.tell_late" = true)
    (k_Scheduler_tell_late : keepIn K (.ref f_Scheduler_tell_late) = true)
    (a_Scheduler_find_worker : findIn K (.ref C_Scheduler) "find_worker" = some (some (.ref f_Scheduler_find_worker)))
    (i_Scheduler_find_worker : isFn K (.ref f_Scheduler_find_worker) = true)
    (l_Scheduler_find_worker : K.lookup f_Scheduler_find_worker = some ⟨oc_Scheduler_find_worker, od_Scheduler_find_worker, .func (fnOf "find_worker" "Scheduler.find_worker" (defArgs s_Scheduler_find_worker) (defBody s_Scheduler_find_worker) (defScope s_Scheduler_find_worker) .none kV_Scheduler_find_worker dc_Scheduler_find_worker pm_Scheduler_find_worker an_Scheduler_find_worker cd_Scheduler_find_worker ct_Scheduler_find_worker), sl_Scheduler_find_worker⟩)
    (c_Scheduler_find_worker : codeIn K cd_Scheduler_find_worker "Scheduler.find_worker" = true)
    (k_Scheduler_find_worker : keepIn K (.ref f_Scheduler_find_worker) = true)
    (a_Scheduler_chosen_job : findIn K (.ref C_Scheduler) "chosen_job" = some (some (.ref f_Scheduler_chosen_job)))
    (i_Scheduler_chosen_job : isFn K (.ref f_Scheduler_chosen_job) = true)
    (l_Scheduler_chosen_job : K.lookup f_Scheduler_chosen_job = some ⟨oc_Scheduler_chosen_job, od_Scheduler_chosen_job, .func (fnOf "chosen_job" "Scheduler.chosen_job" (defArgs s_Scheduler_chosen_job) (defBody s_Scheduler_chosen_job) (defScope s_Scheduler_chosen_job) .none kV_Scheduler_chosen_job dc_Scheduler_chosen_job pm_Scheduler_chosen_job an_Scheduler_chosen_job cd_Scheduler_chosen_job ct_Scheduler_chosen_job), sl_Scheduler_chosen_job⟩)
    (c_Scheduler_chosen_job : codeIn K cd_Scheduler_chosen_job "Scheduler.chosen_job" = true)
    (k_Scheduler_chosen_job : keepIn K (.ref f_Scheduler_chosen_job) = true)
    (a_Scheduler_able_job_behind : findIn K (.ref C_Scheduler) "able_job_behind" = some (some (.ref f_Scheduler_able_job_behind)))
    (i_Scheduler_able_job_behind : isFn K (.ref f_Scheduler_able_job_behind) = true)
    (l_Scheduler_able_job_behind : K.lookup f_Scheduler_able_job_behind = some ⟨oc_Scheduler_able_job_behind, od_Scheduler_able_job_behind, .func (fnOf "able_job_behind" "Scheduler.able_job_behind" (defArgs s_Scheduler_able_job_behind) (defBody s_Scheduler_able_job_behind) (defScope s_Scheduler_able_job_behind) .none kV_Scheduler_able_job_behind dc_Scheduler_able_job_behind pm_Scheduler_able_job_behind an_Scheduler_able_job_behind cd_Scheduler_able_job_behind ct_Scheduler_able_job_behind), sl_Scheduler_able_job_behind⟩)
    (c_Scheduler_able_job_behind : codeIn K cd_Scheduler_able_job_behind "Scheduler.able_job_behind" = true)
    (k_Scheduler_able_job_behind : keepIn K (.ref f_Scheduler_able_job_behind) = true)
    (a_Scheduler_is_able : findIn K (.ref C_Scheduler) "is_able" = some (some (.ref f_Scheduler_is_able)))
    (i_Scheduler_is_able : isFn K (.ref f_Scheduler_is_able) = true)
    (l_Scheduler_is_able : K.lookup f_Scheduler_is_able = some ⟨oc_Scheduler_is_able, od_Scheduler_is_able, .func (fnOf "is_able" "Scheduler.is_able" (defArgs s_Scheduler_is_able) (defBody s_Scheduler_is_able) (defScope s_Scheduler_is_able) .none kV_Scheduler_is_able dc_Scheduler_is_able pm_Scheduler_is_able an_Scheduler_is_able cd_Scheduler_is_able ct_Scheduler_is_able), sl_Scheduler_is_able⟩)
    (c_Scheduler_is_able : codeIn K cd_Scheduler_is_able "Scheduler.is_able" = true)
    (k_Scheduler_is_able : keepIn K (.ref f_Scheduler_is_able) = true)
    (a_Scheduler_do_lock_step : findIn K (.ref C_Scheduler) "do_lock_step" = some (some (.ref f_Scheduler_do_lock_step)))
    (i_Scheduler_do_lock_step : isFn K (.ref f_Scheduler_do_lock_step) = true)
    (l_Scheduler_do_lock_step : K.lookup f_Scheduler_do_lock_step = some ⟨oc_Scheduler_do_lock_step, od_Scheduler_do_lock_step, .func (fnOf "do_lock_step" "Scheduler.do_lock_step" (defArgs s_Scheduler_do_lock_step) (defBody s_Scheduler_do_lock_step) (defScope s_Scheduler_do_lock_step) .none kV_Scheduler_do_lock_step dc_Scheduler_do_lock_step pm_Scheduler_do_lock_step an_Scheduler_do_lock_step cd_Scheduler_do_lock_step ct_Scheduler_do_lock_step), sl_Scheduler_do_lock_step⟩)
    (c_Scheduler_do_lock_step : codeIn K cd_Scheduler_do_lock_step "Scheduler.do_lock_step" = true)
    (k_Scheduler_do_lock_step : keepIn K (.ref f_Scheduler_do_lock_step) = true)
    (a_Scheduler_leave_step : findIn K (.ref C_Scheduler) "leave_step" = some (some (.ref f_Scheduler_leave_step)))
    (i_Scheduler_leave_step : isFn K (.ref f_Scheduler_leave_step) = true)
    (l_Scheduler_leave_step : K.lookup f_Scheduler_leave_step = some ⟨oc_Scheduler_leave_step, od_Scheduler_leave_step, .func (fnOf "leave_step" "Scheduler.leave_step" (defArgs s_Scheduler_leave_step) (defBody s_Scheduler_leave_step) (defScope s_Scheduler_leave_step) .none kV_Scheduler_leave_step dc_Scheduler_leave_step pm_Scheduler_leave_step an_Scheduler_leave_step cd_Scheduler_leave_step ct_Scheduler_leave_step), sl_Scheduler_leave_step⟩)
    (c_Scheduler_leave_step : codeIn K cd_Scheduler_leave_step "Scheduler.leave_step" = true)
    (k_Scheduler_leave_step : keepIn K (.ref f_Scheduler_leave_step) = true)
    (a_Scheduler_ticks_alike : findIn K (.ref C_Scheduler) "ticks_alike" = some (some (.ref f_Scheduler_ticks_alike)))
    (i_Scheduler_ticks_alike : isFn K (.ref f_Scheduler_ticks_alike) = true)
    (l_Scheduler_ticks_alike : K.lookup f_Scheduler_ticks_alike = some ⟨oc_Scheduler_ticks_alike, od_Scheduler_ticks_alike, .func (fnOf "ticks_alike" "Scheduler.ticks_alike" (defArgs s_Scheduler_ticks_alike) (defBody s_Scheduler_ticks_alike) (defScope s_Scheduler_ticks_alike) .none kV_Scheduler_ticks_alike dc_Scheduler_ticks_alike pm_Scheduler_ticks_alike an_Scheduler_ticks_alike cd_Scheduler_ticks_alike ct_Scheduler_ticks_alike), sl_Scheduler_ticks_alike⟩)
    (c_Scheduler_ticks_alike : codeIn K cd_Scheduler_ticks_alike "Scheduler.ticks_alike" = true)
    (k_Scheduler_ticks_alike : keepIn K (.ref f_Scheduler_ticks_alike) = true)
    (a_Scheduler_work : findIn K (.ref C_Scheduler) "work" = some (some (.ref f_Scheduler_work)))
    (i_Scheduler_work : isFn K (.ref f_Scheduler_work) = true)
    (l_Scheduler_work : K.lookup f_Scheduler_work = some ⟨oc_Scheduler_work, od_Scheduler_work, .func (fnOf "work" "Scheduler.work" (defArgs s_Scheduler_work) (defBody s_Scheduler_work) (defScope s_Scheduler_work) .none kV_Scheduler_work dc_Scheduler_work pm_Scheduler_work an_Scheduler_work cd_Scheduler_work ct_Scheduler_work), sl_Scheduler_work⟩)
    (c_Scheduler_work : codeIn K cd_Scheduler_work "Scheduler.work" = true)
    (k_Scheduler_work : keepIn K (.ref f_Scheduler_work) = true)
    (a_answers : nsIn K mainGlobals "answers" = some (some (.ref f_answers)))
    (l_answers : K.lookup f_answers = some ⟨oc_answers, od_answers, .func (fnOf "answers" "answers" (defArgs s_answers) (defBody s_answers) (defScope s_answers) .none kV_answers dc_answers pm_answers an_answers cd_answers ct_answers), sl_answers⟩)
    (c_answers : codeIn K cd_answers "answers" = true)
    (k_answers : keepIn K (.ref f_answers) = true)
    (a_call_size : nsIn K mainGlobals "call_size" = some (some (.ref f_call_size)))
    (l_call_size : K.lookup f_call_size = some ⟨oc_call_size, od_call_size, .func (fnOf "call_size" "call_size" (defArgs s_call_size) (defBody s_call_size) (defScope s_call_size) .none kV_call_size dc_call_size pm_call_size an_call_size cd_call_size ct_call_size), sl_call_size⟩)
    (c_call_size : codeIn K cd_call_size "call_size" = true)
    (k_call_size : keepIn K (.ref f_call_size) = true)
    (a_answer_call : nsIn K mainGlobals "answer_call" = some (some (.ref f_answer_call)))
    (l_answer_call : K.lookup f_answer_call = some ⟨oc_answer_call, od_answer_call, .func (fnOf "answer_call" "answer_call" (defArgs s_answer_call) (defBody s_answer_call) (defScope s_answer_call) .none kV_answer_call dc_answer_call pm_answer_call an_answer_call cd_answer_call ct_answer_call), sl_answer_call⟩)
    (c_answer_call : codeIn K cd_answer_call "answer_call" = true)
    (k_answer_call : keepIn K (.ref f_answer_call) = true)
    : ∃ a : Ad, Txt a K mg ∧ mg "answers" = some (.ref a.f_answers) := by
  have F_is_work := fun_mk (st := s_is_work) l_is_work c_is_work k_is_work
  have F_is_take := fun_mk (st := s_is_take) l_is_take c_is_take k_is_take
  have F_is_give := fun_mk (st := s_is_give) l_is_give c_is_give k_is_give
  have F_lock_of := fun_mk (st := s_lock_of) l_lock_of c_lock_of k_lock_of
  have F_locks_are_right := fun_mk (st := s_locks_are_right) l_locks_are_right c_locks_are_right k_locks_are_right
  have F_steps_are_right := fun_mk (st := s_steps_are_right) l_steps_are_right c_steps_are_right k_steps_are_right
  have F_task_is_right := fun_mk (st := s_task_is_right) l_task_is_right c_task_is_right k_task_is_right
  have F_Task_init := fun_mk (st := s_Task_init) l_Task_init c_Task_init k_Task_init
  have F_Task_pass_coming := fun_mk (st := s_Task_pass_coming) l_Task_pass_coming c_Task_pass_coming k_Task_pass_coming
  have F_Task_count_done := fun_mk (st := s_Task_count_done) l_Task_count_done c_Task_count_done k_Task_count_done
  have F_Task_known := fun_mk (st := s_Task_known) l_Task_known c_Task_known k_Task_known
  have F_Job_init := fun_mk (st := s_Job_init) l_Job_init c_Job_init k_Job_init
  have F_Job_current_step := fun_mk (st := s_Job_current_step) l_Job_current_step c_Job_current_step k_Job_current_step
  have F_Job_work_left := fun_mk (st := s_Job_work_left) l_Job_work_left c_Job_work_left k_Job_work_left
  have F_Job_end_step := fun_mk (st := s_Job_end_step) l_Job_end_step c_Job_end_step k_Job_end_step
  have F_Job_is_done := fun_mk (st := s_Job_is_done) l_Job_is_done c_Job_is_done k_Job_is_done
  have F_Job_is_at_work := fun_mk (st := s_Job_is_at_work) l_Job_is_at_work c_Job_is_at_work k_Job_is_at_work
  have F_Scheduler_init := fun_mk (st := s_Scheduler_init) l_Scheduler_init c_Scheduler_init k_Scheduler_init
  have F_Scheduler_set_order := fun_mk (st := s_Scheduler_set_order) l_Scheduler_set_order c_Scheduler_set_order k_Scheduler_set_order
  have F_Scheduler_add_task := fun_mk (st := s_Scheduler_add_task) l_Scheduler_add_task c_Scheduler_add_task k_Scheduler_add_task
  have F_Scheduler_run := fun_mk (st := s_Scheduler_run) l_Scheduler_run c_Scheduler_run k_Scheduler_run
  have F_Scheduler_known := fun_mk (st := s_Scheduler_known) l_Scheduler_known c_Scheduler_known k_Scheduler_known
  have F_Scheduler_state := fun_mk (st := s_Scheduler_state) l_Scheduler_state c_Scheduler_state k_Scheduler_state
  have F_Scheduler_owner := fun_mk (st := s_Scheduler_owner) l_Scheduler_owner c_Scheduler_owner k_Scheduler_owner
  have F_Scheduler_is_task := fun_mk (st := s_Scheduler_is_task) l_Scheduler_is_task c_Scheduler_is_task k_Scheduler_is_task
  have F_Scheduler_let_jobs_come := fun_mk (st := s_Scheduler_let_jobs_come) l_Scheduler_let_jobs_come c_Scheduler_let_jobs_come k_Scheduler_let_jobs_come
  have F_Scheduler_new_job := fun_mk (st := s_Scheduler_new_job) l_Scheduler_new_job c_Scheduler_new_job k_Scheduler_new_job
  have F_Scheduler_tell_late := fun_mk (st := s_Scheduler_tell_late) l_Scheduler_tell_late c_Scheduler_tell_late k_Scheduler_tell_late
  have F_Scheduler_find_worker := fun_mk (st := s_Scheduler_find_worker) l_Scheduler_find_worker c_Scheduler_find_worker k_Scheduler_find_worker
  have F_Scheduler_chosen_job := fun_mk (st := s_Scheduler_chosen_job) l_Scheduler_chosen_job c_Scheduler_chosen_job k_Scheduler_chosen_job
  have F_Scheduler_able_job_behind := fun_mk (st := s_Scheduler_able_job_behind) l_Scheduler_able_job_behind c_Scheduler_able_job_behind k_Scheduler_able_job_behind
  have F_Scheduler_is_able := fun_mk (st := s_Scheduler_is_able) l_Scheduler_is_able c_Scheduler_is_able k_Scheduler_is_able
  have F_Scheduler_do_lock_step := fun_mk (st := s_Scheduler_do_lock_step) l_Scheduler_do_lock_step c_Scheduler_do_lock_step k_Scheduler_do_lock_step
  have F_Scheduler_leave_step := fun_mk (st := s_Scheduler_leave_step) l_Scheduler_leave_step c_Scheduler_leave_step k_Scheduler_leave_step
  have F_Scheduler_ticks_alike := fun_mk (st := s_Scheduler_ticks_alike) l_Scheduler_ticks_alike c_Scheduler_ticks_alike k_Scheduler_ticks_alike
  have F_Scheduler_work := fun_mk (st := s_Scheduler_work) l_Scheduler_work c_Scheduler_work k_Scheduler_work
  have F_answers := fun_mk (st := s_answers) l_answers c_answers k_answers
  have F_call_size := fun_mk (st := s_call_size) l_call_size c_call_size k_call_size
  have F_answer_call := fun_mk (st := s_answer_call) l_answer_call c_answer_call k_answer_call
  refine ⟨⟨C_Task, C_Job, C_Scheduler, f_is_work, fnOf "is_work" "is_work" (defArgs s_is_work) (defBody s_is_work) (defScope s_is_work) .none kV_is_work dc_is_work pm_is_work an_is_work cd_is_work ct_is_work, f_is_take, fnOf "is_take" "is_take" (defArgs s_is_take) (defBody s_is_take) (defScope s_is_take) .none kV_is_take dc_is_take pm_is_take an_is_take cd_is_take ct_is_take, f_is_give, fnOf "is_give" "is_give" (defArgs s_is_give) (defBody s_is_give) (defScope s_is_give) .none kV_is_give dc_is_give pm_is_give an_is_give cd_is_give ct_is_give, f_lock_of, fnOf "lock_of" "lock_of" (defArgs s_lock_of) (defBody s_lock_of) (defScope s_lock_of) .none kV_lock_of dc_lock_of pm_lock_of an_lock_of cd_lock_of ct_lock_of, f_locks_are_right, fnOf "locks_are_right" "locks_are_right" (defArgs s_locks_are_right) (defBody s_locks_are_right) (defScope s_locks_are_right) .none kV_locks_are_right dc_locks_are_right pm_locks_are_right an_locks_are_right cd_locks_are_right ct_locks_are_right, f_steps_are_right, fnOf "steps_are_right" "steps_are_right" (defArgs s_steps_are_right) (defBody s_steps_are_right) (defScope s_steps_are_right) .none kV_steps_are_right dc_steps_are_right pm_steps_are_right an_steps_are_right cd_steps_are_right ct_steps_are_right, f_task_is_right, fnOf "task_is_right" "task_is_right" (defArgs s_task_is_right) (defBody s_task_is_right) (defScope s_task_is_right) .none kV_task_is_right dc_task_is_right pm_task_is_right an_task_is_right cd_task_is_right ct_task_is_right, f_Task_init, fnOf "__init__" "Task.__init__" (defArgs s_Task_init) (defBody s_Task_init) (defScope s_Task_init) .none kV_Task_init dc_Task_init pm_Task_init an_Task_init cd_Task_init ct_Task_init, f_Task_pass_coming, fnOf "pass_coming" "Task.pass_coming" (defArgs s_Task_pass_coming) (defBody s_Task_pass_coming) (defScope s_Task_pass_coming) .none kV_Task_pass_coming dc_Task_pass_coming pm_Task_pass_coming an_Task_pass_coming cd_Task_pass_coming ct_Task_pass_coming, f_Task_count_done, fnOf "count_done" "Task.count_done" (defArgs s_Task_count_done) (defBody s_Task_count_done) (defScope s_Task_count_done) .none kV_Task_count_done dc_Task_count_done pm_Task_count_done an_Task_count_done cd_Task_count_done ct_Task_count_done, f_Task_known, fnOf "known" "Task.known" (defArgs s_Task_known) (defBody s_Task_known) (defScope s_Task_known) .none kV_Task_known dc_Task_known pm_Task_known an_Task_known cd_Task_known ct_Task_known, f_Job_init, fnOf "__init__" "Job.__init__" (defArgs s_Job_init) (defBody s_Job_init) (defScope s_Job_init) .none kV_Job_init dc_Job_init pm_Job_init an_Job_init cd_Job_init ct_Job_init, f_Job_current_step, fnOf "current_step" "Job.current_step" (defArgs s_Job_current_step) (defBody s_Job_current_step) (defScope s_Job_current_step) .none kV_Job_current_step dc_Job_current_step pm_Job_current_step an_Job_current_step cd_Job_current_step ct_Job_current_step, f_Job_work_left, fnOf "work_left" "Job.work_left" (defArgs s_Job_work_left) (defBody s_Job_work_left) (defScope s_Job_work_left) .none kV_Job_work_left dc_Job_work_left pm_Job_work_left an_Job_work_left cd_Job_work_left ct_Job_work_left, f_Job_end_step, fnOf "end_step" "Job.end_step" (defArgs s_Job_end_step) (defBody s_Job_end_step) (defScope s_Job_end_step) .none kV_Job_end_step dc_Job_end_step pm_Job_end_step an_Job_end_step cd_Job_end_step ct_Job_end_step, f_Job_is_done, fnOf "is_done" "Job.is_done" (defArgs s_Job_is_done) (defBody s_Job_is_done) (defScope s_Job_is_done) .none kV_Job_is_done dc_Job_is_done pm_Job_is_done an_Job_is_done cd_Job_is_done ct_Job_is_done, f_Job_is_at_work, fnOf "is_at_work" "Job.is_at_work" (defArgs s_Job_is_at_work) (defBody s_Job_is_at_work) (defScope s_Job_is_at_work) .none kV_Job_is_at_work dc_Job_is_at_work pm_Job_is_at_work an_Job_is_at_work cd_Job_is_at_work ct_Job_is_at_work, f_Scheduler_init, fnOf "__init__" "Scheduler.__init__" (defArgs s_Scheduler_init) (defBody s_Scheduler_init) (defScope s_Scheduler_init) .none kV_Scheduler_init dc_Scheduler_init pm_Scheduler_init an_Scheduler_init cd_Scheduler_init ct_Scheduler_init, f_Scheduler_set_order, fnOf "set_order" "Scheduler.set_order" (defArgs s_Scheduler_set_order) (defBody s_Scheduler_set_order) (defScope s_Scheduler_set_order) .none kV_Scheduler_set_order dc_Scheduler_set_order pm_Scheduler_set_order an_Scheduler_set_order cd_Scheduler_set_order ct_Scheduler_set_order, f_Scheduler_add_task, fnOf "add_task" "Scheduler.add_task" (defArgs s_Scheduler_add_task) (defBody s_Scheduler_add_task) (defScope s_Scheduler_add_task) .none kV_Scheduler_add_task dc_Scheduler_add_task pm_Scheduler_add_task an_Scheduler_add_task cd_Scheduler_add_task ct_Scheduler_add_task, f_Scheduler_run, fnOf "run" "Scheduler.run" (defArgs s_Scheduler_run) (defBody s_Scheduler_run) (defScope s_Scheduler_run) .none kV_Scheduler_run dc_Scheduler_run pm_Scheduler_run an_Scheduler_run cd_Scheduler_run ct_Scheduler_run, f_Scheduler_known, fnOf "known" "Scheduler.known" (defArgs s_Scheduler_known) (defBody s_Scheduler_known) (defScope s_Scheduler_known) .none kV_Scheduler_known dc_Scheduler_known pm_Scheduler_known an_Scheduler_known cd_Scheduler_known ct_Scheduler_known, f_Scheduler_state, fnOf "state" "Scheduler.state" (defArgs s_Scheduler_state) (defBody s_Scheduler_state) (defScope s_Scheduler_state) .none kV_Scheduler_state dc_Scheduler_state pm_Scheduler_state an_Scheduler_state cd_Scheduler_state ct_Scheduler_state, f_Scheduler_owner, fnOf "owner" "Scheduler.owner" (defArgs s_Scheduler_owner) (defBody s_Scheduler_owner) (defScope s_Scheduler_owner) .none kV_Scheduler_owner dc_Scheduler_owner pm_Scheduler_owner an_Scheduler_owner cd_Scheduler_owner ct_Scheduler_owner, f_Scheduler_is_task, fnOf "is_task" "Scheduler.is_task" (defArgs s_Scheduler_is_task) (defBody s_Scheduler_is_task) (defScope s_Scheduler_is_task) .none kV_Scheduler_is_task dc_Scheduler_is_task pm_Scheduler_is_task an_Scheduler_is_task cd_Scheduler_is_task ct_Scheduler_is_task, f_Scheduler_let_jobs_come, fnOf "let_jobs_come" "Scheduler.let_jobs_come" (defArgs s_Scheduler_let_jobs_come) (defBody s_Scheduler_let_jobs_come) (defScope s_Scheduler_let_jobs_come) .none kV_Scheduler_let_jobs_come dc_Scheduler_let_jobs_come pm_Scheduler_let_jobs_come an_Scheduler_let_jobs_come cd_Scheduler_let_jobs_come ct_Scheduler_let_jobs_come, f_Scheduler_new_job, fnOf "new_job" "Scheduler.new_job" (defArgs s_Scheduler_new_job) (defBody s_Scheduler_new_job) (defScope s_Scheduler_new_job) .none kV_Scheduler_new_job dc_Scheduler_new_job pm_Scheduler_new_job an_Scheduler_new_job cd_Scheduler_new_job ct_Scheduler_new_job, f_Scheduler_tell_late, fnOf "tell_late" "Scheduler.tell_late" (defArgs s_Scheduler_tell_late) (defBody s_Scheduler_tell_late) (defScope s_Scheduler_tell_late) .none kV_Scheduler_tell_late dc_Scheduler_tell_late pm_Scheduler_tell_late an_Scheduler_tell_late cd_Scheduler_tell_late ct_Scheduler_tell_late, f_Scheduler_find_worker, fnOf "find_worker" "Scheduler.find_worker" (defArgs s_Scheduler_find_worker) (defBody s_Scheduler_find_worker) (defScope s_Scheduler_find_worker) .none kV_Scheduler_find_worker dc_Scheduler_find_worker pm_Scheduler_find_worker an_Scheduler_find_worker cd_Scheduler_find_worker ct_Scheduler_find_worker, f_Scheduler_chosen_job, fnOf "chosen_job" "Scheduler.chosen_job" (defArgs s_Scheduler_chosen_job) (defBody s_Scheduler_chosen_job) (defScope s_Scheduler_chosen_job) .none kV_Scheduler_chosen_job dc_Scheduler_chosen_job pm_Scheduler_chosen_job an_Scheduler_chosen_job cd_Scheduler_chosen_job ct_Scheduler_chosen_job, f_Scheduler_able_job_behind, fnOf "able_job_behind" "Scheduler.able_job_behind" (defArgs s_Scheduler_able_job_behind) (defBody s_Scheduler_able_job_behind) (defScope s_Scheduler_able_job_behind) .none kV_Scheduler_able_job_behind dc_Scheduler_able_job_behind pm_Scheduler_able_job_behind an_Scheduler_able_job_behind cd_Scheduler_able_job_behind ct_Scheduler_able_job_behind, f_Scheduler_is_able, fnOf "is_able" "Scheduler.is_able" (defArgs s_Scheduler_is_able) (defBody s_Scheduler_is_able) (defScope s_Scheduler_is_able) .none kV_Scheduler_is_able dc_Scheduler_is_able pm_Scheduler_is_able an_Scheduler_is_able cd_Scheduler_is_able ct_Scheduler_is_able, f_Scheduler_do_lock_step, fnOf "do_lock_step" "Scheduler.do_lock_step" (defArgs s_Scheduler_do_lock_step) (defBody s_Scheduler_do_lock_step) (defScope s_Scheduler_do_lock_step) .none kV_Scheduler_do_lock_step dc_Scheduler_do_lock_step pm_Scheduler_do_lock_step an_Scheduler_do_lock_step cd_Scheduler_do_lock_step ct_Scheduler_do_lock_step, f_Scheduler_leave_step, fnOf "leave_step" "Scheduler.leave_step" (defArgs s_Scheduler_leave_step) (defBody s_Scheduler_leave_step) (defScope s_Scheduler_leave_step) .none kV_Scheduler_leave_step dc_Scheduler_leave_step pm_Scheduler_leave_step an_Scheduler_leave_step cd_Scheduler_leave_step ct_Scheduler_leave_step, f_Scheduler_ticks_alike, fnOf "ticks_alike" "Scheduler.ticks_alike" (defArgs s_Scheduler_ticks_alike) (defBody s_Scheduler_ticks_alike) (defScope s_Scheduler_ticks_alike) .none kV_Scheduler_ticks_alike dc_Scheduler_ticks_alike pm_Scheduler_ticks_alike an_Scheduler_ticks_alike cd_Scheduler_ticks_alike ct_Scheduler_ticks_alike, f_Scheduler_work, fnOf "work" "Scheduler.work" (defArgs s_Scheduler_work) (defBody s_Scheduler_work) (defScope s_Scheduler_work) .none kV_Scheduler_work dc_Scheduler_work pm_Scheduler_work an_Scheduler_work cd_Scheduler_work ct_Scheduler_work, f_answers, fnOf "answers" "answers" (defArgs s_answers) (defBody s_answers) (defScope s_answers) .none kV_answers dc_answers pm_answers an_answers cd_answers ct_answers, f_call_size, fnOf "call_size" "call_size" (defArgs s_call_size) (defBody s_call_size) (defScope s_call_size) .none kV_call_size dc_call_size pm_call_size an_call_size cd_call_size ct_call_size, f_answer_call, fnOf "answer_call" "answer_call" (defArgs s_answer_call) (defBody s_answer_call) (defScope s_answer_call) .none kV_answer_call dc_answer_call pm_answer_call an_answer_call cd_answer_call ct_answer_call⟩, ?_, mg_of X G a_answers⟩
  exact {
    k_LOCKS := ⟨_, mg_of X G e_LOCKS⟩
    k_MOST_WORK := ⟨_, mg_of X G e_MOST_WORK⟩
    k_TAKE_LOCK_0 := ⟨_, mg_of X G e_TAKE_LOCK_0⟩
    k_GIVE_LOCK_0 := ⟨_, mg_of X G e_GIVE_LOCK_0⟩
    k_MOST_TICKS := ⟨_, mg_of X G e_MOST_TICKS⟩
    k_MOST_TIME := ⟨_, mg_of X G e_MOST_TIME⟩
    k_MOST_RANK := ⟨_, mg_of X G e_MOST_RANK⟩
    k_MOST_STEPS := ⟨_, mg_of X G e_MOST_STEPS⟩
    k_NEVER := ⟨_, mg_of X G e_NEVER⟩
    k_MOST_TASKS := ⟨_, mg_of X G e_MOST_TASKS⟩
    k_MOST_TICKS_A_RUN := ⟨_, mg_of X G e_MOST_TICKS_A_RUN⟩
    k_NOBODY_WORKED := ⟨_, mg_of X G e_NOBODY_WORKED⟩
    k_NO_JOB := ⟨_, mg_of X G e_NO_JOB⟩
    k_ABLE_WITHOUT_LOCK := ⟨_, mg_of X G e_ABLE_WITHOUT_LOCK⟩
    k_ABLE_WITH_LOCK := ⟨_, mg_of X G e_ABLE_WITH_LOCK⟩
    k_NOT_ABLE := ⟨_, mg_of X G e_NOT_ABLE⟩
    k_CLEAR := ⟨_, mg_of X G e_CLEAR⟩
    k_ORDER := ⟨_, mg_of X G e_ORDER⟩
    k_TASK := ⟨_, mg_of X G e_TASK⟩
    k_RUN := ⟨_, mg_of X G e_RUN⟩
    k_NOW := ⟨_, mg_of X G e_NOW⟩
    k_KNOWN := ⟨_, mg_of X G e_KNOWN⟩
    k_STATE := ⟨_, mg_of X G e_STATE⟩
    k_OWNER := ⟨_, mg_of X G e_OWNER⟩
    k_TASK_HEAD := ⟨_, mg_of X G e_TASK_HEAD⟩
    n_len := mg_none_of X G z_len
    n_all := mg_none_of X G z_all
    n_any := mg_none_of X G z_any
    n_max := mg_none_of X G z_max
    n_enumerate := mg_none_of X G z_enumerate
    n_min := mg_none_of X G z_min
    cl_Task := ⟨pg_Task, hd_Task, po_Task, sa_Task⟩
    mg_Task := mg_of X G a_Task
    at_Task_period := na_Task_period
    at_Task_deadline := na_Task_deadline
    at_Task_rank := na_Task_rank
    at_Task_steps := na_Task_steps
    at_Task_comes_at := na_Task_comes_at
    at_Task_jobs_done := na_Task_jobs_done
    at_Task_missed_deadlines := na_Task_missed_deadlines
    at_Task_jobs_left_out := na_Task_jobs_left_out
    at_Task_longest := na_Task_longest
    cl_Job := ⟨pg_Job, hd_Job, po_Job, sa_Job⟩
    mg_Job := mg_of X G a_Job
    at_Job_number := na_Job_number
    at_Job_steps := na_Job_steps
    at_Job_came_at := na_Job_came_at
    at_Job_late_at := na_Job_late_at
    at_Job_own_urgency := na_Job_own_urgency
    at_Job_place := na_Job_place
    at_Job_worked := na_Job_worked
    at_Job_waits_for := na_Job_waits_for
    cl_Scheduler := ⟨pg_Scheduler, hd_Scheduler, po_Scheduler, sa_Scheduler⟩
    mg_Scheduler := mg_of X G a_Scheduler
    at_Scheduler_by_deadline := na_Scheduler_by_deadline
    at_Scheduler_now := na_Scheduler_now
    at_Scheduler_tasks := na_Scheduler_tasks
    at_Scheduler_jobs := na_Scheduler_jobs
    at_Scheduler_owners := na_Scheduler_owners
    fn_is_work := F_is_work
    bd_is_work := F_is_work.binds fun _ _ _ _ _ _ us hl => by obtain ⟨_, rfl⟩ := len1 hl; rfl
    mg_is_work := mg_of X G a_is_work
    fn_is_take := F_is_take
    bd_is_take := F_is_take.binds fun _ _ _ _ _ _ us hl => by obtain ⟨_, rfl⟩ := len1 hl; rfl
    mg_is_take := mg_of X G a_is_take
    fn_is_give := F_is_give
    bd_is_give := F_is_give.binds fun _ _ _ _ _ _ us hl => by obtain ⟨_, rfl⟩ := len1 hl; rfl
    mg_is_give := mg_of X G a_is_give
    fn_lock_of := F_lock_of
    bd_lock_of := F_lock_of.binds fun _ _ _ _ _ _ us hl => by obtain ⟨_, rfl⟩ := len1 hl; rfl
    mg_lock_of := mg_of X G a_lock_of
    fn_locks_are_right := F_locks_are_right
    bd_locks_are_right := F_locks_are_right.binds fun _ _ _ _ _ _ us hl => by obtain ⟨_, rfl⟩ := len1 hl; rfl
    mg_locks_are_right := mg_of X G a_locks_are_right
    fn_steps_are_right := F_steps_are_right
    bd_steps_are_right := F_steps_are_right.binds fun _ _ _ _ _ _ us hl => by obtain ⟨_, rfl⟩ := len1 hl; rfl
    mg_steps_are_right := mg_of X G a_steps_are_right
    fn_task_is_right := F_task_is_right
    bd_task_is_right := F_task_is_right.binds fun _ _ _ _ _ _ us hl => by obtain ⟨_, _, _, _, _, rfl⟩ := len5 hl; rfl
    mg_task_is_right := mg_of X G a_task_is_right
    fn_Task_init := F_Task_init
    bd_Task_init := F_Task_init.binds fun _ _ _ _ _ _ us hl => by obtain ⟨_, _, _, _, _, _, rfl⟩ := len6 hl; rfl
    mk_Task := ⟨mk_Task, a_Task_init, i_Task_init, kc_Task⟩
    fn_Task_pass_coming := F_Task_pass_coming
    bd_Task_pass_coming := F_Task_pass_coming.binds fun _ _ _ _ _ _ us hl => by obtain ⟨_, rfl⟩ := len1 hl; rfl
    me_Task_pass_coming := ⟨a_Task_pass_coming, i_Task_pass_coming, k_Task_pass_coming⟩
    fn_Task_count_done := F_Task_count_done
    bd_Task_count_done := F_Task_count_done.binds fun _ _ _ _ _ _ us hl => by obtain ⟨_, _, rfl⟩ := len2 hl; rfl
    me_Task_count_done := ⟨a_Task_count_done, i_Task_count_done, k_Task_count_done⟩
    fn_Task_known := F_Task_known
    bd_Task_known := F_Task_known.binds fun _ _ _ _ _ _ us hl => by obtain ⟨_, rfl⟩ := len1 hl; rfl
    me_Task_known := ⟨a_Task_known, i_Task_known, k_Task_known⟩
    fn_Job_init := F_Job_init
    bd_Job_init := F_Job_init.binds fun _ _ _ _ _ _ us hl => by obtain ⟨_, _, _, _, _, _, rfl⟩ := len6 hl; rfl
    mk_Job := ⟨mk_Job, a_Job_init, i_Job_init, kc_Job⟩
    fn_Job_current_step := F_Job_current_step
    bd_Job_current_step := F_Job_current_step.binds fun _ _ _ _ _ _ us hl => by obtain ⟨_, rfl⟩ := len1 hl; rfl
    me_Job_current_step := ⟨a_Job_current_step, i_Job_current_step, k_Job_current_step⟩
    fn_Job_work_left := F_Job_work_left
    bd_Job_work_left := F_Job_work_left.binds fun _ _ _ _ _ _ us hl => by obtain ⟨_, rfl⟩ := len1 hl; rfl
    me_Job_work_left := ⟨a_Job_work_left, i_Job_work_left, k_Job_work_left⟩
    fn_Job_end_step := F_Job_end_step
    bd_Job_end_step := F_Job_end_step.binds fun _ _ _ _ _ _ us hl => by obtain ⟨_, rfl⟩ := len1 hl; rfl
    me_Job_end_step := ⟨a_Job_end_step, i_Job_end_step, k_Job_end_step⟩
    fn_Job_is_done := F_Job_is_done
    bd_Job_is_done := F_Job_is_done.binds fun _ _ _ _ _ _ us hl => by obtain ⟨_, rfl⟩ := len1 hl; rfl
    me_Job_is_done := ⟨a_Job_is_done, i_Job_is_done, k_Job_is_done⟩
    fn_Job_is_at_work := F_Job_is_at_work
    bd_Job_is_at_work := F_Job_is_at_work.binds fun _ _ _ _ _ _ us hl => by obtain ⟨_, rfl⟩ := len1 hl; rfl
    me_Job_is_at_work := ⟨a_Job_is_at_work, i_Job_is_at_work, k_Job_is_at_work⟩
    fn_Scheduler_init := F_Scheduler_init
    bd_Scheduler_init := F_Scheduler_init.binds fun _ _ _ _ _ _ us hl => by obtain ⟨_, rfl⟩ := len1 hl; rfl
    mk_Scheduler := ⟨mk_Scheduler, a_Scheduler_init, i_Scheduler_init, kc_Scheduler⟩
    fn_Scheduler_set_order := F_Scheduler_set_order
    bd_Scheduler_set_order := F_Scheduler_set_order.binds fun _ _ _ _ _ _ us hl => by obtain ⟨_, _, rfl⟩ := len2 hl; rfl
    me_Scheduler_set_order := ⟨a_Scheduler_set_order, i_Scheduler_set_order, k_Scheduler_set_order⟩
    fn_Scheduler_add_task := F_Scheduler_add_task
    bd_Scheduler_add_task := F_Scheduler_add_task.binds fun _ _ _ _ _ _ us hl => by obtain ⟨_, _, _, _, _, _, rfl⟩ := len6 hl; rfl
    me_Scheduler_add_task := ⟨a_Scheduler_add_task, i_Scheduler_add_task, k_Scheduler_add_task⟩
    fn_Scheduler_run := F_Scheduler_run
    bd_Scheduler_run := F_Scheduler_run.binds fun _ _ _ _ _ _ us hl => by obtain ⟨_, _, rfl⟩ := len2 hl; rfl
    me_Scheduler_run := ⟨a_Scheduler_run, i_Scheduler_run, k_Scheduler_run⟩
    fn_Scheduler_known := F_Scheduler_known
    bd_Scheduler_known := F_Scheduler_known.binds fun _ _ _ _ _ _ us hl => by obtain ⟨_, _, _, rfl⟩ := len3 hl; rfl
    me_Scheduler_known := ⟨a_Scheduler_known, i_Scheduler_known, k_Scheduler_known⟩
    fn_Scheduler_state := F_Scheduler_state
    bd_Scheduler_state := F_Scheduler_state.binds fun _ _ _ _ _ _ us hl => by obtain ⟨_, _, rfl⟩ := len2 hl; rfl
    me_Scheduler_state := ⟨a_Scheduler_state, i_Scheduler_state, k_Scheduler_state⟩
    fn_Scheduler_owner := F_Scheduler_owner
    bd_Scheduler_owner := F_Scheduler_owner.binds fun _ _ _ _ _ _ us hl => by obtain ⟨_, _, rfl⟩ := len2 hl; rfl
    me_Scheduler_owner := ⟨a_Scheduler_owner, i_Scheduler_owner, k_Scheduler_owner⟩
    fn_Scheduler_is_task := F_Scheduler_is_task
    bd_Scheduler_is_task := F_Scheduler_is_task.binds fun _ _ _ _ _ _ us hl => by obtain ⟨_, _, rfl⟩ := len2 hl; rfl
    me_Scheduler_is_task := ⟨a_Scheduler_is_task, i_Scheduler_is_task, k_Scheduler_is_task⟩
    fn_Scheduler_let_jobs_come := F_Scheduler_let_jobs_come
    bd_Scheduler_let_jobs_come := F_Scheduler_let_jobs_come.binds fun _ _ _ _ _ _ us hl => by obtain ⟨_, rfl⟩ := len1 hl; rfl
    me_Scheduler_let_jobs_come := ⟨a_Scheduler_let_jobs_come, i_Scheduler_let_jobs_come, k_Scheduler_let_jobs_come⟩
    fn_Scheduler_new_job := F_Scheduler_new_job
    bd_Scheduler_new_job := F_Scheduler_new_job.binds fun _ _ _ _ _ _ us hl => by obtain ⟨_, _, _, rfl⟩ := len3 hl; rfl
    me_Scheduler_new_job := ⟨a_Scheduler_new_job, i_Scheduler_new_job, k_Scheduler_new_job⟩
    fn_Scheduler_tell_late := F_Scheduler_tell_late
    bd_Scheduler_tell_late := F_Scheduler_tell_late.binds fun _ _ _ _ _ _ us hl => by obtain ⟨_, rfl⟩ := len1 hl; rfl
    me_Scheduler_tell_late := ⟨a_Scheduler_tell_late, i_Scheduler_tell_late, k_Scheduler_tell_late⟩
    fn_Scheduler_find_worker := F_Scheduler_find_worker
    bd_Scheduler_find_worker := F_Scheduler_find_worker.binds fun _ _ _ _ _ _ us hl => by obtain ⟨_, rfl⟩ := len1 hl; rfl
    me_Scheduler_find_worker := ⟨a_Scheduler_find_worker, i_Scheduler_find_worker, k_Scheduler_find_worker⟩
    fn_Scheduler_chosen_job := F_Scheduler_chosen_job
    bd_Scheduler_chosen_job := F_Scheduler_chosen_job.binds fun _ _ _ _ _ _ us hl => by obtain ⟨_, rfl⟩ := len1 hl; rfl
    me_Scheduler_chosen_job := ⟨a_Scheduler_chosen_job, i_Scheduler_chosen_job, k_Scheduler_chosen_job⟩
    fn_Scheduler_able_job_behind := F_Scheduler_able_job_behind
    bd_Scheduler_able_job_behind := F_Scheduler_able_job_behind.binds fun _ _ _ _ _ _ us hl => by obtain ⟨_, _, rfl⟩ := len2 hl; rfl
    me_Scheduler_able_job_behind := ⟨a_Scheduler_able_job_behind, i_Scheduler_able_job_behind, k_Scheduler_able_job_behind⟩
    fn_Scheduler_is_able := F_Scheduler_is_able
    bd_Scheduler_is_able := F_Scheduler_is_able.binds fun _ _ _ _ _ _ us hl => by obtain ⟨_, _, rfl⟩ := len2 hl; rfl
    me_Scheduler_is_able := ⟨a_Scheduler_is_able, i_Scheduler_is_able, k_Scheduler_is_able⟩
    fn_Scheduler_do_lock_step := F_Scheduler_do_lock_step
    bd_Scheduler_do_lock_step := F_Scheduler_do_lock_step.binds fun _ _ _ _ _ _ us hl => by obtain ⟨_, _, rfl⟩ := len2 hl; rfl
    me_Scheduler_do_lock_step := ⟨a_Scheduler_do_lock_step, i_Scheduler_do_lock_step, k_Scheduler_do_lock_step⟩
    fn_Scheduler_leave_step := F_Scheduler_leave_step
    bd_Scheduler_leave_step := F_Scheduler_leave_step.binds fun _ _ _ _ _ _ us hl => by obtain ⟨_, _, rfl⟩ := len2 hl; rfl
    me_Scheduler_leave_step := ⟨a_Scheduler_leave_step, i_Scheduler_leave_step, k_Scheduler_leave_step⟩
    fn_Scheduler_ticks_alike := F_Scheduler_ticks_alike
    bd_Scheduler_ticks_alike := F_Scheduler_ticks_alike.binds fun _ _ _ _ _ _ us hl => by obtain ⟨_, _, _, rfl⟩ := len3 hl; rfl
    me_Scheduler_ticks_alike := ⟨a_Scheduler_ticks_alike, i_Scheduler_ticks_alike, k_Scheduler_ticks_alike⟩
    fn_Scheduler_work := F_Scheduler_work
    bd_Scheduler_work := F_Scheduler_work.binds fun _ _ _ _ _ _ us hl => by obtain ⟨_, _, _, rfl⟩ := len3 hl; rfl
    me_Scheduler_work := ⟨a_Scheduler_work, i_Scheduler_work, k_Scheduler_work⟩
    fn_answers := F_answers
    bd_answers := F_answers.binds fun _ _ _ _ _ _ us hl => by obtain ⟨_, rfl⟩ := len1 hl; rfl
    mg_answers := mg_of X G a_answers
    fn_call_size := F_call_size
    bd_call_size := F_call_size.binds fun _ _ _ _ _ _ us hl => by obtain ⟨_, _, rfl⟩ := len2 hl; rfl
    mg_call_size := mg_of X G a_call_size
    fn_answer_call := F_answer_call
    bd_answer_call := F_answer_call.binds fun _ _ _ _ _ _ us hl => by obtain ⟨_, _, rfl⟩ := len2 hl; rfl
    mg_answer_call := mg_of X G a_answer_call
    ba_answers := fun s u => .of_eq rfl
  }
/-- the attributes of a Task, in their order -/
def fl_Task (v_period v_deadline v_rank v_steps v_comes_at v_jobs_done v_missed_deadlines v_jobs_left_out v_longest : V) : List (Str × V) := [("period", v_period), ("deadline", v_deadline), ("rank", v_rank), ("steps", v_steps), ("comes_at", v_comes_at), ("jobs_done", v_jobs_done), ("missed_deadlines", v_missed_deadlines), ("jobs_left_out", v_jobs_left_out), ("longest", v_longest)]
/-- the attributes of a Job, in their order -/
def fl_Job (v_number v_steps v_came_at v_late_at v_own_urgency v_place v_worked v_waits_for : V) : List (Str × V) := [("number", v_number), ("steps", v_steps), ("came_at", v_came_at), ("late_at", v_late_at), ("own_urgency", v_own_urgency), ("place", v_place), ("worked", v_worked), ("waits_for", v_waits_for)]
/-- the attributes of a Scheduler, in their order -/
def fl_Scheduler (v_by_deadline v_now v_tasks v_jobs v_owners : V) : List (Str × V) := [("by_deadline", v_by_deadline), ("now", v_now), ("tasks", v_tasks), ("jobs", v_jobs), ("owners", v_owners)]
end Tx
namespace My
open PySem PySem.W PyProof.Rows L2 Tx Mi
/-! ### the set of tasks, as it lies in the heap -/
def wV : Option Nat → V
  | none => .non
  | some l => .int l
def rV (ja : Nat → Addr) : Option Nat → V
  | none => .non
  | some i => .ref (ja i)
def jobKV (ks : List Nat) (ja : Nat → Addr) : List (Key × V) := ks.map fun (k : Nat) => (Sum.inl (k : Int), V.ref (ja k))
def ownKV (os : List (Nat × Nat)) : List (Key × V) := os.map fun (o : Nat × Nat) => (Sum.inl (o.1 : Int), V.int (o.2 : Nat))
/-- what stays: the scheduler, its list, its dicts, the tasks, their steps -/
structure Fx where
  p : Addr
  tl : Addr
  jd : Addr
  od : Addr
  ta : Nat → Addr
  sa : Nat → Addr
  ns : Nat → List Int
/-- what changes: when the next job comes, the jobs in their dict's order, the locks in theirs -/
structure Vr where
  cm : Nat → Nat
  ks : List Nat
  ja : Nat → Addr
  os : List (Nat × Nat)
def setAt {α : Type} (f : Nat → α) (i : Nat) (v : α) : Nat → α := fun k => if k = i then v else f k
theorem setAt_same {α : Type} {f : Nat → α} {i : Nat} {v : α} : setAt f i v i = v := if_pos rfl
theorem setAt_ne {α : Type} {f : Nat → α} {i k : Nat} {v : α} (h : k ≠ i) : setAt f i v k = f k := if_neg h
def seenAt (s : Sz17.St) (i : Nat) : Sz17.Seen := s.seen.getD i ⟨0, 0, 0, 0⟩
def taskF (t : Sz17.Doing) (x : Sz17.Seen) (sa : Addr) (c : Nat) : List (Str × V) :=
  fl_Task (.int (t.period : Nat)) (.int (t.deadline : Nat)) (.int (t.rank : Nat)) (.ref sa) (.int (c : Nat)) (.int (x.done : Nat)) (.int (x.missed : Nat)) (.int (x.skipped : Nat)) (.int (x.longest : Nat))
def lateAt (s : Sz17.St) (i : Nat) (j : Sz17.Job) : Nat := if j.late = true then SM.NEVER else j.came + (s.task i).deadline
def jobF (s : Sz17.St) (k : Nat) (j : Sz17.Job) (sa : Addr) (pl wk : Nat) : List (Str × V) :=
  fl_Job (.int (k : Nat)) (.ref sa) (.int (j.came : Nat)) (.int (lateAt s k j : Nat)) (.int (Sz17.own s k j)) (.int (pl : Nat)) (.int (wk : Nat)) (wV j.waits)
def schF (s : Sz17.St) (F : Fx) : List (Str × V) := fl_Scheduler (.bl s.byDeadline) (.int (s.now : Nat)) (.ref F.tl) (.ref F.jd) (.ref F.od)
/-- how far a job has come -/
def LeftR (ns : List Int) (pl wk : Nat) (left : List Sz17.Step) : Prop :=
  ∃ st0, SM.Reads (ns.drop pl) st0 ∧ ((wk = 0 ∧ left = st0) ∨ ∃ n r, st0 = .work n :: r ∧ wk ≤ n ∧ left = .work (n - wk) :: r)
structure Rel (a : Ad) (H : Hp) (F : Fx) (W : Vr) (s : Sz17.St) : Prop where
  sch : ∃ dx, H F.p = some (.ins a.c_Scheduler dx (schF s F))
  tl : H F.tl = some (.lst ((List.range s.tasks.length).map fun i => V.ref (F.ta i)))
  tk : ∀ i, i < s.tasks.length → ∃ dx, H (F.ta i) = some (.ins a.c_Task dx (taskF (s.task i) (seenAt s i) (F.sa i) (W.cm i)))
  st : ∀ i, i < s.tasks.length → H (F.sa i) = some (.lst ((F.ns i).map V.int)) ∧ SM.Reads (F.ns i) (s.task i).steps
  ti : ∀ i k, i < s.tasks.length → k < s.tasks.length → F.ta i = F.ta k → i = k
  jd : H F.jd = some (.dK (jobKV W.ks W.ja))
  od : H F.od = some (.dK (ownKV W.os))
  jo : F.jd ≠ F.od
  nd : W.ks.Nodup
  ks : ∀ k, k ∈ W.ks ↔ (s.job k).isSome = true
  jv : ∀ k j, s.job k = some j → ∃ dx pl wk, H (W.ja k) = some (.ins a.c_Job dx (jobF s k j (F.sa k) pl wk)) ∧ LeftR (F.ns k) pl wk j.left
  on : (W.os.map Prod.fst).Nodup
  os : ∀ l i, (l, i) ∈ W.os ↔ ∃ j, s.job i = some j ∧ l ∈ j.has
theorem ins_ne {C C' dx dx' : Addr} {fs fs' : List (Str × V)} (h : fs.length ≠ fs'.length) : HO.ins C dx fs ≠ HO.ins C' dx' fs' := fun z => by
  injection z with _ _ z
  exact h (congrArg List.length z)
theorem lenS {s : Sz17.St} {F : Fx} : (schF s F).length = 5 := rfl
theorem lenT {t : Sz17.Doing} {x : Sz17.Seen} {sa : Addr} {c : Nat} : (taskF t x sa c).length = 9 := rfl
theorem lenJ {s : Sz17.St} {k : Nat} {j : Sz17.Job} {sa : Addr} {pl wk : Nat} : (jobF s k j sa pl wk).length = 8 := rfl
theorem ins_neN {C C' dx dx' : Addr} {fs fs' : List (Str × V)} {n m : Nat} (h1 : fs.length = n) (h2 : fs'.length = m) (h : n ≠ m) : HO.ins C dx fs ≠ HO.ins C' dx' fs' := ins_ne (by rw [h1, h2]; exact h)
section
variable {a : Ad} {H : Hp} {F : Fx} {W : Vr} {s : Sz17.St}
theorem Rel.same {H' : Hp} (R : Rel a H F W s) (h : Same H H') : Rel a H' F W s := by
  refine ⟨?_, h _ _ R.tl, fun i hi => ?_, fun i hi => ⟨h _ _ (R.st i hi).1, (R.st i hi).2⟩, R.ti, h _ _ R.jd, h _ _ R.od, R.jo, R.nd, R.ks, fun k j e => ?_, R.on, R.os⟩
  · obtain ⟨dx, e⟩ := R.sch; exact ⟨dx, h _ _ e⟩
  · obtain ⟨dx, e⟩ := R.tk i hi; exact ⟨dx, h _ _ e⟩
  · obtain ⟨dx, pl, wk, e1, e2⟩ := R.jv k j e; exact ⟨dx, pl, wk, h _ _ e1, e2⟩
/-- a list that isn't its own changes -/
theorem Rel.lst (R : Rel a H F W s) {b : Addr} {xs ys : List V} (hb : H b = some (.lst xs)) (h1 : b ≠ F.tl) (h2 : ∀ i, i < s.tasks.length → b ≠ F.sa i) : Rel a (upd H b (.lst ys)) F W s := by
  refine ⟨?_, by rw [upd_ne h1.symm]; exact R.tl, fun i hi => ?_, fun i hi => ⟨by rw [upd_ne (h2 i hi).symm]; exact (R.st i hi).1, (R.st i hi).2⟩, R.ti, ?_, ?_, R.jo, R.nd, R.ks, fun k j e => ?_, R.on, R.os⟩
  · obtain ⟨dx, e⟩ := R.sch; exact ⟨dx, by rw [upd_ne (ne_of e hb (by intro z; cases z))]; exact e⟩
  · obtain ⟨dx, e⟩ := R.tk i hi; exact ⟨dx, by rw [upd_ne (ne_of e hb (by intro z; cases z))]; exact e⟩
  · rw [upd_ne (ne_of R.jd hb (by intro z; cases z))]; exact R.jd
  · rw [upd_ne (ne_of R.od hb (by intro z; cases z))]; exact R.od
  · obtain ⟨dx, pl, wk, e1, e2⟩ := R.jv k j e; exact ⟨dx, pl, wk, by rw [upd_ne (ne_of e1 hb (by intro z; cases z))]; exact e1, e2⟩
theorem Rel.jlt (R : Rel a H F W s) (o : SM.Ok s) {k : Nat} {j : Sz17.Job} (e : s.job k = some j) : k < s.tasks.length := by
  rw [← o.jl]; exact SM.job_lt e
theorem Rel.jinj (R : Rel a H F W s) {k k' : Nat} {j j' : Sz17.Job} (e : s.job k = some j) (e' : s.job k' = some j') (h : W.ja k = W.ja k') : k = k' := by
  obtain ⟨dx, pl, wk, e1, _⟩ := R.jv k j e
  obtain ⟨dx', pl', wk', e1', _⟩ := R.jv k' j' e'
  rw [h, e1'] at e1
  have e1 := Option.some.inj e1
  injection e1 with _ _ z
  unfold jobF fl_Job at z
  injection z with z _
  injection z with _ z
  injection z with z
  lia
/-- a task changes: what is counted of it, when its next job comes -/
theorem Rel.taskW (R : Rel a H F W s) {s' : Sz17.St} {i : Nat} (hi : i < s.tasks.length) (ht : s'.tasks = s.tasks) (hj : s'.jobs = s.jobs) (hn : s'.now = s.now) (hb : s'.byDeadline = s.byDeadline) {x' : Sz17.Seen} (hx : ∀ k, k < s.tasks.length → seenAt s' k = if k = i then x' else seenAt s k)
    {dx : Addr} {fs : List (Str × V)} (hH : H (F.ta i) = some (.ins a.c_Task dx fs)) (hf : fs.length = 9) (c' : Nat) :
    Rel a (upd H (F.ta i) (.ins a.c_Task dx (taskF (s.task i) x' (F.sa i) c'))) F { W with cm := setAt W.cm i c' } s' := by
  have et : ∀ k, s'.task k = s.task k := fun k => by unfold Sz17.St.task; rw [ht]
  have ej : ∀ k, s'.job k = s.job k := fun k => by unfold Sz17.St.job; rw [hj]
  refine ⟨?_, ?_, fun k hk => ?_, fun k hk => ?_, ?_, ?_, ?_, R.jo, R.nd, fun k => by rw [ej]; exact R.ks k, fun k j e => ?_, R.on, fun l k => by rw [ej]; exact R.os l k⟩
  · obtain ⟨dx', e⟩ := R.sch
    refine ⟨dx', ?_⟩
    have e2 : schF s' F = schF s F := by unfold schF; rw [hn, hb]
    rw [upd_ne (ne_of e hH (ins_neN lenS hf (by decide))), e2]
    exact e
  · rw [ht, upd_ne (ne_of R.tl hH (by intro z; cases z))]; exact R.tl
  · rw [ht] at hk
    by_cases e : k = i
    · subst e
      rw [et, hx k hk, if_pos rfl]
      exact ⟨dx, by rw [upd_same]; show _ = some (HO.ins _ _ (taskF _ _ _ (setAt W.cm k c' k))); rw [setAt_same]⟩
    · obtain ⟨dx', e'⟩ := R.tk k hk
      rw [et, hx k hk, if_neg e]
      refine ⟨dx', ?_⟩
      show _ = some (HO.ins _ _ (taskF _ _ _ (setAt W.cm i c' k)))
      rw [upd_ne (fun q => e (R.ti k i hk hi q)), setAt_ne e]
      exact e'
  · rw [ht] at hk
    rw [et, upd_ne (ne_of (R.st k hk).1 hH (by intro z; cases z))]
    exact R.st k hk
  · rw [ht]; exact R.ti
  · rw [upd_ne (ne_of R.jd hH (by intro z; cases z))]; exact R.jd
  · rw [upd_ne (ne_of R.od hH (by intro z; cases z))]; exact R.od
  · rw [ej] at e
    obtain ⟨dx', pl, wk, e1, e2⟩ := R.jv k j e
    refine ⟨dx', pl, wk, ?_, e2⟩
    have e3 : jobF s' k j (F.sa k) pl wk = jobF s k j (F.sa k) pl wk := by
      unfold jobF lateAt Sz17.own
      rw [et, hb]
    show _ = some (HO.ins _ _ (jobF s' k j (F.sa k) pl wk))
    rw [upd_ne (ne_of e1 hH (ins_neN lenJ hf (by decide))), e3]
    exact e1
theorem own_setJob (s : Sz17.St) (i : Nat) (nj : Option Sz17.Job) (k : Nat) (j : Sz17.Job) : Sz17.own (s.setJob i nj) k j = Sz17.own s k j := rfl
theorem jobF_setJob (s : Sz17.St) (i : Nat) (nj : Option Sz17.Job) (k : Nat) (j : Sz17.Job) (sa : Addr) (pl wk : Nat) : jobF (s.setJob i nj) k j sa pl wk = jobF s k j sa pl wk := rfl
/-- a job changes, not its locks -/
theorem Rel.jobW (R : Rel a H F W s) {i : Nat} {j j' : Sz17.Job} (e : s.job i = some j) (hh : j'.has = j.has) {dx : Addr} {fs : List (Str × V)} (hH : H (W.ja i) = some (.ins a.c_Job dx fs)) (hf : fs.length = 8) {pl wk : Nat} (hl : LeftR (F.ns i) pl wk j'.left) :
    Rel a (upd H (W.ja i) (.ins a.c_Job dx (jobF s i j' (F.sa i) pl wk))) F W (s.setJob i (some j')) := by
  have hi := SM.job_lt e
  refine ⟨?_, ?_, fun k hk => ?_, fun k hk => ?_, R.ti, ?_, ?_, R.jo, R.nd, fun k => ?_, fun k q eq => ?_, R.on, fun l k => ?_⟩
  · obtain ⟨dx', e'⟩ := R.sch
    exact ⟨dx', by rw [upd_ne (ne_of e' hH (ins_neN lenS hf (by decide)))]; exact e'⟩
  · rw [upd_ne (ne_of R.tl hH (by intro z; cases z))]; exact R.tl
  · obtain ⟨dx', e'⟩ := R.tk k hk
    exact ⟨dx', by rw [upd_ne (ne_of e' hH (ins_neN lenT hf (by decide)))]; exact e'⟩
  · rw [upd_ne (ne_of (R.st k hk).1 hH (by intro z; cases z))]
    exact R.st k hk
  · rw [upd_ne (ne_of R.jd hH (by intro z; cases z))]; exact R.jd
  · rw [upd_ne (ne_of R.od hH (by intro z; cases z))]; exact R.od
  · rw [R.ks k, SM.job_setJob hi]
    by_cases h : k = i
    · subst h; rw [if_pos rfl, e]; exact Iff.rfl
    · rw [if_neg h]
  · rw [SM.job_setJob hi] at eq
    by_cases h : k = i
    · subst h
      rw [if_pos rfl] at eq
      cases eq
      exact ⟨dx, pl, wk, upd_same, hl⟩
    · rw [if_neg h] at eq
      obtain ⟨dx', pl', wk', e1, e2⟩ := R.jv k q eq
      exact ⟨dx', pl', wk', by rw [upd_ne (fun z => h (R.jinj eq e z))]; exact e1, e2⟩
  · rw [R.os l k, SM.job_setJob hi]
    by_cases h : k = i
    · subst h
      rw [if_pos rfl, e]
      constructor
      · rintro ⟨_, z, q⟩; cases z; exact ⟨_, rfl, by rw [hh]; exact q⟩
      · rintro ⟨_, z, q⟩; cases z; exact ⟨_, rfl, by rw [← hh]; exact q⟩
    · rw [if_neg h]
/-- the locks of a job change -/
theorem Rel.ownW (R : Rel a H F W s) {i : Nat} {j : Sz17.Job} (e : s.job i = some j) {has' : List Nat} {os' : List (Nat × Nat)} (hn : (os'.map Prod.fst).Nodup) (ho : ∀ l k, (l, k) ∈ os' ↔ if k = i then l ∈ has' else (l, k) ∈ W.os) :
    Rel a (upd H F.od (.dK (ownKV os'))) F { W with os := os' } (s.setJob i (some { j with has := has' })) := by
  have hi := SM.job_lt e
  refine ⟨?_, ?_, fun k hk => ?_, fun k hk => ?_, R.ti, ?_, upd_same, R.jo, R.nd, fun k => ?_, fun k q eq => ?_, hn, fun l k => ?_⟩
  · obtain ⟨dx', e'⟩ := R.sch
    exact ⟨dx', by rw [upd_ne (ne_of e' R.od (by intro z; cases z))]; exact e'⟩
  · rw [upd_ne (ne_of R.tl R.od (by intro z; cases z))]; exact R.tl
  · obtain ⟨dx', e'⟩ := R.tk k hk
    exact ⟨dx', by rw [upd_ne (ne_of e' R.od (by intro z; cases z))]; exact e'⟩
  · rw [upd_ne (ne_of (R.st k hk).1 R.od (by intro z; cases z))]
    exact R.st k hk
  · rw [upd_ne R.jo]; exact R.jd
  · show k ∈ W.ks ↔ _
    rw [R.ks k, SM.job_setJob hi]
    by_cases h : k = i
    · subst h; rw [if_pos rfl, e]; exact Iff.rfl
    · rw [if_neg h]
  · rw [SM.job_setJob hi] at eq
    by_cases h : k = i
    · subst h
      rw [if_pos rfl] at eq
      cases eq
      obtain ⟨dx', pl', wk', e1, e2⟩ := R.jv k j e
      exact ⟨dx', pl', wk', by rw [upd_ne (ne_of e1 R.od (by intro z; cases z))]; exact e1, e2⟩
    · rw [if_neg h] at eq
      obtain ⟨dx', pl', wk', e1, e2⟩ := R.jv k q eq
      exact ⟨dx', pl', wk', by rw [upd_ne (ne_of e1 R.od (by intro z; cases z))]; exact e1, e2⟩
  · show (l, k) ∈ os' ↔ _
    rw [ho l k, SM.job_setJob hi]
    by_cases h : k = i
    · subst h
      rw [if_pos rfl, if_pos rfl]
      constructor
      · intro q; exact ⟨_, rfl, q⟩
      · rintro ⟨_, z, q⟩; cases z; exact q
    · rw [if_neg h, if_neg h]; exact R.os l k
/-- a job that has no lock goes -/
theorem Rel.jobDel (R : Rel a H F W s) {i : Nat} {j : Sz17.Job} (e : s.job i = some j) (hh : j.has = []) :
    Rel a (upd H F.jd (.dK (jobKV (W.ks.filter fun k => decide (k ≠ i)) W.ja))) F { W with ks := W.ks.filter fun k => decide (k ≠ i) } (s.setJob i none) := by
  have hi := SM.job_lt e
  refine ⟨?_, ?_, fun k hk => ?_, fun k hk => ?_, R.ti, upd_same, ?_, R.jo, R.nd.filter _, fun k => ?_, fun k q eq => ?_, R.on, fun l k => ?_⟩
  · obtain ⟨dx', e'⟩ := R.sch
    exact ⟨dx', by rw [upd_ne (ne_of e' R.jd (by intro z; cases z))]; exact e'⟩
  · rw [upd_ne (ne_of R.tl R.jd (by intro z; cases z))]; exact R.tl
  · obtain ⟨dx', e'⟩ := R.tk k hk
    exact ⟨dx', by rw [upd_ne (ne_of e' R.jd (by intro z; cases z))]; exact e'⟩
  · rw [upd_ne (ne_of (R.st k hk).1 R.jd (by intro z; cases z))]
    exact R.st k hk
  · rw [upd_ne R.jo.symm]; exact R.od
  · show k ∈ W.ks.filter _ ↔ _
    rw [List.mem_filter, decide_eq_true_eq, R.ks k, SM.job_setJob hi]
    by_cases h : k = i
    · subst h; rw [if_pos rfl]; simp
    · rw [if_neg h]; simp [h]
  · rw [SM.job_setJob hi] at eq
    by_cases h : k = i
    · rw [if_pos h] at eq; cases eq
    · rw [if_neg h] at eq
      obtain ⟨dx', pl', wk', e1, e2⟩ := R.jv k q eq
      exact ⟨dx', pl', wk', by rw [upd_ne (ne_of e1 R.jd (by intro z; cases z))]; exact e1, e2⟩
  · rw [R.os l k, SM.job_setJob hi]
    by_cases h : k = i
    · subst h
      rw [if_pos rfl, e]
      constructor
      · rintro ⟨_, z, q⟩; cases z; rw [hh] at q; cases q
      · rintro ⟨_, z, q⟩; cases z
    · rw [if_neg h]
/-- a job comes; its object lies at x -/
theorem Rel.jobNew (R : Rel a H F W s) {i : Nat} (hi : i < s.jobs.length) (e : s.job i = none) {j : Sz17.Job} (hh : j.has = []) {x dx : Addr} {pl wk : Nat} (hx : H x = some (.ins a.c_Job dx (jobF s i j (F.sa i) pl wk))) (hl : LeftR (F.ns i) pl wk j.left) :
    Rel a (upd H F.jd (.dK (jobKV (W.ks ++ [i]) (setAt W.ja i x)))) F { W with ks := W.ks ++ [i], ja := setAt W.ja i x } (s.setJob i (some j)) := by
  have hni : ¬ i ∈ W.ks := fun q => by rw [R.ks i, e] at q; cases q
  refine ⟨?_, ?_, fun k hk => ?_, fun k hk => ?_, R.ti, upd_same, ?_, R.jo, ?_, fun k => ?_, fun k q eq => ?_, R.on, fun l k => ?_⟩
  · obtain ⟨dx', e'⟩ := R.sch
    exact ⟨dx', by rw [upd_ne (ne_of e' R.jd (by intro z; cases z))]; exact e'⟩
  · rw [upd_ne (ne_of R.tl R.jd (by intro z; cases z))]; exact R.tl
  · obtain ⟨dx', e'⟩ := R.tk k hk
    exact ⟨dx', by rw [upd_ne (ne_of e' R.jd (by intro z; cases z))]; exact e'⟩
  · rw [upd_ne (ne_of (R.st k hk).1 R.jd (by intro z; cases z))]
    exact R.st k hk
  · rw [upd_ne R.jo.symm]; exact R.od
  · refine List.nodup_append.mpr ⟨R.nd, by simp, fun x hx y hy => ?_⟩
    rw [List.mem_singleton.mp hy]
    intro z
    exact hni (z ▸ hx)
  · show k ∈ W.ks ++ [i] ↔ _
    rw [List.mem_append, List.mem_singleton, R.ks k, SM.job_setJob hi]
    by_cases h : k = i
    · subst h; rw [if_pos rfl]; simp
    · rw [if_neg h]; simp [h]
  · rw [SM.job_setJob hi] at eq
    by_cases h : k = i
    · subst h
      rw [if_pos rfl] at eq
      cases eq
      refine ⟨dx, pl, wk, ?_, hl⟩
      show upd H F.jd _ (setAt W.ja k x k) = _
      rw [setAt_same, upd_ne (ne_of hx R.jd (by intro z; cases z))]
      exact hx
    · rw [if_neg h] at eq
      obtain ⟨dx', pl', wk', e1, e2⟩ := R.jv k q eq
      refine ⟨dx', pl', wk', ?_, e2⟩
      show upd H F.jd _ (setAt W.ja i x k) = _
      rw [setAt_ne h, upd_ne (ne_of e1 R.jd (by intro z; cases z))]
      exact e1
  · rw [R.os l k, SM.job_setJob hi]
    by_cases h : k = i
    · subst h
      rw [if_pos rfl, e]
      constructor
      · rintro ⟨_, z, q⟩; cases z
      · rintro ⟨_, z, q⟩; cases z; rw [hh] at q; cases q
    · rw [if_neg h]
/-- the time goes on -/
theorem Rel.nowW (R : Rel a H F W s) (n : Nat) {dx : Addr} {fs : List (Str × V)} (hH : H F.p = some (.ins a.c_Scheduler dx fs)) : Rel a (upd H F.p (.ins a.c_Scheduler dx (schF { s with now := n } F))) F W { s with now := n } := by
  have hf : fs.length = 5 := by
    obtain ⟨dx', e⟩ := R.sch
    rw [e] at hH
    have hH := Option.some.inj hH
    injection hH with _ _ z
    rw [← z]; rfl
  refine ⟨⟨dx, upd_same⟩, ?_, fun k hk => ?_, fun k hk => ?_, R.ti, ?_, ?_, R.jo, R.nd, R.ks, fun k q eq => ?_, R.on, R.os⟩
  · rw [upd_ne (ne_of R.tl hH (by intro z; cases z))]; exact R.tl
  · obtain ⟨dx', e'⟩ := R.tk k hk
    exact ⟨dx', by rw [upd_ne (ne_of e' hH (ins_neN lenT hf (by decide)))]; exact e'⟩
  · rw [upd_ne (ne_of (R.st k hk).1 hH (by intro z; cases z))]
    exact R.st k hk
  · rw [upd_ne (ne_of R.jd hH (by intro z; cases z))]; exact R.jd
  · rw [upd_ne (ne_of R.od hH (by intro z; cases z))]; exact R.od
  · obtain ⟨dx', pl', wk', e1, e2⟩ := R.jv k q eq
    exact ⟨dx', pl', wk', by rw [upd_ne (ne_of e1 hH (ins_neN lenJ hf (by decide)))]; exact e1, e2⟩
/-- by rank or by deadline, while there are no jobs -/
theorem Rel.bydW (R : Rel a H F W s) (b : Bool) (hno : ∀ k, s.job k = none) {dx : Addr} {fs : List (Str × V)} (hH : H F.p = some (.ins a.c_Scheduler dx fs)) : Rel a (upd H F.p (.ins a.c_Scheduler dx (schF { s with byDeadline := b } F))) F W { s with byDeadline := b } := by
  have hf : fs.length = 5 := by
    obtain ⟨dx', e⟩ := R.sch
    rw [e] at hH
    have hH := Option.some.inj hH
    injection hH with _ _ z
    rw [← z]; rfl
  refine ⟨⟨dx, upd_same⟩, ?_, fun k hk => ?_, fun k hk => ?_, R.ti, ?_, ?_, R.jo, R.nd, R.ks, fun k q eq => ?_, R.on, R.os⟩
  · rw [upd_ne (ne_of R.tl hH (by intro z; cases z))]; exact R.tl
  · obtain ⟨dx', e'⟩ := R.tk k hk
    exact ⟨dx', by rw [upd_ne (ne_of e' hH (ins_neN lenT hf (by decide)))]; exact e'⟩
  · rw [upd_ne (ne_of (R.st k hk).1 hH (by intro z; cases z))]
    exact R.st k hk
  · rw [upd_ne (ne_of R.jd hH (by intro z; cases z))]; exact R.jd
  · rw [upd_ne (ne_of R.od hH (by intro z; cases z))]; exact R.od
  · have eq : s.job k = some q := eq
    rw [hno k] at eq; cases eq
end
end My
namespace My
open PySem PySem.W PyProof.Rows L2 Tx Mi
/-! ### dicts -/
theorem inl_inj {i k : Nat} : ((Sum.inl (i : Int) : Key) = Sum.inl (k : Int)) ↔ i = k := by
  constructor
  · intro h; exact Int.ofNat.inj (Sum.inl.inj h)
  · intro h; rw [h]
theorem valV_own : ∀ {os : List (Nat × Nat)}, (os.map Prod.fst).Nodup → ∀ {l i : Nat}, (l, i) ∈ os → valV (ownKV os) (Sum.inl (l : Int)) = some (V.int (i : Nat))
  | [], _, _, _, h => by cases h
  | (l0, i0) :: r, hn, l, i, h => by
    rw [List.map_cons] at hn
    obtain ⟨h1, h2⟩ := List.nodup_cons.mp hn
    unfold ownKV valV
    rw [List.map_cons, List.find?_cons]
    by_cases e : l0 = l
    · subst e
      rw [decide_eq_true rfl]
      rcases List.mem_cons.mp h with h | h
      · cases h; rfl
      · exact absurd (List.mem_map_of_mem (f := Prod.fst) h) h1
    · have e' : ¬ (Sum.inl (l0 : Int) : Key) = Sum.inl (l : Int) := fun q => e (inl_inj.mp q)
      rw [decide_eq_false e']
      rcases List.mem_cons.mp h with h | h
      · cases h; exact absurd rfl e
      · exact valV_own h2 h
theorem valV_own_none : ∀ {os : List (Nat × Nat)} {l : Nat}, (∀ i, ¬ (l, i) ∈ os) → valV (ownKV os) (Sum.inl (l : Int)) = none
  | [], _, _ => rfl
  | (l0, i0) :: r, l, h => by
    unfold ownKV valV
    rw [List.map_cons, List.find?_cons]
    by_cases e : l0 = l
    · subst e
      exact absurd List.mem_cons_self (h i0)
    · have e' : ¬ (Sum.inl (l0 : Int) : Key) = Sum.inl (l : Int) := fun q => e (inl_inj.mp q)
      rw [decide_eq_false e']
      exact valV_own_none (os := r) fun i hi => h i (List.mem_cons_of_mem _ hi)
theorem valV_jobs {ks : List Nat} {ja : Nat → Addr} {k : Nat} (h : k ∈ ks) : valV (jobKV ks ja) (Sum.inl (k : Int)) = some (.ref (ja k)) := by
  induction ks with
  | nil => cases h
  | cons x r ih =>
    unfold jobKV valV
    rw [List.map_cons, List.find?_cons]
    by_cases e : x = k
    · subst e
      rw [decide_eq_true rfl]
      rfl
    · have e' : ¬ (Sum.inl (x : Int) : Key) = Sum.inl (k : Int) := fun q => e (inl_inj.mp q)
      rw [decide_eq_false e']
      rcases List.mem_cons.mp h with h | h
      · exact absurd h.symm e
      · exact ih h
theorem valV_jobs_none {ks : List Nat} {ja : Nat → Addr} {k : Nat} (h : ¬ k ∈ ks) : valV (jobKV ks ja) (Sum.inl (k : Int)) = none := by
  induction ks with
  | nil => rfl
  | cons x r ih =>
    unfold jobKV valV
    rw [List.map_cons, List.find?_cons]
    have e : ¬ x = k := fun e => h (by rw [e]; exact List.mem_cons_self)
    have e' : ¬ (Sum.inl (x : Int) : Key) = Sum.inl (k : Int) := fun q => e (inl_inj.mp q)
    rw [decide_eq_false e']
    exact ih fun q => h (List.mem_cons_of_mem _ q)
theorem any_none {kvs : List (Key × V)} {k : Key} (h : valV kvs k = none) : (kvs.any fun kv => decide (kv.1 = k)) = false := by
  unfold valV at h
  rw [Option.map_eq_none_iff, List.find?_eq_none] at h
  rw [List.any_eq_false]
  exact h
theorem put_own {os : List (Nat × Nat)} {l i : Nat} (h : ∀ i, ¬ (l, i) ∈ os) : putK (ownKV os) (Sum.inl (l : Int)) (V.int (i : Nat)) = ownKV (os ++ [(l, i)]) := by
  unfold putK
  rw [any_none (valV_own_none h), if_neg Bool.false_ne_true]
  unfold ownKV
  rw [List.map_append]
  rfl
theorem drop_own (os : List (Nat × Nat)) (l : Nat) : dropK (ownKV os) (Sum.inl (l : Int)) = ownKV (os.filter fun o => decide (o.1 ≠ l)) := by
  unfold dropK ownKV
  rw [List.filter_map]
  congr 1
  refine List.filter_congr fun o _ => ?_
  show decide (¬ (Sum.inl (o.1 : Int) : Key) = Sum.inl (l : Int)) = decide (o.1 ≠ l)
  rw [decide_eq_decide, inl_inj]
theorem put_job {ks : List Nat} {ja : Nat → Addr} {i : Nat} {x : Addr} (h : ¬ i ∈ ks) : putK (jobKV ks ja) (Sum.inl (i : Int)) (V.ref x) = jobKV (ks ++ [i]) (setAt ja i x) := by
  unfold putK
  rw [any_none (valV_jobs_none h), if_neg Bool.false_ne_true]
  unfold jobKV
  rw [List.map_append]
  have e1 : (ks.map fun (k : Nat) => ((Sum.inl (k : Int) : Key), V.ref (ja k))) = ks.map fun (k : Nat) => ((Sum.inl (k : Int) : Key), V.ref (setAt ja i x k)) := by
    refine List.map_congr_left fun k hk => ?_
    rw [setAt_ne (fun e => h (by rw [← e]; exact hk))]
  rw [e1]
  show _ = _ ++ [(Sum.inl (i : Int), V.ref (setAt ja i x i))]
  rw [setAt_same]
theorem drop_job (ks : List Nat) (ja : Nat → Addr) (i : Nat) : dropK (jobKV ks ja) (Sum.inl (i : Int)) = jobKV (ks.filter fun k => decide (k ≠ i)) ja := by
  unfold dropK jobKV
  rw [List.filter_map]
  congr 1
  refine List.filter_congr fun o _ => ?_
  show decide (¬ (Sum.inl (o : Int) : Key) = Sum.inl (i : Int)) = decide (o ≠ i)
  rw [decide_eq_decide, inl_inj]
theorem jobKV_at {ks : List Nat} {ja : Nat → Addr} {i : Nat} {kk : Key} {x : V} (h : (jobKV ks ja)[i]? = some (kk, x)) : ∃ k, ks[i]? = some k ∧ kk = Sum.inl (k : Int) ∧ x = .ref (ja k) := by
  unfold jobKV at h
  rw [List.getElem?_map] at h
  cases e : ks[i]? with
  | none => rw [e] at h; cases h
  | some k => rw [e] at h; cases h; exact ⟨k, rfl, rfl, rfl⟩
/-! ### how far a job has come -/
def stepIs (z : Int) (wk : Nat) : Sz17.Step → Prop
  | .work m => isWork z = true ∧ z = ((m + wk : Nat) : Int)
  | .take l => isTake z = true ∧ lockOf z = (l : Nat) ∧ l < 16
  | .give l => isGive z = true ∧ isTake z = false ∧ lockOf z = (l : Nat) ∧ l < 16
theorem LeftR.start {ns : List Int} {st : List Sz17.Step} (h : SM.Reads ns st) : LeftR ns 0 0 st := ⟨st, h, .inl ⟨rfl, rfl⟩⟩
theorem drop_cons {α : Type} {l : List α} {i : Nat} {x : α} {r : List α} (h : l.drop i = x :: r) : l[i]? = some x ∧ r = l.drop (i + 1) ∧ i < l.length := by
  have hl : i < l.length := by
    by_cases q : i < l.length
    · exact q
    · rw [List.drop_of_length_le (by lia)] at h; cases h
  rw [List.drop_eq_getElem_cons hl] at h
  injection h with h1 h2
  exact ⟨by rw [List.getElem?_eq_getElem hl, h1], h2.symm, hl⟩
theorem isWork_nat {z : Int} (h : isWork z = true) : z = (z.toNat : Int) := by
  unfold isWork at h
  rw [decide_eq_true_eq] at h
  lia
theorem LeftR.head {ns : List Int} {pl wk : Nat} {x : Sz17.Step} {r : List Sz17.Step} (h : LeftR ns pl wk (x :: r)) : ∃ z, ns[pl]? = some z ∧ pl < ns.length ∧ LeftR ns (pl + 1) 0 r ∧ (pl + 1 = ns.length ↔ r = []) ∧ stepIs z wk x := by
  obtain ⟨st0, hr, hc⟩ := h
  have key : ∀ (y : Sz17.Step), st0 = y :: r → ∃ z, ns[pl]? = some z ∧ pl < ns.length ∧ LeftR ns (pl + 1) 0 r ∧ (pl + 1 = ns.length ↔ r = []) ∧ stepIs z 0 y := by
    rintro y rfl
    generalize hd : ns.drop pl = d at hr
    have fin : ∀ {z : Int} {ds : List Int}, d = z :: ds → SM.Reads ds r → stepIs z 0 y → ∃ z, ns[pl]? = some z ∧ pl < ns.length ∧ LeftR ns (pl + 1) 0 r ∧ (pl + 1 = ns.length ↔ r = []) ∧ stepIs z 0 y := fun {z ds} e h1 h2 => by
      rw [e] at hd
      obtain ⟨e1, e2, e3⟩ := drop_cons hd
      rw [e2] at h1
      refine ⟨z, e1, e3, ⟨r, h1, .inl ⟨rfl, rfl⟩⟩, ?_, h2⟩
      have hlen := (SM.reads_all h1).2.2
      rw [List.length_drop] at hlen
      constructor
      · intro q
        exact List.length_eq_zero_iff.mp (by lia)
      · intro q
        rw [q, List.length_nil] at hlen
        lia
    cases hr with
    | work hz h1 => exact fin rfl h1 ⟨hz, isWork_nat hz⟩
    | take hz h1 => exact fin rfl h1 ⟨hz, SM.lock_take hz⟩
    | give hz h1 => exact fin rfl h1 ⟨hz, SM.lock_give hz⟩
  rcases hc with ⟨rfl, e⟩ | ⟨n, r', e0, hwk, e⟩
  · exact key x e.symm
  · injection e with e1 e2
    subst e1 e2
    obtain ⟨z, h1, h2, h3, h4, h5, h6⟩ := key _ e0
    exact ⟨z, h1, h2, h3, h4, h5, by rw [h6]; congr 1; lia⟩
theorem LeftR.worked {ns : List Int} {pl wk m k : Nat} {r : List Sz17.Step} (h : LeftR ns pl wk (.work m :: r)) (hk : k ≤ m) : LeftR ns pl (wk + k) (.work (m - k) :: r) := by
  obtain ⟨st0, hr, hc⟩ := h
  rcases hc with ⟨rfl, e⟩ | ⟨n, r', e0, hwk, e⟩
  · exact ⟨st0, hr, .inr ⟨m, r, e.symm, by lia, by rw [Nat.zero_add]⟩⟩
  · injection e with e1 e2
    injection e1 with e1
    subst e2
    exact ⟨st0, hr, .inr ⟨n, r, e0, by lia, by rw [e1]; congr 2; lia⟩⟩
/-! ### the scheduler's state, read -/
section
variable {a : Ad} {H : Hp} {F : Fx} {W : Vr} {s : Sz17.St}
theorem Rel.owner (R : Rel a H F W s) (o : SM.Ok s) (l : Nat) : valV (ownKV W.os) (Sum.inl (l : Int)) = (Sz17.holder s l).map fun i => V.int (i : Nat) := by
  cases e : Sz17.holder s l with
  | none =>
    refine valV_own_none fun i hi => ?_
    obtain ⟨j, hj, hl⟩ := (R.os l i).mp hi
    rw [(SM.holder_iff o).mpr ⟨j, hj, hl⟩] at e
    cases e
  | some i => exact valV_own R.on ((R.os l i).mpr ((SM.holder_iff o).mp e))
theorem Rel.sa_tl (R : Rel a H F W s) {i : Nat} (hi : i < s.tasks.length) : F.sa i ≠ F.tl := fun e => by
  have h1 := (R.st i hi).1
  rw [e, R.tl] at h1
  have h1 := Option.some.inj h1
  injection h1 with h1
  have h2 := congrArg (fun l => l[0]?) h1
  simp only [List.getElem?_map] at h2
  rw [List.getElem?_range (by lia)] at h2
  cases q : (F.ns i)[0]? with
  | none => rw [q] at h2; cases h2
  | some z => rw [q] at h2; cases h2
theorem ks_length (R : Rel a H F W s) (o : SM.Ok s) : W.ks.length ≤ 32 := by
  have h := SM.length_le_of_subset (ks := List.range s.tasks.length) R.nd fun k hk => by
    obtain ⟨j, hj⟩ := Option.isSome_iff_exists.mp ((R.ks k).mp hk)
    exact List.mem_range.mpr (by rw [← o.jl]; exact SM.job_lt hj)
  rw [List.length_range] at h
  have := o.t32
  lia
/-- another task -/
theorem task_append (s : Sz17.St) (t : Sz17.Doing) (js : List (Option Sz17.Job)) (ss : List Sz17.Seen) (k : Nat) (hk : k < s.tasks.length) : ({ s with tasks := s.tasks ++ [t], jobs := js, seen := ss } : Sz17.St).task k = s.task k := by
  unfold Sz17.St.task
  rw [List.getD_eq_getElem?_getD, List.getD_eq_getElem?_getD]
  show ((s.tasks ++ [t])[k]?).getD _ = _
  rw [List.getElem?_append_left hk]
theorem task_last (s : Sz17.St) (t : Sz17.Doing) (js : List (Option Sz17.Job)) (ss : List Sz17.Seen) : ({ s with tasks := s.tasks ++ [t], jobs := js, seen := ss } : Sz17.St).task s.tasks.length = t := by
  unfold Sz17.St.task
  rw [List.getD_eq_getElem?_getD]
  show ((s.tasks ++ [t])[s.tasks.length]?).getD _ = _
  rw [List.getElem?_concat_length]
  rfl
def addT (s : Sz17.St) (t : Sz17.Doing) : Sz17.St := { s with tasks := s.tasks ++ [t], jobs := s.jobs ++ [none], seen := s.seen ++ [⟨0, 0, 0, 0⟩] }
theorem job_addT (s : Sz17.St) (t : Sz17.Doing) (k : Nat) : (addT s t).job k = s.job k := by
  unfold Sz17.St.job addT
  show ((s.jobs ++ [none])[k]?).join = _
  by_cases h : k < s.jobs.length
  · rw [List.getElem?_append_left h]
  · rw [List.getElem?_append_right (by lia), List.getElem?_eq_none (l := s.jobs) (by lia)]
    cases k - s.jobs.length with
    | zero => rfl
    | succ n => rfl
theorem seen_addT {s : Sz17.St} {t : Sz17.Doing} (o : s.seen.length = s.tasks.length) (k : Nat) : seenAt (addT s t) k = if k < s.tasks.length then seenAt s k else ⟨0, 0, 0, 0⟩ := by
  unfold seenAt addT
  rw [List.getD_eq_getElem?_getD, List.getD_eq_getElem?_getD]
  show ((s.seen ++ [_])[k]?).getD _ = _
  by_cases h : k < s.tasks.length
  · rw [if_pos h, List.getElem?_append_left (by lia)]
  · rw [if_neg h, List.getElem?_append_right (by lia)]
    cases k - s.seen.length with
    | zero => rfl
    | succ n => rfl
def addF (F : Fx) (n : Nat) (x l : Addr) (ns : List Int) : Fx := { F with ta := setAt F.ta n x, sa := setAt F.sa n l, ns := setAt F.ns n ns }
theorem Rel.addTask (R : Rel a H F W s) (o : SM.Ok s) {t : Sz17.Doing} {x dx l : Addr} {ns : List Int} (hx : H x = some (.ins a.c_Task dx (taskF t ⟨0, 0, 0, 0⟩ l t.first))) (hl : H l = some (.lst (ns.map V.int))) (hr : SM.Reads ns t.steps) (h1 : l ≠ F.tl) (h2 : ∀ i, i < s.tasks.length → F.ta i ≠ x) :
    Rel a (upd H F.tl (.lst (((List.range s.tasks.length).map fun i => V.ref (F.ta i)) ++ [V.ref x]))) (addF F s.tasks.length x l ns) { W with cm := setAt W.cm s.tasks.length t.first } (addT s t) := by
  have hlen : (addT s t).tasks.length = s.tasks.length + 1 := by show (s.tasks ++ [t]).length = _; rw [List.length_append]; rfl
  have et : ∀ k, k < s.tasks.length → (addT s t).task k = s.task k := fun k hk => task_append s t _ _ k hk
  have el : (addT s t).task s.tasks.length = t := task_last s t _ _
  have jlt : ∀ {k j}, s.job k = some j → k < s.tasks.length := fun {k j} e => by rw [← o.jl]; exact SM.job_lt e
  refine ⟨?_, ?_, fun k hk => ?_, fun k hk => ?_, fun i k hi hk => ?_, ?_, ?_, R.jo, R.nd, fun k => ?_, fun k q eq => ?_, R.on, fun l k => ?_⟩
  · obtain ⟨dx', e'⟩ := R.sch
    exact ⟨dx', by show upd H F.tl _ F.p = _; rw [upd_ne (ne_of e' R.tl (by intro z; cases z))]; exact e'⟩
  · show upd H F.tl _ F.tl = _
    rw [upd_same, hlen, List.range_succ, List.map_append]
    have e1 : ((List.range s.tasks.length).map fun i => V.ref (F.ta i)) = (List.range s.tasks.length).map fun i => V.ref (setAt F.ta s.tasks.length x i) := by
      refine List.map_congr_left fun k hk => ?_
      rw [setAt_ne (by have := List.mem_range.mp hk; lia)]
    rw [e1]
    show _ = some (HO.lst (_ ++ [V.ref (setAt F.ta s.tasks.length x s.tasks.length)]))
    rw [setAt_same]
    rfl
  · rw [hlen] at hk
    show ∃ dx, upd H F.tl _ (setAt F.ta s.tasks.length x k) = some (.ins a.c_Task dx (taskF _ _ (setAt F.sa s.tasks.length l k) (setAt W.cm s.tasks.length t.first k)))
    rw [seen_addT o.sl]
    by_cases e : k = s.tasks.length
    · subst e
      rw [el, setAt_same, setAt_same, setAt_same, if_neg (Nat.lt_irrefl _), upd_ne (ne_of hx R.tl (by intro z; cases z))]
      exact ⟨dx, hx⟩
    · have hk' : k < s.tasks.length := by lia
      rw [et k hk', setAt_ne e, setAt_ne e, setAt_ne e, if_pos hk']
      obtain ⟨dx', e'⟩ := R.tk k hk'
      exact ⟨dx', by rw [upd_ne (ne_of e' R.tl (by intro z; cases z))]; exact e'⟩
  · rw [hlen] at hk
    show upd H F.tl _ (setAt F.sa s.tasks.length l k) = some (.lst ((setAt F.ns s.tasks.length ns k).map V.int)) ∧ SM.Reads (setAt F.ns s.tasks.length ns k) _
    by_cases e : k = s.tasks.length
    · subst e
      rw [el, setAt_same, setAt_same, upd_ne h1]
      exact ⟨hl, hr⟩
    · have hk' : k < s.tasks.length := by lia
      rw [et k hk', setAt_ne e, setAt_ne e, upd_ne (R.sa_tl hk')]
      exact R.st k hk'
  · rw [hlen] at hi hk
    show setAt F.ta s.tasks.length x i = setAt F.ta s.tasks.length x k → _
    by_cases e : i = s.tasks.length
    · subst e
      rw [setAt_same]
      by_cases e' : k = s.tasks.length
      · intro _; exact e'.symm
      · rw [setAt_ne e']
        intro q
        exact absurd q.symm (h2 k (by lia))
    · rw [setAt_ne e]
      by_cases e' : k = s.tasks.length
      · subst e'
        rw [setAt_same]
        intro q
        exact absurd q (h2 i (by lia))
      · rw [setAt_ne e']
        exact R.ti i k (by lia) (by lia)
  · show upd H F.tl _ F.jd = _
    rw [upd_ne (ne_of R.jd R.tl (by intro z; cases z))]; exact R.jd
  · show upd H F.tl _ F.od = _
    rw [upd_ne (ne_of R.od R.tl (by intro z; cases z))]; exact R.od
  · rw [job_addT]; exact R.ks k
  · rw [job_addT] at eq
    have hk := jlt eq
    obtain ⟨dx', pl', wk', e1, e2⟩ := R.jv k q eq
    have e3 : jobF (addT s t) k q (F.sa k) pl' wk' = jobF s k q (F.sa k) pl' wk' := by
      unfold jobF lateAt Sz17.own
      rw [et k hk]
      rfl
    refine ⟨dx', pl', wk', ?_, ?_⟩
    · show upd H F.tl _ (W.ja k) = some (.ins a.c_Job dx' (jobF (addT s t) k q (setAt F.sa s.tasks.length l k) pl' wk'))
      rw [setAt_ne (by lia), upd_ne (ne_of e1 R.tl (by intro z; cases z)), e3]
      exact e1
    · show LeftR (setAt F.ns s.tasks.length ns k) _ _ _
      rw [setAt_ne (by lia)]
      exact e2
  · rw [job_addT]; exact R.os l k
end
/-- a new scheduler -/
theorem Rel.blank {a : Ad} {H : Hp} {F : Fx} {W : Vr} (h1 : ∃ dx, H F.p = some (.ins a.c_Scheduler dx (fl_Scheduler (.bl false) (.int 0) (.ref F.tl) (.ref F.jd) (.ref F.od)))) (h2 : H F.tl = some (.lst [])) (h3 : H F.jd = some (.dK [])) (h4 : H F.od = some (.dK [])) (h5 : F.jd ≠ F.od) (h6 : W.ks = []) (h7 : W.os = []) : Rel a H F W Sz17.blank := by
  have nj : ∀ k, Sz17.blank.job k = none := fun k => by
    unfold Sz17.St.job
    show (([] : List (Option Sz17.Job))[k]?).join = none
    rw [List.getElem?_nil]
    rfl
  refine ⟨h1, h2, fun i hi => absurd hi (Nat.not_lt_zero _), fun i hi => absurd hi (Nat.not_lt_zero _), fun i k hi => absurd hi (Nat.not_lt_zero _), ?_, ?_, h5, ?_, fun k => ?_, fun k j e => ?_, ?_, fun l i => ?_⟩
  · rw [h6]; exact h3
  · rw [h7]; exact h4
  · rw [h6]; exact List.nodup_nil
  · rw [h6, nj]; simp
  · rw [nj] at e; cases e
  · rw [h7]; exact List.nodup_nil
  · rw [h7, nj]; simp
/-! ### what stays as it was -/
def isFix : HO → Bool
  | .ins _ _ _ => false
  | .dK _ => false
  | _ => true
/-- all that is no object and no dict; nothing goes -/
structure Fr (H H' : Hp) : Prop where
  fix : ∀ b u, H b = some u → isFix u = true → H' b = some u
  dom : ∀ b, H' b = none → H b = none
theorem Fr.refl (H : Hp) : Fr H H := ⟨fun _ _ h _ => h, fun _ h => h⟩
theorem Fr.trans {H H1 H2 : Hp} (h : Fr H H1) (g : Fr H1 H2) : Fr H H2 := ⟨fun b u e f => g.fix b u (h.fix b u e f) f, fun b e => h.dom b (g.dom b e)⟩
theorem dom_of {H H' : Hp} (h : Same H H') (b : Addr) (e : H' b = none) : H b = none := by
  cases q : H b with
  | none => rfl
  | some u => rw [h b u q] at e; cases e
theorem dom_upd {H H' : Hp} {x : Addr} {o : HO} (h : ∀ b, H' b = none → H b = none) (b : Addr) (e : upd H' x o b = none) : H b = none := by
  by_cases hb : b = x
  · rw [hb, upd_same] at e; cases e
  · rw [upd_ne hb] at e; exact h b e
theorem Fr.of {H H' : Hp} (h : Same H H') : Fr H H' := ⟨fun b u e _ => h b u e, dom_of h⟩
theorem Fr.ins {H H' : Hp} {x : Addr} {C dx : Addr} {fs : List (Str × V)} {o : HO} (h : Fr H H') (hx : H' x = some (.ins C dx fs)) : Fr H (upd H' x o) := ⟨fun b u e f => by
  have := h.fix b u e f
  rw [upd_ne (ne_of this hx (by intro z; subst z; cases f))]
  exact this, dom_upd h.dom⟩
theorem Fr.dk {H H' : Hp} {x : Addr} {kvs : List (Key × V)} {o : HO} (h : Fr H H') (hx : H' x = some (.dK kvs)) : Fr H (upd H' x o) := ⟨fun b u e f => by
  have := h.fix b u e f
  rw [upd_ne (ne_of this hx (by intro z; subst z; cases f))]
  exact this, dom_upd h.dom⟩
theorem Fr.new {H H' : Hp} {x : Addr} {o : HO} (h : Fr H H') (hx : H x = none) : Fr H (upd H' x o) := ⟨fun b u e f => by
  rw [upd_ne (ne_of_none e hx)]
  exact h.fix b u e f, dom_upd h.dom⟩
end My
namespace My
open PySem PySem.W PyProof.Rows L2 Tx Mi
theorem relI {z : Int} {t : Tok} : RelV (.int z) (.int z t) := ⟨t, rfl⟩
theorem ite_and {c d : Prop} [Decidable c] [Decidable d] {Q : Bool → Prop} (h : Q (decide (c ∧ d))) : if decide c = true then Q (decide d) else Q false := by
  by_cases hc : c
  · rw [if_pos (decide_eq_true hc)]
    have e : decide (c ∧ d) = decide d := by simp [hc]
    rw [← e]; exact h
  · rw [if_neg (by simp [hc])]
    have e : decide (c ∧ d) = false := by simp [hc]
    rw [← e]; exact h
theorem cxK {CX : CXT} {P : Program} {w : World} {K : Frag} {mg : Str → Option Value} {base : Heap} {N : List Str} {qual : Str} {scope : Scope} {f : Addr} {cd : Value} {A : Around} {outer : List Env} {s : Shared} {H : Hp} {E : XK} :
    (cxOf CX P w K mg base N qual scope f cd A outer s H E).K = K := rfl
theorem ifB {b : Bool} {A B : Prop} (h1 : b = true → A) (h2 : b = false → B) : if b = true then A else B := by
  cases b with
  | true => rw [if_pos rfl]; exact h1 rfl
  | false => rw [if_neg Bool.false_ne_true]; exact h2 rfl
/-- a test that changes nothing: its word -/
def PureT (t : TT) (σ : L2.St) (H : Hp) (b : Bool) : Prop := ∀ Q : Bool → Hp → Prop, Q b H → t σ H Q
def PureE (t : TE) (σ : L2.St) (H : Hp) (v : V) : Prop := ∀ Q : VK, Q v H → t σ H Q
theorem PureT.and {t u : TT} {σ : L2.St} {H : Hp} {b c : Bool} (h1 : PureT t σ H b) (h2 : b = true → PureT u σ H c) : PureT (tAnd t u) σ H (b && c) := fun Q q => h1 _ (by
  cases b with
  | true => rw [if_pos rfl]; exact h2 rfl Q q
  | false => rw [if_neg Bool.false_ne_true]; exact q)
theorem PureT.or {t u : TT} {σ : L2.St} {H : Hp} {b c : Bool} (h1 : PureT t σ H b) (h2 : b = false → PureT u σ H c) : PureT (tOr t u) σ H (b || c) := fun Q q => h1 _ (by
  cases b with
  | true => rw [if_pos rfl]; exact q
  | false => rw [if_neg Bool.false_ne_true]; exact h2 rfl Q q)
theorem PureT.not {t : TT} {σ : L2.St} {H : Hp} {b : Bool} (h : PureT t σ H b) : PureT (tNot t) σ H (!b) := fun Q q => h _ q
theorem PureT.tt {t : TE} {σ : L2.St} {H : Hp} {b : Bool} (h : PureE t σ H (.bl b)) : PureT (tTest t) σ H b := fun Q q => h _ ⟨b, rfl, q⟩
theorem PureT.ifS {t : TT} {σ : L2.St} {H : Hp} {b : Bool} {u v : TS} {D : Ends} (h : PureT t σ H b) (q : if b = true then u D σ H else v D σ H) : tIfS t u v D σ H := h _ q
theorem PureE.andV {t u : TE} {σ : L2.St} {H : Hp} {b : Bool} {c : Bool} (h1 : PureE t σ H (.bl b)) (h2 : b = true → PureE u σ H (.bl c)) : PureE (tAndV t u) σ H (.bl (b && c)) := fun Q q => h1 _ ⟨b, rfl, by
  cases b with
  | true => rw [if_pos rfl]; exact h2 rfl Q q
  | false => rw [if_neg Bool.false_ne_true]; exact q⟩
theorem PureE.chainLe {ta tb tc : TE} {σ : L2.St} {H : Hp} {x y z : Int} (h1 : PureE ta σ H (.int x)) (h2 : PureE tb σ H (.int y)) (h3 : PureE tc σ H (.int z)) :
    PureE (tChain (rI0 fun i j => .bl (decide (i ≤ j))) (rI0 fun i j => .bl (decide (i ≤ j))) ta tb tc) σ H (.bl (decide (x ≤ y ∧ y ≤ z))) := fun Q q => h1 _ (h2 _ ⟨x, y, rfl, rfl, _, rfl, by
  by_cases h : x ≤ y
  · rw [if_pos (decide_eq_true h)]
    refine h3 _ ⟨y, z, rfl, rfl, ?_⟩
    have e : decide (x ≤ y ∧ y ≤ z) = decide (y ≤ z) := by simp [h]
    rw [e] at q
    exact q
  · rw [if_neg (by simp [h])]
    have e : decide (x ≤ y ∧ y ≤ z) = false := by simp [h]
    rw [← e]; exact q⟩)
theorem PureE.c {v : V} {σ : L2.St} {H : Hp} : PureE (tC v) σ H v := fun Q q => q
theorem PureE.v {i : Nat} {v : V} {σ : L2.St} {H : Hp} (h : σ[i]? = some (some v)) : PureE (tVar i) σ H v := fun Q q => ⟨v, h, q⟩
theorem PureT.ifT {t : TT} {σ : L2.St} {H : Hp} {u v : TS} {D : Ends} (h : PureT t σ H true) (q : u D σ H) : tIfS t u v D σ H := h _ (iteT q)
theorem PureT.ifF {t : TT} {σ : L2.St} {H : Hp} {u v : TS} {D : Ends} (h : PureT t σ H false) (q : v D σ H) : tIfS t u v D σ H := h _ (iteF q)
theorem PureT.b {t : TE} {σ : L2.St} {H : Hp} {b : Bool} (h : PureE t σ H (.bl b)) : PureT (tB t) σ H b := fun Q q => h _ ⟨b, rfl, q⟩
theorem PureE.isN {t : TE} {σ : L2.St} {H : Hp} {x : V} (h : PureE t σ H x) : PureE (tIsN t) σ H (.bl (decide (x = .non))) := fun Q q => h _ q
theorem PureE.isNT {t : TE} {σ : L2.St} {H : Hp} (h : PureE t σ H .non) : PureE (tIsN t) σ H (.bl true) := fun Q q => h _ q
theorem PureE.isNF {t : TE} {σ : L2.St} {H : Hp} {x : V} (h : PureE t σ H x) (e : x ≠ .non) : PureE (tIsN t) σ H (.bl false) := fun Q q => h _ (by rw [decide_eq_false e]; exact q)
theorem PureE.notNT {t : TE} {σ : L2.St} {H : Hp} {x : V} (h : PureE t σ H x) (e : x ≠ .non) : PureE (tNotN t) σ H (.bl true) := fun Q q => h _ (by rw [decide_eq_false e]; exact q)
theorem PureE.notNF {t : TE} {σ : L2.St} {H : Hp} (h : PureE t σ H .non) : PureE (tNotN t) σ H (.bl false) := fun Q q => h _ q
theorem ref_non {x : Addr} : V.ref x ≠ V.non := by intro z; cases z
theorem PureE.notN {t : TE} {σ : L2.St} {H : Hp} {x : V} (h : PureE t σ H x) : PureE (tNotN t) σ H (.bl (!decide (x = .non))) := fun Q q => h _ q
theorem PureE.fld {K : Frag} {ta : TE} {f : Str} {σ : L2.St} {H : Hp} {x C dx : Addr} {fs : List (Str × V)} {v : V} (h : PureE ta σ H (.ref x)) (hx : H x = some (.ins C dx fs)) (c : Cls K C) (n : NoAttr K C f) (l : fs.lookup f = some v) : PureE (tFld K ta f) σ H v :=
  fun Q q => h _ ⟨x, C, dx, fs, v, rfl, hx, c, n, l, q⟩
theorem PureE.op {g : Int → Int → V} {ta tb : TE} {σ : L2.St} {H : Hp} {x y : Int} (h1 : PureE ta σ H (.int x)) (h2 : PureE tb σ H (.int y)) : PureE (tOp (rI0 g) ta tb) σ H (g x y) := fun Q q => h1 _ (h2 _ ⟨x, y, rfl, rfl, q⟩)
theorem PureE.eq {ta tb : TE} {σ : L2.St} {H : Hp} {x y : V} (h1 : PureE ta σ H x) (h2 : PureE tb σ H y) (hs : scal x y = true) : PureE (tOp rEq ta tb) σ H (.bl (decide (x = y))) := fun Q q => h1 _ (h2 _ ⟨hs, q⟩)
theorem PureE.orV {t u : TE} {σ : L2.St} {H : Hp} {b : Bool} {c : Bool} (h1 : PureE t σ H (.bl b)) (h2 : PureE u σ H (.bl c)) : PureE (tOrV t u) σ H (.bl (b || c)) := fun Q q => h1 _ ⟨b, rfl, by
  cases b with
  | true => rw [if_pos rfl]; exact q
  | false => rw [if_neg Bool.false_ne_true]; exact h2 Q q⟩
theorem PureE.lenL {K : Frag} {ta : TE} {σ : L2.St} {H : Hp} {p : Addr} {xs : List V} (h : PureE ta σ H (.ref p)) (hp : SqL K H p xs ∨ SqT K H p xs) : PureE (tCB (fun ys H Q => ∃ p zs, ys = [V.ref p] ∧ (SqL K H p zs ∨ SqT K H p zs) ∧ Q (.int zs.length) H) (tCons ta tNil)) σ H (.int xs.length) :=
  fun Q q => h _ ⟨p, xs, rfl, hp, q⟩
theorem PureE.chainLt {ta tb tc : TE} {σ : L2.St} {H : Hp} {x y z : Int} (h1 : PureE ta σ H (.int x)) (h2 : PureE tb σ H (.int y)) (h3 : PureE tc σ H (.int z)) :
    PureE (tChain (rI0 fun i j => .bl (decide (i ≤ j))) (rI0 fun i j => .bl (decide (i < j))) ta tb tc) σ H (.bl (decide (x ≤ y ∧ y < z))) := fun Q q => h1 _ (h2 _ ⟨x, y, rfl, rfl, _, rfl, by
  by_cases h : x ≤ y
  · rw [if_pos (decide_eq_true h)]
    refine h3 _ ⟨y, z, rfl, rfl, ?_⟩
    have e : decide (x ≤ y ∧ y < z) = decide (y < z) := by simp [h]
    rw [e] at q
    exact q
  · rw [if_neg (by simp [h])]
    have e : decide (x ≤ y ∧ y < z) = false := by simp [h]
    rw [← e]; exact q⟩)
def spB (f : Int → Bool) : Sp := fun vs H Q _ => ∃ z : Int, vs = [.int z] ∧ Q (.bl (f z)) H
def spI (f : Int → Int) : Sp := fun vs H Q _ => ∃ z : Int, vs = [.int z] ∧ Q (.int (f z)) H
section
variable {P : Program} {w : World} {K : Frag} {mg : Str → Option Value} {base : Heap} {a : Ad}
theorem ok_is_work (T : Txt a K mg) : FnOk P w K mg base CX0 1 a.f_is_work a.d_is_work ["step"] (spB isWork) := by
  refine T.fn_is_work.ok sc_is_work (fun vs H Q E h => ?_) (fun cdv A outer s H vs Q E hr h => ?_)
  · obtain ⟨z, rfl, _⟩ := h
    rfl
  · obtain ⟨z, rfl, k⟩ := h
    obtain ⟨t_MOST_WORK, g_MOST_WORK⟩ := T.k_MOST_WORK
    refine ⟨_, (pss_one (ps_ret (pe_chain op_le op_le pe_int (pv 0) (pe_glob rfl g_MOST_WORK relI)))), ?_⟩
    exact PureE.chainLe (x := 1) (y := z) (z := 10000) .c (.v rfl) .c _ k
theorem ok_is_take (T : Txt a K mg) : FnOk P w K mg base CX0 1 a.f_is_take a.d_is_take ["step"] (spB isTake) := by
  refine T.fn_is_take.ok sc_is_take (fun vs H Q E h => ?_) (fun cdv A outer s H vs Q E hr h => ?_)
  · obtain ⟨z, rfl, _⟩ := h
    rfl
  · obtain ⟨z, rfl, k⟩ := h
    obtain ⟨t_TAKE_LOCK_0, g_TAKE_LOCK_0⟩ := T.k_TAKE_LOCK_0
    obtain ⟨t_LOCKS, g_LOCKS⟩ := T.k_LOCKS
    refine ⟨_, (pss_one (ps_ret (pe_chain op_le op_lt (pe_glob rfl g_TAKE_LOCK_0 relI) (pv 0) (pe_op op_add (pe_glob rfl g_TAKE_LOCK_0 relI) (pe_glob rfl g_LOCKS relI))))), ?_⟩
    exact PureE.chainLt (x := 20000) (y := z) (z := 20016) .c (.v rfl) (PureE.op (x := 20000) (y := 16) .c .c) _ k
theorem ok_is_give (T : Txt a K mg) : FnOk P w K mg base CX0 1 a.f_is_give a.d_is_give ["step"] (spB isGive) := by
  refine T.fn_is_give.ok sc_is_give (fun vs H Q E h => ?_) (fun cdv A outer s H vs Q E hr h => ?_)
  · obtain ⟨z, rfl, _⟩ := h
    rfl
  · obtain ⟨z, rfl, k⟩ := h
    obtain ⟨t_GIVE_LOCK_0, g_GIVE_LOCK_0⟩ := T.k_GIVE_LOCK_0
    obtain ⟨t_LOCKS, g_LOCKS⟩ := T.k_LOCKS
    refine ⟨_, (pss_one (ps_ret (pe_chain op_le op_lt (pe_glob rfl g_GIVE_LOCK_0 relI) (pv 0) (pe_op op_add (pe_glob rfl g_GIVE_LOCK_0 relI) (pe_glob rfl g_LOCKS relI))))), ?_⟩
    exact PureE.chainLt (x := 30000) (y := z) (z := 30016) .c (.v rfl) (PureE.op (x := 30000) (y := 16) .c .c) _ k
theorem ok_lock_of (T : Txt a K mg) : FnOk P w K mg base CX0 2 a.f_lock_of a.d_lock_of ["step"] (spI lockOf) := by
  refine T.fn_lock_of.ok sc_lock_of (fun vs H Q E h => ?_) (fun cdv A outer s H vs Q E hr h => ?_)
  · obtain ⟨z, rfl, _⟩ := h
    rfl
  · obtain ⟨z, rfl, k⟩ := h
    obtain ⟨t_TAKE_LOCK_0, g_TAKE_LOCK_0⟩ := T.k_TAKE_LOCK_0
    obtain ⟨t_GIVE_LOCK_0, g_GIVE_LOCK_0⟩ := T.k_GIVE_LOCK_0
    refine ⟨_, (pss_cons (ps_if (pt_truth (pe_call (ok_is_take T) (hr.mono (by decide)) rfl T.mg_is_take T.fn_is_take.kp T.bd_is_take .nil pass0 (pa_cons (pv 0) pa_nil)) (fun _ => rfl))
      (pss_one (ps_ret (pe_op op_sub (pv 0) (pe_glob rfl g_TAKE_LOCK_0 relI))))
      pss_nil)
      (pss_one (ps_ret (pe_op op_sub (pv 0) (pe_glob rfl g_GIVE_LOCK_0 relI))))), ?_⟩
    unfold lockOf at k
    refine PureT.ifS (b := isTake z) (fun Q q => ⟨_, rfl, z, rfl, _, rfl, q⟩) (ifB (fun h => ?_) (fun h => ?_))
    · rw [h, if_pos rfl] at k
      exact PureE.op (x := z) (y := 20000) (.v rfl) .c _ k
    · rw [h, if_neg Bool.false_ne_true] at k
      exact PureE.op (x := z) (y := 30000) (.v rfl) .c _ k
end
end My
namespace My
open PySem PySem.W PyProof.Rows L2 Tx Mi
theorem inV_int (x : Int) (ns : List Int) : inV (.int x) (ns.map V.int) = decide (x ∈ ns) := by
  unfold inV
  rw [List.any_map]
  induction ns with
  | nil => rfl
  | cons n r ih =>
    rw [List.any_cons, ih]
    show (eqV (V.int n) (V.int x) || decide (x ∈ r)) = decide (x ∈ n :: r)
    have e : eqV (V.int n) (V.int x) = decide (n = x) := by
      show (n == x) = decide (n = x)
      by_cases h : n = x
      · subst h; simp
      · simp [h]
    rw [e]
    by_cases h : x = n
    · subst h; simp
    · have h' : ¬ n = x := fun q => h q.symm
      simp [h, h']
theorem flat_ints (ns : List Int) : (ns.map V.int).all flatV = true := by
  rw [List.all_map]
  exact List.all_eq_true.mpr fun _ _ => rfl
theorem ints_at {ns : List Int} {i : Nat} {y : V} (h : (ns.map V.int)[i]? = some y) : ∃ z, ns[i]? = some z ∧ y = V.int z := by
  rw [List.getElem?_map] at h
  cases e : ns[i]? with
  | none => rw [e] at h; cases h
  | some z => rw [e] at h; exact ⟨z, rfl, (Option.some.inj h).symm⟩
theorem drop_at {α : Type} {l : List α} {i : Nat} {x : α} (h : l[i]? = some x) : l.drop i = x :: l.drop (i + 1) := by
  obtain ⟨h1, h2⟩ := List.getElem?_eq_some_iff.mp h
  rw [List.drop_eq_getElem_cons h1, h2]
theorem Same.upd_new {H H1 : Hp} {l : Addr} {o : HO} (s : Same H H1) (h : H1 l = none) : Same H (upd H1 l o) := fun b u e => by
  rw [upd_ne (ne_of_none (s b u e) h)]
  exact s b u e
/-- an object that was not there at first may change -/
theorem Same.upd_old {H H1 : Hp} {l : Addr} {o : HO} (s : Same H H1) (h : H l = none) : Same H (upd H1 l o) := fun b u e => by
  rw [upd_ne (ne_of_none e h)]
  exact s b u e
/-- between two turns -/
inductive LRInv (H : Hp) (p l : Addr) (ns : List Int) (i : Nat) (σ : L2.St) (H2 : Hp) : Prop
  | mk (had : List Int) (v : Option V) : σ = [some (.ref p), some (.ref l), v] → Same H H2 → H2 l = some (.lst (had.map V.int)) → had.length ≤ i → locksR [] ns = locksR had (ns.drop i) → LRInv H p l ns i σ H2
inductive InLR (K : Frag) (vs : List V) (H : Hp) (Q : VK) : Prop
  | mk (p : Addr) (ns : List Int) : vs = [.ref p] → SqL K H p (ns.map V.int) → ns.length ≤ 1000000 → (∀ H', Same H H' → Q (.bl (locksR [] ns)) H') → InLR K vs H Q
def spLR (K : Frag) : Sp := fun vs H Q _ => InLR K vs H Q
inductive InSR (K : Frag) (vs : List V) (H : Hp) (Q : VK) : Prop
  | mk (p : Addr) (ns : List Int) : vs = [.ref p] → SqL K H p (ns.map V.int) → ns.length ≤ 1000000 → (∀ H', Same H H' → Q (.bl (stepsR ns)) H') → InSR K vs H Q
def spSR (K : Frag) : Sp := fun vs H Q _ => InSR K vs H Q
section
variable {P : Program} {w : World} {K : Frag} {mg : Str → Option Value} {base : Heap} {a : Ad}
theorem ok_locks_are_right (T : Txt a K mg) : FnOk P w K mg base CX0 3 a.f_locks_are_right a.d_locks_are_right ["steps"] (spLR K) := by
  refine T.fn_locks_are_right.ok sc_locks_are_right (fun vs H Q E h => ?_) (fun cdv A outer s H vs Q E hr h => ?_)
  · obtain ⟨p, ns, rfl, _⟩ := h
    rfl
  · obtain ⟨p, ns, rfl, hp, hlen, k⟩ := h
    refine ⟨_, (pss_cons (ps_set (i := 1) sc_locks_are_right.nd rfl (Or.inl rfl) (pe_lst pa_nil))
      (pss_cons (ps_for PassesOwn.never rfl (pi_list (pv 0)) (pg_name (i := 2) sc_locks_are_right.nd rfl (Or.inl rfl))
      (pss_one (ps_if (pt_truth (pe_call (ok_is_take T) (hr.mono (by decide)) rfl T.mg_is_take T.fn_is_take.kp T.bd_is_take .nil pass0 (pa_cons (pv 2) pa_nil)) (fun _ => rfl))
      (pss_cons (ps_if (pt_cmpR op_in_seq (pe_call (ok_lock_of T) (hr.mono (by decide)) rfl T.mg_lock_of T.fn_lock_of.kp T.bd_lock_of .nil pass0 (pa_cons (pv 2) pa_nil)) (pv 1) (by with_unfolding_all rfl))
      (pss_one (ps_ret pe_bl))
      pss_nil)
      (pss_one (ps_expr (pe_bm PySem.F.plainAttrs_list PySem.F.slot_list_append PySem.F.type_list_append mt_append (pv 1) (pa_cons (pe_call (ok_lock_of T) (hr.mono (by decide)) rfl T.mg_lock_of T.fn_lock_of.kp T.bd_lock_of .nil pass0 (pa_cons (pv 2) pa_nil)) pa_nil)))))
      (pss_one (ps_if (pt_truth (pe_call (ok_is_give T) (hr.mono (by decide)) rfl T.mg_is_give T.fn_is_give.kp T.bd_is_give .nil pass0 (pa_cons (pv 2) pa_nil)) (fun _ => rfl))
      (pss_cons (ps_if (pt_cmpR op_notIn_seq (pe_call (ok_lock_of T) (hr.mono (by decide)) rfl T.mg_lock_of T.fn_lock_of.kp T.bd_lock_of .nil pass0 (pa_cons (pv 2) pa_nil)) (pv 1) (by with_unfolding_all rfl))
      (pss_one (ps_ret pe_bl))
      pss_nil)
      (pss_one (ps_expr (pe_bm PySem.F.plainAttrs_list PySem.F.slot_list_remove PySem.F.type_list_remove Rm.mt_remove (pv 1) (pa_cons (pe_call (ok_lock_of T) (hr.mono (by decide)) rfl T.mg_lock_of T.fn_lock_of.kp T.bd_lock_of .nil pass0 (pa_cons (pv 2) pa_nil)) pa_nil)))))
      pss_nil)))))
      (pss_one (ps_ret (pe_cmpR op_eq (pe_callB call_len_seq (by rfl) T.n_len boot_len (pa_cons (pv 1) pa_nil)) pe_int (nomark _)))))), ?_⟩
    refine ⟨Nat.zero_le _, fun l hl => ?_⟩
    have s1 : Same H (upd H l (.lst [])) := Same.upd_new (Same.refl H) hl
    refine ⟨_, rfl, p, rfl, ⟨_, s1.seq hp⟩, for_list (K := K) (a := p) (xs := ns.map V.int) (LRInv H p l ns)
      ⟨[], none, rfl, s1, upd_same, Nat.le_refl _, rfl⟩ (fun i σ H2 _ ⟨_, _, _, s2, _, _, _⟩ => s2.seq hp) ?_ ?_⟩
    · rintro i y σ H2 hi ⟨had, v, rfl, s2, h2, hle, hR⟩
      obtain ⟨x, hx, rfl⟩ := ints_at hi
      rw [drop_at hx, locksR] at hR
      have hil : i < ns.length := (List.getElem?_eq_some_iff.mp hx).1
      have q2 : SqL K H2 l (had.map V.int) := SqL.of h2
      have hlk : ∀ σ : L2.St, σ[2]? = some (some (.int x)) → PureE (tCall (spI lockOf) [] E0 (tCons (tVar 2) tNil)) σ H2 (.int (lockOf x)) := fun σ h Q q => ⟨_, h, x, rfl, q⟩
      dsimp only [gName]
      refine PureT.ifS (b := isTake x) (fun Q q => ⟨_, rfl, x, rfl, _, rfl, q⟩) (ifB (fun ht => ?_) (fun ht => ?_))
      · rw [ht, if_pos rfl] at hR
        refine PureT.ifS (b := decide (lockOf x ∈ had)) (PureT.tt (fun Q q => hlk _ rfl _ ⟨_, rfl, l, _, rfl, .inl q2, rfl, flat_ints had, by
          have e : (if false = true then !inV (V.int (lockOf x)) (had.map V.int) else inV (V.int (lockOf x)) (had.map V.int)) = decide (lockOf x ∈ had) := inV_int _ _
          rw [e]; exact q⟩)) ?_
        refine ite2 (fun hm => ?_) (fun hm => ?_)
        · rw [decide_eq_true_eq] at hm
          rw [if_pos hm] at hR
          rw [hR] at k
          exact k H2 s2
        · rw [decide_eq_true_eq] at hm
          rw [if_neg hm] at hR
          refine ⟨_, rfl, .inl ⟨rfl, _, q2⟩, hlk _ rfl _ ⟨l, _, _, rfl, rfl, h2, ?_, ?_⟩⟩
          · rw [List.length_map]
            have : (sizeLine : Nat) = 16777216 := rfl
            lia
          · exact ⟨had ++ [lockOf x], _, rfl, Same.upd_old s2 hl, by rw [upd_same, List.map_append]; rfl, by rw [List.length_append, List.length_singleton]; lia, hR⟩
      · rw [ht, if_neg Bool.false_ne_true] at hR
        refine PureT.ifS (b := isGive x) (fun Q q => ⟨_, rfl, x, rfl, _, rfl, q⟩) (ifB (fun hg => ?_) (fun hg => ?_))
        · rw [hg, if_pos rfl] at hR
          refine PureT.ifS (b := !decide (lockOf x ∈ had)) (PureT.tt (fun Q q => hlk _ rfl _ ⟨_, rfl, l, _, rfl, .inl q2, rfl, flat_ints had, by
            have e : (if true = true then !inV (V.int (lockOf x)) (had.map V.int) else inV (V.int (lockOf x)) (had.map V.int)) = !decide (lockOf x ∈ had) := congrArg not (inV_int _ _)
            rw [e]; exact q⟩)) ?_
          refine ite2 (fun hm => ?_) (fun hm => ?_)
          · rw [Bool.not_eq_true', decide_eq_false_iff_not] at hm
            rw [if_neg hm] at hR
            rw [hR] at k
            exact k H2 s2
          · rw [Bool.not_eq_true', decide_eq_false_iff_not, Decidable.not_not] at hm
            rw [if_pos hm] at hR
            refine ⟨_, rfl, .inl ⟨rfl, _, q2⟩, hlk _ rfl _ ⟨l, had, lockOf x, rfl, rfl, h2, hm, ?_⟩⟩
            exact ⟨had.erase (lockOf x), _, rfl, Same.upd_old s2 hl, upd_same, by have := List.length_erase_of_mem hm; lia, hR⟩
        · rw [hg, if_neg Bool.false_ne_true] at hR
          exact ⟨had, _, rfl, s2, h2, by lia, hR⟩
    · rintro σ H2 ⟨had, v, rfl, s2, h2, hle, hR⟩
      rw [List.length_map, List.drop_of_length_le (Nat.le_refl _), locksR] at hR
      have e : decide (V.int ((had.map V.int).length : Nat) = V.int 0) = locksR [] ns := by
        rw [hR, List.length_map, decide_eq_decide.mpr (show (V.int (had.length : Nat) = V.int 0) ↔ had.length = 0 by rw [V.int.injEq]; lia)]
        cases had with
        | nil => rfl
        | cons x r => rfl
      have k2 := k H2 s2
      rw [← e] at k2
      exact PureE.eq (PureE.lenL (.v rfl) (.inl (SqL.of h2))) .c rfl _ k2
theorem lc_bools {P : Program} {w : World} {K : Frag} {p : Addr} {ns : List Int} {f : Int → Bool} {σ : L2.St} {i : Nat} {H : Hp} {te : TE} {Q : VK} (hp : SqL K H p (ns.map V.int)) (hlen : ns.length ≤ 1000000)
    (hv : σ[0]? = some (some (.ref p)))
    (hte : ∀ (z : Int) (H2 : Hp) (R : VK), R (.bl (f z)) H2 → te ((wipe σ [i]).set i (some (.int z))) H2 R)
    (k : ∀ (D : Addr) (H2 : Hp), Same H H2 → H2 D = some (.lst ((ns.map f).map V.bl)) → Q (.ref D) H2) :
    tLc (iList K (tVar 0)) (gName i) tYes te [i] σ H Q := by
  refine ⟨_, hv, p, rfl, ⟨_, hp⟩, fun D hD => lc_list (K := K) (a := p) (xs := ns.map V.int) (fun j H2 => Same H H2 ∧ H2 D = some (.lst (((ns.take j).map f).map V.bl)))
    ⟨Same.upd_new (Same.refl H) hD, upd_same⟩ (fun j H2 _ h => h.1.seq hp) ?_ ?_⟩
  · rintro j x H2 hj ⟨s2, h2⟩
    obtain ⟨z, hz, rfl⟩ := ints_at hj
    have hjl : j < ns.length := (List.getElem?_eq_some_iff.mp hz).1
    refine ⟨?_, ?_⟩
    · show ((wipe σ [i]).set i (some (V.int z))).set i none = wipe σ [i]
      rw [List.set_set]
      show (σ.set i none).set i none = σ.set i none
      rw [List.set_set]
    · show (if true = true then te _ _ _ else Same H H2 ∧ H2 D = some (.lst (((ns.take (j + 1)).map f).map V.bl)))
      rw [if_pos rfl]
      refine hte z H2 _ ⟨_, h2, ?_, ?_⟩
      · rw [List.length_map, List.length_map, List.length_take]
        have : (sizeLine : Nat) = 16777216 := rfl
        lia
      · refine ⟨Same.upd_old s2 hD, ?_⟩
        rw [upd_same, List.take_add_one, hz, Option.toList_some, List.map_append, List.map_append]
        rfl
  · rintro H2 ⟨s2, h2⟩
    refine k D H2 s2 ?_
    rw [h2, List.length_map, List.take_length]
theorem ok_steps_are_right (T : Txt a K mg) : FnOk P w K mg base CX0 4 a.f_steps_are_right a.d_steps_are_right ["steps"] (spSR K) := by
  refine T.fn_steps_are_right.ok sc_steps_are_right (fun vs H Q E h => ?_) (fun cdv A outer s H vs Q E hr h => ?_)
  · obtain ⟨p, ns, rfl, _⟩ := h
    rfl
  · obtain ⟨p, ns, rfl, hp, hlen, k⟩ := h
    refine ⟨_, (pss_cons (ps_if (pt_not (pt_truth (pe_callB (cr_all rfl) (by rfl) T.n_all boot_all (pa_cons (pe_lc rfl sc_steps_are_right.nd (pi_list (pv 0)) (own := [("step", 1)]) (blkOk_by (by show blkC ["steps", "step"] (defScope s_steps_are_right) _ [("step", 1)] = true; decide +kernel)) (fun _ _ _ _ _ => pg_name (i := 1) sc_steps_are_right.nd rfl (Or.inl rfl)) (fun _ _ _ _ _ => pts_nil) (fun _ _ _ _ _ => (pe_or (pe_call (ok_is_work T) (hr.mono (by decide)) rfl T.mg_is_work T.fn_is_work.kp T.bd_is_work .nil pass0 (pa_cons (pv 1) pa_nil)) (pe_or (pe_call (ok_is_take T) (hr.mono (by decide)) rfl T.mg_is_take T.fn_is_take.kp T.bd_is_take .nil pass0 (pa_cons (pv 1) pa_nil)) (pe_one (pe_call (ok_is_give T) (hr.mono (by decide)) rfl T.mg_is_give T.fn_is_give.kp T.bd_is_give .nil pass0 (pa_cons (pv 1) pa_nil))))))) pa_nil)) (fun _ => rfl)))
      (pss_one (ps_ret pe_bl))
      pss_nil)
      (pss_one (ps_ret (pe_and (pe_callB (cr_any rfl) (by rfl) T.n_any boot_any (pa_cons (pe_lc rfl sc_steps_are_right.nd (pi_list (pv 0)) (own := [("step", 1)]) (blkOk_by (by show blkC ["steps", "step"] (defScope s_steps_are_right) _ [("step", 1)] = true; decide +kernel)) (fun _ _ _ _ _ => pg_name (i := 1) sc_steps_are_right.nd rfl (Or.inl rfl)) (fun _ _ _ _ _ => pts_nil) (fun _ _ _ _ _ => (pe_call (ok_is_work T) (hr.mono (by decide)) rfl T.mg_is_work T.fn_is_work.kp T.bd_is_work .nil pass0 (pa_cons (pv 1) pa_nil)))) pa_nil)) (pe_one (pe_call (ok_locks_are_right T) (hr.mono (by decide)) rfl T.mg_locks_are_right T.fn_locks_are_right.kp T.bd_locks_are_right .nil pass0 (pa_cons (pv 0) pa_nil))))))), ?_⟩
    simp only [tSeq, tIfS, tNot, tRet, tAndV, tCB, tCons, tNil, cxK, List.map_cons, List.map_nil]
    refine lc_bools (P := P) (w := w) (i := 1) (f := fun x => isWork x || (isTake x || isGive x)) hp hlen rfl (fun z H2 R h => ?_) (fun D H2 s2 h2 => ?_)
    · exact PureE.orV (fun Q q => ⟨_, rfl, z, rfl, q⟩) (PureE.orV (fun Q q => ⟨_, rfl, z, rfl, q⟩) fun Q q => ⟨_, rfl, z, rfl, q⟩) R h
    · refine ⟨D, (ns.map fun x => isWork x || (isTake x || isGive x)), rfl, SqL.of h2, _, rfl, ?_⟩
      rw [List.all_map]
      have e1 : ns.all (id ∘ fun x => isWork x || (isTake x || isGive x)) = ns.all fun x => isWork x || (isTake x || isGive x) := rfl
      rw [e1]
      unfold stepsR at k
      refine ifB (fun h => ?_) (fun h => ?_)
      · rw [Bool.not_eq_true'] at h
        rw [h, Bool.false_and] at k
        exact k H2 s2
      · rw [Bool.not_eq_false'] at h
        rw [h, Bool.true_and] at k
        simp only [tNext, tRet, tAndV, tCB, tCons, tNil]
        refine lc_bools (P := P) (w := w) (i := 1) (f := isWork) (s2.seq hp) hlen rfl (fun z H3 R h => ?_) (fun D3 H3 s3 h3 => ?_)
        · exact ⟨_, rfl, z, rfl, h⟩
        · refine ⟨D3, ns.map isWork, rfl, SqL.of h3, _, rfl, ?_⟩
          rw [List.any_map]
          have e2 : ns.any (id ∘ isWork) = ns.any isWork := rfl
          rw [e2]
          refine ifB (fun h => ?_) (fun h => ?_)
          · rw [h, Bool.true_and] at k
            exact ⟨_, rfl, p, ns, rfl, s3.seq (s2.seq hp), hlen, fun H' s4 => k H' ((s2.trans s3).trans s4)⟩
          · rw [h, Bool.false_and] at k
            exact k H3 (s2.trans s3)
inductive InTR (K : Frag) (vs : List V) (H : Hp) (Q : VK) : Prop
  | mk (f p d r : Int) (l : Addr) (ns : List Int) : vs = [.int f, .int p, .int d, .int r, .ref l] → SqL K H l (ns.map V.int) → ns.length ≤ 1000000 → (∀ H', Same H H' → Q (.bl (taskR f p d r ns)) H') → InTR K vs H Q
def spTR (K : Frag) : Sp := fun vs H Q _ => InTR K vs H Q
theorem ok_task_is_right (T : Txt a K mg) : FnOk P w K mg base CX0 5 a.f_task_is_right a.d_task_is_right ["first", "period", "deadline", "rank", "steps"] (spTR K) := by
  refine T.fn_task_is_right.ok sc_task_is_right (fun vs H Q E h => ?_) (fun cdv A outer s H vs Q E hr h => ?_)
  · obtain ⟨f, p, d, r, l, ns, rfl, _⟩ := h
    rfl
  · obtain ⟨f, p, d, r, l, ns, rfl, hl, hlen, k⟩ := h
    obtain ⟨t_MOST_TIME, g_MOST_TIME⟩ := T.k_MOST_TIME
    obtain ⟨t_MOST_STEPS, g_MOST_STEPS⟩ := T.k_MOST_STEPS
    obtain ⟨t_MOST_RANK, g_MOST_RANK⟩ := T.k_MOST_RANK
    refine ⟨_, (pss_cons (ps_if (pt_not (PW.pt (pw_and (pt_chain op_le op_le pe_int (pv 0) (pe_glob rfl g_MOST_TIME relI)) (pw_and (pt_chain op_le op_le pe_int (pv 1) (pe_glob rfl g_MOST_TIME relI)) (pw_and1 (pt_chain op_le op_le pe_int (pv 2) (pe_glob rfl g_MOST_TIME relI)))))))
      (pss_one (ps_ret pe_bl))
      pss_nil)
      (pss_one (ps_ret (pe_and (pe_chain op_le op_le pe_int (pv 3) (pe_glob rfl g_MOST_RANK relI)) (pe_and (pe_chain op_le op_le pe_int (pe_callB call_len_seq (by rfl) T.n_len boot_len (pa_cons (pv 4) pa_nil)) (pe_glob rfl g_MOST_STEPS relI)) (pe_one (pe_call (ok_steps_are_right T) (hr.mono (by decide)) rfl T.mg_steps_are_right T.fn_steps_are_right.kp T.bd_steps_are_right .nil pass0 (pa_cons (pv 4) pa_nil)))))))), ?_⟩
    refine PureT.ifS (PureT.not (PureT.and (PureT.tt (PureE.chainLe (y := f) .c (.v rfl) .c)) fun _ => PureT.and (PureT.tt (PureE.chainLe (y := p) .c (.v rfl) .c)) fun _ => PureT.tt (PureE.chainLe (y := d) .c (.v rfl) .c))) ?_
    have e : (decide (0 ≤ f ∧ f ≤ 1000000) && (decide (0 ≤ p ∧ p ≤ 1000000) && decide (1 ≤ d ∧ d ≤ 1000000))) = decide ((0 ≤ f ∧ f ≤ 1000000) ∧ (0 ≤ p ∧ p ≤ 1000000) ∧ (1 ≤ d ∧ d ≤ 1000000)) := by
      rw [Bool.decide_and (0 ≤ f ∧ f ≤ 1000000), Bool.decide_and (0 ≤ p ∧ p ≤ 1000000)]
    rw [e]
    unfold taskR at k
    refine ifB (fun h => ?_) (fun h => ?_)
    · rw [Bool.not_eq_true'] at h
      rw [h, Bool.false_and] at k
      exact k H (Same.refl H)
    · rw [Bool.not_eq_false'] at h
      rw [h, Bool.true_and] at k
      have c1 : PureE (tChain (rI0 fun i j => .bl (decide (i ≤ j))) (rI0 fun i j => .bl (decide (i ≤ j))) (tC (.int 0)) (tVar 3) (tC (.int 255))) (L2.start ["first", "period", "deadline", "rank", "steps"] [.int f, .int p, .int d, .int r, .ref l]) H (.bl (decide (0 ≤ r ∧ r ≤ 255))) := PureE.chainLe .c (.v rfl) .c
      refine c1 _ ⟨_, rfl, ?_⟩
      refine ifB (fun h1 => ?_) (fun h1 => ?_)
      · rw [h1, Bool.true_and] at k
        refine PureE.chainLe (x := 1) (y := (ns.length : Int)) (z := 64) .c (fun Q q => ⟨_, rfl, l, ns.map V.int, rfl, .inl hl, by rw [List.length_map]; exact q⟩) .c _ ⟨_, rfl, ?_⟩
        have e2 : decide ((1 : Int) ≤ (ns.length : Int) ∧ (ns.length : Int) ≤ 64) = decide (1 ≤ ns.length ∧ ns.length ≤ 64) := decide_eq_decide.mpr (by lia)
        rw [e2]
        refine ifB (fun h2 => ?_) (fun h2 => ?_)
        · rw [h2, Bool.true_and] at k
          exact ⟨_, rfl, l, ns, rfl, hl, hlen, k⟩
        · rw [h2, Bool.false_and] at k
          exact k H (Same.refl H)
      · rw [h1, Bool.false_and] at k
        exact k H (Same.refl H)
end
end My
namespace My
open PySem PySem.W PyProof.Rows L2 Tx Mi
theorem lenD {X : Cx} : CallR X (.builtin "len") (fun xs H Q => ∃ a kvs, xs = [V.ref a] ∧ Rd H a (.dK kvs) ∧ Q (.int kvs.length) H) := by
  intro pins s σ H xs us Q I r h
  obtain ⟨a, kvs, rfl, ha, q⟩ := h
  obtain ⟨u, rfl, ru⟩ := vals1 r
  cases ru
  exact d_len I ha fun t s' I' => ⟨.int kvs.length, H, I', ⟨t, rfl⟩, q⟩
theorem upd_self {H : Hp} {d : Addr} {o : HO} (h : H d = some o) : upd H d o = H := by
  funext b
  unfold upd
  by_cases e : b = d
  · rw [if_pos e, e, h]
  · rw [if_neg e]
theorem Rd.ne {H : Hp} {a b : Addr} {u o : HO} (r : Rd H a u) (h : H b = some o) (d1 : o ≠ u) (d2 : ∀ x, o ≠ .frz x u) : b ≠ a := fun e => by
  subst e
  rcases r with r | ⟨x, r⟩
  · rw [h] at r; exact d1 (Option.some.inj r)
  · rw [h] at r; exact d2 x (Option.some.inj r)
/-- the values of a locked dict, walked -/
theorem for_vals {d : Addr} {o : Obj} {kvs : List (Key × V)} {g : TG} {tb : TS} {D : Ends} {σ : L2.St} {H : Hp} (Pv : Nat → L2.St → Hp → Prop) (h0 : Pv 0 σ H) (hl : ∀ i σ H, i ≤ kvs.length → Pv i σ H → H d = some (.frz o (.dK kvs)))
    (hs : ∀ i k x σ H, kvs[i]? = some (k, x) → Pv i σ H → g x σ H fun σ2 H2 => tb { D with nx := Pv (i + 1), ct := Pv (i + 1), bk := D.nx } σ2 H2) (hd : ∀ σ H, Pv kvs.length σ H → D.nx σ H) :
    ∃ W : Nat → Nat → L2.St → Hp → Prop, (∃ m, W 0 m σ H) ∧ ∀ i m σ H, W i m σ H →
      ((Itd d o kvs).stop i H ∧ D.nx σ H) ∨ ((Itd d o kvs).go i H ∧ ∃ N : L2.St → Hp → Prop, (∀ σ' H', N σ' H' → ∃ m', m' < m ∧ W (i + 1) m' σ' H') ∧ ∀ x H', (Itd d o kvs).yld i H x H' → g x σ H' fun σ2 H2 => tb { D with nx := N, ct := N, bk := D.nx } σ2 H2) := by
  refine ⟨fun i m σ H => m = kvs.length - i ∧ i ≤ kvs.length ∧ Pv i σ H, ⟨kvs.length, by simp, Nat.zero_le _, h0⟩, ?_⟩
  rintro i m σ H ⟨rfl, hi, p⟩
  have q := hl i σ H hi p
  by_cases hlt : i < kvs.length
  · refine .inr ⟨⟨q, hlt⟩, Pv (i + 1), fun σ' H' p' => ⟨kvs.length - (i + 1), by lia, rfl, hlt, p'⟩, fun x H' y => ?_⟩
    obtain ⟨e, k, y⟩ := y
    subst e
    exact hs i k x σ _ y p
  · have e : i = kvs.length := by lia
    subst e
    exact .inl ⟨⟨q, Nat.le_refl _⟩, hd σ H p⟩

/-! ### the scheduler, its jobs and locks, as they are read -/
def SchV (a : Ad) (H : Hp) (p jd od : Addr) : Prop := ∃ dx v1 v2 v3, H p = some (.ins a.c_Scheduler dx (fl_Scheduler v1 v2 v3 (.ref jd) (.ref od)))
def JobV (a : Ad) (H : Hp) (x : Addr) (n : Nat) (u : Int) (w : Option Nat) : Prop := ∃ dx st cm la pl wk, H x = some (.ins a.c_Job dx (fl_Job (.int n) st cm la (.int u) pl wk (wV w)))
structure View (a : Ad) (H : Hp) (p jd od : Addr) (s : Sz17.St) (ks : List Nat) (ja : Nat → Addr) (ows : List (Key × V)) : Prop where
  sch : SchV a H p jd od
  jd : Rd H jd (.dK (jobKV ks ja))
  od : Rd H od (.dK ows)
  ks : ∀ k, k ∈ ks ↔ (s.job k).isSome = true
  jv : ∀ k j, s.job k = some j → JobV a H (ja k) k (Sz17.own s k j) j.waits
  ow : ∀ l : Nat, valV ows (Sum.inl (l : Int)) = (Sz17.holder s l).map fun i => V.int (i : Nat)
theorem able_w0 {s : Sz17.St} {k : Nat} {j : Sz17.Job} (h : s.job k = some j) (e : j.waits = none) : Sz17.able s k = true := by
  unfold Sz17.able
  rw [h]
  dsimp only
  rw [e]
theorem able_w1 {s : Sz17.St} {k l : Nat} {j : Sz17.Job} (h : s.job k = some j) (e : j.waits = some l) : Sz17.able s k = (Sz17.holder s l).isNone := by
  unfold Sz17.able
  rw [h]
  dsimp only
  rw [e]
theorem nxt_w1 {s : Sz17.St} {k l : Nat} {j : Sz17.Job} (h : s.job k = some j) (e : j.waits = some l) : SM.nxt s k = Sz17.holder s l := by
  unfold SM.nxt
  rw [h]
  show (j.waits.bind fun l => Sz17.holder s l) = _
  rw [e]
  rfl
section
variable {P : Program} {w : World} {K : Frag} {mg : Str → Option Value} {base : Heap} {a : Ad}
inductive InIsAble (a : Ad) (vs : List V) (H : Hp) (Q : VK) : Prop
  | mk (p : Addr) (jd : Addr) (od : Addr) (s : Sz17.St) (ks : List Nat) (ja : Nat → Addr) (ows : List (Key × V)) (k : Nat) (j : Sz17.Job) : vs = [.ref p, .ref (ja k)] → View a H p jd od s ks ja ows → s.job k = some j → Q (.bl (Sz17.able s k)) H → InIsAble a vs H Q
def spIsAble (a : Ad) : Sp := fun vs H Q _ => InIsAble a vs H Q
theorem ok_Scheduler_is_able (T : Txt a K mg) : FnOk P w K mg base CX0 1 a.f_Scheduler_is_able a.d_Scheduler_is_able ["self", "job"] (spIsAble a) := by
  refine T.fn_Scheduler_is_able.ok sc_Scheduler_is_able (fun vs H Q E h => ?_) (fun cdv A outer s0 H vs Q E hr h => ?_)
  · obtain ⟨p, jd, od, s, ks, ja, ows, k, j, rfl, _⟩ := h
    rfl
  · obtain ⟨p, jd, od, s, ks, ja, ows, k, j, rfl, Vw, hj, q⟩ := h
    refine ⟨_, (pss_one (ps_ret (pe_or (pe_cmp (pc_isN (pe_fld (pv 1) rfl))) (pe_one (pe_cmp (pc_dnotin (hu_of hr) (pe_fld (pv 1) rfl) (pe_fld (pv 0) rfl))))))), ?_⟩
    obtain ⟨dp, v1, v2, v3, hp⟩ := Vw.sch
    obtain ⟨dj, st, cm, la, pl, wk, hx⟩ := Vw.jv k j hj
    refine ⟨_, rfl, _, _, _, _, _, rfl, hx, T.cl_Job, T.at_Job_waits_for, rfl, ?_⟩
    cases e : j.waits with
    | none =>
      rw [e] at hx
      rw [able_w0 hj e] at q
      exact ⟨true, rfl, iteT q⟩
    | some l =>
      rw [e] at hx
      rw [able_w1 hj e] at q
      refine ⟨false, rfl, iteF ?_⟩
      refine ⟨_, rfl, _, _, _, _, _, rfl, hx, T.cl_Job, T.at_Job_waits_for, rfl, _, rfl, _, _, _, _, _, rfl, hp, T.cl_Scheduler, T.at_Scheduler_owners, rfl, od, valV ows (Sum.inl (l : Int)), rfl, .inl ⟨ows, Sum.inl (l : Int), Vw.od, rfl, rfl⟩, ?_⟩
      rw [Vw.ow l, Option.isSome_map]
      have e2 : (!(Sz17.holder s l).isSome) = (Sz17.holder s l).isNone := by cases Sz17.holder s l <;> rfl
      rw [e2]
      exact q
inductive InBehind (a : Ad) (vs : List V) (H : Hp) (Q : VK) : Prop
  | mk (p : Addr) (jd : Addr) (od : Addr) (s : Sz17.St) (ks : List Nat) (ja : Nat → Addr) (ows : List (Key × V)) (k : Nat) : vs = [.ref p, .ref (ja k)] → View a H p jd od s ks ja ows → (s.job k).isSome = true → Q (rV ja (SM.rootN s ks.length k)) H → InBehind a vs H Q
def spBehind (a : Ad) : Sp := fun vs H Q _ => InBehind a vs H Q
/-- between two turns: h hops were made, the job is kh -/
inductive BhInv (H0 : Hp) (p : Addr) (s : Sz17.St) (ks : List Nat) (ja : Nat → Addr) (k : Nat) (m : Nat) (σ : L2.St) (H : Hp) : Prop
  | mk (h kh : Nat) : σ = [some (.ref p), some (.ref (ja kh)), some (.int h)] → H0 = H → m = ks.length - h → h ≤ ks.length → (s.job kh).isSome = true → SM.rootN s ks.length k = SM.rootN s (ks.length - h) kh → BhInv H0 p s ks ja k m σ H
theorem ok_Scheduler_able_job_behind (T : Txt a K mg) : FnOk P w K mg base CX0 2 a.f_Scheduler_able_job_behind a.d_Scheduler_able_job_behind ["self", "job"] (spBehind a) := by
  refine T.fn_Scheduler_able_job_behind.ok sc_Scheduler_able_job_behind (fun vs H Q E h => ?_) (fun cdv A outer s0 H vs Q E hr h => ?_)
  · obtain ⟨p, jd, od, s, ks, ja, ows, k, rfl, _⟩ := h
    rfl
  · obtain ⟨p, jd, od, s, ks, ja, ows, k, rfl, Vw, hk, q⟩ := h
    refine ⟨_, (pss_cons (ps_set (i := 2) sc_Scheduler_able_job_behind.nd rfl (Or.inl rfl) pe_int)
      (pss_cons (ps_while PassesOwn.never (pt_not (pt_truth (pe_meth (pv 0) T.cl_Scheduler T.me_Scheduler_is_able (ok_Scheduler_is_able T) (hr.mono (by decide)) T.bd_Scheduler_is_able .nil pass0 (pa_cons (pv 1) pa_nil)) (fun _ => rfl)))
      (pss_cons (ps_if (pt_cmpR op_eq (pv 2) (pe_callB lenD (by rfl) T.n_len boot_len (pa_cons (pe_fld (pv 0) rfl) pa_nil)) (nomark _))
      (pss_one (ps_ret pe_non))
      pss_nil)
      (pss_cons (ps_set (i := 1) sc_Scheduler_able_job_behind.nd rfl (Or.inl rfl) (pe_dget (hu_of hr) (pe_fld (pv 0) rfl) (pe_dget (hu_of hr) (pe_fld (pv 0) rfl) (pe_fld (pv 1) rfl) (fun _ _ => rfl)) (fun _ _ => rfl)))
      (pss_one (ps_aug (i := 2) sc_Scheduler_able_job_behind.nd rfl (Or.inl rfl) pe_int ip_add)))))
      (pss_one (ps_ret (pv 1))))), ?_⟩
    obtain ⟨dp, v1, v2, v3, hp⟩ := Vw.sch
    refine ⟨BhInv H p s ks ja k, ⟨ks.length, ⟨0, k, rfl, rfl, rfl, Nat.zero_le _, hk, rfl⟩⟩, ?_⟩
    rintro m σ _ ⟨h, kh, rfl, rfl, rfl, hle, hkh, hroot⟩
    obtain ⟨j, hj⟩ := Option.isSome_iff_exists.mp hkh
    -- while not self.is_able(job)
    refine ⟨_, rfl, p, dp, _, rfl, hp, rfl, _, rfl, p, jd, od, s, ks, ja, ows, kh, j, rfl, Vw, hj, _, rfl, ?_⟩
    cases ha : Sz17.able s kh with
    | true =>
      refine iteF ?_
      have e : SM.rootN s ks.length k = some kh := by
        rw [hroot]
        cases ks.length - h with
        | zero => exact if_pos ha
        | succ n => exact if_pos ha
      rw [e] at q
      exact ⟨_, rfl, q⟩
    | false =>
      refine iteT ?_
      have hn : ¬ Sz17.able s kh = true := by rw [ha]; exact Bool.false_ne_true
      refine ⟨fun σ' H' => h < ks.length ∧ BhInv H p s ks ja k (ks.length - (h + 1)) σ' H', ?_, ?_⟩
      · rintro σ' H' ⟨hlt, h'⟩
        exact ⟨ks.length - (h + 1), by lia, h'⟩
      -- if hops == len(self.jobs)
      · refine ⟨_, rfl, _, rfl, _, _, _, _, _, rfl, hp, T.cl_Scheduler, T.at_Scheduler_jobs, rfl, jd, _, rfl, Vw.jd, rfl, _, rfl, ?_⟩
        have el : (jobKV ks ja).length = ks.length := List.length_map _
        rw [el]
        refine ite2 (fun hd => ?_) (fun hd => ?_)
        · rw [decide_eq_true_eq] at hd
          injection hd with hd
          have e : SM.rootN s ks.length k = none := by
            rw [hroot, show ks.length - h = 0 by lia]
            exact if_neg hn
          rw [e] at q
          exact q
        · rw [decide_eq_true_eq] at hd
          have hlt : h < ks.length := by
            have : ¬ (h : Int) = (ks.length : Int) := fun z => hd (by rw [z])
            lia
          -- job = self.jobs[self.owners[job.waits_for]]
          cases hw : j.waits with
          | none => rw [able_w0 hj hw] at ha; cases ha
          | some l =>
            obtain ⟨dj, st, cm, la, pl, wk, hx⟩ := Vw.jv kh j hj
            rw [hw] at hx
            rw [able_w1 hj hw] at ha
            cases ho : Sz17.holder s l with
            | none => rw [ho] at ha; cases ha
            | some k2 =>
              have hn2 := nxt_w1 hj hw
              rw [ho] at hn2
              have hj2 := (SM.nxt_job hn2).2
              have ek : k2 ∈ ks := (Vw.ks k2).mpr hj2
              have eo := Vw.ow l
              rw [ho] at eo
              refine ⟨_, rfl, _, _, _, _, _, rfl, hp, T.cl_Scheduler, T.at_Scheduler_jobs, rfl, _, rfl, _, _, _, _, _, rfl, hp, T.cl_Scheduler, T.at_Scheduler_owners, rfl, _, rfl, _, _, _, _, _, rfl, hx, T.cl_Job, T.at_Job_waits_for, rfl,
                od, V.int (k2 : Nat), rfl, .inl ⟨ows, Sum.inl (l : Int), Vw.od, rfl, eo.symm⟩, jd, V.ref (ja k2), rfl, .inl ⟨_, Sum.inl (k2 : Int), Vw.jd, rfl, (valV_jobs ek).symm⟩, ?_⟩
              -- hops += 1
              refine ⟨_, rfl, _, _, rfl, rfl, ?_⟩
              refine ⟨hlt, h + 1, k2, rfl, rfl, rfl, by lia, hj2, ?_⟩
              rw [hroot]
              obtain ⟨n, en⟩ : ∃ n, ks.length - h = n + 1 := ⟨ks.length - h - 1, by lia⟩
              rw [en, show ks.length - (h + 1) = n by lia]
              show (if Sz17.able s kh = true then _ else _) = _
              rw [if_neg hn, hn2]
              rfl
inductive InChosen (a : Ad) (vs : List V) (H : Hp) (Q : VK) : Prop
  | mk (p : Addr) (jd : Addr) (od : Addr) (s : Sz17.St) (ks : List Nat) (ja : Nat → Addr) (ows : List (Key × V)) : vs = [.ref p] → View a H p jd od s ks ja ows → H jd = some (.dK (jobKV ks ja)) → s.jobs.length = s.tasks.length → s.tasks.length ≤ 32 → Q (rV ja (Sz17.chosen s)) H → InChosen a vs H Q
def spChosen (a : Ad) : Sp := fun vs H Q _ => InChosen a vs H Q
inductive ChInv (H0 : Hp) (p : Addr) (s : Sz17.St) (ks : List Nat) (ja : Nat → Addr) (i : Nat) (σ : L2.St) (H : Hp) : Prop
  | mk (v3 v4 : Option V) : σ = [some (.ref p), some (rV ja ((ks.take i).foldl (SM.pick (SM.ownD s) (SM.rootN s ks.length)) (none, 0)).1), some (.int ((ks.take i).foldl (SM.pick (SM.ownD s) (SM.rootN s ks.length)) (none, 0)).2), v3, v4] → H0 = H → ChInv H0 p s ks ja i σ H
theorem ok_Scheduler_chosen_job (T : Txt a K mg) : FnOk P w K mg base CX0 3 a.f_Scheduler_chosen_job a.d_Scheduler_chosen_job ["self"] (spChosen a) := by
  refine T.fn_Scheduler_chosen_job.ok sc_Scheduler_chosen_job (fun vs H Q E h => ?_) (fun cdv A outer s0 H vs Q E hr h => ?_)
  · obtain ⟨p, jd, od, s, ks, ja, ows, rfl, _⟩ := h
    rfl
  · obtain ⟨p, jd, od, s, ks, ja, ows, rfl, Vw, hjd, hl, h32, q⟩ := h
    refine ⟨_, (pss_cons (ps_set (i := 1) sc_Scheduler_chosen_job.nd rfl (Or.inl rfl) pe_non)
      (pss_cons (ps_set (i := 2) sc_Scheduler_chosen_job.nd rfl (Or.inl rfl) pe_int)
      (pss_cons (ps_lock (ps_for PassesOwn.never rfl (pi_values (pe_fld (pv 0) rfl)) (pg_name (i := 3) sc_Scheduler_chosen_job.nd rfl (Or.inl rfl))
      (pss_cons (ps_if (PW.pt (pw_and (pt_cmp (pc_notN (pv 1))) (pw_and1 (pt_cmpR op_lt (pe_fld (pv 3) rfl) (pv 2) (nomark _)))))
      (pss_one ps_continue)
      pss_nil)
      (pss_cons (ps_set (i := 4) sc_Scheduler_chosen_job.nd rfl (Or.inl rfl) (pe_meth (pv 0) T.cl_Scheduler T.me_Scheduler_able_job_behind (ok_Scheduler_able_job_behind T) (hr.mono (by decide)) T.bd_Scheduler_able_job_behind .nil pass0 (pa_cons (pv 3) pa_nil)))
      (pss_cons (ps_if (pt_cmp (pc_isN (pv 4)))
      (pss_one ps_continue)
      pss_nil)
      (pss_one (ps_if (PW.pt (pw_or (pt_cmp (pc_isN (pv 1))) (pw_or (pt_cmpR op_gt (pe_fld (pv 3) rfl) (pv 2) (nomark _)) (pw_or1 (pt_cmpR op_lt (pe_fld (pv 4) rfl) (pe_fld (pv 1) rfl) (nomark _))))))
      (pss_cons (ps_set (i := 1) sc_Scheduler_chosen_job.nd rfl (Or.inl rfl) (pv 4))
      (pss_one (ps_set (i := 2) sc_Scheduler_chosen_job.nd rfl (Or.inl rfl) (pe_fld (pv 3) rfl))))
      pss_nil)))))))
      (pss_one (ps_ret (pv 1)))))), ?_⟩
    obtain ⟨dp, v1, v2, v3, hp⟩ := Vw.sch
    have npj : p ≠ jd := ne_of hp hjd (by intro z; cases z)
    refine ⟨jd, _, hjd, trivial, fun ob => ?_⟩
    -- the view while the dict is locked
    have Vl : View a (upd H jd (.frz ob (.dK (jobKV ks ja)))) p jd od s ks ja ows := by
      refine ⟨⟨dp, v1, v2, v3, by rw [upd_ne npj]; exact hp⟩, .inr ⟨ob, upd_same⟩, ?_, Vw.ks, fun k j hj => ?_, Vw.ow⟩
      · rcases Vw.od with h | ⟨o', h⟩
        · by_cases e : od = jd
          · rw [e, hjd] at h
            cases h
            rw [e]
            exact .inr ⟨ob, upd_same⟩
          · exact .inl (by rw [upd_ne e]; exact h)
        · have e : od ≠ jd := ne_of h hjd (by intro z; cases z)
          exact .inr ⟨o', by rw [upd_ne e]; exact h⟩
      · obtain ⟨dj, st, cm, la, pl, wk, hx⟩ := Vw.jv k j hj
        exact ⟨dj, st, cm, la, pl, wk, by rw [upd_ne (ne_of hx hjd (by intro z; cases z))]; exact hx⟩
    have hpl : upd H jd (.frz ob (.dK (jobKV ks ja))) p = some (.ins a.c_Scheduler dp (fl_Scheduler v1 v2 v3 (.ref jd) (.ref od))) := by rw [upd_ne npj]; exact hp
    refine ⟨_, rfl, _, _, _, _, _, rfl, hpl, T.cl_Scheduler, T.at_Scheduler_jobs, rfl, jd, ob, jobKV ks ja, rfl, upd_same, ?_⟩
    refine for_vals (ChInv (upd H jd (.frz ob (.dK (jobKV ks ja)))) p s ks ja) ⟨none, none, rfl, rfl⟩ (fun i σ H2 _ h => ?_) ?_ ?_
    · obtain ⟨_, _, _, e⟩ := h
      rw [← e]
      exact upd_same
    · rintro i kk x σ H2 hi ⟨v4, v5, rfl, e⟩
      subst e
      obtain ⟨k, hk, rfl, rfl⟩ := jobKV_at hi
      have hks : k ∈ ks := List.mem_of_getElem? hk
      obtain ⟨j, hj⟩ := Option.isSome_iff_exists.mp ((Vw.ks k).mp hks)
      obtain ⟨dj, st, cm, la, pl, wk, hx⟩ := Vl.jv k j hj
      have eo : SM.ownD s k = Sz17.own s k j := by unfold SM.ownD; rw [hj]
      have et : (ks.take (i + 1)).foldl (SM.pick (SM.ownD s) (SM.rootN s ks.length)) (none, 0) = SM.pick (SM.ownD s) (SM.rootN s ks.length) ((ks.take i).foldl (SM.pick (SM.ownD s) (SM.rootN s ks.length)) (none, 0)) k := by
        rw [List.take_add_one, hk, List.foldl_append]
        rfl
      have next : ∀ (v4 v5 : Option V) (b : Option Nat × Int), SM.pick (SM.ownD s) (SM.rootN s ks.length) ((ks.take i).foldl (SM.pick (SM.ownD s) (SM.rootN s ks.length)) (none, 0)) k = b →
          ChInv (upd H jd (.frz ob (.dK (jobKV ks ja)))) p s ks ja (i + 1) [some (.ref p), some (rV ja b.1), some (.int b.2), v4, v5] (upd H jd (.frz ob (.dK (jobKV ks ja)))) := fun v4 v5 b eb => ⟨v4, v5, by rw [et, eb], rfl⟩
      have inb : ∀ c, ((ks.take i).foldl (SM.pick (SM.ownD s) (SM.rootN s ks.length)) (none, 0)).1 = some c → (s.job c).isSome = true := fun c ec => by
        have hb := SM.picks_best (own := SM.ownD s) (root := SM.rootN s ks.length) (ks.take i) [] (none, 0) (fun k h => by cases h)
        rw [List.nil_append] at hb
        unfold SM.Best at hb
        rw [ec] at hb
        obtain ⟨⟨k0, _, r0, _⟩, _⟩ := hb
        exact ((SM.able_iff s c).mp ((SM.rootN_iff s _ k0 c).mp r0).1).1
      generalize ((ks.take i).foldl (SM.pick (SM.ownD s) (SM.rootN s ks.length)) (none, 0)) = b at next inb
      obtain ⟨b1, u⟩ := b
      generalize upd H jd (.frz ob (.dK (jobKV ks ja))) = Hl at Vl hpl hx next
      -- if chosen is not None and job.own_urgency < urgency: continue
      refine PureT.ifS (PureT.and (PureT.b (PureE.notN (.v rfl))) fun _ => PureT.tt (PureE.op (.fld (.v rfl) hx T.cl_Job T.at_Job_own_urgency rfl) (.v rfl))) ?_
      refine ite2 (fun ht => ?_) (fun ht => ?_)
      · rw [Bool.and_eq_true] at ht
        obtain ⟨h1, h2⟩ := ht
        cases b1 with
        | none => cases h1
        | some c =>
          refine next _ _ (some c, u) ?_
          unfold SM.pick
          rw [eo]
          exact if_pos (of_decide_eq_true h2)
      · -- able = self.able_job_behind(job)
        refine ⟨_, rfl, p, dp, _, rfl, hpl, rfl, _, rfl, p, jd, od, s, ks, ja, ows, k, rfl, Vl, (Vw.ks k).mp hks, ?_⟩
        have hrb : ∀ c, SM.rootN s ks.length k = some c → (s.job c).isSome = true := fun c ec => ((SM.able_iff s c).mp ((SM.rootN_iff s _ k c).mp ec).1).1
        cases er : SM.rootN s ks.length k with
        | none =>
          refine PureT.ifT (PureT.b (PureE.isNT (.v rfl))) ?_
          refine next _ _ (b1, u) ?_
          unfold SM.pick
          rw [er]
          cases b1 with
          | none => rfl
          | some c =>
            show (if _ then _ else _) = _
            split <;> rfl
        | some c2 =>
          refine PureT.ifF (PureT.b (PureE.isNF (x := .ref (ja c2)) (.v rfl) ref_non)) ?_
          obtain ⟨j2, hj2⟩ := Option.isSome_iff_exists.mp (hrb c2 er)
          obtain ⟨dj2, st2, cm2, la2, pl2, wk2, hx2⟩ := Vl.jv c2 j2 hj2
          cases b1 with
          | none =>
            refine PureT.ifT (PureT.or (b := true) (c := true) (PureT.b (PureE.isNT (.v rfl))) fun h => by cases h) ?_
            refine ⟨_, rfl, _, rfl, _, _, _, _, _, rfl, hx, T.cl_Job, T.at_Job_own_urgency, rfl, ?_⟩
            refine next _ _ (some c2, Sz17.own s k j) ?_
            unfold SM.pick
            rw [er, eo]
          | some c =>
            obtain ⟨j3, hj3⟩ := Option.isSome_iff_exists.mp (inb c rfl)
            obtain ⟨dj3, st3, cm3, la3, pl3, wk3, hx3⟩ := Vl.jv c j3 hj3
            have hnl : ¬ Sz17.own s k j < u := fun z => ht (by
              rw [Bool.and_eq_true]
              exact ⟨rfl, decide_eq_true z⟩)
            have ep : SM.pick (SM.ownD s) (SM.rootN s ks.length) (some c, u) k = if u < Sz17.own s k j ∨ c2 < c then (some c2, Sz17.own s k j) else (some c, u) := by
              unfold SM.pick
              dsimp only
              rw [eo, if_neg hnl, er]
            refine PureT.ifS (PureT.or (PureT.b (PureE.isN (.v rfl))) fun _ => PureT.or (PureT.tt (PureE.op (.fld (.v rfl) hx T.cl_Job T.at_Job_own_urgency rfl) (.v rfl))) fun _ =>
              PureT.tt (PureE.op (.fld (.v rfl) hx2 T.cl_Job T.at_Job_number rfl) (.fld (.v rfl) hx3 T.cl_Job T.at_Job_number rfl))) ?_
            refine ite2 (fun hc => ?_) (fun hc => ?_)
            · have hc' : u < Sz17.own s k j ∨ c2 < c := by
                rcases Bool.or_eq_true _ _ |>.mp hc with h | h
                · cases h
                · rcases Bool.or_eq_true _ _ |>.mp h with h | h
                  · exact .inl (of_decide_eq_true h)
                  · exact .inr (by have := of_decide_eq_true h; lia)
              refine ⟨_, rfl, _, rfl, _, _, _, _, _, rfl, hx, T.cl_Job, T.at_Job_own_urgency, rfl, ?_⟩
              exact next _ _ (some c2, Sz17.own s k j) (by rw [ep, if_pos hc'])
            · have hc' : ¬ (u < Sz17.own s k j ∨ c2 < c) := fun z => hc (by
                rw [Bool.or_eq_true, Bool.or_eq_true]
                right
                rcases z with z | z
                · exact .inl (decide_eq_true z)
                · exact .inr (decide_eq_true (by lia)))
              exact next _ _ (some c, u) (by rw [ep, if_neg hc'])
    · rintro σ H2 ⟨v4, v5, rfl, e⟩
      subst e
      refine ⟨upd_same, ?_⟩
      have el : (jobKV ks ja).length = ks.length := List.length_map _
      rw [upd_upd, upd_self hjd, el, List.take_length, SM.chosen_picks hl h32 Vw.ks (Nat.le_succ _) 0]
      exact ⟨_, rfl, q⟩
end
end My
namespace My
open PySem PySem.W PyProof.Rows L2 Tx Mi
/-! ### helpers -/
theorem PureE.ix {K : Frag} {ta tb : TE} {σ : L2.St} {H : Hp} {p : Addr} {xs : List V} {i : Nat} {v : V} (h1 : PureE ta σ H (.ref p)) (h2 : PureE tb σ H (.int (i : Nat))) (hp : SqL K H p xs) (hi : xs[i]? = some v) : PureE (tOp (rIxL K) ta tb) σ H v :=
  fun Q q => h1 _ (h2 _ ⟨p, xs, i, v, rfl, rfl, hp, atI_nat hi, q⟩)
theorem PureE.neg {ta : TE} {σ : L2.St} {H : Hp} {x : Int} (h : PureE ta σ H (.int x)) : PureE (tUn (rU fun i => .int (-i)) ta) σ H (.int (-x)) := fun Q q => h _ ⟨x, rfl, q⟩
theorem fld_go {K : Frag} {ta : TE} {f : Str} {σ : L2.St} {H : Hp} {x C dx : Addr} {fs : List (Str × V)} {v : V} {Q : VK} (h : PureE ta σ H (.ref x)) (hx : H x = some (.ins C dx fs)) (c : Cls K C) (n : NoAttr K C f) (l : fs.lookup f = some v) (q : Q v H) : tFld K ta f σ H Q := PureE.fld h hx c n l Q q
theorem op_go {g : Int → Int → V} {ta tb : TE} {σ : L2.St} {H : Hp} {x y : Int} {Q : VK} (h1 : PureE ta σ H (.int x)) (h2 : PureE tb σ H (.int y)) (q : Q (g x y) H) : tOp (rI0 g) ta tb σ H Q := PureE.op h1 h2 Q q
theorem ix_go {K : Frag} {ta tb : TE} {σ : L2.St} {H : Hp} {p : Addr} {xs : List V} {i : Nat} {v : V} {Q : VK} (h1 : PureE ta σ H (.ref p)) (h2 : PureE tb σ H (.int (i : Nat))) (hp : SqL K H p xs) (hi : xs[i]? = some v) (q : Q v H) : tOp (rIxL K) ta tb σ H Q := PureE.ix h1 h2 hp hi Q q
theorem neg_go {ta : TE} {σ : L2.St} {H : Hp} {x : Int} {Q : VK} (h : PureE ta σ H (.int x)) (q : Q (.int (-x)) H) : tUn (rU fun i => .int (-i)) ta σ H Q := PureE.neg h Q q
theorem lenL_go {K : Frag} {ta : TE} {σ : L2.St} {H : Hp} {p : Addr} {xs : List V} {Q : VK} (h : PureE ta σ H (.ref p)) (hp : SqL K H p xs ∨ SqT K H p xs) (q : Q (.int xs.length) H) : tCB (fun ys H Q => ∃ p zs, ys = [V.ref p] ∧ (SqL K H p zs ∨ SqT K H p zs) ∧ Q (.int zs.length) H) (tCons ta tNil) σ H Q := PureE.lenL h hp Q q
theorem eq_go {ta tb : TE} {σ : L2.St} {H : Hp} {x y : V} {Q : VK} (h1 : PureE ta σ H x) (h2 : PureE tb σ H y) (hs : scal x y = true) (q : Q (.bl (decide (x = y))) H) : tOp rEq ta tb σ H Q := PureE.eq h1 h2 hs Q q
theorem chainLt_go {ta tb tc : TE} {σ : L2.St} {H : Hp} {x y z : Int} {Q : VK} (h1 : PureE ta σ H (.int x)) (h2 : PureE tb σ H (.int y)) (h3 : PureE tc σ H (.int z)) (q : Q (.bl (decide (x ≤ y ∧ y < z))) H) : tChain (rI0 fun i j => .bl (decide (i ≤ j))) (rI0 fun i j => .bl (decide (i < j))) ta tb tc σ H Q := PureE.chainLt h1 h2 h3 Q q
theorem tt_go {t : TE} {σ : L2.St} {H : Hp} {b : Bool} {Q : Bool → Hp → Prop} (h : PureE t σ H (.bl b)) (q : Q b H) : tTest t σ H Q := PureT.tt h Q q
theorem and_go {t u : TT} {σ : L2.St} {H : Hp} {b c : Bool} {Q : Bool → Hp → Prop} (h1 : PureT t σ H b) (h2 : b = true → PureT u σ H c) (q : Q (b && c) H) : tAnd t u σ H Q := PureT.and h1 h2 Q q
theorem nm_go {i : Nat} {v : V} {σ : L2.St} {H : Hp} {Q : L2.St → Hp → Prop} (q : Q (σ.set i (some v)) H) : gName i v σ H Q := q
theorem sFld_by {K : Frag} {ta tv : TE} {f : Str} {D : Ends} {σ : L2.St} {H : Hp} {x C dx : Addr} {fs : List (Str × V)} {v : V} (hv : PureE tv σ H v) (ha : PureE ta σ H (.ref x)) (hx : H x = some (.ins C dx fs)) (c : Cls K C) (n : NoAttr K C f) (l : fs.length < 1000) (q : D.nx σ (upd H x (.ins C dx (putF f v fs)))) : sFld K ta tv f D σ H :=
  hv _ (ha _ ⟨x, C, dx, fs, rfl, hx, c, n, l, q⟩)
theorem sAug_by {K : Frag} {ta tv : TE} {f : Str} {D : Ends} {σ : L2.St} {H : Hp} {x C dx : Addr} {fs : List (Str × V)} {i j : Int} (ha : PureE ta σ H (.ref x)) (hv : PureE tv σ H (.int j)) (hx : H x = some (.ins C dx fs)) (c : Cls K C) (n : NoAttr K C f) (lk : fs.lookup f = some (.int i)) (l : fs.length < 1000) (q : D.nx σ (upd H x (.ins C dx (putF f (.int (i + j)) fs)))) : sFldAug K ta tv rAdd f D σ H :=
  ha _ ⟨x, C, dx, fs, _, rfl, hx, c, n, lk, hv _ ⟨i, j, rfl, rfl, dx, fs, hx, l, q⟩⟩
theorem lt1000 {n : Nat} (h : n ≤ 20) : n < 1000 := by lia
section
variable {P : Program} {w : World} {K : Frag} {mg : Str → Option Value} {base : Heap} {a : Ad}
/-! ### a job -/
inductive InCur (a : Ad) (vs : List V) (H : Hp) (Q : VK) : Prop
  | mk (x dx sa : Addr) (n cm la ou wk w : V) (pl : Nat) (ns : List Int) (z : Int) : vs = [.ref x] → H x = some (.ins a.c_Job dx (fl_Job n (.ref sa) cm la ou (.int (pl : Nat)) wk w)) → H sa = some (.lst (ns.map V.int)) → ns[pl]? = some z → Q (.int z) H → InCur a vs H Q
def spCur (a : Ad) : Sp := fun vs H Q _ => InCur a vs H Q
theorem ok_Job_current_step (T : Txt a K mg) : FnOk P w K mg base CX0 1 a.f_Job_current_step a.d_Job_current_step ["self"] (spCur a) := by
  refine T.fn_Job_current_step.ok sc_Job_current_step (fun vs H Q E h => ?_) (fun cdv A outer s0 H vs Q E hr h => ?_)
  · obtain ⟨x, dx, sa, n, cm, la, ou, wk, w, pl, ns, z, rfl, _⟩ := h
    rfl
  · obtain ⟨x, dx, sa, n, cm, la, ou, wk, w, pl, ns, z, rfl, hx, hs, hz, q⟩ := h
    refine ⟨_, (pss_one (ps_ret (pe_ix ix_list (pe_fld (pv 0) rfl) (pe_fld (pv 0) rfl) (fun _ _ => rfl)))), ?_⟩
    exact ix_go (.fld (.v rfl) hx T.cl_Job T.at_Job_steps rfl) (.fld (.v rfl) hx T.cl_Job T.at_Job_place rfl) (SqL.of hs) (by rw [List.getElem?_map, hz]; rfl) q
inductive InLeft (a : Ad) (vs : List V) (H : Hp) (Q : VK) : Prop
  | mk (x dx sa : Addr) (n cm la ou w : V) (pl : Nat) (wk : Int) (ns : List Int) (z : Int) : vs = [.ref x] → H x = some (.ins a.c_Job dx (fl_Job n (.ref sa) cm la ou (.int (pl : Nat)) (.int wk) w)) → H sa = some (.lst (ns.map V.int)) → ns[pl]? = some z → Q (.int (z - wk)) H → InLeft a vs H Q
def spLeft (a : Ad) : Sp := fun vs H Q _ => InLeft a vs H Q
theorem ok_Job_work_left (T : Txt a K mg) : FnOk P w K mg base CX0 2 a.f_Job_work_left a.d_Job_work_left ["self"] (spLeft a) := by
  refine T.fn_Job_work_left.ok sc_Job_work_left (fun vs H Q E h => ?_) (fun cdv A outer s0 H vs Q E hr h => ?_)
  · obtain ⟨x, dx, sa, n, cm, la, ou, w, pl, wk, ns, z, rfl, _⟩ := h
    rfl
  · obtain ⟨x, dx, sa, n, cm, la, ou, w, pl, wk, ns, z, rfl, hx, hs, hz, q⟩ := h
    refine ⟨_, (pss_one (ps_ret (pe_op op_sub (pe_meth0 (pv 0) T.cl_Job T.me_Job_current_step (ok_Job_current_step T) (hr.mono (by decide)) T.bd_Job_current_step .nil pass0) (pe_fld (pv 0) rfl)))), ?_⟩
    exact ⟨_, rfl, x, dx, _, rfl, hx, rfl, x, dx, sa, n, cm, la, ou, _, w, pl, ns, z, rfl, hx, hs, hz, fld_go (.v rfl) hx T.cl_Job T.at_Job_worked rfl ⟨_, _, rfl, rfl, q⟩⟩
inductive InEnd (a : Ad) (vs : List V) (H : Hp) (Q : VK) : Prop
  | mk (x dx : Addr) (n st cm la ou wk w : V) (pl : Nat) : vs = [.ref x] → H x = some (.ins a.c_Job dx (fl_Job n st cm la ou (.int (pl : Nat)) wk w)) → Q .non (upd H x (.ins a.c_Job dx (fl_Job n st cm la ou (.int ((pl + 1 : Nat) : Int)) (.int ((0 : Nat) : Int)) w))) → InEnd a vs H Q
def spEnd (a : Ad) : Sp := fun vs H Q _ => InEnd a vs H Q
theorem ok_Job_end_step (T : Txt a K mg) : FnOk P w K mg base CX0 1 a.f_Job_end_step a.d_Job_end_step ["self"] (spEnd a) := by
  refine T.fn_Job_end_step.ok sc_Job_end_step (fun vs H Q E h => ?_) (fun cdv A outer s0 H vs Q E hr h => ?_)
  · obtain ⟨x, dx, n, st, cm, la, ou, wk, w, pl, rfl, _⟩ := h
    rfl
  · obtain ⟨x, dx, n, st, cm, la, ou, wk, w, pl, rfl, hx, q⟩ := h
    refine ⟨_, (pss_cons (ps_fldaug (pv 0) pe_int in_add)
      (pss_one (ps_fld (pv 0) pe_int rfl))), ?_⟩
    refine sAug_by (.v rfl) .c hx T.cl_Job T.at_Job_place rfl (lt1000 (by show (8 : Nat) ≤ 20; decide)) ?_
    refine sFld_by .c (.v rfl) upd_same T.cl_Job T.at_Job_worked (lt1000 (by show (8 : Nat) ≤ 20; decide)) ?_
    rw [upd_upd]
    exact q
inductive InDone (a : Ad) (vs : List V) (H : Hp) (Q : VK) : Prop
  | mk (x dx sa : Addr) (n cm la ou wk w : V) (pl : Nat) (ns : List Int) : vs = [.ref x] → H x = some (.ins a.c_Job dx (fl_Job n (.ref sa) cm la ou (.int (pl : Nat)) wk w)) → H sa = some (.lst (ns.map V.int)) → Q (.bl (decide (pl = ns.length))) H → InDone a vs H Q
def spDone (a : Ad) : Sp := fun vs H Q _ => InDone a vs H Q
theorem ok_Job_is_done (T : Txt a K mg) : FnOk P w K mg base CX0 1 a.f_Job_is_done a.d_Job_is_done ["self"] (spDone a) := by
  refine T.fn_Job_is_done.ok sc_Job_is_done (fun vs H Q E h => ?_) (fun cdv A outer s0 H vs Q E hr h => ?_)
  · obtain ⟨x, dx, sa, n, cm, la, ou, wk, w, pl, ns, rfl, _⟩ := h
    rfl
  · obtain ⟨x, dx, sa, n, cm, la, ou, wk, w, pl, ns, rfl, hx, hs, q⟩ := h
    refine ⟨_, (pss_one (ps_ret (pe_cmpR op_eq (pe_fld (pv 0) rfl) (pe_callB call_len_seq (by rfl) T.n_len boot_len (pa_cons (pe_fld (pv 0) rfl) pa_nil)) (nomark _)))), ?_⟩
    have e : decide (V.int (pl : Nat) = V.int ((ns.map V.int).length : Nat)) = decide (pl = ns.length) := by
      rw [decide_eq_decide, List.length_map, V.int.injEq]
      lia
    rw [← e] at q
    exact eq_go (.fld (.v rfl) hx T.cl_Job T.at_Job_place rfl) (PureE.lenL (.fld (.v rfl) hx T.cl_Job T.at_Job_steps rfl) (.inl (SqL.of hs))) rfl q
inductive InAtWork (a : Ad) (vs : List V) (H : Hp) (Q : VK) : Prop
  | mk (x dx sa : Addr) (n cm la ou wk w : V) (pl : Nat) (ns : List Int) (z : Int) : vs = [.ref x] → H x = some (.ins a.c_Job dx (fl_Job n (.ref sa) cm la ou (.int (pl : Nat)) wk w)) → H sa = some (.lst (ns.map V.int)) → ns[pl]? = some z → Q (.bl (isWork z)) H → InAtWork a vs H Q
def spAtWork (a : Ad) : Sp := fun vs H Q _ => InAtWork a vs H Q
theorem ok_Job_is_at_work (T : Txt a K mg) : FnOk P w K mg base CX0 2 a.f_Job_is_at_work a.d_Job_is_at_work ["self"] (spAtWork a) := by
  refine T.fn_Job_is_at_work.ok sc_Job_is_at_work (fun vs H Q E h => ?_) (fun cdv A outer s0 H vs Q E hr h => ?_)
  · obtain ⟨x, dx, sa, n, cm, la, ou, wk, w, pl, ns, z, rfl, _⟩ := h
    rfl
  · obtain ⟨x, dx, sa, n, cm, la, ou, wk, w, pl, ns, z, rfl, hx, hs, hz, q⟩ := h
    refine ⟨_, (pss_one (ps_ret (pe_call (ok_is_work T) (hr.mono (by decide)) rfl T.mg_is_work T.fn_is_work.kp T.bd_is_work .nil pass0 (pa_cons (pe_meth0 (pv 0) T.cl_Job T.me_Job_current_step (ok_Job_current_step T) (hr.mono (by decide)) T.bd_Job_current_step .nil pass0) pa_nil)))), ?_⟩
    exact ⟨_, rfl, x, dx, _, rfl, hx, rfl, x, dx, sa, n, cm, la, ou, wk, w, pl, ns, z, rfl, hx, hs, hz, z, rfl, q⟩
inductive InJobInit (a : Ad) (vs : List V) (H : Hp) (Q : VK) : Prop
  | mk (x dx : Addr) (n st cm la ou : V) : vs = [.ref x, n, st, cm, la, ou] → H x = some (.ins a.c_Job dx []) → Q .non (upd H x (.ins a.c_Job dx (fl_Job n st cm la ou (.int ((0 : Nat) : Int)) (.int ((0 : Nat) : Int)) .non))) → InJobInit a vs H Q
def spJobInit (a : Ad) : Sp := fun vs H Q _ => InJobInit a vs H Q
theorem ok_Job_init (T : Txt a K mg) : FnOk P w K mg base CX0 1 a.f_Job_init a.d_Job_init ["self", "number", "steps", "came_at", "deadline", "own_urgency"] (spJobInit a) := by
  refine T.fn_Job_init.ok sc_Job_init (fun vs H Q E h => ?_) (fun cdv A outer s0 H vs Q E hr h => ?_)
  · obtain ⟨x, dx, n, st, cm, la, ou, rfl, _⟩ := h
    rfl
  · obtain ⟨x, dx, n, st, cm, la, ou, rfl, hx, q⟩ := h
    refine ⟨_, (pss_cons (ps_fld (pv 0) (pv 1) rfl)
      (pss_cons (ps_fld (pv 0) (pv 2) rfl)
      (pss_cons (ps_fld (pv 0) (pv 3) rfl)
      (pss_cons (ps_fld (pv 0) (pv 4) rfl)
      (pss_cons (ps_fld (pv 0) (pv 5) rfl)
      (pss_cons (ps_fld (pv 0) pe_int rfl)
      (pss_cons (ps_fld (pv 0) pe_int rfl)
      (pss_one (ps_fld (pv 0) pe_non rfl))))))))), ?_⟩
    refine sFld_by (.v rfl) (.v rfl) hx T.cl_Job T.at_Job_number (lt1000 (by show (0 : Nat) ≤ 20; decide)) ?_
    refine sFld_by (.v rfl) (.v rfl) upd_same T.cl_Job T.at_Job_steps (lt1000 (by show (1 : Nat) ≤ 20; decide)) ?_
    refine sFld_by (.v rfl) (.v rfl) upd_same T.cl_Job T.at_Job_came_at (lt1000 (by show (2 : Nat) ≤ 20; decide)) ?_
    refine sFld_by (.v rfl) (.v rfl) upd_same T.cl_Job T.at_Job_late_at (lt1000 (by show (3 : Nat) ≤ 20; decide)) ?_
    refine sFld_by (.v rfl) (.v rfl) upd_same T.cl_Job T.at_Job_own_urgency (lt1000 (by show (4 : Nat) ≤ 20; decide)) ?_
    refine sFld_by .c (.v rfl) upd_same T.cl_Job T.at_Job_place (lt1000 (by show (5 : Nat) ≤ 20; decide)) ?_
    refine sFld_by .c (.v rfl) upd_same T.cl_Job T.at_Job_worked (lt1000 (by show (6 : Nat) ≤ 20; decide)) ?_
    refine sFld_by .c (.v rfl) upd_same T.cl_Job T.at_Job_waits_for (lt1000 (by show (7 : Nat) ≤ 20; decide)) ?_
    simp only [upd_upd]
    exact q
/-! ### a task -/
inductive InTaskInit (a : Ad) (vs : List V) (H : Hp) (Q : VK) : Prop
  | mk (x dx : Addr) (f p d r st : V) : vs = [.ref x, f, p, d, r, st] → H x = some (.ins a.c_Task dx []) → Q .non (upd H x (.ins a.c_Task dx (fl_Task p d r st f (.int ((0 : Nat) : Int)) (.int ((0 : Nat) : Int)) (.int ((0 : Nat) : Int)) (.int ((0 : Nat) : Int))))) → InTaskInit a vs H Q
def spTaskInit (a : Ad) : Sp := fun vs H Q _ => InTaskInit a vs H Q
theorem ok_Task_init (T : Txt a K mg) : FnOk P w K mg base CX0 1 a.f_Task_init a.d_Task_init ["self", "first", "period", "deadline", "rank", "steps"] (spTaskInit a) := by
  refine T.fn_Task_init.ok sc_Task_init (fun vs H Q E h => ?_) (fun cdv A outer s0 H vs Q E hr h => ?_)
  · obtain ⟨x, dx, f, p, d, r, st, rfl, _⟩ := h
    rfl
  · obtain ⟨x, dx, f, p, d, r, st, rfl, hx, q⟩ := h
    refine ⟨_, (pss_cons (ps_fld (pv 0) (pv 2) rfl)
      (pss_cons (ps_fld (pv 0) (pv 3) rfl)
      (pss_cons (ps_fld (pv 0) (pv 4) rfl)
      (pss_cons (ps_fld (pv 0) (pv 5) rfl)
      (pss_cons (ps_fld (pv 0) (pv 1) rfl)
      (pss_cons (ps_fld (pv 0) pe_int rfl)
      (pss_cons (ps_fld (pv 0) pe_int rfl)
      (pss_cons (ps_fld (pv 0) pe_int rfl)
      (pss_one (ps_fld (pv 0) pe_int rfl)))))))))), ?_⟩
    refine sFld_by (.v rfl) (.v rfl) hx T.cl_Task T.at_Task_period (lt1000 (by show (0 : Nat) ≤ 20; decide)) ?_
    refine sFld_by (.v rfl) (.v rfl) upd_same T.cl_Task T.at_Task_deadline (lt1000 (by show (1 : Nat) ≤ 20; decide)) ?_
    refine sFld_by (.v rfl) (.v rfl) upd_same T.cl_Task T.at_Task_rank (lt1000 (by show (2 : Nat) ≤ 20; decide)) ?_
    refine sFld_by (.v rfl) (.v rfl) upd_same T.cl_Task T.at_Task_steps (lt1000 (by show (3 : Nat) ≤ 20; decide)) ?_
    refine sFld_by (.v rfl) (.v rfl) upd_same T.cl_Task T.at_Task_comes_at (lt1000 (by show (4 : Nat) ≤ 20; decide)) ?_
    refine sFld_by .c (.v rfl) upd_same T.cl_Task T.at_Task_jobs_done (lt1000 (by show (5 : Nat) ≤ 20; decide)) ?_
    refine sFld_by .c (.v rfl) upd_same T.cl_Task T.at_Task_missed_deadlines (lt1000 (by show (6 : Nat) ≤ 20; decide)) ?_
    refine sFld_by .c (.v rfl) upd_same T.cl_Task T.at_Task_jobs_left_out (lt1000 (by show (7 : Nat) ≤ 20; decide)) ?_
    refine sFld_by .c (.v rfl) upd_same T.cl_Task T.at_Task_longest (lt1000 (by show (8 : Nat) ≤ 20; decide)) ?_
    simp only [upd_upd]
    exact q
inductive InPass (a : Ad) (vs : List V) (H : Hp) (Q : VK) : Prop
  | mk (x dx : Addr) (d r st j m o l : V) (p c : Nat) : vs = [.ref x] → H x = some (.ins a.c_Task dx (fl_Task (.int (p : Nat)) d r st (.int (c : Nat)) j m o l)) → Q .non (upd H x (.ins a.c_Task dx (fl_Task (.int (p : Nat)) d r st (.int ((if p = 0 then SM.NEVER else c + p : Nat) : Int)) j m o l))) → InPass a vs H Q
def spPass (a : Ad) : Sp := fun vs H Q _ => InPass a vs H Q
theorem ok_Task_pass_coming (T : Txt a K mg) : FnOk P w K mg base CX0 1 a.f_Task_pass_coming a.d_Task_pass_coming ["self"] (spPass a) := by
  refine T.fn_Task_pass_coming.ok sc_Task_pass_coming (fun vs H Q E h => ?_) (fun cdv A outer s0 H vs Q E hr h => ?_)
  · obtain ⟨x, dx, d, r, st, j, m, o, l, p, c, rfl, _⟩ := h
    rfl
  · obtain ⟨x, dx, d, r, st, j, m, o, l, p, c, rfl, hx, q⟩ := h
    obtain ⟨t_NEVER, g_NEVER⟩ := T.k_NEVER
    refine ⟨_, (pss_one (ps_if (pt_cmpR op_eq (pe_fld (pv 0) rfl) pe_int (nomark _))
      (pss_one (ps_fld (pv 0) (pe_glob rfl g_NEVER relI) rfl))
      (pss_one (ps_fldaug (pv 0) (pe_fld (pv 0) rfl) in_add)))), ?_⟩
    refine PureT.ifS (PureT.tt (PureE.eq (.fld (.v rfl) hx T.cl_Task T.at_Task_period rfl) .c rfl)) ?_
    refine ite2 (fun hc => ?_) (fun hc => ?_)
    · rw [decide_eq_true_eq, V.int.injEq] at hc
      rw [if_pos (show p = 0 by lia)] at q
      refine sFld_by .c (.v rfl) hx T.cl_Task T.at_Task_comes_at (lt1000 (by show (9 : Nat) ≤ 20; decide)) ?_
      exact q
    · rw [decide_eq_true_eq, V.int.injEq] at hc
      rw [if_neg (show ¬ p = 0 by lia)] at q
      refine sAug_by (.v rfl) (.fld (.v rfl) hx T.cl_Task T.at_Task_period rfl) hx T.cl_Task T.at_Task_comes_at rfl (lt1000 (by show (9 : Nat) ≤ 20; decide)) ?_
      exact q
inductive InCount (a : Ad) (vs : List V) (H : Hp) (Q : VK) : Prop
  | mk (x dx : Addr) (p d r st c m o : V) (j l : Nat) (t : Nat) : vs = [.ref x, .int (t : Nat)] → H x = some (.ins a.c_Task dx (fl_Task p d r st c (.int (j : Nat)) m o (.int (l : Nat)))) → Q .non (upd H x (.ins a.c_Task dx (fl_Task p d r st c (.int ((j + 1 : Nat) : Int)) m o (.int ((max l t : Nat) : Int))))) → InCount a vs H Q
def spCount (a : Ad) : Sp := fun vs H Q _ => InCount a vs H Q
theorem ok_Task_count_done (T : Txt a K mg) : FnOk P w K mg base CX0 1 a.f_Task_count_done a.d_Task_count_done ["self", "ticks"] (spCount a) := by
  refine T.fn_Task_count_done.ok sc_Task_count_done (fun vs H Q E h => ?_) (fun cdv A outer s0 H vs Q E hr h => ?_)
  · obtain ⟨x, dx, p, d, r, st, c, m, o, j, l, t, rfl, _⟩ := h
    rfl
  · obtain ⟨x, dx, p, d, r, st, c, m, o, j, l, t, rfl, hx, q⟩ := h
    refine ⟨_, (pss_cons (ps_fldaug (pv 0) pe_int in_add)
      (pss_one (ps_fld (pv 0) (pe_callB (call_max2 rfl) (by rfl) T.n_max boot_max (pa_cons (pe_fld (pv 0) rfl) (pa_cons (pv 1) pa_nil))) rfl))), ?_⟩
    refine sAug_by (.v rfl) .c hx T.cl_Task T.at_Task_jobs_done rfl (lt1000 (by show (9 : Nat) ≤ 20; decide)) ?_
    have e : (if (t : Int) > (l : Int) then (t : Int) else (l : Int)) = ((max l t : Nat) : Int) := by
      by_cases h : (t : Int) > (l : Int)
      · rw [if_pos h]; lia
      · rw [if_neg h]; lia
    have hm : PureE (tCB (fun xs H Q => ∃ i j, xs = [V.int i, V.int j] ∧ Q (.int (if j > i then j else i)) H) (tCons (tFld K (tVar 0) "longest") (tCons (tVar 1) tNil))) (L2.start ["self", "ticks"] [.ref x, .int (t : Nat)]) (upd H x (.ins a.c_Task dx (fl_Task p d r st c (.int ((j + 1 : Nat) : Int)) m o (.int (l : Nat))))) (.int ((max l t : Nat) : Int)) := fun Q q => by
      have hu : upd H x (.ins a.c_Task dx (fl_Task p d r st c (.int ((j + 1 : Nat) : Int)) m o (.int (l : Nat)))) x = some (.ins a.c_Task dx (fl_Task p d r st c (.int ((j + 1 : Nat) : Int)) m o (.int (l : Nat)))) := upd_same
      refine fld_go (.v rfl) hu T.cl_Task T.at_Task_longest rfl ?_
      refine ⟨_, rfl, l, t, rfl, ?_⟩
      rw [e]
      exact q
    refine sFld_by hm (.v rfl) upd_same T.cl_Task T.at_Task_longest (lt1000 (by show (9 : Nat) ≤ 20; decide)) ?_
    rw [upd_upd]
    exact q
inductive InTold (a : Ad) (vs : List V) (H : Hp) (Q : VK) : Prop
  | mk (x dx : Addr) (p d r st c j m o l : V) : vs = [.ref x] → H x = some (.ins a.c_Task dx (fl_Task p d r st c j m o l)) → (∀ t, H t = none → Q (.ref t) (upd H t (.tup [j, m, o, l]))) → InTold a vs H Q
def spTold (a : Ad) : Sp := fun vs H Q _ => InTold a vs H Q
theorem ok_Task_known (T : Txt a K mg) : FnOk P w K mg base CX0 1 a.f_Task_known a.d_Task_known ["self"] (spTold a) := by
  refine T.fn_Task_known.ok sc_Task_known (fun vs H Q E h => ?_) (fun cdv A outer s0 H vs Q E hr h => ?_)
  · obtain ⟨x, dx, p, d, r, st, c, j, m, o, l, rfl, _⟩ := h
    rfl
  · obtain ⟨x, dx, p, d, r, st, c, j, m, o, l, rfl, hx, q⟩ := h
    refine ⟨_, (pss_one (ps_ret (pe_tup (pa_cons (pe_fld (pv 0) rfl) (pa_cons (pe_fld (pv 0) rfl) (pa_cons (pe_fld (pv 0) rfl) (pa_cons (pe_fld (pv 0) rfl) pa_nil))))))), ?_⟩
    refine fld_go (.v rfl) hx T.cl_Task T.at_Task_jobs_done rfl ?_
    refine fld_go (.v rfl) hx T.cl_Task T.at_Task_missed_deadlines rfl ?_
    refine fld_go (.v rfl) hx T.cl_Task T.at_Task_jobs_left_out rfl ?_
    refine fld_go (.v rfl) hx T.cl_Task T.at_Task_longest rfl ?_
    exact ⟨by show 4 ≤ sizeLine; decide, fun t ht => q t ht⟩
/-! ### a new scheduler -/
inductive InSchInit (a : Ad) (vs : List V) (H : Hp) (Q : VK) : Prop
  | mk (x dx : Addr) : vs = [.ref x] → H x = some (.ins a.c_Scheduler dx []) → (∀ tl jd od H', H tl = none → jd ≠ od → (∀ b u, H b = some u → b ≠ x → H' b = some u) → H' x = some (.ins a.c_Scheduler dx (fl_Scheduler (.bl false) (.int 0) (.ref tl) (.ref jd) (.ref od))) → H' tl = some (.lst []) → H' jd = some (.dK []) → H' od = some (.dK []) → Q .non H') → InSchInit a vs H Q
def spSchInit (a : Ad) : Sp := fun vs H Q _ => InSchInit a vs H Q
theorem ok_Scheduler_init (T : Txt a K mg) : FnOk P w K mg base CX0 1 a.f_Scheduler_init a.d_Scheduler_init ["self"] (spSchInit a) := by
  refine T.fn_Scheduler_init.ok sc_Scheduler_init (fun vs H Q E h => ?_) (fun cdv A outer s0 H vs Q E hr h => ?_)
  · obtain ⟨x, dx, rfl, _⟩ := h
    rfl
  · obtain ⟨x, dx, rfl, hx, q⟩ := h
    refine ⟨_, (pss_cons (ps_fld (pv 0) pe_bl rfl)
      (pss_cons (ps_fld (pv 0) pe_int rfl)
      (pss_cons (ps_fld (pv 0) (pe_lst pa_nil) rfl)
      (pss_cons (ps_fld (pv 0) pe_dnewK rfl)
      (pss_one (ps_fld (pv 0) pe_dnewK rfl)))))), ?_⟩
    refine sFld_by .c (.v rfl) hx T.cl_Scheduler T.at_Scheduler_by_deadline (lt1000 (by show (0 : Nat) ≤ 20; decide)) ?_
    refine sFld_by .c (.v rfl) upd_same T.cl_Scheduler T.at_Scheduler_now (lt1000 (by show (1 : Nat) ≤ 20; decide)) ?_
    rw [upd_upd]
    refine ⟨Nat.zero_le _, fun tl htl => ⟨_, rfl, x, _, dx, _, rfl, (upd_ne (ne_of_none upd_same htl)).trans upd_same, T.cl_Scheduler, T.at_Scheduler_tasks, lt1000 (by show (2 : Nat) ≤ 20; decide), ?_⟩⟩
    refine fun jd hjd => ⟨_, rfl, x, _, dx, _, rfl, (upd_ne (ne_of_none upd_same hjd)).trans upd_same, T.cl_Scheduler, T.at_Scheduler_jobs, lt1000 (by show (3 : Nat) ≤ 20; decide), ?_⟩
    refine fun od hod => ⟨_, rfl, x, _, dx, _, rfl, (upd_ne (ne_of_none upd_same hod)).trans upd_same, T.cl_Scheduler, T.at_Scheduler_owners, lt1000 (by show (4 : Nat) ≤ 20; decide), ?_⟩
    have n1 : x ≠ tl := ne_of_none upd_same htl
    have htl' : H tl = none := by rw [upd_ne n1.symm] at htl; exact htl
    have n2 : x ≠ jd := ne_of_none upd_same hjd
    have n3 : tl ≠ jd := fun e => by
      subst e
      rw [upd_ne n2.symm, upd_same] at hjd
      cases hjd
    have n4 : x ≠ od := ne_of_none upd_same hod
    have n5 : jd ≠ od := fun e => by
      subst e
      rw [upd_ne n2.symm, upd_same] at hod
      cases hod
    have n6 : tl ≠ od := fun e => by
      subst e
      rw [upd_ne n1.symm, upd_ne n3, upd_ne n1.symm, upd_same] at hod
      cases hod
    refine q tl jd od _ htl' n5 (fun b u e hb => ?_) upd_same ?_ ?_ ?_
    · have nb1 : b ≠ tl := ne_of_none e htl'
      have nb2 : b ≠ jd := fun z => by
        subst z
        rw [upd_ne hb, upd_ne nb1, upd_ne hb, e] at hjd
        cases hjd
      have nb3 : b ≠ od := fun z => by
        subst z
        rw [upd_ne hb, upd_ne nb2, upd_ne hb, upd_ne nb1, upd_ne hb, e] at hod
        cases hod
      rw [upd_ne hb, upd_ne nb3, upd_ne hb, upd_ne nb2, upd_ne hb, upd_ne nb1, upd_ne hb]
      exact e
    · rw [upd_ne n1.symm, upd_ne n6, upd_ne n1.symm, upd_ne n3, upd_ne n1.symm, upd_same]
    · rw [upd_ne n2.symm, upd_ne n5, upd_ne n2.symm, upd_same]
    · rw [upd_ne n4.symm, upd_same]
end
end My
namespace My
open PySem PySem.W PyProof.Rows L2 Tx Mi
/-! ### helpers -/
theorem PureE.dnotin {ty td : TE} {σ : L2.St} {H : Hp} {k : Int} {d : Addr} {kvs : List (Key × V)} (h1 : PureE ty σ H (.int k)) (h2 : PureE td σ H (.ref d)) (hd : Rd H d (.dK kvs)) : PureE (tDNotIn ty td) σ H (.bl (!(valV kvs (Sum.inl k)).isSome)) :=
  fun Q q => h1 _ (h2 _ ⟨d, _, rfl, .inl ⟨kvs, Sum.inl k, hd, rfl, rfl⟩, q⟩)
theorem PureE.din {ty td : TE} {σ : L2.St} {H : Hp} {k : Int} {d : Addr} {kvs : List (Key × V)} (h1 : PureE ty σ H (.int k)) (h2 : PureE td σ H (.ref d)) (hd : Rd H d (.dK kvs)) : PureE (tDIn ty td) σ H (.bl ((valV kvs (Sum.inl k)).isSome)) :=
  fun Q q => h1 _ (h2 _ ⟨d, _, rfl, .inl ⟨kvs, Sum.inl k, hd, rfl, rfl⟩, q⟩)
theorem PureE.dget {ty td : TE} {σ : L2.St} {H : Hp} {k : Int} {d : Addr} {kvs : List (Key × V)} {v : V} (h2 : PureE td σ H (.ref d)) (h1 : PureE ty σ H (.int k)) (hd : Rd H d (.dK kvs)) (hv : valV kvs (Sum.inl k) = some v) : PureE (tDGet td ty) σ H v :=
  fun Q q => h2 _ (h1 _ ⟨d, v, rfl, .inl ⟨kvs, Sum.inl k, hd, rfl, hv.symm⟩, q⟩)
theorem dget_go {ty td : TE} {σ : L2.St} {H : Hp} {k : Int} {d : Addr} {kvs : List (Key × V)} {v : V} {Q : VK} (h2 : PureE td σ H (.ref d)) (h1 : PureE ty σ H (.int k)) (hd : Rd H d (.dK kvs)) (hv : valV kvs (Sum.inl k) = some v) (q : Q v H) : tDGet td ty σ H Q := PureE.dget h2 h1 hd hv Q q
/-- the values of a locked dict, in a comprehension -/
theorem lc_vals {d : Addr} {o : Obj} {kvs : List (Key × V)} {g : TG} {tt : TT} {te : TE} {vs : List Nat} {σ : L2.St} {H1 : Hp} {D : Addr} {Qd : Hp → Prop} (Pv : Nat → Hp → Prop) (h0 : Pv 0 (upd H1 D (.lst []))) (hl : ∀ i H, i ≤ kvs.length → Pv i H → H d = some (.frz o (.dK kvs)))
    (hs : ∀ i k x H, kvs[i]? = some (k, x) → Pv i H → g x (wipe σ vs) H fun σ2 H2 => wipe σ2 vs = wipe σ vs ∧ tt σ2 H2 fun b H3 =>
      if b = true then te σ2 H3 fun y H4 => ∃ acc, H4 D = some (.lst acc) ∧ acc.length < sizeLine ∧ Pv (i + 1) (upd H4 D (.lst (acc ++ [y]))) else Pv (i + 1) H3) (hd : ∀ H, Pv kvs.length H → Qd H) :
    ∃ W : Nat → Nat → Hp → Prop, (∃ m, W 0 m (upd H1 D (.lst []))) ∧ ∀ i m H, W i m H →
      ((Itd d o kvs).stop i H ∧ Qd H) ∨ ((Itd d o kvs).go i H ∧ ∃ Nx : Hp → Prop, (∀ H', Nx H' → ∃ m', m' < m ∧ W (i + 1) m' H') ∧ ∀ x H', (Itd d o kvs).yld i H x H' → g x (wipe σ vs) H' fun σ2 H2 => wipe σ2 vs = wipe σ vs ∧ tt σ2 H2 fun b H3 =>
        if b = true then te σ2 H3 fun y H4 => ∃ acc, H4 D = some (.lst acc) ∧ acc.length < sizeLine ∧ Nx (upd H4 D (.lst (acc ++ [y]))) else Nx H3) := by
  refine ⟨fun i m H => m = kvs.length - i ∧ i ≤ kvs.length ∧ Pv i H, ⟨kvs.length, by simp, Nat.zero_le _, h0⟩, ?_⟩
  rintro i m H ⟨rfl, hi, p⟩
  have q := hl i H hi p
  by_cases hlt : i < kvs.length
  · refine .inr ⟨⟨q, hlt⟩, Pv (i + 1), fun H' p' => ⟨kvs.length - (i + 1), by lia, rfl, hlt, p'⟩, fun x H' y => ?_⟩
    obtain ⟨e, k, y⟩ := y
    subst e
    exact hs i k x _ y p
  · have e : i = kvs.length := by lia
    subst e
    exact .inl ⟨⟨q, Nat.le_refl _⟩, hd H p⟩
/-- [.. for x in xs], the items written as ys -/
theorem lc_list_to {K : Frag} {p : Addr} {xs ys : List V} {σ : L2.St} {i : Nat} {H : Hp} {tl te : TE} {Q : VK} (ht : PureE tl σ H (.ref p)) (hp : SqL K H p xs) (hlen : xs.length ≤ 1000000) (hy : ys.length = xs.length)
    (hte : ∀ (j : Nat) (x y : V) (H2 : Hp), xs[j]? = some x → ys[j]? = some y → Same H H2 → PureE te ((wipe σ [i]).set i (some x)) H2 y)
    (k : ∀ (D : Addr) (H2 : Hp), H D = none → Same H H2 → H2 D = some (.lst ys) → Q (.ref D) H2) :
    tLc (iList K tl) (gName i) tYes te [i] σ H Q := by
  refine ht _ ⟨p, rfl, ⟨_, hp⟩, fun D hD => lc_list (K := K) (a := p) (xs := xs) (fun j H2 => Same H H2 ∧ H2 D = some (.lst (ys.take j)))
    ⟨Same.upd_new (Same.refl H) hD, upd_same⟩ (fun j H2 _ h => h.1.seq hp) ?_ ?_⟩
  · rintro j x H2 hj ⟨s2, h2⟩
    have hjl : j < xs.length := (List.getElem?_eq_some_iff.mp hj).1
    refine ⟨?_, ?_⟩
    · show ((wipe σ [i]).set i (some x)).set i none = wipe σ [i]
      rw [List.set_set]
      show (σ.set i none).set i none = σ.set i none
      rw [List.set_set]
    · show (if true = true then te _ _ _ else Same H H2 ∧ H2 D = some (.lst (ys.take (j + 1))))
      rw [if_pos rfl]
      have hyj : ys[j]? = some ys[j] := List.getElem?_eq_getElem (by lia)
      refine hte j x _ H2 hj hyj s2 _ ⟨_, h2, ?_, ?_⟩
      · rw [List.length_take]
        have : (sizeLine : Nat) = 16777216 := rfl
        lia
      · refine ⟨Same.upd_old s2 hD, ?_⟩
        rw [upd_same, List.take_add_one, hyj, Option.toList_some]
  · rintro H2 ⟨s2, h2⟩
    refine k D H2 hD s2 ?_
    rw [h2, ← hy, List.take_length]
/-- [.. for x in d.values()], the items written as ys -/
theorem lc_vals_to {d : Addr} {kvs : List (Key × V)} {ys : List V} {σ : L2.St} {i : Nat} {H : Hp} {td te : TE} {Q : VK} (hd : H d = some (.dK kvs)) (ht : ∀ H2, (∀ b u, b ≠ d → H b = some u → H2 b = some u) → PureE td σ H2 (.ref d)) (hlen : kvs.length ≤ 1000000) (hy : ys.length = kvs.length)
    (hte : ∀ (j : Nat) (k : Key) (x y : V) (H2 : Hp), kvs[j]? = some (k, x) → ys[j]? = some y → (∀ b u, b ≠ d → H b = some u → H2 b = some u) → PureE te ((wipe σ [i]).set i (some x)) H2 y)
    (k : ∀ (D : Addr) (H2 : Hp), H D = none → Same H H2 → H2 D = some (.lst ys) → Q (.ref D) H2) :
    tLockE (tLc (iVals td) (gName i) tYes te [i]) σ H Q := by
  refine ⟨d, _, hd, trivial, fun ob => ?_⟩
  have s0 : ∀ b u, b ≠ d → H b = some u → upd H d (.frz ob (.dK kvs)) b = some u := fun b u hb e => by rw [upd_ne hb]; exact e
  refine ht _ s0 _ ⟨d, ob, kvs, rfl, upd_same, fun D hD => ?_⟩
  have nD : D ≠ d := fun e => by rw [e, upd_same] at hD; cases hD
  have hD' : H D = none := by rw [upd_ne nD] at hD; exact hD
  refine lc_vals (d := d) (o := ob) (kvs := kvs) (fun j H2 => (∀ b u, b ≠ d → H b = some u → H2 b = some u) ∧ H2 d = some (.frz ob (.dK kvs)) ∧ H2 D = some (.lst (ys.take j)))
    ⟨fun b u hb e => ?_, ?_, upd_same⟩ (fun j H2 _ h => h.2.1) ?_ ?_
  · rw [upd_ne (ne_of_none e hD')]; exact s0 b u hb e
  · rw [upd_ne nD.symm, upd_same]
  · rintro j kk x H2 hj ⟨s2, hf, h2⟩
    have hjl : j < kvs.length := (List.getElem?_eq_some_iff.mp hj).1
    refine ⟨?_, ?_⟩
    · show ((wipe σ [i]).set i (some x)).set i none = wipe σ [i]
      rw [List.set_set]
      show (σ.set i none).set i none = σ.set i none
      rw [List.set_set]
    · show (if true = true then te _ _ _ else (∀ b u, b ≠ d → H b = some u → H2 b = some u) ∧ H2 d = some (.frz ob (.dK kvs)) ∧ H2 D = some (.lst (ys.take (j + 1))))
      rw [if_pos rfl]
      have hyj : ys[j]? = some ys[j] := List.getElem?_eq_getElem (by lia)
      refine hte j kk x _ H2 hj hyj s2 _ ⟨_, h2, ?_, ?_⟩
      · rw [List.length_take]
        have : (sizeLine : Nat) = 16777216 := rfl
        lia
      · refine ⟨fun b u hb e => ?_, ?_, ?_⟩
        · rw [upd_ne (ne_of_none e hD')]; exact s2 b u hb e
        · rw [upd_ne nD.symm]; exact hf
        · rw [upd_same, List.take_add_one, hyj, Option.toList_some]
  · rintro H2 ⟨s2, hf, h2⟩
    refine ⟨hf, k D _ hD' (fun b u e => ?_) ?_⟩
    · by_cases hb : b = d
      · subst hb
        rw [hd] at e
        rw [upd_same]
        exact e
      · rw [upd_ne hb]; exact s2 b u hb e
    · rw [upd_ne nD, h2, ← hy, List.take_length]
/-! ### what is known -/
def val (s : Sz17.St) (c : Sz17.Call) : Int := (Sz17.does s c).2.value
theorem Rel.view {a : Ad} {H : Hp} {F : Fx} {W : Vr} {s : Sz17.St} (R : Rel a H F W s) (o : SM.Ok s) : View a H F.p F.jd F.od s W.ks W.ja (ownKV W.os) :=
  ⟨let ⟨dx, e⟩ := R.sch; ⟨dx, _, _, _, e⟩, .inl R.jd, .inl R.od, R.ks, fun k j e => let ⟨dx, pl, wk, e1, _⟩ := R.jv k j e; ⟨dx, _, _, _, _, _, e1⟩, R.owner o⟩
theorem tl_len {F : Fx} {n : Nat} : ((List.range n).map fun i => V.ref (F.ta i)).length = n := by rw [List.length_map, List.length_range]
theorem tl_at {F : Fx} {n k : Nat} (h : k < n) : ((List.range n).map fun i => V.ref (F.ta i))[k]? = some (.ref (F.ta k)) := by
  rw [List.getElem?_map, List.getElem?_range h]
  rfl
theorem val_known {s : Sz17.St} {k : Nat} {w : Int} (hk : k < s.tasks.length) (h0 : 0 ≤ w) (h3 : w ≤ 3) : val s (.known (k : Nat) w) = (if w = 0 then ((seenAt s k).done : Int) else if w = 1 then ((seenAt s k).missed : Int) else if w = 2 then ((seenAt s k).skipped : Int) else ((seenAt s k).longest : Int)) := by
  unfold val Sz17.does
  dsimp only
  rw [if_neg (by lia)]
  rfl
theorem val_known_no {s : Sz17.St} {i w : Int} (h : i < 0 ∨ (s.tasks.length : Int) ≤ i ∨ w < 0 ∨ 3 < w) : val s (.known i w) = -1 := by
  unfold val Sz17.does
  dsimp only
  rw [if_pos h]
  rfl
section
variable {P : Program} {w : World} {K : Frag} {mg : Str → Option Value} {base : Heap} {a : Ad}
inductive InIsTask (a : Ad) (vs : List V) (H : Hp) (Q : VK) : Prop
  | mk (F : Fx) (W : Vr) (s : Sz17.St) (i : Int) : vs = [.ref F.p, .int i] → Rel a H F W s → Q (.bl (decide (0 ≤ i ∧ i < (s.tasks.length : Int)))) H → InIsTask a vs H Q
def spIsTask (a : Ad) : Sp := fun vs H Q _ => InIsTask a vs H Q
theorem ok_Scheduler_is_task (T : Txt a K mg) : FnOk P w K mg base CX0 1 a.f_Scheduler_is_task a.d_Scheduler_is_task ["self", "i"] (spIsTask a) := by
  refine T.fn_Scheduler_is_task.ok sc_Scheduler_is_task (fun vs H Q E h => ?_) (fun cdv A outer s0 H vs Q E hr h => ?_)
  · obtain ⟨F, W, s, i, rfl, _⟩ := h
    rfl
  · obtain ⟨F, W, s, i, rfl, R, q⟩ := h
    refine ⟨_, (pss_one (ps_ret (pe_chain op_le op_lt pe_int (pv 1) (pe_callB call_len_seq (by rfl) T.n_len boot_len (pa_cons (pe_fld (pv 0) rfl) pa_nil))))), ?_⟩
    obtain ⟨dp, hp⟩ := R.sch
    have e := tl_len (F := F) (n := s.tasks.length)
    rw [← e] at q
    exact chainLt_go .c (.v rfl) (PureE.lenL (.fld (.v rfl) hp T.cl_Scheduler T.at_Scheduler_tasks rfl) (.inl (SqL.of R.tl))) q
inductive InKnown (a : Ad) (vs : List V) (H : Hp) (Q : VK) : Prop
  | mk (F : Fx) (W : Vr) (s : Sz17.St) (i w : Int) : vs = [.ref F.p, .int i, .int w] → Rel a H F W s → (∀ H', Same H H' → Q (.int (val s (.known i w))) H') → InKnown a vs H Q
def spKnown (a : Ad) : Sp := fun vs H Q _ => InKnown a vs H Q
theorem ok_Scheduler_known (T : Txt a K mg) : FnOk P w K mg base CX0 2 a.f_Scheduler_known a.d_Scheduler_known ["self", "i", "which"] (spKnown a) := by
  refine T.fn_Scheduler_known.ok sc_Scheduler_known (fun vs H Q E h => ?_) (fun cdv A outer s0 H vs Q E hr h => ?_)
  · obtain ⟨F, W, s, i, w, rfl, _⟩ := h
    rfl
  · obtain ⟨F, W, s, i, w, rfl, R, q⟩ := h
    refine ⟨_, (pss_cons (ps_if (pt_not (pt_truth (pe_meth (pv 0) T.cl_Scheduler T.me_Scheduler_is_task (ok_Scheduler_is_task T) (hr.mono (by decide)) T.bd_Scheduler_is_task .nil pass0 (pa_cons (pv 1) pa_nil)) (fun _ => rfl)))
      (pss_one (ps_ret (pe_un un_neg pe_int)))
      pss_nil)
      (pss_cons (ps_set (i := 3) sc_Scheduler_known.nd rfl (Or.inl rfl) (pe_meth0 (pe_ix ix_list (pe_fld (pv 0) rfl) (pv 1) (fun _ _ => rfl)) T.cl_Task T.me_Task_known (ok_Task_known T) (hr.mono (by decide)) T.bd_Task_known .nil pass0))
      (pss_cons (ps_if (PW.pt (pw_or (pt_cmpR op_lt (pv 2) pe_int (nomark _)) (pw_or1 (pt_cmpR op_ge (pv 2) (pe_callB call_len_seq (by rfl) T.n_len boot_len (pa_cons (pv 3) pa_nil)) (nomark _)))))
      (pss_one (ps_ret (pe_un un_neg pe_int)))
      pss_nil)
      (pss_one (ps_ret (pe_ix ix_tup (pv 3) (pv 2) (fun _ _ => rfl))))))), ?_⟩
    obtain ⟨dp, hp⟩ := R.sch
    refine ⟨_, rfl, F.p, dp, _, rfl, hp, rfl, _, rfl, F, W, s, i, rfl, R, _, rfl, ?_⟩
    by_cases hi : 0 ≤ i ∧ i < (s.tasks.length : Int)
    · rw [decide_eq_true hi]
      refine iteF ?_
      obtain ⟨k, rfl⟩ : ∃ k : Nat, i = (k : Int) := ⟨i.toNat, by lia⟩
      have hk : k < s.tasks.length := by lia
      obtain ⟨dt, ht⟩ := R.tk k hk
      refine ix_go (.fld (.v rfl) hp T.cl_Scheduler T.at_Scheduler_tasks rfl) (.v rfl) (SqL.of R.tl) (tl_at hk) ⟨F.ta k, dt, _, rfl, ht, rfl, F.ta k, dt, _, _, _, _, _, _, _, _, _, rfl, ht, fun t htn => ?_⟩
      have hT : SqT K (upd H t (.tup [V.int ((seenAt s k).done : Nat), V.int ((seenAt s k).missed : Nat), V.int ((seenAt s k).skipped : Nat), V.int ((seenAt s k).longest : Nat)])) t [V.int ((seenAt s k).done : Nat), V.int ((seenAt s k).missed : Nat), V.int ((seenAt s k).skipped : Nat), V.int ((seenAt s k).longest : Nat)] := SqT.of upd_same
      dsimp only [gName, tSeq]
      refine PureT.ifS (PureT.or (PureT.tt (PureE.op (.v rfl) .c)) fun _ => PureT.tt (PureE.op (.v rfl) (PureE.lenL (.v rfl) (.inr hT)))) ?_
      have sm : Same H (upd H t (.tup [V.int ((seenAt s k).done : Nat), V.int ((seenAt s k).missed : Nat), V.int ((seenAt s k).skipped : Nat), V.int ((seenAt s k).longest : Nat)])) := Same.upd_new (Same.refl H) htn
      by_cases hw : 0 ≤ w ∧ w ≤ 3
      · have e : (decide (w < 0) || decide (((4 : Nat) : Int) ≤ w)) = false := by
          rw [decide_eq_false (by lia), decide_eq_false (by lia)]; rfl
        refine (show ∀ b : Bool, b = false → _ → (if b = true then _ else _) from fun b hb q => by rw [hb]; exact iteF q) _ e ?_
        have hv := val_known hk hw.1 hw.2
        have : w = 0 ∨ w = 1 ∨ w = 2 ∨ w = 3 := by lia
        rcases this with rfl | rfl | rfl | rfl
        · exact ⟨_, rfl, _, rfl, t, _, _, _, rfl, rfl, SqT.of upd_same, atI_nat (j := 0) rfl, by rw [hv] at q; exact q _ sm⟩
        · exact ⟨_, rfl, _, rfl, t, _, _, _, rfl, rfl, SqT.of upd_same, atI_nat (j := 1) rfl, by rw [hv] at q; exact q _ sm⟩
        · exact ⟨_, rfl, _, rfl, t, _, _, _, rfl, rfl, SqT.of upd_same, atI_nat (j := 2) rfl, by rw [hv] at q; exact q _ sm⟩
        · exact ⟨_, rfl, _, rfl, t, _, _, _, rfl, rfl, SqT.of upd_same, atI_nat (j := 3) rfl, by rw [hv] at q; exact q _ sm⟩
      · have e : (decide (w < 0) || decide (((4 : Nat) : Int) ≤ w)) = true := by
          rw [Bool.or_eq_true, decide_eq_true_eq, decide_eq_true_eq]; lia
        refine (show ∀ b : Bool, b = true → _ → (if b = true then _ else _) from fun b hb q => by rw [hb]; exact iteT q) _ e ?_
        rw [val_known_no (by lia)] at q
        exact neg_go .c (q _ sm)
    · rw [decide_eq_false hi]
      refine iteT ?_
      rw [val_known_no (by lia)] at q
      exact neg_go .c (q _ (Same.refl H))
theorem val_state_no {s : Sz17.St} {i : Int} (h : i < 0 ∨ (s.tasks.length : Int) ≤ i) : val s (.state i) = -1 := by
  unfold val Sz17.does
  dsimp only
  rw [if_pos h]
  rfl
theorem val_state {s : Sz17.St} {k : Nat} (hk : k < s.tasks.length) : val s (.state (k : Nat)) = match s.job k with
    | none => 0
    | some j => if Sz17.able s k = true then (if j.has = [] then 1 else 2) else 3 := by
  unfold val Sz17.does
  dsimp only
  rw [if_neg (by lia)]
  rfl
inductive InState (a : Ad) (vs : List V) (H : Hp) (Q : VK) : Prop
  | mk (F : Fx) (W : Vr) (s : Sz17.St) (i : Int) : vs = [.ref F.p, .int i] → Rel a H F W s → SM.Ok s → W.os.length ≤ 1000000 → (∀ H', Same H H' → Q (.int (val s (.state i))) H') → InState a vs H Q
def spState (a : Ad) : Sp := fun vs H Q _ => InState a vs H Q
theorem ok_Scheduler_state (T : Txt a K mg) : FnOk P w K mg base CX0 2 a.f_Scheduler_state a.d_Scheduler_state ["self", "i"] (spState a) := by
  refine T.fn_Scheduler_state.ok sc_Scheduler_state (fun vs H Q E h => ?_) (fun cdv A outer s0 H vs Q E hr h => ?_)
  · obtain ⟨F, W, s, i, rfl, _⟩ := h
    rfl
  · obtain ⟨F, W, s, i, rfl, R, o, hol, q⟩ := h
    obtain ⟨t_NO_JOB, g_NO_JOB⟩ := T.k_NO_JOB
    obtain ⟨t_NOT_ABLE, g_NOT_ABLE⟩ := T.k_NOT_ABLE
    obtain ⟨t_ABLE_WITH_LOCK, g_ABLE_WITH_LOCK⟩ := T.k_ABLE_WITH_LOCK
    obtain ⟨t_ABLE_WITHOUT_LOCK, g_ABLE_WITHOUT_LOCK⟩ := T.k_ABLE_WITHOUT_LOCK
    refine ⟨_, (pss_cons (ps_if (pt_not (pt_truth (pe_meth (pv 0) T.cl_Scheduler T.me_Scheduler_is_task (ok_Scheduler_is_task T) (hr.mono (by decide)) T.bd_Scheduler_is_task .nil pass0 (pa_cons (pv 1) pa_nil)) (fun _ => rfl)))
      (pss_one (ps_ret (pe_un un_neg pe_int)))
      pss_nil)
      (pss_cons (ps_if (pt_cmp (pc_dnotin (hu_of hr) (pv 1) (pe_fld (pv 0) rfl)))
      (pss_one (ps_ret (pe_glob rfl g_NO_JOB relI)))
      pss_nil)
      (pss_cons (ps_if (pt_not (pt_truth (pe_meth (pv 0) T.cl_Scheduler T.me_Scheduler_is_able (ok_Scheduler_is_able T) (hr.mono (by decide)) T.bd_Scheduler_is_able .nil pass0 (pa_cons (pe_dget (hu_of hr) (pe_fld (pv 0) rfl) (pv 1) (fun _ _ => rfl)) pa_nil)) (fun _ => rfl)))
      (pss_one (ps_ret (pe_glob rfl g_NOT_ABLE relI)))
      pss_nil)
      (pss_cons (ps_if (pt_truth (pe_callB (cr_any rfl) (by rfl) T.n_any boot_any (pa_cons (pe_lock (pe_lc rfl sc_Scheduler_state.nd (pi_values (pe_fld (pv 0) rfl)) (own := [("owner", 2)]) (blkOk_by (by show blkC ["self", "i", "owner"] (defScope s_Scheduler_state) _ [("owner", 2)] = true; decide +kernel)) (fun _ _ _ _ _ => pg_name (i := 2) sc_Scheduler_state.nd rfl (Or.inl rfl)) (fun _ _ _ _ _ => pts_nil) (fun _ _ _ _ _ => (pe_cmpR op_eq (pv 2) (pv 1) (nomark _))))) pa_nil)) (fun _ => rfl))
      (pss_one (ps_ret (pe_glob rfl g_ABLE_WITH_LOCK relI)))
      pss_nil)
      (pss_one (ps_ret (pe_glob rfl g_ABLE_WITHOUT_LOCK relI))))))), ?_⟩
    obtain ⟨dp, hp⟩ := R.sch
    refine ⟨_, rfl, F.p, dp, _, rfl, hp, rfl, _, rfl, F, W, s, i, rfl, R, _, rfl, ?_⟩
    by_cases hi : 0 ≤ i ∧ i < (s.tasks.length : Int)
    · rw [decide_eq_true hi]
      refine iteF ?_
      obtain ⟨k, rfl⟩ : ∃ k : Nat, i = (k : Int) := ⟨i.toNat, by lia⟩
      have hk : k < s.tasks.length := by lia
      rw [val_state hk] at q
      refine PureT.ifS (PureT.b (PureE.dnotin (.v rfl) (.fld (.v rfl) hp T.cl_Scheduler T.at_Scheduler_jobs rfl) (.inl R.jd))) ?_
      cases hj : s.job k with
      | none =>
        rw [hj] at q
        have hn : ¬ k ∈ W.ks := fun z => by rw [R.ks k, hj] at z; cases z
        rw [valV_jobs_none hn]
        exact iteT (q _ (Same.refl H))
      | some j =>
        rw [hj] at q
        have hm : k ∈ W.ks := (R.ks k).mpr (by rw [hj]; rfl)
        rw [valV_jobs hm]
        refine iteF ?_
        refine ⟨_, rfl, F.p, dp, _, rfl, hp, rfl, ?_⟩
        refine dget_go (.fld (.v rfl) hp T.cl_Scheduler T.at_Scheduler_jobs rfl) (.v rfl) (.inl R.jd) (valV_jobs hm) ⟨F.p, F.jd, F.od, s, W.ks, W.ja, ownKV W.os, k, j, rfl, R.view o, hj, _, rfl, ?_⟩
        cases ha : Sz17.able s k with
        | false =>
          refine iteT ?_
          rw [ha] at q
          exact q _ (Same.refl H)
        | true =>
          refine iteF ?_
          rw [ha] at q
          have q : ∀ H', Same H H' → Q (.int (if j.has = [] then 1 else 2)) H' := q
          refine lc_vals_to (kvs := ownKV W.os) (ys := W.os.map fun o => V.bl (decide (V.int (o.2 : Nat) = V.int (k : Nat)))) R.od (fun H2 h2 => .fld (.v rfl) (h2 _ _ (ne_of hp R.od (by intro z; cases z)) hp) T.cl_Scheduler T.at_Scheduler_owners rfl) (by unfold ownKV; rw [List.length_map]; exact hol) (by unfold ownKV; rw [List.length_map, List.length_map]) (fun j' kk x y H2 hx hy h2 => ?_) (fun D H2 hD s2 h2 => ?_)
          · unfold ownKV at hx
            rw [List.getElem?_map] at hx hy
            cases ho : W.os[j']? with
            | none => rw [ho] at hx; cases hx
            | some oo =>
              rw [ho] at hx hy
              cases hx
              cases hy
              exact PureE.eq (.v rfl) (.v rfl) rfl
          · refine ⟨D, W.os.map fun o => decide (V.int (o.2 : Nat) = V.int (k : Nat)), rfl, SqL.of (by rw [h2, List.map_map]; rfl), _, rfl, ?_⟩
            have hiff : ((W.os.map fun o => decide (V.int (o.2 : Nat) = V.int (k : Nat))).any id = true) ↔ ¬ j.has = [] := by
              rw [List.any_map, List.any_eq_true]
              constructor
              · rintro ⟨⟨l, i⟩, hmo, hd⟩
                have hd : decide (V.int (i : Nat) = V.int (k : Nat)) = true := hd
                rw [decide_eq_true_eq, V.int.injEq] at hd
                have hd : i = k := by lia
                subst hd
                obtain ⟨j2, e2, hl⟩ := (R.os l i).mp hmo
                rw [hj] at e2
                cases e2
                intro z
                rw [z] at hl
                cases hl
              · intro hne
                cases hh : j.has with
                | nil => exact absurd hh hne
                | cons l r =>
                  exact ⟨(l, k), (R.os l k).mpr ⟨j, hj, by rw [hh]; exact List.mem_cons_self⟩, decide_eq_true rfl⟩
            refine ite2 (fun hb => ?_) (fun hb => ?_)
            · rw [if_neg (hiff.mp hb)] at q
              exact q _ s2
            · rw [if_pos (Decidable.not_not.mp (fun z => hb (hiff.mpr z)))] at q
              exact q _ s2
    · rw [decide_eq_false hi]
      refine iteT ?_
      rw [val_state_no (by lia)] at q
      exact neg_go .c (q _ (Same.refl H))
inductive InOwner (a : Ad) (vs : List V) (H : Hp) (Q : VK) : Prop
  | mk (F : Fx) (W : Vr) (s : Sz17.St) (i : Int) : vs = [.ref F.p, .int i] → Rel a H F W s → SM.Ok s → Q (.int (val s (.owner i))) H → InOwner a vs H Q
def spOwner (a : Ad) : Sp := fun vs H Q _ => InOwner a vs H Q
theorem ok_Scheduler_owner (T : Txt a K mg) : FnOk P w K mg base CX0 1 a.f_Scheduler_owner a.d_Scheduler_owner ["self", "lock"] (spOwner a) := by
  refine T.fn_Scheduler_owner.ok sc_Scheduler_owner (fun vs H Q E h => ?_) (fun cdv A outer s0 H vs Q E hr h => ?_)
  · obtain ⟨F, W, s, i, rfl, _⟩ := h
    rfl
  · obtain ⟨F, W, s, i, rfl, R, o, q⟩ := h
    obtain ⟨t_LOCKS, g_LOCKS⟩ := T.k_LOCKS
    refine ⟨_, (pss_cons (ps_if (PW.pt (pw_or (pt_cmpR op_lt (pv 1) pe_int (nomark _)) (pw_or1 (pt_cmpR op_ge (pv 1) (pe_glob rfl g_LOCKS relI) (nomark _)))))
      (pss_one (ps_ret (pe_un un_neg pe_int)))
      pss_nil)
      (pss_cons (ps_if (pt_cmp (pc_dnotin (hu_of hr) (pv 1) (pe_fld (pv 0) rfl)))
      (pss_one (ps_ret pe_int))
      pss_nil)
      (pss_one (ps_ret (pe_op op_add (pe_dget (hu_of hr) (pe_fld (pv 0) rfl) (pv 1) (fun _ _ => rfl)) pe_int))))), ?_⟩
    obtain ⟨dp, hp⟩ := R.sch
    refine PureT.ifS (PureT.or (PureT.tt (PureE.op (.v rfl) .c)) fun _ => PureT.tt (PureE.op (.v rfl) .c)) ?_
    refine ite2 (fun hc => ?_) (fun hc => ?_)
    · rw [Bool.or_eq_true, decide_eq_true_eq, decide_eq_true_eq] at hc
      have e : val s (.owner i) = -1 := by
        unfold val Sz17.does
        dsimp only
        rw [if_pos (by lia)]
        rfl
      rw [e] at q
      exact neg_go .c q
    · rw [Bool.or_eq_true, decide_eq_true_eq, decide_eq_true_eq] at hc
      obtain ⟨l, rfl⟩ : ∃ l : Nat, i = (l : Int) := ⟨i.toNat, by lia⟩
      have e : val s (.owner (l : Nat)) = match Sz17.holder s l with
          | some i => (i : Int) + 1
          | none => 0 := by
        unfold val Sz17.does
        dsimp only
        rw [if_neg (by lia)]
        rfl
      rw [e] at q
      refine PureT.ifS (PureT.b (PureE.dnotin (.v rfl) (.fld (.v rfl) hp T.cl_Scheduler T.at_Scheduler_owners rfl) (.inl R.od))) ?_
      have ho := R.owner o l
      rw [ho]
      cases hh : Sz17.holder s l with
      | none =>
        rw [hh] at q
        exact iteT q
      | some k =>
        rw [hh] at q ho
        refine iteF ?_
        exact op_go (PureE.dget (.fld (.v rfl) hp T.cl_Scheduler T.at_Scheduler_owners rfl) (.v rfl) (.inl R.od) ho) .c q
end
end My
namespace My
open PySem PySem.W PyProof.Rows L2 Tx Mi
theorem upd_comm {H : Hp} {x y : Addr} {o u : HO} (h : x ≠ y) : upd (upd H x o) y u = upd (upd H y u) x o := by
  funext b
  unfold upd
  by_cases h1 : b = y
  · by_cases h2 : b = x
    · exact absurd (h2.symm.trans h1) h
    · rw [if_pos h1, if_neg h2, if_pos h1]
  · rw [if_neg h1]
    by_cases h2 : b = x
    · rw [if_pos h2, if_pos h2]
    · rw [if_neg h2, if_neg h2, if_neg h1]
/-- a walk over enumerate(list) -/
theorem for_enum {K : Frag} {p : Addr} {xs : List V} {g : TG} {tb : TS} {D : Ends} {σ : L2.St} {H : Hp} (Pv : Nat → L2.St → Hp → Prop) (h0 : Pv 0 σ H) (hl : ∀ i σ H, i ≤ xs.length → Pv i σ H → SqL K H p xs)
    (hs : ∀ i x σ H T, xs[i]? = some x → Pv i σ H → H T = none → g (.ref T) σ (upd H T (.tup [.int (i : Nat), x])) fun σ2 H2 => tb { D with nx := Pv (i + 1), ct := Pv (i + 1), bk := D.nx } σ2 H2) (hd : ∀ σ H, Pv xs.length σ H → D.nx σ H) :
    ∃ W : Nat → Nat → L2.St → Hp → Prop, (∃ m, W 0 m σ H) ∧ ∀ i m σ H, W i m σ H →
      ((Ite K p).stop i H ∧ D.nx σ H) ∨ ((Ite K p).go i H ∧ ∃ N : L2.St → Hp → Prop, (∀ σ' H', N σ' H' → ∃ m', m' < m ∧ W (i + 1) m' σ' H') ∧ ∀ x H', (Ite K p).yld i H x H' → g x σ H' fun σ2 H2 => tb { D with nx := N, ct := N, bk := D.nx } σ2 H2) := by
  refine ⟨fun i m σ H => m = xs.length - i ∧ i ≤ xs.length ∧ Pv i σ H, ⟨xs.length, by simp, Nat.zero_le _, h0⟩, ?_⟩
  rintro i m σ H ⟨rfl, hi, pv⟩
  have q := hl i σ H hi pv
  by_cases hlt : i < xs.length
  · refine .inr ⟨⟨xs, xs[i], q, by simp [hlt]⟩, Pv (i + 1), fun σ' H' p' => ⟨xs.length - (i + 1), by lia, rfl, hlt, p'⟩, fun x H' y => ?_⟩
    obtain ⟨T, x, e1, e2, e3, y⟩ := y
    subst e1 e3
    exact hs i x σ _ T (y xs q) pv e2
  · have e : i = xs.length := by lia
    subst e
    exact .inl ⟨⟨xs, q, Nat.le_refl _⟩, hd σ H pv⟩
/-! ### how many locks there are -/
theorem right_give {l : Nat} : ∀ (left : List Sz17.Step) (has : List Nat), Sz17.right has left = true → l ∈ has → .give l ∈ left
  | [], has, h, hl => by
    rw [Sz17.right] at h
    cases has with
    | nil => cases hl
    | cons x r => cases h
  | .work n :: r, has, h, hl => by
    rw [Sz17.right, Bool.and_eq_true, Bool.and_eq_true] at h
    exact List.mem_cons_of_mem _ (right_give r has h.2.2 hl)
  | .take k :: r, has, h, hl => by
    rw [Sz17.right, Bool.and_eq_true, Bool.and_eq_true] at h
    exact List.mem_cons_of_mem _ (right_give r _ h.2.2 (List.mem_cons_of_mem _ hl))
  | .give k :: r, has, h, hl => by
    rw [Sz17.right, Bool.and_eq_true] at h
    by_cases e : l = k
    · rw [e]; exact List.mem_cons_self
    · exact List.mem_cons_of_mem _ (right_give r _ h.2 (List.mem_filter.mpr ⟨hl, by rw [bne_iff_ne]; exact e⟩))
theorem reads_give {l : Nat} {ns : List Int} {st : List Sz17.Step} (h : SM.Reads ns st) : .give l ∈ st → l < 16 := by
  induction h with
  | nil => intro h; cases h
  | work hz _ ih =>
    intro h
    rcases List.mem_cons.mp h with h | h
    · cases h
    · exact ih h
  | take hz _ ih =>
    intro h
    rcases List.mem_cons.mp h with h | h
    · cases h
    · exact ih h
  | give hz _ ih =>
    intro h
    rcases List.mem_cons.mp h with h | h
    · injection h with h
      rw [h]
      exact (SM.lock_give hz).2.2
    · exact ih h
theorem left_give {ns : List Int} {pl wk l : Nat} {left : List Sz17.Step} (h : LeftR ns pl wk left) (hg : .give l ∈ left) : l < 16 := by
  obtain ⟨st0, hr, ⟨_, rfl⟩ | ⟨n, r, e, _, rfl⟩⟩ := h
  · exact reads_give hr hg
  · rcases List.mem_cons.mp hg with hg | hg
    · cases hg
    · rw [e] at hr
      exact reads_give hr (List.mem_cons_of_mem _ hg)
theorem Rel.os_len {a : Ad} {H : Hp} {F : Fx} {W : Vr} {s : Sz17.St} (R : Rel a H F W s) (o : SM.Ok s) : W.os.length ≤ 16 := by
  have h := SM.length_le_of_subset (ks := List.range 16) R.on fun l hl => by
    obtain ⟨⟨l', i⟩, hm, e⟩ := List.mem_map.mp hl
    have e : l' = l := e
    subst e
    obtain ⟨j, hj, hh⟩ := (R.os l' i).mp hm
    obtain ⟨dx, pl, wk, _, hL⟩ := R.jv i j hj
    exact List.mem_range.mpr (left_give hL (right_give _ _ (o.jb i j hj).rt hh))
  rw [List.length_range, List.length_map] at h
  exact h
/-! ### what a call leaves -/
theorem order_no {s : Sz17.St} {b : Int} (h : b < 0 ∨ 1 < b ∨ s.now ≠ 0) : Sz17.does s (.order b) = (s, Sz17.only (-1)) := by
  unfold Sz17.does
  dsimp only
  rw [if_pos h]
theorem order_yes {s : Sz17.St} {b : Int} (h : ¬ (b < 0 ∨ 1 < b ∨ s.now ≠ 0)) : Sz17.does s (.order b) = ({ s with byDeadline := b == 1 }, Sz17.only 0) := by
  unfold Sz17.does
  dsimp only
  rw [if_neg h]
section
variable {P : Program} {w : World} {K : Frag} {mg : Str → Option Value} {base : Heap} {a : Ad}
inductive InOrder (a : Ad) (vs : List V) (H : Hp) (Q : VK) : Prop
  | mk (F : Fx) (W : Vr) (s : Sz17.St) (b : Int) : vs = [.ref F.p, .int b] → Rel a H F W s → (s.now = 0 → ∀ k, s.job k = none) → (∀ H', Rel a H' F W (Sz17.does s (.order b)).1 → Fr H H' → Q (.int (val s (.order b))) H') → InOrder a vs H Q
def spOrder (a : Ad) : Sp := fun vs H Q _ => InOrder a vs H Q
theorem ok_Scheduler_set_order (T : Txt a K mg) : FnOk P w K mg base CX0 1 a.f_Scheduler_set_order a.d_Scheduler_set_order ["self", "by_deadline"] (spOrder a) := by
  refine T.fn_Scheduler_set_order.ok sc_Scheduler_set_order (fun vs H Q E h => ?_) (fun cdv A outer s0 H vs Q E hr h => ?_)
  · obtain ⟨F, W, s, b, rfl, _⟩ := h
    rfl
  · obtain ⟨F, W, s, b, rfl, R, hno, q⟩ := h
    refine ⟨_, (pss_cons (ps_if (PW.pt (pw_or (pt_cmpR op_notIn_seq (pv 1) (pe_tup (pa_cons pe_int (pa_cons pe_int pa_nil))) (by with_unfolding_all rfl)) (pw_or1 (pt_cmpR op_gt (pe_fld (pv 0) rfl) pe_int (nomark _)))))
      (pss_one (ps_ret (pe_un un_neg pe_int)))
      pss_nil)
      (pss_cons (ps_fld (pv 0) (pe_cmpR op_eq (pv 1) pe_int (nomark _)) rfl)
      (pss_one (ps_ret pe_int)))), ?_⟩
    obtain ⟨dp, hp⟩ := R.sch
    refine ⟨_, rfl, (by show 2 ≤ sizeLine; decide), fun t ht => ⟨t, _, rfl, .inr (SqT.of upd_same), rfl, rfl, _, rfl, ?_⟩⟩
    have s1 : Same H (upd H t (.tup [V.int 0, V.int 1])) := Same.upd_new (Same.refl H) ht
    have hp1 : upd H t (.tup [V.int 0, V.int 1]) F.p = _ := s1 _ _ hp
    have R1 := R.same s1
    have hin : inV (V.int b) [V.int 0, V.int 1] = decide (b ∈ ([0, 1] : List Int)) := inV_int b [0, 1]
    unfold val at q
    refine ite2 (fun hc => ?_) (fun hc => ?_)
    · have hc : (!inV (V.int b) [V.int 0, V.int 1]) = true := hc
      rw [hin, Bool.not_eq_true', decide_eq_false_iff_not] at hc
      have hb : b < 0 ∨ 1 < b ∨ s.now ≠ 0 := by
        simp only [List.mem_cons, List.not_mem_nil, or_false] at hc
        lia
      rw [order_no hb] at q
      exact iteT (neg_go .c (q _ R1 (Fr.of s1)))
    · have hc : ¬ (!inV (V.int b) [V.int 0, V.int 1]) = true := hc
      rw [hin, Bool.not_eq_true', decide_eq_false_iff_not, Decidable.not_not] at hc
      simp only [List.mem_cons, List.not_mem_nil, or_false] at hc
      refine tt_go (PureE.op (.fld (.v rfl) hp1 T.cl_Scheduler T.at_Scheduler_now rfl) .c) ?_
      refine ite2 (fun hn => ?_) (fun hn => ?_)
      · rw [decide_eq_true_eq] at hn
        rw [order_no (by lia)] at q
        exact neg_go .c (q _ R1 (Fr.of s1))
      · rw [decide_eq_true_eq] at hn
        have hn0 : s.now = 0 := by lia
        rw [order_yes (by lia)] at q
        have R2 := R1.bydW (b == 1) (hno hn0) hp1
        have eb : (b == 1) = decide (V.int b = V.int 1) := by
          rw [Bool.beq_eq_decide_eq, decide_eq_decide, V.int.injEq]
        refine sFld_by (PureE.eq (.v rfl) .c rfl) (.v rfl) hp1 T.cl_Scheduler T.at_Scheduler_by_deadline (lt1000 (by show (5 : Nat) ≤ 20; decide)) ?_
        rw [eb] at q R2
        exact q _ R2 ((Fr.of s1).ins hp1)
/-! ### a job comes -/
inductive InNewJob (a : Ad) (vs : List V) (H : Hp) (Q : VK) : Prop
  | mk (F : Fx) (W : Vr) (s : Sz17.St) (i : Nat) : vs = [.ref F.p, .int (i : Nat), .ref (F.ta i)] → Rel a H F W s → i < s.tasks.length → (∀ x dx H', Same H H' → H' x = some (.ins a.c_Job dx (jobF s i (SM.newJob s i) (F.sa i) 0 0)) → Q (.ref x) H') → InNewJob a vs H Q
def spNewJob (a : Ad) : Sp := fun vs H Q _ => InNewJob a vs H Q
theorem ok_Scheduler_new_job (T : Txt a K mg) : FnOk P w K mg base CX0 3 a.f_Scheduler_new_job a.d_Scheduler_new_job ["self", "number", "task"] (spNewJob a) := by
  refine T.fn_Scheduler_new_job.ok sc_Scheduler_new_job (fun vs H Q E h => ?_) (fun cdv A outer s0 H vs Q E hr h => ?_)
  · obtain ⟨F, W, s, i, rfl, _⟩ := h
    rfl
  · obtain ⟨F, W, s, i, rfl, R, hi, q⟩ := h
    refine ⟨_, (pss_cons (ps_set (i := 3) sc_Scheduler_new_job.nd rfl (Or.inl rfl) (pe_op op_add (pe_fld (pv 0) rfl) (pe_fld (pv 2) rfl)))
      (pss_cons (ps_set (i := 4) sc_Scheduler_new_job.nd rfl (Or.inl rfl) (pe_ifExp (pt_truth (pe_fld (pv 0) rfl) (fun _ => rfl)) (pe_un un_neg (pv 3)) (pe_fld (pv 2) rfl)))
      (pss_one (ps_ret (pe_make T.mk_Job (ok_Job_init T) (hr.mono (by decide)) rfl T.mg_Job T.bd_Job_init .nil pass0 (pa_cons (pv 1) (pa_cons (pe_fld (pv 2) rfl) (pa_cons (pe_fld (pv 0) rfl) (pa_cons (pv 3) (pa_cons (pv 4) pa_nil)))))))))), ?_⟩
    obtain ⟨dp, hp⟩ := R.sch
    obtain ⟨dt, ht⟩ := R.tk i hi
    refine op_go (.fld (.v rfl) hp T.cl_Scheduler T.at_Scheduler_now rfl) (.fld (.v rfl) ht T.cl_Task T.at_Task_deadline rfl) ?_
    dsimp only [gName, tSeq]
    refine ⟨_, rfl, _, _, _, _, _, rfl, hp, T.cl_Scheduler, T.at_Scheduler_by_deadline, rfl, s.byDeadline, rfl, ?_⟩
    have fin : ∀ (u : Int), u = Sz17.own s i (SM.newJob s i) → ∀ x dx, H x = none → H dx = none → dx ≠ x →
        Q (.ref x) (upd (upd (upd H dx (.own x)) x (.ins a.c_Job dx [])) x (.ins a.c_Job dx (fl_Job (.int (i : Nat)) (.ref (F.sa i)) (.int (s.now : Nat)) (.int ((s.now : Int) + ((s.task i).deadline : Int))) (.int u) (.int ((0 : Nat) : Int)) (.int ((0 : Nat) : Int)) .non))) := fun u hu x dx nx ndx ne => by
      refine q x dx _ ?_ ?_
      · rw [upd_upd]
        exact Same.upd_old (Same.upd_new (Same.refl H) ndx) nx
      · rw [upd_same, hu]
        rfl
    cases hb : s.byDeadline with
    | true =>
      refine iteT (neg_go (.v rfl) ?_)
      refine ⟨_, rfl, fld_go (.v rfl) ht T.cl_Task T.at_Task_steps rfl (fld_go (.v rfl) hp T.cl_Scheduler T.at_Scheduler_now rfl ⟨_, rfl, _, rfl, fun x dx nx ndx ne => ⟨x, dx, _, _, _, _, _, rfl, upd_same, rfl, fin _ ?_ x dx nx ndx ne⟩⟩)⟩
      unfold Sz17.own
      rw [hb, if_pos rfl]
      rfl
    | false =>
      refine iteF (fld_go (.v rfl) ht T.cl_Task T.at_Task_rank rfl ?_)
      refine ⟨_, rfl, fld_go (.v rfl) ht T.cl_Task T.at_Task_steps rfl (fld_go (.v rfl) hp T.cl_Scheduler T.at_Scheduler_now rfl ⟨_, rfl, _, rfl, fun x dx nx ndx ne => ⟨x, dx, _, _, _, _, _, rfl, upd_same, rfl, fin _ ?_ x dx nx ndx ne⟩⟩)⟩
      unfold Sz17.own
      rw [hb, if_neg Bool.false_ne_true]
theorem seen_see {s : Sz17.St} {i : Nat} {f : Sz17.Seen → Sz17.Seen} (hi : i < s.seen.length) (k : Nat) : seenAt (s.see i f) k = if k = i then f (seenAt s i) else seenAt s k := by
  unfold seenAt
  rw [List.getD_eq_getElem?_getD, SM.see_get]
  by_cases h : k = i
  · subst h
    rw [if_pos rfl, if_pos rfl, List.getElem?_eq_getElem hi, List.getD_eq_getElem?_getD, List.getElem?_eq_getElem hi]
    rfl
  · rw [if_neg h, if_neg h, List.getD_eq_getElem?_getD]
def comesN (s : Sz17.St) (k : Nat) : Sz17.St := (List.range k).foldl Sz17.comes s
theorem comesN_succ (s : Sz17.St) (k : Nat) : comesN s (k + 1) = Sz17.comes (comesN s k) k := by
  unfold comesN
  rw [List.range_succ, List.foldl_append]
  rfl
theorem comesN_ok {s : Sz17.St} (o : SM.Ok s) : ∀ k, k ≤ s.tasks.length → SM.Ok (comesN s k) ∧ (comesN s k).tasks = s.tasks ∧ (comesN s k).now = s.now ∧ (comesN s k).byDeadline = s.byDeadline
  | 0, _ => ⟨o, rfl, rfl, rfl⟩
  | k + 1, h => by
    obtain ⟨h1, h2, h3, h4⟩ := comesN_ok o k (by lia)
    rw [comesN_succ]
    exact ⟨h1.comes (by rw [h2]; lia), (SM.comes_tasks _ _).trans h2, (SM.comes_now _ _).trans h3, (SM.comes_byd _ _).trans h4⟩
theorem task_eq {s t : Sz17.St} (h : s.tasks = t.tasks) (k : Nat) : s.task k = t.task k := by unfold Sz17.St.task; rw [h]
inductive InCome (a : Ad) (vs : List V) (H : Hp) (Q : VK) : Prop
  | mk (F : Fx) (W : Vr) (s : Sz17.St) : vs = [.ref F.p] → Rel a H F W s → SM.Ok s → (∀ i, i < s.tasks.length → SM.NextAt (s.task i) s.now (W.cm i)) → s.now < SM.NEVER → (∀ H' W', Rel a H' F W' (comesN s s.tasks.length) → (∀ i, i < s.tasks.length → SM.NextAt (s.task i) (s.now + 1) (W'.cm i)) → Fr H H' → Q .non H') → InCome a vs H Q
def spCome (a : Ad) : Sp := fun vs H Q _ => InCome a vs H Q
inductive LjInv (a : Ad) (H : Hp) (F : Fx) (W : Vr) (s : Sz17.St) (k : Nat) (σ : L2.St) (H2 : Hp) : Prop
  | mk (W2 : Vr) (v1 v2 : Option V) : σ = [some (.ref F.p), v1, v2] → Rel a H2 F W2 (comesN s k) → (∀ i, i < k → SM.NextAt (s.task i) (s.now + 1) (W2.cm i)) → (∀ i, k ≤ i → W2.cm i = W.cm i) → Fr H H2 → LjInv a H F W s k σ H2
theorem ok_Scheduler_let_jobs_come (T : Txt a K mg) : FnOk P w K mg base CX0 4 a.f_Scheduler_let_jobs_come a.d_Scheduler_let_jobs_come ["self"] (spCome a) := by
  refine T.fn_Scheduler_let_jobs_come.ok sc_Scheduler_let_jobs_come (fun vs H Q E h => ?_) (fun cdv A outer s0 H vs Q E hr h => ?_)
  · obtain ⟨F, W, s, rfl, _⟩ := h
    rfl
  · obtain ⟨F, W, s, rfl, R, o, hnx, hnow, q⟩ := h
    refine ⟨_, (pss_one (ps_for PassesOwn.never rfl (pi_enum rfl T.n_enumerate (pa_cons (pe_fld (pv 0) rfl) pa_nil)) (pg_tup rfl (pgs_cons (pg_name (i := 1) sc_Scheduler_let_jobs_come.nd rfl (Or.inl rfl)) (pgs_cons (pg_name (i := 2) sc_Scheduler_let_jobs_come.nd rfl (Or.inl rfl)) pgs_nil)))
      (pss_one (ps_if (pt_cmpR op_eq (pe_fld (pv 2) rfl) (pe_fld (pv 0) rfl) (nomark _))
      (pss_cons (ps_expr (pe_meth0 (pv 2) T.cl_Task T.me_Task_pass_coming (ok_Task_pass_coming T) (hr.mono (by decide)) T.bd_Task_pass_coming .nil pass0))
      (pss_one (ps_if (pt_cmp (pc_din (hu_of hr) (pv 1) (pe_fld (pv 0) rfl)))
      (pss_one (ps_fldaug (pv 2) pe_int in_add))
      (pss_one (ps_dput (hu_of hr) (pe_fld (pv 0) rfl) (pv 1) (pe_meth (pv 0) T.cl_Scheduler T.me_Scheduler_new_job (ok_Scheduler_new_job T) (hr.mono (by decide)) T.bd_Scheduler_new_job .nil pass0 (pa_cons (pv 1) (pa_cons (pv 2) pa_nil))) rfl)))))
      pss_nil)))), ?_⟩
    obtain ⟨dp, hp⟩ := R.sch
    refine fld_go (.v rfl) hp T.cl_Scheduler T.at_Scheduler_tasks rfl ⟨F.tl, _, rfl, SqL.of R.tl, ?_⟩
    refine for_enum (xs := (List.range s.tasks.length).map fun i => V.ref (F.ta i)) (LjInv a H F W s) ⟨W, none, none, rfl, R, fun i hi => absurd hi (Nat.not_lt_zero _), fun _ _ => rfl, Fr.refl H⟩ (fun k σ H2 hk ⟨W2, _, _, _, R2, _, _, _⟩ => ?_) ?_ ?_
    · rw [tl_len] at hk
      have := R2.tl
      rw [(comesN_ok o k hk).2.1] at this
      exact SqL.of this
    · rintro k x σ H2 Tp hx ⟨W2, v1, v2, rfl, R2, hn2, hc2, fr2⟩ hT
      have hk : k < s.tasks.length := by
        have := (List.getElem?_eq_some_iff.mp hx).1
        rw [tl_len] at this
        exact this
      rw [tl_at hk] at hx
      cases hx
      obtain ⟨ou, etk, eno, eby⟩ := comesN_ok o k (Nat.le_of_lt hk)
      have s3 : Same H2 (upd H2 Tp (.tup [.int (k : Nat), .ref (F.ta k)])) := Same.upd_new (Same.refl H2) hT
      have R3 := R2.same s3
      have fr3 := fr2.trans (Fr.of s3)
      generalize hu : comesN s k = u at R2 R3 ou etk eno eby
      have hk' : k < u.tasks.length := by rw [etk]; exact hk
      refine ⟨Tp, _, rfl, SqT.of upd_same, rfl, _, _, rfl, _, _, rfl, rfl, ?_⟩
      generalize upd H2 Tp (.tup [.int (k : Nat), .ref (F.ta k)]) = H3 at s3 R3 fr3
      obtain ⟨dp3, hp3⟩ := R3.sch
      obtain ⟨dt3, ht3⟩ := R3.tk k hk'
      have etask := task_eq etk k
      have hnxk := hnx k hk
      rw [← hc2 k (Nat.le_refl _)] at hnxk
      have hdue : SM.due u k ↔ W2.cm k = s.now := by
        rw [SM.due_iff, etask, eno]
        exact SM.next_due hnxk hnow
      -- how the turn ends
      have fin : ∀ (W5 : Vr) (H5 : Hp) (v1 v2 : Option V), Rel a H5 F W5 (Sz17.comes u k) → Fr H H5 → (∀ i, i ≠ k → W5.cm i = W2.cm i) → SM.NextAt (s.task k) (s.now + 1) (W5.cm k) → LjInv a H F W s (k + 1) [some (.ref F.p), v1, v2] H5 := fun W5 H5 v1 v2 R5 fr5 h5 hk5 => by
        refine ⟨W5, v1, v2, rfl, ?_, fun i hi => ?_, fun i hi => ?_, fr5⟩
        · rw [comesN_succ, hu]; exact R5
        · by_cases e : i = k
          · rw [e]; exact hk5
          · rw [h5 i e]; exact hn2 i (by lia)
        · rw [h5 i (by lia)]; exact hc2 i (by lia)
      refine PureT.ifS (PureT.tt (PureE.eq (.fld (.v rfl) ht3 T.cl_Task T.at_Task_comes_at rfl) (.fld (.v rfl) hp3 T.cl_Scheduler T.at_Scheduler_now rfl) rfl)) ?_
      refine ite2 (fun hc => ?_) (fun hc => ?_)
      · rw [decide_eq_true_eq, V.int.injEq] at hc
        have hc : W2.cm k = s.now := by rw [eno] at hc; lia
        have hd := hdue.mpr hc
        rw [hc] at hnxk
        have hpass := SM.next_pass hnxk hnow
        -- task.pass_coming()
        refine ⟨_, rfl, F.ta k, dt3, _, rfl, ht3, rfl, F.ta k, dt3, _, _, _, _, _, _, _, (u.task k).period, W2.cm k, rfl, ht3, ?_⟩
        have R4 := R3.taskW (s' := u) (x' := seenAt u k) hk' rfl rfl rfl rfl (fun m _ => by
          by_cases e : m = k
          · rw [if_pos e, e]
          · rw [if_neg e]) ht3 lenT (if (u.task k).period = 0 then SM.NEVER else W2.cm k + (u.task k).period)
        have fr4 := fr3.ins (o := .ins a.c_Task dt3 (taskF (u.task k) (seenAt u k) (F.sa k) (if (u.task k).period = 0 then SM.NEVER else W2.cm k + (u.task k).period))) ht3
        have ht4 : upd H3 (F.ta k) (.ins a.c_Task dt3 (taskF (u.task k) (seenAt u k) (F.sa k) (if (u.task k).period = 0 then SM.NEVER else W2.cm k + (u.task k).period))) (F.ta k) = _ := upd_same
        have e4 : (HO.ins a.c_Task dt3 (fl_Task (.int ((u.task k).period : Nat)) (.int ((u.task k).deadline : Nat)) (.int ((u.task k).rank : Nat)) (.ref (F.sa k)) (.int ((if (u.task k).period = 0 then SM.NEVER else W2.cm k + (u.task k).period : Nat) : Int)) (.int ((seenAt u k).done : Nat)) (.int ((seenAt u k).missed : Nat)) (.int ((seenAt u k).skipped : Nat)) (.int ((seenAt u k).longest : Nat)))) = HO.ins a.c_Task dt3 (taskF (u.task k) (seenAt u k) (F.sa k) (if (u.task k).period = 0 then SM.NEVER else W2.cm k + (u.task k).period)) := rfl
        rw [e4]
        have hcm : SM.NextAt (s.task k) (s.now + 1) (if (u.task k).period = 0 then SM.NEVER else W2.cm k + (u.task k).period) := by
          rw [etask, hc]; exact hpass
        generalize upd H3 (F.ta k) (.ins a.c_Task dt3 (taskF (u.task k) (seenAt u k) (F.sa k) (if (u.task k).period = 0 then SM.NEVER else W2.cm k + (u.task k).period))) = H4 at R4 fr4 ht4
        generalize (if (u.task k).period = 0 then SM.NEVER else W2.cm k + (u.task k).period) = c' at R4 ht4 hcm
        obtain ⟨dp4, hp4⟩ := R4.sch
        -- if number in self.jobs
        refine PureT.ifS (PureT.b (PureE.din (.v rfl) (.fld (.v rfl) hp4 T.cl_Scheduler T.at_Scheduler_jobs rfl) (.inl R4.jd))) ?_
        cases hj : u.job k with
        | some j =>
          have hm : k ∈ W2.ks := (R2.ks k).mpr (by rw [hj]; rfl)
          have ev : valV (jobKV ({ W2 with cm := setAt W2.cm k c' } : Vr).ks ({ W2 with cm := setAt W2.cm k c' } : Vr).ja) (Sum.inl (k : Int)) = some (.ref (W2.ja k)) := valV_jobs hm
          rw [ev]
          refine iteT ?_
          refine sAug_by (.v rfl) .c ht4 T.cl_Task T.at_Task_jobs_left_out rfl (lt1000 (by show (9 : Nat) ≤ 20; decide)) ?_
          have R5 := R4.taskW (s' := u.see k fun x => { x with skipped := x.skipped + 1 }) (x' := { seenAt u k with skipped := (seenAt u k).skipped + 1 }) hk' rfl rfl rfl rfl (fun m _ => seen_see (by rw [ou.sl]; exact hk') m) ht4 lenT c'
          refine fin _ _ _ _ (by rw [SM.comes_skip hd hj]; exact R5) (fr4.ins ht4) (fun i hi => ?_) ?_
          · show setAt (setAt W2.cm k c') k c' i = _
            rw [setAt_ne hi, setAt_ne hi]
          · show SM.NextAt _ _ (setAt (setAt W2.cm k c') k c' k)
            rw [setAt_same]; exact hcm
        | none =>
          have hm : ¬ k ∈ W2.ks := fun z => by rw [R2.ks k, hj] at z; cases z
          have ev : valV (jobKV ({ W2 with cm := setAt W2.cm k c' } : Vr).ks ({ W2 with cm := setAt W2.cm k c' } : Vr).ja) (Sum.inl (k : Int)) = none := valV_jobs_none hm
          rw [ev]
          refine iteF ?_
          refine ⟨_, rfl, F.p, dp4, _, rfl, hp4, rfl, _, rfl, _, rfl, F, _, u, k, rfl, R4, hk', fun x dx H5 s5 hx5 => ?_⟩
          have R5 := R4.same s5
          obtain ⟨dp5, hp5⟩ := R5.sch
          have hkl : (jobKV W2.ks W2.ja).length < sizeLine := by
            unfold jobKV
            rw [List.length_map]
            have := ks_length R2 ou
            have : (sizeLine : Nat) = 16777216 := rfl
            lia
          refine fld_go (.v rfl) hp5 T.cl_Scheduler T.at_Scheduler_jobs rfl ⟨_, rfl, F.jd, _, rfl, .inl ⟨_, Sum.inl (k : Int), R5.jd, rfl, hkl, rfl⟩, ?_⟩
          have R6 := R5.jobNew (j := SM.newJob u k) (by rw [ou.jl]; exact hk') hj rfl hx5 (LeftR.start (R5.st k hk').2)
          have ep : putK (jobKV ({ W2 with cm := setAt W2.cm k c' } : Vr).ks ({ W2 with cm := setAt W2.cm k c' } : Vr).ja) (Sum.inl (k : Int)) (V.ref x) = jobKV (W2.ks ++ [k]) (setAt W2.ja k x) := put_job hm
          rw [ep]
          refine fin _ _ _ _ (by rw [SM.comes_new hd hj]; exact R6) ((fr4.trans (Fr.of s5)).dk R5.jd) (fun i hi => ?_) ?_
          · show setAt W2.cm k c' i = _
            rw [setAt_ne hi]
          · show SM.NextAt _ _ (setAt W2.cm k c' k)
            rw [setAt_same]; exact hcm
      · rw [decide_eq_true_eq, V.int.injEq] at hc
        have hc : ¬ W2.cm k = s.now := fun z => hc (by rw [eno, z])
        have hge := SM.next_ge hnxk hnow
        have hnd : ¬ SM.due u k := fun z => hc (hdue.mp z)
        refine fin W2 _ _ _ (by rw [SM.comes_no hnd]; exact R3) fr3 (fun _ _ => rfl) ?_
        by_cases hlt : s.now + 1 < SM.NEVER
        · exact SM.next_later hnxk (by lia) (by lia) hlt
        · rcases hnxk with ⟨h1, ⟨h2, h3⟩ | ⟨h2, h3⟩⟩ | ⟨h1, kk, h2, h3, h4⟩
          · exact .inl ⟨h1, .inl ⟨by lia, h3⟩⟩
          · exact .inl ⟨h1, .inr ⟨by lia, h3⟩⟩
          · exact .inr ⟨h1, kk, h2, by lia, by lia⟩
    · rintro σ H2 ⟨W2, v1, v2, rfl, R2, hn2, hc2, fr2⟩
      rw [tl_len] at R2 hn2
      exact q H2 W2 R2 hn2 fr2
end
end My
namespace My
open PySem PySem.W PyProof.Rows L2 Tx Mi
/-! ### the late ones -/
theorem isLate_at {s : Sz17.St} {k : Nat} {j : Sz17.Job} (h : s.now < SM.NEVER) : SM.isLate s k j ↔ lateAt s k j ≤ s.now := by
  unfold SM.isLate lateAt
  cases j.late with
  | true =>
    rw [if_pos rfl]
    constructor
    · rintro ⟨h1, _⟩; cases h1
    · intro h2; lia
  | false =>
    rw [if_neg Bool.false_ne_true]
    constructor
    · intro h1; exact h1.2
    · intro h1; exact ⟨rfl, h1⟩
theorem lateAt_true {s : Sz17.St} {k : Nat} {j : Sz17.Job} : lateAt s k { j with late := true } = SM.NEVER := if_pos rfl
section
variable {P : Program} {w : World} {K : Frag} {mg : Str → Option Value} {base : Heap} {a : Ad}
inductive InLate (a : Ad) (vs : List V) (H : Hp) (Q : VK) : Prop
  | mk (F : Fx) (W : Vr) (s : Sz17.St) : vs = [.ref F.p] → Rel a H F W s → SM.Ok s → s.now < SM.NEVER → (∀ H' W', W'.cm = W.cm → Rel a H' F W' ((List.range s.tasks.length).foldl Sz17.late s) → Fr H H' → Q .non H') → InLate a vs H Q
def spLate (a : Ad) : Sp := fun vs H Q _ => InLate a vs H Q
inductive TlInv (a : Ad) (H : Hp) (F : Fx) (W : Vr) (s : Sz17.St) (ob : Obj) (i : Nat) (σ : L2.St) (H2 : Hp) : Prop
  | mk (W2 : Vr) (v1 v2 : Option V) : σ = [some (.ref F.p), v1, v2] → H2 F.jd = some (.frz ob (.dK (jobKV W.ks W.ja))) → W2.ks = W.ks → W2.ja = W.ja → (∀ k, k < s.tasks.length → W2.cm k = W.cm k) → Rel a (upd H2 F.jd (.dK (jobKV W.ks W.ja))) F W2 ((W.ks.take i).foldl Sz17.late s) → Fr H (upd H2 F.jd (.dK (jobKV W.ks W.ja))) → TlInv a H F W s ob i σ H2
theorem lates_tasks (l : List Nat) (s : Sz17.St) : (l.foldl Sz17.late s).tasks = s.tasks := (SM.Alike.lates l s).tk
theorem Rel.cmW {a : Ad} {H : Hp} {F : Fx} {W W' : Vr} {s : Sz17.St} (R : Rel a H F W s) (h1 : W'.ks = W.ks) (h2 : W'.ja = W.ja) (h3 : W'.os = W.os) (h4 : ∀ k, k < s.tasks.length → W'.cm k = W.cm k) : Rel a H F W' s := by
  obtain ⟨A1, A2, A3, A4, A5, A6, A7, A8, A9, A10, A11, A12, A13⟩ := R
  refine ⟨A1, A2, fun i hi => by rw [h4 i hi]; exact A3 i hi, A4, A5, by rw [h1, h2]; exact A6, by rw [h3]; exact A7, A8, by rw [h1]; exact A9, by rw [h1]; exact A10, by rw [h2]; exact A11, by rw [h3]; exact A12, by rw [h3]; exact A13⟩
theorem ok_Scheduler_tell_late (T : Txt a K mg) : FnOk P w K mg base CX0 1 a.f_Scheduler_tell_late a.d_Scheduler_tell_late ["self"] (spLate a) := by
  refine T.fn_Scheduler_tell_late.ok sc_Scheduler_tell_late (fun vs H Q E h => ?_) (fun cdv A outer s0 H vs Q E hr h => ?_)
  · obtain ⟨F, W, s, rfl, _⟩ := h
    rfl
  · obtain ⟨F, W, s, rfl, R, o, hnow, q⟩ := h
    obtain ⟨t_NEVER, g_NEVER⟩ := T.k_NEVER
    refine ⟨_, (pss_one (ps_lock (ps_for PassesOwn.never rfl (pi_values (pe_fld (pv 0) rfl)) (pg_name (i := 1) sc_Scheduler_tell_late.nd rfl (Or.inl rfl))
      (pss_one (ps_if (pt_cmpR op_le (pe_fld (pv 1) rfl) (pe_fld (pv 0) rfl) (nomark _))
      (pss_cons (ps_fld (pv 1) (pe_glob rfl g_NEVER relI) rfl)
      (pss_cons (ps_set (i := 2) sc_Scheduler_tell_late.nd rfl (Or.inl rfl) (pe_ix ix_list (pe_fld (pv 0) rfl) (pe_fld (pv 1) rfl) (fun _ _ => rfl)))
      (pss_one (ps_fldaug (pv 2) pe_int in_add))))
      pss_nil))))), ?_⟩
    obtain ⟨dp, hp⟩ := R.sch
    refine ⟨F.jd, _, R.jd, trivial, fun ob => ?_⟩
    have npj : F.p ≠ F.jd := ne_of hp R.jd (by intro z; cases z)
    have e0 : upd (upd H F.jd (.frz ob (.dK (jobKV W.ks W.ja)))) F.jd (.dK (jobKV W.ks W.ja)) = H := by rw [upd_upd, upd_self R.jd]
    refine fld_go (.v rfl) ((upd_ne npj).trans hp) T.cl_Scheduler T.at_Scheduler_jobs rfl ⟨F.jd, ob, jobKV W.ks W.ja, rfl, upd_same, ?_⟩
    refine for_vals (TlInv a H F W s ob) ⟨W, none, none, rfl, upd_same, rfl, rfl, fun _ _ => rfl, by rw [e0]; exact R, by rw [e0]; exact Fr.refl H⟩ (fun i σ H2 _ ⟨W2, _, _, _, h, _, _, _, _, _⟩ => h) ?_ ?_
    · rintro i kk x σ H2 hi ⟨W2, v1, v2, rfl, hf, ek, ej, ec, R2, fr2⟩
      obtain ⟨k, hk, rfl, rfl⟩ := jobKV_at hi
      have hks : k ∈ W.ks := List.mem_of_getElem? hk
      have et : (W.ks.take (i + 1)).foldl Sz17.late s = Sz17.late ((W.ks.take i).foldl Sz17.late s) k := by
        rw [List.take_add_one, hk, List.foldl_append]
        rfl
      have etk := lates_tasks (W.ks.take i) s
      have eno := SM.lates_now (W.ks.take i) s
      have ou := SM.Ok.lates (W.ks.take i) o
      generalize (W.ks.take i).foldl Sz17.late s = u at R2 et etk eno ou
      have hju : (u.job k).isSome = true := (R2.ks k).mp (by rw [ek]; exact hks)
      obtain ⟨j, hj⟩ := Option.isSome_iff_exists.mp hju
      have hkt : k < u.tasks.length := by rw [← ou.jl]; exact SM.job_lt hj
      obtain ⟨dj, pl, wk, hx2, hL⟩ := R2.jv k j hj
      obtain ⟨dt, ht2⟩ := R2.tk k hkt
      obtain ⟨dp2, hp2⟩ := R2.sch
      rw [ej] at hx2
      -- the objects, apart from the locked dict
      have hjd2 : upd H2 F.jd (.dK (jobKV W.ks W.ja)) F.jd = some (.dK (jobKV W.ks W.ja)) := upd_same
      have nx : W.ja k ≠ F.jd := ne_of hx2 hjd2 (by intro z; cases z)
      have nt : F.ta k ≠ F.jd := ne_of ht2 hjd2 (by intro z; cases z)
      have ntl : F.tl ≠ F.jd := ne_of R2.tl hjd2 (by intro z; cases z)
      have nxt : W.ja k ≠ F.ta k := ne_of hx2 ht2 (ins_neN lenJ lenT (by decide))
      have nxp : W.ja k ≠ F.p := ne_of hx2 hp2 (ins_neN lenJ lenS (by decide))
      have nxtl : W.ja k ≠ F.tl := ne_of hx2 R2.tl (by intro z; cases z)
      have hx : H2 (W.ja k) = _ := (upd_ne nx).symm.trans hx2
      have ht : H2 (F.ta k) = _ := (upd_ne nt).symm.trans ht2
      have hpp : H2 F.p = _ := (upd_ne npj).symm.trans hp2
      have htl : H2 F.tl = _ := (upd_ne ntl).symm.trans R2.tl
      refine PureT.ifS (PureT.tt (PureE.op (.fld (.v rfl) hx T.cl_Job T.at_Job_late_at rfl) (.fld (.v rfl) hpp T.cl_Scheduler T.at_Scheduler_now rfl))) ?_
      have hiff := isLate_at (s := u) (k := k) (j := j) (by rw [eno]; exact hnow)
      refine ite2 (fun hc => ?_) (fun hc => ?_)
      · rw [decide_eq_true_eq] at hc
        have hl : SM.isLate u k j := hiff.mpr (by lia)
        -- job.late_at = NEVER
        refine sFld_by .c (.v rfl) hx T.cl_Job T.at_Job_late_at (lt1000 (by show (8 : Nat) ≤ 20; decide)) ?_
        have R3 := R2.jobW (j' := { j with late := true }) hj rfl (by rw [ej]; exact hx2) lenJ hL
        rw [ej] at R3
        have eo : HO.ins a.c_Job dj (putF "late_at" (.int 2000000000) (jobF u k j (F.sa k) pl wk)) = HO.ins a.c_Job dj (jobF u k { j with late := true } (F.sa k) pl wk) := by
          unfold jobF
          rw [lateAt_true]
          rfl
        rw [eo]
        have fr3 := fr2.ins (o := .ins a.c_Job dj (jobF u k { j with late := true } (F.sa k) pl wk)) hx2
        rw [upd_comm nx.symm] at R3 fr3
        have hx' : upd H2 (W.ja k) (.ins a.c_Job dj (jobF u k { j with late := true } (F.sa k) pl wk)) (W.ja k) = _ := upd_same
        have hp' : upd H2 (W.ja k) (.ins a.c_Job dj (jobF u k { j with late := true } (F.sa k) pl wk)) F.p = _ := (upd_ne nxp.symm).trans hpp
        have htl' : upd H2 (W.ja k) (.ins a.c_Job dj (jobF u k { j with late := true } (F.sa k) pl wk)) F.tl = _ := (upd_ne nxtl.symm).trans htl
        have ht' : upd H2 (W.ja k) (.ins a.c_Job dj (jobF u k { j with late := true } (F.sa k) pl wk)) (F.ta k) = _ := (upd_ne nxt.symm).trans ht
        have hf' : upd H2 (W.ja k) (.ins a.c_Job dj (jobF u k { j with late := true } (F.sa k) pl wk)) F.jd = _ := (upd_ne nx.symm).trans hf
        generalize upd H2 (W.ja k) (.ins a.c_Job dj (jobF u k { j with late := true } (F.sa k) pl wk)) = H3 at R3 fr3 hx' hp' htl' ht' hf'
        -- task = self.tasks[job.number]
        refine ix_go (.fld (.v rfl) hp' T.cl_Scheduler T.at_Scheduler_tasks rfl) (.fld (.v rfl) hx' T.cl_Job T.at_Job_number rfl) (SqL.of htl') (tl_at hkt) ?_
        dsimp only [gName, tSeq]
        refine sAug_by (.v rfl) .c ht' T.cl_Task T.at_Task_missed_deadlines rfl (lt1000 (by show (9 : Nat) ≤ 20; decide)) ?_
        have ht3 : upd H3 F.jd (.dK (jobKV W.ks W.ja)) (F.ta k) = _ := (upd_ne nt).trans ht'
        have R4 := R3.taskW (s' := (u.setJob k (some { j with late := true })).see k fun x => { x with missed := x.missed + 1 }) (x' := { seenAt u k with missed := (seenAt u k).missed + 1 }) hkt rfl rfl rfl rfl (fun m _ => seen_see (s := u.setJob k (some { j with late := true })) (by show k < u.seen.length; rw [ou.sl]; exact hkt) m) ht3 lenT (W2.cm k)
        have fr4 := fr3.ins (o := .ins a.c_Task dt (taskF (u.task k) { seenAt u k with missed := (seenAt u k).missed + 1 } (F.sa k) (W2.cm k))) ht3
        rw [upd_comm nt.symm] at fr4
        have R4 : Rel a (upd (upd H3 F.jd (.dK (jobKV W.ks W.ja))) (F.ta k) (.ins a.c_Task dt (taskF (u.task k) { seenAt u k with missed := (seenAt u k).missed + 1 } (F.sa k) (W2.cm k)))) F { W2 with cm := setAt W2.cm k (W2.cm k) } ((u.setJob k (some { j with late := true })).see k fun x => { x with missed := x.missed + 1 }) := R4
        rw [upd_comm nt.symm] at R4
        refine ⟨{ W2 with cm := setAt W2.cm k (W2.cm k) }, _, _, rfl, (upd_ne nt.symm).trans hf', ek, ej, fun m hm => ?_, ?_, fr4⟩
        · show setAt W2.cm k (W2.cm k) m = _
          by_cases e : m = k
          · rw [e, setAt_same]; exact ec k (by rw [← etk]; exact hkt)
          · rw [setAt_ne e]; exact ec m hm
        · rw [et, SM.late_yes hj hl]
          exact R4
      · rw [decide_eq_true_eq] at hc
        have hl : ¬ SM.isLate u k j := fun z => hc (by have := hiff.mp z; lia)
        exact ⟨W2, _, _, rfl, hf, ek, ej, ec, by rw [et, SM.late_no hj hl]; exact R2, fr2⟩
    · rintro σ H2 ⟨W2, v1, v2, rfl, hf, ek, ej, ec, R2, fr2⟩
      refine ⟨hf, ?_⟩
      have el : (jobKV W.ks W.ja).length = W.ks.length := List.length_map _
      rw [el, List.take_length, SM.lates_any o.jl R.nd R.ks] at R2
      refine q _ { W2 with cm := W.cm } rfl (R2.cmW rfl rfl rfl fun k hk => ?_) fr2
      rw [lates_tasks] at hk
      exact (ec k hk).symm
/-! ### a step ends -/
inductive InLeave (a : Ad) (vs : List V) (H : Hp) (Q : VK) : Prop
  | mk (F : Fx) (W : Vr) (s : Sz17.St) (i : Nat) (j : Sz17.Job) (x : Sz17.Step) (r : List Sz17.Step) : vs = [.ref F.p, .ref (W.ja i)] → Rel a H F W s → s.job i = some j → i < s.tasks.length → s.seen.length = s.tasks.length → j.left = x :: r → (r = [] → j.has = []) → j.came ≤ s.now → (∀ H' W', W'.cm = W.cm → W'.ja = W.ja → Rel a H' F W' (Sz17.ended (s.setJob i (some { j with left := r })) i s.now) → Fr H H' → Q .non H') → InLeave a vs H Q
def spLeave (a : Ad) : Sp := fun vs H Q _ => InLeave a vs H Q
theorem ok_Scheduler_leave_step (T : Txt a K mg) : FnOk P w K mg base CX0 2 a.f_Scheduler_leave_step a.d_Scheduler_leave_step ["self", "job"] (spLeave a) := by
  refine T.fn_Scheduler_leave_step.ok sc_Scheduler_leave_step (fun vs H Q E h => ?_) (fun cdv A outer s0 H vs Q E hr h => ?_)
  · obtain ⟨F, W, s, i, j, x, r, rfl, _⟩ := h
    rfl
  · obtain ⟨F, W, s, i, j, x, r, rfl, R, hj, hit, hsl, hleft, hhas, hcame, q⟩ := h
    refine ⟨_, (pss_cons (ps_expr (pe_meth0 (pv 1) T.cl_Job T.me_Job_end_step (ok_Job_end_step T) (hr.mono (by decide)) T.bd_Job_end_step .nil pass0))
      (pss_one (ps_if (pt_truth (pe_meth0 (pv 1) T.cl_Job T.me_Job_is_done (ok_Job_is_done T) (hr.mono (by decide)) T.bd_Job_is_done .nil pass0) (fun _ => rfl))
      (pss_cons (ps_expr (pe_dpop1 (pe_fld (pv 0) rfl) (pe_fld (pv 1) rfl) ⟨rfl, rfl, rfl, rfl⟩))
      (pss_one (ps_expr (pe_meth (pe_ix ix_list (pe_fld (pv 0) rfl) (pe_fld (pv 1) rfl) (fun _ _ => rfl)) T.cl_Task T.me_Task_count_done (ok_Task_count_done T) (hr.mono (by decide)) T.bd_Task_count_done .nil pass0 (pa_cons (pe_op op_sub (pe_fld (pv 0) rfl) (pe_fld (pv 1) rfl)) pa_nil)))))
      pss_nil))), ?_⟩
    have hi := SM.job_lt hj
    obtain ⟨dj, pl, wk, hx, hL⟩ := R.jv i j hj
    rw [hleft] at hL
    obtain ⟨z, hz, hpl, hL', hend, _⟩ := hL.head
    -- job.end_step()
    refine ⟨_, rfl, W.ja i, dj, _, rfl, hx, rfl, W.ja i, dj, _, _, _, _, _, _, _, pl, rfl, hx, ?_⟩
    have R1 := R.jobW (j' := { j with left := r }) hj rfl hx lenJ hL'
    have fr1 := (Fr.refl H).ins (o := .ins a.c_Job dj (jobF s i { j with left := r } (F.sa i) (pl + 1) 0)) hx
    have e1 : (HO.ins a.c_Job dj (fl_Job (.int (i : Nat)) (.ref (F.sa i)) (.int (j.came : Nat)) (.int (lateAt s i j : Nat)) (.int (Sz17.own s i j)) (.int ((pl + 1 : Nat) : Int)) (.int ((0 : Nat) : Int)) (wV j.waits))) = .ins a.c_Job dj (jobF s i { j with left := r } (F.sa i) (pl + 1) 0) := rfl
    rw [e1]
    have hx1 : upd H (W.ja i) (.ins a.c_Job dj (jobF s i { j with left := r } (F.sa i) (pl + 1) 0)) (W.ja i) = _ := upd_same
    have hj1 := SM.job_setJob_same (s := s) (o := some { j with left := r }) hi
    generalize upd H (W.ja i) (.ins a.c_Job dj (jobF s i { j with left := r } (F.sa i) (pl + 1) 0)) = H1 at R1 fr1 hx1
    have hs1 := (R1.st i hit).1
    -- if job.is_done()
    refine ⟨_, rfl, W.ja i, dj, _, rfl, hx1, rfl, W.ja i, dj, F.sa i, _, _, _, _, _, _, pl + 1, F.ns i, rfl, hx1, hs1, _, rfl, ?_⟩
    refine ite2 (fun hc => ?_) (fun hc => ?_)
    · rw [decide_eq_true_eq] at hc
      have hr0 := hend.mp hc
      -- self.jobs.pop(job.number)
      obtain ⟨dp1, hp1⟩ := R1.sch
      have hm : i ∈ W.ks := (R.ks i).mpr (by rw [hj]; rfl)
      refine fld_go (.v rfl) hp1 T.cl_Scheduler T.at_Scheduler_jobs rfl ⟨F.jd, rfl, .inl ⟨_, .inl R1.jd⟩, fld_go (.v rfl) hx1 T.cl_Job T.at_Job_number rfl ⟨_, Sum.inl (i : Int), _, R1.jd, rfl, valV_jobs hm, ?_⟩⟩
      have R2 := R1.jobDel hj1 (hhas hr0)
      have fr2 := fr1.dk (o := .dK (jobKV (W.ks.filter fun k => decide (k ≠ i)) W.ja)) R1.jd
      rw [SM.setJob_setJob] at R2
      rw [drop_job]
      have hx2 : upd H1 F.jd (.dK (jobKV (W.ks.filter fun k => decide (k ≠ i)) W.ja)) (W.ja i) = _ := (upd_ne (ne_of hx1 R1.jd (by intro z; cases z))).trans hx1
      generalize upd H1 F.jd (.dK (jobKV (W.ks.filter fun k => decide (k ≠ i)) W.ja)) = H2 at R2 fr2 hx2
      obtain ⟨dp2, hp2⟩ := R2.sch
      obtain ⟨dt, ht⟩ := R2.tk i hit
      -- self.tasks[job.number].count_done(self.now - job.came_at)
      refine ix_go (.fld (.v rfl) hp2 T.cl_Scheduler T.at_Scheduler_tasks rfl) (.fld (.v rfl) hx2 T.cl_Job T.at_Job_number rfl) (SqL.of R2.tl) (tl_at hit) ⟨F.ta i, dt, _, rfl, ht, rfl, ?_⟩
      refine op_go (.fld (.v rfl) hp2 T.cl_Scheduler T.at_Scheduler_now rfl) (.fld (.v rfl) hx2 T.cl_Job T.at_Job_came_at rfl) ?_
      have et : ((s.now : Int) - (j.came : Int)) = ((s.now - j.came : Nat) : Int) := by lia
      refine ⟨F.ta i, dt, _, _, _, _, _, _, _, (seenAt s i).done, (seenAt s i).longest, s.now - j.came, ?_, ht, ?_⟩
      · show [V.ref (F.ta i), V.int ((s.now : Int) - (j.came : Int))] = _
        rw [et]
      · have R3 := R2.taskW (s' := (s.setJob i none).see i fun x => { x with done := x.done + 1, longest := max x.longest (s.now - j.came) }) (x' := { seenAt s i with done := (seenAt s i).done + 1, longest := max (seenAt s i).longest (s.now - j.came) }) hit rfl rfl rfl rfl (fun m _ => seen_see (s := s.setJob i none) (by show i < s.seen.length; rw [hsl]; exact hit) m) ht lenT (W.cm i)
        have ee : Sz17.ended (s.setJob i (some { j with left := r })) i s.now = (s.setJob i none).see i fun x => { x with done := x.done + 1, longest := max x.longest (s.now - j.came) } := by
          rw [SM.ended_end hj1 hr0]
          unfold SM.gone
          rw [SM.setJob_setJob]
        rw [ee] at q
        refine q _ { W with ks := W.ks.filter fun k => decide (k ≠ i) } rfl rfl (R3.cmW rfl rfl rfl fun k hk => ?_) (fr2.ins ht)
        show W.cm k = setAt W.cm i (W.cm i) k
        by_cases e : k = i
        · rw [e, setAt_same]
        · rw [setAt_ne e]
    · rw [decide_eq_true_eq] at hc
      have hr0 : ¬ r = [] := fun z => hc (hend.mpr z)
      rw [SM.ended_no hj1 hr0] at q
      exact q _ W rfl rfl R1 fr1
end
end My
namespace My
open PySem PySem.W PyProof.Rows L2 Tx Mi
section
variable {P : Program} {w : World} {K : Frag} {mg : Str → Option Value} {base : Heap} {a : Ad}
/-! ### a lock is taken, given back, waited for -/
inductive InLock (a : Ad) (vs : List V) (H : Hp) (Q : VK) : Prop
  | mk (F : Fx) (W : Vr) (s : Sz17.St) (i : Nat) (j : Sz17.Job) : vs = [.ref F.p, .ref (W.ja i)] → Rel a H F W s → SM.Ok s → s.job i = some j → SM.isLk j.left = true → (∀ H' W', W'.cm = W.cm → Rel a H' F W' (SM.lockS s i j) → Fr H H' → Q .non H') → InLock a vs H Q
def spLock (a : Ad) : Sp := fun vs H Q _ => InLock a vs H Q
theorem nodup_filter_fst {os : List (Nat × Nat)} (h : (os.map Prod.fst).Nodup) (p : Nat × Nat → Bool) : ((os.filter p).map Prod.fst).Nodup :=
  h.sublist (List.filter_sublist.map Prod.fst)
theorem os_uniq {os : List (Nat × Nat)} (h : (os.map Prod.fst).Nodup) {l i k : Nat} (h1 : (l, i) ∈ os) (h2 : (l, k) ∈ os) : i = k := by
  have e1 := valV_own h h1
  rw [valV_own h h2] at e1
  have e1 := Option.some.inj e1
  injection e1 with e1
  lia
theorem ok_Scheduler_do_lock_step (T : Txt a K mg) : FnOk P w K mg base CX0 3 a.f_Scheduler_do_lock_step a.d_Scheduler_do_lock_step ["self", "job"] (spLock a) := by
  refine T.fn_Scheduler_do_lock_step.ok sc_Scheduler_do_lock_step (fun vs H Q E h => ?_) (fun cdv A outer s0 H vs Q E hr h => ?_)
  · obtain ⟨F, W, s, i, j, rfl, _⟩ := h
    rfl
  · obtain ⟨F, W, s, i, j, rfl, R, o, hj, hlk, q⟩ := h
    refine ⟨_, (pss_cons (ps_set (i := 2) sc_Scheduler_do_lock_step.nd rfl (Or.inl rfl) (pe_call (ok_lock_of T) (hr.mono (by decide)) rfl T.mg_lock_of T.fn_lock_of.kp T.bd_lock_of .nil pass0 (pa_cons (pe_meth0 (pv 1) T.cl_Job T.me_Job_current_step (ok_Job_current_step T) (hr.mono (by decide)) T.bd_Job_current_step .nil pass0) pa_nil)))
      (pss_one (ps_if (pt_not (pt_truth (pe_call (ok_is_take T) (hr.mono (by decide)) rfl T.mg_is_take T.fn_is_take.kp T.bd_is_take .nil pass0 (pa_cons (pe_meth0 (pv 1) T.cl_Job T.me_Job_current_step (ok_Job_current_step T) (hr.mono (by decide)) T.bd_Job_current_step .nil pass0) pa_nil)) (fun _ => rfl)))
      (pss_cons (ps_expr (pe_dpop1 (pe_fld (pv 0) rfl) (pv 2) ⟨rfl, rfl, rfl, rfl⟩))
      (pss_one (ps_expr (pe_meth (pv 0) T.cl_Scheduler T.me_Scheduler_leave_step (ok_Scheduler_leave_step T) (hr.mono (by decide)) T.bd_Scheduler_leave_step .nil pass0 (pa_cons (pv 1) pa_nil)))))
      (pss_one (ps_if (pt_cmp (pc_din (hu_of hr) (pv 2) (pe_fld (pv 0) rfl)))
      (pss_one (ps_fld (pv 1) (pv 2) rfl))
      (pss_cons (ps_dput (hu_of hr) (pe_fld (pv 0) rfl) (pv 2) (pe_fld (pv 1) rfl) rfl)
      (pss_cons (ps_fld (pv 1) pe_non rfl)
      (pss_one (ps_expr (pe_meth (pv 0) T.cl_Scheduler T.me_Scheduler_leave_step (ok_Scheduler_leave_step T) (hr.mono (by decide)) T.bd_Scheduler_leave_step .nil pass0 (pa_cons (pv 1) pa_nil))))))))))), ?_⟩
    have hi := SM.job_lt hj
    have hit : i < s.tasks.length := by rw [← o.jl]; exact hi
    obtain ⟨dj, pl, wk, hx, hL⟩ := R.jv i j hj
    obtain ⟨dp, hp⟩ := R.sch
    have hst := (R.st i hit).1
    have hjok := o.jb i j hj
    cases hleft : j.left with
    | nil => exact absurd hleft hjok.ne
    | cons x r =>
      rw [hleft] at hL
      obtain ⟨z, hz, hpl, hL', hend, hstep⟩ := hL.head
      -- lock = lock_of(job.current_step())
      refine ⟨_, rfl, W.ja i, dj, _, rfl, hx, rfl, W.ja i, dj, F.sa i, _, _, _, _, _, _, pl, F.ns i, z, rfl, hx, hst, hz, z, rfl, ?_⟩
      -- if not is_take(job.current_step())
      refine ⟨_, rfl, W.ja i, dj, _, rfl, hx, rfl, W.ja i, dj, F.sa i, _, _, _, _, _, _, pl, F.ns i, z, rfl, hx, hst, hz, z, rfl, _, rfl, ?_⟩
      have hrt := hjok.rt
      cases x with
      | work m => rw [hleft] at hlk; cases hlk
      | give l =>
        obtain ⟨hg, ht, hlock, hl16⟩ := hstep
        rw [ht]
        refine iteT ?_
        rw [hlock]
        rw [hleft, Sz17.right, Bool.and_eq_true] at hrt
        have hmem : l ∈ j.has := List.contains_iff_mem.mp hrt.1
        have hos : (l, i) ∈ W.os := (R.os l i).mpr ⟨j, hj, hmem⟩
        -- self.owners.pop(lock)
        refine fld_go (.v rfl) hp T.cl_Scheduler T.at_Scheduler_owners rfl ⟨F.od, rfl, .inl ⟨_, .inl R.od⟩, _, rfl, _, Sum.inl (l : Int), _, R.od, rfl, valV_own R.on hos, ?_⟩
        rw [drop_own]
        have R1 := R.ownW (has' := j.has.filter fun k => k != l) (os' := W.os.filter fun o => decide (o.1 ≠ l)) hj (nodup_filter_fst R.on _) (fun l' k => by
          rw [List.mem_filter]
          by_cases e : k = i
          · subst e
            rw [if_pos rfl, List.mem_filter, R.os l' k, bne_iff_ne, decide_eq_true_eq]
            constructor
            · rintro ⟨⟨j2, e2, hm⟩, hne⟩
              rw [hj] at e2
              cases e2
              exact ⟨hm, hne⟩
            · rintro ⟨hm, hne⟩
              exact ⟨⟨j, hj, hm⟩, hne⟩
          · rw [if_neg e]
            constructor
            · exact fun h => h.1
            · intro h
              refine ⟨h, decide_eq_true fun z => ?_⟩
              have z : l' = l := z
              subst z
              exact e (os_uniq R.on h hos))
        have fr1 := (Fr.refl H).dk (o := .dK (ownKV (W.os.filter fun o => decide (o.1 ≠ l)))) R.od
        generalize upd H F.od (.dK (ownKV (W.os.filter fun o => decide (o.1 ≠ l)))) = H1 at R1 fr1
        obtain ⟨dp1, hp1⟩ := R1.sch
        -- self.leave_step(job)
        refine ⟨_, rfl, F.p, dp1, _, rfl, hp1, rfl, _, rfl, F, { W with os := W.os.filter fun o => decide (o.1 ≠ l) }, s.setJob i (some { j with has := j.has.filter fun k => k != l }), i, { j with has := j.has.filter fun k => k != l }, .give l, r, rfl, R1, SM.job_setJob_same hi, hit, o.sl, hleft, fun hr0 => ?_, hjok.cm, fun H' W' hcm hja R2 fr2 => ?_⟩
        · have := hrt.2
          rw [hr0, Sz17.right] at this
          exact List.isEmpty_iff.mp this
        · refine q H' W' hcm ?_ (fr1.trans fr2)
          rw [SM.lockS_give hleft]
          rw [SM.setJob_setJob] at R2
          exact R2
      | take l =>
        obtain ⟨ht, hlock, hl16⟩ := hstep
        rw [ht]
        refine iteF ?_
        rw [hlock]
        refine PureT.ifS (PureT.b (PureE.din (.v rfl) (.fld (.v rfl) hp T.cl_Scheduler T.at_Scheduler_owners rfl) (.inl R.od))) ?_
        rw [R.owner o l]
        cases hh : Sz17.holder s l with
        | some k =>
          refine iteT ?_
          refine sFld_by (.v rfl) (.v rfl) hx T.cl_Job T.at_Job_waits_for (lt1000 (by show (8 : Nat) ≤ 20; decide)) ?_
          have R1 := R.jobW (j' := { j with waits := some l }) hj rfl hx lenJ (pl := pl) (wk := wk) (by show LeftR _ _ _ j.left; rw [hleft]; exact hL)
          refine q _ W rfl ?_ ((Fr.refl H).ins hx)
          rw [SM.lockS_wait hleft (by rw [hh]; rfl)]
          exact R1
        | none =>
          refine iteF ?_
          have hno : ∀ k, ¬ (l, k) ∈ W.os := fun k hk => by
            obtain ⟨j2, e2, hm⟩ := (R.os l k).mp hk
            rw [(SM.holder_iff o).mpr ⟨j2, e2, hm⟩] at hh
            cases hh
          have hol : (ownKV W.os).length < sizeLine := by
            unfold ownKV
            rw [List.length_map]
            have := R.os_len o
            have : (sizeLine : Nat) = 16777216 := rfl
            lia
          -- self.owners[lock] = job.number
          refine fld_go (.v rfl) hx T.cl_Job T.at_Job_number rfl (fld_go (.v rfl) hp T.cl_Scheduler T.at_Scheduler_owners rfl ⟨_, rfl, F.od, _, rfl, .inl ⟨_, Sum.inl (l : Int), R.od, rfl, hol, rfl⟩, ?_⟩)
          rw [put_own hno]
          have R1 := R.ownW (has' := l :: j.has) (os' := W.os ++ [(l, i)]) hj (by
            rw [List.map_append]
            refine List.nodup_append.mpr ⟨R.on, by simp, fun x hx y hy => ?_⟩
            have hy : y = l := List.mem_singleton.mp hy
            rw [hy]
            intro e
            subst e
            obtain ⟨⟨l', k⟩, hm, e⟩ := List.mem_map.mp hx
            have e : l' = x := e
            subst e
            exact hno k hm) (fun l' k => by
            rw [List.mem_append, List.mem_singleton]
            by_cases e : k = i
            · subst e
              rw [if_pos rfl, R.os l' k, List.mem_cons]
              constructor
              · rintro (⟨j2, e2, hm⟩ | e2)
                · rw [hj] at e2
                  cases e2
                  exact .inr hm
                · injection e2 with e2 _
                  exact .inl e2
              · rintro (e2 | hm)
                · rw [e2]; exact .inr rfl
                · exact .inl ⟨j, hj, hm⟩
            · rw [if_neg e]
              constructor
              · rintro (h | h)
                · exact h
                · injection h with _ h
                  exact absurd h e
              · exact .inl)
          have fr1 := (Fr.refl H).dk (o := .dK (ownKV (W.os ++ [(l, i)]))) R.od
          have hx1 : upd H F.od (.dK (ownKV (W.os ++ [(l, i)]))) (W.ja i) = _ := (upd_ne (ne_of hx R.od (by intro z; cases z))).trans hx
          generalize upd H F.od (.dK (ownKV (W.os ++ [(l, i)]))) = H1 at R1 fr1 hx1
          -- job.waits_for = None
          refine sFld_by .c (.v rfl) hx1 T.cl_Job T.at_Job_waits_for (lt1000 (by show (8 : Nat) ≤ 20; decide)) ?_
          have hj1 := SM.job_setJob_same (s := s) (o := some { j with has := l :: j.has }) hi
          have R2 := R1.jobW (j' := { j with has := l :: j.has, waits := none }) hj1 rfl hx1 lenJ (pl := pl) (wk := wk) (by show LeftR _ _ _ j.left; rw [hleft]; exact hL)
          have fr2 := fr1.ins (o := .ins a.c_Job dj (putF "waits_for" .non (jobF s i j (F.sa i) pl wk))) hx1
          have R2 : Rel a (upd H1 (W.ja i) (.ins a.c_Job dj (putF "waits_for" .non (jobF s i j (F.sa i) pl wk)))) F _ _ := R2
          generalize upd H1 (W.ja i) (.ins a.c_Job dj (putF "waits_for" .non (jobF s i j (F.sa i) pl wk))) = H2 at R2 fr2
          rw [SM.setJob_setJob] at R2
          obtain ⟨dp2, hp2⟩ := R2.sch
          rw [hleft, Sz17.right, Bool.and_eq_true, Bool.and_eq_true] at hrt
          have hr0 : ¬ r = [] := fun z => by
            have := hrt.2.2
            rw [z, Sz17.right] at this
            cases this
          -- self.leave_step(job)
          refine ⟨_, rfl, F.p, dp2, _, rfl, hp2, rfl, _, rfl, F, { W with os := W.os ++ [(l, i)] }, s.setJob i (some { j with has := l :: j.has, waits := none }), i, { j with has := l :: j.has, waits := none }, .take l, r, rfl, R2, SM.job_setJob_same hi, hit, o.sl, hleft, fun z => absurd z hr0, hjok.cm, fun H' W' hcm hja R3 fr3 => ?_⟩
          refine q H' W' hcm ?_ (fr2.trans fr3)
          rw [SM.lockS_take hleft hh]
          rw [SM.setJob_setJob, SM.ended_no (SM.job_setJob_same hi) hr0] at R3
          exact R3
/-! ### until somebody works -/
inductive InFind (a : Ad) (vs : List V) (H : Hp) (Q : VK) : Prop
  | mk (F : Fx) (W : Vr) (s : Sz17.St) : vs = [.ref F.p] → Rel a H F W s → SM.Ok s → (∀ H' W', W'.cm = W.cm → Rel a H' F W' (Sz17.settle 8192 s).1 → Fr H H' → Q (rV W'.ja (Sz17.settle 8192 s).2) H') → InFind a vs H Q
def spFind (a : Ad) : Sp := fun vs H Q _ => InFind a vs H Q
inductive FwInv (a : Ad) (H : Hp) (F : Fx) (W : Vr) (s : Sz17.St) (m : Nat) (σ : L2.St) (H2 : Hp) : Prop
  | mk (W2 : Vr) (u : Sz17.St) (n : Nat) : σ = [some (.ref F.p), some (rV W2.ja (Sz17.chosen u))] → Rel a H2 F W2 u → SM.Ok u → W2.cm = W.cm → m = SM.mu u → SM.mu u < n → Sz17.settle 8192 s = Sz17.settle n u → Fr H H2 → FwInv a H F W s m σ H2
theorem isLk_work {z : Int} {wk : Nat} {x : Sz17.Step} {r : List Sz17.Step} (h : stepIs z wk x) : isWork z = !SM.isLk (x :: r) := by
  cases x with
  | work m => exact h.1
  | take l => exact (SM.take_no h.1).1
  | give l => exact (SM.give_no h.1).1
theorem ok_Scheduler_find_worker (T : Txt a K mg) : FnOk P w K mg base CX0 4 a.f_Scheduler_find_worker a.d_Scheduler_find_worker ["self"] (spFind a) := by
  refine T.fn_Scheduler_find_worker.ok sc_Scheduler_find_worker (fun vs H Q E h => ?_) (fun cdv A outer s0 H vs Q E hr h => ?_)
  · obtain ⟨F, W, s, rfl, _⟩ := h
    rfl
  · obtain ⟨F, W, s, rfl, R, o, q⟩ := h
    refine ⟨_, (pss_cons (ps_set (i := 1) sc_Scheduler_find_worker.nd rfl (Or.inl rfl) (pe_meth0 (pv 0) T.cl_Scheduler T.me_Scheduler_chosen_job (ok_Scheduler_chosen_job T) (hr.mono (by decide)) T.bd_Scheduler_chosen_job .nil pass0))
      (pss_cons (ps_while PassesOwn.never (PW.pt (pw_and (pt_cmp (pc_notN (pv 1))) (pw_and1 (pt_not (pt_truth (pe_meth0 (pv 1) T.cl_Job T.me_Job_is_at_work (ok_Job_is_at_work T) (hr.mono (by decide)) T.bd_Job_is_at_work .nil pass0) (fun _ => rfl))))))
      (pss_cons (ps_expr (pe_meth (pv 0) T.cl_Scheduler T.me_Scheduler_do_lock_step (ok_Scheduler_do_lock_step T) (hr.mono (by decide)) T.bd_Scheduler_do_lock_step .nil pass0 (pa_cons (pv 1) pa_nil)))
      (pss_one (ps_set (i := 1) sc_Scheduler_find_worker.nd rfl (Or.inl rfl) (pe_meth0 (pv 0) T.cl_Scheduler T.me_Scheduler_chosen_job (ok_Scheduler_chosen_job T) (hr.mono (by decide)) T.bd_Scheduler_chosen_job .nil pass0)))))
      (pss_one (ps_ret (pv 1))))), ?_⟩
    obtain ⟨dp, hp⟩ := R.sch
    -- chosen = self.chosen_job()
    refine ⟨_, rfl, F.p, dp, _, rfl, hp, rfl, F.p, F.jd, F.od, s, W.ks, W.ja, ownKV W.os, rfl, R.view o, R.jd, o.jl, o.t32, ?_⟩
    refine ⟨FwInv a H F W s, ⟨SM.mu s, ⟨W, s, 8192, rfl, R, o, rfl, rfl, SM.mu_lt o, rfl, Fr.refl H⟩⟩, ?_⟩
    rintro m σ H2 ⟨W2, u, n, rfl, R2, ou, hcm, rfl, hmu, hset, fr2⟩
    obtain ⟨n, rfl⟩ : ∃ k, n = k + 1 := ⟨n - 1, by lia⟩
    cases hch : Sz17.chosen u with
    | none =>
      refine and_go (b := false) (c := false) (PureT.b (PureE.notNF (.v rfl))) (fun h => by cases h) (iteF ?_)
      rw [hset, SM.settle_none hch] at q
      exact ⟨_, rfl, q H2 W2 hcm R2 fr2⟩
    | some i =>
      obtain ⟨j, hj⟩ := SM.chosen_job hch
      have hit : i < u.tasks.length := (SM.chosen_lt hch).1
      obtain ⟨dj, pl, wk, hx, hL⟩ := R2.jv i j hj
      have hst := (R2.st i hit).1
      cases hleft : j.left with
      | nil => exact absurd hleft (ou.jb i j hj).ne
      | cons x r =>
        rw [hleft] at hL
        obtain ⟨z, hz, _, _, _, hstep⟩ := hL.head
        refine and_go (b := true) (c := !isWork z) (PureT.b (PureE.notNT (x := .ref (W2.ja i)) (.v rfl) ref_non)) (fun _ => PureT.not fun Q q => ⟨_, rfl, W2.ja i, dj, _, rfl, hx, rfl, W2.ja i, dj, F.sa i, _, _, _, _, _, _, pl, F.ns i, z, rfl, hx, hst, hz, _, rfl, q⟩) ?_
        rw [Bool.true_and, isLk_work (r := r) hstep, Bool.not_not, ← hleft]
        cases hlk : SM.isLk j.left with
        | false =>
          refine iteF ?_
          rw [hset] at q
          cases x with
          | work m =>
            rw [SM.settle_work hch hj hleft] at q
            exact ⟨_, rfl, q H2 W2 hcm R2 fr2⟩
          | take l => rw [hleft] at hlk; cases hlk
          | give l => rw [hleft] at hlk; cases hlk
        | true =>
          refine iteT ?_
          obtain ⟨o3, mu3, kept⟩ := SM.lockS_ok ou hch hj hlk
          obtain ⟨dp2, hp2⟩ := R2.sch
          refine ⟨FwInv a H F W s (SM.mu (SM.lockS u i j)), fun σ' H' h => ⟨_, mu3, h⟩, ?_⟩
          refine ⟨_, rfl, F.p, dp2, _, rfl, hp2, rfl, _, rfl, F, W2, u, i, j, rfl, R2, ou, hj, hlk, fun H3 W3 hcm3 R3 fr3 => ?_⟩
          obtain ⟨dp3, hp3⟩ := R3.sch
          refine ⟨_, rfl, F.p, dp3, _, rfl, hp3, rfl, F.p, F.jd, F.od, _, W3.ks, W3.ja, ownKV W3.os, rfl, R3.view o3, R3.jd, o3.jl, o3.t32, ?_⟩
          exact ⟨W3, _, n, rfl, R3, o3, hcm3.trans hcm, rfl, by lia, by rw [hset]; exact SM.settle_step hch hj hlk, fr2.trans fr3⟩
/-! ### work -/
inductive InWork (a : Ad) (vs : List V) (H : Hp) (Q : VK) : Prop
  | mk (F : Fx) (W : Vr) (s : Sz17.St) (i n m : Nat) (j : Sz17.Job) (r : List Sz17.Step) : vs = [.ref F.p, .ref (W.ja i), .int (m : Nat)] → Rel a H F W s → s.job i = some j → i < s.tasks.length → s.seen.length = s.tasks.length → j.left = .work n :: r → m ≤ n → (r = [] → j.has = []) → j.came ≤ s.now → (∀ H' W', W'.cm = W.cm → Rel a H' F W' (Sz17.ended (s.setJob i (some { j with left := if n ≤ m then r else .work (n - m) :: r })) i s.now) → Fr H H' → Q .non H') → InWork a vs H Q
def spWork (a : Ad) : Sp := fun vs H Q _ => InWork a vs H Q
theorem ok_Scheduler_work (T : Txt a K mg) : FnOk P w K mg base CX0 3 a.f_Scheduler_work a.d_Scheduler_work ["self", "worker", "ticks"] (spWork a) := by
  refine T.fn_Scheduler_work.ok sc_Scheduler_work (fun vs H Q E h => ?_) (fun cdv A outer s0 H vs Q E hr h => ?_)
  · obtain ⟨F, W, s, i, n, m, j, r, rfl, _⟩ := h
    rfl
  · obtain ⟨F, W, s, i, n, m, j, r, rfl, R, hj, hit, hsl, hleft, hmn, hhas, hcame, q⟩ := h
    refine ⟨_, (pss_cons (ps_fldaug (pv 1) (pv 2) in_add)
      (pss_one (ps_if (pt_cmpR op_eq (pe_meth0 (pv 1) T.cl_Job T.me_Job_work_left (ok_Job_work_left T) (hr.mono (by decide)) T.bd_Job_work_left .nil pass0) pe_int (nomark _))
      (pss_one (ps_expr (pe_meth (pv 0) T.cl_Scheduler T.me_Scheduler_leave_step (ok_Scheduler_leave_step T) (hr.mono (by decide)) T.bd_Scheduler_leave_step .nil pass0 (pa_cons (pv 1) pa_nil))))
      pss_nil))), ?_⟩
    have hi := SM.job_lt hj
    obtain ⟨dj, pl, wk, hx, hL⟩ := R.jv i j hj
    rw [hleft] at hL
    -- worker.worked += ticks
    refine sAug_by (.v rfl) (.v rfl) hx T.cl_Job T.at_Job_worked rfl (lt1000 (by show (8 : Nat) ≤ 20; decide)) ?_
    have hL1 := hL.worked hmn
    have R1 := R.jobW (j' := { j with left := .work (n - m) :: r }) hj rfl hx lenJ hL1
    have fr1 := (Fr.refl H).ins (o := .ins a.c_Job dj (jobF s i { j with left := .work (n - m) :: r } (F.sa i) pl (wk + m))) hx
    have e1 : (HO.ins a.c_Job dj (putF "worked" (.int ((wk : Int) + (m : Int))) (jobF s i j (F.sa i) pl wk))) = .ins a.c_Job dj (jobF s i { j with left := .work (n - m) :: r } (F.sa i) pl (wk + m)) := rfl
    rw [e1]
    have hx1 : upd H (W.ja i) (.ins a.c_Job dj (jobF s i { j with left := .work (n - m) :: r } (F.sa i) pl (wk + m))) (W.ja i) = _ := upd_same
    have hj1 := SM.job_setJob_same (s := s) (o := some { j with left := .work (n - m) :: r }) hi
    generalize upd H (W.ja i) (.ins a.c_Job dj (jobF s i { j with left := .work (n - m) :: r } (F.sa i) pl (wk + m))) = H1 at R1 fr1 hx1
    have hst := (R1.st i hit).1
    obtain ⟨z, hz, _, _, _, hstep⟩ := hL1.head
    -- if worker.work_left() == 0
    have hw : PureE (tMeth a.c_Job "work_left" (spLeft a) [] E0 (tVar 1) tNil) (L2.start ["self", "worker", "ticks"] [.ref F.p, .ref (W.ja i), .int (m : Nat)]) H1 (.int ((n - m : Nat) : Int)) := fun Q q => by
      refine ⟨_, rfl, W.ja i, dj, _, rfl, hx1, rfl, W.ja i, dj, F.sa i, _, _, _, _, _, pl, ((wk + m : Nat) : Int), F.ns i, z, rfl, hx1, hst, hz, ?_⟩
      have e : z - ((wk + m : Nat) : Int) = ((n - m : Nat) : Int) := by rw [hstep.2]; lia
      rw [e]
      exact q
    refine PureT.ifS (PureT.tt (PureE.eq hw .c rfl)) ?_
    refine ite2 (fun hc => ?_) (fun hc => ?_)
    · rw [decide_eq_true_eq, V.int.injEq] at hc
      rw [if_pos (show n ≤ m by lia)] at q
      obtain ⟨dp1, hp1⟩ := R1.sch
      refine ⟨_, rfl, F.p, dp1, _, rfl, hp1, rfl, _, rfl, F, W, _, i, _, _, r, rfl, R1, hj1, hit, hsl, rfl, hhas, hcame, fun H' W' hcm hja R2 fr2 => ?_⟩
      rw [SM.setJob_setJob] at R2
      exact q H' W' hcm R2 (fr1.trans fr2)
    · rw [decide_eq_true_eq, V.int.injEq] at hc
      rw [if_neg (show ¬ n ≤ m by lia), SM.ended_no hj1 (List.cons_ne_nil _ _)] at q
      exact q H1 W rfl R1 fr1
end
end My
namespace My
open PySem PySem.W PyProof.Rows L2 Tx Mi
def lateOf (s : Sz17.St) (k : Nat) : Nat := match s.job k with
  | some j => lateAt s k j
  | none => 0
theorem sizeL {n : Nat} (h : n ≤ 10000000) : n ≤ sizeLine := by
  have : (sizeLine : Nat) = 16777216 := rfl
  lia
section
variable {P : Program} {w : World} {K : Frag} {mg : Str → Option Value} {base : Heap} {a : Ad}
/-! ### for how many ticks there is only this -/
inductive InAlike (a : Ad) (vs : List V) (H : Hp) (Q : VK) : Prop
  | mk (F : Fx) (W : Vr) (s : Sz17.St) (w : Option Nat) (e : Nat) : vs = [.ref F.p, rV W.ja w, .int (e : Nat)] → Rel a H F W s → SM.Ok s → s.now < e → (∀ i, i < s.tasks.length → s.now < W.cm i) → (∀ k j, s.job k = some j → s.now < lateAt s k j) → (∀ i, w = some i → ∃ j n r, s.job i = some j ∧ j.left = .work n :: r) → (∀ H' (m : Nat), Same H H' → 1 ≤ m → s.now + m ≤ e → (∀ i, i < s.tasks.length → s.now + m ≤ W.cm i) → (∀ k j, s.job k = some j → s.now + m ≤ lateAt s k j) → (∀ i j n r, w = some i → s.job i = some j → j.left = .work n :: r → m ≤ n) → Q (.int (m : Nat)) H') → InAlike a vs H Q
def spAlike (a : Ad) : Sp := fun vs H Q _ => InAlike a vs H Q
theorem ok_Scheduler_ticks_alike (T : Txt a K mg) : FnOk P w K mg base CX0 3 a.f_Scheduler_ticks_alike a.d_Scheduler_ticks_alike ["self", "worker", "end"] (spAlike a) := by
  refine T.fn_Scheduler_ticks_alike.ok sc_Scheduler_ticks_alike (fun vs H Q E h => ?_) (fun cdv A outer s0 H vs Q E hr h => ?_)
  · obtain ⟨F, W, s, w, e, rfl, _⟩ := h
    rfl
  · obtain ⟨F, W, s, w, e, rfl, R, o, he, hcm, hla, hwk, q⟩ := h
    refine ⟨_, (pss_cons (ps_set (i := 3) sc_Scheduler_ticks_alike.nd rfl (Or.inl rfl) (pe_callB (cr_min rfl) (by rfl) T.n_min boot_min (pa_cons (pe_op op_cat (pe_op op_cat (pe_lst (pa_cons (pv 2) pa_nil)) (pe_lc rfl sc_Scheduler_ticks_alike.nd (pi_list (pe_fld (pv 0) rfl)) (own := [("task", 4)]) (te := tFld K (tVar 4) "comes_at") (blkOk_by (by show blkC ["self", "worker", "end", "stop", "task", "job"] (defScope s_Scheduler_ticks_alike) _ [("task", 4)] = true; decide +kernel)) (fun _ _ _ _ _ => pg_name (i := 4) sc_Scheduler_ticks_alike.nd rfl (Or.inl rfl)) (fun _ _ _ _ _ => pts_nil) (fun _ _ _ _ _ => (pe_fld (pv 4) rfl)))) (pe_lock (pe_lc rfl sc_Scheduler_ticks_alike.nd (pi_values (pe_fld (pv 0) rfl)) (own := [("job", 5)]) (te := tFld K (tVar 5) "late_at") (blkOk_by (by show blkC ["self", "worker", "end", "stop", "task", "job"] (defScope s_Scheduler_ticks_alike) _ [("job", 5)] = true; decide +kernel)) (fun _ _ _ _ _ => pg_name (i := 5) sc_Scheduler_ticks_alike.nd rfl (Or.inl rfl)) (fun _ _ _ _ _ => pts_nil) (fun _ _ _ _ _ => (pe_fld (pv 5) rfl))))) pa_nil)))
      (pss_cons (ps_if (pt_cmp (pc_isN (pv 1)))
      (pss_one (ps_ret (pe_op op_sub (pv 3) (pe_fld (pv 0) rfl))))
      pss_nil)
      (pss_one (ps_ret (pe_callB (call_min2 rfl) (by rfl) T.n_min boot_min (pa_cons (pe_op op_sub (pv 3) (pe_fld (pv 0) rfl)) (pa_cons (pe_meth0 (pv 1) T.cl_Job T.me_Job_work_left (ok_Job_work_left T) (hr.mono (by decide)) T.bd_Job_work_left .nil pass0) pa_nil))))))), ?_⟩
    have ht32 := o.t32
    have hk32 := ks_length R o
    refine ⟨_, rfl, sizeL (by show 1 ≤ 10000000; decide), fun l1 hl1 => ?_⟩
    have s1 : Same H (upd H l1 (.lst [.int (e : Nat)])) := Same.upd_new (Same.refl H) hl1
    have hl1' : upd H l1 (.lst [.int (e : Nat)]) l1 = _ := upd_same
    have R1 := R.same s1
    generalize upd H l1 (.lst [.int (e : Nat)]) = H1 at s1 hl1' R1
    obtain ⟨dp1, hp1⟩ := R1.sch
    refine lc_list_to (ys := (List.range s.tasks.length).map fun i => V.int (W.cm i : Nat)) (.fld (.v rfl) hp1 T.cl_Scheduler T.at_Scheduler_tasks rfl) (SqL.of R1.tl) (by rw [tl_len]; lia) (by rw [tl_len, List.length_map, List.length_range]) (fun j x y H2 hx hy h2 => ?_) (fun D2 H2 hD2 s2 h2 => ?_)
    · have hj : j < s.tasks.length := by
        have := (List.getElem?_eq_some_iff.mp hx).1
        rw [tl_len] at this
        exact this
      rw [tl_at hj] at hx
      rw [List.getElem?_map, List.getElem?_range hj] at hy
      cases hx
      cases hy
      obtain ⟨dt, ht⟩ := R1.tk j hj
      exact .fld (.v rfl) (h2 _ _ ht) T.cl_Task T.at_Task_comes_at rfl
    refine ⟨l1, D2, _, _, rfl, rfl, s2 _ _ hl1', h2, sizeL (by rw [List.length_map, List.length_range]; show 1 + _ ≤ _; lia), fun l3 hl3 => ?_⟩
    have s3 : Same H2 (upd H2 l3 (.lst ([.int (e : Nat)] ++ (List.range s.tasks.length).map fun i => V.int (W.cm i : Nat)))) := Same.upd_new (Same.refl H2) hl3
    have hl3' : upd H2 l3 (.lst ([.int (e : Nat)] ++ (List.range s.tasks.length).map fun i => V.int (W.cm i : Nat))) l3 = _ := upd_same
    have R3 := (R1.same s2).same s3
    have s13 := (s1.trans s2).trans s3
    generalize upd H2 l3 (.lst ([.int (e : Nat)] ++ (List.range s.tasks.length).map fun i => V.int (W.cm i : Nat))) = H3 at s3 hl3' R3 s13
    obtain ⟨dp3, hp3⟩ := R3.sch
    refine lc_vals_to (kvs := jobKV W.ks W.ja) (ys := W.ks.map fun k => V.int (lateOf s k : Nat)) R3.jd (fun H4 h4 => .fld (.v rfl) (h4 _ _ (ne_of hp3 R3.jd (by intro z; cases z)) hp3) T.cl_Scheduler T.at_Scheduler_jobs rfl) (by unfold jobKV; rw [List.length_map]; lia) (by unfold jobKV; rw [List.length_map, List.length_map]) (fun j kk x y H4 hx hy h4 => ?_) (fun D4 H4 hD4 s4 h4 => ?_)
    · obtain ⟨k, hk, rfl, rfl⟩ := jobKV_at hx
      rw [List.getElem?_map, hk] at hy
      cases hy
      obtain ⟨j2, hj2⟩ := Option.isSome_iff_exists.mp ((R3.ks k).mp (List.mem_of_getElem? hk))
      obtain ⟨dj, pl, wk, hx3, _⟩ := R3.jv k j2 hj2
      have e2 : lateOf s k = lateAt s k j2 := by unfold lateOf; rw [hj2]
      dsimp only
      rw [e2]
      exact .fld (.v rfl) (h4 _ _ (ne_of hx3 R3.jd (by intro z; cases z)) hx3) T.cl_Job T.at_Job_late_at rfl
    refine ⟨l3, D4, _, _, rfl, rfl, s4 _ _ hl3', h4, sizeL (by rw [List.length_append, List.length_map, List.length_range, List.length_map]; show 1 + _ + _ ≤ _; lia), fun l5 hl5 => ?_⟩
    have s5 : Same H4 (upd H4 l5 (.lst (([.int (e : Nat)] ++ (List.range s.tasks.length).map fun i => V.int (W.cm i : Nat)) ++ W.ks.map fun k => V.int (lateOf s k : Nat)))) := Same.upd_new (Same.refl H4) hl5
    have hl5' : upd H4 l5 (.lst (([.int (e : Nat)] ++ (List.range s.tasks.length).map fun i => V.int (W.cm i : Nat)) ++ W.ks.map fun k => V.int (lateOf s k : Nat))) l5 = _ := upd_same
    have R5 := (R3.same s4).same s5
    have s15 := (s13.trans s4).trans s5
    generalize upd H4 l5 (.lst (([.int (e : Nat)] ++ (List.range s.tasks.length).map fun i => V.int (W.cm i : Nat)) ++ W.ks.map fun k => V.int (lateOf s k : Nat))) = H5 at s5 hl5' R5 s15
    have en : ([V.int (e : Nat)] ++ (List.range s.tasks.length).map fun i => V.int (W.cm i : Nat)) ++ W.ks.map (fun k => V.int (lateOf s k : Nat)) = (([(e : Int)] ++ (List.range s.tasks.length).map fun i => (W.cm i : Int)) ++ W.ks.map fun k => (lateOf s k : Int)).map V.int := by
      rw [List.map_append, List.map_append, List.map_map, List.map_map]
      rfl
    rw [en] at hl5'
    refine ⟨l5, _, rfl, SqL.of hl5', by rw [List.length_append, List.length_append]; show 0 < 1 + _ + _; lia, fun st hst hmin => ?_⟩
    -- what the least is
    have hle : st ≤ (e : Int) := hmin _ (List.mem_append_left _ (List.mem_append_left _ List.mem_cons_self))
    have hlc : ∀ i, i < s.tasks.length → st ≤ (W.cm i : Int) := fun i hi => hmin _ (List.mem_append_left _ (List.mem_append_right _ (List.mem_map.mpr ⟨i, List.mem_range.mpr hi, rfl⟩)))
    have hll : ∀ k j, s.job k = some j → st ≤ (lateAt s k j : Int) := fun k j hj => by
      have := hmin _ (List.mem_append_right _ (List.mem_map.mpr ⟨k, (R.ks k).mpr (by rw [hj]; rfl), rfl⟩))
      unfold lateOf at this
      rw [hj] at this
      exact this
    have hgt : (s.now : Int) < st := by
      rcases List.mem_append.mp hst with h | h
      · rcases List.mem_append.mp h with h | h
        · rw [List.mem_singleton.mp h]; lia
        · obtain ⟨i, hi, rfl⟩ := List.mem_map.mp h
          have := hcm i (List.mem_range.mp hi)
          lia
      · obtain ⟨k, hk, rfl⟩ := List.mem_map.mp h
        obtain ⟨j, hj⟩ := Option.isSome_iff_exists.mp ((R.ks k).mp hk)
        have := hla k j hj
        unfold lateOf
        rw [hj]
        show (s.now : Int) < (lateAt s k j : Int)
        lia
    obtain ⟨stn, rfl⟩ : ∃ k : Nat, st = (k : Int) := ⟨st.toNat, by lia⟩
    obtain ⟨dp5, hp5⟩ := R5.sch
    cases w with
    | none =>
      refine PureT.ifT (PureT.b (PureE.isNT (.v rfl))) ?_
      refine op_go (.v rfl) (.fld (.v rfl) hp5 T.cl_Scheduler T.at_Scheduler_now rfl) ?_
      have e2 : ((stn : Int) - (s.now : Int)) = ((stn - s.now : Nat) : Int) := by lia
      rw [e2]
      exact q _ _ s15 (by lia) (by lia) (fun i hi => by have := hlc i hi; lia) (fun k j hj => by have := hll k j hj; lia) (fun i j n r hw => by cases hw)
    | some i =>
      obtain ⟨j, n, r, hj, hleft⟩ := hwk i rfl
      have hit : i < s.tasks.length := by rw [← o.jl]; exact SM.job_lt hj
      obtain ⟨dj, pl, wk, hx5, hL⟩ := R5.jv i j hj
      rw [hleft] at hL
      obtain ⟨z, hz, _, _, _, hstep⟩ := hL.head
      have hn1 := (o.at_work hj hleft).1
      refine PureT.ifF (PureT.b (PureE.isNF (x := .ref (W.ja i)) (.v rfl) ref_non)) ?_
      refine op_go (.v rfl) (.fld (.v rfl) hp5 T.cl_Scheduler T.at_Scheduler_now rfl) ?_
      refine ⟨_, rfl, W.ja i, dj, _, rfl, hx5, rfl, W.ja i, dj, F.sa i, _, _, _, _, _, pl, (wk : Int), F.ns i, z, rfl, hx5, (R5.st i hit).1, hz, _, _, rfl, ?_⟩
      have e2 : (if z - (wk : Int) < (stn : Int) - (s.now : Int) then z - (wk : Int) else (stn : Int) - (s.now : Int)) = ((min (stn - s.now) n : Nat) : Int) := by
        rw [hstep.2]
        by_cases h : (n + wk : Nat) - (wk : Int) < (stn : Int) - (s.now : Int)
        · rw [if_pos h]; lia
        · rw [if_neg h]; lia
      rw [e2]
      refine q _ _ s15 (by lia) (by lia) (fun i hi => by have := hlc i hi; lia) (fun k j hj => by have := hll k j hj; lia) (fun i' j' n' r' hw hj' hl' => ?_)
      cases hw
      rw [hj] at hj'
      cases hj'
      rw [hleft] at hl'
      cases hl'
      lia
/-! ### a run -/
structure Good (s : Sz17.St) (W : Vr) : Prop where
  ok : SM.Ok s
  nx : ∀ i, i < s.tasks.length → SM.NextAt (s.task i) s.now (W.cm i)
  le : s.now ≤ 1000000000
  no : s.now = 0 → ∀ k, s.job k = none
def ansOf (s : Sz17.St) (c : Sz17.Call) : List Int := (Sz17.does s c).2.value :: (Sz17.does s c).2.who.map fun (n : Nat) => (n : Int)
inductive InRun (a : Ad) (vs : List V) (H : Hp) (Q : VK) : Prop
  | mk (F : Fx) (W : Vr) (s : Sz17.St) (n : Int) : vs = [.ref F.p, .int n] → Rel a H F W s → Good s W → (∀ l H' W', Rel a H' F W' (Sz17.does s (.run n)).1 → Good (Sz17.does s (.run n)).1 W' → (Sz17.does s (.run n)).1.tasks = s.tasks → Fr H H' → H l = none → H' l = some (.lst ((ansOf s (.run n)).map V.int)) → Q (.ref l) H') → InRun a vs H Q
def spRun (a : Ad) : Sp := fun vs H Q _ => InRun a vs H Q
inductive RunInv (a : Ad) (H : Hp) (F : Fx) (s : Sz17.St) (N : Nat) (l : Addr) (m : Nat) (σ : L2.St) (H2 : Hp) : Prop
  | mk (W2 : Vr) (k : Nat) (u : Sz17.St) (out : List Nat) (v4 v5 : Option V) : σ = [some (.ref F.p), some (.int (N : Nat)), some (.ref l), some (.int ((s.now + N : Nat) : Int)), v4, v5] → k ≤ N → m = N - k → Sz17.ticks k s = (u, out) → Rel a H2 F W2 u → Good u W2 → u.now = s.now + k → u.tasks = s.tasks → out.length = k → Fr H H2 → H2 l = some (.lst (V.int 0 :: out.map fun (x : Nat) => V.int (x : Nat))) → RunInv a H F s N l m σ H2
theorem flat_rep (m : Nat) (v : V) : (List.replicate m [v]).flatten = List.replicate m v := by
  induction m with
  | zero => rfl
  | succ m ih => rw [List.replicate_succ, List.flatten_cons, ih, List.replicate_succ]; rfl
theorem front_ok {u : Sz17.St} (o : SM.Ok u) (hn : u.now < SM.NEVER) : SM.Ok (SM.front u) ∧ (SM.front u).now = u.now ∧ (SM.front u).tasks = u.tasks ∧ ∀ k j, (SM.front u).job k = some j → u.now < lateAt (SM.front u) k j := by
  obtain ⟨h1, h2, h3, h4⟩ := comesN_ok o u.tasks.length (Nat.le_refl _)
  have ef : SM.front u = (List.range u.tasks.length).foldl Sz17.late (comesN u u.tasks.length) := rfl
  have et : (SM.front u).tasks = u.tasks := by rw [ef, lates_tasks, h2]
  refine ⟨by rw [ef]; exact SM.Ok.lates _ h1, by rw [ef, SM.lates_now, h3], et, fun k j hj => ?_⟩
  have e3 : List.range (comesN u u.tasks.length).tasks.length = List.range u.tasks.length := by rw [h2]
  rw [ef, ← e3] at hj
  have := SM.lates_none _ h1.jl k j hj
  have hiff := isLate_at (s := comesN u u.tasks.length) (k := k) (j := j) (by rw [h3]; exact hn)
  have e2 : lateAt (SM.front u) k j = lateAt (comesN u u.tasks.length) k j := by
    unfold lateAt
    rw [task_eq (et.trans h2.symm) k]
  rw [e2]
  have hlt : ¬ lateAt (comesN u u.tasks.length) k j ≤ (comesN u u.tasks.length).now := fun z => this (hiff.mpr z)
  rw [h3] at hlt
  lia
theorem ok_Scheduler_run (T : Txt a K mg) : FnOk P w K mg base CX0 5 a.f_Scheduler_run a.d_Scheduler_run ["self", "n"] (spRun a) := by
  refine T.fn_Scheduler_run.ok sc_Scheduler_run (fun vs H Q E h => ?_) (fun cdv A outer s0 H vs Q E hr h => ?_)
  · obtain ⟨F, W, s, n, rfl, _⟩ := h
    rfl
  · obtain ⟨F, W, s, n, rfl, R, G, q⟩ := h
    obtain ⟨t_MOST_TICKS, g_MOST_TICKS⟩ := T.k_MOST_TICKS
    obtain ⟨t_MOST_TICKS_A_RUN, g_MOST_TICKS_A_RUN⟩ := T.k_MOST_TICKS_A_RUN
    obtain ⟨t_NOBODY_WORKED, g_NOBODY_WORKED⟩ := T.k_NOBODY_WORKED
    refine ⟨_, (pss_cons (ps_if (PW.pt (pw_or (pt_cmpR op_lt (pv 1) pe_int (nomark _)) (pw_or (pt_cmpR op_gt (pv 1) (pe_glob rfl g_MOST_TICKS_A_RUN relI) (nomark _)) (pw_or1 (pt_cmpR op_gt (pe_op op_add (pe_fld (pv 0) rfl) (pv 1)) (pe_glob rfl g_MOST_TICKS relI) (nomark _))))))
      (pss_one (ps_ret (pe_lst (pa_cons (pe_un un_neg pe_int) pa_nil))))
      pss_nil)
      (pss_cons (ps_set (i := 2) sc_Scheduler_run.nd rfl (Or.inl rfl) (pe_lst (pa_cons pe_int pa_nil)))
      (pss_cons (ps_set (i := 3) sc_Scheduler_run.nd rfl (Or.inl rfl) (pe_op op_add (pe_fld (pv 0) rfl) (pv 1)))
      (pss_cons (ps_while PassesOwn.never (pt_cmpR op_lt (pe_fld (pv 0) rfl) (pv 3) (nomark _))
      (pss_cons (ps_expr (pe_meth0 (pv 0) T.cl_Scheduler T.me_Scheduler_let_jobs_come (ok_Scheduler_let_jobs_come T) (hr.mono (by decide)) T.bd_Scheduler_let_jobs_come .nil pass0))
      (pss_cons (ps_expr (pe_meth0 (pv 0) T.cl_Scheduler T.me_Scheduler_tell_late (ok_Scheduler_tell_late T) (hr.mono (by decide)) T.bd_Scheduler_tell_late .nil pass0))
      (pss_cons (ps_set (i := 4) sc_Scheduler_run.nd rfl (Or.inl rfl) (pe_meth0 (pv 0) T.cl_Scheduler T.me_Scheduler_find_worker (ok_Scheduler_find_worker T) (hr.mono (by decide)) T.bd_Scheduler_find_worker .nil pass0))
      (pss_cons (ps_set (i := 5) sc_Scheduler_run.nd rfl (Or.inl rfl) (pe_meth (pv 0) T.cl_Scheduler T.me_Scheduler_ticks_alike (ok_Scheduler_ticks_alike T) (hr.mono (by decide)) T.bd_Scheduler_ticks_alike .nil pass0 (pa_cons (pv 4) (pa_cons (pv 3) pa_nil))))
      (pss_cons (ps_fldaug (pv 0) (pv 5) in_add)
      (pss_one (ps_if (pt_cmp (pc_isN (pv 4)))
      (pss_one (ps_expr (pe_bm PySem.F.plainAttrs_list PySem.F.slot_list_extend PySem.F.type_list_extend mt_extend (pv 2) (pa_cons (pe_op op_rep (pe_lst (pa_cons (pe_glob rfl g_NOBODY_WORKED relI) pa_nil)) (pv 5)) pa_nil))))
      (pss_cons (ps_expr (pe_bm PySem.F.plainAttrs_list PySem.F.slot_list_extend PySem.F.type_list_extend mt_extend (pv 2) (pa_cons (pe_op op_rep (pe_lst (pa_cons (pe_fld (pv 4) rfl) pa_nil)) (pv 5)) pa_nil)))
      (pss_one (ps_expr (pe_meth (pv 0) T.cl_Scheduler T.me_Scheduler_work (ok_Scheduler_work T) (hr.mono (by decide)) T.bd_Scheduler_work .nil pass0 (pa_cons (pv 4) (pa_cons (pv 5) pa_nil))))))))))))))
      (pss_one (ps_ret (pv 2))))))), ?_⟩
    obtain ⟨dp, hp⟩ := R.sch
    refine PureT.ifS (PureT.or (PureT.tt (PureE.op (.v rfl) .c)) fun _ => PureT.or (PureT.tt (PureE.op (.v rfl) .c)) fun _ => PureT.tt (PureE.op (PureE.op (.fld (.v rfl) hp T.cl_Scheduler T.at_Scheduler_now rfl) (.v rfl)) .c)) ?_
    refine ite2 (fun hc => ?_) (fun hc => ?_)
    · rw [Bool.or_eq_true, Bool.or_eq_true, decide_eq_true_eq, decide_eq_true_eq, decide_eq_true_eq] at hc
      have ed := SM.run_no (s := s) (n := n) (by lia)
      unfold ansOf at q
      rw [ed] at q
      refine neg_go .c ⟨sizeL (by show 1 ≤ 10000000; decide), fun l hl => q l _ W (R.same (Same.upd_new (Same.refl H) hl)) G rfl (Fr.of (Same.upd_new (Same.refl H) hl)) hl upd_same⟩
    · rw [Bool.or_eq_true, Bool.or_eq_true, decide_eq_true_eq, decide_eq_true_eq, decide_eq_true_eq] at hc
      obtain ⟨N, rfl⟩ : ∃ N : Nat, n = (N : Int) := ⟨n.toNat, by lia⟩
      have ed := SM.run_yes (s := s) (n := N) (by lia)
      unfold ansOf at q
      rw [ed] at q
      have hN : N ≤ 100000 := by lia
      have hsN : s.now + N ≤ 1000000000 := by lia
      refine ⟨sizeL (by show 1 ≤ 10000000; decide), fun l hl => ?_⟩
      have s1 : Same H (upd H l (.lst [V.int 0])) := Same.upd_new (Same.refl H) hl
      have hl1 : upd H l (.lst [V.int 0]) l = _ := upd_same
      have R1 := R.same s1
      generalize upd H l (.lst [V.int 0]) = H1 at s1 hl1 R1
      obtain ⟨dp1, hp1⟩ := R1.sch
      refine op_go (.fld (.v rfl) hp1 T.cl_Scheduler T.at_Scheduler_now rfl) (.v rfl) ?_
      have hltl : l ≠ F.tl := fun z => by rw [z, R.tl] at hl; cases hl
      have hlsa : ∀ i, i < s.tasks.length → l ≠ F.sa i := fun i hi z => by rw [z, (R.st i hi).1] at hl; cases hl
      refine ⟨RunInv a H F s N l, ⟨N, ⟨W, 0, s, [], none, none, rfl, Nat.zero_le _, rfl, rfl, R1, G, rfl, rfl, rfl, Fr.of s1, hl1⟩⟩, ?_⟩
      rintro m σ H2 ⟨W2, k, u, out, v4, v5, rfl, hkN, rfl, htk, R2, G2, hun, hut, hol, fr2, hl2⟩
      obtain ⟨dp2, hp2⟩ := R2.sch
      refine tt_go (PureE.op (.fld (.v rfl) hp2 T.cl_Scheduler T.at_Scheduler_now rfl) (.v rfl)) ?_
      refine ite2 (fun hlt => ?_) (fun hlt => ?_)
      · rw [decide_eq_true_eq] at hlt
        have hk : k < N := by lia
        have hNv : u.now + 1 < SM.NEVER := by unfold SM.NEVER; lia
        refine ⟨fun σ' H' => ∃ m', m' < N - k ∧ RunInv a H F s N l m' σ' H', fun σ' H' h => h, ?_⟩
        -- self.let_jobs_come()
        refine ⟨_, rfl, F.p, dp2, _, rfl, hp2, rfl, F, W2, u, rfl, R2, G2.ok, G2.nx, by lia, fun H3 W3 R3 hn3 fr3 => ?_⟩
        obtain ⟨dp3, hp3⟩ := R3.sch
        obtain ⟨c1, c2, c3, c4⟩ := comesN_ok G2.ok u.tasks.length (Nat.le_refl _)
        -- self.tell_late()
        refine ⟨_, rfl, F.p, dp3, _, rfl, hp3, rfl, F, W3, _, rfl, R3, c1, by rw [c3]; lia, fun H4 W4 hcm4 R4 fr4 => ?_⟩
        have ef : (List.range (comesN u u.tasks.length).tasks.length).foldl Sz17.late (comesN u u.tasks.length) = SM.front u := by rw [c2]; rfl
        rw [ef] at R4
        obtain ⟨f1, f2, f3, f4⟩ := front_ok G2.ok (by lia)
        obtain ⟨dp4, hp4⟩ := R4.sch
        -- worker = self.find_worker()
        refine ⟨_, rfl, F.p, dp4, _, rfl, hp4, rfl, F, W4, _, rfl, R4, f1, fun H5 W5 hcm5 R5 fr5 => ?_⟩
        have hset := SM.settle_facts 8192 (SM.front u) f1 (SM.mu_lt f1)
        have hpair : Sz17.settle 8192 (SM.front u) = ((Sz17.settle 8192 (SM.front u)).1, (Sz17.settle 8192 (SM.front u)).2) := rfl
        generalize (Sz17.settle 8192 (SM.front u)).1 = t at R5 hset hpair
        generalize (Sz17.settle 8192 (SM.front u)).2 = wo at hset hpair
        have tno : t.now = u.now := hset.kept.now.trans f2
        have ttk : t.tasks = u.tasks := hset.kept.tasks.trans f3
        have hcm : ∀ i, i < t.tasks.length → SM.NextAt (t.task i) (u.now + 1) (W5.cm i) := fun i hi => by
          rw [task_eq ttk i, hcm5, hcm4]
          exact hn3 i (by rw [← ttk]; exact hi)
        have hla : ∀ k j, t.job k = some j → t.now < lateAt t k j := fun k j hj => by
          obtain ⟨j0, e0, ec, el⟩ := hset.kept.job k j hj
          have := f4 k j0 e0
          have e2 : lateAt t k j = lateAt (SM.front u) k j0 := by
            unfold lateAt
            rw [task_eq (ttk.trans f3.symm) k, ec, el]
          rw [tno, e2]
          exact this
        obtain ⟨dp5, hp5⟩ := R5.sch
        -- ticks = self.ticks_alike(worker, end)
        refine ⟨_, rfl, F.p, dp5, _, rfl, hp5, rfl, _, rfl, _, rfl, F, W5, t, wo, s.now + N, rfl, R5, hset.ok, by rw [tno]; lia, fun i hi => by have := SM.next_ge (hcm i hi) hNv; rw [tno]; lia, hla, hset.wk, fun H6 m s6 hm1 hm2 hm3 hm4 hm5 => ?_⟩
        have R6 := R5.same s6
        obtain ⟨dp6, hp6⟩ := R6.sch
        -- self.now += ticks
        refine sAug_by (.v rfl) (.v rfl) hp6 T.cl_Scheduler T.at_Scheduler_now rfl (lt1000 (by show (5 : Nat) ≤ 20; decide)) ?_
        have R7 := R6.nowW (t.now + m) hp6
        have fr7 := (((((fr2.trans fr3).trans fr4).trans fr5).trans (Fr.of s6))).ins (o := .ins a.c_Scheduler dp6 (schF { t with now := t.now + m } F)) hp6
        have hl6 : H6 l = _ := s6 _ _ (fr5.fix _ _ (fr4.fix _ _ (fr3.fix _ _ hl2 rfl) rfl) rfl)
        have hl7 : upd H6 F.p (.ins a.c_Scheduler dp6 (schF { t with now := t.now + m } F)) l = _ := (upd_ne (ne_of hl6 hp6 (by intro z; cases z))).trans hl6
        have e7 : HO.ins a.c_Scheduler dp6 (putF "now" (.int ((t.now : Int) + (m : Int))) (schF t F)) = .ins a.c_Scheduler dp6 (schF { t with now := t.now + m } F) := rfl
        rw [e7]
        generalize upd H6 F.p (.ins a.c_Scheduler dp6 (schF { t with now := t.now + m } F)) = H7 at R7 fr7 hl7
        have hmN : k + m ≤ N := by lia
        have htn : t.now + m < SM.NEVER := by unfold SM.NEVER; lia
        have hquiet : SM.Quiet t (u.now + 1) (u.now + m) := by
          refine ⟨fun i hi x h1 h2 => ?_, fun i j hj hlate => ?_⟩
          · have := hm3 i hi
            rw [tno] at this
            exact SM.next_quiet (hcm i hi) h1 (by lia) (by lia)
          · have := hm4 i j hj
            rw [tno] at this
            unfold lateAt at this
            rw [hlate, if_neg Bool.false_ne_true] at this
            exact this
        have hnx : ∀ i, i < t.tasks.length → SM.NextAt (t.task i) (t.now + m) (W5.cm i) := fun i hi => by
          have := hm3 i hi
          exact SM.next_later (hcm i hi) (by lia) (by lia) htn
        have hlen : ∀ b : Nat, (V.int 0 :: out.map fun (x : Nat) => V.int (x : Nat)).length + (List.replicate m (V.int (b : Nat))).length ≤ sizeLine := fun b => sizeL (by rw [List.length_cons, List.length_map, List.length_replicate]; lia)
        -- how the turn ends
        have fin : ∀ (b : Nat) (u' : Sz17.St) (W8 : Vr) (H8 : Hp) (v4 v5 : Option V), Sz17.ticks m u = (u', List.replicate m b) → Rel a H8 F W8 u' → SM.Ok u' → W8.cm = W5.cm → u'.tasks = t.tasks → u'.now = t.now + m → Fr H H8 → H8 l = some (.lst ((V.int 0 :: out.map fun (x : Nat) => V.int (x : Nat)) ++ List.replicate m (V.int (b : Nat)))) →
            ∃ m', m' < N - k ∧ RunInv a H F s N l m' [some (.ref F.p), some (.int (N : Nat)), some (.ref l), some (.int ((s.now + N : Nat) : Int)), v4, v5] H8 := fun b u' W8 H8 v4 v5 htm R8 o8 hcm8 htk8 hno8 fr8 hl8 => by
          refine ⟨N - (k + m), by lia, ⟨W8, k + m, u', out ++ List.replicate m b, v4, v5, rfl, hmN, rfl, ?_, R8, ⟨o8, fun i hi => ?_, by lia, fun z => by lia⟩, by lia, by rw [htk8, ttk, hut], by rw [List.length_append, List.length_replicate, hol], fr8, ?_⟩⟩
          · rw [SM.ticks_add, htk]
            show ((Sz17.ticks m u).1, out ++ (Sz17.ticks m u).2) = _
            rw [htm]
          · rw [hcm8, hno8, task_eq htk8 i]
            exact hnx i (by rw [← htk8]; exact hi)
          · rw [hl8, List.map_append, List.map_replicate]
            rfl
        cases wo with
        | none =>
          refine PureT.ifT (PureT.b (PureE.isNT (.v rfl))) ?_
          -- answer.extend([NOBODY_WORKED] * ticks)
          refine ⟨_, rfl, .inl ⟨rfl, _, SqL.of hl7⟩, sizeL (by show 1 ≤ 10000000; decide), fun p1 hp1 => ⟨_, rfl, p1, (m : Int), _, rfl, rfl, upd_same, by lia, by lia, sizeL (by show 1 * (m : Int).toNat ≤ _; lia), fun p2 hp2 => ?_⟩⟩
          have t1 : Same H7 (upd H7 p1 (.lst [V.int 255])) := Same.upd_new (Same.refl H7) hp1
          have t2 := Same.upd_new (o := .lst (List.replicate (m : Int).toNat [V.int 255]).flatten) t1 hp2
          rw [show (m : Int).toNat = m from rfl, flat_rep] at *
          refine ⟨l, p2, _, _, rfl, rfl, t2 _ _ hl7, upd_same, hlen 255, ?_⟩
          have hl8 := t2 _ _ hl7
          have R8 := (R7.same t2).lst (ys := (V.int 0 :: out.map fun (x : Nat) => V.int (x : Nat)) ++ List.replicate m (V.int 255)) hl8 hltl (fun i hi => hlsa i (by rw [← hut, ← ttk]; exact hi))
          have htm := SM.seg_idle (m := m) hpair hset.ch hm1 hquiet
          rw [← tno] at htm
          exact fin 255 _ W5 _ _ _ htm R8 (hset.ok.later (Nat.le_add_right _ _)) rfl rfl rfl ((fr7.trans (Fr.of t2)).new hl) upd_same
        | some i =>
          obtain ⟨j, n, r, hj, hleft⟩ := hset.wk i rfl
          have hit : i < t.tasks.length := by rw [← hset.ok.jl]; exact SM.job_lt hj
          have hmn : m ≤ n := hm5 i j n r rfl hj hleft
          refine PureT.ifF (PureT.b (PureE.isNF (x := .ref (W5.ja i)) (.v rfl) ref_non)) ?_
          obtain ⟨dj, pl, wk, hx7, _⟩ := R7.jv i j hj
          -- answer.extend([worker.number] * ticks)
          refine ⟨_, rfl, .inl ⟨rfl, _, SqL.of hl7⟩, ?_⟩
          refine fld_go (.v rfl) hx7 T.cl_Job T.at_Job_number rfl ⟨sizeL (by show 1 ≤ 10000000; decide), fun p1 hp1 => ⟨_, rfl, p1, (m : Int), _, rfl, rfl, upd_same, by lia, by lia, sizeL (by show 1 * (m : Int).toNat ≤ _; lia), fun p2 hp2 => ?_⟩⟩
          have t1 : Same H7 (upd H7 p1 (.lst [V.int (i : Nat)])) := Same.upd_new (Same.refl H7) hp1
          have t2 := Same.upd_new (o := .lst (List.replicate (m : Int).toNat [V.int (i : Nat)]).flatten) t1 hp2
          rw [show (m : Int).toNat = m from rfl, flat_rep] at *
          refine ⟨l, p2, _, _, rfl, rfl, t2 _ _ hl7, upd_same, hlen i, ?_⟩
          have hl8 := t2 _ _ hl7
          have R8 := (R7.same t2).lst (ys := (V.int 0 :: out.map fun (x : Nat) => V.int (x : Nat)) ++ List.replicate m (V.int (i : Nat))) hl8 hltl (fun i hi => hlsa i (by rw [← hut, ← ttk]; exact hi))
          have fr8 := (fr7.trans (Fr.of t2)).new (o := .lst ((V.int 0 :: out.map fun (x : Nat) => V.int (x : Nat)) ++ List.replicate m (V.int (i : Nat)))) hl
          have hl9 : upd (upd (upd H7 p1 (.lst [V.int (i : Nat)])) p2 (.lst (List.replicate m (V.int (i : Nat))))) l (.lst ((V.int 0 :: out.map fun (x : Nat) => V.int (x : Nat)) ++ List.replicate m (V.int (i : Nat)))) l = _ := upd_same
          generalize upd (upd (upd H7 p1 (.lst [V.int (i : Nat)])) p2 (.lst (List.replicate m (V.int (i : Nat))))) l (.lst ((V.int 0 :: out.map fun (x : Nat) => V.int (x : Nat)) ++ List.replicate m (V.int (i : Nat)))) = H9 at R8 fr8 hl9
          obtain ⟨dp9, hp9⟩ := R8.sch
          -- self.work(worker, ticks)
          have hw := hset.ok.at_work hj hleft
          refine ⟨_, rfl, F.p, dp9, _, rfl, hp9, rfl, _, rfl, _, rfl, F, W5, _, i, n, m, j, r, rfl, R8, hj, hit, hset.ok.sl, hleft, hmn, hw.2, Nat.le_trans (hset.ok.jb i j hj).cm (Nat.le_add_right _ _), fun H10 W10 hcm10 R10 fr10 => ?_⟩
          have htm := SM.seg_work (m := m) hpair tno hset.ch hj hleft hm1 hmn hquiet
          have est : ({ SM.wkS t i j r n m with now := u.now + m } : Sz17.St) = Sz17.ended (({ t with now := t.now + m } : Sz17.St).setJob i (some { j with left := if n ≤ m then r else .work (n - m) :: r })) i (t.now + m) := by
            unfold SM.wkS
            rw [← SM.ended_now, tno]
            rfl
          rw [est] at htm
          have okp := (hset.ok.later (n := t.now + m) (Nat.le_add_right _ _)).wk (i := i) (n := n) (m := m) (j := j) (r := r) hj hleft hmn (t.now + m)
          have kp := (SM.Kept.setJob (s := ({ t with now := t.now + m } : Sz17.St)) hj { j with left := if n ≤ m then r else .work (n - m) :: r } rfl rfl).trans (SM.Kept.ended _ i (t.now + m))
          exact fin i _ W10 _ _ _ htm R10 okp hcm10 kp.tasks kp.now (fr8.trans fr10) (fr10.fix _ _ hl9 rfl)
      · rw [decide_eq_true_eq] at hlt
        have hk : k = N := by lia
        subst hk
        refine ⟨_, rfl, ?_⟩
        rw [htk] at q
        refine q l H2 W2 R2 G2 hut fr2 hl ?_
        rw [hl2, List.map_cons, List.map_map]
        rfl
end
end My
namespace My
open PySem PySem.W PyProof.Rows L2 Tx Mi
/-! ### helpers -/
theorem T_in {K : Frag} {tx : TE} {ta : TA} {σ : L2.St} {H : Hp} {Q : Bool → Hp → Prop} {x : Int} (ns : List Int) (h1 : PureE tx σ H (.int x)) (h2 : ∀ R : List V → Hp → Prop, R (ns.map V.int) H → ta σ H R) (hl : ns.length ≤ 100) (q : ∀ H', Same H H' → Q (decide (x ∈ ns)) H') : tTest (tOp (rIn K false) tx (tTup ta)) σ H Q :=
  h1 _ (h2 _ ⟨sizeL (by rw [List.length_map]; lia), fun t ht => ⟨t, ns.map V.int, rfl, .inr (SqT.of upd_same), rfl, flat_ints ns, _, rfl, by
    have e : (if false = true then !inV (V.int x) (ns.map V.int) else inV (V.int x) (ns.map V.int)) = decide (x ∈ ns) := inV_int x ns
    rw [e]
    exact q _ (Same.upd_new (Same.refl H) ht)⟩⟩)
theorem numT {x y : Int} (h : x = y) {A B : Prop} (q : A) : if decide (V.int x = V.int y) = true then A else B := by
  rw [decide_eq_true (by rw [h])]
  exact iteT q
theorem numF {x y : Int} (h : x ≠ y) {A B : Prop} (q : B) : if decide (V.int x = V.int y) = true then A else B := by
  rw [decide_eq_false (by rw [V.int.injEq]; exact h)]
  exact iteF q
theorem memT {x : Int} {ns : List Int} (h : x ∈ ns) {A B : Prop} (q : A) : if decide (x ∈ ns) = true then A else B := by
  rw [decide_eq_true h]
  exact iteT q
theorem memF {x : Int} {ns : List Int} (h : ¬ x ∈ ns) {A B : Prop} (q : B) : if decide (x ∈ ns) = true then A else B := by
  rw [decide_eq_false h]
  exact iteF q
theorem seq_cases {A B : TS} {D : Ends} {σ : L2.St} {H : Hp} (P : L2.St → Hp → Prop) (hB : ∀ σ' H', P σ' H' → B D σ' H') (hA : (∀ σ' H', P σ' H' → B D σ' H') → A { D with nx := B D } σ H) : tSeq A B D σ H := hA hB
theorem at_mid {α : Type} (pre c post : List α) (k : Nat) (x : α) (h : c[k]? = some x) : (pre ++ c ++ post)[pre.length + k]? = some x := by
  have hk : k < c.length := (List.getElem?_eq_some_iff.mp h).1
  rw [List.append_assoc, List.getElem?_append_right (by lia), Nat.add_sub_cancel_left, List.getElem?_append_left hk]
  exact h
open PyFlat in
/-- how many numbers a call has -/
inductive InSize (K : Frag) (vs : List V) (H : Hp) (Q : VK) : Prop
  | mk (p : Addr) (pre post : List Int) (c : List (List Int)) : vs = [.ref p, .int (pre.length : Nat)] → SqL K H p ((pre ++ put1 c ++ post).map V.int) → SM.Form c → (∀ H', Same H H' → Q (.int ((put1 c).length : Nat)) H') → InSize K vs H Q
def spSize (K : Frag) : Sp := fun vs H Q _ => InSize K vs H Q
section
variable {P : Program} {w : World} {K : Frag} {mg : Str → Option Value} {base : Heap} {a : Ad}
open PyFlat in
theorem ok_call_size (T : Txt a K mg) : FnOk P w K mg base CX0 1 a.f_call_size a.d_call_size ["calls", "place"] (spSize K) := by
  refine T.fn_call_size.ok sc_call_size (fun vs H Q E h => ?_) (fun cdv A outer s0 H vs Q E hr h => ?_)
  · obtain ⟨p, pre, post, c, rfl, _⟩ := h
    rfl
  · obtain ⟨p, pre, post, c, rfl, hp, hf, q⟩ := h
    obtain ⟨t_CLEAR, g_CLEAR⟩ := T.k_CLEAR
    obtain ⟨t_NOW, g_NOW⟩ := T.k_NOW
    obtain ⟨t_ORDER, g_ORDER⟩ := T.k_ORDER
    obtain ⟨t_RUN, g_RUN⟩ := T.k_RUN
    obtain ⟨t_STATE, g_STATE⟩ := T.k_STATE
    obtain ⟨t_OWNER, g_OWNER⟩ := T.k_OWNER
    obtain ⟨t_KNOWN, g_KNOWN⟩ := T.k_KNOWN
    obtain ⟨t_TASK, g_TASK⟩ := T.k_TASK
    obtain ⟨t_TASK_HEAD, g_TASK_HEAD⟩ := T.k_TASK_HEAD
    refine ⟨_, (pss_cons (ps_set (i := 2) sc_call_size.nd rfl (Or.inl rfl) (pe_ix ix_list (pv 0) (pv 1) (fun _ _ => rfl)))
      (pss_cons (ps_if (pt_cmpR op_in_seq (pv 2) (pe_tup (pa_cons (pe_glob rfl g_CLEAR relI) (pa_cons (pe_glob rfl g_NOW relI) pa_nil))) (by with_unfolding_all rfl))
      (pss_one (ps_ret pe_int))
      pss_nil)
      (pss_cons (ps_if (pt_cmpR op_in_seq (pv 2) (pe_tup (pa_cons (pe_glob rfl g_ORDER relI) (pa_cons (pe_glob rfl g_RUN relI) (pa_cons (pe_glob rfl g_STATE relI) (pa_cons (pe_glob rfl g_OWNER relI) pa_nil))))) (by with_unfolding_all rfl))
      (pss_one (ps_ret pe_int))
      pss_nil)
      (pss_cons (ps_if (pt_cmpR op_eq (pv 2) (pe_glob rfl g_KNOWN relI) (nomark _))
      (pss_one (ps_ret pe_int))
      pss_nil)
      (pss_cons (ps_if (pt_cmpR op_eq (pv 2) (pe_glob rfl g_TASK relI) (nomark _))
      (pss_one (ps_ret (pe_op op_add (pe_glob rfl g_TASK_HEAD relI) (pe_ix ix_list (pv 0) (pe_op op_sub (pe_op op_add (pv 1) (pe_glob rfl g_TASK_HEAD relI)) pe_int) (fun _ _ => rfl)))))
      pss_nil)
      pss_never))))), ?_⟩
    have key : ∀ (k : Nat) (x : Int), (put1 c)[k]? = some x → ((pre ++ put1 c ++ post).map V.int)[pre.length + k]? = some (.int x) := fun k x h => by
      rw [List.getElem?_map, at_mid pre (put1 c) post k x h]
      rfl
    have g1 : ∀ (σ : L2.St) (H2 : Hp) (x : Int) (Q : Bool → Hp → Prop), PureE (tVar 2) σ H2 (.int x) → (∀ H', Same H2 H' → Q (decide (x ∈ ([1, 5] : List Int))) H') → tTest (tOp (rIn K false) (tVar 2) (tTup (tCons (tC (.int 1)) (tCons (tC (.int 5)) tNil)))) σ H2 Q := fun σ H2 x Q h q => T_in [1, 5] h (fun R h => h) (by decide) q
    have g2 : ∀ (σ : L2.St) (H2 : Hp) (x : Int) (Q : Bool → Hp → Prop), PureE (tVar 2) σ H2 (.int x) → (∀ H', Same H2 H' → Q (decide (x ∈ ([2, 4, 7, 8] : List Int))) H') → tTest (tOp (rIn K false) (tVar 2) (tTup (tCons (tC (.int 2)) (tCons (tC (.int 4)) (tCons (tC (.int 7)) (tCons (tC (.int 8)) tNil)))))) σ H2 Q := fun σ H2 x Q h q => T_in [2, 4, 7, 8] h (fun R h => h) (by decide) q
    -- by the call's number
    have go : ∀ (x : Int), (put1 c)[0]? = some x → PureE (tOp (rIxL K) (tVar 0) (tVar 1)) (L2.start ["calls", "place", "number"] [.ref p, .int (pre.length : Nat)]) H (.int x) := fun x hx =>
      PureE.ix (i := pre.length) (.v rfl) (.v rfl) hp (key 0 x hx)
    cases hf with
    | clear =>
      refine go 1 rfl _ ?_
      dsimp only [gName, tNext, tSeq, tIfS]
      refine g1 _ _ 1 _ (.v rfl) fun H1 s1 => ?_
      exact memT (by decide) (q _ s1)
    | now =>
      refine go 5 rfl _ ?_
      dsimp only [gName, tNext, tSeq, tIfS]
      refine g1 _ _ 5 _ (.v rfl) fun H1 s1 => ?_
      exact memT (by decide) (q _ s1)
    | order b =>
      refine go 2 rfl _ ?_
      dsimp only [gName, tNext, tSeq, tIfS]
      refine g1 _ _ 2 _ (.v rfl) fun H1 s1 => ?_
      refine memF (by decide) ?_
      try dsimp only [gName, tNext, tSeq, tIfS]
      refine g2 _ _ 2 _ (.v rfl) fun H2 s2 => ?_
      exact memT (by decide) (q _ (s1.trans s2))
    | run n hn =>
      refine go 4 rfl _ ?_
      dsimp only [gName, tNext, tSeq, tIfS]
      refine g1 _ _ 4 _ (.v rfl) fun H1 s1 => ?_
      refine memF (by decide) ?_
      try dsimp only [gName, tNext, tSeq, tIfS]
      refine g2 _ _ 4 _ (.v rfl) fun H2 s2 => ?_
      exact memT (by decide) (q _ (s1.trans s2))
    | state i =>
      refine go 7 rfl _ ?_
      dsimp only [gName, tNext, tSeq, tIfS]
      refine g1 _ _ 7 _ (.v rfl) fun H1 s1 => ?_
      refine memF (by decide) ?_
      try dsimp only [gName, tNext, tSeq, tIfS]
      refine g2 _ _ 7 _ (.v rfl) fun H2 s2 => ?_
      exact memT (by decide) (q _ (s1.trans s2))
    | owner l =>
      refine go 8 rfl _ ?_
      dsimp only [gName, tNext, tSeq, tIfS]
      refine g1 _ _ 8 _ (.v rfl) fun H1 s1 => ?_
      refine memF (by decide) ?_
      try dsimp only [gName, tNext, tSeq, tIfS]
      refine g2 _ _ 8 _ (.v rfl) fun H2 s2 => ?_
      exact memT (by decide) (q _ (s1.trans s2))
    | known i w =>
      refine go 6 rfl _ ?_
      dsimp only [gName, tNext, tSeq, tIfS]
      refine g1 _ _ 6 _ (.v rfl) fun H1 s1 => ?_
      refine memF (by decide) ?_
      try dsimp only [gName, tNext, tSeq, tIfS]
      refine g2 _ _ 6 _ (.v rfl) fun H2 s2 => ?_
      refine memF (by decide) ?_
      try dsimp only [gName, tNext, tSeq, tIfS]
      exact tt_go (PureE.eq (x := .int 6) (y := .int 6) (.v rfl) .c rfl) (numT rfl (q _ (s1.trans s2)))
    | task f pe d r st h64 hst =>
      refine go 3 rfl _ ?_
      dsimp only [gName, tNext, tSeq, tIfS]
      refine g1 _ _ 3 _ (.v rfl) fun H1 s1 => ?_
      refine memF (by decide) ?_
      try dsimp only [gName, tNext, tSeq, tIfS]
      refine g2 _ _ 3 _ (.v rfl) fun H2 s2 => ?_
      refine memF (by decide) ?_
      try dsimp only [gName, tNext, tSeq, tIfS]
      refine tt_go (PureE.eq (x := .int 3) (y := .int 6) (.v rfl) .c rfl) (numF (by decide) ?_)
      try dsimp only [gName, tNext, tSeq, tIfS]
      refine tt_go (PureE.eq (x := .int 3) (y := .int 3) (.v rfl) .c rfl) (numT rfl ?_)
      have hp2 := (s1.trans s2).seq hp
      have hk := key 5 (st.length : Int) rfl
      have ei : PureE (tOp (rI0 fun i j => .int (i - j)) (tOp (rI0 fun i j => .int (i + j)) (tVar 1) (tC (.int 6))) (tC (.int 1))) ((L2.start ["calls", "place", "number"] [.ref p, .int (pre.length : Nat)]).set 2 (some (.int 3))) H2 (.int ((pre.length + 5 : Nat) : Int)) := fun Q q => by
        refine op_go (PureE.op (.v rfl) .c) .c ?_
        have e : (pre.length : Int) + 6 - 1 = ((pre.length + 5 : Nat) : Int) := by lia
        rw [e]
        exact q
      refine ix_go (.v rfl) ei hp2 hk ⟨6, (st.length : Int), rfl, rfl, ?_⟩
      have e : (6 : Int) + (st.length : Int) = ((put1 [[3, f, pe, d, r], st]).length : Nat) := by
        show (6 : Int) + (st.length : Int) = (([3, f, pe, d, r] ++ (((st.length : Int) :: st) ++ [])).length : Nat)
        rw [List.append_nil, List.length_append, List.length_cons]
        show _ = ((5 + (st.length + 1) : Nat) : Int)
        lia
      show Q (V.int ((6 : Int) + (st.length : Int))) H2
      rw [e]
      exact q _ (s1.trans s2)
/-! ### another task -/
theorem okAddT {s : Sz17.St} (o : SM.Ok s) {t : Sz17.Doing} (ht : SM.TOk t) (hn : ¬ s.tasks.length = 32) : SM.Ok (addT s t) := by
  have et : ∀ k, k < s.tasks.length → (addT s t).task k = s.task k := fun k hk => task_append s t _ _ k hk
  refine ⟨?_, ?_, ?_, fun x hx => ?_, fun i j e => ?_, fun i j k q l e1 e2 => ?_⟩
  · show (s.jobs ++ [none]).length = (s.tasks ++ [t]).length
    rw [List.length_append, List.length_append, o.jl]
    rfl
  · show (s.seen ++ [_]).length = (s.tasks ++ [t]).length
    rw [List.length_append, List.length_append, o.sl]
    rfl
  · show (s.tasks ++ [t]).length ≤ 32
    rw [List.length_append]
    have := o.t32
    show s.tasks.length + 1 ≤ 32
    lia
  · have hx : x ∈ s.tasks ++ [t] := hx
    rcases List.mem_append.mp hx with hx | hx
    · exact o.tk x hx
    · rw [List.mem_singleton.mp hx]; exact ht
  · rw [job_addT] at e
    obtain ⟨A, B, C, D, E, G⟩ := o.jb i j e
    exact ⟨A, B, C, D, E, by rw [et i (by rw [← o.jl]; exact SM.job_lt e)]; exact G⟩
  · rw [job_addT] at e1 e2
    exact o.lk i j k q l e1 e2
def taskC (f p d r : Int) (ns : List Int) : Sz17.Call := .task f p d r (ns.map Int.toNat) (ns.length : Nat)
inductive InAdd (a : Ad) (vs : List V) (H : Hp) (Q : VK) : Prop
  | mk (F : Fx) (W : Vr) (s : Sz17.St) (f p d r : Int) (l : Addr) (ns : List Int) : vs = [.ref F.p, .int f, .int p, .int d, .int r, .ref l] → Rel a H F W s → Good s W → H l = some (.lst (ns.map V.int)) → l ≠ F.tl → ns.length ≤ 64 → (∀ H' F' W', Rel a H' F' W' (Sz17.does s (taskC f p d r ns)).1 → Good (Sz17.does s (taskC f p d r ns)).1 W' → F'.p = F.p → F'.tl = F.tl → (∀ i, i < (Sz17.does s (taskC f p d r ns)).1.tasks.length → F'.sa i = l ∨ ∃ k, k < s.tasks.length ∧ F'.sa i = F.sa k) → (∀ b u, H b = some u → isFix u = true → b ≠ F.tl → H' b = some u) → (∀ b, H' b = none → H b = none) → Q (.int (val s (taskC f p d r ns))) H') → InAdd a vs H Q
def spAdd (a : Ad) : Sp := fun vs H Q _ => InAdd a vs H Q
theorem ok_Scheduler_add_task (T : Txt a K mg) : FnOk P w K mg base CX0 6 a.f_Scheduler_add_task a.d_Scheduler_add_task ["self", "first", "period", "deadline", "rank", "steps"] (spAdd a) := by
  refine T.fn_Scheduler_add_task.ok sc_Scheduler_add_task (fun vs H Q E h => ?_) (fun cdv A outer s0 H vs Q E hr h => ?_)
  · obtain ⟨F, W, s, f, p, d, r, l, ns, rfl, _⟩ := h
    rfl
  · obtain ⟨F, W, s, f, p, d, r, l, ns, rfl, R, G, hl, hltl, h64, q⟩ := h
    obtain ⟨t_MOST_TASKS, g_MOST_TASKS⟩ := T.k_MOST_TASKS
    refine ⟨_, (pss_cons (ps_if (pt_cmpR op_gt (pe_fld (pv 0) rfl) pe_int (nomark _))
      (pss_one (ps_ret (pe_un un_neg pe_int)))
      pss_nil)
      (pss_cons (ps_if (pt_cmpR op_eq (pe_callB call_len_seq (by rfl) T.n_len boot_len (pa_cons (pe_fld (pv 0) rfl) pa_nil)) (pe_glob rfl g_MOST_TASKS relI) (nomark _))
      (pss_one (ps_ret (pe_un un_neg pe_int)))
      pss_nil)
      (pss_cons (ps_if (pt_not (pt_truth (pe_call (ok_task_is_right T) (hr.mono (by decide)) rfl T.mg_task_is_right T.fn_task_is_right.kp T.bd_task_is_right .nil pass0 (pa_cons (pv 1) (pa_cons (pv 2) (pa_cons (pv 3) (pa_cons (pv 4) (pa_cons (pv 5) pa_nil)))))) (fun _ => rfl)))
      (pss_one (ps_ret (pe_un un_neg pe_int)))
      pss_nil)
      (pss_cons (ps_expr (pe_bm PySem.F.plainAttrs_list PySem.F.slot_list_append PySem.F.type_list_append mt_append (pe_fld (pv 0) rfl) (pa_cons (pe_make T.mk_Task (ok_Task_init T) (hr.mono (by decide)) rfl T.mg_Task T.bd_Task_init .nil pass0 (pa_cons (pv 1) (pa_cons (pv 2) (pa_cons (pv 3) (pa_cons (pv 4) (pa_cons (pv 5) pa_nil)))))) pa_nil)))
      (pss_one (ps_ret (pe_op op_sub (pe_callB call_len_seq (by rfl) T.n_len boot_len (pa_cons (pe_fld (pv 0) rfl) pa_nil)) pe_int))))))), ?_⟩
    obtain ⟨dp, hp⟩ := R.sch
    unfold val at q
    -- where nothing changes
    have stay : ∀ (v : Int), Sz17.does s (taskC f p d r ns) = (s, Sz17.only v) → ∀ H', Same H H' → Q (.int v) H' := fun v e H' sm => by
      rw [e] at q
      exact q H' F W (R.same sm) G rfl rfl (fun i hi => .inr ⟨i, hi, rfl⟩) (fun b u e _ _ => sm b u e) (dom_of sm)
    refine PureT.ifS (PureT.tt (PureE.op (.fld (.v rfl) hp T.cl_Scheduler T.at_Scheduler_now rfl) .c)) ?_
    refine ite2 (fun hc => ?_) (fun hc => ?_)
    · rw [decide_eq_true_eq] at hc
      exact neg_go .c (stay (-1) (SM.task_now (by lia)) H (Same.refl H))
    · rw [decide_eq_true_eq] at hc
      have h0 : s.now = 0 := by lia
      refine PureT.ifS (PureT.tt (PureE.eq (PureE.lenL (.fld (.v rfl) hp T.cl_Scheduler T.at_Scheduler_tasks rfl) (.inl (SqL.of R.tl))) .c rfl)) ?_
      refine ite2 (fun hc => ?_) (fun hc => ?_)
      · rw [decide_eq_true_eq, V.int.injEq, tl_len] at hc
        exact neg_go .c (stay (-2) (SM.task_full h0 (by lia)) H (Same.refl H))
      · rw [decide_eq_true_eq, V.int.injEq, tl_len] at hc
        have h1 : ¬ s.tasks.length = 32 := by lia
        refine ⟨_, rfl, _, rfl, _, rfl, _, rfl, _, rfl, f, p, d, r, l, ns, rfl, SqL.of hl, by lia, fun H1 s1 => ⟨_, rfl, ?_⟩⟩
        cases ht : taskR f p d r ns with
        | false => exact iteT (neg_go .c (stay (-3) (SM.task_no h0 h1 ht) H1 s1))
        | true =>
          refine iteF ?_
          obtain ⟨st, hread, htok, hpos, hdoes⟩ := SM.task_yes (s := s) h0 h1 ht
          have R1 := R.same s1
          obtain ⟨dp1, hp1⟩ := R1.sch
          refine ⟨_, rfl, _, _, _, _, _, rfl, hp1, T.cl_Scheduler, T.at_Scheduler_tasks, rfl, .inl ⟨rfl, _, SqL.of R1.tl⟩, _, rfl, _, rfl, _, rfl, _, rfl, _, rfl, fun x dx nx ndx ne => ⟨x, dx, _, _, _, _, _, rfl, upd_same, rfl, ?_⟩⟩
          rw [upd_upd]
          have s2 : Same H1 (upd (upd H1 dx (.own x)) x (.ins a.c_Task dx (fl_Task (.int p) (.int d) (.int r) (.ref l) (.int f) (.int ((0 : Nat) : Int)) (.int ((0 : Nat) : Int)) (.int ((0 : Nat) : Int)) (.int ((0 : Nat) : Int))))) := Same.upd_old (Same.upd_new (Same.refl H1) ndx) nx
          have hx2 : upd (upd H1 dx (.own x)) x (.ins a.c_Task dx (fl_Task (.int p) (.int d) (.int r) (.ref l) (.int f) (.int ((0 : Nat) : Int)) (.int ((0 : Nat) : Int)) (.int ((0 : Nat) : Int)) (.int ((0 : Nat) : Int)))) x = _ := upd_same
          have hnt : ∀ i, i < s.tasks.length → F.ta i ≠ x := fun i hi => by
            obtain ⟨dt, ht⟩ := R1.tk i hi
            exact ne_of_none ht nx
          generalize upd (upd H1 dx (.own x)) x (.ins a.c_Task dx (fl_Task (.int p) (.int d) (.int r) (.ref l) (.int f) (.int ((0 : Nat) : Int)) (.int ((0 : Nat) : Int)) (.int ((0 : Nat) : Int)) (.int ((0 : Nat) : Int)))) = H2 at s2 hx2
          have R2 := R1.same s2
          have hx2' : H2 x = some (.ins a.c_Task dx (taskF ⟨f.toNat, p.toNat, d.toNat, r.toNat, st⟩ ⟨0, 0, 0, 0⟩ l f.toNat)) := by
            rw [hx2]
            unfold taskF
            show _ = some (HO.ins a.c_Task dx (fl_Task (.int (p.toNat : Int)) (.int (d.toNat : Int)) (.int (r.toNat : Int)) (.ref l) (.int (f.toNat : Int)) (.int ((0 : Nat) : Int)) (.int ((0 : Nat) : Int)) (.int ((0 : Nat) : Int)) (.int ((0 : Nat) : Int))))
            rw [Int.toNat_of_nonneg hpos.1, Int.toNat_of_nonneg hpos.2.1, Int.toNat_of_nonneg hpos.2.2.1, Int.toNat_of_nonneg hpos.2.2.2]
          have hl2 := s2 _ _ (s1 _ _ hl)
          have hlen : ((List.range s.tasks.length).map fun i => V.ref (F.ta i)).length < sizeLine := by
            rw [tl_len]
            have := G.ok.t32
            have : (sizeLine : Nat) = 16777216 := rfl
            lia
          refine ⟨F.tl, _, _, rfl, rfl, R2.tl, hlen, ?_⟩
          have R3 := R2.addTask G.ok (t := ⟨f.toNat, p.toNat, d.toNat, r.toNat, st⟩) hx2' hl2 hread hltl hnt
          have hd : Sz17.does s (taskC f p d r ns) = (addT s ⟨f.toNat, p.toNat, d.toNat, r.toNat, st⟩, Sz17.only s.tasks.length) := hdoes
          rw [hd] at q
          have ho := okAddT G.ok htok h1
          have hno : (addT s ⟨f.toNat, p.toNat, d.toNat, r.toNat, st⟩).now = 0 := h0
          have hlen3 : (addT s ⟨f.toNat, p.toNat, d.toNat, r.toNat, st⟩).tasks.length = s.tasks.length + 1 := by
            show (s.tasks ++ [_]).length = _
            rw [List.length_append]
            rfl
          obtain ⟨dp3, hp3⟩ := R3.sch
          have hG : Good (addT s ⟨f.toNat, p.toNat, d.toNat, r.toNat, st⟩) { W with cm := setAt W.cm s.tasks.length f.toNat } := by
            refine ⟨ho, fun i hi => ?_, by lia, fun _ k => ?_⟩
            · rw [hno]
              rw [hlen3] at hi
              show SM.NextAt _ 0 (setAt W.cm s.tasks.length f.toNat i)
              by_cases e : i = s.tasks.length
              · subst e
                rw [setAt_same]
                have := task_last s ⟨f.toNat, p.toNat, d.toNat, r.toNat, st⟩ (s.jobs ++ [none]) (s.seen ++ [⟨0, 0, 0, 0⟩])
                have e2 : (addT s ⟨f.toNat, p.toNat, d.toNat, r.toNat, st⟩).task s.tasks.length = ⟨f.toNat, p.toNat, d.toNat, r.toNat, st⟩ := this
                rw [e2]
                exact SM.next_start _
              · have hi' : i < s.tasks.length := by lia
                rw [setAt_ne e]
                have e2 : (addT s ⟨f.toNat, p.toNat, d.toNat, r.toNat, st⟩).task i = s.task i := task_append s _ _ _ i hi'
                rw [e2, ← h0]
                exact G.nx i hi'
            · rw [job_addT]
              exact G.no h0 k
          refine op_go (PureE.lenL (.fld (.v rfl) hp3 T.cl_Scheduler T.at_Scheduler_tasks rfl) (.inl (SqL.of upd_same))) .c ?_
          have ev : ((((List.range s.tasks.length).map fun i => V.ref (F.ta i)) ++ [V.ref x]).length : Int) - 1 = (s.tasks.length : Int) := by
            rw [List.length_append, tl_len]
            show ((s.tasks.length + 1 : Nat) : Int) - 1 = _
            lia
          rw [ev]
          refine q _ _ _ R3 hG rfl rfl (fun i hi => ?_) (fun b u e _ hb => ?_) (dom_upd (dom_of (s1.trans s2)))
          · have hi : i < (addT s ⟨f.toNat, p.toNat, d.toNat, r.toNat, st⟩).tasks.length := hi
            rw [hlen3] at hi
            show setAt F.sa s.tasks.length l i = l ∨ _
            by_cases e : i = s.tasks.length
            · left; rw [e, setAt_same]
            · right
              exact ⟨i, by lia, setAt_ne e⟩
          · rw [upd_ne hb]
            exact s2 _ _ (s1 _ _ e)
end
end My
namespace My
open PySem PySem.W PyProof.Rows L2 Tx Mi PyFlat
/-! ### a call, by its numbers -/
def stepC (s : Sz17.St) (c : List (List Int)) : Sz17.St × List Int := Sz17Neutral.step s (PySz17.whole c)
theorem step_clear (s : Sz17.St) : stepC s [[1]] = (Sz17.blank, [0]) := rfl
theorem step_order (s : Sz17.St) (b : Int) : stepC s [[2, b]] = ((Sz17.does s (.order b)).1, ansOf s (.order b)) := rfl
theorem step_task (s : Sz17.St) (f p d r : Int) (st : List Int) : stepC s [[3, f, p, d, r], st] = ((Sz17.does s (taskC f p d r st)).1, ansOf s (taskC f p d r st)) := rfl
theorem step_run (s : Sz17.St) (n : Int) : stepC s [[4, n]] = ((Sz17.does s (.run n)).1, ansOf s (.run n)) := rfl
theorem step_now (s : Sz17.St) : stepC s [[5]] = (s, [(s.now : Int)]) := rfl
theorem step_known (s : Sz17.St) (i w : Int) : stepC s [[6, i, w]] = ((Sz17.does s (.known i w)).1, ansOf s (.known i w)) := rfl
theorem step_state (s : Sz17.St) (i : Int) : stepC s [[7, i]] = ((Sz17.does s (.state i)).1, ansOf s (.state i)) := rfl
theorem step_owner (s : Sz17.St) (l : Int) : stepC s [[8, l]] = ((Sz17.does s (.owner l)).1, ansOf s (.owner l)) := rfl
theorem ans_one {s : Sz17.St} {c : Sz17.Call} (h : (Sz17.does s c).2.who = []) : ansOf s c = [val s c] := by
  unfold ansOf val
  rw [h]
  rfl
theorem who_order (s : Sz17.St) (b : Int) : (Sz17.does s (.order b)).2.who = [] := by
  unfold Sz17.does
  dsimp only
  split <;> rfl
theorem who_known (s : Sz17.St) (i w : Int) : (Sz17.does s (.known i w)).2.who = [] ∧ (Sz17.does s (.known i w)).1 = s := by
  unfold Sz17.does
  dsimp only
  split <;> exact ⟨rfl, rfl⟩
theorem who_state (s : Sz17.St) (i : Int) : (Sz17.does s (.state i)).2.who = [] ∧ (Sz17.does s (.state i)).1 = s := by
  unfold Sz17.does
  dsimp only
  split <;> exact ⟨rfl, rfl⟩
theorem who_owner (s : Sz17.St) (i : Int) : (Sz17.does s (.owner i)).2.who = [] ∧ (Sz17.does s (.owner i)).1 = s := by
  unfold Sz17.does
  dsimp only
  split <;> exact ⟨rfl, rfl⟩
theorem who_task (s : Sz17.St) (f p d r : Int) (ns : List Int) : (Sz17.does s (taskC f p d r ns)).2.who = [] := by
  by_cases h0 : s.now = 0
  · by_cases h1 : s.tasks.length = 32
    · have := SM.task_full (f := f) (p := p) (d := d) (r := r) (n := (ns.length : Nat)) (l := ns.map Int.toNat) h0 h1
      unfold taskC
      rw [this]
      rfl
    · cases ht : taskR f p d r ns with
      | false => unfold taskC; rw [SM.task_no h0 h1 ht]; rfl
      | true =>
        obtain ⟨st, _, _, _, hd⟩ := SM.task_yes h0 h1 ht
        unfold taskC
        rw [hd]
        rfl
  · have := SM.task_now (f := f) (p := p) (d := d) (r := r) (n := (ns.length : Nat)) (l := ns.map Int.toNat) h0
    unfold taskC
    rw [this]
    rfl
theorem ticks_len : ∀ (n : Nat) (s : Sz17.St), (Sz17.ticks n s).2.length = n
  | 0, _ => rfl
  | n + 1, s => by
    show (_ :: (Sz17.ticks n (Sz17.tick s).1).2).length = _
    rw [List.length_cons, ticks_len n]
theorem run_len {s : Sz17.St} {n : Int} (h : n ≤ 2000 ∨ 100000 < n) : (ansOf s (.run n)).length ≤ 2001 := by
  unfold ansOf
  by_cases hc : n < 0 ∨ 100000 < n ∨ (1000000000 : Int) < s.now + n
  · rw [SM.run_no hc]
    show 1 ≤ 2001
    decide
  · obtain ⟨N, rfl⟩ : ∃ N : Nat, n = (N : Int) := ⟨n.toNat, by lia⟩
    rw [SM.run_yes hc]
    show (_ :: ((Sz17.ticks N s).2.map _)).length ≤ 2001
    rw [List.length_cons, List.length_map, ticks_len]
    lia
inductive InCall (a : Ad) (vs : List V) (H : Hp) (Q : VK) : Prop
  | mk (F : Fx) (W : Vr) (s : Sz17.St) (c : List (List Int)) (p : Addr) : vs = [.ref F.p, .ref p] → Rel a H F W s → Good s W → H p = some (.lst ((put1 c).map V.int)) → SM.Form c → (c = [[1]] → s = Sz17.blank) → (∀ l H' F' W', Rel a H' F' W' (stepC s c).1 → Good (stepC s c).1 W' → F'.p = F.p → F'.tl = F.tl → (∀ i, i < (stepC s c).1.tasks.length → H (F'.sa i) = none ∨ ∃ k, k < s.tasks.length ∧ F'.sa i = F.sa k) → (∀ b u, H b = some u → isFix u = true → b ≠ F.tl → H' b = some u) → (∀ b, H' b = none → H b = none) → H l = none → H' l = some (.lst ((stepC s c).2.map V.int)) → (stepC s c).2.length ≤ 2001 → Q (.ref l) H') → InCall a vs H Q
def spCall (a : Ad) : Sp := fun vs H Q _ => InCall a vs H Q
theorem seq_go {t u : TS} {D : Ends} {σ : L2.St} {H : Hp} (h : t { D with nx := u D } σ H) : tSeq t u D σ H := h
theorem asg_go {te : TE} {g : TG} {D : Ends} {σ : L2.St} {H : Hp} (h : te σ H fun x H1 => g x σ H1 D.nx) : tAsg te g D σ H := h
theorem skipN {t u r : TS} {D : Ends} {σ : L2.St} {H : Hp} {x y : Int} (h : σ[2]? = some (some (.int x))) (e : x ≠ y) (q : u { D with nx := r D } σ H) : tSeq (tIfS (tTest (tOp rEq (tVar 2) (tC (.int y)))) t u) r D σ H := PureT.ifS (PureT.tt (PureE.eq (.v h) .c rfl)) (numF e q)
theorem hitN {t u r : TS} {D : Ends} {σ : L2.St} {H : Hp} {x : Int} (h : σ[2]? = some (some (.int x))) (q : t { D with nx := r D } σ H) : tSeq (tIfS (tTest (tOp rEq (tVar 2) (tC (.int x)))) t u) r D σ H := PureT.ifS (PureT.tt (PureE.eq (.v h) .c rfl)) (numT rfl q)
theorem cut_tail (xs : List V) (k : Nat) (h : k ≤ xs.length) : cutV xs (some (k : Int)) none = xs.drop k := by
  unfold cutV
  rw [HT.sIx_nat, HT.sIx_none, Nat.min_eq_left h]
  exact List.take_of_length_le (by rw [List.length_drop]; exact Nat.le_refl _)
theorem cut_mid (pre c post : List V) : cutV (pre ++ c ++ post) (some (pre.length : Int)) (some ((pre.length : Int) + (c.length : Int))) = c := by
  unfold cutV
  have e : (pre.length : Int) + (c.length : Int) = ((pre.length + c.length : Nat) : Int) := by lia
  have hl : (pre ++ c ++ post).length = pre.length + c.length + post.length := by rw [List.length_append, List.length_append]
  rw [e, HT.sIx_nat, HT.sIx_nat, hl, Nat.min_eq_left (by lia), Nat.min_eq_left (by lia), Nat.add_sub_cancel_left, List.append_assoc, List.drop_left, List.take_left]
theorem order_tasks (s : Sz17.St) (b : Int) : (Sz17.does s (.order b)).1.tasks = s.tasks := by
  unfold Sz17.does
  dsimp only
  split <;> rfl
theorem good_order {s : Sz17.St} {W : Vr} (G : Good s W) (b : Int) : Good (Sz17.does s (.order b)).1 W := by
  by_cases h : b < 0 ∨ 1 < b ∨ s.now ≠ 0
  · rw [order_no h]; exact G
  · rw [order_yes h]
    exact ⟨⟨G.ok.jl, G.ok.sl, G.ok.t32, G.ok.tk, fun i j e => let ⟨A, B, C, D, E, F⟩ := G.ok.jb i j e; ⟨A, B, C, D, E, F⟩, G.ok.lk⟩, G.nx, G.le, G.no⟩
section
variable {P : Program} {w : World} {K : Frag} {mg : Str → Option Value} {base : Heap} {a : Ad}
theorem ok_answer_call (T : Txt a K mg) : FnOk P w K mg base CX0 7 a.f_answer_call a.d_answer_call ["scheduler", "call"] (spCall a) := by
  refine T.fn_answer_call.ok sc_answer_call (fun vs H Q E h => ?_) (fun cdv A outer s0 H vs Q E hr h => ?_)
  · obtain ⟨F, W, s, c, p, rfl, _⟩ := h
    rfl
  · obtain ⟨F, W, s, c, p, rfl, R, G, hp, hf, hbl, q⟩ := h
    obtain ⟨t_ORDER, g_ORDER⟩ := T.k_ORDER
    obtain ⟨t_TASK, g_TASK⟩ := T.k_TASK
    obtain ⟨t_TASK_HEAD, g_TASK_HEAD⟩ := T.k_TASK_HEAD
    obtain ⟨t_RUN, g_RUN⟩ := T.k_RUN
    obtain ⟨t_NOW, g_NOW⟩ := T.k_NOW
    obtain ⟨t_KNOWN, g_KNOWN⟩ := T.k_KNOWN
    obtain ⟨t_STATE, g_STATE⟩ := T.k_STATE
    obtain ⟨t_OWNER, g_OWNER⟩ := T.k_OWNER
    refine ⟨_, (pss_cons (ps_set (i := 2) sc_answer_call.nd rfl (Or.inl rfl) (pe_ix ix_list (pv 1) pe_int (fun _ _ => rfl)))
      (pss_cons (ps_if (pt_cmpR op_eq (pv 2) (pe_glob rfl g_ORDER relI) (nomark _))
      (pss_one (ps_ret (pe_lst (pa_cons (pe_meth (pv 0) T.cl_Scheduler T.me_Scheduler_set_order (ok_Scheduler_set_order T) (hr.mono (by decide)) T.bd_Scheduler_set_order .nil pass0 (pa_cons (pe_ix ix_list (pv 1) pe_int (fun _ _ => rfl)) pa_nil)) pa_nil))))
      pss_nil)
      (pss_cons (ps_if (pt_cmpR op_eq (pv 2) (pe_glob rfl g_TASK relI) (nomark _))
      (pss_one (ps_ret (pe_lst (pa_cons (pe_meth (pv 0) T.cl_Scheduler T.me_Scheduler_add_task (ok_Scheduler_add_task T) (hr.mono (by decide)) T.bd_Scheduler_add_task .nil pass0 (pa_cons (pe_ix ix_list (pv 1) pe_int (fun _ _ => rfl)) (pa_cons (pe_ix ix_list (pv 1) pe_int (fun _ _ => rfl)) (pa_cons (pe_ix ix_list (pv 1) pe_int (fun _ _ => rfl)) (pa_cons (pe_ix ix_list (pv 1) pe_int (fun _ _ => rfl)) (pa_cons (pe_slice sl_list (pv 1) (po_some (pe_glob rfl g_TASK_HEAD relI)) po_none) pa_nil)))))) pa_nil))))
      pss_nil)
      (pss_cons (ps_if (pt_cmpR op_eq (pv 2) (pe_glob rfl g_RUN relI) (nomark _))
      (pss_one (ps_ret (pe_meth (pv 0) T.cl_Scheduler T.me_Scheduler_run (ok_Scheduler_run T) (hr.mono (by decide)) T.bd_Scheduler_run .nil pass0 (pa_cons (pe_ix ix_list (pv 1) pe_int (fun _ _ => rfl)) pa_nil))))
      pss_nil)
      (pss_cons (ps_if (pt_cmpR op_eq (pv 2) (pe_glob rfl g_NOW relI) (nomark _))
      (pss_one (ps_ret (pe_lst (pa_cons (pe_fld (pv 0) rfl) pa_nil))))
      pss_nil)
      (pss_cons (ps_if (pt_cmpR op_eq (pv 2) (pe_glob rfl g_KNOWN relI) (nomark _))
      (pss_one (ps_ret (pe_lst (pa_cons (pe_meth (pv 0) T.cl_Scheduler T.me_Scheduler_known (ok_Scheduler_known T) (hr.mono (by decide)) T.bd_Scheduler_known .nil pass0 (pa_cons (pe_ix ix_list (pv 1) pe_int (fun _ _ => rfl)) (pa_cons (pe_ix ix_list (pv 1) pe_int (fun _ _ => rfl)) pa_nil))) pa_nil))))
      pss_nil)
      (pss_cons (ps_if (pt_cmpR op_eq (pv 2) (pe_glob rfl g_STATE relI) (nomark _))
      (pss_one (ps_ret (pe_lst (pa_cons (pe_meth (pv 0) T.cl_Scheduler T.me_Scheduler_state (ok_Scheduler_state T) (hr.mono (by decide)) T.bd_Scheduler_state .nil pass0 (pa_cons (pe_ix ix_list (pv 1) pe_int (fun _ _ => rfl)) pa_nil)) pa_nil))))
      pss_nil)
      (pss_cons (ps_if (pt_cmpR op_eq (pv 2) (pe_glob rfl g_OWNER relI) (nomark _))
      (pss_one (ps_ret (pe_lst (pa_cons (pe_meth (pv 0) T.cl_Scheduler T.me_Scheduler_owner (ok_Scheduler_owner T) (hr.mono (by decide)) T.bd_Scheduler_owner .nil pass0 (pa_cons (pe_ix ix_list (pv 1) pe_int (fun _ _ => rfl)) pa_nil)) pa_nil))))
      pss_nil)
      (pss_one (ps_ret (pe_lst (pa_cons pe_int pa_nil)))))))))))), ?_⟩
    obtain ⟨dp, hpp⟩ := R.sch
    have hq : SqL K H p ((put1 c).map V.int) := SqL.of hp
    have key : ∀ (k : Nat) (x : Int), (put1 c)[k]? = some x → ((put1 c).map V.int)[k]? = some (.int x) := fun k x h => by
      rw [List.getElem?_map, h]
      rfl
    have ix : ∀ (σ : L2.St) (k : Nat) (x : Int) (t : TE), PureE (tVar 1) σ H (.ref p) → PureE t σ H (.int (k : Nat)) → (put1 c)[k]? = some x → PureE (tOp (rIxL K) (tVar 1) t) σ H (.int x) := fun σ k x t h1 h2 hx => PureE.ix h1 h2 hq (key k x hx)
    have h0 : ∀ x, (put1 c)[0]? = some x → PureE (tOp (rIxL K) (tVar 1) (tC (.int 0))) (L2.start ["scheduler", "call", "number"] [.ref F.p, .ref p]) H (.int x) := fun x hx => ix _ 0 x _ (.v rfl) .c hx
    -- where the answer is one number, and the state stays
    have one : ∀ (v : Int) (H' : Hp), Same H H' → stepC s c = (s, [v]) → ∀ l, H' l = none → Q (.ref l) (upd H' l (.lst [.int v])) := fun v H' sm e l hl => by
      rw [e] at q
      have hl' := sm.free hl
      have sm' := Same.upd_new (o := .lst [.int v]) sm hl
      exact q l _ F W (R.same sm') G rfl rfl (fun i hi => .inr ⟨i, hi, rfl⟩) (fun b u e _ _ => sm' b u e) (dom_of sm') hl' upd_same (by show 1 ≤ 2001; decide)
    have l1 : (1 : Nat) ≤ sizeLine := sizeL (by decide)
    cases hf with
    | clear =>
      refine h0 1 rfl _ ?_
      dsimp only [gName]
      refine skipN (x := 1) (y := 2) rfl (by decide) ?_
      refine skipN (x := 1) (y := 3) rfl (by decide) ?_
      refine skipN (x := 1) (y := 4) rfl (by decide) ?_
      refine skipN (x := 1) (y := 5) rfl (by decide) ?_
      refine skipN (x := 1) (y := 6) rfl (by decide) ?_
      refine skipN (x := 1) (y := 7) rfl (by decide) ?_
      refine skipN (x := 1) (y := 8) rfl (by decide) ?_
      exact ⟨l1, one 0 H (Same.refl H) (by rw [step_clear, hbl rfl])⟩
    | order b =>
      refine h0 2 rfl _ ?_
      dsimp only [gName]
      refine hitN (x := 2) rfl ?_
      refine ⟨_, rfl, F.p, dp, _, rfl, hpp, rfl, ?_⟩
      refine ix _ 1 b _ (.v rfl) .c rfl _ ?_
      refine ⟨F, W, s, b, rfl, R, G.no, fun H' R' fr' => ⟨l1, fun l hl => ?_⟩⟩
      rw [step_order, ans_one (who_order s b)] at q
      have sm := Same.upd_new (o := .lst [.int (val s (.order b))]) (Same.refl H') hl
      exact q l _ F W (R'.same sm) (good_order G b) rfl rfl (fun i hi => .inr ⟨i, by rw [order_tasks] at hi; exact hi, rfl⟩) (fun b u e f _ => sm _ _ (fr'.fix b u e f)) (fun b e => fr'.dom b (dom_of sm b e)) (fr'.dom l hl) upd_same (by show 1 ≤ 2001; decide)
    | task f p d r st h64 hst =>
      refine h0 3 rfl _ ?_
      dsimp only [gName]
      refine skipN (x := 3) (y := 2) rfl (by decide) ?_
      refine hitN (x := 3) rfl ?_
      refine ⟨_, rfl, F.p, dp, _, rfl, hpp, rfl, ?_⟩
      refine ix _ 1 f _ (.v rfl) .c rfl _ ?_
      refine ix _ 2 p _ (.v rfl) .c rfl _ ?_
      refine ix _ 3 d _ (.v rfl) .c rfl _ ?_
      refine ix _ 4 r _ (.v rfl) .c rfl _ ?_
      -- call[TASK_HEAD:]
      refine ⟨_, rfl, _, rfl, _, _, rfl, hq, fun sl hsl => ?_⟩
      have ecut : cutV ((put1 [[3, f, p, d, r], st]).map V.int) (some 6) none = st.map V.int := by
        have e := cut_tail ((put1 [[3, f, p, d, r], st]).map V.int) 6 (by
          rw [List.length_map]
          show 6 ≤ ([3, f, p, d, r] ++ (((st.length : Int) :: st) ++ [])).length
          rw [List.append_nil, List.length_append, List.length_cons]
          show 6 ≤ 5 + (st.length + 1)
          lia)
        refine e.trans ?_
        show ((([3, f, p, d, r] ++ (((st.length : Int) :: st) ++ [])).map V.int)).drop 6 = _
        rw [List.append_nil]
        rfl
      rw [ecut]
      have s1 : Same H (upd H sl (.lst (st.map V.int))) := Same.upd_new (Same.refl H) hsl
      have hsl1 : upd H sl (.lst (st.map V.int)) sl = _ := upd_same
      have R1 := R.same s1
      generalize upd H sl (.lst (st.map V.int)) = H1 at s1 hsl1 R1
      refine ⟨F, W, s, f, p, d, r, sl, st, rfl, R1, G, hsl1, (fun z => by rw [z, R.tl] at hsl; cases hsl), h64, fun H' F' W' R' G' ep etl hsa hfr hdom => ⟨l1, fun l hl => ?_⟩⟩
      rw [step_task, ans_one (who_task s f p d r st)] at q
      have sm := Same.upd_new (o := .lst [.int (val s (taskC f p d r st))]) (Same.refl H') hl
      refine q l _ F' W' (R'.same sm) G' ep etl (fun i hi => ?_) (fun b u e f hb => sm _ _ (hfr b u (s1 _ _ e) f hb)) (fun b e => dom_of s1 b (hdom b (dom_of sm b e))) (dom_of s1 l (hdom l hl)) upd_same (by show 1 ≤ 2001; decide)
      rcases hsa i hi with e | h
      · exact .inl (by rw [e]; exact hsl)
      · exact .inr h
    | run n hn =>
      refine h0 4 rfl _ ?_
      dsimp only [gName]
      refine skipN (x := 4) (y := 2) rfl (by decide) ?_
      refine skipN (x := 4) (y := 3) rfl (by decide) ?_
      refine hitN (x := 4) rfl ?_
      refine ⟨_, rfl, F.p, dp, _, rfl, hpp, rfl, ?_⟩
      refine ix _ 1 n _ (.v rfl) .c rfl _ ?_
      refine ⟨F, W, s, n, rfl, R, G, fun l H' W' R' G' htk fr' hl hl' => ?_⟩
      rw [step_run] at q
      exact q l H' F W' R' G' rfl rfl (fun i hi => .inr ⟨i, by rw [← htk]; exact hi, rfl⟩) (fun b u e f _ => fr'.fix b u e f) fr'.dom hl hl' (run_len hn)
    | now =>
      refine h0 5 rfl _ ?_
      dsimp only [gName]
      refine skipN (x := 5) (y := 2) rfl (by decide) ?_
      refine skipN (x := 5) (y := 3) rfl (by decide) ?_
      refine skipN (x := 5) (y := 4) rfl (by decide) ?_
      refine hitN (x := 5) rfl ?_
      exact fld_go (.v rfl) hpp T.cl_Scheduler T.at_Scheduler_now rfl ⟨l1, one _ H (Same.refl H) (step_now s)⟩
    | known i w =>
      refine h0 6 rfl _ ?_
      dsimp only [gName]
      refine skipN (x := 6) (y := 2) rfl (by decide) ?_
      refine skipN (x := 6) (y := 3) rfl (by decide) ?_
      refine skipN (x := 6) (y := 4) rfl (by decide) ?_
      refine skipN (x := 6) (y := 5) rfl (by decide) ?_
      refine hitN (x := 6) rfl ?_
      refine ⟨_, rfl, F.p, dp, _, rfl, hpp, rfl, ?_⟩
      refine ix _ 1 i _ (.v rfl) .c rfl _ ?_
      refine ix _ 2 w _ (.v rfl) .c rfl _ ?_
      refine ⟨F, W, s, i, w, rfl, R, fun H' sm => ⟨l1, one _ H' sm ?_⟩⟩
      rw [step_known, ans_one (who_known s i w).1, (who_known s i w).2]
    | state i =>
      refine h0 7 rfl _ ?_
      dsimp only [gName]
      refine skipN (x := 7) (y := 2) rfl (by decide) ?_
      refine skipN (x := 7) (y := 3) rfl (by decide) ?_
      refine skipN (x := 7) (y := 4) rfl (by decide) ?_
      refine skipN (x := 7) (y := 5) rfl (by decide) ?_
      refine skipN (x := 7) (y := 6) rfl (by decide) ?_
      refine hitN (x := 7) rfl ?_
      refine ⟨_, rfl, F.p, dp, _, rfl, hpp, rfl, ?_⟩
      refine ix _ 1 i _ (.v rfl) .c rfl _ ?_
      refine ⟨F, W, s, i, rfl, R, G.ok, by have := R.os_len G.ok; lia, fun H' sm => ⟨l1, one _ H' sm ?_⟩⟩
      rw [step_state, ans_one (who_state s i).1, (who_state s i).2]
    | owner l =>
      refine h0 8 rfl _ ?_
      dsimp only [gName]
      refine skipN (x := 8) (y := 2) rfl (by decide) ?_
      refine skipN (x := 8) (y := 3) rfl (by decide) ?_
      refine skipN (x := 8) (y := 4) rfl (by decide) ?_
      refine skipN (x := 8) (y := 5) rfl (by decide) ?_
      refine skipN (x := 8) (y := 6) rfl (by decide) ?_
      refine skipN (x := 8) (y := 7) rfl (by decide) ?_
      refine hitN (x := 8) rfl ?_
      refine ⟨_, rfl, F.p, dp, _, rfl, hpp, rfl, ?_⟩
      refine ix _ 1 l _ (.v rfl) .c rfl _ ?_
      refine ⟨F, W, s, l, rfl, R, G.ok, ⟨l1, one _ H (Same.refl H) ?_⟩⟩
      rw [step_owner, ans_one (who_owner s l).1, (who_owner s l).2]
/-! ### all calls -/
theorem put_append : ∀ (xs ys : List (List (List Int))), put (xs ++ ys) = put xs ++ put ys
  | [], _ => rfl
  | x :: xs, ys => by
    show put1 x ++ put (xs ++ ys) = (put1 x ++ put xs) ++ put ys
    rw [put_append xs ys, List.append_assoc]
theorem put1_pos {c : List (List Int)} (h : SM.Form c) : ∃ x, (put1 c)[0]? = some x ∧ 0 < (put1 c).length ∧ (x = 1 ↔ c = [[1]]) := by
  cases h with
  | clear => exact ⟨1, rfl, by show 0 < 1; decide, by simp⟩
  | order b => exact ⟨2, rfl, by show 0 < 2; decide, by simp⟩
  | task f p d r st _ _ => exact ⟨3, rfl, by show 0 < ([3, f, p, d, r] ++ _).length; rw [List.length_append]; show 0 < 5 + _; lia, by simp⟩
  | run n _ => exact ⟨4, rfl, by show 0 < 2; decide, by simp⟩
  | now => exact ⟨5, rfl, by show 0 < 1; decide, by simp⟩
  | known i w => exact ⟨6, rfl, by show 0 < 3; decide, by simp⟩
  | state i => exact ⟨7, rfl, by show 0 < 2; decide, by simp⟩
  | owner l => exact ⟨8, rfl, by show 0 < 2; decide, by simp⟩
theorem good_blank : Good Sz17.blank ⟨fun _ => 0, [], fun _ => 0, []⟩ := by
  have nj : ∀ k, Sz17.blank.job k = none := fun k => by
    unfold Sz17.St.job
    show (([] : List (Option Sz17.Job))[k]?).join = none
    rw [List.getElem?_nil]
    rfl
  refine ⟨⟨rfl, rfl, by show 0 ≤ 32; decide, fun t ht => (by cases ht), fun i j e => ?_, fun i j k q l e => ?_⟩, fun i hi => absurd hi (Nat.not_lt_zero _), by show 0 ≤ 1000000000; decide, fun _ => nj⟩
  · rw [nj] at e; cases e
  · rw [nj] at e; cases e
inductive InAnswers (K : Frag) (vs : List V) (H : Hp) (Q : VK) : Prop
  | mk (p : Addr) (ns : List Int) : vs = [.ref p] → SqL K H p (ns.map V.int) → PySz17.answers_asked ns = true → ns.length ≤ 30000 → (∀ (l : Addr) (H' : Hp), H' l = some (.lst ((PySz17.answers ns).map V.int)) → Q (.ref l) H') → InAnswers K vs H Q
def spAnswers (K : Frag) : Sp := fun vs H Q _ => InAnswers K vs H Q
inductive AnInv (a : Ad) (H : Hp) (pc l : Addr) (cs : List (List (List Int))) (due : List Int) (m : Nat) (σ : L2.St) (H2 : Hp) : Prop
  | mk (F : Fx) (W : Vr) (s : Sz17.St) (cs1 cs2 : List (List (List Int))) (out : List Int) (v4 v5 : Option V) : σ = [some (.ref pc), some (.ref F.p), some (.ref l), some (.int ((put cs1).length : Nat)), v4, v5] → cs = cs1 ++ cs2 → m = cs2.length → Rel a H2 F W s → Good s W → Fr H H2 → H2 l = some (.lst (out.map V.int)) → l ≠ F.tl → (∀ i, i < s.tasks.length → l ≠ F.sa i) → H F.tl = none → due = out ++ told (played Sz17Neutral.step s (cs2.map PySz17.whole)) → out.length ≤ cs1.length * 2002 → AnInv a H pc l cs due m σ H2
theorem Fr.seq {K : Frag} {H H' : Hp} {p : Addr} {xs : List V} (h : Fr H H') (hp : SqL K H p xs) : SqL K H' p xs := by
  rcases hp with (e | ⟨o, e⟩) | e
  · exact .inl (.inl (h.fix _ _ e rfl))
  · exact .inl (.inr ⟨o, h.fix _ _ e rfl⟩)
  · exact .inr e
/-- Scheduler() -/
theorem new_sch {H : Hp} {E : XK} {Q : VK} {σ : L2.St} (q : ∀ (F : Fx) (H' : Hp), Rel a H' F ⟨fun _ => 0, [], fun _ => 0, []⟩ Sz17.blank → Same H H' → H F.tl = none → Q (.ref F.p) H') : tMake a.c_Scheduler (spSchInit a) [] E tNil σ H Q := fun x dx nx ndx ne => ⟨x, dx, rfl, upd_same, fun tl jd od H' htl hjo hkeep hx' htl' hjd' hod' => by
  have hk : Same H H' := fun b u e => by
    have hbx : b ≠ x := ne_of_none e nx
    refine hkeep b u ?_ hbx
    rw [upd_ne hbx, upd_ne (ne_of_none e ndx)]
    exact e
  have htl0 : H tl = none := by
    cases e : H tl with
    | none => rfl
    | some u =>
      rw [upd_ne (ne_of_none e nx), upd_ne (ne_of_none e ndx), e] at htl
      cases htl
  exact ⟨rfl, q ⟨x, tl, jd, od, fun _ => 0, fun _ => 0, fun _ => []⟩ H' (Rel.blank ⟨dx, hx'⟩ htl' hjd' hod' hjo rfl rfl) hk htl0⟩⟩
theorem ok_answers (T : Txt a K mg) : FnOk P w K mg base CX0 8 a.f_answers a.d_answers ["calls"] (spAnswers K) := by
  refine T.fn_answers.ok sc_answers (fun vs H Q E h => ?_) (fun cdv A outer s0 H vs Q E hr h => ?_)
  · obtain ⟨p, ns, rfl, _⟩ := h
    rfl
  · obtain ⟨pc, ns, rfl, hpc, hask, hlen, q⟩ := h
    obtain ⟨cs, rfl, hform, h400, _, hdue⟩ := SM.asked_forms hask
    obtain ⟨t_CLEAR, g_CLEAR⟩ := T.k_CLEAR
    refine ⟨_, (pss_cons (ps_set (i := 1) sc_answers.nd rfl (Or.inl rfl) (pe_make0 T.mk_Scheduler (ok_Scheduler_init T) (hr.mono (by decide)) rfl T.mg_Scheduler T.bd_Scheduler_init .nil pass0))
      (pss_cons (ps_set (i := 2) sc_answers.nd rfl (Or.inl rfl) (pe_lst pa_nil))
      (pss_cons (ps_set (i := 3) sc_answers.nd rfl (Or.inl rfl) pe_int)
      (pss_cons (ps_while PassesOwn.never (pt_cmpR op_lt (pv 3) (pe_callB call_len_seq (by rfl) T.n_len boot_len (pa_cons (pv 0) pa_nil)) (nomark _))
      (pss_cons (ps_set (i := 4) sc_answers.nd rfl (Or.inl rfl) (pe_slice sl_list (pv 0) (po_some (pv 3)) (po_some (pe_op op_add (pv 3) (pe_call (ok_call_size T) (hr.mono (by decide)) rfl T.mg_call_size T.fn_call_size.kp T.bd_call_size .nil pass0 (pa_cons (pv 0) (pa_cons (pv 3) pa_nil)))))))
      (pss_cons (ps_if (pt_cmpR op_eq (pe_ix ix_list (pv 4) pe_int (fun _ _ => rfl)) (pe_glob rfl g_CLEAR relI) (nomark _))
      (pss_one (ps_set (i := 1) sc_answers.nd rfl (Or.inl rfl) (pe_make0 T.mk_Scheduler (ok_Scheduler_init T) (hr.mono (by decide)) rfl T.mg_Scheduler T.bd_Scheduler_init .nil pass0)))
      pss_nil)
      (pss_cons (ps_set (i := 5) sc_answers.nd rfl (Or.inl rfl) (pe_call (ok_answer_call T) (hr.mono (by decide)) rfl T.mg_answer_call T.fn_answer_call.kp T.bd_answer_call .nil pass0 (pa_cons (pv 1) (pa_cons (pv 4) pa_nil))))
      (pss_cons (ps_expr (pe_bm PySem.F.plainAttrs_list PySem.F.slot_list_append PySem.F.type_list_append mt_append (pv 2) (pa_cons (pe_callB call_len_seq (by rfl) T.n_len boot_len (pa_cons (pv 5) pa_nil)) pa_nil)))
      (pss_cons (ps_expr (pe_bm PySem.F.plainAttrs_list PySem.F.slot_list_extend PySem.F.type_list_extend mt_extend (pv 2) (pa_cons (pv 5) pa_nil)))
      (pss_one (ps_aug (i := 3) sc_answers.nd rfl (Or.inl rfl) (pe_callB call_len_seq (by rfl) T.n_len boot_len (pa_cons (pv 4) pa_nil)) ip_add))))))))
      (pss_one (ps_ret (pv 2))))))), ?_⟩
    -- scheduler = Scheduler()
    refine seq_go (asg_go (new_sch fun F0 H1 R1 s1 htl0 => ?_))
    -- answered = []
    refine ⟨Nat.zero_le _, fun l hl => ?_⟩
    have hHl : H l = none := s1.free hl
    have sm1 : Same H1 (upd H1 l (.lst [])) := Same.upd_new (Same.refl H1) hl
    refine ⟨AnInv a H pc l cs (PySz17.answers (put cs)), ⟨cs.length, ⟨F0, _, Sz17.blank, [], cs, [], none, none, rfl, rfl, rfl, R1.same sm1, good_blank, Fr.of (s1.trans sm1), upd_same, fun z => ?_, fun i hi => absurd hi (Nat.not_lt_zero _), htl0, hdue, Nat.zero_le _⟩⟩, ?_⟩
    · rw [z, R1.tl] at hl; cases hl
    rintro m σ H2 ⟨F, W, s, cs1, cs2, out, v4, v5, rfl, hcs, rfl, R, G, fr, hl2, hltl, hlsa, htl, hd, hol⟩
    have hq2 := fr.seq hpc
    -- while place < len(calls)
    refine tt_go (PureE.op (.v rfl) (PureE.lenL (.v rfl) (.inl hq2))) ?_
    have hput : put cs = put cs1 ++ put cs2 := by rw [hcs, put_append]
    have hplen : ((put cs).map V.int).length = (put cs1).length + (put cs2).length := by rw [List.length_map, hput, List.length_append]
    cases cs2 with
    | nil =>
      refine ite2 (fun hc => ?_) (fun hc => ?_)
      · rw [decide_eq_true_eq, hplen] at hc
        have : (put ([] : List (List (List Int)))).length = 0 := rfl
        lia
      · refine ⟨_, rfl, q l H2 ?_⟩
        have hd : PySz17.answers (put cs) = out ++ [] := hd
        rw [hd, List.append_nil]
        exact hl2
    | cons c r =>
      have hfc : SM.Form c := hform c (by rw [hcs]; exact List.mem_append_right _ List.mem_cons_self)
      obtain ⟨x0, hx0, hpos, hx1⟩ := put1_pos hfc
      have hput2 : put (c :: r) = put1 c ++ put r := rfl
      refine ite2 (fun hc => ?_) (fun hc => ?_)
      · refine ⟨fun σ' H' => AnInv a H pc l cs (PySz17.answers (put cs)) r.length σ' H', fun σ' H' h => ⟨_, by show r.length < r.length + 1; lia, h⟩, ?_⟩
        have hsplit : (put cs).map V.int = (put cs1).map V.int ++ (put1 c).map V.int ++ (put r).map V.int := by
          rw [hput, hput2, List.map_append, List.map_append, List.append_assoc]
        have hsplit2 : put cs = put cs1 ++ put1 c ++ put r := by rw [hput, hput2, List.append_assoc]
        -- call = calls[place:place + call_size(calls, place)]
        refine ⟨_, rfl, _, rfl, _, rfl, _, rfl, _, rfl, _, rfl, pc, put cs1, put r, c, rfl, by rw [← hsplit2]; exact hq2, hfc, fun H3 s3 => ⟨_, _, rfl, rfl, _, rfl, pc, _, rfl, s3.seq hq2, fun cl hcl => ?_⟩⟩
        have ecut : cutV ((put cs).map V.int) (some ((put cs1).length : Int)) (some (((put cs1).length : Int) + ((put1 c).length : Int))) = (put1 c).map V.int := by
          have := cut_mid ((put cs1).map V.int) ((put1 c).map V.int) ((put r).map V.int)
          rw [List.length_map, List.length_map] at this
          rw [hsplit]
          exact this
        rw [ecut]
        have s4 : Same H3 (upd H3 cl (.lst ((put1 c).map V.int))) := Same.upd_new (Same.refl H3) hcl
        have hcl4 : upd H3 cl (.lst ((put1 c).map V.int)) cl = _ := upd_same
        have s24 := s3.trans s4
        have hH2cl : H2 cl = none := s3.free hcl
        generalize upd H3 cl (.lst ((put1 c).map V.int)) = H4 at s4 hcl4 s24
        have R4 := R.same s24
        have hl4 := s24 _ _ hl2
        have nlcl : l ≠ cl := ne_of_none hl2 hH2cl
        -- if call[0] == CLEAR: scheduler = Scheduler()
        refine nm_go ?_
        dsimp only
        refine seq_cases (fun σ' H' => ∃ (F1 : Fx) (W1 : Vr) (sa : Sz17.St), σ' = [some (.ref pc), some (.ref F1.p), some (.ref l), some (.int ((put cs1).length : Nat)), some (.ref cl), v5] ∧ Rel a H' F1 W1 sa ∧ Good sa W1 ∧ (c = [[1]] → sa = Sz17.blank) ∧ stepC sa c = stepC s c ∧ Fr H H' ∧ H' l = some (.lst (out.map V.int)) ∧ H' cl = some (.lst ((put1 c).map V.int)) ∧ l ≠ F1.tl ∧ cl ≠ F1.tl ∧ (∀ i, i < sa.tasks.length → l ≠ F1.sa i) ∧ H F1.tl = none) ?_ (fun cont => ?_)
        · rintro σ' H5 ⟨F1, W1, sa, rfl, R5, G5, hbl, hstep, fr5, hl5, hcl5, hltl5, hcltl5, hlsa5, htl5⟩
          -- answer = answer_call(scheduler, call)
          refine ⟨_, rfl, _, rfl, F1, W1, sa, c, cl, rfl, R5, G5, hcl5, hfc, hbl, fun la H6 F2 W2 R6 G6 ep etl hsa hfr hdom hla hla6 hlen6 => ?_⟩
          rw [hstep] at R6 G6 hsa hla6 hlen6
          have hl6 : H6 l = _ := hfr _ _ hl5 rfl hltl5
          have hcl6 : H6 cl = _ := hfr _ _ hcl5 rfl hcltl5
          have nlla : l ≠ la := ne_of_none hl5 hla
          have hoc : out.length ≤ 1000000 := by
            have : cs1.length ≤ 400 := by rw [hcs, List.length_append] at h400; lia
            have : cs1.length * 2002 ≤ 400 * 2002 := Nat.mul_le_mul_right _ this
            lia
          -- answered.append(len(answer))
          refine ⟨_, rfl, .inl ⟨rfl, _, SqL.of hl6⟩, ?_⟩
          refine lenL_go (.v rfl) (.inl (SqL.of hla6)) ⟨l, _, _, rfl, rfl, hl6, ?_, ?_⟩
          · rw [List.length_map]
            have : (sizeLine : Nat) = 16777216 := rfl
            lia
          have hla7 : upd H6 l (.lst (out.map V.int ++ [V.int (((stepC s c).2.map V.int).length : Nat)])) la = _ := (upd_ne nlla.symm).trans hla6
          -- answered.extend(answer)
          refine ⟨_, rfl, .inl ⟨rfl, _, SqL.of upd_same⟩, _, rfl, l, la, _, _, rfl, rfl, upd_same, hla7, sizeL (by rw [List.length_append, List.length_map, List.length_map]; show out.length + 1 + _ ≤ _; lia), ?_⟩
          rw [upd_upd]
          -- place += len(call)
          have hcl8 : ∀ o, upd H6 l o cl = some (.lst ((put1 c).map V.int)) := fun o => (upd_ne nlcl.symm).trans hcl6
          refine ⟨_, rfl, lenL_go (.v rfl) (.inl (SqL.of (hcl8 _))) ⟨_, _, rfl, rfl, ?_⟩⟩
          have hltl6 : l ≠ F2.tl := by rw [etl]; exact hltl5
          have hlsa6 : ∀ i, i < (stepC s c).1.tasks.length → l ≠ F2.sa i := fun i hi z => by
            rcases hsa i hi with h | ⟨k, hk, h⟩
            · rw [← z, hl5] at h; cases h
            · exact hlsa5 k hk (z.trans h)
          have R8 := R6.lst (ys := out.map V.int ++ [V.int (((stepC s c).2.map V.int).length : Nat)] ++ (stepC s c).2.map V.int) hl6 hltl6 hlsa6
          have eout : out.map V.int ++ [V.int (((stepC s c).2.map V.int).length : Nat)] ++ (stepC s c).2.map V.int = (out ++ (((stepC s c).2.length : Int) :: (stepC s c).2)).map V.int := by
            rw [List.map_append, List.map_cons, List.length_map, List.append_assoc]
            rfl
          rw [eout] at R8 ⊢
          have fr8 : Fr H (upd H6 l (.lst ((out ++ (((stepC s c).2.length : Int) :: (stepC s c).2)).map V.int))) := by
            refine ⟨fun b u e f => ?_, fun b e => ?_⟩
            · have hbl : b ≠ l := ne_of_none e hHl
              rw [upd_ne hbl]
              exact hfr b u (fr5.fix b u e f) f (ne_of_none e htl5)
            · exact dom_upd (H := H) (fun b e => fr5.dom b (hdom b e)) b e
          refine ⟨F2, W2, (stepC s c).1, cs1 ++ [c], r, out ++ (((stepC s c).2.length : Int) :: (stepC s c).2), some (.ref cl), some (.ref la), ?_, by rw [hcs, List.append_assoc]; rfl, rfl, R8, G6, fr8, upd_same, hltl6, hlsa6, by rw [etl]; exact htl5, ?_, ?_⟩
          · have e1 : ((put cs1).length : Int) + (((put1 c).map V.int).length : Int) = ((put (cs1 ++ [c])).length : Nat) := by
              rw [put_append, List.length_append, List.length_map]
              show _ = (((put cs1).length + (put1 c ++ []).length : Nat) : Int)
              rw [List.append_nil]
              lia
            show [some (V.ref pc), some (V.ref F1.p), some (V.ref l), some (V.int (((put cs1).length : Int) + (((put1 c).map V.int).length : Int))), some (V.ref cl), some (V.ref la)] = _
            rw [e1, ep]
          · rw [hd, List.map_cons, SM.played_cons, SM.told_cons, List.append_assoc]
            rfl
          · rw [List.length_append, List.length_cons, List.length_append]
            show out.length + ((stepC s c).2.length + 1) ≤ (cs1.length + 1) * 2002
            lia
        · -- the test
          have hix : ((put1 c).map V.int)[0]? = some (.int x0) := by rw [List.getElem?_map, hx0]; rfl
          refine PureT.ifS (PureT.tt (PureE.eq (PureE.ix (i := 0) (.v rfl) .c (SqL.of hcl4) hix) .c rfl)) ?_
          refine ite2 (fun hc1 => ?_) (fun hc1 => ?_)
          · rw [decide_eq_true_eq, V.int.injEq] at hc1
            have ec := hx1.mp hc1
            refine asg_go (new_sch fun F1 H5 R5 s5 htl5 => ?_)
            refine cont _ _ ⟨F1, _, Sz17.blank, rfl, R5, good_blank, fun _ => rfl, ?_, (fr.trans (Fr.of s24)).trans (Fr.of s5), s5 _ _ hl4, s5 _ _ hcl4, fun z => ?_, fun z => ?_, fun i hi => absurd hi (Nat.not_lt_zero _), (fr.trans (Fr.of s24)).dom _ htl5⟩
            · rw [ec]; rfl
            · rw [← z, hl4] at htl5; cases htl5
            · rw [← z, hcl4] at htl5; cases htl5
          · rw [decide_eq_true_eq, V.int.injEq] at hc1
            refine cont _ _ ⟨F, W, s, rfl, R4, G, fun z => absurd (hx1.mpr z) hc1, rfl, fr.trans (Fr.of s24), hl4, hcl4, hltl, fun z => ?_, hlsa, htl⟩
            rw [z, R.tl] at hH2cl; cases hH2cl
      · rw [decide_eq_true_eq, hplen, hput2, List.length_append] at hc
        lia
end
end My
open PySem PySem.W PyProof.Rows L2
set_option maxHeartbeats 0 in
theorem PySem.Challenge.cw_tasklocks_s01_answers_holds : PySem.Challenge.rw_tasklocks_s01_answers.Holds := by
  w_on; k_headS; (case hw => exact ⟨[.list [.int 1]], by decide +kernel, by decide +kernel⟩)
  k_fillS
  refine SH.walk_ofS (K := _) (k := 8) (x := "calls") (sp := My.spAnswers) (asked := PySz17.answers_asked) (f := PySz17.answers) ?said (by decide) rfl ⟨rfl, by decide, by decide⟩ (fun w h Y => PySem.W.kIn_of Y) ?F ?S
  case said => decide +kernel
  case S =>
    intro K H a ns h1 h2 h3 hO hS
    exact ⟨a, ns, rfl, hS, h3, h1, fun l H' h => ⟨l, rfl, h⟩⟩
  case F =>
    intro w mg fa h KX G hmg
    have T : ∃ a : Tx.Ad, Tx.Txt a (L2.KOf KX) mg ∧ mg "answers" = some (.ref a.f_answers) := by
      dsimp only [L2.KOf]
      refine' Tx.mk KX G ?e_LOCKS ?e_MOST_WORK ?e_TAKE_LOCK_0 ?e_GIVE_LOCK_0 ?e_MOST_TICKS ?e_MOST_TIME ?e_MOST_RANK ?e_MOST_STEPS ?e_NEVER ?e_MOST_TASKS ?e_MOST_TICKS_A_RUN ?e_NOBODY_WORKED ?e_NO_JOB ?e_ABLE_WITHOUT_LOCK ?e_ABLE_WITH_LOCK ?e_NOT_ABLE ?e_CLEAR ?e_ORDER ?e_TASK ?e_RUN ?e_NOW ?e_KNOWN ?e_STATE ?e_OWNER ?e_TASK_HEAD ?z_len ?z_all ?z_any ?z_max ?z_enumerate ?z_min ?a_Task ?pg_Task ?hd_Task ?po_Task ?sa_Task ?mk_Task ?kc_Task ?na_Task_period ?na_Task_deadline ?na_Task_rank ?na_Task_steps ?na_Task_comes_at ?na_Task_jobs_done ?na_Task_missed_deadlines ?na_Task_jobs_left_out ?na_Task_longest ?a_Job ?pg_Job ?hd_Job ?po_Job ?sa_Job ?mk_Job ?kc_Job ?na_Job_number ?na_Job_steps ?na_Job_came_at ?na_Job_late_at ?na_Job_own_urgency ?na_Job_place ?na_Job_worked ?na_Job_waits_for ?a_Scheduler ?pg_Scheduler ?hd_Scheduler ?po_Scheduler ?sa_Scheduler ?mk_Scheduler ?kc_Scheduler ?na_Scheduler_by_deadline ?na_Scheduler_now ?na_Scheduler_tasks ?na_Scheduler_jobs ?na_Scheduler_owners ?a_is_work ?l_is_work ?c_is_work ?k_is_work ?a_is_take ?l_is_take ?c_is_take ?k_is_take ?a_is_give ?l_is_give ?c_is_give ?k_is_give ?a_lock_of ?l_lock_of ?c_lock_of ?k_lock_of ?a_locks_are_right ?l_locks_are_right ?c_locks_are_right ?k_locks_are_right ?a_steps_are_right ?l_steps_are_right ?c_steps_are_right ?k_steps_are_right ?a_task_is_right ?l_task_is_right ?c_task_is_right ?k_task_is_right ?a_Task_init ?i_Task_init ?l_Task_init ?c_Task_init ?k_Task_init ?a_Task_pass_coming ?i_Task_pass_coming ?l_Task_pass_coming ?c_Task_pass_coming ?k_Task_pass_coming ?a_Task_count_done ?i_Task_count_done ?l_Task_count_done ?c_Task_count_done ?k_Task_count_done ?a_Task_known ?i_Task_known ?l_Task_known ?c_Task_known ?k_Task_known ?a_Job_init ?i_Job_init ?l_Job_init ?c_Job_init ?k_Job_init ?a_Job_current_step ?i_Job_current_step ?l_Job_current_step ?c_Job_current_step ?k_Job_current_step ?a_Job_work_left ?i_Job_work_left ?l_Job_work_left ?c_Job_work_left ?k_Job_work_left ?a_Job_end_step ?i_Job_end_step ?l_Job_end_step ?c_Job_end_step ?k_Job_end_step ?a_Job_is_done ?i_Job_is_done ?l_Job_is_done ?c_Job_is_done ?k_Job_is_done ?a_Job_is_at_work ?i_Job_is_at_work ?l_Job_is_at_work ?c_Job_is_at_work ?k_Job_is_at_work ?a_Scheduler_init ?i_Scheduler_init ?l_Scheduler_init ?c_Scheduler_init ?k_Scheduler_init ?a_Scheduler_set_order ?i_Scheduler_set_order ?l_Scheduler_set_order ?c_Scheduler_set_order ?k_Scheduler_set_order ?a_Scheduler_add_task ?i_Scheduler_add_task ?l_Scheduler_add_task ?c_Scheduler_add_task ?k_Scheduler_add_task ?a_Scheduler_run ?i_Scheduler_run ?l_Scheduler_run ?c_Scheduler_run ?k_Scheduler_run ?a_Scheduler_known ?i_Scheduler_known ?l_Scheduler_known ?c_Scheduler_known ?k_Scheduler_known ?a_Scheduler_state ?i_Scheduler_state ?l_Scheduler_state ?c_Scheduler_state ?k_Scheduler_state ?a_Scheduler_owner ?i_Scheduler_owner ?l_Scheduler_owner ?c_Scheduler_owner ?k_Scheduler_owner ?a_Scheduler_is_task ?i_Scheduler_is_task ?l_Scheduler_is_task ?c_Scheduler_is_task ?k_Scheduler_is_task ?a_Scheduler_let_jobs_come ?i_Scheduler_let_jobs_come ?l_Scheduler_let_jobs_come ?c_Scheduler_let_jobs_come ?k_Scheduler_let_jobs_come ?a_Scheduler_new_job ?i_Scheduler_new_job ?l_Scheduler_new_job ?c_Scheduler_new_job ?k_Scheduler_new_job ?a_Scheduler_tell_late ?i_Scheduler_tell_late ?l_Scheduler_tell_late ?c_Scheduler_tell_late ?k_Scheduler_tell_late ?a_Scheduler_find_worker ?i_Scheduler_find_worker ?l_Scheduler_find_worker ?c_Scheduler_find_worker ?k_Scheduler_find_worker ?a_Scheduler_chosen_job ?i_Scheduler_chosen_job ?l_Scheduler_chosen_job ?c_Scheduler_chosen_job ?k_Scheduler_chosen_job ?a_Scheduler_able_job_behind ?i_Scheduler_able_job_behind ?l_Scheduler_able_job_behind ?c_Scheduler_able_job_behind ?k_Scheduler_able_job_behind ?a_Scheduler_is_able ?i_Scheduler_is_able ?l_Scheduler_is_able ?c_Scheduler_is_able ?k_Scheduler_is_able ?a_Scheduler_do_lock_step ?i_Scheduler_do_lock_step ?l_Scheduler_do_lock_step ?c_Scheduler_do_lock_step ?k_Scheduler_do_lock_step ?a_Scheduler_leave_step ?i_Scheduler_leave_step ?l_Scheduler_leave_step ?c_Scheduler_leave_step ?k_Scheduler_leave_step ?a_Scheduler_ticks_alike ?i_Scheduler_ticks_alike ?l_Scheduler_ticks_alike ?c_Scheduler_ticks_alike ?k_Scheduler_ticks_alike ?a_Scheduler_work ?i_Scheduler_work ?l_Scheduler_work ?c_Scheduler_work ?k_Scheduler_work ?a_answers ?l_answers ?c_answers ?k_answers ?a_call_size ?l_call_size ?c_call_size ?k_call_size ?a_answer_call ?l_answer_call ?c_answer_call ?k_answer_call
      (case e_LOCKS => k_is)
      (case e_MOST_WORK => k_is)
      (case e_TAKE_LOCK_0 => k_is)
      (case e_GIVE_LOCK_0 => k_is)
      (case e_MOST_TICKS => k_is)
      (case e_MOST_TIME => k_is)
      (case e_MOST_RANK => k_is)
      (case e_MOST_STEPS => k_is)
      (case e_NEVER => k_is)
      (case e_MOST_TASKS => k_is)
      (case e_MOST_TICKS_A_RUN => k_is)
      (case e_NOBODY_WORKED => k_is)
      (case e_NO_JOB => k_is)
      (case e_ABLE_WITHOUT_LOCK => k_is)
      (case e_ABLE_WITH_LOCK => k_is)
      (case e_NOT_ABLE => k_is)
      (case e_CLEAR => k_is)
      (case e_ORDER => k_is)
      (case e_TASK => k_is)
      (case e_RUN => k_is)
      (case e_NOW => k_is)
      (case e_KNOWN => k_is)
      (case e_STATE => k_is)
      (case e_OWNER => k_is)
      (case e_TASK_HEAD => k_is)
      (case z_len => k_is)
      (case z_all => k_is)
      (case z_any => k_is)
      (case z_max => k_is)
      (case z_enumerate => k_is)
      (case z_min => k_is)
      (case a_Task => k_is)
      (case pg_Task => k_is)
      (case hd_Task => k_is)
      (case po_Task => k_is)
      (case sa_Task => k_is)
      (case mk_Task => k_is)
      (case kc_Task => k_is)
      (case na_Task_period => k_is)
      (case na_Task_deadline => k_is)
      (case na_Task_rank => k_is)
      (case na_Task_steps => k_is)
      (case na_Task_comes_at => k_is)
      (case na_Task_jobs_done => k_is)
      (case na_Task_missed_deadlines => k_is)
      (case na_Task_jobs_left_out => k_is)
      (case na_Task_longest => k_is)
      (case a_Job => k_is)
      (case pg_Job => k_is)
      (case hd_Job => k_is)
      (case po_Job => k_is)
      (case sa_Job => k_is)
      (case mk_Job => k_is)
      (case kc_Job => k_is)
      (case na_Job_number => k_is)
      (case na_Job_steps => k_is)
      (case na_Job_came_at => k_is)
      (case na_Job_late_at => k_is)
      (case na_Job_own_urgency => k_is)
      (case na_Job_place => k_is)
      (case na_Job_worked => k_is)
      (case na_Job_waits_for => k_is)
      (case a_Scheduler => k_is)
      (case pg_Scheduler => k_is)
      (case hd_Scheduler => k_is)
      (case po_Scheduler => k_is)
      (case sa_Scheduler => k_is)
      (case mk_Scheduler => k_is)
      (case kc_Scheduler => k_is)
      (case na_Scheduler_by_deadline => k_is)
      (case na_Scheduler_now => k_is)
      (case na_Scheduler_tasks => k_is)
      (case na_Scheduler_jobs => k_is)
      (case na_Scheduler_owners => k_is)
      (case a_is_work => k_is)
      (case l_is_work => k_is)
      (case c_is_work => k_is)
      (case k_is_work => k_is)
      (case a_is_take => k_is)
      (case l_is_take => k_is)
      (case c_is_take => k_is)
      (case k_is_take => k_is)
      (case a_is_give => k_is)
      (case l_is_give => k_is)
      (case c_is_give => k_is)
      (case k_is_give => k_is)
      (case a_lock_of => k_is)
      (case l_lock_of => k_is)
      (case c_lock_of => k_is)
      (case k_lock_of => k_is)
      (case a_locks_are_right => k_is)
      (case l_locks_are_right => k_is)
      (case c_locks_are_right => k_is)
      (case k_locks_are_right => k_is)
      (case a_steps_are_right => k_is)
      (case l_steps_are_right => k_is)
      (case c_steps_are_right => k_is)
      (case k_steps_are_right => k_is)
      (case a_task_is_right => k_is)
      (case l_task_is_right => k_is)
      (case c_task_is_right => k_is)
      (case k_task_is_right => k_is)
      (case a_Task_init => k_is)
      (case i_Task_init => k_is)
      (case l_Task_init => k_is)
      (case c_Task_init => k_is)
      (case k_Task_init => k_is)
      (case a_Task_pass_coming => k_is)
      (case i_Task_pass_coming => k_is)
      (case l_Task_pass_coming => k_is)
      (case c_Task_pass_coming => k_is)
      (case k_Task_pass_coming => k_is)
      (case a_Task_count_done => k_is)
      (case i_Task_count_done => k_is)
      (case l_Task_count_done => k_is)
      (case c_Task_count_done => k_is)
      (case k_Task_count_done => k_is)
      (case a_Task_known => k_is)
      (case i_Task_known => k_is)
      (case l_Task_known => k_is)
      (case c_Task_known => k_is)
      (case k_Task_known => k_is)
      (case a_Job_init => k_is)
      (case i_Job_init => k_is)
      (case l_Job_init => k_is)
      (case c_Job_init => k_is)
      (case k_Job_init => k_is)
      (case a_Job_current_step => k_is)
      (case i_Job_current_step => k_is)
      (case l_Job_current_step => k_is)
      (case c_Job_current_step => k_is)
      (case k_Job_current_step => k_is)
      (case a_Job_work_left => k_is)
      (case i_Job_work_left => k_is)
      (case l_Job_work_left => k_is)
      (case c_Job_work_left => k_is)
      (case k_Job_work_left => k_is)
      (case a_Job_end_step => k_is)
      (case i_Job_end_step => k_is)
      (case l_Job_end_step => k_is)
      (case c_Job_end_step => k_is)
      (case k_Job_end_step => k_is)
      (case a_Job_is_done => k_is)
      (case i_Job_is_done => k_is)
      (case l_Job_is_done => k_is)
      (case c_Job_is_done => k_is)
      (case k_Job_is_done => k_is)
      (case a_Job_is_at_work => k_is)
      (case i_Job_is_at_work => k_is)
      (case l_Job_is_at_work => k_is)
      (case c_Job_is_at_work => k_is)
      (case k_Job_is_at_work => k_is)
      (case a_Scheduler_init => k_is)
      (case i_Scheduler_init => k_is)
      (case l_Scheduler_init => k_is)
      (case c_Scheduler_init => k_is)
      (case k_Scheduler_init => k_is)
      (case a_Scheduler_set_order => k_is)
      (case i_Scheduler_set_order => k_is)
      (case l_Scheduler_set_order => k_is)
      (case c_Scheduler_set_order => k_is)
      (case k_Scheduler_set_order => k_is)
      (case a_Scheduler_add_task => k_is)
      (case i_Scheduler_add_task => k_is)
      (case l_Scheduler_add_task => k_is)
      (case c_Scheduler_add_task => k_is)
      (case k_Scheduler_add_task => k_is)
      (case a_Scheduler_run => k_is)
      (case i_Scheduler_run => k_is)
      (case l_Scheduler_run => k_is)
      (case c_Scheduler_run => k_is)
      (case k_Scheduler_run => k_is)
      (case a_Scheduler_known => k_is)
      (case i_Scheduler_known => k_is)
      (case l_Scheduler_known => k_is)
      (case c_Scheduler_known => k_is)
      (case k_Scheduler_known => k_is)
      (case a_Scheduler_state => k_is)
      (case i_Scheduler_state => k_is)
      (case l_Scheduler_state => k_is)
      (case c_Scheduler_state => k_is)
      (case k_Scheduler_state => k_is)
      (case a_Scheduler_owner => k_is)
      (case i_Scheduler_owner => k_is)
      (case l_Scheduler_owner => k_is)
      (case c_Scheduler_owner => k_is)
      (case k_Scheduler_owner => k_is)
      (case a_Scheduler_is_task => k_is)
      (case i_Scheduler_is_task => k_is)
      (case l_Scheduler_is_task => k_is)
      (case c_Scheduler_is_task => k_is)
      (case k_Scheduler_is_task => k_is)
      (case a_Scheduler_let_jobs_come => k_is)
      (case i_Scheduler_let_jobs_come => k_is)
      (case l_Scheduler_let_jobs_come => k_is)
      (case c_Scheduler_let_jobs_come => k_is)
      (case k_Scheduler_let_jobs_come => k_is)
      (case a_Scheduler_new_job => k_is)
      (case i_Scheduler_new_job => k_is)
      (case l_Scheduler_new_job => k_is)
      (case c_Scheduler_new_job => k_is)
      (case k_Scheduler_new_job => k_is)
      (case a_Scheduler_tell_late => k_is)
      (case i_Scheduler_tell_late => k_is)
      (case l_Scheduler_tell_late => k_is)
      (case c_Scheduler_tell_late => k_is)
      (case k_Scheduler_tell_late => k_is)
      (case a_Scheduler_find_worker => k_is)
      (case i_Scheduler_find_worker => k_is)
      (case l_Scheduler_find_worker => k_is)
      (case c_Scheduler_find_worker => k_is)
      (case k_Scheduler_find_worker => k_is)
      (case a_Scheduler_chosen_job => k_is)
      (case i_Scheduler_chosen_job => k_is)
      (case l_Scheduler_chosen_job => k_is)
      (case c_Scheduler_chosen_job => k_is)
      (case k_Scheduler_chosen_job => k_is)
      (case a_Scheduler_able_job_behind => k_is)
      (case i_Scheduler_able_job_behind => k_is)
      (case l_Scheduler_able_job_behind => k_is)
      (case c_Scheduler_able_job_behind => k_is)
      (case k_Scheduler_able_job_behind => k_is)
      (case a_Scheduler_is_able => k_is)
      (case i_Scheduler_is_able => k_is)
      (case l_Scheduler_is_able => k_is)
      (case c_Scheduler_is_able => k_is)
      (case k_Scheduler_is_able => k_is)
      (case a_Scheduler_do_lock_step => k_is)
      (case i_Scheduler_do_lock_step => k_is)
      (case l_Scheduler_do_lock_step => k_is)
      (case c_Scheduler_do_lock_step => k_is)
      (case k_Scheduler_do_lock_step => k_is)
      (case a_Scheduler_leave_step => k_is)
      (case i_Scheduler_leave_step => k_is)
      (case l_Scheduler_leave_step => k_is)
      (case c_Scheduler_leave_step => k_is)
      (case k_Scheduler_leave_step => k_is)
      (case a_Scheduler_ticks_alike => k_is)
      (case i_Scheduler_ticks_alike => k_is)
      (case l_Scheduler_ticks_alike => k_is)
      (case c_Scheduler_ticks_alike => k_is)
      (case k_Scheduler_ticks_alike => k_is)
      (case a_Scheduler_work => k_is)
      (case i_Scheduler_work => k_is)
      (case l_Scheduler_work => k_is)
      (case c_Scheduler_work => k_is)
      (case k_Scheduler_work => k_is)
      (case a_answers => k_is)
      (case l_answers => k_is)
      (case c_answers => k_is)
      (case k_answers => k_is)
      (case a_call_size => k_is)
      (case l_call_size => k_is)
      (case c_call_size => k_is)
      (case k_call_size => k_is)
      (case a_answer_call => k_is)
      (case l_answer_call => k_is)
      (case c_answer_call => k_is)
      (case k_answer_call => k_is)
    obtain ⟨a, T, e⟩ := T
    have e0 := hmg.symm.trans e
    cases e0
    exact ⟨_, T.ba_answers, fun base _ _ => My.ok_answers T⟩
