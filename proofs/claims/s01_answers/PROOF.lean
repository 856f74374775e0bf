import PyProof.Rows.All
import Wide.All
import OpenK.AllK
import Wide.FinOn
import PyProof.EqAt
import PyProof.EqKinds
import PyProof.TupleCall
import KE.BitLaws
import Open.SpecLaws
import KE.OsHead
import KE.OsGo
import PySu99
import PySem.Challenge.RW_fewestcoins_s01_answers
-- CHANGE: your row's module here, as the last of these rows
set_option Elab.async false
set_option linter.all false
set_option maxRecDepth 100000
/-! THE HAND LAYER, for ints, bools, texts, own classes, lists, tuples, dicts, comprehensions, walks over dicts, enumerate, zip, reversed, texts, calls, loops. Paste it whole ahead of your own text; what your proof does not reach may be deleted. -/
namespace L2
open PySem PySem.Spec PyProof.Rows

/-- a key: an int or a str -/
abbrev Key := Sum Int Str
def keyIs : Key → Value → Bool
  | .inl k, v => Value.isInt k v
  | .inr x, v => Value.isStrOf x v
def keyH (w : World) : Key → Int
  | .inl k => hashInt k
  | .inr x => hashStr w x
theorem keyIs_shape : ∀ {k : Key} {v : Value}, keyIs k v = true → (∃ i t, k = Sum.inl i ∧ v = Value.int i t) ∨ (∃ x t, k = Sum.inr x ∧ v = Value.str x t)
  | .inl i, v, h => by
    obtain ⟨t, e⟩ := Value.isInt_shape (k := i) (v := v) h
    exact .inl ⟨i, t, rfl, e⟩
  | .inr x, v, h => by
    obtain ⟨t, e⟩ := Value.isStrOf_shape (x := x) (v := v) h
    exact .inr ⟨x, t, rfl, e⟩
theorem keyIs_int (i : Int) (t : Tok) : keyIs (.inl i) (.int i t) = true := by simp [keyIs, Value.isInt]
theorem keyIs_str (x : Str) (t : Tok) : keyIs (.inr x) (.str x t) = true := by simp [keyIs, Value.isStrOf]
theorem key_ll (a b : Int) : decide ((Sum.inl a : Key) = Sum.inl b) = (a == b) := by
  by_cases e : a = b
  · subst e; simp
  · have h : ¬ (Sum.inl a : Key) = Sum.inl b := fun q => e (Sum.inl.inj q)
    rw [decide_eq_false h]
    exact (beq_eq_false_iff_ne.mpr e).symm
theorem key_rr (a b : Str) : decide ((Sum.inr a : Key) = Sum.inr b) = decide (a = b) := by
  by_cases e : a = b
  · subst e; simp
  · have h : ¬ (Sum.inr a : Key) = Sum.inr b := fun q => e (Sum.inr.inj q)
    rw [decide_eq_false h, decide_eq_false e]
theorem key_lr (a : Int) (b : Str) : decide ((Sum.inl a : Key) = Sum.inr b) = false := decide_eq_false (fun q => nomatch q)
theorem key_rl (a : Str) (b : Int) : decide ((Sum.inr a : Key) = Sum.inl b) = false := decide_eq_false (fun q => nomatch q)

def mixKind (prog : Program) (w : World) : PySem.KeyKind prog w Key where
  is := keyIs
  hash := keyH w
  inj := fun v a b ha hb => by
    rcases keyIs_shape ha with ⟨i, t, rfl, rfl⟩ | ⟨x, t, rfl, rfl⟩
    · rcases keyIs_shape hb with ⟨j, u, rfl, e⟩ | ⟨y, u, rfl, e⟩
      · injection e with e1 _; rw [e1]
      · exact nomatch e
    · rcases keyIs_shape hb with ⟨j, u, rfl, e⟩ | ⟨y, u, rfl, e⟩
      · exact nomatch e
      · injection e with e1 _; rw [e1]
  byValue := fun k v h => by
    rcases keyIs_shape h with ⟨i, t, rfl, rfl⟩ | ⟨x, t, rfl, rfl⟩ <;> rfl
  pyHash := fun hv h => by
    rcases keyIs_shape hv with ⟨i, t, rfl, rfl⟩ | ⟨x, t, rfl, rfl⟩
    · exact wpAny_pyHash_int h
    · exact wpAny_pyHash_str h
  eqBool := fun hu hv h => by
    rcases keyIs_shape hu with ⟨i, t, rfl, rfl⟩ | ⟨x, t, rfl, rfl⟩
    · rcases keyIs_shape hv with ⟨j, u, rfl, rfl⟩ | ⟨y, u, rfl, rfl⟩
      · rw [key_ll] at h; exact wpAny_eqBool_int h
      · rw [key_lr] at h; exact SeqAt.EqAt.int_str i t y u _ _ _ _ h
    · rcases keyIs_shape hv with ⟨j, u, rfl, rfl⟩ | ⟨y, u, rfl, rfl⟩
      · rw [key_rl] at h; exact SeqAt.EqAt.str_int x t j u _ _ _ _ h
      · rw [key_rr] at h; exact wpAny_eqBool_str h
  «strs» := fun k x t v h => by
    rcases keyIs_shape h with ⟨i, u, rfl, e⟩ | ⟨y, u, rfl, e⟩
    · exact nomatch e
    · injection e with e1 _
      subst e1
      cases v <;> rfl

theorem mixKind_int (prog : Program) (w : World) (i : Int) (t : Tok) : (mixKind prog w).is (.inl i) (.int i t) = true := keyIs_int i t
theorem mixKind_str (prog : Program) (w : World) (x : Str) (t : Tok) : (mixKind prog w).is (.inr x) (.str x t) = true := keyIs_str x t
end L2

namespace L2
open PySem PySem.Spec PyProof.Rows

/-- a value, without the heap -/
inductive V where
  | non | bl (b : Bool) | int (i : Int) | str (x : Str) | byt (b : Array UInt8) | flt (b : UInt64) | ref (a : Addr) | ty (n : String)
  deriving DecidableEq

def RelV : V → Value → Prop
  | .non, u => u = Value.none
  | .bl b, u => u = Value.bool b
  | .int i, u => ∃ t, u = Value.int i t
  | .str x, u => ∃ t, u = Value.str x t
  | .byt b, u => ∃ t, u = Value.bytes b t
  | .flt b, u => ∃ t, u = Value.float b t
  | .ref a, u => u = Value.ref a
  | .ty n, u => u = Value.type n

abbrev Vals : List V → List Value → Prop := Paired RelV
theorem Vals.length {xs : List V} {us : List Value} (r : Vals xs us) : xs.length = us.length := Paired.length r
theorem Vals.get : ∀ {xs : List V} {us : List Value} {i : Nat} {x : V}, Vals xs us → xs[i]? = some x → ∃ u, us[i]? = some u ∧ RelV x u
  | _, _, _, _, .nil, e => by simp at e
  | _, _, 0, _, .cons r _, e => by simp at e; subst e; exact ⟨_, rfl, r⟩
  | _, _, i + 1, x, .cons _ t, e => by
    obtain ⟨u, h1, h2⟩ := Vals.get (i := i) (x := x) t (by simpa using e)
    exact ⟨u, by simpa using h1, h2⟩
theorem Vals.set {x : V} {u : Value} (r : RelV x u) : ∀ {xs : List V} {us : List Value} (i : Nat), Vals xs us → Vals (xs.set i x) (us.set i u)
  | _, _, _, .nil => .nil
  | _, _, 0, .cons _ t => .cons r t
  | _, _, i + 1, .cons q t => .cons q (Vals.set r i t)
theorem Vals.append : ∀ {xs ys : List V} {us ws : List Value}, Vals xs us → Vals ys ws → Vals (xs ++ ys) (us ++ ws)
  | _, _, _, _, .nil, s => s
  | _, _, _, _, .cons r t, s => .cons r (Vals.append t s)
theorem Vals.take : ∀ {xs : List V} {us : List Value} (n : Nat), Vals xs us → Vals (xs.take n) (us.take n)
  | _, _, 0, _ => .nil
  | _, _, _ + 1, .nil => .nil
  | _, _, n + 1, .cons r t => .cons r (Vals.take n t)
theorem Vals.drop : ∀ {xs : List V} {us : List Value} (n : Nat), Vals xs us → Vals (xs.drop n) (us.drop n)
  | _, _, 0, r => r
  | _, _, _ + 1, .nil => .nil
  | _, _, n + 1, .cons _ t => Vals.drop n t

def RelO : Option V → Option Value → Prop
  | some v, some u => RelV v u
  | none, none => True
  | _, _ => False
def KV {κ : Type} : List (κ × V) → List (κ × Value) → Prop := Paired fun (p : κ × V) (q : κ × Value) => p.1 = q.1 ∧ RelV p.2 q.2

/-- a key of a dict (00_mix): an int or a text -/
def kV : Key → V
  | .inl i => .int i
  | .inr x => .str x

/-- what stands at a tracked address -/
inductive HO where
  /-- a list -/
  | lst (xs : List V)
  /-- a tuple (never changes) -/
  | tup (xs : List V)
  /-- a dict whose keys are ints and texts; one whose keys are tuples of ints and texts (the empty one is both) -/
  | dK (kvs : List (Key × V)) | dT (kvs : List (List Key × V))
  /-- a set of ints: its members, its size -/
  | set (S : Int → Bool) (n : Nat)
  /-- an instance of the class at C, its dict at dx, its attributes -/
  | ins (C dx : Addr) (fs : List (Str × V))
  /-- the dict of the instance at x -/
  | own (x : Addr)
  /-- the dict of an exception -/
  | xd (fs : List (Str × V))
  /-- a bound method, f of x -/
  | met (f x : Addr)
  /-- a range object lo, lo + 1, .. below hi -/
  | rng (lo hi : Int)
  /-- a thing that is known to the object (the script; a dict while a loop walks it): read, never written while it is so -/
  | frz (o : Obj) (u : HO)
  /-- a code object's table -/
  | tbl (ps : Array Value)
  /-- any other thing, by what is true of its one object (a def of one's own: SetO a S n := HO.ext fun h => ..) -/
  | ext (φ : Heap → Prop)

abbrev Hp := Addr → Option HO
def upd (H : Hp) (a : Addr) (o : HO) : Hp := fun b => if b = a then some o else H b
theorem upd_same {H : Hp} {a : Addr} {o : HO} : upd H a o a = some o := by unfold upd; rw [if_pos rfl]
theorem upd_ne {H : Hp} {a b : Addr} {o : HO} (h : b ≠ a) : upd H a o b = H b := by unfold upd; rw [if_neg h]
theorem upd_upd {H : Hp} {a : Addr} {o u : HO} : upd (upd H a o) a u = upd H a u := by
  funext b; unfold upd; split <;> rfl
/-- two objects of different content stand apart -/
theorem ne_of {H : Hp} {a b : Addr} {o u : HO} (h : H a = some o) (h' : H b = some u) (d : o ≠ u) : a ≠ b := by
  intro e; subst e; rw [h] at h'; exact d (Option.some.inj h')
theorem ne_of_none {H : Hp} {a b : Addr} {o : HO} (h : H a = some o) (h' : H b = none) : a ≠ b := by
  intro e; subst e; rw [h] at h'; cases h'

section
variable (P : Program) (w : World)
def ObjOk (H : Hp) (h : Heap) (a : Addr) : HO → Prop
  | .lst xs => xs.length ≤ sizeLine ∧ ∃ (its : List Value) (n : Nat), Vals xs its ∧ h.get? a = some { cls := .type "list", data := .seq its.toArray n }
  | .tup xs => xs.length ≤ sizeLine ∧ ∃ its : List Value, Vals xs its ∧ IsTup h a its.toArray
  | .dK kvs => kvs.length ≤ sizeLine ∧ (a == sysModules) = false ∧ ∃ vs, KV kvs vs ∧ h.DictOf (mixKind P w) a vs
  | .dT kvs => kvs.length ≤ sizeLine ∧ (a == sysModules) = false ∧ ∃ xs : List (List Key × Addr × Value),
      Paired (fun (p : List Key × V) (q : List Key × Addr × Value) => p.1 = q.1 ∧ H q.2.1 = some (.tup (p.1.map kV)) ∧ RelV p.2 q.2.2) kvs xs ∧
      ∃ o es ep, h.get? a = some o ∧ o.ExactDict ∧ o.data = .dict es ep ∧ es.toList = xs.map (entryOfKey (tupleKind (mixKind P w))) ∧ (xs.map (·.1)).Nodup
  | .set S n => h.SetOf (intKind P w) a S n
  | .ins C dx fs => H dx = some (.own a) ∧ fs.length ≤ 1000 ∧ dx ≠ a ∧ h.get? a = some (PySem.W.instObj C dx) ∧
      ∃ mA, h.Ns1 dx mA ∧ (∀ f, RelO (fs.lookup f) (mA f)) ∧ PySem.Within mA (fs.map (·.1))
  | .own _ => ∃ o, h.get? a = some o
  | .xd fs => ∃ mA, h.Ns1 a mA ∧ ∀ f, RelO (fs.lookup f) (mA f)
  | .rng lo hi => ∃ t u v, h.get? a = some { cls := .type "range", data := .fields #[.int lo t, .int hi u, .int 1 v] }
  | .frz o u => h.get? a = some o ∧ ObjOk H h a u
  | .tbl ps => h.get? a = some { cls := .none, data := .fields ps }
  | .met f x => h.get? a = some (PySem.W.methodObj (.ref f) (.ref x))
  | .ext φ => φ h ∧ (∃ o, h.get? a = some o) ∧ ∀ h1 h2 : Heap, φ h1 → (∀ o, h1.get? a = some o → h2.get? a = some o) → φ h2
/-- the abstract heap is held -/
def HOk (H : Hp) (h : Heap) : Prop := ∀ a o, H a = some o → ObjOk P w H h a o
end

section
variable {P : Program} {w : World} {H H' : Hp} {h h' : Heap} {a : Addr} {o : HO}
theorem ObjOk.lt (x : ObjOk P w H h a o) : a < h.objs.size := by
  cases o with
  | lst xs => obtain ⟨_, _, _, _, e⟩ := x; exact Heap.lt_size e
  | tup xs => obtain ⟨_, _, _, p⟩ := x; exact p.lt
  | dK kvs => obtain ⟨_, _, _, _, o, _, _, e, _⟩ := x; exact Heap.lt_size e
  | dT kvs => obtain ⟨_, _, _, _, o, _, _, e, _⟩ := x; exact Heap.lt_size e
  | set S n => obtain ⟨o, _, _, _, e, _⟩ := x; exact Heap.lt_size e
  | ins C dx fs => obtain ⟨_, _, _, e, _⟩ := x; exact Heap.lt_size e
  | own y => obtain ⟨_, e⟩ := x; exact Heap.lt_size e
  | xd fs => obtain ⟨_, ⟨_, _, _, e, _⟩, _⟩ := x; exact Heap.lt_size e
  | rng lo hi => obtain ⟨_, _, _, e⟩ := x; exact Heap.lt_size e
  | frz ob u => obtain ⟨e, _⟩ := x; exact Heap.lt_size e
  | tbl ps => exact Heap.lt_size (show h.get? a = some _ from x)
  | met f y => exact Heap.lt_size (show h.get? a = some _ from x)
  | ext φ => obtain ⟨_, ⟨_, e⟩, _⟩ := x; exact Heap.lt_size e
theorem Paired.mapP {α β : Type} {F G : α → β → Prop} : ∀ {l₁ : List α} {l₂ : List β}, Paired F l₁ l₂ → (∀ a b, F a b → G a b) → Paired G l₁ l₂
  | _, _, .nil, _ => .nil
  | _, _, .cons r t, f => .cons (f _ _ r) (Paired.mapP t f)
/-- what an object's description leans on: its own object, its own dict, the tuples -/
theorem ObjOk.stay (x : ObjOk P w H h a o) (k : ∀ b u, (b = a ∨ H b = some (.own a)) → h.get? b = some u → h'.get? b = some u)
    (ho : ∀ b, H b = some (.own a) → H' b = some (.own a)) (ht : ∀ b xs, H b = some (.tup xs) → H' b = some (.tup xs)) : ObjOk P w H' h' a o := by
  induction o with
  | lst xs => obtain ⟨z, its, n, r, e⟩ := x; exact ⟨z, its, n, r, k _ _ (.inl rfl) e⟩
  | tup xs => obtain ⟨z, its, r, ob, e, c⟩ := x; exact ⟨z, its, r, ob, k _ _ (.inl rfl) e, c⟩
  | dK kvs => obtain ⟨z, y, vs, r, ob, es, ep, e, c⟩ := x; exact ⟨z, y, vs, r, ob, es, ep, k _ _ (.inl rfl) e, c⟩
  | dT kvs =>
    obtain ⟨z, y, xs, r, ob, es, ep, e, c⟩ := x
    exact ⟨z, y, xs, Paired.mapP r fun p q z => ⟨z.1, ht _ _ z.2.1, z.2.2⟩, ob, es, ep, k _ _ (.inl rfl) e, c⟩
  | set S n => obtain ⟨ob, es, ep, t, e, c⟩ := x; exact ⟨ob, es, ep, t, k _ _ (.inl rfl) e, c⟩
  | ins C dx fs =>
    obtain ⟨d, z, ne, e, mA, ⟨od, es, ep, e2, c⟩, r⟩ := x
    exact ⟨ho _ d, z, ne, k _ _ (.inl rfl) e, mA, ⟨od, es, ep, k _ _ (.inr d) e2, c⟩, r⟩
  | own y => obtain ⟨ob, e⟩ := x; exact ⟨ob, k _ _ (.inl rfl) e⟩
  | xd fs => obtain ⟨mA, ⟨od, es, ep, e, c⟩, r⟩ := x; exact ⟨mA, ⟨od, es, ep, k _ _ (.inl rfl) e, c⟩, r⟩
  | rng lo hi => obtain ⟨t, u, v, e⟩ := x; exact ⟨t, u, v, k _ _ (.inl rfl) e⟩
  | frz ob u ih => obtain ⟨e, q⟩ := x; exact ⟨k _ _ (.inl rfl) e, ih q⟩
  | tbl ps =>
    have e : h.get? a = some { cls := .none, data := .fields ps } := x
    show h'.get? a = some { cls := .none, data := .fields ps }
    exact k a _ (.inl rfl) e
  | met f y =>
    have e : h.get? a = some (PySem.W.methodObj (.ref f) (.ref y)) := x
    show h'.get? a = some (PySem.W.methodObj (.ref f) (.ref y))
    exact k a _ (.inl rfl) e
  | ext φ => obtain ⟨p, ⟨o, e⟩, st⟩ := x; exact ⟨st _ _ p fun o q => k _ _ (.inl rfl) q, ⟨o, k _ _ (.inl rfl) e⟩, st⟩
theorem HOk.lt (x : HOk P w H h) (e : H a = some o) : a < h.objs.size := (x a o e).lt
theorem HOk.fresh (x : HOk P w H h) (e : h.objs.size ≤ a) : H a = none := by
  cases q : H a with
  | none => rfl
  | some u => exact absurd (Nat.lt_of_lt_of_le (x.lt q) e) (Nat.lt_irrefl _)
/-- every object of the heap is kept -/
theorem HOk.kept (x : HOk P w H h) (k : ∀ b u, h.get? b = some u → h'.get? b = some u) : HOk P w H h' := fun a o e =>
  (x a o e).stay (fun b u _ q => k b u q) (fun _ q => q) fun _ _ q => q
/-- a new object is laid and tracked -/
theorem HOk.laid (x : HOk P w H h) (k : ∀ b u, h.get? b = some u → h'.get? b = some u) (hp : h.objs.size ≤ a) (new : ObjOk P w (upd H a o) h' a o) : HOk P w (upd H a o) h' := fun b u e => by
  have hn := x.fresh hp
  by_cases hb : b = a
  · subst hb; rw [upd_same] at e; cases e; exact new
  · rw [upd_ne hb] at e
    exact (x b u e).stay (fun c v _ q => k c v q) (fun c q => by rw [upd_ne (ne_of_none q hn)]; exact q) fun c xs q => by rw [upd_ne (ne_of_none q hn)]; exact q
end

/-- what may be read as u: it is u, or a known u -/
def Rd (H : Hp) (a : Addr) (u : HO) : Prop := H a = some u ∨ ∃ o, H a = some (.frz o u)
theorem Rd.ok {P : Program} {w : World} {H : Hp} {h : Heap} {a : Addr} {u : HO} (r : Rd H a u) (x : HOk P w H h) : ObjOk P w H h a u := by
  rcases r with r | ⟨o, r⟩
  · exact x a u r
  · obtain ⟨_, q⟩ := x a _ r
    exact q
/-- what may be written -/
def Mut : Option HO → Prop
  | some (.lst _) => True
  | some (.dK _) => True
  | some (.dT _) => True
  | some (.set _ _) => True
  | some (.ins _ _ _) => True
  | some (.ext _) => True
  | _ => False
section
variable {P : Program} {w : World} {H : Hp} {h h' : Heap} {x e : Addr} {o' : HO}
/-- the object at e is changed: x itself, or the dict of the instance x -/
theorem HOk.write (ok : HOk P w H h) (mu : Mut (H x)) (he : e = x ∨ H e = some (.own x)) (k : ∀ b u, b ≠ e → h.get? b = some u → h'.get? b = some u) (heo : ∃ u, h'.get? e = some u)
    (new : ObjOk P w (upd H x o') h' x o') : HOk P w (upd H x o') h' := fun b u q => by
  have nown : ∀ c y, H c = some (.own y) → c ≠ x := fun c y r z => by subst z; rw [r] at mu; exact mu
  have ntup : ∀ c xs, H c = some (.tup xs) → c ≠ x := fun c xs r z => by subst z; rw [r] at mu; exact mu
  by_cases hb : b = x
  · subst hb; rw [upd_same] at q; cases q; exact new
  · rw [upd_ne hb] at q
    by_cases hbe : b = e
    · have q' : H b = some (.own x) := by
        rcases he with z | z
        · exact absurd (hbe.trans z) hb
        · rw [hbe]; exact z
      rw [q] at q'; cases q'
      obtain ⟨v, hv⟩ := heo
      exact ⟨v, by rw [hbe]; exact hv⟩
    · refine (ok b u q).stay (fun c v hc r => k c v ?_ r) (fun c r => by rw [upd_ne (nown c b r)]; exact r) fun c xs r => by rw [upd_ne (ntup c xs r)]; exact r
      rcases hc with rfl | hc
      · exact hbe
      · rintro rfl
        rcases he with z | z
        · exact nown c b hc z
        · rw [hc] at z; cases z; exact hb rfl
end

/-! ### kept unless tracked; of the frames at fs (the callers') the slots may change (an exception that passes writes there); of the records at ex (iterators) nothing is said -/
structure Un (fs ex : List Addr) (H H' : Hp) (h h' : Heap) : Prop where
  keep : ∀ b o, h.get? b = some o → H b = none → b ∉ fs → b ∉ ex → h'.get? b = some o
  slot : ∀ b o, h.get? b = some o → H b = none → b ∈ fs → b ∉ ex → ∃ sl, h'.get? b = some { o with slots := sl }
  free : ∀ b o, h.get? b = some o → H b = none → b ∉ ex → H' b = none
  there : ∀ b o, h.get? b = some o → b ∉ ex → ∃ o', h'.get? b = some o'
  tups : ∀ b xs, H b = some (.tup xs) → H' b = some (.tup xs)
  frzs : ∀ b o u, H b = some (.frz o u) → H' b = some (.frz o u)
  tbls : ∀ b ps, H b = some (.tbl ps) → ∃ more, H' b = some (.tbl (ps ++ more))
section
variable {fs fs' ex ex' : List Addr} {H H1 H2 : Hp} {h h1 h2 h' : Heap} {a x e : Addr} {o : HO}
theorem Un.any (u : Un fs ex H H1 h h1) {b : Addr} {ob : Obj} (q : h.get? b = some ob) (n : H b = none) (hx : b ∉ ex) : ∃ sl, h1.get? b = some { ob with slots := sl } := by
  by_cases hb : b ∈ fs
  · exact u.slot b ob q n hb hx
  · exact ⟨ob.slots, u.keep b ob q n hb hx⟩
theorem Un.kept (k : ∀ b u, h.get? b = some u → h'.get? b = some u) : Un fs ex H H h h' :=
  ⟨fun b ob q _ _ _ => k b ob q, fun b ob q _ _ _ => ⟨ob.slots, k b ob q⟩, fun _ _ _ n _ => n, fun b ob q _ => ⟨ob, k b ob q⟩, fun _ _ q => q, fun _ _ _ q => q, fun _ ps q => ⟨#[], by rw [q]; simp⟩⟩
theorem Un.refl : Un fs ex H H h h := Un.kept fun _ _ q => q
theorem Un.laid (k : ∀ b u, h.get? b = some u → h'.get? b = some u) (hp : h.objs.size ≤ a) (hn : H a = none) : Un fs ex H (upd H a o) h h' where
  keep := fun b u q _ _ _ => k b u q
  slot := fun b u q _ _ _ => ⟨u.slots, k b u q⟩
  free := fun b u q n _ => by rw [upd_ne (Nat.ne_of_lt (Nat.lt_of_lt_of_le (Heap.lt_size q) hp))]; exact n
  there := fun b u q _ => ⟨u, k b u q⟩
  tups := fun b xs q => by rw [upd_ne (ne_of_none q hn)]; exact q
  frzs := fun b u xs q => by rw [upd_ne (ne_of_none q hn)]; exact q
  tbls := fun b ps q => ⟨#[], by rw [upd_ne (ne_of_none q hn), q]; simp⟩
theorem Un.write (mu : Mut (H x)) (he : e = x ∨ H e = some (.own x)) (k : ∀ b u, b ≠ e → h.get? b = some u → h'.get? b = some u) (heo : ∃ u, h'.get? e = some u) : Un fs ex H (upd H x o) h h' := by
  have hx : ∀ b, H b = none → b ≠ x := fun b n z => by subst z; rw [n] at mu; exact mu
  have hb : ∀ b, H b = none → b ≠ e := fun b n z => by
    subst z
    rcases he with r | r
    · exact hx b n r
    · rw [n] at r; cases r
  have hm : ∀ b u, H b = some u → ¬ Mut (some u) → b ≠ x := fun b u q nm z => by subst z; rw [q] at mu; exact nm mu
  refine ⟨fun b u q n _ _ => k b u (hb b n) q, fun b u q n _ _ => ⟨u.slots, k b u (hb b n) q⟩, fun b u q n _ => by rw [upd_ne (hx b n)]; exact n, fun b u q _ => ?_,
    fun b xs q => by rw [upd_ne (hm b _ q fun z => z)]; exact q, fun b u xs q => by rw [upd_ne (hm b _ q fun z => z)]; exact q, fun b ps q => ⟨#[], by rw [upd_ne (hm b _ q fun z => z), q]; simp⟩⟩
  by_cases hbe : b = e
  · subst hbe; exact heo
  · exact ⟨u, k b u hbe q⟩
end

/-! ### the heap without what is tracked -/
def trk (h : Heap) (H : Hp) : List Addr := (List.range h.objs.size).filter fun a => (H a).isSome
def hidT (h : Heap) (H : Hp) : Heap := PySem.W.hideAll h (trk h H)
theorem hidT_size (h : Heap) (H : Hp) : (hidT h H).objs.size = h.objs.size := PySem.W.hideAll_size _ _
theorem hidT_get {h : Heap} {H : Hp} {b : Addr} {o : Obj} (e : h.get? b = some o) (n : H b = none) : (hidT h H).get? b = some o :=
  PySem.W.hideAll_get _ e fun hm => by
    have q : (H b).isSome = true := (List.mem_filter.mp hm).2
    rw [n] at q; simp at q
theorem of_hidT {h : Heap} {H : Hp} {b : Addr} {o : Obj} (e : (hidT h H).get? b = some o) : h.get? b = some o ∧ H b = none := by
  have e' : h.get? b = some o := PySem.W.of_hideAll (trk h H) e
  refine ⟨e', ?_⟩
  cases q : H b with
  | none => rfl
  | some x =>
    have hm : b ∈ trk h H := List.mem_filter.mpr ⟨List.mem_range.mpr (Heap.lt_size e'), by simp [q]⟩
    have z : (hidT h H).get? b = none := PySem.W.hideAll_none (trk h H) hm
    rw [z] at e; cases e

/-! ### OpenK's ledger, filled with every new object but one -/
end L2

namespace L2
open PySem PySem.Spec PyProof.Rows

/-- the module's facts, over the base: the heap at the law's entry without what is tracked there -/
structure Mod (K : PySem.W.Frag) (mg : Str → Option Value) (base : Heap) : Prop where
  kin : K.In base
  glob : base.Ns mainGlobals mg
  blt : ∃ mb, base.Ns builtinsNs mb ∧ ∀ x : Str, x ≠ "__name__" → mb x = bootBuiltins x
  nolimit : base.NoLimit

/-- the context: a def's body (or a comprehension's block) running. base: fixed through the whole law; s₀, H₀: the entry; outer: the frames whose slots others may change (a def's callers); stack: all frames that run;
   ex: iterators that were made ahead of the entry and are walked here (a comprehension's); fn: the names whose cells were made at the entry (a def: all; a comprehension's block: its own); calm: not within an except suite; pn: pins that every state bears; xe: what is wanted of an exception that leaves the code -/
structure Cx where
  prog : Program
  w : World
  K : PySem.W.Frag
  mg : Str → Option Value
  base : Heap
  A : Around
  N : List Str
  s_0 : Shared
  H_0 : Hp
  env : Env
  outer : List Env
  stack : List Env
  ex : List Addr
  fn : Str → Bool
  calm : Bool
  pn : List (Addr × Obj)
  xe : Value → Shared → Prop
/-- the callers' frames -/
def frs (l : List Env) : List Addr := l.filterMap (·.frame)
abbrev Cx.fs (X : Cx) : List Addr := frs X.outer

def Vis (sc : Scope) (x : Str) : Prop := sc.names.lookup x = some .local ∨ sc.names.lookup x = some .cell ∨ sc.names.lookup x = some .free
def Loc (sc : Scope) (x : Str) : Prop := sc.names.lookup x = some .local ∨ sc.names.lookup x = some .cell
def Look (env : Env) (h : Heap) (m : Str → Option Value) (x : Str) (u : Value) : Prop :=
  (env.kindOf x = some .local ∧ m x = some u) ∨ ((env.kindOf x = some .cell ∨ env.kindOf x = some .free) ∧ ∃ c, env.cells.lookup x = some c ∧ h.IsCell c (some u))

structure Cx.Ok (X : Cx) : Prop where
  mod : Mod X.K X.mg X.base
  kind : X.env.scope.kind = .function
  glob : X.env.globals = mainGlobals
  blt : X.env.builtins = builtinsNs
  above : X.s_0.heap.objs.size ≤ X.env.locals
  inj : ∀ x y c, X.env.cells.lookup x = some c → X.env.cells.lookup y = some c → x = y
  has : ∀ x, (X.env.kindOf x = some .cell ∨ X.env.kindOf x = some .free) → ∃ c, X.env.cells.lookup x = some c
  cab : ∀ x c, X.fn x = true → X.env.cells.lookup x = some c → X.s_0.heap.objs.size ≤ c
  hd : X.calm = true → X.A.handled = none
  frames : X.A.frames = some X.stack
  stk : X.stack = X.outer ∨ (X.stack = X.env :: X.outer ∧ X.env.frame = some X.env.locals)
  exf : ∀ b ∈ X.ex, b ≠ X.env.locals ∧ ∀ x c, X.env.cells.lookup x = some c → c ≠ b
  bs : ∀ b o, X.base.get? b = some o → X.s_0.heap.get? b = some o ∧ X.H_0 b = none
  bsz : X.base.objs.size ≤ X.s_0.heap.objs.size
  noex : ∀ b o, X.base.get? b = some o → b ∉ X.ex
  exfs : ∀ b ∈ X.ex, b ∉ X.fs
  funs : X.s_0.heap.FunFrames X.base X.outer
  frf : ∀ b ∈ X.fs, X.H_0 b = none

structure Inv (X : Cx) (pins : List (Addr × Obj)) (σ : List (Option V)) (H : Hp) (s : Shared) : Prop where
  ok : X.Ok
  os : s.os = X.s_0.os
  bare : AllBare s.gens
  base : Un X.fs X.ex X.H_0 H X.s_0.heap s.heap
  loc : ∃ m, s.heap.Ns X.env.locals m ∧ ∀ (i : Nat) (x : Str) (v : V), X.N[i]? = some x → σ[i]? = some (some v) → Vis X.env.scope x → ∃ u, RelV v u ∧ Look X.env s.heap m x u
  cell : ∀ x c, X.env.cells.lookup x = some c → ∃ v, s.heap.IsCell c v
  free : H X.env.locals = none
  freeC : ∀ x c, X.env.cells.lookup x = some c → H c = none
  pin : ∀ p ∈ X.pn ++ pins, s.heap.get? p.1 = some p.2 ∧ H p.1 = none ∧ p.1 ≠ X.env.locals ∧ p.1 ∉ X.fs ∧ ∀ v, p.2.data ≠ .cell v
  hok : HOk X.prog X.w H s.heap
  len : σ.length = X.N.length

section
variable {X : Cx} {pins : List (Addr × Obj)} {σ : List (Option V)} {H H' : Hp} {s : Shared} {h' : Heap}

theorem Cx.Ok.nofr (ok : X.Ok) {b : Addr} {o : Obj} (e : X.base.get? b = some o) : b ∉ X.fs := fun hb => by
  have := (ok.funs.mem hb).1
  rw [e] at this; cases this
theorem Inv.bs (I : Inv X pins σ H s) : ∀ b o, X.base.get? b = some o → s.heap.get? b = some o ∧ H b = none := fun b o e =>
  ⟨I.base.keep b o (I.ok.bs b o e).1 (I.ok.bs b o e).2 (I.ok.nofr e) (I.ok.noex b o e), I.base.free b o (I.ok.bs b o e).1 (I.ok.bs b o e).2 (I.ok.noex b o e)⟩
theorem Inv.bk (I : Inv X pins σ H s) : ∀ b o, X.base.get? b = some o → s.heap.get? b = some o := fun b o e => (I.bs b o e).1
theorem Inv.mod (I : Inv X pins σ H s) : Mod X.K X.mg X.base := I.ok.mod
theorem Inv.kIn (I : Inv X pins σ H s) : X.K.In s.heap := I.ok.mod.kin.keeps I.bk
theorem Inv.lt (I : Inv X pins σ H s) : X.env.locals < s.heap.objs.size := let ⟨_, hn, _⟩ := I.loc; hn.lt
theorem Inv.sz (I : Inv X pins σ H s) : X.s_0.heap.objs.size ≤ s.heap.objs.size := Nat.le_trans I.ok.above (Nat.le_of_lt I.lt)
theorem Inv.nofs (I : Inv X pins σ H s) {a : Addr} (h : s.heap.objs.size ≤ a) : a ∉ X.fs := fun hb => by
  obtain ⟨_, o, ho, _⟩ := I.ok.funs.mem hb
  exact absurd (Nat.lt_of_lt_of_le (Heap.lt_size ho) (Nat.le_trans I.sz h)) (Nat.lt_irrefl _)
theorem Inv.cne (I : Inv X pins σ H s) : ∀ x c, X.env.cells.lookup x = some c → c ≠ X.env.locals := fun x c e z => by
  obtain ⟨v, o, ho, hd⟩ := I.cell x c e
  obtain ⟨m, ⟨o', es, ep, ho', hd', _⟩, _⟩ := I.loc
  rw [z, ho'] at ho; cases ho; rw [hd'] at hd; cases hd
theorem Inv.funs (I : Inv X pins σ H s) : s.heap.FunFrames X.base X.outer := by
  have all : ∀ (l : List Env), (∀ b ∈ frs l, b ∈ X.fs) → X.s_0.heap.FunFrames X.base l → s.heap.FunFrames X.base l := by
    intro l
    induction l with
    | nil => intro _ _; trivial
    | cons env r ih =>
      intro hs hl
      obtain ⟨hk, ⟨L, o, hf, hn, ho, hd⟩, hr⟩ := hl
      have hL : L ∈ X.fs := hs L (by unfold frs; rw [List.filterMap_cons, hf]; exact List.mem_cons_self)
      obtain ⟨sl, e⟩ := I.base.slot L o ho (I.ok.frf L hL) hL fun z => I.ok.exfs L z hL
      exact ⟨hk, ⟨L, _, hf, hn, e, hd⟩, ih (fun b hb => hs b (by unfold frs; rw [List.filterMap_cons, hf]; exact List.mem_cons_of_mem _ hb)) hr⟩
  exact all X.outer (fun _ hb => hb) I.ok.funs

/-- the frames that run, for a call -/
theorem Inv.stack (I : Inv X pins σ H s) : s.heap.FunFrames X.base X.stack := by
  rcases I.ok.stk with e | ⟨e, hf⟩
  · rw [e]; exact I.funs
  · rw [e]
    obtain ⟨m, hn, _⟩ := I.loc
    refine .cons (by rw [I.ok.kind]; decide) hf hn ?_ I.funs
    exact Heap.get?_none_of_le (Nat.le_trans I.ok.bsz I.ok.above)
theorem Inv.stkSub (I : Inv X pins σ H s) : ∀ b ∈ frs X.stack, b ∈ X.env.locals :: X.fs := fun b hb => by
  rcases I.ok.stk with e | ⟨e, hf⟩
  · rw [e] at hb; exact List.mem_cons_of_mem _ hb
  · rw [e] at hb
    unfold frs at hb
    rw [List.filterMap_cons, hf] at hb
    exact hb
theorem Inv.stkFree (I : Inv X pins σ H s) : ∀ b ∈ frs X.stack, H b = none := fun b hb => by
  rcases List.mem_cons.mp (I.stkSub b hb) with e | hb
  · rw [e]; exact I.free
  · obtain ⟨_, o, ho, _⟩ := I.ok.funs.mem hb
    exact I.base.free b o ho (I.ok.frf b hb) fun z => I.ok.exfs b z hb

/-- THE STEP: the untracked objects but the frame and the records at ch are kept (the callers' frames up to slots), the frame's map is kept, the new abstract heap is held -/
theorem Inv.step {g' : Array GenState} {t' : Nat} {d' : Drawn} {ch : List Addr} (I : Inv X pins σ H s)
    (hch : ∀ b ∈ ch, (b ∈ X.ex ∨ X.s_0.heap.objs.size ≤ b) ∧ b ≠ X.env.locals ∧ (∀ x c, X.env.cells.lookup x = some c → c ≠ b) ∧ ∀ p ∈ X.pn ++ pins, p.1 ≠ b)
    (keep : ∀ b o, b ≠ X.env.locals → b ∉ X.fs → b ∉ ch → s.heap.get? b = some o → H b = none → h'.get? b = some o)
    (slot : ∀ b o, b ≠ X.env.locals → b ∈ X.fs → b ∉ ch → s.heap.get? b = some o → H b = none → ∃ sl, h'.get? b = some { o with slots := sl }) (free : ∀ b o, b ∉ ch → s.heap.get? b = some o → H b = none → H' b = none)
    (there : ∀ b o, b ∉ ch → s.heap.get? b = some o → ∃ o', h'.get? b = some o')
    (tups : ∀ b xs, H b = some (.tup xs) → H' b = some (.tup xs)) (frzs : ∀ b o u, H b = some (.frz o u) → H' b = some (.frz o u)) (tbls : ∀ b ps, H b = some (.tbl ps) → ∃ more, H' b = some (.tbl (ps ++ more)))
    (ns : ∀ m, s.heap.Ns X.env.locals m → h'.Ns X.env.locals m) (hok : HOk X.prog X.w H' h') (hg : AllBare g') :
    Inv X pins σ H' { s with heap := h', gens := g', drawn := d', toks := t' } := by
  have neL : ∀ b o, X.s_0.heap.get? b = some o → b ≠ X.env.locals := fun b o e => Nat.ne_of_lt (Nat.lt_of_lt_of_le (Heap.lt_size e) I.ok.above)
  have neC : ∀ b o, X.s_0.heap.get? b = some o → b ∉ X.ex → b ∉ ch := fun b o e hx hb => by
    rcases (hch b hb).1 with z | z
    · exact hx z
    · exact absurd (Nat.lt_of_lt_of_le (Heap.lt_size e) z) (Nat.lt_irrefl _)
  have cellK : ∀ x c, X.env.cells.lookup x = some c → ∀ v, s.heap.IsCell c v → h'.IsCell c v := fun x c e v ⟨o, ho, hd⟩ => by
    have nch : c ∉ ch := fun z => (hch c z).2.2.1 x c e rfl
    by_cases hc : c ∈ X.fs
    · obtain ⟨sl, q⟩ := slot c o (I.cne x c e) hc nch ho (I.freeC x c e)
      exact ⟨_, q, hd⟩
    · exact ⟨o, keep c o (I.cne x c e) hc nch ho (I.freeC x c e), hd⟩
  refine ⟨I.ok, I.os, hg, ⟨fun b o e n hb hx => ?_, fun b o e n hb hx => ?_, fun b o e n hx => ?_, fun b o e hx => ?_, fun b xs e => tups b xs (I.base.tups b xs e), fun b o xs e => frzs b o xs (I.base.frzs b o xs e), fun b ps e => ?_⟩, ?_, fun x c e => ?_, ?_, fun x c e => ?_, fun p hp => ?_, hok, I.len⟩
  · exact keep b o (neL b o e) hb (neC b o e hx) (I.base.keep b o e n hb hx) (I.base.free b o e n hx)
  · obtain ⟨sl, e1⟩ := I.base.slot b o e n hb hx
    obtain ⟨sl', e2⟩ := slot b _ (neL b o e) hb (neC b o e hx) e1 (I.base.free b o e n hx)
    exact ⟨sl', e2⟩
  · obtain ⟨o', e1⟩ := I.base.there b o e hx
    exact free b o' (neC b o e hx) e1 (I.base.free b o e n hx)
  · obtain ⟨o', e1⟩ := I.base.there b o e hx
    exact there b o' (neC b o e hx) e1
  · obtain ⟨m1, e1⟩ := I.base.tbls b ps e
    obtain ⟨m2, e2⟩ := tbls b _ e1
    exact ⟨m1 ++ m2, by rw [e2, Array.append_assoc]⟩
  · obtain ⟨m, hn, hl⟩ := I.loc
    refine ⟨m, ns m hn, fun i x v e1 e2 e3 => ?_⟩
    obtain ⟨u, r, l⟩ := hl i x v e1 e2 e3
    refine ⟨u, r, ?_⟩
    rcases l with l | ⟨k, c, e, z⟩
    · exact .inl l
    · exact .inr ⟨k, c, e, cellK x c e _ z⟩
  · obtain ⟨v, z⟩ := I.cell x c e
    exact ⟨v, cellK x c e v z⟩
  · obtain ⟨m, ⟨o, _, _, ho, _⟩, _⟩ := I.loc
    exact free _ o (fun z => (hch _ z).2.1 rfl) ho I.free
  · obtain ⟨v, o, ho, hd⟩ := I.cell x c e
    exact free c o (fun z => (hch c z).2.2.1 x c e rfl) ho (I.freeC x c e)
  · obtain ⟨e, n, ne, nf, d⟩ := I.pin p hp
    have nch : p.1 ∉ ch := fun z => (hch p.1 z).2.2.2 p hp rfl
    exact ⟨keep p.1 p.2 ne nf nch e n, free p.1 p.2 nch e n, ne, nf, d⟩
/-- .. where the frame's own object is kept too -/
theorem Inv.un {t' : Nat} (I : Inv X pins σ H s) (u : Un X.fs [] H H' s.heap h') (hok : HOk X.prog X.w H' h') : Inv X pins σ H' { s with heap := h', toks := t' } := by
  obtain ⟨m, ⟨o, es, ep, ho, r⟩, _⟩ := id I.loc
  obtain ⟨sl, hL⟩ := u.any ho I.free (by simp)
  exact I.step (g' := s.gens) (d' := s.drawn) (ch := []) (fun _ z => nomatch z) (fun b o _ hb _ e n => u.keep b o e n hb (by simp)) (fun b o _ hb _ e n => u.slot b o e n hb (by simp)) (fun b o _ e n => u.free b o e n (by simp)) (fun b o _ e => u.there b o e (by simp)) u.tups u.frzs u.tbls (fun m' hm => by
    obtain ⟨o', es', ep', ho', r'⟩ := hm
    rw [ho] at ho'; cases ho'
    exact ⟨_, es', ep', hL, r'⟩) hok I.bare
/-- behind a call (or a comprehension's block): the slots of this frame may have changed too, the records at ch may have turned -/
theorem Inv.call {g' : Array GenState} {t' : Nat} {d' : Drawn} {ch : List Addr} (I : Inv X pins σ H s) (u : Un (frs X.stack) ch H H' s.heap h') (hok : HOk X.prog X.w H' h') (hg : AllBare g')
    (hch : ∀ b ∈ ch, (b ∈ X.ex ∨ X.s_0.heap.objs.size ≤ b) ∧ b ≠ X.env.locals ∧ (∀ x c, X.env.cells.lookup x = some c → c ≠ b) ∧ ∀ p ∈ X.pn ++ pins, p.1 ≠ b) :
    Inv X pins σ H' { s with heap := h', gens := g', drawn := d', toks := t' } := by
  obtain ⟨m, ⟨o, es, ep, ho, r⟩, _⟩ := id I.loc
  obtain ⟨sl, hL⟩ := u.any ho I.free fun z => (hch _ z).2.1 rfl
  exact I.step (ch := ch) hch (fun b o hL hb hc e n => u.keep b o e n (fun z => (List.mem_cons.mp (I.stkSub b z)).elim hL hb) hc) (fun b o _ _ hc e n => u.any e n hc) (fun b o hc e n => u.free b o e n hc) (fun b o hc e => u.there b o e hc) u.tups u.frzs u.tbls (fun m' hm => by
    obtain ⟨o', es', ep', ho', r'⟩ := hm
    rw [ho] at ho'; cases ho'
    exact ⟨_, es', ep', hL, r'⟩) hok hg
/-- an untracked record of ours (an iterator) has turned -/
theorem Inv.turned {t' : Nat} {it : Addr} (I : Inv X pins σ H s) (k : ∀ b o, b ≠ it → s.heap.get? b = some o → h'.get? b = some o) (hn : H it = none) (hL : it ≠ X.env.locals)
    (h1 : it ∈ X.ex ∨ X.s_0.heap.objs.size ≤ it) (h2 : ∀ x c, X.env.cells.lookup x = some c → c ≠ it) (h3 : ∀ p ∈ X.pn ++ pins, p.1 ≠ it) : Inv X pins σ H { s with heap := h', toks := t' } := by
  have nit : ∀ b u, H b = some u → b ≠ it := fun b u e z => by rw [z, hn] at e; cases e
  refine I.step (g' := s.gens) (d' := s.drawn) (ch := [it]) (fun b hb => ?_) (fun b o _ _ hc e _ => k b o (fun z => hc (by simp [z])) e) (fun b o _ _ hc e _ => ⟨o.slots, k b o (fun z => hc (by simp [z])) e⟩) (fun _ _ _ _ n => n)
    (fun b o hc e => ⟨o, k b o (fun z => hc (by simp [z])) e⟩) (fun _ _ e => e) (fun _ _ _ e => e) (fun b ps e => ⟨#[], by rw [e]; simp⟩) (fun m hm => ?_) (fun b u e => ?_) I.bare
  · have e : b = it := by simpa using hb
    subst e
    exact ⟨h1, hL, h2, h3⟩
  · obtain ⟨o, es, ep, ho, r⟩ := hm
    exact ⟨o, es, ep, k _ o (Ne.symm hL) ho, r⟩
  · refine (I.hok b u e).stay (fun c v hc q => k c v ?_ q) (fun _ q => q) fun _ _ q => q
    rcases hc with z | z
    · rw [z]; exact nit b u e
    · exact nit c _ z
theorem Inv.tok (I : Inv X pins σ H s) (t : Nat) : Inv X pins σ H { s with toks := t } := I.un (h' := s.heap) (t' := t) Un.refl I.hok
/-- all objects kept -/
theorem Inv.kept {t' : Nat} (I : Inv X pins σ H s) (k : ∀ b u, s.heap.get? b = some u → h'.get? b = some u) : Inv X pins σ H { s with heap := h', toks := t' } := I.un (Un.kept k) (I.hok.kept k)
/-- a new object laid and tracked -/
theorem Inv.laid {a : Addr} {o : HO} {t' : Nat} (I : Inv X pins σ H s) (k : ∀ b u, s.heap.get? b = some u → h'.get? b = some u) (hp : s.heap.objs.size ≤ a) (new : ObjOk X.prog X.w (upd H a o) h' a o) :
    Inv X pins σ (upd H a o) { s with heap := h', toks := t' } := I.un (Un.laid k hp (I.hok.fresh hp)) (I.hok.laid k hp new)
/-- an object written -/
theorem Inv.write {x e : Addr} {o : HO} {t' : Nat} (I : Inv X pins σ H s) (mu : Mut (H x)) (he : e = x ∨ H e = some (.own x)) (k : ∀ b u, b ≠ e → s.heap.get? b = some u → h'.get? b = some u) (heo : ∃ u, h'.get? e = some u)
    (new : ObjOk X.prog X.w (upd H x o) h' x o) : Inv X pins σ (upd H x o) { s with heap := h', toks := t' } := I.un (Un.write mu he k heo) (I.hok.write mu he k heo new)
/-- forgetting slots, pins -/
theorem Inv.weak {σ' : List (Option V)} (I : Inv X pins σ H s) (hl : σ'.length = σ.length) (w : ∀ (i : Nat) v, σ'[i]? = some (some v) → σ[i]? = some (some v)) : Inv X pins σ' H s :=
  ⟨I.ok, I.os, I.bare, I.base, let ⟨m, hn, hl'⟩ := I.loc; ⟨m, hn, fun i x v e1 e2 e3 => hl' i x v e1 (w i v e2) e3⟩, I.cell, I.free, I.freeC, I.pin, I.hok, hl.trans I.len⟩
theorem Inv.pins_of {pins' : List (Addr × Obj)} (I : Inv X pins σ H s) (h : ∀ p ∈ pins', s.heap.get? p.1 = some p.2 ∧ H p.1 = none ∧ p.1 ≠ X.env.locals ∧ p.1 ∉ X.fs ∧ ∀ v, p.2.data ≠ .cell v) : Inv X pins' σ H s :=
  ⟨I.ok, I.os, I.bare, I.base, I.loc, I.cell, I.free, I.freeC, fun p hp => (List.mem_append.mp hp).elim (fun z => I.pin p (List.mem_append_left _ z)) (h p), I.hok, I.len⟩

theorem nodup_ix {N : List Str} (hN : N.Nodup) {i j : Nat} {x : Str} (a : N[i]? = some x) (b : N[j]? = some x) : i = j := by
  obtain ⟨h1, e1⟩ := List.getElem?_eq_some_iff.mp a
  obtain ⟨h2, e2⟩ := List.getElem?_eq_some_iff.mp b
  exact (List.getElem_inj hN).mp (e1.trans e2.symm)

/-- a name is stored; what changed -/
theorem store_ok2 {M : Model} {A : Around} {E : Value → Shared → Prop} {i : Nat} {x : Str} {v : V} {u : Value} {Q : Unit → Shared → Prop} (I : Inv X pins σ H s) (hN : X.N.Nodup) (hi : X.N[i]? = some x) (hx : Loc X.env.scope x) (r : RelV v u)
    (h : ∀ s', Inv X pins (σ.set i (some v)) H s' → (∃ a, Heap.SameBut a s.heap s'.heap ∧ (a = X.env.locals ∨ X.env.cells.lookup x = some a)) → Q () s') (hf : X.fn x = true ∨ X.env.scope.names.lookup x = some .local := by first | exact .inl rfl | exact .inr rfl | assumption) : wpAny M A (storeName X.env x u) Q E s := by
  obtain ⟨m, hn, hl⟩ := id I.loc
  have hcls : (X.env.scope.kind == .class || (X.env.scope.kind == .module && X.env.locals != X.env.globals)) = false := by rw [I.ok.kind]; rfl
  have hiσ : i < σ.length := by rw [I.len]; exact (List.getElem?_eq_some_iff.mp hi).1
  have cne := I.cne
  have tracked : ∀ {a : Addr} {h' : Heap}, (∃ o, s.heap.get? a = some o ∧ H a = none) → Heap.SameBut a s.heap h' → HOk X.prog X.w H h' := fun {a h'} ha hs b ob e => by
    obtain ⟨_, _, hfree⟩ := ha
    refine (I.hok b ob e).stay (fun c w' hc q => (hs.2 c ?_).trans q) (fun _ q => q) fun _ _ q => q
    rintro rfl
    rcases hc with rfl | hc
    · rw [hfree] at e; cases e
    · rw [hfree] at hc; cases hc
  rcases hx with hk | hk
  · refine wpAny_storeName_local hk hn (fun h' hn' hs => ?_) hcls
    obtain ⟨oL, _, _, hoL, _⟩ := id hn
    refine h _ ⟨I.ok, I.os, I.bare, ⟨fun b o e n hb hx => ?_, fun b o e n hb hx => ?_, I.base.free, fun b o e hx => ?_, I.base.tups, I.base.frzs, I.base.tbls⟩, ⟨_, hn', fun j y v' e1 e2 e3 => ?_⟩, fun y c e => ?_, I.free, I.freeC, fun p hp => ?_, tracked ⟨oL, hoL, I.free⟩ hs, by simpa using I.len⟩ ⟨_, hs, .inl rfl⟩
    · exact (hs.2 b (Nat.ne_of_lt (Nat.lt_of_lt_of_le (Heap.lt_size e) I.ok.above))).trans (I.base.keep b o e n hb hx)
    · obtain ⟨sl, e1⟩ := I.base.slot b o e n hb hx
      exact ⟨sl, (hs.2 b (Nat.ne_of_lt (Nat.lt_of_lt_of_le (Heap.lt_size e) I.ok.above))).trans e1⟩
    · obtain ⟨o', e1⟩ := I.base.there b o e hx
      exact ⟨o', (hs.2 b (Nat.ne_of_lt (Nat.lt_of_lt_of_le (Heap.lt_size e) I.ok.above))).trans e1⟩
    · by_cases hj : j = i
      · subst hj
        rw [hi] at e1; cases e1
        rw [List.getElem?_set_self hiσ] at e2
        cases e2
        exact ⟨u, r, .inl ⟨hk, by simp⟩⟩
      · rw [List.getElem?_set_ne (Ne.symm hj)] at e2
        obtain ⟨u', r', q⟩ := hl j y v' e1 e2 e3
        refine ⟨u', r', ?_⟩
        rcases q with ⟨k, e⟩ | ⟨k, c, e, z⟩
        · refine .inl ⟨k, ?_⟩
          have : y ≠ x := fun e => hj (nodup_ix hN e1 (e ▸ hi))
          simp [this, e]
        · exact .inr ⟨k, c, e, z.sameBut hs (cne y c e)⟩
    · obtain ⟨w', z⟩ := I.cell y c e
      exact ⟨w', z.sameBut hs (cne y c e)⟩
    · obtain ⟨e, n, ne, nf, d⟩ := I.pin p hp
      exact ⟨(hs.2 p.1 ne).trans e, n, ne, nf, d⟩
  · have hfn : X.fn x = true := by
      rcases hf with z | z
      · exact z
      · rw [z] at hk; cases hk
    obtain ⟨c, hc⟩ := I.ok.has x (.inl hk)
    obtain ⟨w', z⟩ := I.cell x c hc
    refine wpAny_storeName_cell I.ok.kind hk hc z (fun h' hc' hs => ?_)
    obtain ⟨oc, hoc, hocd⟩ := id z
    refine h { s with heap := h' } ⟨I.ok, I.os, I.bare, ⟨fun b o e n hb hx => ?_, fun b o e n hb hx => ?_, I.base.free, fun b o e hx => ?_, I.base.tups, I.base.frzs, I.base.tbls⟩, ⟨m, hn.sameBut hs (Ne.symm (cne x c hc)), fun j y v' e1 e2 e3 => ?_⟩, fun y c' e => ?_, I.free, I.freeC, fun p hp => ?_, tracked ⟨oc, hoc, I.freeC x c hc⟩ hs, by simpa using I.len⟩ ⟨c, hs, .inr hc⟩
    · exact (hs.2 b (Nat.ne_of_lt (Nat.lt_of_lt_of_le (Heap.lt_size e) (I.ok.cab x c hfn hc)))).trans (I.base.keep b o e n hb hx)
    · obtain ⟨sl, e1⟩ := I.base.slot b o e n hb hx
      exact ⟨sl, (hs.2 b (Nat.ne_of_lt (Nat.lt_of_lt_of_le (Heap.lt_size e) (I.ok.cab x c hfn hc)))).trans e1⟩
    · obtain ⟨o', e1⟩ := I.base.there b o e hx
      exact ⟨o', (hs.2 b (Nat.ne_of_lt (Nat.lt_of_lt_of_le (Heap.lt_size e) (I.ok.cab x c hfn hc)))).trans e1⟩
    · by_cases hj : j = i
      · subst hj
        rw [hi] at e1; cases e1
        rw [List.getElem?_set_self hiσ] at e2
        cases e2
        exact ⟨u, r, .inr ⟨.inl hk, c, hc, hc'⟩⟩
      · rw [List.getElem?_set_ne (Ne.symm hj)] at e2
        obtain ⟨u', r', q⟩ := hl j y v' e1 e2 e3
        refine ⟨u', r', ?_⟩
        rcases q with q | ⟨k, c', e, z'⟩
        · exact .inl q
        · refine .inr ⟨k, c', e, z'.sameBut hs ?_⟩
          rintro rfl
          exact hj (nodup_ix hN e1 (I.ok.inj _ _ _ e hc ▸ hi))
    · by_cases hcc : c' = c
      · subst hcc; exact ⟨_, hc'⟩
      · obtain ⟨w2, z2⟩ := I.cell y c' e
        exact ⟨w2, z2.sameBut hs hcc⟩
    · obtain ⟨e, n, ne, nf, d⟩ := I.pin p hp
      refine ⟨(hs.2 p.1 ?_).trans e, n, ne, nf, d⟩
      intro q
      rw [q, hoc] at e
      have q' : oc = p.2 := Option.some.inj e
      exact d w' (by rw [← q']; exact hocd)
theorem store_ok {M : Model} {A : Around} {E : Value → Shared → Prop} {i : Nat} {x : Str} {v : V} {u : Value} {Q : Unit → Shared → Prop} (I : Inv X pins σ H s) (hN : X.N.Nodup) (hi : X.N[i]? = some x) (hx : Loc X.env.scope x) (r : RelV v u)
    (h : ∀ s', Inv X pins (σ.set i (some v)) H s' → Q () s') (hf : X.fn x = true ∨ X.env.scope.names.lookup x = some .local := by first | exact .inl rfl | exact .inr rfl | assumption) : wpAny M A (storeName X.env x u) Q E s :=
  store_ok2 I hN hi hx r (fun s' I' _ => h s' I') hf
/-- behind a call or a block, the state as it is -/
theorem Inv.call' {s' : Shared} {ch : List Addr} (I : Inv X pins σ H s) (ho : s'.os = s.os) (u : Un (frs X.stack) ch H H' s.heap s'.heap) (hok : HOk X.prog X.w H' s'.heap) (hg : AllBare s'.gens)
    (hch : ∀ b ∈ ch, (b ∈ X.ex ∨ X.s_0.heap.objs.size ≤ b) ∧ b ≠ X.env.locals ∧ (∀ x c, X.env.cells.lookup x = some c → c ≠ b) ∧ ∀ p ∈ X.pn ++ pins, p.1 ≠ b) : Inv X pins σ H' s' := by
  obtain ⟨h', g', d', t', o'⟩ := s'
  have e : o' = s.os := ho
  subst e
  exact I.call (g' := g') (t' := t') (d' := d') u hok hg hch
end

/-! ### the judgements -/
/-- an exception: its class, its own dict's address (where it has one), the abstract heap behind it -/
abbrev XK := Value → Option Addr → Hp → Prop
abbrev St := List (Option V)
abbrev VK := V → Hp → Prop
/-- an expression's reading; a test's; an argument list's -/
abbrev TE := St → Hp → VK → Prop
abbrev TT := St → Hp → (Bool → Hp → Prop) → Prop
abbrev TA := St → Hp → (List V → Hp → Prop) → Prop
/-- what is wanted behind a statement -/
structure Ends where
  nx : St → Hp → Prop
  rt : VK
  bk : St → Hp → Prop := fun _ _ => False
  ct : St → Hp → Prop := fun _ _ => False
abbrev TS := Ends → St → Hp → Prop

def EP (X : Cx) (pins : List (Addr × Obj)) (σ : St) (Q : VK) (u : Value) (s' : Shared) : Prop := ∃ v H', Inv X pins σ H' s' ∧ RelV v u ∧ Q v H'
def TP (X : Cx) (pins : List (Addr × Obj)) (σ : St) (Q : Bool → Hp → Prop) (b : Bool) (s' : Shared) : Prop := ∃ H', Inv X pins σ H' s' ∧ Q b H'
def AP (X : Cx) (pins : List (Addr × Obj)) (σ : St) (Q : List V → Hp → Prop) (us : List Value) (s' : Shared) : Prop := ∃ vs H', Inv X pins σ H' s' ∧ Vals vs us ∧ Q vs H'
def SP (X : Cx) (pins : List (Addr × Obj)) (D : Ends) (f : Flow) (s' : Shared) : Prop :=
  match f with
  | .next => ∃ σ' H', Inv X pins σ' H' s' ∧ D.nx σ' H'
  | .brk => ∃ σ' H', Inv X pins σ' H' s' ∧ D.bk σ' H'
  | .cont => ∃ σ' H', Inv X pins σ' H' s' ∧ D.ct σ' H'
  | .ret u => ∃ v σ' H', Inv X pins σ' H' s' ∧ RelV v u ∧ D.rt v H'

def PE (X : Cx) (e : Expr) (t : TE) : Prop :=
  ∀ (pins : List (Addr × Obj)) (s : Shared) (σ : St) (H : Hp) (Q : VK), Inv X pins σ H s → t σ H Q → wpAny (model X.prog X.w) X.A (eval e X.env) (EP X pins σ Q) X.xe s
def PT (X : Cx) (e : Expr) (t : TT) : Prop :=
  ∀ (pins : List (Addr × Obj)) (s : Shared) (σ : St) (H : Hp) (Q : Bool → Hp → Prop), Inv X pins σ H s → t σ H Q → wpAny (model X.prog X.w) X.A (isTrue e X.env (eval e X.env)) (TP X pins σ Q) X.xe s
/-- a test whatever its 'whole' is (and, or) -/
def PW (X : Cx) (e : Expr) (t : TT) : Prop :=
  ∀ (whole : Sem Value) (pins : List (Addr × Obj)) (s : Shared) (σ : St) (H : Hp) (Q : Bool → Hp → Prop), Inv X pins σ H s → t σ H Q → wpAny (model X.prog X.w) X.A (isTrue e X.env whole) (TP X pins σ Q) X.xe s
theorem PW.pt {X : Cx} {e : Expr} {t : TT} (h : PW X e t) : PT X e t := h _
/-- an argument list (no star), from the left -/
def PA (X : Cx) (es : List Expr) (t : TA) : Prop :=
  ∀ (pos : Pos) (pins : List (Addr × Obj)) (s : Shared) (σ : St) (H : Hp) (Q : List V → Hp → Prop), Inv X pins σ H s → t σ H Q → wpAny (model X.prog X.w) X.A (spliced (backTo pos (starEach es X.env))) (AP X pins σ Q) X.xe s
def PS (X : Cx) (st : Stmt) (t : TS) : Prop :=
  ∀ (pins : List (Addr × Obj)) (s : Shared) (σ : St) (H : Hp) (D : Ends), Inv X pins σ H s → t D σ H → wpAny (model X.prog X.w) X.A (exec st X.env) (SP X pins D) X.xe s
def PSs (X : Cx) (st : List Stmt) (t : TS) : Prop :=
  ∀ (pins : List (Addr × Obj)) (s : Shared) (σ : St) (H : Hp) (D : Ends), Inv X pins σ H s → t D σ H → wpAny (model X.prog X.w) X.A (execs st X.env) (SP X pins D) X.xe s
/-- weaken the end -/
theorem thn {α : Type} {t : Sem α} {Q Q' : α → Shared → Prop} {M : Model} {A : Around} {E : Value → Shared → Prop} {s : Shared} (h : wpAny M A t Q E s) (hQ : ∀ a s, Q a s → Q' a s) : wpAny M A t Q' E s := wpAny_mono h hQ fun _ _ x => x
end L2

namespace L2
open PySem PySem.Spec PyProof.Rows
section
variable {X : Cx}


/-! ### names and constants -/
def tVar (i : Nat) : TE := fun σ H Q => ∃ v, σ[i]? = some (some v) ∧ Q v H
def tC (v : V) : TE := fun _ H Q => Q v H
theorem pe_var {i : Nat} {x : Str} {pos : Pos} (hN : X.N[i]? = some x) (hv : Vis X.env.scope x) (hd : (x == ("__debug__" : Str)) = false := by decide) (hcd : (x == ("__classdict__" : Str)) = false := by decide) : PE X (.Name x pos) (tVar i) := by
  intro pins s σ H Q I h
  obtain ⟨v, e, h⟩ := h
  obtain ⟨m, hn, hl⟩ := I.loc
  obtain ⟨u, r, l⟩ := hl i x v hN e hv
  have fin : EP X pins σ Q u s := ⟨v, H, I, r, h⟩
  rcases l with ⟨hk, hm⟩ | ⟨hk, c, hc, hcell⟩
  · exact wpAny_Name (wpAny_loadName_local I.ok.kind hk hn hm fin) hd
  · rcases hk with hk | hk
    · exact wpAny_Name (wpAny_loadName_cell I.ok.kind hk hc hcell fin) hd
    · exact wpAny_Name (wpAny_loadName_free I.ok.kind hk hc hcell fin hcd) hd
theorem pe_int {i j pos} : PE X (.Constant (.int i) j pos) (tC (.int i)) := fun _ _ _ H _ I h => wpAny_Constant_int ⟨.int i, H, I.tok _, ⟨_, rfl⟩, h⟩
theorem pe_bl {b j pos} : PE X (.Constant (.bool b) j pos) (tC (.bl b)) := fun _ _ _ H _ I h => Constant_bool ⟨.bl b, H, I, rfl, h⟩
theorem pe_non {j pos} : PE X (.Constant .none j pos) (tC .non) := fun _ _ _ H _ I h => Constant_none ⟨.non, H, I, rfl, h⟩

/-- a global name of the def -/
def Gl (X : Cx) (x : Str) : Prop := X.env.kindOf x = some .globalImplicit
theorem ld_glob {E : Value → Shared → Prop} {pins : List (Addr × Obj)} {s : Shared} {σ : St} {H : Hp} {x : Str} {u : Value} {pos : Pos} {Q : Value → Shared → Prop} (I : Inv X pins σ H s) (hg : Gl X x) (hm : X.mg x = some u) (h : Q u s)
    (hd : (x == ("__debug__" : Str)) = false := by decide) : wpAny (model X.prog X.w) X.A (eval (.Name x pos) X.env) Q E s :=
  Calls.Name_function_global I.ok.kind hg (Calls.loadGlobal_global (by rw [I.ok.glob]; exact I.mod.glob.keeps I.bk) hm h) hd
theorem ld_blt {E : Value → Shared → Prop} {pins : List (Addr × Obj)} {s : Shared} {σ : St} {H : Hp} {x : Str} {u : Value} {pos : Pos} {Q : Value → Shared → Prop} (I : Inv X pins σ H s) (hg : Gl X x) (hm : X.mg x = none) (hv : bootBuiltins x = some u) (h : Q u s)
    (hn : x ≠ "__name__" := by decide) (hd : (x == ("__debug__" : Str)) = false := by decide) : wpAny (model X.prog X.w) X.A (eval (.Name x pos) X.env) Q E s := by
  obtain ⟨mb, h1, h2⟩ := I.mod.blt
  exact Calls.Name_function_global I.ok.kind hg (Calls.loadGlobal_builtin (by rw [I.ok.glob]; exact I.mod.glob.keeps I.bk) hm (by rw [I.ok.blt]; exact h1.keeps I.bk) ((h2 x hn).trans hv) h) hd
/-- a module's constant, a class, a function, as a value -/
theorem pe_glob {x : Str} {v : V} {u : Value} {pos : Pos} (hg : Gl X x) (hm : X.mg x = some u) (r : RelV v u) (hd : (x == ("__debug__" : Str)) = false := by decide) : PE X (.Name x pos) (tC v) :=
  fun _ _ _ H _ I h => ld_glob I hg hm ⟨v, H, I, r, h⟩ hd

/-! ### arithmetic -/
variable {a b : Expr} {ta tb : TE} {pos : Pos}

/-! ### comparisons -/

/-! ### and, or, not -/
variable {tA tB' : TT} {rest : List Expr}
def tAnd (t u : TT) : TT := fun σ H Q => t σ H fun c H1 => if c = true then u σ H1 Q else Q false H1
def tOr (t u : TT) : TT := fun σ H Q => t σ H fun c H1 => if c = true then Q true H1 else u σ H1 Q
def tNot (t : TT) : TT := fun σ H Q => t σ H fun c H1 => Q (!c) H1
theorem pw_and1 (ha : PT X a tA) : PW X (.BoolOp .And [a] pos) tA := by
  intro wh pins s σ H Q I h
  refine isTrue_and (thn (ha pins s σ H Q I h) fun c s1 e => ?_)
  cases c with
  | true => exact isTrue_and_nil e
  | false => exact e
theorem pw_or1 (ha : PT X a tA) : PW X (.BoolOp .Or [a] pos) tA := by
  intro wh pins s σ H Q I h
  refine isTrue_or (thn (ha pins s σ H Q I h) fun c s1 e => ?_)
  cases c with
  | false => exact isTrue_or_nil e
  | true => exact e
theorem pw_and (ha : PT X a tA) (hb : PW X (.BoolOp .And (b :: rest) pos) tB') : PW X (.BoolOp .And (a :: b :: rest) pos) (tAnd tA tB') := by
  intro wh pins s σ H Q I h
  refine isTrue_and (thn (ha pins s σ H _ I h) fun c s1 ⟨H1, I1, q1⟩ => ?_)
  cases c with
  | true => exact hb wh pins s1 σ H1 Q I1 q1
  | false => exact ⟨H1, I1, q1⟩
theorem pw_or (ha : PT X a tA) (hb : PW X (.BoolOp .Or (b :: rest) pos) tB') : PW X (.BoolOp .Or (a :: b :: rest) pos) (tOr tA tB') := by
  intro wh pins s σ H Q I h
  refine isTrue_or (thn (ha pins s σ H _ I h) fun c s1 ⟨H1, I1, q1⟩ => ?_)
  cases c with
  | true => exact ⟨H1, I1, q1⟩
  | false => exact hb wh pins s1 σ H1 Q I1 q1
theorem pt_not (ha : PT X a tA) : PT X (.UnaryOp .Not a pos) (tNot tA) := by
  intro pins s σ H Q I h
  exact isTrue_not (ha pins s σ H (fun c H1 => Q (!c) H1) I h)
/-- a if t else b -/
def tIf (t : TT) (ta tb : TE) : TE := fun σ H Q => t σ H fun c H1 => if c = true then ta σ H1 Q else tb σ H1 Q
theorem pe_ifExp {c : Expr} (hc : PT X c tA) (ha : PE X a ta) (hb : PE X b tb) : PE X (.IfExp c a b pos) (tIf tA ta tb) := by
  intro pins s σ H Q I h
  refine wpAny_IfExp (thn (hc pins s σ H _ I h) fun d s1 ⟨H1, I1, q1⟩ => ?_)
  cases d with
  | true => exact ha pins s1 σ H1 Q I1 q1
  | false => exact hb pins s1 σ H1 Q I1 q1
end
end L2

namespace L2
open PySem PySem.Spec PyProof.Rows

/-! ### a list, a tuple that is read: tracked, frozen, or an object of the module -/
def SqL (K : PySem.W.Frag) (H : Hp) (a : Addr) (xs : List V) : Prop :=
  Rd H a (.lst xs) ∨
    ∃ (o : Obj) (its : Array Value) (n : Nat), K.lookup a = some o ∧ o.cls = .type "list" ∧ o.dict = none ∧ o.data = .seq its n ∧ its.size ≤ sizeLine ∧ Vals xs its.toList
def SqT (K : PySem.W.Frag) (H : Hp) (a : Addr) (xs : List V) : Prop :=
  Rd H a (.tup xs) ∨
    ∃ (o : Obj) (its : Array Value) (n : Nat), K.lookup a = some o ∧ o.cls = .type "tuple" ∧ o.data = .seq its n ∧ its.size ≤ sizeLine ∧ Vals xs its.toList
def absV : Value → Option V
  | .none => some .non
  | .bool b => some (.bl b)
  | .int i _ => some (.int i)
  | .str x _ => some (.str x)
  | .bytes b _ => some (.byt b)
  | .float b _ => some (.flt b)
  | .ref a => some (.ref a)
  | .type n => some (.ty n)
  | _ => none
theorem RelV.abs {x : V} {u : Value} (r : RelV x u) : absV u = some x := by
  cases x with
  | non => cases r; rfl
  | bl _ => cases r; rfl
  | int _ => obtain ⟨t, rfl⟩ := r; rfl
  | str _ => obtain ⟨t, rfl⟩ := r; rfl
  | byt _ => obtain ⟨t, rfl⟩ := r; rfl
  | flt _ => obtain ⟨t, rfl⟩ := r; rfl
  | ref _ => cases r; rfl
  | ty _ => cases r; rfl
theorem RelV.inj {x y : V} {u : Value} (r : RelV x u) (q : RelV y u) : x = y := Option.some.inj (r.abs.symm.trans q.abs)
theorem Vals.inj : ∀ {xs ys : List V} {us : List Value}, Vals xs us → Vals ys us → xs = ys
  | _, _, _, .nil, .nil => rfl
  | _, _, _, .cons r t, .cons r' t' => by rw [r.inj r', Vals.inj t t']
section
variable {X : Cx} {pins : List (Addr × Obj)} {σ : St} {H : Hp} {s : Shared} {a : Addr} {xs ys : List V}
theorem SqL.of {K : PySem.W.Frag} (h : H a = some (.lst xs)) : SqL K H a xs := .inl (.inl h)
theorem Inv.list (I : Inv X pins σ H s) (h : SqL X.K H a xs) : ∃ its : List Value, Vals xs its ∧ PlainL s.heap a its.toArray ∧ xs.length ≤ sizeLine := by
  rcases h with h | ⟨o, its, n, hk, hc, hd, hs, hz, r⟩
  · obtain ⟨z, its, n, r, e⟩ := h.ok I.hok
    exact ⟨its, r, ⟨_, n, e, rfl, rfl, rfl⟩, z⟩
  · refine ⟨its.toList, r, ⟨o, n, I.kIn a o hk, hc, hd, by simpa using hs⟩, ?_⟩
    have e := r.length
    simp only [Array.length_toList] at e
    omega
theorem Inv.tuple (I : Inv X pins σ H s) (h : SqT X.K H a xs) : ∃ its : List Value, Vals xs its ∧ IsTup s.heap a its.toArray ∧ xs.length ≤ sizeLine := by
  rcases h with h | ⟨o, its, n, hk, hc, hs, hz, r⟩
  · obtain ⟨z, its, r, p⟩ := h.ok I.hok
    exact ⟨its, r, p, z⟩
  · refine ⟨its.toList, r, ⟨o, I.kIn a o hk, hc, n, by simpa using hs⟩, ?_⟩
    have e := r.length
    simp only [Array.length_toList] at e
    omega
theorem Inv.list_inj (I : Inv X pins σ H s) (h : SqL X.K H a xs) (h' : SqL X.K H a ys) : xs = ys := by
  obtain ⟨its, r, ⟨o, n, e, _, _, d⟩, _⟩ := I.list h
  obtain ⟨its', r', ⟨o', n', e', _, _, d'⟩, _⟩ := I.list h'
  rw [e] at e'; cases e'
  rw [d] at d'
  injection d' with d1 _
  have : its = its' := by simpa using congrArg Array.toList d1
  subst this
  exact r.inj r'
end

/-! ### another wish about exceptions -/
abbrev Cx.wish (X : Cx) (E : Value → Shared → Prop) : Cx := { X with xe := E }
/-- no exception leaves -/
abbrev Cx.nox (X : Cx) : Cx := X.wish fun _ _ => False
theorem Cx.Ok.wish {X : Cx} (ok : X.Ok) (E : Value → Shared → Prop) : (X.wish E).Ok :=
  ⟨ok.mod, ok.kind, ok.glob, ok.blt, ok.above, ok.inj, ok.has, ok.cab, ok.hd, ok.frames, ok.stk, ok.exf, ok.bs, ok.bsz, ok.noex, ok.exfs, ok.funs, ok.frf⟩
theorem Cx.Ok.unwish {X : Cx} {E : Value → Shared → Prop} (ok : (X.wish E).Ok) : X.Ok :=
  ⟨ok.mod, ok.kind, ok.glob, ok.blt, ok.above, ok.inj, ok.has, ok.cab, ok.hd, ok.frames, ok.stk, ok.exf, ok.bs, ok.bsz, ok.noex, ok.exfs, ok.funs, ok.frf⟩
section
variable {X : Cx} {pins : List (Addr × Obj)} {σ : St} {H : Hp} {s : Shared} {E : Value → Shared → Prop}
theorem Inv.wish (I : Inv X pins σ H s) (E : Value → Shared → Prop) : Inv (X.wish E) pins σ H s := ⟨I.ok.wish E, I.os, I.bare, I.base, I.loc, I.cell, I.free, I.freeC, I.pin, I.hok, I.len⟩
theorem Inv.unwish (I : Inv (X.wish E) pins σ H s) : Inv X pins σ H s := ⟨I.ok.unwish, I.os, I.bare, I.base, I.loc, I.cell, I.free, I.freeC, I.pin, I.hok, I.len⟩
theorem SP.unwish {D : Ends} {f : Flow} {s' : Shared} (h : SP (X.wish E) pins D f s') : SP X pins D f s' := by
  cases f with
  | next => obtain ⟨σ', H', I, q⟩ := h; exact ⟨σ', H', I.unwish, q⟩
  | brk => obtain ⟨σ', H', I, q⟩ := h; exact ⟨σ', H', I.unwish, q⟩
  | cont => obtain ⟨σ', H', I, q⟩ := h; exact ⟨σ', H', I.unwish, q⟩
  | ret u => obtain ⟨v, σ', H', I, r, q⟩ := h; exact ⟨v, σ', H', I.unwish, r, q⟩
theorem PSs.nox {st : List Stmt} {t : TS} (h : PSs X.nox st t) : PSs X st t := fun pins s σ H D I hw =>
  wpAny_mono (h pins s σ H D (I.wish _) hw) (fun _ _ q => q.unwish) fun _ _ z => False.elim z
end

/-! ### blocks and small statements -/
section
variable {X : Cx} {st : Stmt} {rest : List Stmt} {t u : TS} {e : Expr} {te : TE} {pos : Pos}
def tNext : TS := fun D σ H => D.nx σ H
def tSeq (t u : TS) : TS := fun D σ H => t { D with nx := u D } σ H
theorem pss_nil : PSs X [] tNext := fun _ _ σ H _ I h => wpAny_execs_nil ⟨σ, H, I, h⟩
theorem pss_cons (h1 : PS X st t) (h2 : PSs X rest u) : PSs X (st :: rest) (tSeq t u) := by
  intro pins s σ H D I h
  refine wpAny_execs_cons (thn (h1 pins s σ H { D with nx := u D } I h) fun f s1 q => ?_)
  cases f with
  | next =>
    obtain ⟨σ', H', I', q⟩ := q
    exact h2 pins s1 σ' H' D I' q
  | ret v => exact q
  | brk => exact q
  | cont => exact q
theorem pss_one (h1 : PS X st t) : PSs X [st] t := by
  intro pins s σ H D I h
  refine wpAny_execs_cons (thn (h1 pins s σ H D I h) fun f s1 q => ?_)
  cases f with
  | next => exact wpAny_execs_nil q
  | ret v => exact q
  | brk => exact q
  | cont => exact q
/-- in a def's body nothing is shown -/
theorem Inv.quiet {pins : List (Addr × Obj)} {σ : St} {H : Hp} {s : Shared} (I : Inv X pins σ H s) : interactive X.env = false := by simp [interactive, I.ok.kind]
/-- an expression whose value is dropped -/
def tDrop (te : TE) : TS := fun D σ H => te σ H fun _ H1 => D.nx σ H1
theorem ps_expr (he : PE X e te) (hs : swapsWith e none pos.line X.env = pure false := by rfl) : PS X (.Expr e pos) (tDrop te) := by
  intro pins s σ H D I h
  exact wpAny_Expr_any (thn (he pins s σ H _ I h) fun v s1 ⟨x, H1, I1, r1, q1⟩ => ⟨σ, H1, I1, q1⟩) I.quiet hs
def tRet (te : TE) : TS := fun D σ H => te σ H D.rt
theorem ps_ret (he : PE X e te) : PS X (.Return (some e) pos) (tRet te) := by
  intro pins s σ H D I h
  exact wpAny_Return_some (thn (he pins s σ H _ I h) fun v s1 ⟨x, H1, I1, r1, q1⟩ => ⟨x, σ, H1, I1, r1, q1⟩)
def tIfS (c : TT) (t u : TS) : TS := fun D σ H => c σ H fun b H1 => if b = true then t D σ H1 else u D σ H1
theorem ps_if {c : Expr} {a b : List Stmt} {tc : TT} (hc : PT X c tc) (ha : PSs X a t) (hb : PSs X b u) : PS X (.If c a b pos) (tIfS tc t u) := by
  intro pins s σ H D I h
  refine wpAny_If (thn (hc pins s σ H _ I h) fun d s1 ⟨H1, I1, q1⟩ => ?_)
  cases d with
  | true => exact ha pins s1 σ H1 D I1 q1
  | false => exact hb pins s1 σ H1 D I1 q1
end

/-! ### targets -/
abbrev TG := V → St → Hp → (St → Hp → Prop) → Prop
def PG (X : Cx) (target : Expr) (t : TG) : Prop :=
  ∀ (pins : List (Addr × Obj)) (s : Shared) (σ : St) (H : Hp) (v : V) (u : Value) (Q : St → Hp → Prop), Inv X pins σ H s → RelV v u → t v σ H Q →
    wpAny (model X.prog X.w) X.A (assign target X.env u) (fun _ s' => ∃ σ' H', Inv X pins σ' H' s' ∧ Q σ' H') X.xe s
/-- o[i] = v, by values -/
abbrev TSet := V → V → V → Hp → (Hp → Prop) → Prop
def PSet (X : Cx) (t : TSet) : Prop :=
  ∀ (pins : List (Addr × Obj)) (s : Shared) (σ : St) (H : Hp) (o i v : V) (ov iv u : Value) (Q : Hp → Prop), Inv X pins σ H s → RelV o ov → RelV i iv → RelV v u → t o i v H Q →
    wpAny (model X.prog X.w) X.A (setItem ov iv u) (fun _ s' => ∃ H', Inv X pins σ H' s' ∧ Q H') X.xe s
/-- a op= b, by values -/
abbrev TIp := V → V → Hp → VK → Prop
def PIp (X : Cx) (op : Operator) (t : TIp) : Prop :=
  ∀ (pins : List (Addr × Obj)) (s : Shared) (σ : St) (H : Hp) (x y : V) (v u : Value) (Q : VK), Inv X pins σ H s → RelV x v → RelV y u → t x y H Q →
    wpAny (model X.prog X.w) X.A (inplaceOp op v u) (EP X pins σ Q) X.xe s
section
variable {X : Cx} {pos : Pos}
def gName (i : Nat) : TG := fun v σ H Q => Q (σ.set i (some v)) H
theorem pg_name {i : Nat} {x : Str} (hN : X.N.Nodup) (hi : X.N[i]? = some x) (hx : Loc X.env.scope x) (hf : X.fn x = true ∨ X.env.scope.names.lookup x = some .local := by first | exact .inl rfl | exact .inr rfl | assumption) : PG X (.Name x pos) (gName i) := by
  intro pins s σ H v u Q I r h
  exact wpAny_assign_Name (store_ok I hN hi hx r (fun s' I' => ⟨_, H, I', h⟩) hf)
/-- o[i] = .. -/
def gSub (to ti : TE) (t : TSet) : TG := fun v σ H Q => to σ H fun o H1 => ti σ H1 fun i H2 => t o i v H2 fun H3 => Q σ H3
theorem pg_sub {o i : Expr} {to ti : TE} {t : TSet} (ho : PE X o to) (hi : PE X i ti) (hs : PSet X t)
    (ha : ∀ v, assign (.Subscript o i pos) X.env v = (do
      let ov ← holding [v] (eval o X.env)
      let iv ← holding [v, ov] (eval i X.env)
      standAt pos
      holding [v, ov, iv] (setItem ov iv v)
      release [v, ov, iv] []) := by intro _; rfl) : PG X (.Subscript o i pos) (gSub to ti t) := by
  intro pins s σ H v u Q I r h
  rw [ha]
  refine wpAny_bind (wpAny_holding (thn (ho pins s σ H _ I h) fun ov s1 ⟨x, H1, I1, r1, q1⟩ => ?_))
  refine wpAny_bind (wpAny_holding (thn (hi pins s1 σ H1 _ I1 q1) fun iv s2 ⟨y, H2, I2, r2, q2⟩ => ?_))
  refine wpAny_bind (wpAny_standAt (wpAny_bind (wpAny_holding (thn (hs pins s2 σ H2 x y v ov iv u _ I2 r1 r2 r q2) fun _ s3 ⟨H3, I3, q3⟩ => ?_))))
  exact wpAny_release ⟨σ, H3, I3, q3⟩
/-- target = value -/
def tAsg (te : TE) (g : TG) : TS := fun D σ H => te σ H fun x H1 => g x σ H1 D.nx
theorem ps_asg {tg e : Expr} {te : TE} {g : TG} (he : PE X e te) (hg : PG X tg g) (hs : swapsWithSole [tg] e pos.line X.env = pure false := by rfl) (hw : swappedStores [tg] e X.env = pure none := by rfl)
    (h1 : (assignEach [tg] X.env).map (·.2) = [assign tg X.env] := by rfl) : PS X (.Assign [tg] e pos) (tAsg te g) := by
  intro pins s σ H D I h
  refine wpAny_Assign_stores (thn (he pins s σ H _ I h) fun v s1 ⟨x, H1, I1, r1, q1⟩ => ?_) hs hw
  rw [h1]
  exact thn (hg pins s1 σ H1 x v _ I1 r1 q1) fun _ s2 q => q
/-- name = value -/
theorem ps_set {i : Nat} {x : Str} {e : Expr} {te : TE} {pos' : Pos} (hN : X.N.Nodup) (hi : X.N[i]? = some x) (hx : Loc X.env.scope x) (he : PE X e te) (hs : swapsWith e (some (.Name x pos')) pos.line X.env = pure false := by rfl) (hf : X.fn x = true ∨ X.env.scope.names.lookup x = some .local := by first | exact .inl rfl | exact .inr rfl | assumption) :
    PS X (.Assign [.Name x pos'] e pos) (tAsg te (gName i)) := by
  intro pins s σ H D I h
  refine wpAny_Assign_Name (thn (he pins s σ H _ I h) fun v s1 ⟨y, H1, I1, r1, q1⟩ => ?_) hs
  exact store_ok I1 hN hi hx r1 (fun s2 I2 => ⟨_, H1, I2, q1⟩) hf
/-- name op= e -/
def tAug (i : Nat) (te : TE) (ti : TIp) : TS := fun D σ H => ∃ x, σ[i]? = some (some x) ∧ te σ H fun y H1 => ti x y H1 fun z H2 => D.nx (σ.set i (some z)) H2
theorem ps_aug {i : Nat} {x : Str} {e : Expr} {te : TE} {op : Operator} {ti : TIp} {pos' : Pos} (hN : X.N.Nodup) (hi : X.N[i]? = some x) (hx : Loc X.env.scope x) (he : PE X e te) (ho : PIp X op ti) (hf : X.fn x = true ∨ X.env.scope.names.lookup x = some .local := by first | exact .inl rfl | exact .inr rfl | assumption) :
    PS X (.AugAssign (.Name x pos') op e pos) (tAug i te ti) := by
  intro pins s σ H D I h
  obtain ⟨v, e1, h⟩ := h
  obtain ⟨m, hn, hl⟩ := I.loc
  have vis : Vis X.env.scope x := by rcases hx with k | k; exact .inl k; exact .inr (.inl k)
  obtain ⟨u, r, l⟩ := hl i x v hi e1 vis
  refine wpAny_AugAssign_Name ?_
  have go : wpAny (model X.prog X.w) X.A (eval e X.env) (fun w s₂ => wpAny (model X.prog X.w) X.A (inplaceOp op u w) (fun r s₃ => wpAny (model X.prog X.w) X.A (storeName X.env x r) (fun _ => SP X pins D .next) X.xe s₃) X.xe s₂) X.xe s := by
    refine thn (he pins s σ H _ I h) fun w s1 ⟨y, H1, I1, r1, q1⟩ => ?_
    refine thn (ho pins s1 σ H1 v y u w _ I1 r r1 q1) fun z s2 ⟨zv, H2, I2, r2, q2⟩ => ?_
    exact store_ok I2 hN hi hx r2 (fun s3 I3 => ⟨_, H2, I3, q2⟩) hf
  rcases l with ⟨hk, hm⟩ | ⟨hk, c, hc, hcell⟩
  · exact wpAny_loadName_local I.ok.kind hk hn hm go
  · rcases hk with hk | hk
    · exact wpAny_loadName_cell I.ok.kind hk hc hcell go
    · rcases hx with k | k
      · have : X.env.scope.names.lookup x = some .free := hk
        rw [k] at this; cases this
      · have : X.env.scope.names.lookup x = some .free := hk
        rw [k] at this; cases this
/-- o[i] op= e -/
def tAugS (to ti te : TE) (tget : V → V → Hp → VK → Prop) (tip : TIp) (tset : TSet) : TS := fun D σ H => to σ H fun o H1 => ti σ H1 fun i H2 => tget o i H2 fun x H3 => te σ H3 fun y H4 => tip x y H4 fun z H5 => tset o i z H5 fun H6 => D.nx σ H6
/-- o[i], by values -/
def PGet (X : Cx) (t : V → V → Hp → VK → Prop) : Prop :=
  ∀ (pins : List (Addr × Obj)) (s : Shared) (σ : St) (H : Hp) (o i : V) (ov iv : Value) (Q : VK), Inv X pins σ H s → RelV o ov → RelV i iv → t o i H Q →
    wpAny (model X.prog X.w) X.A (getItem ov iv) (EP X pins σ Q) X.xe s
theorem ps_augS {o i e : Expr} {to ti te : TE} {tget : V → V → Hp → VK → Prop} {tip : TIp} {tset : TSet} {op : Operator} {tpos : Pos} (ho : PE X o to) (hi : PE X i ti) (hg : PGet X tget) (he : PE X e te) (hp : PIp X op tip) (hs : PSet X tset)
    (ha : ∀ ov iv new, augStore i ov iv new = (do holding [new, ov, iv] (setItem ov iv new); release [new, ov, iv] []; pure .next) := by intros; rfl) : PS X (.AugAssign (.Subscript o i tpos) op e pos) (tAugS to ti te tget tip tset) := by
  intro pins s σ H D I h
  refine wpAny_AugAssign_SubscriptAny (thn (ho pins s σ H _ I h) fun ov s1 ⟨x1, H1, I1, r1, q1⟩ => ?_) ha
  refine thn (hi pins s1 σ H1 _ I1 q1) fun iv s2 ⟨x2, H2, I2, r2, q2⟩ => ?_
  refine thn (hg pins s2 σ H2 x1 x2 ov iv _ I2 r1 r2 q2) fun old s3 ⟨x3, H3, I3, r3, q3⟩ => ?_
  refine thn (he pins s3 σ H3 _ I3 q3) fun v s4 ⟨x4, H4, I4, r4, q4⟩ => ?_
  refine thn (hp pins s4 σ H4 x3 x4 old v _ I4 r3 r4 q4) fun new s5 ⟨x5, H5, I5, r5, q5⟩ => ?_
  exact thn (hs pins s5 σ H5 x1 x2 x5 ov iv new _ I5 r1 r2 r5 q5) fun _ s6 ⟨H6, I6, q6⟩ => ⟨σ, H6, I6, q6⟩
/-- ints -/
def ipI (f : Int → Int → Int) : TIp := fun x y H Q => ∃ i j, x = .int i ∧ y = .int j ∧ Q (.int (f i j)) H
theorem ip_add : PIp X .Add (ipI fun i j => i + j) := by
  intro pins s σ H x y v u Q I r1 r2 h
  obtain ⟨i, j, e1, e2, q⟩ := h
  subst e1; subst e2
  obtain ⟨t, rfl⟩ := r1
  obtain ⟨t', rfl⟩ := r2
  exact iadd_int ⟨.int _, H, I.tok _, ⟨_, rfl⟩, q⟩
theorem ip_sub : PIp X .Sub (ipI fun i j => i - j) := by
  intro pins s σ H x y v u Q I r1 r2 h
  obtain ⟨i, j, e1, e2, q⟩ := h
  subst e1; subst e2
  obtain ⟨t, rfl⟩ := r1
  obtain ⟨t', rfl⟩ := r2
  exact isub_int ⟨.int _, H, I.tok _, ⟨_, rfl⟩, q⟩
end

/-! ### while -/
section
variable {X : Cx} {pos : Pos}
/-- the invariant W with its measure -/
def tWhile (c : TT) (tb : TS) : TS := fun D σ H => ∃ W : Nat → St → Hp → Prop, (∃ m, W m σ H) ∧ ∀ m σ H, W m σ H →
  c σ H fun b H1 => if b = true then ∃ N : St → Hp → Prop, (∀ σ' H', N σ' H' → ∃ m', m' < m ∧ W m' σ' H') ∧ tb { D with nx := N, ct := N, bk := D.nx } σ H1 else D.nx σ H1
theorem ps_while {c : Expr} {body : List Stmt} {tc : TT} {tb : TS} (hp : PassesOwn (model X.prog X.w) X.A X.env X.xe) (hc : PT X c tc) (hb : PSs X body tb) : PS X (.While c body [] pos) (tWhile tc tb) := by
  intro pins s σ H D I h
  obtain ⟨W, ⟨m0, w0⟩, turn⟩ := h
  refine wpAny_While (codeAny_whileLoop (fun n s' => ∃ σ' H', Inv X pins σ' H' s' ∧ W n σ' H') ?_ m0 ⟨σ, H, I, w0⟩)
  rintro n s1 ⟨σ1, H1, I1, w1⟩
  refine wpAny_passesOwn hp (thn (hc pins s1 σ1 H1 _ I1 (turn n σ1 H1 w1)) fun b s2 ⟨H2, I2, q2⟩ => ?_)
  cases b with
  | true =>
    obtain ⟨N, hN, q2⟩ := q2
    rw [if_pos rfl]
    refine wpAny_passesOwn hp (thn (hb pins s2 σ1 H2 _ I2 q2) fun f s3 q3 => ?_)
    cases f with
    | next =>
      obtain ⟨σ3, H3, I3, n3⟩ := q3
      obtain ⟨m', hm, w3⟩ := hN σ3 H3 n3
      exact ⟨m', hm, σ3, H3, I3, w3⟩
    | cont =>
      obtain ⟨σ3, H3, I3, n3⟩ := q3
      obtain ⟨m', hm, w3⟩ := hN σ3 H3 n3
      exact ⟨m', hm, σ3, H3, I3, w3⟩
    | brk => exact q3
    | ret v => exact q3
  | false =>
    rw [if_neg Bool.false_ne_true]
    exact wpAny_execs_nil ⟨σ1, H2, I2, q2⟩
end

/-! ### what a loop or a comprehension walks -/
/-- at turn i: it yields x (the heap may grow), or it stops -/
structure It where
  go : Nat → Hp → Prop
  yld : Nat → Hp → V → Hp → Prop
  stop : Nat → Hp → Prop
/-- the iterator's own objects may turn: they are not the frame's, not pinned, younger than the entry (or a comprehension's own) -/
def FpOk (X : Cx) (pins : List (Addr × Obj)) (H : Hp) (b : Addr) : Prop :=
  H b = none ∧ b ≠ X.env.locals ∧ b ∉ X.fs ∧ (b ∈ X.ex ∨ X.s_0.heap.objs.size ≤ b) ∧ (∀ x c, X.env.cells.lookup x = some c → c ≠ b) ∧ ∀ p ∈ X.pn ++ pins, p.1 ≠ b
theorem Inv.fpOk {X : Cx} {pins : List (Addr × Obj)} {σ : St} {H H' : Hp} {s : Shared} {b : Addr} (I : Inv X pins σ H s) (hb : s.heap.objs.size ≤ b) (hn : H' b = none) : FpOk X pins H' b := by
  refine ⟨hn, Nat.ne_of_gt (Nat.lt_of_lt_of_le I.lt hb), I.nofs hb, .inr (Nat.le_trans I.sz hb), fun x c e z => ?_, fun p hp z => ?_⟩
  · obtain ⟨v, q⟩ := I.cell x c e
    exact absurd (Nat.lt_of_lt_of_le q.lt (by rw [z]; exact hb)) (Nat.lt_irrefl _)
  · exact absurd (Nat.lt_of_lt_of_le (Heap.lt_size (I.pin p hp).1) (by rw [z]; exact hb)) (Nat.lt_irrefl _)
structure Turn (P : Program) (w : World) (K : PySem.W.Frag) (tg : Expr) (J : It) (fp : List Addr) (it : Addr) (tn : Nat → Heap → Prop) : Prop where
  mem : it ∈ fp
  obj : ∀ i h, tn i h → ∀ b ∈ fp, ∃ o, h.get? b = some o ∧ ∀ v, o.data ≠ .cell v
  keep : ∀ i h h', tn i h → (∀ b ∈ fp, ∀ o, h.get? b = some o → h'.get? b = some o) → tn i h'
  item : ∀ (X : Cx), X.prog = P → X.w = w → X.K = K → X.calm = true → ∀ (i : Nat) (pins : List (Addr × Obj)) (s : Shared) (σ : St) (H : Hp) (E : Value → Shared → Prop), Inv X pins σ H s → (∀ b ∈ fp, FpOk X pins H b) → tn i s.heap → J.go i H →
    wpAny (model P w) X.A (pyNext (.ref it)) (fun r s1 => ∃ u, r = some u ∧
      wpAny (model P w) X.A (letOwnedTupleGo tg (.ref it) u) (fun _ s2 => ∃ x H', Inv X pins σ H' s2 ∧ RelV x u ∧ J.yld i H x H' ∧ tn (i + 1) s2.heap ∧ ∀ b ∈ fp, H' b = none) E s1) E s
  done : ∀ (X : Cx), X.prog = P → X.w = w → X.K = K → X.calm = true → ∀ (i : Nat) (pins : List (Addr × Obj)) (s : Shared) (σ : St) (H : Hp) (E : Value → Shared → Prop), Inv X pins σ H s → (∀ b ∈ fp, FpOk X pins H b) → tn i s.heap → J.stop i H →
    wpAny (model P w) X.A (pyNext (.ref it)) (fun r s1 => r = none ∧ Inv X pins σ H s1) E s
  self : ∀ (A : Around) (i : Nat) (s : Shared) (Q : Value → Shared → Prop) (E : Value → Shared → Prop), tn i s.heap → Q (.ref it) s → wpAny (model P w) A (pyIter (.ref it)) Q E s
abbrev TI := St → Hp → (It → Hp → Prop) → Prop
/-- an iterator has come -/
def PIE (X : Cx) (pins : List (Addr × Obj)) (σ : St) (tg : Expr) (R : It → Hp → Prop) (itv : Value) (s2 : Shared) : Prop :=
  ∃ (it : Addr) (fp : List Addr) (tn : Nat → Heap → Prop) (J : It) (H' : Hp), itv = .ref it ∧ Inv X pins σ H' s2 ∧ Turn X.prog X.w X.K tg J fp it tn ∧ tn 0 s2.heap ∧ (∀ b ∈ fp, FpOk X pins H' b) ∧ R J H'
def PI (X : Cx) (tg iter : Expr) (wi : TI) : Prop :=
  ∀ (pins : List (Addr × Obj)) (s : Shared) (σ : St) (H : Hp) (R : It → Hp → Prop), Inv X pins σ H s → wi σ H R →
    wpAny (model X.prog X.w) X.A (eval iter X.env) (fun v s1 => wpAny (model X.prog X.w) X.A (pyIter v) (PIE X pins σ tg R) X.xe s1) X.xe s

/-- the step ahead of the store is nothing for an iterator that keeps no tuple -/
theorem go_of {M : Model} {A : Around} {E : Value → Shared → Prop} {s : Shared} {tg : Expr} {it : Addr} {u : Value} {o : Obj} {n : String} {vs : Array Value} {Q : Unit → Shared → Prop} (ho : s.heap.get? it = some o) (hc : o.cls = .type n) (hd : o.data = .fields vs)
    (hn : ["enumerate", "zip", "dict_itemiterator", "dict_reverseitemiterator", "odict_iterator", "itertools.zip_longest", "itertools.pairwise"].contains n = false) (hQ : Q () s) : wpAny M A (letOwnedTupleGo tg (.ref it) u) Q E s := by
  unfold letOwnedTupleGo
  cases tg <;> first
    | exact wpAny_pure hQ
    | (cases u <;> first
        | exact wpAny_pure hQ
        | (refine wpAny_bind (wpAny_load ho ?_)
           rw [hc, hd]
           show wpAny M A (if (["enumerate", "zip", "dict_itemiterator", "dict_reverseitemiterator", "odict_iterator", "itertools.zip_longest", "itertools.pairwise"].contains n && vs[0]? == some (rawInt _)) = true then _ else _) Q E s
           rw [if_neg (by intro h; rw [hn, Bool.false_and] at h; cases h)]
           exact wpAny_pure hQ))

/-- the list at a, as it stands at each turn (a loop may append to it) -/
def Itl (K : PySem.W.Frag) (a : Addr) : It :=
  ⟨fun i H => ∃ xs x, SqL K H a xs ∧ xs[i]? = some x, fun i H x H' => H' = H ∧ ∀ xs, SqL K H a xs → xs[i]? = some x, fun i H => ∃ xs, SqL K H a xs ∧ xs.length ≤ i⟩
/-- lo, lo + 1, .. (n of them) -/
def Itr (lo : Int) (n : Nat) : It := ⟨fun i _ => i < n, fun i H x H' => H' = H ∧ x = .int (lo + i), fun i _ => n ≤ i⟩
theorem turn_list {P : Program} {w : World} {K : PySem.W.Frag} {tg : Expr} (a it : Addr) : Turn P w K tg (Itl K a) [it] it (fun i h => h.IsListIter it a i) where
  mem := by simp
  obj := fun i h st b hb => by
    have e : b = it := by simpa using hb
    subst e
    obtain ⟨o, e, c, d⟩ := st
    exact ⟨o, e, fun v z => by rw [d] at z; cases z⟩
  keep := fun i h h' st k => st.at fun o e => k it (by simp) o e
  item := by
    intro X hP hw hK hc i pins s σ H E I hf st hg
    subst hP hw hK
    obtain ⟨xs, x, hq, hx⟩ := hg
    obtain ⟨its, rv, p, hz⟩ := I.list hq
    obtain ⟨u, hu, ru⟩ := rv.get hx
    obtain ⟨f0, f1, f2, f3, f4, f5⟩ := hf it (by simp)
    refine wpAny_pyNext_list_item st p.isList (x := u) (by simpa using hu) fun h' st' sb => ?_
    have I1 : Inv X pins σ H { s with heap := h' } := I.turned (t' := s.toks) (fun b o hb e => (sb.2 b hb).trans e) f0 f1 f3 f4 f5
    obtain ⟨o, e, c, d⟩ := id st'
    exact ⟨u, rfl, go_of (s := { s with heap := h' }) e c d (by decide) ⟨x, H, I1, ru, ⟨rfl, fun ys hy => by rw [I.list_inj hy hq]; exact hx⟩, st', fun b hb => (hf b hb).1⟩⟩
  done := by
    intro X hP hw hK hc i pins s σ H E I hf st hg
    subst hP hw hK
    obtain ⟨xs, hq, hx⟩ := hg
    obtain ⟨its, rv, p, hz⟩ := I.list hq
    obtain ⟨f0, f1, f2, f3, f4, f5⟩ := hf it (by simp)
    have hl := rv.length
    exact wpAny_pyNext_list_end (I.ok.hd hc) st p.isList (by simp; omega) fun h' eb => ⟨rfl, I.turned (t' := s.toks) (fun b o hb e => eb b o hb e) f0 f1 f3 f4 f5⟩
  self := fun _ _ _ _ _ st h => wpAny_pyIter_listiter st h
theorem turn_range {P : Program} {w : World} {K : PySem.W.Frag} {tg : Expr} (it : Addr) (lo : Int) (n : Nat) : Turn P w K tg (Itr lo n) [it] it (fun i h => IsRangeIter h it (lo + (i : Nat) * 1) ((n : Int) - (i : Nat)) 1) where
  mem := by simp
  obj := fun i h st b hb => by
    have e : b = it := by simpa using hb
    subst e
    exact ⟨_, st, fun v z => by
      have z' : Data.fields _ = Data.cell v := z
      cases z'⟩
  keep := fun i h h' st k => k it (by simp) _ st
  item := by
    intro X hP hw hK hc i pins s σ H E I hf st hg
    subst hP hw hK
    obtain ⟨f0, f1, f2, f3, f4, f5⟩ := hf it (by simp)
    have W := Walks.range (prog := X.prog) (w := X.w) (I.ok.hd hc) it lo 1 n
    refine W.item i s _ _ hg st fun v h' tk hv st' kk => ?_
    obtain ⟨t, rfl⟩ := hv
    have I1 : Inv X pins σ H { s with heap := h', toks := tk } := I.turned (fun b o hb e => kk b o (by simpa using hb) e) f0 f1 f3 f4 f5
    refine ⟨_, rfl, go_of (s := { s with heap := h', toks := tk }) (n := "range_iterator") st' rfl rfl (by decide) ⟨.int (lo + i), H, I1, ⟨t, ?_⟩, ⟨rfl, rfl⟩, st', fun b hb => (hf b hb).1⟩⟩
    rw [Int.mul_one]
  done := by
    intro X hP hw hK hc i pins s σ H E I hf st hg
    subst hP hw hK
    obtain ⟨f0, f1, f2, f3, f4, f5⟩ := hf it (by simp)
    exact wpAny_pyNext_range_end (I.ok.hd hc) st (by have : n ≤ i := hg; omega) fun h' eb => ⟨rfl, I.turned (t' := s.toks) (fun b o hb e => eb b o hb e) f0 f1 f3 f4 f5⟩
  self := fun _ _ _ _ _ st h => wpAny_pyIter_rangeiter st h
end L2

namespace L2
open PySem PySem.Spec PyProof.Rows
section
variable {X : Cx} {tg : Expr}
def iList (K : PySem.W.Frag) (tl : TE) : TI := fun σ H R => tl σ H fun x H1 => ∃ a, x = .ref a ∧ (∃ xs, SqL K H1 a xs) ∧ R (Itl K a) H1
theorem pi_list {l : Expr} {tl : TE} (hl : PE X l tl) : PI X tg l (iList X.K tl) := by
  intro pins s σ H R I h
  refine thn (hl pins s σ H _ I h) fun v s1 ⟨x, H1, I1, r1, q1⟩ => ?_
  obtain ⟨a, e, ⟨xs, hq⟩, q⟩ := q1
  subst e
  cases r1
  obtain ⟨its, rv, p, hz⟩ := I1.list hq
  refine wpAny_pyIter_list p.isList ?_
  refine ⟨s1.heap.objs.size, [s1.heap.objs.size], _, _, H1, rfl, I1.kept (t' := s1.toks) fun b o e => Heap.get?_push_of_some _ e, turn_list a _, ⟨_, Heap.get?_push_size _ rfl, rfl, rfl⟩, fun b hb => ?_, q⟩
  have e : b = s1.heap.objs.size := by simpa using hb
  subst e
  exact I1.fpOk (Nat.le_refl _) (I1.hok.fresh (Nat.le_refl _))
/-- a range object just made, walked -/
theorem range_it {pins : List (Addr × Obj)} {σ : St} {H : Hp} {s : Shared} {R : It → Hp → Prop} {E : Value → Shared → Prop} {lo hi : Int} {t u v : Tok} {tk : Nat} (I : Inv X pins σ H s) (h1 : -(2 ^ 62) ≤ lo) (h2 : lo < 2 ^ 62) (h3 : -(2 ^ 62) ≤ hi) (h4 : hi < 2 ^ 62)
    (q : R (Itr lo (hi - lo).toNat) H) : wpAny (model X.prog X.w) X.A (pyIter (.ref s.heap.objs.size)) (PIE X pins σ tg R) E { s with heap := s.heap.push { cls := .type "range", data := .fields #[.int lo t, .int hi u, .int 1 v] }, toks := tk } := by
  refine wpAny_pyIter_range (IsRange.new ..) (small_one h1 h2 h3 h4) ?_
  have I1 : Inv X pins σ H { s with heap := s.heap.push { cls := .type "range", data := .fields #[.int lo t, .int hi u, .int 1 v] }, toks := tk } := I.kept fun b o e => Heap.get?_push_of_some _ e
  refine ⟨(s.heap.push { cls := .type "range", data := .fields #[.int lo t, .int hi u, .int 1 v] }).objs.size, [(s.heap.push { cls := .type "range", data := .fields #[.int lo t, .int hi u, .int 1 v] }).objs.size], _, _, H, rfl,
    I1.kept (t' := tk) fun b o e => Heap.get?_push_of_some _ e, turn_range _ lo (hi - lo).toNat, ?_, fun b hb => ?_, q⟩
  · have e1 : lo + ((0 : Nat) : Int) * 1 = lo := by simp
    have e2 : (((hi - lo).toNat : Nat) : Int) - ((0 : Nat) : Int) = Builtin.Range.rangeSize lo hi 1 := by rw [rangeSize_one]; split <;> omega
    show IsRangeIter _ _ (lo + ((0 : Nat) : Int) * 1) ((((hi - lo).toNat : Nat) : Int) - ((0 : Nat) : Int)) 1
    rw [e1, e2]
    exact Heap.get?_push_size _ rfl
  · have e : b = (s.heap.push { cls := .type "range", data := .fields #[.int lo t, .int hi u, .int 1 v] }).objs.size := by simpa using hb
    subst e
    exact I1.fpOk (Nat.le_refl _) (I1.hok.fresh (Nat.le_refl _))
def iRng1 (ta : TA) : TI := fun σ H R => ta σ H fun vs H1 => ∃ j : Int, vs = [.int j] ∧ -(2 ^ 62) ≤ j ∧ j < 2 ^ 62 ∧ R (Itr 0 j.toNat) H1
def iRng2 (ta : TA) : TI := fun σ H R => ta σ H fun vs H1 => ∃ i j : Int, vs = [.int i, .int j] ∧ (-(2 ^ 62) ≤ i ∧ i < 2 ^ 62 ∧ -(2 ^ 62) ≤ j ∧ j < 2 ^ 62) ∧ R (Itr i (j - i).toNat) H1
theorem pi_range1 {a : Expr} {ta : TA} {p pos : Pos} (hg : Gl X "range") (hm : X.mg "range" = none) (ha : PA X [a] ta) (hs : starEach [a] X.env = [(false, eval a X.env)] := by rfl) : PI X tg (.Call (.Name "range" p) [a] [] pos) (iRng1 ta) := by
  intro pins s σ H R I h
  refine Call_ (ld_blt I hg hm boot_range (PyProof.Rows.callWith_type1 (thn (ha pos pins s σ H _ I h) fun us s1 ⟨vs, H1, I1, r1, q1⟩ => ?_) hs rfl))
  obtain ⟨j, e, q1, q2, q⟩ := q1
  subst e
  cases r1 with
  | cons r rr =>
    cases rr
    obtain ⟨t, rfl⟩ := r
    exact call_range_1 (range_it I1 (by omega) (by omega) q1 q2 (by simpa using q))
theorem pi_range2 {a b : Expr} {ta : TA} {p pos : Pos} (hg : Gl X "range") (hm : X.mg "range" = none) (ha : PA X [a, b] ta) (hs : starEach [a, b] X.env = [(false, eval a X.env), (false, eval b X.env)] := by rfl) (hs2 : starEach [b] X.env = [(false, eval b X.env)] := by rfl) :
    PI X tg (.Call (.Name "range" p) [a, b] [] pos) (iRng2 ta) := by
  intro pins s σ H R I h
  refine Call_ (ld_blt I hg hm boot_range (PyProof.Rows.callWith_type1 (thn (ha pos pins s σ H _ I h) fun us s1 ⟨vs, H1, I1, r1, q1⟩ => ?_) (by rw [hs, hs2]) (by rw [hs2]; rfl)))
  obtain ⟨i, j, e, ⟨q1, q2, q3, q4⟩, q⟩ := q1
  subst e
  cases r1 with
  | cons r rr =>
    cases rr with
    | cons r' rr =>
      cases rr
      obtain ⟨t, rfl⟩ := r
      obtain ⟨t', rfl⟩ := r'
      exact call_range_2 (range_it I1 q1 q2 q3 q4 q)

/-! ### for -/
/-- W: the invariant by the turn and a measure; N: what the body is to reach -/
def tFor (wi : TI) (g : TG) (tb : TS) : TS := fun D σ H => wi σ H fun J H1 => ∃ W : Nat → Nat → St → Hp → Prop, (∃ m, W 0 m σ H1) ∧ ∀ i m σ H, W i m σ H →
  (J.stop i H ∧ D.nx σ H) ∨ (J.go i H ∧ ∃ N : St → Hp → Prop, (∀ σ' H', N σ' H' → ∃ m', m' < m ∧ W (i + 1) m' σ' H') ∧ ∀ x H', J.yld i H x H' → g x σ H' fun σ2 H2 => tb { D with nx := N, ct := N, bk := D.nx } σ2 H2)
/-- the records at fp as they stand -/
def pinsAt (fp : List Addr) (h : Heap) : List (Addr × Obj) := fp.filterMap fun b => (h.get? b).map fun o => (b, o)
theorem mem_pinsAt {fp : List Addr} {h : Heap} {b : Addr} {o : Obj} (hb : b ∈ fp) (e : h.get? b = some o) : (b, o) ∈ pinsAt fp h := List.mem_filterMap.mpr ⟨b, hb, by rw [e]; rfl⟩
theorem of_pinsAt {fp : List Addr} {h : Heap} {p : Addr × Obj} (hp : p ∈ pinsAt fp h) : p.1 ∈ fp ∧ h.get? p.1 = some p.2 := by
  obtain ⟨b, hb, e⟩ := List.mem_filterMap.mp hp
  cases q : h.get? b with
  | none => rw [q] at e; cases e
  | some o =>
    rw [q] at e
    have e' : (b, o) = p := Option.some.inj e
    subst e'
    exact ⟨hb, q⟩
theorem Inv.pinned {pins : List (Addr × Obj)} {σ : St} {H : Hp} {s : Shared} {fp : List Addr} (I : Inv X pins σ H s) (hf : ∀ b ∈ fp, FpOk X pins H b) (ho : ∀ b ∈ fp, ∃ o, s.heap.get? b = some o ∧ ∀ v, o.data ≠ .cell v) : Inv X (pins ++ pinsAt fp s.heap) σ H s :=
  I.pins_of fun p hp => (List.mem_append.mp hp).elim (fun z => I.pin p (List.mem_append_right _ z)) fun z => by
    obtain ⟨hb, e⟩ := of_pinsAt z
    obtain ⟨f0, f1, f2, _⟩ := hf p.1 hb
    obtain ⟨o, e', d⟩ := ho p.1 hb
    rw [e] at e'; cases e'
    exact ⟨e, f0, f1, f2, d⟩
theorem Inv.unpinned {pins pl : List (Addr × Obj)} {σ : St} {H : Hp} {s : Shared} (I : Inv X (pins ++ pl) σ H s) : Inv X pins σ H s := I.pins_of fun p hp => I.pin p (List.mem_append_right _ (List.mem_append_left _ hp))
theorem ps_for {iter : Expr} {body : List Stmt} {wi : TI} {g : TG} {tb : TS} {pos : Pos} (hp : PassesOwn (model X.prog X.w) X.A X.env X.xe) (hc : X.calm = true) (hi : PI X tg iter wi) (hg : PG X tg g) (hb : PSs X body tb)
    (hs : ∀ x, foldedSetIterable iter X.env x = pure x := by intro _; rfl) : PS X (.For tg iter body [] pos) (tFor wi g tb) := by
  intro pins s σ H D I h
  refine wpAny_For (thn (hi pins s σ H _ I h) fun v s1 h1 => thn h1 fun itv s2 h2 => ?_) hs
  obtain ⟨it, fp, tn, J, H2, e, I2, T, st2, f2, W, ⟨m0, w0⟩, turn⟩ := h2
  subst e
  -- what stays true of the iterator's objects through the loop
  have stat : ∀ {H' : Hp}, (∀ b ∈ fp, H' b = none) → ∀ b ∈ fp, FpOk X pins H' b := fun hn b hb => ⟨hn b hb, (f2 b hb).2⟩
  refine codeAny_forLoop_any (fun n s' => ∃ i σ' H', Inv X pins σ' H' s' ∧ tn i s'.heap ∧ (∀ b ∈ fp, H' b = none) ∧ W i n σ' H') ?_ m0 ⟨0, σ, H2, I2, st2, fun b hb => (f2 b hb).1, w0⟩
  rintro n s3 ⟨i, σ3, H3, I3, st3, fr3, w3⟩
  rcases turn i n σ3 H3 w3 with ⟨stop, qn⟩ | ⟨go, N, hN, step⟩
  · refine wpAny_passesOwn hp (thn (T.done X rfl rfl rfl hc i pins s3 σ3 H3 X.xe I3 (stat fr3) st3 stop) fun r s4 ⟨hr, I4⟩ => ?_)
    subst hr
    exact wpAny_execs_nil ⟨σ3, H3, I4, qn⟩
  · refine wpAny_passesOwn hp (thn (T.item X rfl rfl rfl hc i pins s3 σ3 H3 X.xe I3 (stat fr3) st3 go) fun r s4 ⟨u, hr, h4⟩ => ?_)
    subst hr
    refine wpAny_passesOwn hp (thn h4 fun _ s5 ⟨x, H5, I5, r5, y5, st5, fr5⟩ => ?_)
    have I5' := I5.pinned (stat fr5) (T.obj _ _ st5)
    refine wpAny_passesOwn hp (thn (hg _ s5 σ3 H5 x u _ I5' r5 (step x H5 y5)) fun _ s6 ⟨σ6, H6, I6, q6⟩ => ?_)
    refine wpAny_passesOwn hp (thn (hb _ s6 σ6 H6 _ I6 q6) fun f s7 q7 => ?_)
    have again : ∀ {σ7 : St} {H7 : Hp}, Inv X (pins ++ pinsAt fp s5.heap) σ7 H7 s7 → N σ7 H7 → ∃ m, m < n ∧ ∃ i σ' H', Inv X pins σ' H' s7 ∧ tn i s7.heap ∧ (∀ b ∈ fp, H' b = none) ∧ W i m σ' H' := fun {σ7 H7} I7 n7 => by
      obtain ⟨m', hm, w7⟩ := hN σ7 H7 n7
      refine ⟨m', hm, i + 1, σ7, H7, I7.unpinned, T.keep _ _ _ st5 fun b hb o e => (I7.pin (b, o) (List.mem_append_right _ (List.mem_append_right _ (mem_pinsAt hb e)))).1, fun b hb => ?_, w7⟩
      obtain ⟨o, e, d⟩ := T.obj _ _ st5 b hb
      exact (I7.pin (b, o) (List.mem_append_right _ (List.mem_append_right _ (mem_pinsAt hb e)))).2.1
    cases f with
    | next => obtain ⟨σ7, H7, I7, n7⟩ := q7; exact again I7 n7
    | cont => obtain ⟨σ7, H7, I7, n7⟩ := q7; exact again I7 n7
    | brk => obtain ⟨σ7, H7, I7, q7⟩ := q7; exact ⟨σ7, H7, I7.unpinned, q7⟩
    | ret v => obtain ⟨x7, σ7, H7, I7, r7, q7⟩ := q7; exact ⟨x7, σ7, H7, I7.unpinned, r7, q7⟩
end

/-! ### the forms one uses -/
/-- over a list that the body leaves as it is -/
theorem for_list {K : PySem.W.Frag} {a : Addr} {xs : List V} {g : TG} {tb : TS} {D : Ends} {σ : St} {H : Hp} (Pv : Nat → St → Hp → Prop) (h0 : Pv 0 σ H) (hl : ∀ i σ H, i ≤ xs.length → Pv i σ H → SqL K H a xs)
    (hs : ∀ i x σ H, xs[i]? = some x → Pv i σ H → g x σ H fun σ2 H2 => tb { D with nx := Pv (i + 1), ct := Pv (i + 1), bk := D.nx } σ2 H2) (hd : ∀ σ H, Pv xs.length σ H → D.nx σ H) :
    ∃ W : Nat → Nat → St → Hp → Prop, (∃ m, W 0 m σ H) ∧ ∀ i m σ H, W i m σ H →
      ((Itl K a).stop i H ∧ D.nx σ H) ∨ ((Itl K a).go i H ∧ ∃ N : St → Hp → Prop, (∀ σ' H', N σ' H' → ∃ m', m' < m ∧ W (i + 1) m' σ' H') ∧ ∀ x H', (Itl K a).yld i H x H' → g x σ H' fun σ2 H2 => tb { D with nx := N, ct := N, bk := D.nx } σ2 H2) := by
  refine ⟨fun i m σ H => m = xs.length - i ∧ i ≤ xs.length ∧ Pv i σ H, ⟨xs.length, by simp, Nat.zero_le _, h0⟩, ?_⟩
  rintro i m σ H ⟨rfl, hi, p⟩
  have q := hl i σ H hi p
  by_cases hlt : i < xs.length
  · refine .inr ⟨⟨xs, xs[i], q, by simp [hlt]⟩, Pv (i + 1), fun σ' H' p' => ⟨xs.length - (i + 1), by omega, rfl, hlt, p'⟩, fun x H' y => ?_⟩
    obtain ⟨e, y⟩ := y
    subst e
    exact hs i x σ _ (y xs q) p
  · have e : i = xs.length := by omega
    subst e
    exact .inl ⟨⟨xs, q, Nat.le_refl _⟩, hd σ H p⟩
theorem for_range {lo : Int} {n : Nat} {g : TG} {tb : TS} {D : Ends} {σ : St} {H : Hp} (Pv : Nat → St → Hp → Prop) (h0 : Pv 0 σ H)
    (hs : ∀ i σ H, i < n → Pv i σ H → g (.int (lo + i)) σ H fun σ2 H2 => tb { D with nx := Pv (i + 1), ct := Pv (i + 1), bk := D.nx } σ2 H2) (hd : ∀ σ H, Pv n σ H → D.nx σ H) :
    ∃ W : Nat → Nat → St → Hp → Prop, (∃ m, W 0 m σ H) ∧ ∀ i m σ H, W i m σ H →
      ((Itr lo n).stop i H ∧ D.nx σ H) ∨ ((Itr lo n).go i H ∧ ∃ N : St → Hp → Prop, (∀ σ' H', N σ' H' → ∃ m', m' < m ∧ W (i + 1) m' σ' H') ∧ ∀ x H', (Itr lo n).yld i H x H' → g x σ H' fun σ2 H2 => tb { D with nx := N, ct := N, bk := D.nx } σ2 H2) := by
  refine ⟨fun i m σ H => m = n - i ∧ i ≤ n ∧ Pv i σ H, ⟨n, by simp, Nat.zero_le _, h0⟩, ?_⟩
  rintro i m σ H ⟨rfl, hi, p⟩
  by_cases hlt : i < n
  · refine .inr ⟨hlt, Pv (i + 1), fun σ' H' p' => ⟨n - (i + 1), by omega, rfl, hlt, p'⟩, fun x H' y => ?_⟩
    obtain ⟨e, y⟩ := y
    subst e y
    exact hs i σ _ hlt p
  · have e : i = n := by omega
    subst e
    exact .inl ⟨Nat.le_refl _, hd σ H p⟩
end L2

namespace L2
open PySem PySem.Spec PyProof.Rows

abbrev R2 := V → V → Hp → VK → Prop
/-- a two-place operation on values: f is binaryOp op, inplaceOp op or compareOp op -/
def OpR (X : Cx) (f : Value → Value → Sem Value) (r : R2) : Prop :=
  ∀ (pins : List (Addr × Obj)) (s : Shared) (σ : St) (H : Hp) (x y : V) (v u : Value) (Q : VK), Inv X pins σ H s → RelV x v → RelV y u → r x y H Q →
    wpAny (model X.prog X.w) X.A (f v u) (EP X pins σ Q) X.xe s
/-- a one-place operation -/
def UnR (X : Cx) (f : Value → Sem Value) (r : V → Hp → VK → Prop) : Prop :=
  ∀ (pins : List (Addr × Obj)) (s : Shared) (σ : St) (H : Hp) (x : V) (v : Value) (Q : VK), Inv X pins σ H s → RelV x v → r x H Q →
    wpAny (model X.prog X.w) X.A (f v) (EP X pins σ Q) X.xe s
/-- a call of a value that is known (a builtin, a type) with values -/
def CallR (X : Cx) (f : Value) (r : List V → Hp → VK → Prop) : Prop :=
  ∀ (pins : List (Addr × Obj)) (s : Shared) (σ : St) (H : Hp) (xs : List V) (us : List Value) (Q : VK), Inv X pins σ H s → Vals xs us → r xs H Q →
    wpAny (model X.prog X.w) X.A (call f us) (EP X pins σ Q) X.xe s
/-- a value's truth -/
def TruR (X : Cx) (r : V → Hp → (Bool → Hp → Prop) → Prop) : Prop :=
  ∀ (pins : List (Addr × Obj)) (s : Shared) (σ : St) (H : Hp) (x : V) (v : Value) (Q : Bool → Hp → Prop), Inv X pins σ H s → RelV x v → r x H Q →
    wpAny (model X.prog X.w) X.A (truthy v) (TP X pins σ Q) X.xe s

def tOp (r : R2) (ta tb : TE) : TE := fun σ H Q => ta σ H fun x H1 => tb σ H1 fun y H2 => r x y H2 Q
def tUn (r : V → Hp → VK → Prop) (ta : TE) : TE := fun σ H Q => ta σ H fun x H1 => r x H1 Q
/-- ints in, under C, and a value out -/
def rI (C : Int → Int → Prop) (g : Int → Int → V) : R2 := fun x y H Q => ∃ i j, x = .int i ∧ y = .int j ∧ C i j ∧ Q (g i j) H
def rI0 (g : Int → Int → V) : R2 := fun x y H Q => ∃ i j, x = .int i ∧ y = .int j ∧ Q (g i j) H
def rU (g : Int → V) : V → Hp → VK → Prop := fun x H Q => ∃ i, x = .int i ∧ Q (g i) H

section
variable {X : Cx} {a b c : Expr} {ta tb tc : TE} {pos : Pos}

theorem binT (ha : PE X a ta) (hb : PE X b tb) {pins : List (Addr × Obj)} {s : Shared} {σ : St} {H : Hp} {R : V → V → Hp → Prop} (I : Inv X pins σ H s)
    (h : ta σ H fun x H1 => tb σ H1 fun y H2 => R x y H2) {Q : Value → Shared → Prop} {f : Value → Value → Sem Value}
    (hf : ∀ v u s2 x y H2, Inv X pins σ H2 s2 → RelV x v → RelV y u → R x y H2 → wpAny (model X.prog X.w) X.A (f v u) Q X.xe s2) :
    wpAny (model X.prog X.w) X.A (eval a X.env) (fun v s₁ => wpAny (model X.prog X.w) X.A (eval b X.env) (fun u s₂ => wpAny (model X.prog X.w) X.A (f v u) Q X.xe s₂) X.xe s₁) X.xe s := by
  refine thn (ha pins s σ H _ I h) fun v s1 ⟨x, H1, I1, r1, q1⟩ => ?_
  refine thn (hb pins s1 σ H1 _ I1 q1) fun u s2 ⟨y, H2, I2, r2, q2⟩ => ?_
  exact hf v u s2 x y H2 I2 r1 r2 q2

theorem pe_op {op : Operator} {r : R2} (ho : OpR X (binaryOp op) r) (ha : PE X a ta) (hb : PE X b tb) : PE X (.BinOp a op b pos) (tOp r ta tb) := by
  intro pins s σ H Q I h
  exact wpAny_BinOp (binT ha hb I h fun v u s2 x y H2 I2 rx ry q => ho pins s2 σ H2 x y v u Q I2 rx ry q)
theorem pe_un {op : UnaryOp} {r : V → Hp → VK → Prop} (ho : UnR X (unaryOp op) r) (ha : PE X a ta) : PE X (.UnaryOp op a pos) (tUn r ta) := by
  intro pins s σ H Q I h
  exact UnaryOp_ (thn (ha pins s σ H _ I h) fun v s1 ⟨x, H1, I1, r1, q1⟩ => ho pins s1 σ H1 x v Q I1 r1 q1)

/-! ### ints -/
theorem opI {f : Value → Value → Sem Value} {C : Int → Int → Prop} {g : Int → Int → Int}
    (rule : ∀ (i j : Int) (t u : Tok) (s : Shared) (Q : Value → Shared → Prop) (E : Value → Shared → Prop), C i j → Q (.int (g i j) s.toks) { s with toks := s.toks + 1 } → wpAny (model X.prog X.w) X.A (f (.int i t) (.int j u)) Q E s) :
    OpR X f (rI C fun i j => .int (g i j)) := by
  intro pins s σ H x y v u Q I rx ry h
  obtain ⟨i, j, rfl, rfl, hc, q⟩ := h
  obtain ⟨t, rfl⟩ := rx
  obtain ⟨t', rfl⟩ := ry
  exact rule i j t t' s _ _ hc ⟨.int (g i j), H, I.tok _, ⟨_, rfl⟩, q⟩
theorem opI0 {f : Value → Value → Sem Value} {g : Int → Int → Int}
    (rule : ∀ (i j : Int) (t u : Tok) (s : Shared) (Q : Value → Shared → Prop) (E : Value → Shared → Prop), Q (.int (g i j) s.toks) { s with toks := s.toks + 1 } → wpAny (model X.prog X.w) X.A (f (.int i t) (.int j u)) Q E s) :
    OpR X f (rI0 fun i j => .int (g i j)) := by
  intro pins s σ H x y v u Q I rx ry h
  obtain ⟨i, j, rfl, rfl, q⟩ := h
  obtain ⟨t, rfl⟩ := rx
  obtain ⟨t', rfl⟩ := ry
  exact rule i j t t' s _ _ ⟨.int (g i j), H, I.tok _, ⟨_, rfl⟩, q⟩
theorem opB0 {f : Value → Value → Sem Value} {g : Int → Int → Bool}
    (rule : ∀ (i j : Int) (t u : Tok) (s : Shared) (Q : Value → Shared → Prop) (E : Value → Shared → Prop), Q (.bool (g i j)) s → wpAny (model X.prog X.w) X.A (f (.int i t) (.int j u)) Q E s) :
    OpR X f (rI0 fun i j => .bl (g i j)) := by
  intro pins s σ H x y v u Q I rx ry h
  obtain ⟨i, j, rfl, rfl, q⟩ := h
  obtain ⟨t, rfl⟩ := rx
  obtain ⟨t', rfl⟩ := ry
  exact rule i j t t' s _ _ ⟨.bl (g i j), H, I, rfl, q⟩

def CDiv (i j : Int) : Prop := 0 < j ∧ j < 1073741824

theorem op_add : OpR X (binaryOp .Add) (rI0 fun i j => .int (i + j)) := opI0 fun _ _ _ _ _ _ _ q => add_int q
theorem op_sub : OpR X (binaryOp .Sub) (rI0 fun i j => .int (i - j)) := opI0 fun _ _ _ _ _ _ _ q => sub_int q
/-- // by a positive divisor -/
theorem op_fdiv : OpR X (binaryOp .FloorDiv) (rI CDiv fun i j => .int (i / j)) := opI fun i j _ _ _ _ _ hc q => by
  have h1 : (0 : Int) < j := hc.1
  have h2 : j < 1073741824 := hc.2
  exact floordiv_int (by omega) (by rw [Int.fdiv_eq_ediv_of_nonneg i (by omega)]; exact q) (.inl (PyProof.noPylong_small (by omega)))
/-- % by a positive divisor of any size -/
theorem op_mod : OpR X (binaryOp .Mod) (rI (fun _ j => 0 < j) fun i j => .int (i % j)) := opI fun i j _ _ _ _ _ hc q => by
  have h1 : (0 : Int) < j := hc
  exact mod_int' (by omega) (by rw [Int.fmod_eq_emod_of_nonneg i (by omega)]; exact q)


theorem unI {f : Value → Sem Value} {g : Int → Int}
    (rule : ∀ (i : Int) (t : Tok) (s : Shared) (Q : Value → Shared → Prop) (E : Value → Shared → Prop), Q (.int (g i) s.toks) { s with toks := s.toks + 1 } → wpAny (model X.prog X.w) X.A (f (.int i t)) Q E s) :
    UnR X f (rU fun i => .int (g i)) := by
  intro pins s σ H x v Q I rx h
  obtain ⟨i, rfl, q⟩ := h
  obtain ⟨t, rfl⟩ := rx
  exact rule i t s _ _ ⟨.int (g i), H, I.tok _, ⟨_, rfl⟩, q⟩
theorem un_neg : UnR X (unaryOp .USub) (rU fun i => .int (-i)) := unI fun _ _ _ _ _ q => neg_int q

/-! ### bools among ints: n += (a < b) -/
end

/-! ### comparisons -/
/-- the scalars that == tells apart as data does -/
def scal : V → V → Bool
  | .non, .non => true | .non, .int _ => true | .int _, .non => true | .non, .bl _ => true | .bl _, .non => true | .non, .str _ => true | .str _, .non => true
  | .int _, .int _ => true | .bl _, .bl _ => true | .str _, .str _ => true | .byt _, .byt _ => true
  | .int _, .str _ => true | .str _, .int _ => true | .bl _, .str _ => true | .str _, .bl _ => true
  | _, _ => false
def rEq : R2 := fun x y H Q => scal x y = true ∧ Q (.bl (decide (x = y))) H
def rNe : R2 := fun x y H Q => scal x y = true ∧ Q (.bl (!decide (x = y))) H

theorem dec_int {i j : Int} : decide (V.int i = V.int j) = (i == j) := by
  rw [Bool.eq_iff_iff]
  simp
theorem dec_bl {i j : Bool} : decide (V.bl i = V.bl j) = (i == j) := by
  rw [Bool.eq_iff_iff]
  simp
theorem dec_str {i j : Str} : decide (V.str i = V.str j) = (i == j) := by
  rw [Bool.eq_iff_iff]
  simp
theorem dec_byt {i j : Array UInt8} : decide (V.byt i = V.byt j) = (i.toList == j.toList) := by
  rw [Bool.eq_iff_iff]
  cases i
  cases j
  simp

section
variable {X : Cx} {a b c : Expr} {ta tb tc : TE} {pos : Pos}
theorem fin_bl {pins : List (Addr × Obj)} {σ : St} {H : Hp} {s : Shared} {Q : VK} {k k' : Bool} (I : Inv X pins σ H s) (q : Q (.bl k) H) (e : k = k') : EP X pins σ Q (.bool k') s := by
  subst e
  exact ⟨.bl k, H, I, rfl, q⟩
theorem op_eq : OpR X (compareOp .Eq) rEq := by
  intro pins s σ H x y v u Q I rx ry h
  obtain ⟨hs, q⟩ := h
  cases x with
  | non =>
    cases rx
    cases y with
    | non => cases ry; exact PySem.EqNone.eq_none_none (fin_bl I q (by simp))
    | bl j => cases ry; exact PySem.EqNone.eq_none_bool (fin_bl I q (by simp))
    | int j => obtain ⟨t', rfl⟩ := ry; exact PySem.EqNone.eq_none_int (fin_bl I q (by simp))
    | str j => obtain ⟨t', rfl⟩ := ry; exact PySem.EqNone.eq_none_str (fin_bl I q (by simp))
    | _ => exact absurd (show false = true from hs) Bool.false_ne_true
  | bl i =>
    cases rx
    cases y with
    | non => cases ry; exact PySem.EqNone.eq_bool_none (fin_bl I q (by simp))
    | bl j => cases ry; exact eq_bool (fin_bl I q dec_bl)
    | str j => obtain ⟨t', rfl⟩ := ry; exact PySem.EqMixed.eq_bool_str (fin_bl I q (by simp))
    | _ => exact absurd (show false = true from hs) Bool.false_ne_true
  | int i =>
    obtain ⟨t, rfl⟩ := rx
    cases y with
    | non => cases ry; exact PySem.EqNone.eq_int_none (fin_bl I q (by simp))
    | int j => obtain ⟨t', rfl⟩ := ry; exact eq_int (fin_bl I q dec_int)
    | str j => obtain ⟨t', rfl⟩ := ry; exact PySem.EqMixed.eq_int_str (fin_bl I q (by simp))
    | _ => exact absurd (show false = true from hs) Bool.false_ne_true
  | str i =>
    obtain ⟨t, rfl⟩ := rx
    cases y with
    | non => cases ry; exact PySem.EqNone.eq_str_none (fin_bl I q (by simp))
    | bl j => cases ry; exact PySem.EqMixed.eq_str_bool (fin_bl I q (by simp))
    | int j => obtain ⟨t', rfl⟩ := ry; exact PySem.EqMixed.eq_str_int (fin_bl I q (by simp))
    | str j => obtain ⟨t', rfl⟩ := ry; exact eq_str (fin_bl I q dec_str)
    | _ => exact absurd (show false = true from hs) Bool.false_ne_true
  | byt i =>
    obtain ⟨t, rfl⟩ := rx
    cases y with
    | byt j => obtain ⟨t', rfl⟩ := ry; exact PySem.W.eq_bytes (fin_bl I q dec_byt)
    | _ => exact absurd (show false = true from hs) Bool.false_ne_true
  | _ => cases y <;> exact absurd (show false = true from hs) Bool.false_ne_true
theorem op_ne : OpR X (compareOp .NotEq) rNe := by
  intro pins s σ H x y v u Q I rx ry h
  obtain ⟨hs, q⟩ := h
  cases x with
  | non =>
    cases rx
    cases y with
    | non => cases ry; exact PySem.EqNone.ne_none_none (fin_bl I q (by simp))
    | bl j => cases ry; exact PySem.EqNone.ne_none_bool (fin_bl I q (by simp))
    | int j => obtain ⟨t', rfl⟩ := ry; exact PySem.EqNone.ne_none_int (fin_bl I q (by simp))
    | str j => obtain ⟨t', rfl⟩ := ry; exact PySem.EqNone.ne_none_str (fin_bl I q (by simp))
    | _ => exact absurd (show false = true from hs) Bool.false_ne_true
  | bl i =>
    cases rx
    cases y with
    | non => cases ry; exact PySem.EqNone.ne_bool_none (fin_bl I q (by simp))
    | bl j => cases ry; exact ne_bool (fin_bl I q (congrArg not dec_bl))
    | str j => obtain ⟨t', rfl⟩ := ry; exact PySem.EqMixed.ne_bool_str (fin_bl I q (by simp))
    | _ => exact absurd (show false = true from hs) Bool.false_ne_true
  | int i =>
    obtain ⟨t, rfl⟩ := rx
    cases y with
    | non => cases ry; exact PySem.EqNone.ne_int_none (fin_bl I q (by simp))
    | int j => obtain ⟨t', rfl⟩ := ry; exact ne_int (fin_bl I q (congrArg not dec_int))
    | str j => obtain ⟨t', rfl⟩ := ry; exact PySem.EqMixed.ne_int_str (fin_bl I q (by simp))
    | _ => exact absurd (show false = true from hs) Bool.false_ne_true
  | str i =>
    obtain ⟨t, rfl⟩ := rx
    cases y with
    | non => cases ry; exact PySem.EqNone.ne_str_none (fin_bl I q (by simp))
    | bl j => cases ry; exact PySem.EqMixed.ne_str_bool (fin_bl I q (by simp))
    | int j => obtain ⟨t', rfl⟩ := ry; exact PySem.EqMixed.ne_str_int (fin_bl I q (by simp))
    | str j => obtain ⟨t', rfl⟩ := ry; exact ne_str (fin_bl I q (congrArg not dec_str))
    | _ => exact absurd (show false = true from hs) Bool.false_ne_true
  | byt i =>
    obtain ⟨t, rfl⟩ := rx
    cases y with
    | byt j => obtain ⟨t', rfl⟩ := ry; exact PySem.W.ne_bytes (fin_bl I q (congrArg not dec_byt))
    | _ => exact absurd (show false = true from hs) Bool.false_ne_true
  | _ => cases y <;> exact absurd (show false = true from hs) Bool.false_ne_true

theorem op_lt : OpR X (compareOp .Lt) (rI0 fun i j => .bl (decide (i < j))) := opB0 fun _ _ _ _ _ _ _ q => lt_int q
theorem op_le : OpR X (compareOp .LtE) (rI0 fun i j => .bl (decide (i ≤ j))) := opB0 fun _ _ _ _ _ _ _ q => le_int q
theorem op_gt : OpR X (compareOp .Gt) (rI0 fun i j => .bl (decide (j < i))) := opB0 fun _ _ _ _ _ _ _ q => gt_int q

/-- is None, is not None: the right side a value none -/
theorem op_isN : OpR X (compareOp .Is) (fun x y H Q => y = .non ∧ Q (.bl (decide (x = .non))) H) := by
  intro pins s σ H x y v u Q I rx ry h
  obtain ⟨rfl, q⟩ := h
  cases ry
  refine is_none_gen (fin_bl I q ?_)
  cases x <;> first
    | (cases rx; rfl)
    | (obtain ⟨t, rfl⟩ := rx; rfl)



theorem nomark (b : Expr) {op : CmpOp} (h : op ≠ .In := by decide) (h2 : op ≠ .NotIn := by decide) : behindInMarks op b = false := by
  have e1 : (op == CmpOp.In) = false := by cases op <;> first | rfl | exact absurd rfl h
  have e2 : (op == CmpOp.NotIn) = false := by cases op <;> first | rfl | exact absurd rfl h2
  cases b <;> simp [behindInMarks, e1, e2]
/-- a reading of a value as a test -/
def tTest (t : TE) : TT := fun σ H Q => t σ H fun x H' => ∃ k, x = .bl k ∧ Q k H'
theorem pt_cmpR {op : CmpOp} {r : R2} (ho : OpR X (compareOp op) r) (ha : PE X a ta) (hb : PE X b tb) (hm : behindInMarks op b = false) : PT X (.Compare a [op] [b] pos) (tTest (tOp r ta tb)) := by
  intro pins s σ H Q I h
  refine wpAny_isTrue_Compare1 (thn (ha pins s σ H _ I h) fun v s1 ⟨x, H1, I1, r1, q1⟩ => thn (hb pins s1 σ H1 _ I1 q1) fun u s2 ⟨y, H2, I2, r2, q2⟩ =>
    thn (ho pins s2 σ H2 x y v u _ I2 r1 r2 q2) fun c s3 ⟨z, H3, I3, r3, k, e, q3⟩ => ?_) hm
  subst e
  cases r3
  exact wpAny_truthy_bool ⟨H3, I3, q3⟩

/-! ### truth -/
/-- a value's truth by the abstract heap -/
def TruV (K : PySem.W.Frag) (x : V) (H : Hp) (k : Bool) : Prop :=
  match x with
  | .non => k = false
  | .bl b => k = b
  | .int i => k = (i != 0)
  | .str y => y.length ≤ sizeLine ∧ k = ((y.length : Int) != 0)
  | .byt y => y.size ≤ sizeLine ∧ k = ((y.size : Int) != 0)
  | .ref p => (∃ xs, SqL K H p xs ∧ k = !xs.isEmpty) ∨ (∃ xs, SqT K H p xs ∧ k = !xs.isEmpty) ∨ ∃ kvs, H p = some (.dK kvs) ∧ k = !kvs.isEmpty
  | _ => False
theorem isEmpty_kv {κ : Type} {kvs : List (κ × V)} {vs : List (κ × Value)} (r : KV kvs vs) : (!vs.isEmpty) = !kvs.isEmpty := by
  cases r <;> rfl
theorem isEmpty_of {xs : List V} {its : List Value} (r : Vals xs its) : (!its.toArray.isEmpty) = !xs.isEmpty := by
  cases r <;> simp
theorem line63 : (sizeLine : Nat) < 2 ^ 63 := by rw [sizeLine_eq]; decide
theorem tru_ok : TruR X (fun x H Q => ∃ k, TruV X.K x H k ∧ Q k H) := by
  intro pins s σ H x v Q I rx h
  obtain ⟨k, e, q⟩ := h
  have hl := line63
  have hs : sizeLine = 16777216 := sizeLine_eq
  cases x with
  | non =>
    cases rx
    have e' : k = false := e
    subst e'
    exact truthy_none ⟨H, I, q⟩
  | bl b =>
    cases rx
    have e' : k = b := e
    subst e'
    exact wpAny_truthy_bool ⟨H, I, q⟩
  | int i =>
    obtain ⟨t, rfl⟩ := rx
    have e' : k = (i != 0) := e
    subst e'
    exact PySem.P.truthy_int ⟨H, I, q⟩
  | str y =>
    obtain ⟨t, rfl⟩ := rx
    obtain ⟨hy, e'⟩ : y.length ≤ sizeLine ∧ k = ((y.length : Int) != 0) := e
    subst e'
    exact PySem.P.truthy_str (by omega) ⟨H, I.tok _, q⟩
  | byt y =>
    obtain ⟨t, rfl⟩ := rx
    obtain ⟨hy, e'⟩ : y.size ≤ sizeLine ∧ k = ((y.size : Int) != 0) := e
    subst e'
    exact PySem.W.truthy_bytes (by omega) ⟨H, I.tok _, q⟩
  | ref p =>
    cases rx
    have e' : (∃ xs, SqL X.K H p xs ∧ k = !xs.isEmpty) ∨ (∃ xs, SqT X.K H p xs ∧ k = !xs.isEmpty) ∨ ∃ kvs, H p = some (.dK kvs) ∧ k = !kvs.isEmpty := e
    rcases e' with ⟨xs, hx, e'⟩ | ⟨xs, hx, e'⟩ | ⟨kvs, hx, e'⟩
    · subst e'
      obtain ⟨its, r, pl, hz⟩ := I.list hx
      have hlen := r.length
      exact wpAny_truthy_list pl.isList (by simp only [List.size_toArray]; omega) ⟨H, I.tok _, by rw [isEmpty_of r]; exact q⟩
    · subst e'
      obtain ⟨its, r, pl, hz⟩ := I.tuple hx
      have hlen := r.length
      exact truthy_tuple pl (by simp only [List.size_toArray]; omega) ⟨H, I.tok _, by rw [isEmpty_of r]; exact q⟩
    · subst e'
      obtain ⟨hz, hS, vs, r, m⟩ : kvs.length ≤ sizeLine ∧ (p == sysModules) = false ∧ ∃ vs, KV kvs vs ∧ s.heap.DictOf (mixKind X.prog X.w) p vs := I.hok p _ hx
      have hlen : kvs.length = vs.length := Paired.length r
      exact wpAny_truthy_dict hS m (by omega) ⟨H, I.tok _, by rw [isEmpty_kv r]; exact q⟩
  | _ => exact (show False from e).elim
/-- any expression whose test is its value's truth (a name, a call, a subscript, a field ..: he by fun _ => rfl) -/
theorem pt_truth (ha : PE X a ta) (he : ∀ whole, isTrue a X.env whole = (do let v ← whole; standAt a.pos; holding [v] (truthy v))) :
    PT X a (fun σ H Q => ta σ H fun x H' => ∃ k, TruV X.K x H' k ∧ Q k H') := by
  intro pins s σ H Q I h
  exact isTrue_plain (thn (ha pins s σ H _ I h) fun v s1 ⟨x, H1, I1, r1, q1⟩ => tru_ok pins s1 σ H1 x v Q I1 r1 q1) (he _)

/-! ### strs and bytes -/


/-! ### scalar builtins, by CallR -/
theorem vals1 {x : V} {us : List Value} (r : Vals [x] us) : ∃ u, us = [u] ∧ RelV x u := by
  cases r with
  | cons r1 r2 => cases r2; exact ⟨_, rfl, r1⟩
theorem vals2 {x y : V} {us : List Value} (r : Vals [x, y] us) : ∃ u w', us = [u, w'] ∧ RelV x u ∧ RelV y w' := by
  cases r with
  | cons r1 r2 =>
    cases r2 with
    | cons r3 r4 => cases r4; exact ⟨_, _, rfl, r1, r3⟩
theorem call_min2 (hc : X.calm = true) : CallR X (.builtin "min") (fun xs H Q => ∃ i j, xs = [.int i, .int j] ∧ Q (.int (if j < i then j else i)) H) := by
  intro pins s σ H xs us Q I r h
  obtain ⟨i, j, rfl, q⟩ := h
  obtain ⟨u, w', rfl, ⟨t, rfl⟩, ⟨t', rfl⟩⟩ := vals2 r
  refine min_two_ints (I.ok.hd hc) fun h' tk k => ⟨_, H, I.kept k, ?_, q⟩
  by_cases hj : j < i
  · rw [if_pos hj, if_pos hj]; exact ⟨_, rfl⟩
  · rw [if_neg hj, if_neg hj]; exact ⟨_, rfl⟩
end
end L2

namespace L2
open PySem PySem.Spec PyProof.Rows

/-! ### an instance, its attributes a map -/
structure ObjM (h : Heap) (x dx C : Addr) (mA : Str → Option Value) : Prop where
  obj : h.get? x = some (PySem.W.instObj C dx)
  ns : h.Ns1 dx mA
  ne : dx ≠ x

theorem lookIn_ns {h : Heap} {dx : Addr} {mA : Str → Option Value} (n : h.Ns1 dx mA) : ∃ od, h.get? dx = some od ∧ ∀ name, PySem.W.lookIn name od = some (mA name) := by
  obtain ⟨o, es, ep, ho, hd, hk, _, hm⟩ := n
  refine ⟨o, ho, fun name => ?_⟩
  have e := hm name
  unfold nsFind findBy at e
  rw [← Array.find?_toList] at e
  unfold PySem.W.lookIn
  rw [hd]
  dsimp only
  split
  · rename_i y q
    rw [q] at e
    exact congrArg some e
  · rename_i q
    rw [q] at e
    have a : es.toList.any (·.refKey) = false := by
      rw [List.any_eq_false]
      intro y hy
      obtain ⟨z, t, hkey⟩ := hk y (Array.mem_toList_iff.mp hy)
      simp [DictEntry.refKey, hkey]
    have a' : ¬ es.toList.any (·.refKey) = true := by rw [a]; exact Bool.false_ne_true
    rw [if_neg a']
    exact congrArg some e

theorem ObjM.look {h : Heap} {x dx C : Addr} {mA : Str → Option Value} (I : ObjM h x dx C mA) : ∃ od, PySem.W.InstAt h x (PySem.W.instObj C dx) C (some od) ∧ ∀ name, PySem.W.lookIn name od = some (mA name) :=
  let ⟨od, ho, hl⟩ := lookIn_ns I.ns
  ⟨od, ⟨I.obj, rfl, rfl, ho⟩, hl⟩

section
variable {prog : Program} {w : World} {A : Around} {E : Value → Shared → Prop} {s : Shared} {K : PySem.W.Frag} {x dx C f : Addr} {mA : Str → Option Value} {name : Str} {v : Value}

theorem get_map {expr : Bool} {Q : Value → Shared → Prop} (X : K.In s.heap) (I : ObjM s.heap x dx C mA) (hg : PySem.W.plainGet K C name = true) (hh : PySem.W.hasDictIn K C = true)
    (ha : PySem.W.findIn K (.ref C) name = some none) (hv : mA name = some v) (hv' : PySem.W.handedIn v = true) (h : Q v { s with toks := s.toks + 1 }) :
    wpAny (model prog w) A (getAttr (.ref x) name expr) Q E s := by
  obtain ⟨od, J, hl⟩ := I.look
  exact PySem.W.get_value X J (PySem.W.plainGet_of hg).1 (PySem.W.findObj_own hh ha rfl (by rw [hl, hv])) hv' h



theorem set_map {ns : List Str} {Q : Unit → Shared → Prop} (X : K.In s.heap) (I : ObjM s.heap x dx C mA)
    (hs : PySem.W.findIn K (.ref C) "__setattr__" = some (some (.builtin "object.__setattr__"))) (hp : PySem.W.plainOver K C = true) (ht : PySem.W.takerIn K C name = some none) (hh : PySem.W.hasDictIn K C = true)
    (hw : PySem.Within mA ns) (hsz : ns.length ≤ sizeLine)
    (h : ∀ h', ObjM h' x dx C (fun y => if y = name then some v else mA y) → Heap.SameBut dx s.heap h' → Q () { s with heap := h', toks := s.toks + 2 }) :
    wpAny (model prog w) A (setAttr (.ref x) name v) Q E s := by
  obtain ⟨od, J, hl⟩ := I.look
  refine PySem.W.set_plain X J hs (PySem.W.osa_open (s := { s with toks := s.toks + 1 }) (r := none) X J hp ht fun b => ?_)
  obtain ⟨cd, hc, hd'⟩ := PySem.W.any_some hh
  have hx : s.heap.get? x = some ⟨.ref C, some dx, .plain, #[]⟩ := I.obj
  refine wpAny_bind (wpAny_pure (wpAny_bind (wpAny_bind (wpAny_loadPart hx (wpAny_bind (PySem.W.Looks.here (s := { s with toks := s.toks + 1 }) (PySem.W.looks_clsIn X hc) ?_))))))
  rw [hd']
  refine wpAny_pure (a := some dx) (wpAny_bind (wpAny_pure (wpAny_bind ?_)))
  refine wpAny_nsSet1 (s := { s with toks := s.toks + 1 }) I.ns fun h' hn2 hs2 => ?_
  obtain ⟨oD, esD, epD, hoD, hdD, hcD⟩ := hn2.count (PySem.Within.cons name v hw)
  refine wpAny_bind (wpAny_lookBehind hoD (by rw [hdD]; exact pastItsLine_dict (Nat.le_trans hcD (by rw [List.length_cons]; omega))) ?_)
  exact wpAny_pure (h _ ⟨(hs2.2 _ (Ne.symm I.ne)).trans I.obj, hn2, I.ne⟩ hs2)

/-- C(..): the dict at the heap's end, the instance behind it; then its __init__ -/
theorem make_map {R : Result → Shared → Prop} {vs : List Value} {kw : List (Str × Value)} (X : K.In s.heap) (hm : PySem.W.makesIn K C = true)
    (hi : PySem.W.findIn K (.ref C) "__init__" = some (some (.ref f))) (hf : PySem.W.typeIn K (.ref f) = some (.type "function"))
    (h : codeAny (model prog w) (A.under (.builtin "type.__call__" ⟨.ref C :: vs, kw⟩)) (.call (.ref f) ⟨.ref (s.heap.objs.size + 1) :: vs, kw⟩) (PySem.W.InitBack (s.heap.objs.size + 1) R)
      { s with heap := (s.heap.push PySem.W.emptyDict).push (PySem.W.instObj C s.heap.objs.size) }) :
    codeAny (model prog w) A (.call (.ref C) ⟨vs, kw⟩) R s := by
  obtain ⟨hh, g, d, t, os⟩ := s
  exact PySem.W.make_core (PySem.W.makes_of X hm) (PySem.W.looks_findIn X hi) (fun self => PySem.W.bind_fn X self hf) (.inl rfl) h
end

/-! ### the attributes as a list of pairs -/
def putF (f : Str) (v : V) : List (Str × V) → List (Str × V)
  | [] => [(f, v)]
  | (g, x) :: r => if g = f then (g, v) :: r else (g, x) :: putF f v r
theorem lookup_putF (f g : Str) (v : V) : ∀ fs : List (Str × V), (putF f v fs).lookup g = if g = f then some v else fs.lookup g
  | [] => by
    show List.lookup g [(f, v)] = _
    by_cases h : g = f
    · have hb : (g == f) = true := beq_iff_eq.mpr h
      simp only [List.lookup, hb, if_pos h]
    · have hb : (g == f) = false := beq_eq_false_iff_ne.mpr h
      simp only [List.lookup, hb, if_neg h]
  | (k, x) :: r => by
    have ih := lookup_putF f g v r
    rw [show putF f v ((k, x) :: r) = (if k = f then (k, v) :: r else (k, x) :: putF f v r) from rfl]
    by_cases hk : k = f
    · rw [if_pos hk]
      by_cases h : g = k
      · have hb : (g == k) = true := beq_iff_eq.mpr h
        simp only [List.lookup, hb, if_pos (h.trans hk)]
      · have hb : (g == k) = false := beq_eq_false_iff_ne.mpr h
        simp only [List.lookup, hb, if_neg (fun e : g = f => h (e.trans hk.symm))]
    · rw [if_neg hk]
      by_cases h : g = k
      · have hb : (g == k) = true := beq_iff_eq.mpr h
        simp only [List.lookup, hb, if_neg (fun e : g = f => hk (h.symm.trans e))]
      · have hb : (g == k) = false := beq_eq_false_iff_ne.mpr h
        simp only [List.lookup, hb]
        exact ih
theorem keys_putF (f : Str) (v : V) : ∀ fs : List (Str × V), f ∈ (putF f v fs).map (·.1) ∧ ∀ g, g ∈ fs.map (·.1) → g ∈ (putF f v fs).map (·.1)
  | [] => ⟨by simp [putF], fun g h => by simp at h⟩
  | (k, x) :: r => by
    obtain ⟨i1, i2⟩ := keys_putF f v r
    rw [show putF f v ((k, x) :: r) = (if k = f then (k, v) :: r else (k, x) :: putF f v r) from rfl]
    by_cases hk : k = f
    · rw [if_pos hk]
      subst hk
      exact ⟨by simp, fun g h => by simpa using h⟩
    · rw [if_neg hk]
      refine ⟨?_, fun g h => ?_⟩
      · rw [List.map_cons]
        exact List.mem_cons_of_mem _ i1
      · rw [List.map_cons] at h ⊢
        rcases List.mem_cons.mp h with e | e
        · exact List.mem_cons.mpr (.inl e)
        · exact List.mem_cons_of_mem _ (i2 g e)
theorem length_putF (f : Str) (v : V) : ∀ fs : List (Str × V), (putF f v fs).length ≤ fs.length + 1
  | [] => by simp [putF]
  | (k, x) :: r => by
    have ih := length_putF f v r
    rw [show putF f v ((k, x) :: r) = (if k = f then (k, v) :: r else (k, x) :: putF f v r) from rfl]
    by_cases hk : k = f
    · rw [if_pos hk, List.length_cons, List.length_cons]; omega
    · rw [if_neg hk, List.length_cons, List.length_cons]; omega

theorem RelO.some_of {v : V} {o : Option Value} (r : RelO (some v) o) : ∃ u, o = some u ∧ RelV v u := by
  cases o with
  | none => exact (show False from r).elim
  | some u => exact ⟨u, rfl, r⟩
theorem handed_of {v : V} {u : Value} (r : RelV v u) : PySem.W.handedIn u = true := by
  cases v with
  | non => cases (show u = Value.none from r); rfl
  | bl b => cases (show u = Value.bool b from r); rfl
  | int i => obtain ⟨t, e⟩ := (show ∃ t, u = Value.int i t from r); cases e; rfl
  | str x => obtain ⟨t, e⟩ := (show ∃ t, u = Value.str x t from r); cases e; rfl
  | byt b => obtain ⟨t, e⟩ := (show ∃ t, u = Value.bytes b t from r); cases e; rfl
  | flt b => obtain ⟨t, e⟩ := (show ∃ t, u = Value.float b t from r); cases e; rfl
  | ref a => cases (show u = Value.ref a from r); rfl
  | ty n => cases (show u = Value.type n from r); rfl

section
variable {P : Program} {w : World} {H H' : Hp} {h h' : Heap} {a C dx : Addr} {fs fs' : List (Str × V)}
theorem ins_get (hok : HOk P w H h) (e : H a = some (.ins C dx fs)) : ∃ mA, ObjM h a dx C mA ∧ (∀ f, RelO (fs.lookup f) (mA f)) ∧ PySem.Within mA (fs.map (·.1)) ∧ fs.length ≤ 1000 ∧ H dx = some (.own a) := by
  obtain ⟨d, z, ne, ob, mA, n, r, q⟩ := (show ObjOk P w H h a (.ins C dx fs) from hok a _ e)
  exact ⟨mA, ⟨ob, n, ne⟩, r, q, z, d⟩
end

/-! ### what of the text a class must have -/
structure Cls (K : PySem.W.Frag) (C : Addr) : Prop where
  pg : PySem.W.plainGet K C Str.empty = true
  hd : PySem.W.hasDictIn K C = true
  po : PySem.W.plainOver K C = true
  sa : PySem.W.findIn K (.ref C) "__setattr__" = some (some (.builtin "object.__setattr__"))
theorem Cls.get {K : PySem.W.Frag} {C : Addr} (c : Cls K C) (f : Str) : PySem.W.plainGet K C f = true := c.pg
/-- no class of it has the name -/
def NoAttr (K : PySem.W.Frag) (C : Addr) (f : Str) : Prop := PySem.W.findIn K (.ref C) f = some none
theorem NoAttr.taker {K : PySem.W.Frag} {C : Addr} {f : Str} (n : NoAttr K C f) : PySem.W.takerIn K C f = some none := by
  unfold PySem.W.takerIn
  rw [show PySem.W.findIn K (.ref C) f = some none from n]
  rfl

section
variable {X : Cx} {pins : List (Addr × Obj)} {σ : St} {H : Hp} {s : Shared} {a C dx : Addr} {fs : List (Str × V)} {f : Str} {v : V} {A : Around} {E : Value → Shared → Prop}

theorem getattr_ok {b : Bool} {Q : Value → Shared → Prop} (I : Inv X pins σ H s) (e : H a = some (.ins C dx fs)) (c : Cls X.K C) (n : NoAttr X.K C f) (l : fs.lookup f = some v)
    (h : ∀ u s', Inv X pins σ H s' → RelV v u → Q u s') : wpAny (model X.prog X.w) A (getAttr (.ref a) f b) Q E s := by
  obtain ⟨mA, O, r, _, _, _⟩ := ins_get I.hok e
  obtain ⟨u, hu, ru⟩ := RelO.some_of (v := v) (o := mA f) (by rw [← l]; exact r f)
  exact get_map I.kIn O (c.get f) c.hd n hu (handed_of ru) (h u _ (I.tok _) ru)



theorem setattr_ok {y : V} {u : Value} {Q : Unit → Shared → Prop} (I : Inv X pins σ H s) (e : H a = some (.ins C dx fs)) (c : Cls X.K C) (n : NoAttr X.K C f) (hl : fs.length < 1000) (ry : RelV y u)
    (h : ∀ s', Inv X pins σ (upd H a (.ins C dx (putF f y fs))) s' → Q () s') : wpAny (model X.prog X.w) A (setAttr (.ref a) f u) Q E s := by
  obtain ⟨mA, O, r, wi, _, ho⟩ := ins_get I.hok e
  have hz : (fs.map (·.1)).length ≤ sizeLine := by rw [List.length_map, sizeLine_eq]; omega
  refine set_map I.kIn O c.sa c.po n.taker c.hd wi hz fun h' O' sb => h _ ?_
  have hd : ∃ o, h'.get? dx = some o := let ⟨o, _, _, e', _⟩ := O'.ns; ⟨o, e'⟩
  refine I.write (x := a) (e := dx) (by rw [e]; exact True.intro) (.inr ho) (fun b q hb z => (sb.2 b hb).trans z) hd ?_
  refine ⟨by rw [upd_ne O.ne]; exact ho, ?_, O.ne, O'.obj, _, O'.ns, fun g => ?_, fun g hg => ?_⟩
  · have := length_putF f y fs; omega
  · show RelO ((putF f y fs).lookup g) (if g = f then some u else mA g)
    rw [lookup_putF]
    by_cases q : g = f
    · rw [if_pos q, if_pos q]; exact ry
    · rw [if_neg q, if_neg q]; exact r g
  · by_cases q : g = f
    · rw [q]; exact (keys_putF f y fs).1
    · refine (keys_putF f y fs).2 g (wi g fun z => hg ?_)
      show (if g = f then some u else mA g) = none
      rw [if_neg q]; exact z

/-- a new instance, tracked, without attributes -/
theorem Inv.made (I : Inv X pins σ H s) : Inv X pins σ (upd (upd H s.heap.objs.size (.own (s.heap.objs.size + 1))) (s.heap.objs.size + 1) (.ins C s.heap.objs.size []))
    { s with heap := (s.heap.push PySem.W.emptyDict).push (PySem.W.instObj C s.heap.objs.size) } := by
  have e1 : (s.heap.push PySem.W.emptyDict).get? s.heap.objs.size = some PySem.W.emptyDict := Heap.get?_push_size s.heap rfl
  have e2 : ((s.heap.push PySem.W.emptyDict).push (PySem.W.instObj C s.heap.objs.size)).get? (s.heap.objs.size + 1) = some (PySem.W.instObj C s.heap.objs.size) := by
    have := Heap.get?_push_size (s.heap.push PySem.W.emptyDict) (o := PySem.W.instObj C s.heap.objs.size) rfl
    rwa [Heap.size_push] at this
  have e3 : (s.heap.push PySem.W.emptyDict).Ns s.heap.objs.size (fun _ => none) := ⟨PySem.W.emptyDict, #[], _, e1, rfl, (fun e he => absurd he (by simp)), fun _ => rfl⟩
  have I1 := I.laid (a := s.heap.objs.size) (o := .own (s.heap.objs.size + 1)) (h' := s.heap.push PySem.W.emptyDict) (t' := s.toks) (fun b u q => Heap.get?_push_of_some _ q) (Nat.le_refl _) ⟨_, e1⟩
  refine I1.laid (a := s.heap.objs.size + 1) (o := .ins C s.heap.objs.size []) (t' := s.toks) (fun b u q => Heap.get?_push_of_some _ q) (Nat.le_of_eq (Heap.size_push _ _)) ?_
  have ne : s.heap.objs.size ≠ s.heap.objs.size + 1 := Nat.ne_of_lt (Nat.lt_succ_self _)
  refine ⟨by rw [upd_ne ne, upd_same], Nat.zero_le _, ne, e2, fun _ => none, (Heap.Ns1.of_empty e3).at fun o q => Heap.get?_push_of_some _ q, fun _ => True.intro, fun y hy => absurd rfl hy⟩

/-- e.f where nothing but the object is asked: through attributeBase (super) and the last hold -/
theorem attr_of {prog : Program} {w : World} {env : Env} {e : Expr} {f : Str} {pos : Pos} {s : Shared} {Q : Value → Shared → Prop} (hb : attributeBase e f env (eval e env) = eval e env)
    (h : wpAny (model prog w) A (eval e env) (fun o s₁ => wpAny (model prog w) A (getAttr o f true) Q E s₁) E s) : wpAny (model prog w) A (eval (.Attribute e f pos) env) Q E s :=
  Attribute_any_ h (by rw [arm_eval_Attribute, hb])
end

/-! ### readings and rules -/
/-- e.f, an attribute of the instance -/
def tFld (K : PySem.W.Frag) (ta : TE) (f : Str) : TE := fun σ H Q => ta σ H fun x H1 => ∃ a C dx fs v, x = .ref a ∧ H1 a = some (.ins C dx fs) ∧ Cls K C ∧ NoAttr K C f ∧ fs.lookup f = some v ∧ Q v H1
/-- e.f = value -/
def sFld (K : PySem.W.Frag) (ta tv : TE) (f : Str) : TS := fun D σ H => tv σ H fun y H1 => ta σ H1 fun x H2 => ∃ a C dx fs, x = .ref a ∧ H2 a = some (.ins C dx fs) ∧ Cls K C ∧ NoAttr K C f ∧ fs.length < 1000 ∧
  D.nx σ (upd H2 a (.ins C dx (putF f y fs)))

section
variable {X : Cx} {o e value : Expr} {f : Str} {pos pos' tpos : Pos} {ta tv : TE}
theorem pe_fld (he : PE X e ta) (hb : attributeBase e f X.env (eval e X.env) = eval e X.env) : PE X (.Attribute e f pos) (tFld X.K ta f) := by
  intro pins s σ H Q I h
  refine attr_of hb (thn (he pins s σ H _ I h) fun u s1 ⟨x, H1, I1, rx, a, C, dx, fs, v, ex, ea, c, n, l, q⟩ => ?_)
  subst ex
  obtain rfl : u = Value.ref a := rx
  exact getattr_ok I1 ea c n l fun u' s2 I2 ru => ⟨v, H1, I2, ru, q⟩
theorem ps_fld (ha : PE X o ta) (hv : PE X value tv) (hs : swapsWith value (some (.Attribute o f pos')) pos.line X.env = pure false) : PS X (.Assign [.Attribute o f pos'] value pos) (sFld X.K ta tv f) := by
  intro pins s σ H D I h
  refine plainObj_wpAny_Assign_Attribute (thn (hv pins s σ H _ I h) fun u s1 ⟨y, H1, I1, ry, q⟩ => thn (ha pins s1 σ H1 _ I1 q) fun ov s2 ⟨x, H2, I2, rx, a, C, dx, fs, ex, ea, c, n, l, q2⟩ => ?_) hs
  subst ex
  obtain rfl : ov = Value.ref a := rx
  exact setattr_ok I2 ea c n l ry fun s3 I3 => ⟨σ, _, I3, q2⟩

end

/-! ### isinstance -/
end L2

namespace L2
open PySem PySem.Spec PyProof.Rows

/-! ### room -/
structure Room (k : Nat) (A : Around) : Prop where
  hd : A.handled = none
  dp : A.depth + 3 * k + 5 < recursionLimit
  un : A.units + 16 * k + 200 < cLine
theorem Room.mono {j k : Nat} {A : Around} (r : Room k A) (h : j ≤ k) : Room j A := ⟨r.hd, by have := r.dp; omega, by have := r.un; omega⟩
theorem Room.deeper {k : Nat} {A : Around} (r : Room (k + 1) A) (env : Env) : Room k (A.deeper env) :=
  ⟨r.hd, by have := r.dp; show A.depth + 1 + 3 * k + 5 < _; omega, by have := r.un; show A.units + 3 + 16 * k + 200 < _; omega⟩
theorem make_depth {A : Around} {C : Addr} {us : List Value} {kw : List (Str × Value)} : (A.under (.builtin "type.__call__" ⟨.ref C :: us, kw⟩)).depth = A.depth + 1 := by
  first | rfl | simp [Around.under, Code.weight, Code.isCreation, Code.isGuard, Code.isCaller, Code.frames, Code.isFrame, guardIds]
theorem make_units {A : Around} {C : Addr} {us : List Value} {kw : List (Str × Value)} : (A.under (.builtin "type.__call__" ⟨.ref C :: us, kw⟩)).units = A.units + 1 := by
  first | rfl | simp [Around.under, Code.cUnits, Code.frames, Code.isFrame]
theorem Room.make {k : Nat} {A : Around} (r : Room (k + 1) A) (C : Addr) (us : List Value) (kw : List (Str × Value)) : Room k (A.under (.builtin "type.__call__" ⟨.ref C :: us, kw⟩)) :=
  ⟨r.hd, by have := r.dp; rw [make_depth]; omega, by have := r.un; rw [make_units]; omega⟩
theorem Room.depth {k : Nat} {A : Around} (r : Room k A) : A.depth < recursionLimit := by have := r.dp; omega

/-! ### argument lists and displays -/
def tNil : TA := fun _ H Q => Q [] H
def tCons (ta : TE) (tr : TA) : TA := fun σ H Q => ta σ H fun x H1 => tr σ H1 fun xs H2 => Q (x :: xs) H2
section
variable {X : Cx} {e : Expr} {es : List Expr} {te : TE} {t : TA} {pos : Pos}
theorem pa_nil : PA X [] tNil := fun _ _ _ _ H Q I h => Calls.spliced_nil ⟨[], H, I, .nil, h⟩
theorem pa_cons (ha : PE X e te) (hr : PA X es t) (hs : starEach (e :: es) X.env = (false, eval e X.env) :: starEach es X.env := by rfl) : PA X (e :: es) (tCons te t) := by
  intro pos pins s σ H Q I h
  rw [hs]
  show wpAny _ _ (spliced ((false, eval e X.env) :: backTo pos (starEach es X.env))) _ _ s
  refine Calls.spliced_cons (thn (ha pins s σ H _ I h) fun u s1 ⟨x, H1, I1, r1, q1⟩ => ?_)
  exact thn (hr pos pins s1 σ H1 _ I1 q1) fun us s2 ⟨xs, H2, I2, r2, q2⟩ => ⟨x :: xs, H2, I2, .cons r1 r2, q2⟩

/-- a tuple, a list of written items -/
def tTup (t : TA) : TE := fun σ H Q => t σ H fun xs H1 => xs.length ≤ sizeLine ∧ ∀ p, H1 p = none → Q (.ref p) (upd H1 p (.tup xs))
def tLst (t : TA) : TE := fun σ H Q => t σ H fun xs H1 => xs.length ≤ sizeLine ∧ ∀ p, H1 p = none → Q (.ref p) (upd H1 p (.lst xs))
theorem pe_tup {x1} (h : PA X es t) : PE X (.Tuple es x1 pos) (tTup t) := by
  intro pins s σ H Q I hq
  refine wpAny_Tuple_spliced (thn (h pos pins s σ H _ I hq) fun us s1 ⟨xs, H1, I1, r, z, q⟩ => ⟨by rw [← r.length]; exact z, ?_⟩)
  have hf : H1 s1.heap.objs.size = none := I1.hok.fresh (Nat.le_refl _)
  refine ⟨.ref s1.heap.objs.size, upd H1 s1.heap.objs.size (.tup xs), I1.laid (t' := s1.toks) (fun b u e => Heap.get?_push_of_some _ e) (Nat.le_refl _) ?_, rfl, q _ hf⟩
  exact ⟨z, us, r, ⟨_, Heap.get?_push_size _ rfl, rfl, _, rfl⟩⟩
theorem pe_lst (h : PA X es t) : PE X (.List es pos) (tLst t) := by
  intro pins s σ H Q I hq
  refine wpAny_List_spliced (thn (h pos pins s σ H _ I hq) fun us s1 ⟨xs, H1, I1, r, z, q⟩ => ⟨by rw [← r.length]; exact z, ?_⟩)
  have hf : H1 s1.heap.objs.size = none := I1.hok.fresh (Nat.le_refl _)
  refine ⟨.ref s1.heap.objs.size, upd H1 s1.heap.objs.size (.lst xs), I1.laid (t' := s1.toks) (fun b u e => Heap.get?_push_of_some _ e) (Nat.le_refl _) ?_, rfl, q _ hf⟩
  exact ⟨z, us, 0, r, Heap.get?_push_size _ rfl⟩
end

/-! ### what a def promises -/
/-- a def's promise: the bound arguments in the parameters' order, the heap, the wanted end, the wanted exception -/
abbrev Sp := List V → Hp → VK → XK → Prop
/-- how an exception lies behind a call (file 08 gives it): the callers' frames, abstract heap and state ahead of the call, the wish, the exception, the state -/
abbrev CXT := List Env → Hp → Shared → XK → Value → Shared → Prop

/-- the state at a call -/
structure Env0 (P : Program) (w : World) (K : PySem.W.Frag) (mg : Str → Option Value) (base : Heap) (A : Around) (outer : List Env) (s : Shared) (H : Hp) : Prop where
  frames : A.frames = some outer
  mod : Mod K mg base
  bs : ∀ b o, base.get? b = some o → s.heap.get? b = some o ∧ H b = none
  bsz : base.objs.size ≤ s.heap.objs.size
  funs : s.heap.FunFrames base outer
  frf : ∀ b ∈ frs outer, H b = none
  hok : HOk P w H s.heap
  bare : AllBare s.gens
/-- a call's end -/
def CE (outer : List Env) (P : Program) (w : World) (H : Hp) (s : Shared) (Q : VK) (u : Value) (s' : Shared) : Prop :=
  ∃ v H', s'.os = s.os ∧ AllBare s'.gens ∧ Un (frs outer) [] H H' s.heap s'.heap ∧ HOk P w H' s'.heap ∧ RelV v u ∧ Q v H'
def CR (CX : CXT) (outer : List Env) (P : Program) (w : World) (H : Hp) (s : Shared) (Q : VK) (E : XK) (r : Result) (s' : Shared) : Prop :=
  match r with
  | .ok (.ret u) => CE outer P w H s Q u s'
  | .ok _ => False
  | .error e => CX outer H s E e s'
structure FnOk (P : Program) (w : World) (K : PySem.W.Frag) (mg : Str → Option Value) (base : Heap) (CX : CXT) (k : Nat) (f : Addr) (fd : FuncData) (ps : List Str) (sp : Sp) : Prop where
  len : ∀ vs H Q E, sp vs H Q E → vs.length = ps.length
  run : ∀ (A : Around) (outer : List Env) (s : Shared) (H : Hp) (args : Args) (us : List Value) (vs : List V) (Q : VK) (E : XK), Room k A → Env0 P w K mg base A outer s H → BindsTo s fd args (ps.zip us) → Vals vs us → sp vs H Q E →
    codeAny (model P w) A (.call (.ref f) args) (CR CX outer P w H s Q E) s
theorem FnOk.mono {P : Program} {w : World} {K : PySem.W.Frag} {mg : Str → Option Value} {base : Heap} {CX : CXT} {j k : Nat} {f : Addr} {fd : FuncData} {ps : List Str} {sp : Sp} (F : FnOk P w K mg base CX j f fd ps sp) (h : j ≤ k) :
    FnOk P w K mg base CX k f fd ps sp := ⟨F.len, fun A outer s H args us vs Q E hr => F.run A outer s H args us vs Q E (hr.mono h)⟩

theorem Env0.make {P : Program} {w : World} {K : PySem.W.Frag} {mg : Str → Option Value} {base : Heap} {A : Around} {outer : List Env} {s : Shared} {H : Hp} (e : Env0 P w K mg base A outer s H) (C : Addr) (us : List Value) (kw : List (Str × Value)) :
    Env0 P w K mg base (A.under (.builtin "type.__call__" ⟨.ref C :: us, kw⟩)) outer s H := ⟨by first | exact e.frames | (simpa [Around.under, Code.envs, Code.isFrame, pushEnvs] using e.frames), e.mod, e.bs, e.bsz, e.funs, e.frf, e.hok, e.bare⟩

section
variable {X : Cx} {pins : List (Addr × Obj)} {σ : St} {H : Hp} {s s' : Shared}
/-- from a body: what a callee wants -/
theorem Inv.env0 (I : Inv X pins σ H s) : Env0 X.prog X.w X.K X.mg X.base X.A X.stack s H :=
  ⟨I.ok.frames, I.ok.mod, I.bs, Nat.le_trans I.ok.bsz I.sz, I.stack, I.stkFree, I.hok, I.bare⟩
/-- behind a call -/
theorem Inv.after {Q : VK} {u : Value} (I : Inv X pins σ H s) (h : CE X.stack X.prog X.w H s Q u s') : EP X pins σ Q u s' := by
  obtain ⟨v, H', os, bare, un, hok, r, q⟩ := h
  obtain ⟨hh, g, d, t, os'⟩ := s'
  obtain rfl : os' = s.os := os
  exact ⟨v, H', I.call (h' := hh) (g' := g) (d' := d) (t' := t) (ch := []) un hok bare (fun b z => absurd z (by simp)), r, q⟩
end

/-! ### calls -/
/-- f(..): the written arguments, then the defaults dvs; E: what is wanted of an exception -/
def tCall (sp : Sp) (dvs : List V) (E : XK) (t : TA) : TE := fun σ H Q => t σ H fun vs H1 => sp (vs ++ dvs) H1 Q E
/-- C(..): a new instance and its dict, then __init__ -/
def tMake (C : Addr) (sp : Sp) (dvs : List V) (E : XK) (t : TA) : TE := fun σ H Q => t σ H fun vs H1 => ∀ x dx, H1 x = none → H1 dx = none → dx ≠ x →
  sp (.ref x :: (vs ++ dvs)) (upd (upd H1 dx (.own x)) x (.ins C dx [])) (fun v H2 => v = .non ∧ Q (.ref x) H2) E

/-- how the parameters are bound: us the positional arguments, kw the keywords' values by name, ds the defaults that fill up -/
def Binds (K : PySem.W.Frag) (fd : FuncData) (ps : List Str) (ds : List Value) : Prop :=
  ∀ (s : Shared) (us : List Value), K.In s.heap → (us ++ ds).length = ps.length → BindsTo s fd ⟨us, []⟩ (ps.zip (us ++ ds))
/-- every parameter is given -/
theorem Binds.all {K : PySem.W.Frag} {fd : FuncData} {ps : List Str} (h : ∀ us : List Value, us.length = ps.length → bindArgs fd ⟨us, []⟩ = pure (ps.zip us)) : Binds K fd ps [] := fun s us _ hl => by
  rw [List.append_nil] at hl ⊢
  exact .of_eq (h us hl)

/-- an exception of a callee reaches what this body wants of exceptions -/
def Passes (CX : CXT) (X : Cx) (E : XK) : Prop := ∀ (pins : List (Addr × Obj)) (σ : St) (H : Hp) (s : Shared) (e : Value) (s' : Shared), Inv X pins σ H s → CX X.stack H s E e s' → X.xe e s'

section
variable {X : Cx} {CX : CXT} {k : Nat} {f C : Addr} {fd : FuncData} {ps : List Str} {sp : Sp} {dvs : List V} {ds : List Value} {E : XK} {x m : Str} {p pos apos : Pos} {e o : Expr} {es : List Expr} {ta : TE} {t : TA}

/-- the callee runs -/
theorem run_fn {pins : List (Addr × Obj)} {σ : St} {H : Hp} {s : Shared} {Q : VK} {us : List Value} {vs : List V} (F : FnOk X.prog X.w X.K X.mg X.base CX k f fd ps sp) (hr : Room k X.A) (hb : Binds X.K fd ps ds) (hd : Vals dvs ds) (hx : Passes CX X E)
    (I : Inv X pins σ H s) (r : Vals vs us) (h : sp (vs ++ dvs) H Q E) : wpAny (model X.prog X.w) X.A (call (.ref f) us) (EP X pins σ Q) X.xe s := by
  have r2 : Vals (vs ++ dvs) (us ++ ds) := r.append hd
  have hl : (us ++ ds).length = ps.length := by rw [← r2.length]; exact F.len _ _ _ _ h
  refine wpAny_call (codeAny_mono (F.run X.A X.stack s H ⟨us, []⟩ (us ++ ds) (vs ++ dvs) Q E hr I.env0 (hb s us I.kIn hl) r2 h) fun r s' hq => ?_)
  cases r with
  | error e => exact hx pins σ H s e s' I hq
  | ok fl =>
    cases fl with
    | ret u => exact I.after hq
    | next => exact False.elim hq
    | brk => exact False.elim hq
    | cont => exact False.elim hq

theorem pe_call (F : FnOk X.prog X.w X.K X.mg X.base CX k f fd ps sp) (hr : Room k X.A) (hg : Gl X x) (hm : X.mg x = some (.ref f)) (hk : PySem.W.keepIn X.K (.ref f) = true) (hb : Binds X.K fd ps ds) (hd : Vals dvs ds) (hx : Passes CX X E)
    (ha : PA X (e :: es) t) (hdb : (x == ("__debug__" : Str)) = false := by decide) (he : starEach (e :: es) X.env = (false, eval e X.env) :: starEach es X.env := by rfl) (hpl : (backTo pos (starEach es X.env)).any (·.1) = false := by rfl) :
    PE X (.Call (.Name x p) (e :: es) [] pos) (tCall sp dvs E t) := by
  intro pins s σ H Q I h
  refine wpAny_Call_Name_kw (ld_glob I hg hm ?_ hdb)
  refine PySem.W.callWith_K (h₀ := X.base) I.ok.mod.kin hk (thn (ha pos pins s σ H _ I h) fun us s1 ⟨vs, H1, I1, r, q⟩ => ⟨I1.kIn, ?_⟩) he hpl
  exact run_fn F hr hb hd hx I1 r q


/-- what a class must have to be made -/
structure Mk (K : PySem.W.Frag) (C f : Addr) : Prop where
  makes : PySem.W.makesIn K C = true
  init : PySem.W.findIn K (.ref C) "__init__" = some (some (.ref f))
  fn : PySem.W.isFn K (.ref f) = true
  kp : PySem.W.keepIn K (.ref C) = true

theorem run_make {pins : List (Addr × Obj)} {σ : St} {H : Hp} {s : Shared} {Q : VK} {us : List Value} {vs : List V} (M : Mk X.K C f) (F : FnOk X.prog X.w X.K X.mg X.base CX k f fd ps sp) (hr : Room (k + 1) X.A) (hb : Binds X.K fd ps ds) (hd : Vals dvs ds)
    (hx : Passes CX X E) (I : Inv X pins σ H s) (r : Vals vs us)
    (h : ∀ x dx, H x = none → H dx = none → dx ≠ x → sp (.ref x :: (vs ++ dvs)) (upd (upd H dx (.own x)) x (.ins C dx [])) (fun v H2 => v = .non ∧ Q (.ref x) H2) E) :
    wpAny (model X.prog X.w) X.A (call (.ref C) us) (EP X pins σ Q) X.xe s := by
  have hq := h (s.heap.objs.size + 1) s.heap.objs.size (I.hok.fresh (Nat.le_succ _)) (I.hok.fresh (Nat.le_refl _)) (Nat.ne_of_lt (Nat.lt_succ_self _))
  have I2 := Inv.made (C := C) I
  have r2 : Vals (V.ref (s.heap.objs.size + 1) :: (vs ++ dvs)) (Value.ref (s.heap.objs.size + 1) :: (us ++ ds)) := .cons rfl (r.append hd)
  have hl : (Value.ref (s.heap.objs.size + 1) :: us ++ ds).length = ps.length := by
    have e := r2.length
    rw [F.len _ _ _ _ hq] at e
    exact e.symm
  refine wpAny_call (make_map (f := f) I.kIn M.makes M.init (beq_iff_eq.mp M.fn) (codeAny_mono (F.run _ X.stack _ _ ⟨Value.ref (s.heap.objs.size + 1) :: us, []⟩ (Value.ref (s.heap.objs.size + 1) :: (us ++ ds)) _ _ E (hr.make C us [])
    (I2.env0.make C us []) (hb _ (Value.ref (s.heap.objs.size + 1) :: us) I2.kIn hl) r2 hq) fun r s' hq' => ?_))
  cases r with
  | error e => exact hx pins σ _ _ e s' I2 hq'
  | ok fl =>
    cases fl with
    | ret u =>
      obtain ⟨v, H', I3, rv, ev, q3⟩ := I2.after hq'
      subst ev
      exact ⟨rv, ⟨V.ref (s.heap.objs.size + 1), H', I3, rfl, q3⟩⟩
    | next => exact False.elim hq'
    | brk => exact False.elim hq'
    | cont => exact False.elim hq'
theorem pe_make0 (M : Mk X.K C f) (F : FnOk X.prog X.w X.K X.mg X.base CX k f fd ps sp) (hr : Room (k + 1) X.A) (hg : Gl X x) (hm : X.mg x = some (.ref C)) (hb : Binds X.K fd ps ds) (hd : Vals dvs ds) (hx : Passes CX X E)
    (hdb : (x == ("__debug__" : Str)) = false := by decide) : PE X (.Call (.Name x p) [] [] pos) (tMake C sp dvs E tNil) := by
  intro pins s σ H Q I h
  refine wpAny_Call_Name_kw (ld_glob I hg hm ?_ hdb)
  exact PySem.W.callWith_K0 I.kIn M.kp (run_make (us := []) M F hr hb hd hx I .nil h)
end

/-! ### keywords -/
section
variable {X : Cx} {CX : CXT} {k : Nat} {f C : Addr} {fd : FuncData} {ps ks : List Str} {sp : Sp} {E : XK} {x m : Str} {p pos apos kpos : Pos} {e o : Expr} {es : List Expr} {kws : List Keyword} {te ta : TE} {t tk : TA} {nm : Option Str}

variable {g : List Value → List Value → List Value} {gV : List V → List V → List V}
end

/-! ### a def's body keeps its promise -/
/-- names: the parameters first -/
structure FnScope (N P : List Str) (sc : Scope) : Prop where
  kind : sc.kind = .function
  co : sc.isCoroutine = false
  gen : sc.isGenerator = false
  nd : N.Nodup
  pre : N.take P.length = P
  par : ∀ x ∈ P, sc.names.lookup x = some .local ∨ sc.names.lookup x = some .cell
  nofree : ∀ y ∈ sc.names, y.2 ≠ .free

theorem bindL_out {kindOf : Str → Option NameKind} {x : Str} : ∀ {binds : List (Str × Value)} {m : Str → Option Value}, (∀ v, (x, v) ∉ binds) → bindL kindOf binds m x = m x
  | [], _, _ => rfl
  | (n, v) :: r, m, h => by
    unfold bindL
    rw [bindL_out fun w hw => h w (List.mem_cons_of_mem _ hw)]
    split
    · have : x ≠ n := by rintro rfl; exact h v List.mem_cons_self
      simp [this]
    · rfl
theorem bindC_out {kindOf : Str → Option NameKind} {x : Str} : ∀ {binds : List (Str × Value)} {m : Str → Option Value}, (∀ v, (x, v) ∉ binds) → bindC kindOf binds m x = m x
  | [], _, _ => rfl
  | (n, v) :: r, m, h => by
    unfold bindC
    rw [bindC_out fun w hw => h w (List.mem_cons_of_mem _ hw)]
    split
    · rfl
    · have : x ≠ n := by rintro rfl; exact h v List.mem_cons_self
      simp [this]
theorem bindL_get {kindOf : Str → Option NameKind} {x : Str} {v : Value} : ∀ {P : List Str} {vs : List Value} {i : Nat} {m : Str → Option Value}, P.Nodup → P[i]? = some x → vs[i]? = some v → kindOf x = some .local →
    bindL kindOf (P.zip vs) m x = some v
  | [], _, _, _, _, h, _, _ => by simp at h
  | _ :: _, [], _, _, _, _, h, _ => by simp at h
  | p :: P, w :: vs, 0, m, nd, h1, h2, hk => by
    simp at h1 h2; subst h1; subst h2
    show bindL kindOf ((p, w) :: P.zip vs) m p = _
    unfold bindL
    rw [bindL_out fun v hv => (List.nodup_cons.mp nd).1 (List.of_mem_zip hv).1, if_pos hk]
    simp
  | p :: P, w :: vs, i + 1, m, nd, h1, h2, hk => by
    show bindL kindOf ((p, w) :: P.zip vs) m x = _
    unfold bindL
    exact bindL_get (i := i) (List.nodup_cons.mp nd).2 (by simpa using h1) (by simpa using h2) hk
theorem bindC_get {kindOf : Str → Option NameKind} {x : Str} {v : Value} : ∀ {P : List Str} {vs : List Value} {i : Nat} {m : Str → Option Value}, P.Nodup → P[i]? = some x → vs[i]? = some v → kindOf x ≠ some .local →
    bindC kindOf (P.zip vs) m x = some v
  | [], _, _, _, _, h, _, _ => by simp at h
  | _ :: _, [], _, _, _, _, h, _ => by simp at h
  | p :: P, w :: vs, 0, m, nd, h1, h2, hk => by
    simp at h1 h2; subst h1; subst h2
    show bindC kindOf ((p, w) :: P.zip vs) m p = _
    unfold bindC
    rw [bindC_out fun v hv => (List.nodup_cons.mp nd).1 (List.of_mem_zip hv).1, if_neg hk]
    simp
  | p :: P, w :: vs, i + 1, m, nd, h1, h2, hk => by
    show bindC kindOf ((p, w) :: P.zip vs) m x = _
    unfold bindC
    exact bindC_get (i := i) (List.nodup_cons.mp nd).2 (by simpa using h1) (by simpa using h2) hk

/-- the names' values at the entry -/
def start (N : List Str) (vs : List V) : St := vs.map some ++ List.replicate (N.length - vs.length) none

/-- the context of a def's body, at its entry; an exception leaves the frame, then lies as CX says -/
def cxOf (CX : CXT) (P : Program) (w : World) (K : PySem.W.Frag) (mg : Str → Option Value) (base : Heap) (N : List Str) (qual : Str) (scope : Scope) (f : Addr) (cd : Value) (A : Around) (outer : List Env) (s : Shared) (H : Hp) (E : XK) : Cx where
  prog := P
  w := w
  K := K
  mg := mg
  base := base
  A := A.deeper (envOfC qual scope s.heap.objs.size f cd)
  N := N
  s_0 := s
  H_0 := H
  env := envOfC qual scope s.heap.objs.size f cd
  outer := outer
  stack := envOfC qual scope s.heap.objs.size f cd :: outer
  ex := []
  calm := true
  fn := fun _ => true
  pn := []
  xe := fun e s' => wpAny (model P w) (A.deeper (envOfC qual scope s.heap.objs.size f cd)) (leaving (envOfC qual scope s.heap.objs.size f cd) e) (fun _ s'' => CX outer H s E e s'') (fun e' s'' => CX outer H s E e' s'') s'

theorem cell_has {sc : Scope} {n : Nat} {x : Str} (h : sc.names.lookup x = some .cell) : ∃ c, (cellsFrom n sc.names []).lookup x = some c := by
  have q := PySem.W.cellsFrom_some sc.names n [] (.inl h)
  exact Option.isSome_iff_exists.mp q

theorem inv_start {CX : CXT} {P : Program} {w : World} {K : PySem.W.Frag} {mg : Str → Option Value} {base : Heap} {N ps : List Str} {qual : Str} {scope : Scope} {f : Addr} {cd : Value} {A : Around} {outer : List Env} {s s1 : Shared} {H : Hp} {E : XK} {us : List Value} {vs : List V}
    (S : FnScope N ps scope) (hd : A.handled = none) (e0 : Env0 P w K mg base A outer s H) (hl : vs.length = ps.length) (r : Vals vs us)
    (x : InCallC s s.heap.objs.size (bindL (envOfC qual scope s.heap.objs.size f cd).kindOf (ps.zip us) fun _ => none) (cellsFrom (s.heap.objs.size + 1) scope.names []) (bindC (envOfC qual scope s.heap.objs.size f cd).kindOf (ps.zip us) fun _ => none) s1) :
    Inv (cxOf CX P w K mg base N qual scope f cd A outer s H E) [] (start N vs) H s1 := by
  have hpl : ps.length ≤ N.length := by have := congrArg List.length S.pre; rw [List.length_take] at this; omega
  obtain ⟨h1, tk, rfl, hk⟩ := x.done
  have noA : ∀ b : Addr, b ∉ (cxOf CX P w K mg base N qual scope f cd A outer s H E).ex := fun b z => absurd (show b ∈ ([] : List Addr) from z) (by simp)
  refine ⟨⟨e0.mod, S.kind, rfl, rfl, Nat.le_refl _, fun y z c h1 h2 => ?_, fun y hy => ?_, fun y c _ h => ?_, fun _ => hd, Around.frames_deeper e0.frames, .inr ⟨rfl, rfl⟩, fun b z => absurd z (noA b), e0.bs, e0.bsz, fun b _ _ => noA b, fun b z => absurd z (noA b), e0.funs, e0.frf⟩,
    rfl, e0.bare, Un.kept hk, ⟨_, x.toInCall.ns, fun i y v h1 h2 h3 => ?_⟩, fun y c h => ⟨_, x.cell y c h⟩, e0.hok.fresh (Nat.le_refl _), fun y c h => ?_, fun p hp => absurd (show p ∈ ([] : List (Addr × Obj)) from hp) (by simp), e0.hok.kept hk, ?_⟩
  · exact name_of_addr x.apart (PySem.mem_of_lookup h1) (PySem.mem_of_lookup h2)
  · have hy : scope.names.lookup y = some .cell ∨ scope.names.lookup y = some .free := hy
    rcases hy with hy | hy
    · exact cell_has hy
    · exact absurd rfl (S.nofree _ (PySem.mem_of_lookup hy))
  · exact Nat.le_of_lt (x.above y c (PySem.mem_of_lookup h))
  · have hi : i < vs.length := by
      unfold start at h2
      by_cases hi : i < vs.length
      · exact hi
      · rw [List.getElem?_append_right (by simpa using hi)] at h2
        rw [List.getElem?_replicate] at h2
        split at h2 <;> cases h2
    have ha : vs[i]? = some v := by
      unfold start at h2
      rw [List.getElem?_append_left (by simpa using hi), List.getElem?_map] at h2
      cases e : vs[i]? with
      | none => rw [e] at h2; cases h2
      | some a => rw [e] at h2; cases h2; rfl
    obtain ⟨u, hu, rv⟩ := r.get ha
    have hp : ps[i]? = some y := by
      rw [← S.pre, List.getElem?_take_of_lt (by omega)]; exact h1
    have ndP : ps.Nodup := by rw [← S.pre]; exact S.nd.sublist (List.take_sublist _ _)
    refine ⟨u, rv, ?_⟩
    rcases S.par y (List.mem_of_getElem? hp) with k | k
    · exact .inl ⟨k, bindL_get ndP hp hu k⟩
    · obtain ⟨c, e⟩ := cell_has (n := s.heap.objs.size + 1) k
      refine .inr ⟨.inl k, c, e, ?_⟩
      have q := x.cell y c e
      rw [bindC_get ndP hp hu (by show scope.names.lookup y ≠ _; rw [k]; decide)] at q
      exact q
  · exact e0.hok.fresh (Nat.le_of_lt (x.above y c (PySem.mem_of_lookup h)))
  · unfold start
    show _ = N.length
    rw [List.length_append, List.length_map, List.length_replicate]
    omega

/-- THE RULE: a def (or a method) of the text, by its body. The body's reading t is chosen for each entry; it is run at the parameters' values -/
theorem fn_of {CX : CXT} {P : Program} {w : World} {K : PySem.W.Frag} {mg : Str → Option Value} {base : Heap} {k : Nat} {f : Addr} {name qual : Str} {params : Arguments} {body : List Stmt} {scope : Scope} {dV kV doc pm cdv ct oc : Value} {an od : Option Addr}
    {osl : Array (Option Value)} {N ps : List Str} {sp : Sp} (lk : K.lookup f = some ⟨oc, od, .func (PySem.W.fnOf name qual params body scope dV kV doc pm an cdv ct), osl⟩) (hcd : PySem.W.codeIn K cdv qual = true) (S : FnScope N ps scope)
    (len : ∀ vs H Q E, sp vs H Q E → vs.length = ps.length)
    (hbody : ∀ (A : Around) (outer : List Env) (s : Shared) (H : Hp) (vs : List V) (Q : VK) (E : XK), Room k (A.deeper (envOfC qual scope s.heap.objs.size f cdv)) → sp vs H Q E →
      ∃ t, PSs (cxOf CX P w K mg base N qual scope f cdv A outer s H E) body t ∧ t { nx := fun _ H' => Q .non H', rt := Q } (start N vs) H) :
    FnOk P w K mg base CX (k + 1) f (PySem.W.fnOf name qual params body scope dV kV doc pm an cdv ct) ps sp := by
  refine ⟨len, fun A outer s H args us vs Q E hr e0 hb r hsp => ?_⟩
  have hl := len _ _ _ _ hsp
  have KX : K.In s.heap := e0.mod.kin.keeps fun b o e => (e0.bs b o e).1
  have lim : s.heap.NoLimit := e0.mod.nolimit.keeps fun b o e => (e0.bs b o e).1
  have hkind : ∀ y ∈ ps.zip us, scope.names.lookup y.1 = some .local ∨ (scope.names.lookup y.1 = some .cell ∧ ((cellsFrom (s.heap.objs.size + 1) scope.names []).lookup y.1).isSome = true) := fun ⟨n, v⟩ hy => by
    rcases S.par n (List.of_mem_zip hy).1 with q | q
    · exact .inl q
    · exact .inr ⟨q, PySem.W.cellsFrom_some _ _ _ (.inl q)⟩
  refine codeAny_call_function hr.depth (KX _ _ lk) rfl S.co S.gen rfl (PySem.W.codeRec_of KX hcd) (hb _ _ _ _ ?_)
  refine wpAny_newFunctionEnv_cells S.kind hkind fun env he s1 x => ?_
  subst he
  refine ⟨lim.keeps x.toInCall.keep, codeAny_func ?_⟩
  obtain ⟨t, ht, hq⟩ := hbody A outer s H vs Q E (hr.deeper _) hsp
  have I : Inv (cxOf CX P w K mg base N qual scope f cdv A outer s H E) [] (start N vs) H s1 := inv_start S hr.hd e0 hl r x
  refine wpAny_mono (ht [] s1 (start N vs) H _ I hq) (fun fl s' hs => ?_) fun e s' hs => hs
  have fin : ∀ {σ' : St} {H' : Hp} {v : V} {u : Value}, Inv (cxOf CX P w K mg base N qual scope f cdv A outer s H E) [] σ' H' s' → RelV v u → Q v H' → CE outer P w H s Q u s' :=
    fun {σ' H' v u} J rv q => ⟨v, H', J.os, J.bare, J.base, J.hok, rv, q⟩
  cases fl with
  | ret u =>
    obtain ⟨v, σ', H', J, rv, q⟩ := hs
    exact fin J rv q
  | next =>
    obtain ⟨σ', H', J, q⟩ := hs
    exact fin (v := V.non) (u := Value.none) J rfl q
  | brk =>
    obtain ⟨_, _, _, q⟩ := hs
    exact False.elim q
  | cont =>
    obtain ⟨_, _, _, q⟩ := hs
    exact False.elim q
end L2

namespace L2
open PySem PySem.Spec PyProof.Rows
section
variable {X : Cx} {x : Str} {p pos : Pos} {e : Expr} {es : List Expr} {t : TA} {id T : String} {r : List V → Hp → VK → Prop}

def tCB (r : List V → Hp → VK → Prop) (t : TA) : TE := fun σ H Q => t σ H fun vs H1 => r vs H1 Q
/-- f(e, ..), f a built-in function -/
theorem pe_callB (hc : CallR X (.builtin id) r) (hg : Gl X x) (hm : X.mg x = none) (hv : bootBuiltins x = some (.builtin id)) (ha : PA X (e :: es) t) (hn : x ≠ "__name__" := by decide) (hdb : (x == ("__debug__" : Str)) = false := by decide)
    (he : starEach (e :: es) X.env = (false, eval e X.env) :: starEach es X.env := by rfl) (hpl : (backTo pos (starEach es X.env)).any (·.1) = false := by rfl) : PE X (.Call (.Name x p) (e :: es) [] pos) (tCB r t) := by
  intro pins s σ H Q I h
  refine wpAny_Call_Name_kw (ld_blt I hg hm hv ?_ hn hdb)
  exact PyProof.Rows.callWith_builtin1 (thn (ha pos pins s σ H _ I h) fun us s1 ⟨vs, H1, I1, r1, q1⟩ => hc pins s1 σ H1 vs us Q I1 r1 q1) he hpl
end
end L2

namespace HT
open PySem PyProof.Rows



section
open PySem.SeqAt
open PySem.AutoSeq1 (wpAny_loadPart')
open PySem.MeetsSeq PySem.MeetsSeq2 PySem.MeetsSeq3

end

section
variable {prog : Program} {w : World} {A : Around} {E : Value → Shared → Prop} {s : Shared}



/-! ### t[a:b], not the whole -/
/-- a slice's bound as a place among n (d where it is left out) -/
def sIx (n d : Nat) : Option Int → Nat
  | none => d
  | some v => if v < 0 then (v + (n : Int)).toNat else min v.toNat n
theorem sIx_none (n d : Nat) : sIx n d none = d := rfl
theorem sIx_nat (n d k : Nat) : sIx n d (some (k : Int)) = min k n := by
  show (if (k : Int) < 0 then ((k : Int) + (n : Int)).toNat else min (k : Int).toNat n) = min k n
  rw [if_neg (by omega), Int.toNat_natCast]

end
end HT

namespace L2
open PySem PySem.Spec PyProof.Rows

/-! ### the parts of a slice -/
abbrev TO := St → Hp → (Option Int → Hp → Prop) → Prop
/-- a slice's part (left out, or an int) -/
def PO (X : Cx) (e : Option Expr) (t : TO) : Prop :=
  ∀ (pins : List (Addr × Obj)) (s : Shared) (σ : St) (H : Hp) (Q : Option Int → Hp → Prop), Inv X pins σ H s → t σ H Q →
    wpAny (model X.prog X.w) X.A (evalPart e X.env) (fun u s' => ∃ o H', Inv X pins σ H' s' ∧ IsPart u o ∧ Q o H') X.xe s
def tNoPart : TO := fun _ H Q => Q none H
def tPart (t : TE) : TO := fun σ H Q => t σ H fun x H1 => ∃ i, x = .int i ∧ Q (some i) H1


section
variable {X : Cx} {e : Expr} {te : TE} {lo hi : Option Expr} {tl th : TO} {pos p2 : Pos}

theorem po_none : PO X none tNoPart := by
  intro pins s σ H Q I h
  rw [evalPart_none]
  exact wpAny_pure ⟨none, H, I, .none, h⟩
theorem po_some (h : PE X e te) : PO X (some e) (tPart te) := by
  intro pins s σ H Q I hw
  rw [evalPart_some]
  refine thn (h pins s σ H _ I hw) fun u s1 ⟨x, H1, I1, r1, q1⟩ => ?_
  obtain ⟨i, rfl, q⟩ := q1
  obtain ⟨t, rfl⟩ := r1
  exact ⟨some i, H1, I1, .int i t, q⟩

/-- what a slice of a value is, by values: the slice object stands at sl -/
def SlR (X : Cx) (r : V → Option Int → Option Int → Hp → VK → Prop) : Prop :=
  ∀ (pins : List (Addr × Obj)) (s : Shared) (σ : St) (H : Hp) (x : V) (v vl vu : Value) (lo hi : Option Int) (sl : Addr) (Q : VK), Inv X pins σ H s → RelV x v → s.heap.IsSliceOf sl vl vu .none → IsPart vl lo → IsPart vu hi → r x lo hi H Q →
    ∃ T id, typeLookup (.type T) "__getitem__" = pure (some (.builtin id)) ∧ s.TypeIs v T ∧ wpAny (model X.prog X.w) X.A (getItem v (.ref sl)) (EP X pins σ Q) X.xe s
def tSl (r : V → Option Int → Option Int → Hp → VK → Prop) (te : TE) (tl th : TO) : TE := fun σ H Q => te σ H fun x H1 => tl σ H1 fun l H2 => th σ H2 fun u H3 => r x l u H3 Q
/-- a[lo:hi], any a -/
theorem pe_slice {r : V → Option Int → Option Int → Hp → VK → Prop} (hr : SlR X r) (he : PE X e te) (hl : PO X lo tl) (hu : PO X hi th) : PE X (.Subscript e (.Slice lo hi none p2) pos) (tSl r te tl th) := by
  intro pins s σ H Q I h
  refine Subscript_ (thn (he pins s σ H _ I h) fun v s1 ⟨x, H1, I1, r1, q1⟩ => ?_)
  refine wpAny_Slice (thn (hl pins s1 σ H1 _ I1 q1) fun vl s2 ⟨l, H2, I2, pl, q2⟩ => thn (hu pins s2 σ H2 _ I2 q2) fun vu s3 ⟨u, H3, I3, pu, q3⟩ => ?_)
  rw [evalPart_none]
  refine wpAny_pure ?_
  have I4 : Inv X pins σ H3 { s3 with heap := s3.heap.push { cls := .type "slice", data := .fields #[vl, vu, .none] } } := I3.kept (t' := s3.toks) fun b ob q => Heap.get?_push_of_some _ q
  obtain ⟨T, id, hT, ht, hg⟩ := hr pins { s3 with heap := s3.heap.push { cls := .type "slice", data := .fields #[vl, vu, .none] } } σ H3 x v vl vu l u s3.heap.objs.size Q I4 r1 (Heap.IsSliceOf.new ..) pl pu q3
  show wpAny (model X.prog X.w) X.A (subscriptTail e (.Slice lo hi none p2) v (.ref s3.heap.objs.size)) (EP X pins σ Q) X.xe { s3 with heap := s3.heap.push { cls := .type "slice", data := .fields #[vl, vu, .none] } }
  exact tail_any (ops := [.ref s3.heap.objs.size, v]) ht hT hg (by with_unfolding_all rfl)

/-- the items of xs[lo:hi] -/
def cutV (xs : List V) (lo hi : Option Int) : List V := (xs.drop (HT.sIx xs.length 0 lo)).take (HT.sIx xs.length xs.length hi - HT.sIx xs.length 0 lo)
theorem cutV_length (xs : List V) (lo hi : Option Int) : (cutV xs lo hi).length ≤ xs.length := by
  unfold cutV
  rw [List.length_take, List.length_drop]
  omega

/-! ### t < u, t + u -/
end
end L2

namespace L2
open PySem PySem.Spec PyProof.Rows

/-! ### places -/
/-- the place that an index of any sign means -/
def ixN (n : Nat) (i : Int) : Option Nat := if 0 ≤ i then (if i < n then some i.toNat else none) else if -(n : Int) ≤ i then some (i + n).toNat else none
def atI {α : Type} (xs : List α) (i : Int) : Option α := (ixN xs.length i).bind fun j => xs[j]?
theorem ixN_seq {n : Nat} {i : Int} {j : Nat} (h : ixN n i = some j) : seqIndex? i n = some j ∧ j < n ∧ -(n : Int) ≤ i ∧ i < n := by
  unfold ixN at h
  by_cases h0 : 0 ≤ i
  · rw [if_pos h0] at h
    by_cases h1 : i < n
    · rw [if_pos h1] at h
      have e : i.toNat = j := Option.some.inj h
      exact ⟨by rw [seqIndex_of h0 h1, e], by omega, by omega, h1⟩
    · rw [if_neg h1] at h; cases h
  · rw [if_neg h0] at h
    by_cases h1 : -(n : Int) ≤ i
    · rw [if_pos h1] at h
      have e : (i + n).toNat = j := Option.some.inj h
      exact ⟨by rw [seqIndex_neg (by omega) h1, e], by omega, h1, by omega⟩
    · rw [if_neg h1] at h; cases h
theorem atI_get {α : Type} {xs : List α} {i : Int} {v : α} (h : atI xs i = some v) : ∃ j, seqIndex? i xs.length = some j ∧ xs[j]? = some v ∧ j < xs.length ∧ -(xs.length : Int) ≤ i ∧ i < xs.length := by
  unfold atI at h
  cases e : ixN xs.length i with
  | none => rw [e] at h; cases h
  | some j =>
    rw [e] at h
    obtain ⟨h1, h2, h3, h4⟩ := ixN_seq e
    exact ⟨j, h1, h, h2, h3, h4⟩
theorem atI_nat {α : Type} {xs : List α} {j : Nat} {v : α} (h : xs[j]? = some v) : atI xs (j : Int) = some v := by
  have hj : j < xs.length := (List.getElem?_eq_some_iff.mp h).1
  have e : ixN xs.length (j : Int) = some j := by
    unfold ixN
    rw [if_pos (by omega), if_pos (by omega)]; simp
  unfold atI; rw [e]; exact h
theorem atI_last {α : Type} (xs : List α) (v : α) : atI (xs ++ [v]) (-1) = some v := by
  have hl : (xs ++ [v]).length = xs.length + 1 := by simp
  have e : ixN (xs ++ [v]).length (-1) = some xs.length := by
    unfold ixN
    rw [hl, if_neg (by decide), if_pos (by omega)]
    congr 1
    omega
  unfold atI
  rw [e]
  show (xs ++ [v])[xs.length]? = some v
  simp

/-! ### what may be subscripted -/
/-- what stands as an index of a plain subscript -/
def PlainIx (b : Expr) : Prop := ∀ o i, subscripted b false o i = operate [o, i] (getItem o i)
/-- a subscript by values -/
def IxR (X : Cx) (r : R2) : Prop :=
  ∀ (value slice : Expr) (pins : List (Addr × Obj)) (s : Shared) (σ : St) (H : Hp) (x y : V) (v u : Value) (Q : VK), Inv X pins σ H s → RelV x v → RelV y u → r x y H Q →
    subscripted slice false v u = operate [v, u] (getItem v u) → wpAny (model X.prog X.w) X.A (subscriptTail value slice v u) (EP X pins σ Q) X.xe s
/-- a call of a builtin's method by values: the receiver, the arguments -/
def MtR (X : Cx) (id : String) (r : V → List V → Hp → VK → Prop) : Prop :=
  ∀ (pins : List (Addr × Obj)) (s : Shared) (σ : St) (H : Hp) (x : V) (xs : List V) (v : Value) (us : List Value) (Q : VK), Inv X pins σ H s → RelV x v → Vals xs us → r x xs H Q →
    wpAny (model X.prog X.w) X.A (call (.builtin id) (v :: us)) (EP X pins σ Q) X.xe s
section
variable {X : Cx} {a b : Expr} {ta tb : TE} {pos : Pos}
/-- a[b] -/
theorem pe_ix {r : R2} (hr : IxR X r) (ha : PE X a ta) (hb : PE X b tb) (hs : PlainIx b) : PE X (.Subscript a b pos) (tOp r ta tb) := by
  intro pins s σ H Q I h
  exact Subscript_ (binT ha hb I h fun v u s2 x y H2 I2 rx ry q => hr a b pins s2 σ H2 x y v u Q I2 rx ry q (hs _ _))

def rIxL (K : PySem.W.Frag) : R2 := fun x y H Q => ∃ p xs i v, x = .ref p ∧ y = .int i ∧ SqL K H p xs ∧ atI xs i = some v ∧ Q v H
def rIxT (K : PySem.W.Frag) : R2 := fun x y H Q => ∃ p xs i v, x = .ref p ∧ y = .int i ∧ SqT K H p xs ∧ atI xs i = some v ∧ Q v H
theorem ix_list : IxR X (rIxL X.K) := by
  intro value slice pins s σ H x y v u Q I rx ry h hs
  obtain ⟨p, xs, i, z, rfl, rfl, hq, he, q⟩ := h
  cases rx
  obtain ⟨t, rfl⟩ := ry
  obtain ⟨its, r, pl, hz⟩ := I.list hq
  obtain ⟨j, h1, h2, h3, h4, h5⟩ := atI_get he
  obtain ⟨w, ew, rw'⟩ := r.get h2
  have hl := r.length
  have hn := line63
  have fin : EP X pins σ Q w s := ⟨z, H, I, rw', q⟩
  by_cases h0 : 0 ≤ i
  · have hj : i.toNat = j := by
      rw [seqIndex_of h0 h5] at h1
      exact Option.some.inj h1
    exact item_listR pl.isList h0 (by omega) (by rw [hj]; simpa using ew) fin hs
  · have hj : (i + (its.toArray.size : Int)).toNat = j := by
      rw [seqIndex_neg (by omega) h4] at h1
      rw [List.size_toArray, ← hl]
      exact Option.some.inj h1
    exact subscriptTail_builtinR (x := w) pl.isList.typeIs slot_list_getitem.lookup
      (wpAny_getItem_list_neg (Q := fun r s' => r = w ∧ EP X pins σ Q r s') pl.isList (by omega) (by rw [List.size_toArray] <;> omega) (by omega) (by rw [hj]; simpa using ew) ⟨rfl, fin⟩) hs
theorem ix_tup : IxR X (rIxT X.K) := by
  intro value slice pins s σ H x y v u Q I rx ry h hs
  obtain ⟨p, xs, i, z, rfl, rfl, hq, he, q⟩ := h
  cases rx
  obtain ⟨t, rfl⟩ := ry
  obtain ⟨its, r, pl, hz⟩ := I.tuple hq
  obtain ⟨j, h1, h2, h3, h4, h5⟩ := atI_get he
  obtain ⟨w, ew, rw'⟩ := r.get h2
  have hl := r.length
  have hn := line63
  have fin : EP X pins σ Q w s := ⟨z, H, I, rw', q⟩
  exact subscriptTail_builtinR (x := w) pl.typeIs slot_tuple_getitem.lookup
    (getItem_tuple (j := j) (Q := fun r s' => r = w ∧ EP X pins σ Q r s') pl (by omega) (by omega) (by rw [List.size_toArray, ← hl]; exact h1) (by simpa using ew) ⟨rfl, fin⟩) hs

/-! ### xs[i] = v, any sign -/
/-- the list's object behind a store -/
theorem mapSeq_set (its : List Value) (n j : Nat) (u : Value) : Obj.mapSeq (·.setIfInBounds j u) { cls := .type "list", data := .seq its.toArray n } = { cls := .type "list", data := .seq (its.set j u).toArray n } := by
  simp [Obj.mapSeq]
theorem Inv.lst {pins : List (Addr × Obj)} {σ : St} {H : Hp} {s : Shared} {p : Addr} {xs : List V} (I : Inv X pins σ H s) (h : H p = some (.lst xs)) :
    ∃ (its : List Value) (n : Nat), Vals xs its ∧ s.heap.get? p = some { cls := .type "list", data := .seq its.toArray n } ∧ xs.length ≤ sizeLine := by
  obtain ⟨z, its, n, r, e⟩ := I.hok p _ h
  exact ⟨its, n, r, e, z⟩
/-- the list at p is written by an update of its object -/
theorem Inv.lstUpd {pins : List (Addr × Obj)} {σ : St} {H : Hp} {s : Shared} {p : Addr} {xs ys : List V} {its its' : List Value} {n n' : Nat} {f : Obj → Obj} (I : Inv X pins σ H s) (h : H p = some (.lst xs))
    (ho : s.heap.get? p = some { cls := .type "list", data := .seq its.toArray n }) (hf : f { cls := .type "list", data := .seq its.toArray n } = { cls := .type "list", data := .seq its'.toArray n' }) (r : Vals ys its') (hz : ys.length ≤ sizeLine) (t : Nat) :
    Inv X pins σ (upd H p (.lst ys)) { s with heap := s.heap.update p f, toks := t } := by
  have e : (s.heap.update p f).get? p = some { cls := .type "list", data := .seq its'.toArray n' } := by
    rw [Heap.get?_update_self f ho (by rw [hf] <;> rfl), hf]
  refine I.write (x := p) (e := p) (by rw [h]; trivial) (.inl rfl) (fun b u hb q => (Heap.get?_update_other _ _ (Ne.symm hb)).trans q) ⟨_, e⟩ ?_
  exact ⟨hz, its', n', r, e⟩
def rSetL : V → V → V → Hp → (Hp → Prop) → Prop := fun o i v H Q => ∃ p xs k j, o = .ref p ∧ i = .int k ∧ H p = some (.lst xs) ∧ ixN xs.length k = some j ∧ Q (upd H p (.lst (xs.set j v)))
theorem set_list : PSet X rSetL := by
  intro pins s σ H o i v ov iv u Q I ro ri rv h
  obtain ⟨p, xs, k, j, rfl, rfl, hp, hj, q⟩ := h
  cases ro
  obtain ⟨t, rfl⟩ := ri
  obtain ⟨its, n, r, ho, hz⟩ := I.lst hp
  obtain ⟨h1, h2, h3, h4⟩ := ixN_seq hj
  have hl := r.length
  have hn := line63
  have I' : Inv X pins σ (upd H p (.lst (xs.set j v))) { s with heap := s.heap.update p (Obj.mapSeq (·.setIfInBounds j u)) } :=
    I.lstUpd hp ho (mapSeq_set its n j u) (r.set rv j) (by rw [List.length_set]; exact hz) s.toks
  by_cases h0 : 0 ≤ k
  · have hk : k.toNat = j := by
      rw [seqIndex_of h0 h4] at h1
      exact Option.some.inj h1
    exact PySem.W.ki_setAt ho h0 (by omega) (by rw [List.size_toArray, ← hl]; exact h4) (by rw [hk]; exact ⟨_, I', q⟩)
  · have hk : (k + (its.toArray.size : Int)).toNat = j := by
      rw [seqIndex_neg (by omega) h3] at h1
      rw [List.size_toArray, ← hl]
      exact Option.some.inj h1
    exact PySem.W.ki_setBack ho (by omega) (by rw [List.size_toArray, ← hl]; exact h3) (by omega) (by rw [hk]; exact ⟨_, I', q⟩)

/-! ### slices -/
theorem slice_bounds (lo hi : Option Int) (n : Nat) : (sliceBounds lo hi none n).1 = ((HT.sIx n 0 lo : Nat) : Int) ∧ (sliceBounds lo hi none n).2.1 = ((HT.sIx n n hi : Nat) : Int) ∧ (sliceBounds lo hi none n).2.2 = 1 := by
  refine ⟨?_, ?_, rfl⟩
  · cases lo with
    | none => simp [sliceBounds, HT.sIx]
    | some i =>
      simp only [sliceBounds, HT.sIx, Option.getD_none, show (1 : Int) > 0 by decide, if_true]
      by_cases h : i < 0
      · simp only [h, if_true] <;> omega
      · simp only [h, if_false] <;> omega
  · cases hi with
    | none => simp [sliceBounds, HT.sIx]
    | some i =>
      simp only [sliceBounds, HT.sIx, Option.getD_none, show (1 : Int) > 0 by decide, if_true]
      by_cases h : i < 0
      · simp only [h, if_true] <;> omega
      · simp only [h, if_false] <;> omega
theorem slicePick_cut (its : List Value) (lo hi : Option Int) : slicePick its.toArray lo hi none = ((its.drop (HT.sIx its.length 0 lo)).take (HT.sIx its.length its.length hi - HT.sIx its.length 0 lo)).toArray := by
  obtain ⟨h1, h2, h3⟩ := slice_bounds lo hi its.toArray.size
  unfold slicePick
  rw [h1, h2, h3]
  simp only [sliceRange_one, pick_run, List.size_toArray] <;> rfl
/-- xs[lo:hi] of a list: a new list -/
def rSlL (K : PySem.W.Frag) : V → Option Int → Option Int → Hp → VK → Prop := fun x lo hi H Q => ∃ a xs, x = .ref a ∧ SqL K H a xs ∧ ∀ p, H p = none → Q (.ref p) (upd H p (.lst (cutV xs lo hi)))
theorem sl_list : SlR X (rSlL X.K) := by
  intro pins s σ H x v vl vu lo hi sl Q I rx hs pl pu h
  obtain ⟨a, xs, rfl, hx, q⟩ := h
  cases rx
  obtain ⟨its, r, ht, hz⟩ := I.list hx
  have hlen := r.length
  refine ⟨"list", _, slot_list_getitem.lookup, ht.isList.typeIs, ?_⟩
  refine wpAny_getItem_list_slice ht.isList hs pl pu .none (by simp) ?_ (by rw [List.size_toArray] <;> omega)
  rw [slicePick_cut, ← hlen]
  refine ⟨.ref s.heap.objs.size, _, I.laid (t' := s.toks) (o := .lst (cutV xs lo hi)) (fun b ob q => Heap.get?_push_of_some _ q) (Nat.le_refl _) ?_, rfl, q _ (I.hok.fresh (Nat.le_refl _))⟩
  exact ⟨Nat.le_trans (cutV_length xs lo hi) hz, _, 0, (r.drop (HT.sIx xs.length 0 lo)).take (HT.sIx xs.length xs.length hi - HT.sIx xs.length 0 lo), Heap.get?_push_size _ rfl⟩

/-! ### in, not in: flat items -/
def flatV : V → Bool
  | .non => true
  | .bl _ => true
  | .int _ => true
  | .str _ => true
  | _ => false
/-- == of flat values -/
def eqV : V → V → Bool
  | .non, .non => true
  | .bl a, .bl b => a == b
  | .bl a, .int b => (if a then 1 else 0) == b
  | .int a, .bl b => a == (if b then 1 else 0)
  | .int a, .int b => a == b
  | .str a, .str b => a == b
  | _, _ => false
theorem eqAt_V {A : Around} {s : Shared} {y x : V} {u v : Value} (ry : RelV y u) (rx : RelV x v) (fy : flatV y = true) (fx : flatV x = true) : SeqAt.EqAt A s u v (eqV y x) := by
  cases y with
  | non =>
    cases ry
    cases x with
    | non => cases rx; exact SeqAt.EqAt.same _
    | bl b => cases rx; exact SeqAt.EqAt.none_bool b
    | int b => obtain ⟨t, rfl⟩ := rx; exact SeqAt.EqAt.none_int b t
    | str b => obtain ⟨t, rfl⟩ := rx; exact SeqAt.EqAt.none_str b t
    | _ => exact absurd (show false = true from fx) Bool.false_ne_true
  | bl a =>
    cases ry
    cases x with
    | non => cases rx; exact SeqAt.EqAt.bool_none a
    | bl b => cases rx; exact SeqAt.EqAt.bool_bool a b
    | int b => obtain ⟨t, rfl⟩ := rx; exact SeqAt.EqAt.bool_int a b t
    | str b => obtain ⟨t, rfl⟩ := rx; exact SeqAt.EqAt.bool_str a b t
    | _ => exact absurd (show false = true from fx) Bool.false_ne_true
  | int a =>
    obtain ⟨t', rfl⟩ := ry
    cases x with
    | non => cases rx; exact SeqAt.EqAt.int_none a t'
    | bl b => cases rx; exact SeqAt.EqAt.int_bool a t' b
    | int b => obtain ⟨t, rfl⟩ := rx; exact SeqAt.EqAt.int_int a t' b t
    | str b => obtain ⟨t, rfl⟩ := rx; exact SeqAt.EqAt.int_str a t' b t
    | _ => exact absurd (show false = true from fx) Bool.false_ne_true
  | str a =>
    obtain ⟨t', rfl⟩ := ry
    cases x with
    | non => cases rx; exact SeqAt.EqAt.str_none a t'
    | bl b => cases rx; exact SeqAt.EqAt.str_bool a t' b
    | int b => obtain ⟨t, rfl⟩ := rx; exact SeqAt.EqAt.str_int a t' b t
    | str b => obtain ⟨t, rfl⟩ := rx; exact SeqAt.EqAt.str_str a t' b t
    | _ => exact absurd (show false = true from fx) Bool.false_ne_true
  | _ => exact absurd (show false = true from fy) Bool.false_ne_true
/-- the items' answers, read off the values (a value's own answer does not lean on its token) -/
def eqU (x : V) (u : Value) : Bool := match u with
  | .none => eqV .non x
  | .bool b => eqV (.bl b) x
  | .int i _ => eqV (.int i) x
  | .str z _ => eqV (.str z) x
  | _ => false
theorem eqU_of {x y : V} {u : Value} (r : RelV y u) (f : flatV y = true) : eqU x u = eqV y x := by
  cases y with
  | non => cases r; rfl
  | bl b => cases r; rfl
  | int i => obtain ⟨t, rfl⟩ := r; rfl
  | str z => obtain ⟨t, rfl⟩ := r; rfl
  | _ => exact absurd (show false = true from f) Bool.false_ne_true
theorem any_eqU {x : V} : ∀ {xs : List V} {us : List Value}, Vals xs us → xs.all flatV = true → us.any (eqU x) = xs.any fun y => eqV y x
  | _, _, .nil, _ => rfl
  | y :: xs, u :: us, .cons r t, f => by
    rw [List.all_cons, Bool.and_eq_true] at f
    rw [List.any_cons, List.any_cons, eqU_of r f.1, any_eqU t f.2]
theorem mem_eqAt {A : Around} {s : Shared} {x : V} {v : Value} (rx : RelV x v) (fx : flatV x = true) : ∀ {xs : List V} {us : List Value}, Vals xs us → xs.all flatV = true → ∀ u ∈ us, SeqAt.EqAt A s u v (eqU x u)
  | _, _, .nil, _ => fun u hu => by cases hu
  | y :: xs, u :: us, .cons r t, f => fun u' hu => by
    rw [List.all_cons, Bool.and_eq_true] at f
    rcases List.mem_cons.mp hu with rfl | hu
    · rw [eqU_of r f.1]; exact eqAt_V r rx f.1 fx
    · exact mem_eqAt rx fx t f.2 u' hu
def inV (x : V) (xs : List V) : Bool := xs.any fun y => eqV y x
/-- x in a list or tuple of flat items -/
def rIn (K : PySem.W.Frag) (neg : Bool) : R2 := fun x y H Q => ∃ p xs, y = .ref p ∧ (SqL K H p xs ∨ SqT K H p xs) ∧ flatV x = true ∧ xs.all flatV = true ∧ Q (.bl (if neg then !inV x xs else inV x xs)) H
theorem op_in_seq : OpR X (compareOp .In) (rIn X.K false) := by
  intro pins s σ H x y v u Q I rx ry h
  obtain ⟨p, xs, rfl, hq, fx, fs, q⟩ := h
  cases ry
  rcases hq with hq | hq
  · obtain ⟨its, r, pl, hz⟩ := I.list hq
    refine SeqAt.in_listAt (eqU x) pl.isList (fun w hw => mem_eqAt rx fx r fs w (by simpa using hw)) ⟨.bl _, H, I, rfl, ?_⟩
    rw [show its.toArray.any (eqU x) = its.any (eqU x) by simp, any_eqU r fs]
    exact q
  · obtain ⟨its, r, pl, hz⟩ := I.tuple hq
    refine SeqAt.in_tupleAt (eqU x) pl (fun w hw => mem_eqAt rx fx r fs w (by simpa using hw)) ⟨.bl _, H, I, rfl, ?_⟩
    rw [show its.toArray.any (eqU x) = its.any (eqU x) by simp, any_eqU r fs]
    exact q
theorem op_notIn_seq : OpR X (compareOp .NotIn) (rIn X.K true) := by
  intro pins s σ H x y v u Q I rx ry h
  obtain ⟨p, xs, rfl, hq, fx, fs, q⟩ := h
  cases ry
  rcases hq with hq | hq
  · obtain ⟨its, r, pl, hz⟩ := I.list hq
    refine SeqAt.notIn_listAt (eqU x) pl.isList (fun w hw => mem_eqAt rx fx r fs w (by simpa using hw)) ⟨.bl _, H, I, rfl, ?_⟩
    rw [show its.toArray.any (eqU x) = its.any (eqU x) by simp, any_eqU r fs]
    exact q
  · obtain ⟨its, r, pl, hz⟩ := I.tuple hq
    refine SeqAt.notIn_tupleAt (eqU x) pl (fun w hw => mem_eqAt rx fx r fs w (by simpa using hw)) ⟨.bl _, H, I, rfl, ?_⟩
    rw [show its.toArray.any (eqU x) = its.any (eqU x) by simp, any_eqU r fs]
    exact q

/-! ### len, list(x), tuple(x) of any list or tuple that is read -/
theorem call_len_seq : CallR X (.builtin "len") (fun xs H Q => ∃ p ys, xs = [.ref p] ∧ (SqL X.K H p ys ∨ SqT X.K H p ys) ∧ Q (.int ys.length) H) := by
  intro pins s σ H xs us Q I r h
  obtain ⟨p, ys, rfl, hq, q⟩ := h
  obtain ⟨u, rfl, rx⟩ := vals1 r
  cases rx
  have hn := line63
  rcases hq with hq | hq
  · obtain ⟨its, r', pl, hz⟩ := I.list hq
    have hlen := r'.length
    exact Calls.call_len_list pl.isList (by simp only [List.size_toArray] <;> omega) ⟨.int ys.length, H, I.tok _, ⟨s.toks + 1, by rw [List.size_toArray, hlen]⟩, q⟩
  · obtain ⟨its, r', pl, hz⟩ := I.tuple hq
    have hlen := r'.length
    exact len_tuple pl (by simp only [List.size_toArray] <;> omega) ⟨.int ys.length, H, I.tok _, ⟨s.toks + 1, by rw [List.size_toArray, hlen]⟩, q⟩

/-! ### the call of a builtin's method: o.m(..) -/
/-- the value is of that builtin type -/
def tyV (K : PySem.W.Frag) (T : String) (x : V) (H : Hp) : Prop := match x with
  | .str _ => T = "str"
  | .int _ => T = "int"
  | .ref p => (T = "list" ∧ ∃ xs, SqL K H p xs) ∨ (T = "tuple" ∧ ∃ o, K.lookup p = some o ∧ o.cls = .type "tuple" ∧ o.dict = none) ∨
      (T = "dict" ∧ ((∃ kvs, H p = some (.dK kvs)) ∨ ∃ kvs, H p = some (.dT kvs))) ∨ (T = "set" ∧ ∃ S n, H p = some (.set S n))
  | _ => False
theorem tyV_is {pins : List (Addr × Obj)} {σ : St} {H : Hp} {s : Shared} {T : String} {x : V} {v : Value} (I : Inv X pins σ H s) (r : RelV x v) (ty : tyV X.K T x H) :
    s.TypeIs v T ∧ ∀ a, v = .ref a → ∃ ob, s.heap.get? a = some ob ∧ ob.dict = none := by
  cases x with
  | str z =>
    obtain ⟨t, rfl⟩ := r
    cases (show T = "str" from ty)
    exact ⟨typeIs_str s z t, fun _ e => nomatch e⟩
  | int i =>
    obtain ⟨t, rfl⟩ := r
    cases (show T = "int" from ty)
    exact ⟨typeIs_int s i t, fun _ e => nomatch e⟩
  | ref p =>
    cases r
    rcases ty with ⟨rfl, xs, hq⟩ | ⟨rfl, o, hk, hc, hd⟩ | ⟨rfl, hk⟩ | ⟨rfl, S, n, hk⟩
    · obtain ⟨its, _, pl, _⟩ := I.list hq
      refine ⟨pl.isList.typeIs, fun a e => ?_⟩
      cases e
      obtain ⟨o, n, e, c, hd, _⟩ := pl
      exact ⟨o, e, hd⟩
    · refine ⟨⟨o, I.kIn p o hk, hc⟩, fun a e => ?_⟩
      cases e
      exact ⟨o, I.kIn _ o hk, hd⟩
    · have z : ∃ o, s.heap.get? p = some o ∧ o.ExactDict := by
        rcases hk with ⟨kvs, hk⟩ | ⟨kvs, hk⟩
        · obtain ⟨_, _, _, _, o, _, _, e, ex, _⟩ := I.hok p _ hk
          exact ⟨o, e, ex⟩
        · obtain ⟨_, _, _, _, o, _, _, e, ex, _⟩ := I.hok p _ hk
          exact ⟨o, e, ex⟩
      obtain ⟨o, e, ex⟩ := z
      refine ⟨⟨o, e, ex.1⟩, fun a e2 => ?_⟩
      cases e2
      exact ⟨o, e, ex.2.1⟩
    · obtain ⟨o, _, _, _, e, ex, _⟩ := I.hok p _ hk
      refine ⟨⟨o, e, ex.1⟩, fun a e2 => ?_⟩
      cases e2
      exact ⟨o, e, ex.2.1⟩
  | _ => exact False.elim ty
def tBM (K : PySem.W.Frag) (T : String) (r : V → List V → Hp → VK → Prop) (to : TE) (t : TA) : TE := fun σ H Q => to σ H fun x H1 => tyV K T x H1 ∧ t σ H1 fun xs H2 => r x xs H2 Q
variable {o e : Expr} {es : List Expr} {to : TE} {t : TA} {name : Str} {apos cpos : Pos} {T id : String} {r : V → List V → Hp → VK → Prop}
theorem pe_bm (pa : PlainAttrs T) (slot : Slot T name id) (hty : typeOf (.builtin id) = pure (.type "method_descriptor")) (hm : MtR X id r) (ho : PE X o to) (ha : PA X (e :: es) t)
    (hbase : attributeBase o name X.env (eval o X.env) = eval o X.env := by rfl)
    (hfew : ((backTo cpos (starEach (e :: es) X.env)).all (fun x => !x.1) && (backToKw cpos (keywordEach [] X.env)).all (fun x => x.1.isSome)
      && decide ((e :: es).length + ([] : List Keyword).length + (if ([] : List Keyword).isEmpty then 0 else 1) < 30)) = true := by rfl)
    (hline : (apos.endLine == cpos.line) = true := by rfl) (hs : starEach (e :: es) X.env = (false, eval e X.env) :: starEach es X.env := by rfl) (hplain : (backTo cpos (starEach es X.env)).any (·.1) = false := by rfl) :
    PE X (.Call (.Attribute o name apos) (e :: es) [] cpos) (tBM X.K T r to t) := by
  intro pins s σ H Q I h
  refine wpAny_Call_method_late hbase hfew hline rfl (thn (ho pins s σ H _ I h) fun v s1 ⟨x, H1, I1, r1, ty, q1⟩ => ?_)
  obtain ⟨h1, h2⟩ := tyV_is I1 r1 ty
  refine ⟨T, id, pa, slot, hty, h1, h2, ?_⟩
  have hA := ha cpos pins s1 σ H1 _ I1 q1
  rw [hs] at hA ⊢
  refine Calls.callWith_builtin (by show (false || (backTo cpos (starEach es X.env)).any (·.1)) = false; rw [hplain] <;> rfl) (Calls.evalArgs_plain ?_)
  exact thn hA fun us s2 ⟨vs, H2, I2, r2, q2⟩ => hm pins s2 σ H2 x vs v us Q I2 r1 r2 q2
/- xs.append(e), list.index on a module's tuple .. are MtR facts of 06m -/
end
end L2

namespace L2
open PySem PySem.Spec PyProof.Rows

def MtM (X : Cx) (id : String) (r : V → List V → Hp → VK → Prop) : Prop :=
  ∀ (pins : List (Addr × Obj)) (s : Shared) (σ : St) (H : Hp) (x : V) (xs : List V) (v : Value) (us : List Value) (Q : VK), Inv X pins σ H s → RelV x v → Vals xs us → r x xs H Q →
    wpAny (model X.prog X.w) X.A (call (.builtin id) (v :: us)) (EP X pins σ Q) X.xe s

/-! ### lists of values -/
theorem Vals.one : ∀ {x : V} {us : List Value}, Vals [x] us → ∃ u, us = [u] ∧ RelV x u
  | _, _, .cons r .nil => ⟨_, rfl, r⟩
theorem Vals.rep {xs : List V} {us : List Value} (h : Vals xs us) : ∀ k : Nat, Vals (List.replicate k xs).flatten (List.replicate k us).flatten
  | 0 => .nil
  | k + 1 => by
    rw [List.replicate_succ, List.replicate_succ, List.flatten_cons, List.flatten_cons]
    exact Vals.append h (Vals.rep h k)
theorem foldl_rep (its : List Value) : ∀ (k : Nat) (acc : List Value),
    List.foldl (fun x1 x2 => x1 ++ x2) acc.toArray (List.replicate k its.toArray) = (acc ++ (List.replicate k its).flatten).toArray
  | 0, acc => by simp
  | k + 1, acc => by
    have e : acc.toArray ++ its.toArray = (acc ++ its).toArray := by simp
    have e2 : (acc ++ its) ++ (List.replicate k its).flatten = acc ++ (List.replicate (k + 1) its).flatten := by
      rw [List.replicate_succ, List.flatten_cons, List.append_assoc]
    rw [← e2, ← foldl_rep its k (acc ++ its), ← e, List.replicate_succ, List.foldl_cons]

section
variable {X : Cx} {pins : List (Addr × Obj)} {σ : St} {H : Hp} {s : Shared} {l b : Addr} {xs ys zs : List V}

/-! ### the two steps: a tracked list is rewritten, a new list is laid -/
theorem Inv.lset {its its' : List Value} {n : Nat} {f : Array Value → Array Value} {t' : Nat} (I : Inv X pins σ H s) (hH : H l = some (.lst xs))
    (e : s.heap.get? l = some { cls := .type "list", data := .seq its.toArray n }) (hf : f its.toArray = its'.toArray) (hv : Vals ys its') (hz : ys.length ≤ sizeLine) :
    Inv X pins σ (upd H l (.lst ys)) { s with heap := s.heap.update l (Obj.mapSeq f), toks := t' } := by
  have q := PySem.IsL.update e f
  rw [hf] at q
  refine I.write (x := l) (e := l) (by rw [hH]; exact trivial) (.inl rfl) (fun b' u hb hu => (Heap.get?_update_other s.heap (Obj.mapSeq f) (Ne.symm hb)).trans hu) ⟨_, q⟩ ?_
  exact ⟨hz, its', _, hv, q⟩
theorem Inv.lnew {its : List Value} {t' : Nat} (I : Inv X pins σ H s) (hv : Vals ys its) (hz : ys.length ≤ sizeLine) :
    Inv X pins σ (upd H s.heap.objs.size (.lst ys)) { s with heap := s.heap.push { cls := .type "list", data := .seq its.toArray }, toks := t' } :=
  I.laid (fun _ _ q => Heap.get?_push_of_some _ q) (Nat.le_refl _) ⟨hz, its, 0, hv, Heap.get?_push_size _ rfl⟩
theorem Inv.fresh (I : Inv X pins σ H s) : H s.heap.objs.size = none := I.hok.fresh (Nat.le_refl _)
theorem Inv.lstM (I : Inv X pins σ H s) (hH : H l = some (.lst xs)) : xs.length ≤ sizeLine ∧ ∃ (its : List Value) (n : Nat), Vals xs its ∧ xs.length = its.length ∧ s.heap.get? l = some { cls := .type "list", data := .seq its.toArray n } := by
  obtain ⟨z, its, n, r, e⟩ := I.hok l _ hH
  exact ⟨z, its, n, r, r.length, e⟩

theorem notLongL {n : Nat} (h : n ≤ sizeLine) : Builtin.List.listTooLong n = false := by
  unfold Builtin.List.listTooLong
  exact decide_eq_false (by omega)
end

section
variable {X : Cx}

/-! ### methods -/
def rAppend : V → List V → Hp → VK → Prop := fun x vs H Q => ∃ l xs y, x = .ref l ∧ vs = [y] ∧ H l = some (.lst xs) ∧ xs.length < sizeLine ∧ Q .non (upd H l (.lst (xs ++ [y])))
theorem mt_append : MtM X "list.append" rAppend := by
  intro pins s σ H x vs v us Q I rx rv h
  obtain ⟨l, xs, y, rfl, rfl, hH, hz, q⟩ := h
  cases rx
  obtain ⟨u, rfl, ru⟩ := rv.one
  obtain ⟨z, its, n, r, hl, e⟩ := I.lstM hH
  refine call_meets F.slot_list_append ⟨_, e, rfl⟩ F.entry_list_append (F.args_list_append_2 _ _) (PySem.list_append l its.toArray n u (by rw [List.size_toArray]; omega)) ⟨e, ?_⟩
  refine ⟨.non, _, I.lset (its' := its ++ [u]) hH e (by simp) (r.append (.cons ru .nil)) ?_, rfl, q⟩
  rw [List.length_append, List.length_singleton]
  omega

def rExtend : V → List V → Hp → VK → Prop := fun x vs H Q => ∃ l b xs zs, x = .ref l ∧ vs = [.ref b] ∧ H l = some (.lst xs) ∧ H b = some (.lst zs) ∧ xs.length + zs.length ≤ sizeLine ∧ Q .non (upd H l (.lst (xs ++ zs)))
theorem mt_extend : MtM X "list.extend" rExtend := by
  intro pins s σ H x vs v us Q I rx rv h
  obtain ⟨l, b, xs, zs, rfl, rfl, hH, hB, hz, q⟩ := h
  cases rx
  obtain ⟨u, rfl, ru⟩ := rv.one
  cases ru
  obtain ⟨z, its, n, r, hl, e⟩ := I.lstM hH
  obtain ⟨z2, its2, n2, r2, hl2, e2⟩ := I.lstM hB
  have hsz : its.toArray.size + its2.toArray.size ≤ sizeLine := by rw [List.size_toArray, List.size_toArray]; omega
  have hlong : ¬ (!its.toArray.isEmpty && Builtin.List.listTooLong (its.toArray.size + its2.toArray.size)) = true := by
    rw [notLongL hsz, Bool.and_false]
    exact Bool.false_ne_true
  refine call_meets F.slot_list_extend ⟨_, e, rfl⟩ F.entry_list_extend (F.args_list_extend_2 _ _)
    (AutoSeq1.list_extend_list_list_0 l its.toArray n b its2.toArray n2 hlong (by rw [List.size_toArray]; omega) (by omega)) ⟨e, e2, ?_⟩
  refine ⟨.non, _, I.lset (its' := its ++ its2) hH e (by simp) (r.append r2) ?_, rfl, q⟩
  rw [List.length_append]
  omega





/-! ### list + list, list += list, list * int -/
def rCat : R2 := fun x y H Q => ∃ l b xs zs, x = .ref l ∧ y = .ref b ∧ H l = some (.lst xs) ∧ H b = some (.lst zs) ∧ xs.length + zs.length ≤ sizeLine ∧ ∀ p, H p = none → Q (.ref p) (upd H p (.lst (xs ++ zs)))
theorem op_cat : OpR X (binaryOp .Add) rCat := by
  intro pins s σ H x y v u Q I rx ry h
  obtain ⟨l, b, xs, zs, rfl, rfl, hH, hB, hz, q⟩ := h
  cases rx
  cases ry
  obtain ⟨z, its, n, r, hl, e⟩ := I.lstM hH
  obtain ⟨z2, its2, n2, r2, hl2, e2⟩ := I.lstM hB
  refine PySem.P.add_list e e2 ?_ (by rw [List.size_toArray, List.size_toArray]; omega)
  have ea : its.toArray ++ its2.toArray = (its ++ its2).toArray := by simp
  rw [ea]
  exact ⟨.ref _, _, I.lnew (t' := s.toks) (r.append r2) (by rw [List.length_append]; omega), rfl, q _ I.fresh⟩
/-- a list times an int (a negative one is nothing) -/
def rRep : R2 := fun x y H Q => ∃ l k xs, x = .ref l ∧ y = .int k ∧ H l = some (.lst xs) ∧ -(2 ^ 63) ≤ k ∧ k < 2 ^ 63 ∧ xs.length * k.toNat ≤ sizeLine ∧
  ∀ p, H p = none → Q (.ref p) (upd H p (.lst (List.replicate k.toNat xs).flatten))
theorem len_rep {α : Type} (xs : List α) (k : Nat) : (List.replicate k xs).flatten.length = k * xs.length := by
  induction k with
  | zero => simp
  | succ k ih => rw [List.replicate_succ, List.flatten_cons, List.length_append, ih, Nat.succ_mul, Nat.add_comm]
theorem op_rep : OpR X (binaryOp .Mult) rRep := by
  intro pins s σ H x y v u Q I rx ry h
  obtain ⟨l, k, xs, rfl, rfl, hH, h1, h2, hz, q⟩ := h
  cases rx
  obtain ⟨t, rfl⟩ := ry
  obtain ⟨z, its, n, r, hl, e⟩ := I.lstM hH
  have hlen : its.toArray.size * k.toNat ≤ sizeLine := by rw [List.size_toArray, ← hl]; exact hz
  have hcap : ¬ its.toArray.size * k.toNat > (2 ^ 63 - 1) / 8 := by
    have : (sizeLine : Nat) ≤ (2 ^ 63 - 1) / 8 := by decide
    omega
  have hfit : ¬ (!Builtin.List.listFitsIndex k) = true := by
    rw [fitsIndex_both h1 h2]
    exact Bool.false_ne_true
  have hlong : ¬ Builtin.List.listTooLong (its.toArray.size * k.toNat) = true := by
    rw [notLongL hlen]
    exact Bool.false_ne_true
  have hnew : List.foldl (fun x1 x2 => x1 ++ x2) #[] (List.replicate (if its.toArray.isEmpty = true then 0 else k.toNat) its.toArray) = (List.replicate k.toNat its).flatten.toArray := by
    have f0 : ∀ m : Nat, List.foldl (fun x1 x2 => x1 ++ x2) #[] (List.replicate m its.toArray) = (List.replicate m its).flatten.toArray := fun m => by
      have := foldl_rep its m []
      rw [List.nil_append] at this
      exact this
    rw [f0]
    cases its with
    | nil => simp
    | cons a r' => rw [if_neg (by simp)]
  refine wpAny_binaryOp_repeat_ref (T := "list") (U := "int") (by decide) ⟨_, e, rfl⟩ (fun s' => typeIs_int s' k t) noFill_list_mul F.fills_int_mul F.slot_int_rmul repeat_list F.slot_int_index.lookup
    (call_meets F.slot_int_rmul (typeIs_int s k t) F.entry_int_rmul (F.args_int_rmul_2 _ _) (int___rmul___int_list k t l its.toArray n)
      ⟨e, rfl, ⟨_, e, rfl⟩, call_meets F.slot_list_mul ⟨_, e, rfl⟩ F.entry_list_mul (F.args_list_mul_2 _ _) (AutoListH.list___mul___list_int_3 l its.toArray n k t hfit hcap hlong) ⟨e, ?_⟩⟩)
  rw [hnew]
  exact ⟨.ref _, _, I.lnew (t' := s.toks) (r.rep k.toNat) (by rw [len_rep, Nat.mul_comm]; exact hz), rfl, q _ I.fresh⟩

/-! ### del xs[i] -/
end

/-! ### xs[a:b] = ys -/

end L2

namespace L2
open PySem PySem.Spec PyProof.Rows

theorem Vals.ints : ∀ {ns : List Int} {us : List Value}, Vals (ns.map V.int) us → IntsAre us ns
  | [], us, h => by
    rw [List.map_nil] at h
    cases h
    exact IntsAre.nil
  | n :: ns, us, h => by
    rw [List.map_cons] at h
    cases h with
    | cons r t =>
      obtain ⟨k, rfl⟩ := r
      exact IntsAre.cons n k (Vals.ints t)
theorem vals_of_ints : ∀ {us : List Value} {ns : List Int}, IntsAre us ns → Vals (ns.map V.int) us
  | _, _, .nil => by rw [List.map_nil]; exact Paired.nil
  | _, _, .cons n t h => by rw [List.map_cons]; exact Paired.cons (show RelV (V.int n) (Value.int n t) from ⟨t, rfl⟩) (vals_of_ints h)
theorem Vals.ref1 {a : Addr} {us : List Value} (r : Vals [V.ref a] us) : us = [Value.ref a] := by
  cases r with
  | cons r t =>
    cases t
    cases r
    rfl

/-! ### the library's walks over a list of ints, kept objects alone -/
section
variable {prog : Program} {w : World} {A : Around} {E : Value → Shared → Prop} {s : Shared} {l : Addr} {its : List Value} {ns : List Int} {Q : Value → Shared → Prop}
theorem sum_raw (hh : A.handled = none) (hl : s.heap.IsList l its.toArray) (hi : IntsAre its ns)
    (h : ∀ h' tk t', (∀ b o, s.heap.get? b = some o → h'.get? b = some o) → Q (.int ns.sum t') { s with heap := h', toks := tk }) : wpAny (model prog w) A (call (.builtin "sum") [.ref l]) Q E s := by
  obtain ⟨xs, e⟩ := hi.allInts.items
  have hn : numsOf (intItems xs).toList = ns := by rw [← e]; exact hi.numsOf
  rw [nums_intItems] at hn
  rw [e] at hl
  refine PySem.sum_intListG hh hl fun h' tk t' hk => ?_
  have := h h' tk t' hk
  rw [preSum_eq, List.take_of_length_le (by simp), hn]; exact this
theorem max_raw (hh : A.handled = none) (hl : s.heap.IsList l its.toArray) (hi : IntsAre its ns) (hne : 0 < ns.length)
    (h : ∀ h' tk M t', (∀ b o, s.heap.get? b = some o → h'.get? b = some o) → M ∈ ns → (∀ a, a ∈ ns → a ≤ M) → Q (.int M t') { s with heap := h', toks := tk }) : wpAny (model prog w) A (call (.builtin "max") [.ref l]) Q E s := by
  obtain ⟨xs, e⟩ := hi.allInts.items
  have hn : numsOf (intItems xs).toList = ns := by rw [← e]; exact hi.numsOf
  rw [nums_intItems] at hn
  subst hn
  rw [e] at hl
  have hsz : 0 < xs.size := by simpa using hne
  refine PySem.max_intList hh hl hsz fun v h' tk hv hk => ?_
  obtain ⟨t, rfl⟩ := intItems_at hv
  obtain ⟨h1, h2⟩ := argBest_gt (numAt xs) (xs.size - 1)
  refine h h' tk _ t hk ?_ fun a ha => ?_
  · rw [numAt_eq]; exact PySem.getD_mem (by rw [List.length_map, Array.length_toList]; omega)
  · obtain ⟨j, hj, rfl⟩ := mem_getD ha
    rw [List.length_map, Array.length_toList] at hj
    rw [← numAt_eq]; exact h2 j (by omega)
end

/-! ### the calls, by values (CallR of 03t; MtR of 06l) -/
section
variable {X : Cx}
/-- sum(xs) of a list of ints -/
def rSum (K : PySem.W.Frag) : List V → Hp → VK → Prop := fun vs H Q => ∃ (a : Addr) (ns : List Int), vs = [V.ref a] ∧ SqL K H a (ns.map V.int) ∧ Q (.int ns.sum) H
/-- max(xs), min(xs) of a list of ints -/
def rMax (K : PySem.W.Frag) : List V → Hp → VK → Prop := fun vs H Q => ∃ (a : Addr) (ns : List Int), vs = [V.ref a] ∧ SqL K H a (ns.map V.int) ∧ 0 < ns.length ∧ ∀ m, m ∈ ns → (∀ y, y ∈ ns → y ≤ m) → Q (.int m) H
theorem cr_sum (hc : X.calm = true) : CallR X (.builtin "sum") (rSum X.K) := by
  intro pins s σ H vs us Q I r h
  obtain ⟨a, ns, rfl, hs, q⟩ := h
  obtain ⟨its, rv, hl, _⟩ := I.list hs
  rw [Vals.ref1 r]
  exact sum_raw (I.ok.hd hc) hl.isList rv.ints fun h' tk t' hk => ⟨.int _, H, I.kept hk, ⟨_, rfl⟩, q⟩
theorem cr_max (hc : X.calm = true) : CallR X (.builtin "max") (rMax X.K) := by
  intro pins s σ H vs us Q I r h
  obtain ⟨a, ns, rfl, hs, hne, q⟩ := h
  obtain ⟨its, rv, hl, _⟩ := I.list hs
  rw [Vals.ref1 r]
  exact max_raw (I.ok.hd hc) hl.isList rv.ints hne fun h' tk m t' hk h1 h2 => ⟨.int _, H, I.kept hk, ⟨_, rfl⟩, q m h1 h2⟩

/-! sorted, sort (fewer than 64 items: the library's own bound) -/
def rSorted (K : PySem.W.Frag) : List V → Hp → VK → Prop := fun vs H Q => ∃ (a : Addr) (ns : List Int), vs = [V.ref a] ∧ SqL K H a (ns.map V.int) ∧ ns.length < 64 ∧
  ∀ (ns' : List Int) (p : Addr), ns'.Perm ns → ns'.Pairwise (· ≤ ·) → H p = none → Q (.ref p) (upd H p (.lst (ns'.map V.int)))
theorem small64 {n : Nat} (h : n < 64) : n ≤ sizeLine := by rw [sizeLine_eq]; omega
theorem cr_sorted : CallR X (.builtin "sorted") (rSorted X.K) := by
  intro pins s σ H vs us Q I r h
  obtain ⟨a, ns, rfl, hs, h64, q⟩ := h
  obtain ⟨its, rv, hl, _⟩ := I.list hs
  rw [Vals.ref1 r]
  have hi := rv.ints
  refine PyProof.Rows.sorted_ints hl.isList hi (by rw [hi.length]; exact h64) fun out ns' h1 h2 h3 => ?_
  obtain ⟨ep, he'⟩ := PyProof.Rows.sortedAll_at s.heap its out
  have hlen : (ns'.map V.int).length ≤ sizeLine := by rw [List.length_map, h2.length_eq]; exact small64 h64
  exact ⟨.ref _, upd H (s.heap.objs.size + 1) (.lst (ns'.map V.int)), I.laid (t' := s.toks) (fun _ _ => PyProof.Rows.sortedAll_old) (Nat.le_succ _) ⟨hlen, out.toList, ep, vals_of_ints h1, he'⟩, rfl, q ns' _ h2 h3 (I.hok.fresh (Nat.le_succ _))⟩
end

/-! ### list.index, flat items -/
section
variable {X : Cx}
def rIndex (K : PySem.W.Frag) : V → List V → Hp → VK → Prop := fun x xs H Q => ∃ (a : Addr) (ys : List V) (y : V) (j : Nat) (z : V), x = V.ref a ∧ xs = [y] ∧ SqL K H a ys ∧ flatV y = true ∧ ys.all flatV = true ∧ ys[j]? = some z ∧ eqV z y = true ∧
  (∀ (m : Nat) (z' : V), m < j → ys[m]? = some z' → eqV z' y = false) ∧ Q (.int (j : Nat)) H
theorem flat_at {ys : List V} (f : ys.all flatV = true) {j : Nat} {z : V} (h : ys[j]? = some z) : flatV z = true := List.all_eq_true.mp f z (List.mem_of_getElem? h)
theorem mt_index : MtR X "list.index" (rIndex X.K) := by
  intro pins s σ H x xs v us Q I rx rxs h
  obtain ⟨a, ys, y, j, z, rfl, rfl, hs, fy, fys, hz, hzj, hno, q⟩ := h
  cases rx
  cases rxs with
  | cons ry rt =>
    rename_i uy ut
    cases rt
    obtain ⟨its, rv, ⟨⟨cls, dd, data, sl⟩, n, ho, hc, hdn, hd⟩, hlen⟩ := I.list hs
    simp only at hc hd
    subst hc hd
    obtain ⟨u, hu, ru⟩ := rv.get hz
    obtain ⟨hjl, hje⟩ := List.getElem?_eq_some_iff.mp hu
    have hvl := rv.length
    have hj : j < its.toArray.size := by simpa using hjl
    have hsl := sizeLine_eq
    refine call_meets PySem.F.slot_list_index ⟨_, ho, rfl⟩ PySem.F.entry_list_index (PySem.F.args_list_index_2 _ _)
      (SeqAt.list_indexAt a its.toArray n dd sl uy (eqU y) j hj (by omega) ?_ ?_) ⟨ho, fun u' hu' => mem_eqAt ry fy rv fys u' (by simpa using hu'), ?_⟩
    · have e1 : its.toArray[j] = u := by simpa using hje
      rw [e1, eqU_of ru (flat_at fys hz)]
      exact hzj
    · intro m hm hmj
      have hml : m < its.length := by simpa using hm
      have hmy : m < ys.length := by omega
      have hy' : ys[m]? = some ys[m] := List.getElem?_eq_getElem hmy
      obtain ⟨u2, hu2, ru2⟩ := rv.get hy'
      obtain ⟨_, hme⟩ := List.getElem?_eq_some_iff.mp hu2
      have e1 : its.toArray[m] = u2 := by simpa using hme
      rw [e1, eqU_of ru2 (flat_at fys hy')]
      exact hno m _ hmj hy'
    · exact ⟨.int (j : Nat), H, I.tok _, ⟨_, rfl⟩, q⟩
end

/-! ### type(x) of an own instance; is, is not of a module's class -/

/-! ### any(xs), all(xs) of a list of bools -/

/-! ### == and != of data at any depth: none, bools, ints, texts, lists, tuples -/
end L2

namespace L2
open PySem PySem.Spec PyProof.Rows
abbrev CellAt (h : Heap) (c : Addr) (v : Option Value) : Prop := h.IsCell c v
def relS (scope sc : Scope) : Scope :=
  { scope with names := scope.names.map fun (n, k) => if (k == .free && sc.kind == .function && sc.names.lookup n == some .cell) then (n, .cell) else (n, k) }

def cloFrom (cells : List (Str × Addr)) : List (Str × NameKind) → List (Str × Addr) → List (Str × Addr)
  | [], acc => acc
  | (n, k) :: r, acc => if k == .free then cloFrom cells r ((n, (cells.lookup n).getD 0) :: acc) else cloFrom cells r acc

theorem closure_loop (env : Env) (f : Str × NameKind → List (Str × Addr) → Sem (ForInStep (List (Str × Addr))))
    (hf : ∀ n k c, f (n, k) c = if k == .free then (do let a ← cellOf env n; pure (.yield ((n, a) :: c))) else pure (.yield c)) :
    ∀ (names : List (Str × NameKind)) (acc : List (Str × Addr)), (∀ y ∈ names, y.2 = .free → ∃ c, env.cells.lookup y.1 = some c) → forIn names acc f = pure (cloFrom env.cells names acc)
  | [], acc, _ => by rw [List.forIn_nil]; rfl
  | (n, k) :: r, acc, h => by
    rw [List.forIn_cons, hf]
    have ih := fun acc => closure_loop env f hf r acc fun y hy => h y (List.mem_cons_of_mem _ hy)
    unfold cloFrom
    by_cases hk : (k == NameKind.free) = true
    · rw [if_pos hk, if_pos hk]
      obtain ⟨c, hc⟩ := h (n, k) List.mem_cons_self (by simpa using hk)
      have e : cellOf env n = pure c := by unfold cellOf; rw [hc]
      rw [e]
      have e2 : (env.cells.lookup n).getD 0 = c := by rw [hc]; rfl
      rw [e2]
      exact ih _
    · rw [if_neg hk, if_neg hk]
      exact ih _
theorem closure_ok {scope : Scope} {env : Env} (h : ∀ y ∈ scope.names, y.2 = .free → ∃ c, env.cells.lookup y.1 = some c) : closureFor scope env = pure (cloFrom env.cells scope.names []) := by
  simp only [closureFor]
  rw [closure_loop env _ (fun n k c => rfl) scope.names [] h]
  rfl

theorem mem_lookup {α : Type} : ∀ {l : List (Str × α)} {n : Str} {c : α}, (n, c) ∈ l → ∃ c', l.lookup n = some c'
  | (k, v) :: r, n, c, h => by
    rw [List.lookup_cons]
    cases hb : n == k with
    | true => exact ⟨_, rfl⟩
    | false =>
      rcases List.mem_cons.mp h with e | h
      · cases e; simp at hb
      · exact mem_lookup h

theorem cloFrom_mem {cells : List (Str × Addr)} : ∀ {names : List (Str × NameKind)} {acc : List (Str × Addr)} {n : Str} {c : Addr}, (n, c) ∈ cloFrom cells names acc → (n, c) ∈ acc ∨ ((n, .free) ∈ names ∧ c = (cells.lookup n).getD 0)
  | [], _, _, _, h => .inl h
  | (m, k) :: r, acc, n, c, h => by
    unfold cloFrom at h
    split at h
    · rename_i hk
      have hk : k = .free := by simpa using hk
      rcases cloFrom_mem h with h | ⟨h1, h2⟩
      · rcases List.mem_cons.mp h with e | h
        · cases e; exact .inr ⟨hk ▸ List.mem_cons_self, rfl⟩
        · exact .inl h
      · exact .inr ⟨List.mem_cons_of_mem _ h1, h2⟩
    · rcases cloFrom_mem h with h | ⟨h1, h2⟩
      · exact .inl h
      · exact .inr ⟨List.mem_cons_of_mem _ h1, h2⟩
theorem cloFrom_acc {cells : List (Str × Addr)} : ∀ {names : List (Str × NameKind)} {acc : List (Str × Addr)} {p : Str × Addr}, p ∈ acc → p ∈ cloFrom cells names acc
  | [], _, _, h => h
  | (m, k) :: r, acc, p, h => by
    unfold cloFrom
    split
    · exact cloFrom_acc (List.mem_cons_of_mem _ h)
    · exact cloFrom_acc h
theorem cloFrom_has {cells : List (Str × Addr)} : ∀ {names : List (Str × NameKind)} {acc : List (Str × Addr)} {n : Str}, (n, .free) ∈ names → (n, (cells.lookup n).getD 0) ∈ cloFrom cells names acc
  | (m, k) :: r, acc, n, h => by
    unfold cloFrom
    rcases List.mem_cons.mp h with e | h
    · cases e
      exact cloFrom_acc List.mem_cons_self
    · split
      · exact cloFrom_has h
      · exact cloFrom_has h

theorem cells_mem : ∀ {names : List (Str × NameKind)} {h : Heap} {acc : List (Str × Addr)} {x : Str} {c : Addr}, (x, c) ∈ cellsFrom h.objs.size names acc →
    (x, c) ∈ acc ∨ ((x, .cell) ∈ names ∧ h.objs.size ≤ c ∧ CellAt (pushCells h names) c none)
  | [], _, _, _, _, h => .inl h
  | (n, k) :: r, h, acc, x, c, hm => by
    unfold cellsFrom at hm
    unfold pushCells
    split at hm
    · rename_i hk
      rw [if_pos hk]
      have hk : k = .cell := by simpa using hk
      rw [← Heap.size_push h { cls := .type "cell", data := .cell none }] at hm
      rcases cells_mem hm with hm | ⟨h1, h2, h3⟩
      · rcases List.mem_cons.mp hm with e | hm
        · cases e
          exact .inr ⟨hk ▸ List.mem_cons_self, Nat.le_refl _, _, pushCells_keeps r _ _ _ (Heap.get?_push_size _ rfl), rfl⟩
        · exact .inl hm
      · rw [Heap.size_push] at h2
        exact .inr ⟨List.mem_cons_of_mem _ h1, Nat.le_of_succ_le h2, h3⟩
    · rename_i hk
      rw [if_neg hk]
      rcases cells_mem hm with hm | ⟨h1, h2, h3⟩
      · exact .inl hm
      · exact .inr ⟨List.mem_cons_of_mem _ h1, h2, h3⟩
theorem cells_acc : ∀ {names : List (Str × NameKind)} {n : Nat} {acc : List (Str × Addr)} {p : Str × Addr}, p ∈ acc → p ∈ cellsFrom n names acc
  | [], _, _, _, h => h
  | (m, k) :: r, n, acc, p, h => by
    unfold cellsFrom
    split
    · exact cells_acc (List.mem_cons_of_mem _ h)
    · exact cells_acc h
theorem cells_has : ∀ {names : List (Str × NameKind)} {n : Nat} {acc : List (Str × Addr)} {x : Str}, (x, .cell) ∈ names → ∃ c, (x, c) ∈ cellsFrom n names acc
  | (m, k) :: r, n, acc, x, h => by
    unfold cellsFrom
    rcases List.mem_cons.mp h with e | h
    · cases e
      exact ⟨n, cells_acc List.mem_cons_self⟩
    · split
      · exact cells_has h
      · exact cells_has h
theorem cells_inj : ∀ {names : List (Str × NameKind)} {h : Heap} {acc : List (Str × Addr)} {x y : Str} {c : Addr}, (∀ p ∈ acc, p.2 < h.objs.size) → (∀ x y c, (x, c) ∈ acc → (y, c) ∈ acc → x = y) →
    (x, c) ∈ cellsFrom h.objs.size names acc → (y, c) ∈ cellsFrom h.objs.size names acc → x = y
  | [], _, _, _, _, _, _, hi, h1, h2 => hi _ _ _ h1 h2
  | (n, k) :: r, h, acc, x, y, c, hl, hi, h1, h2 => by
    unfold cellsFrom at h1 h2
    split at h1
    · rename_i hk
      rw [if_pos hk] at h2
      rw [← Heap.size_push h { cls := .type "cell", data := .cell none }] at h1 h2
      refine cells_inj (h := h.push _) (fun p hp => ?_) (fun x y c a b => ?_) h1 h2
      · rw [Heap.size_push]
        rcases List.mem_cons.mp hp with rfl | hp
        · exact Nat.lt_succ_self _
        · exact Nat.lt_succ_of_lt (hl p hp)
      · rcases List.mem_cons.mp a with e | a <;> rcases List.mem_cons.mp b with e' | b
        · cases e; cases e'; rfl
        · cases e; exact absurd (hl _ b) (Nat.lt_irrefl _)
        · cases e'; exact absurd (hl _ a) (Nat.lt_irrefl _)
        · exact hi _ _ _ a b
    · rename_i hk
      rw [if_neg hk] at h2
      exact cells_inj hl hi h1 h2

theorem newEnv_comp {M : Model} {A : Around} {E : Value → Shared → Prop} {s : Shared} {scope : Scope} {globals : Addr} {closure : List (Str × Addr)} {qual : Str} {func : Option Addr} {code : Value} {around : Env} {builtins : Addr} {Q : Env → Shared → Prop}
    (h : Q (newEnv scope s.heap.objs.size globals (cellsFrom (s.heap.objs.size + 1) scope.names closure) qual func code (some around) builtins)
      { s with heap := pushCells (s.heap.push { cls := .type "dict", data := .dict #[] }) scope.names }) :
    wpAny M A (newFunctionEnv scope globals closure [] qual func code (some around) builtins) Q E s := by
  simp only [newFunctionEnv, Option.isSome_some, if_true]
  refine wpAny_bind (wpAny_alloc ?_)
  refine wpAny_bind (wpAny_layCells _ (fun n k c => rfl) scope.names closure _ _ ?_)
  rw [show ({ s with heap := s.heap.push { cls := .type "dict", data := .dict #[] } } : Shared).heap.objs.size = s.heap.objs.size + 1 from Heap.size_push ..]
  rw [List.forIn_nil]
  exact wpAny_bind (wpAny_pure (wpAny_pure h))

/-- every name of the written scope, in the scope that runs -/
theorem lookup_relS {sc : Scope} : ∀ {names : List (Str × NameKind)} {x : Str} {k : NameKind},
    (names.map fun (n, k) => if (k == NameKind.free && sc.kind == .function && sc.names.lookup n == some .cell) then (n, NameKind.cell) else (n, k)).lookup x = some k →
    ∃ k', names.lookup x = some k' ∧ (k = k' ∨ (k' = .free ∧ k = .cell))
  | [], _, _, h => by simp at h
  | (n, k₀) :: r, x, k, h => by
    have ih := @lookup_relS sc r x k
    have h' : List.lookup x ((if (k₀ == NameKind.free && sc.kind == .function && sc.names.lookup n == some .cell) = true then (n, NameKind.cell) else (n, k₀)) :: (r.map _)) = some k := h
    cases hx : x == n with
    | true =>
      simp only [List.lookup_cons, hx]
      by_cases hc : (k₀ == NameKind.free && sc.kind == .function && sc.names.lookup n == some .cell) = true
      · rw [if_pos hc] at h'
        simp only [List.lookup_cons, hx] at h'
        cases h'
        simp only [Bool.and_eq_true, beq_iff_eq] at hc
        exact ⟨k₀, rfl, .inr ⟨hc.1.1, rfl⟩⟩
      · rw [if_neg hc] at h'
        simp only [List.lookup_cons, hx] at h'
        cases h'
        exact ⟨_, rfl, .inl rfl⟩
    | false =>
      simp only [List.lookup_cons, hx]
      by_cases hc : (k₀ == NameKind.free && sc.kind == .function && sc.names.lookup n == some .cell) = true
      · rw [if_pos hc] at h'
        simp only [List.lookup_cons, hx] at h'
        exact ih h'
      · rw [if_neg hc] at h'
        simp only [List.lookup_cons, hx] at h'
        exact ih h'



/-- the names of a comprehension's block: its own (with their places in N), or captured -/
structure BlkOk (N : List Str) (sc scope : Scope) (own : List (Str × Nat)) : Prop where
  kind : scope.kind = .function
  uniq : ∀ y ∈ scope.names, scope.names.lookup y.1 = some y.2
  ix : ∀ p ∈ own, N[p.2]? = some p.1
  free : ∀ y ∈ scope.names, y.2 = .free → sc.names.lookup y.1 = some .cell ∨ sc.names.lookup y.1 = some .free
  own : ∀ y ∈ scope.names, y.2 = .local ∨ y.2 = .cell → y.1 ∈ own.map (·.1) ∨ y.1 ∉ N
/-- the slots of the block's own names forgotten -/
def wipe (σ : St) : List Nat → St
  | [] => σ
  | v :: vs => (wipe σ vs).set v none
theorem wipe_length (σ : St) : ∀ vs : List Nat, (wipe σ vs).length = σ.length
  | [] => rfl
  | v :: vs => by unfold wipe; rw [List.length_set, wipe_length σ vs]
theorem wipe_some {σ : St} {i : Nat} {x : V} : ∀ {vs : List Nat}, (wipe σ vs)[i]? = some (some x) → σ[i]? = some (some x) ∧ i ∉ vs
  | [], h => ⟨h, by simp⟩
  | v :: vs, h => by
    unfold wipe at h
    by_cases hi : v = i
    · subst hi
      by_cases hv : v < (wipe σ vs).length
      · rw [List.getElem?_set_self hv] at h; cases h
      · rw [List.getElem?_eq_none (by simpa using hv)] at h; cases h
    · rw [List.getElem?_set_ne hi] at h
      obtain ⟨h1, h2⟩ := wipe_some h
      exact ⟨h1, by simp only [List.mem_cons, not_or]; exact ⟨fun e => hi e.symm, h2⟩⟩

/-- the context of a block that starts at s, its iterator's objects at fp -/
abbrev Cx.blk (X : Cx) (s : Shared) (H : Hp) (scope : Scope) (cenv : Env) (fp : List Addr) : Cx := { X with s_0 := s, H_0 := H, env := cenv, outer := X.stack, ex := fp, fn := fun x => scope.names.lookup x == some .cell, pn := [], xe := fun _ _ => False }
section
variable {X : Cx} {pins : List (Addr × Obj)} {σ : St} {H : Hp} {s : Shared}
theorem block_start {scope : Scope} {own : List (Str × Nat)} {fp : List Addr} (I : Inv X pins σ H s) (ok : BlkOk X.N X.env.scope scope own) (hN : X.N.Nodup) (hfp : ∀ b ∈ fp, FpOk X pins H b ∧ b < s.heap.objs.size) :
    Inv (X.blk s H scope (compEnvC scope (cellsFrom (s.heap.objs.size + 1) scope.names (cloFrom X.env.cells scope.names [])) s.heap.objs.size X.env) fp) [] (wipe σ (own.map (·.2))) H { s with heap := pushCells (s.heap.push { cls := .type "dict", data := .dict #[] }) scope.names } := by
  have hfree : ∀ y ∈ scope.names, y.2 = .free → ∃ c, X.env.cells.lookup y.1 = some c := fun y hy e => by
    rcases ok.free y hy e with k | k
    · exact I.ok.has _ (.inl k)
    · exact I.ok.has _ (.inr k)
  generalize hcenv : compEnvC scope (cellsFrom (s.heap.objs.size + 1) scope.names (cloFrom X.env.cells scope.names [])) s.heap.objs.size X.env = cenv
  have kp : ∀ b o, s.heap.get? b = some o → (pushCells (s.heap.push { cls := .type "dict", data := .dict #[] }) scope.names).get? b = some o := fun b o e => pushCells_keeps _ _ _ _ (Heap.get?_push_of_some _ e)
  have hL : cenv.locals = s.heap.objs.size := by rw [← hcenv]; rfl
  have hcl : cenv.cells = cellsFrom (s.heap.objs.size + 1) scope.names (cloFrom X.env.cells scope.names []) := by rw [← hcenv]; rfl
  have hsc : cenv.scope = relS scope X.env.scope := by rw [← hcenv]; rfl
  rw [← Heap.size_push s.heap { cls := .type "dict", data := .dict #[] }] at hcl
  have cm : ∀ {y c}, (y, c) ∈ cloFrom X.env.cells scope.names [] → X.env.cells.lookup y = some c ∧ c < s.heap.objs.size := fun {y c} hm => by
    rcases cloFrom_mem hm with hm | ⟨h1, rfl⟩
    · cases hm
    · obtain ⟨c, hc⟩ := hfree _ h1 rfl
      rw [hc]
      obtain ⟨w, z⟩ := I.cell _ _ hc
      exact ⟨rfl, z.lt⟩
  have mem : ∀ {y c}, cenv.cells.lookup y = some c → (X.env.cells.lookup y = some c ∧ c < s.heap.objs.size) ∨ (s.heap.objs.size + 1 ≤ c ∧ CellAt (pushCells (s.heap.push { cls := .type "dict", data := .dict #[] }) scope.names) c none) := fun {y c} e => by
    rw [hcl] at e
    rcases cells_mem (PySem.mem_of_lookup e) with hm | ⟨_, h2, h3⟩
    · exact .inl (cm hm)
    · rw [Heap.size_push] at h2; exact .inr ⟨h2, h3⟩
  have look : ∀ {y}, scope.names.lookup y = some .free → ∃ c, cenv.cells.lookup y = some c ∧ X.env.cells.lookup y = some c := fun {y} hl => by
    have hy : (y, NameKind.free) ∈ scope.names := PySem.mem_of_lookup hl
    obtain ⟨c', e'⟩ := mem_lookup (cells_acc (names := scope.names) (n := (s.heap.push { cls := .type "dict", data := .dict #[] }).objs.size) (cloFrom_has (cells := X.env.cells) (acc := []) hy))
    rw [← hcl] at e'
    refine ⟨c', e', ?_⟩
    rw [hcl] at e'
    rcases cells_mem (PySem.mem_of_lookup e') with hm | ⟨h1, _, _⟩
    · exact (cm hm).1
    · have := ok.uniq _ h1
      rw [hl] at this; cases this
  have okB : (X.blk s H scope cenv fp).Ok := by
    refine ⟨I.ok.mod, by show cenv.scope.kind = _; rw [hsc]; exact ok.kind, by show cenv.globals = _; rw [← hcenv]; exact I.ok.glob, by show cenv.builtins = _; rw [← hcenv]; exact I.ok.blt, by show s.heap.objs.size ≤ cenv.locals; rw [hL]; exact Nat.le_refl _,
      fun y z c e1 e2 => ?_, fun y hy => ?_, fun y c z e => ?_, I.ok.hd, I.ok.frames, .inl rfl, fun b hb => ⟨?_, fun y c e z => ?_⟩, I.bs, Nat.le_trans I.ok.bsz I.sz, fun b o e hb => ?_, fun b hb z => ?_, I.stack, I.stkFree⟩
    · have e1 : cenv.cells.lookup y = some c := e1
      have e2 : cenv.cells.lookup z = some c := e2
      rw [hcl] at e1 e2
      refine cells_inj (fun p hp => ?_) (fun y z c a b => I.ok.inj y z c (cm a).1 (cm b).1) (PySem.mem_of_lookup e1) (PySem.mem_of_lookup e2)
      rw [Heap.size_push]
      exact Nat.lt_succ_of_lt (cm (y := p.1) (c := p.2) hp).2
    · show ∃ c, cenv.cells.lookup y = some c
      have key : ∀ k, cenv.kindOf y = some k → (k = .cell ∨ k = .free) → ∃ c, cenv.cells.lookup y = some c := fun k hk hk' => by
        unfold Env.kindOf at hk
        rw [hsc] at hk
        obtain ⟨k', e, r⟩ := lookup_relS hk
        have : k' = .cell ∨ k' = .free := by
          rcases r with rfl | ⟨rfl, _⟩
          · exact hk'
          · exact .inr rfl
        rcases this with rfl | rfl
        · obtain ⟨c, hm⟩ := cells_has (n := (s.heap.push { cls := .type "dict", data := .dict #[] }).objs.size) (acc := cloFrom X.env.cells scope.names []) (PySem.mem_of_lookup e)
          obtain ⟨c', e'⟩ := mem_lookup hm
          exact ⟨c', by rw [hcl]; exact e'⟩
        · obtain ⟨c, h1, _⟩ := look e
          exact ⟨c, h1⟩
      rcases hy with hy | hy
      · exact key _ hy (.inl rfl)
      · exact key _ hy (.inr rfl)
    · have z : (scope.names.lookup y == some NameKind.cell) = true := z
      have z : scope.names.lookup y = some .cell := by simpa using z
      have e : cenv.cells.lookup y = some c := e
      rw [hcl] at e
      rcases cells_mem (PySem.mem_of_lookup e) with hm | ⟨_, h2, _⟩
      · rcases cloFrom_mem hm with hm | ⟨h1, _⟩
        · cases hm
        · have q := ok.uniq _ h1
          rw [z] at q; cases q
      · rw [Heap.size_push] at h2
        exact Nat.le_of_succ_le h2
    · show b ≠ cenv.locals
      rw [hL]; exact Nat.ne_of_lt (hfp b hb).2
    · have e : cenv.cells.lookup y = some c := e
      rcases mem e with ⟨h1, _⟩ | ⟨h1, _⟩
      · exact (hfp b hb).1.2.2.2.2.1 y c h1 z
      · have h2 : s.heap.objs.size + 1 ≤ b := by rw [← z]; exact h1
        exact absurd (Nat.lt_of_lt_of_le (hfp b hb).2 (Nat.le_of_succ_le h2)) (Nat.lt_irrefl _)
    · rcases (hfp b hb).1.2.2.2.1 with z | z
      · exact I.ok.noex b o e z
      · exact absurd (Nat.lt_of_lt_of_le (Heap.lt_size e) (Nat.le_trans I.ok.bsz z)) (Nat.lt_irrefl _)
    · rcases List.mem_cons.mp (I.stkSub b z) with z | z
      · exact (hfp b hb).1.2.1 z
      · exact (hfp b hb).1.2.2.1 z
  refine ⟨okB, rfl, I.bare, Un.kept kp, ⟨fun _ => none, ?_, fun i y av e1 e2 e3 => ?_⟩, fun y c e => ?_, ?_, fun y c e => ?_, fun p hp => ?_, I.hok.kept kp, by rw [wipe_length]; exact I.len⟩
  · show Heap.Ns _ cenv.locals _
    rw [hL]
    exact Heap.Ns.keeps (Heap.Ns.new ..) fun b o e => pushCells_keeps _ _ _ _ e
  · obtain ⟨e2, hne⟩ := wipe_some e2
    have hfr : scope.names.lookup y = some .free ∧ (cenv.kindOf y = some .cell ∨ cenv.kindOf y = some .free) := by
      have key : ∀ k, cenv.scope.names.lookup y = some k → k = .local ∨ k = .cell ∨ k = .free → scope.names.lookup y = some .free ∧ (cenv.kindOf y = some .cell ∨ cenv.kindOf y = some .free) := fun k hk hk' => by
        have hk0 := hk
        rw [hsc] at hk
        obtain ⟨k', e, r⟩ := lookup_relS hk
        have no : ¬ (k' = .local ∨ k' = .cell) := fun hh => by
          rcases ok.own _ (PySem.mem_of_lookup e) hh with e' | e'
          · obtain ⟨p, hp, hpy⟩ := List.mem_map.mp e'
            have e3 := ok.ix p hp
            have : p.1 = y := hpy
            rw [this] at e3
            exact hne (List.mem_map.mpr ⟨p, hp, nodup_ix hN e3 e1⟩)
          · exact e' (List.mem_of_getElem? e1)
        rcases r with rfl | ⟨rfl, rfl⟩
        · rcases hk' with rfl | rfl | rfl
          · exact absurd (.inl rfl) no
          · exact absurd (.inr rfl) no
          · exact ⟨e, .inr hk0⟩
        · exact ⟨e, .inl hk0⟩
      have e3 : Vis cenv.scope y := e3
      rcases e3 with e3 | e3 | e3
      · exact key _ e3 (.inl rfl)
      · exact key _ e3 (.inr (.inl rfl))
      · exact key _ e3 (.inr (.inr rfl))
    obtain ⟨m, hn, hl⟩ := I.loc
    have hvis : Vis X.env.scope y := (ok.free _ (PySem.mem_of_lookup hfr.1) rfl).elim (fun k => .inr (.inl k)) (fun k => .inr (.inr k))
    obtain ⟨w, r, q⟩ := hl i y av e1 e2 hvis
    refine ⟨w, r, .inr ⟨hfr.2, ?_⟩⟩
    obtain ⟨c, h1, h2⟩ := look hfr.1
    rcases q with ⟨k, _⟩ | ⟨_, c', e', z⟩
    · have k : X.env.scope.names.lookup y = some .local := k
      rcases ok.free _ (PySem.mem_of_lookup hfr.1) rfl with k' | k' <;> rw [show X.env.scope.names.lookup y = _ from k'] at k <;> cases k
    · rw [h2] at e'; cases e'
      exact ⟨c, h1, z.keeps kp⟩
  · have e : cenv.cells.lookup y = some c := e
    rcases mem e with ⟨h1, _⟩ | ⟨_, z⟩
    · obtain ⟨w, z⟩ := I.cell y c h1
      exact ⟨w, z.keeps kp⟩
    · exact ⟨_, z⟩
  · show H cenv.locals = none
    rw [hL]; exact I.hok.fresh (Nat.le_refl _)
  · have e : cenv.cells.lookup y = some c := e
    rcases mem e with ⟨h1, _⟩ | ⟨h1, _⟩
    · exact I.freeC y c h1
    · exact I.hok.fresh (Nat.le_of_succ_le h1)
  · exact absurd (show p ∈ ([] : List (Addr × Obj)) ++ [] from hp) (by simp)

/-- an item appended to a tracked list -/
theorem app_ok {E : Value → Shared → Prop} {D : Addr} {xs : List V} {y : V} {v : Value} {Q : Value → Shared → Prop} (I : Inv X pins σ H s) (hD : H D = some (.lst xs)) (hz : xs.length < sizeLine) (r : RelV y v)
    (h : ∀ s', Inv X pins σ (upd H D (.lst (xs ++ [y]))) s' → Q .none s') : wpAny (model X.prog X.w) X.A (call (.builtin "list.append") [.ref D, v]) Q E s := by
  obtain ⟨hz', its, n, ri, e⟩ := I.hok D _ hD
  have hl := ri.length
  refine append_at (hsz := by rw [List.size_toArray]; omega) e fun h' sb ho' => ?_
  refine h { s with heap := h' } (I.write (t' := s.toks) (by rw [hD]; trivial) (.inl rfl) (fun b u hb q => (sb.2 b hb).trans q) ⟨_, ho'⟩ ⟨by rw [List.length_append]; exact hz, its ++ [v], n + 1, ri.append (.cons r .nil), ?_⟩)
  rw [ho']
  simp

/-- a clause's tests -/
def PTs (X : Cx) (ifs : List Expr) (t : TT) : Prop :=
  ∀ (pins : List (Addr × Obj)) (s : Shared) (σ : St) (H : Hp) (Q : Bool → Hp → Prop), Inv X pins σ H s → t σ H Q →
    wpAny (model X.prog X.w) X.A (forIn ifs true fun c r => if r = true then do let ok ← isTrue c X.env (eval c X.env); pure (ForInStep.yield ok) else pure (ForInStep.yield r)) (TP X pins σ Q) X.xe s
theorem pts_one {c : Expr} {t : TT} (h : PT X c t) : PTs X [c] t := fun pins s σ H Q I hw => wpAny_tests_one (h pins s σ H Q I hw)
end

theorem thnF {α : Type} {t : Sem α} {Q Q' : α → Shared → Prop} {M : Model} {A : Around} {E : Value → Shared → Prop} {s : Shared} (h : wpAny M A t Q (fun _ _ => False) s) (hQ : ∀ a s, Q a s → Q' a s) : wpAny M A t Q' E s := wpAny_mono h hQ fun _ _ z => False.elim z

/-- the loop of a list comprehension's block, the target of any form (codeAny_compLoop_tests asks a target that no tuple goes to; statement and proof follow it, PyProof/CompMap.lean:41-61, with the step letOwnedTupleGo kept) -/
theorem compLoop_any {prog : Program} {w : World} {A : Around} {R : Result → Shared → Prop} {s : Shared} {elt target iter : Expr} {ifs : List Expr} {scope : Scope} {pos : Pos} {it acc : Value} {env : Env} (I : Nat → Shared → Prop)
    (turn : ∀ n s, I n s → wpAny (model prog w) A (pyNext it) (fun r s₁ => match r with
      | none => R (.ok .next) s₁
      | some v => wpAny (model prog w) A (letOwnedTupleGo target it v) (fun _ s₁' => wpAny (model prog w) A (assign target env v) (fun _ s₂ =>
          wpAny (model prog w) A (forIn ifs true fun c r => if r = true then do let ok ← isTrue c env (eval c env); pure (ForInStep.yield ok) else pure (ForInStep.yield r)) (fun ok s₃ =>
            if ok = true then wpAny (model prog w) A (eval elt env) (fun x s₄ =>
              wpAny (model prog w) A (call (.builtin "list.append") [acc, x]) (fun _ s₅ => ∃ m, m < n ∧ I m s₅) (notedBy (model prog w) A env fun e s' => R (.error e) s') s₄) (notedBy (model prog w) A env fun e s' => R (.error e) s') s₃
            else ∃ m, m < n ∧ I m s₃) (notedBy (model prog w) A env fun e s' => R (.error e) s') s₂) (notedBy (model prog w) A env fun e s' => R (.error e) s') s₁') (notedBy (model prog w) A env fun e s' => R (.error e) s') s₁) (notedBy (model prog w) A env fun e s' => R (.error e) s') s)
    (n : Nat) (h : I n s) :
    codeAny (model prog w) A (.compLoop (.ListComp elt [⟨target, iter, ifs, 0⟩] scope pos) 0 it acc env) R s := by
  refine codeAny_loop rfl I (fun n s hI => ?_) n h
  show wpAny _ A ((compTurn (.ListComp elt [⟨target, iter, ifs, 0⟩] scope pos) 0 it acc env).onRaise (fun x => do noteFrame x env; theTreesLotGoes x)) _ _ s
  refine wpAny_noted ?_
  rw [compTurn_list]
  refine wpAny_bind (wpAny_standAt (wpAny_bind (wpAny_mono (turn n s hI) (fun r s₁ h₁ => ?_) fun _ _ h' => h')))
  cases r with
  | none => exact wpAny_pure h₁
  | some v =>
    refine wpAny_bind (wpAny_mono h₁ (fun _ s₁' h₁' => ?_) fun _ _ h' => h')
    refine wpAny_bind (wpAny_mono h₁' (fun _ s₂ h₂ => wpAny_bind (wpAny_mono h₂ (fun ok s₃ h₃ => ?_) fun _ _ h' => h')) fun _ _ h' => h')
    cases ok with
    | false => exact wpAny_pure ⟨rfl, h₃⟩
    | true =>
      exact wpAny_bind (wpAny_bind (wpAny_mono h₃ (fun x s₄ h₄ => wpAny_bind (wpAny_mono h₄ (fun _ s₅ h₅ => wpAny_pure (wpAny_pure ⟨rfl, h₅⟩)) fun _ _ h' => h')) fun _ _ h' => h'))

section
variable {X : Cx}
/-- [elt for target in iter if ..]: D the new list; W by the turn and a measure, Nx what a turn is to reach -/
def tLc (wi : TI) (g : TG) (tt : TT) (te : TE) (vs : List Nat) : TE := fun σ H Q => wi σ H fun J H1 => ∀ D, H1 D = none → ∃ W : Nat → Nat → Hp → Prop, (∃ m, W 0 m (upd H1 D (.lst []))) ∧ ∀ i m H, W i m H →
  (J.stop i H ∧ Q (.ref D) H) ∨ (J.go i H ∧ ∃ Nx : Hp → Prop, (∀ H', Nx H' → ∃ m', m' < m ∧ W (i + 1) m' H') ∧ ∀ x H', J.yld i H x H' → g x (wipe σ vs) H' fun σ2 H2 => wipe σ2 vs = wipe σ vs ∧ tt σ2 H2 fun b H3 =>
    if b = true then te σ2 H3 fun y H4 => ∃ acc, H4 D = some (.lst acc) ∧ acc.length < sizeLine ∧ Nx (upd H4 D (.lst (acc ++ [y]))) else Nx H3)
theorem lc_core {pins : List (Addr × Obj)} {s : Shared} {σ : St} {H : Hp} {Q : VK} {elt tg iter : Expr} {ifs : List Expr} {scope : Scope} {own : List (Str × Nat)} {pos pos' : Pos} {wi : TI} {g : TG} {tt : TT} {te : TE} {use : Option (Value → Sem Unit)} {Qf : Value → Shared → Prop}
    (hc : X.calm = true) (hN : X.N.Nodup) (I : Inv X pins σ H s) (hi : PI X tg iter wi) (ok : BlkOk X.N X.env.scope scope own)
    (hg : ∀ (s : Shared) (H : Hp) (C : Addr) (cl : List (Str × Addr)) (fp : List Addr), PG (X.blk s H scope (compEnvC scope cl C X.env) fp) tg g) (ht : ∀ (s : Shared) (H : Hp) (C : Addr) (cl : List (Str × Addr)) (fp : List Addr), PTs (X.blk s H scope (compEnvC scope cl C X.env) fp) ifs tt)
    (he : ∀ (s : Shared) (H : Hp) (C : Addr) (cl : List (Str × Addr)) (fp : List Addr), PE (X.blk s H scope (compEnvC scope cl C X.env) fp) elt te) (hs : ∀ x, foldedSetIterable iter X.env x = pure x)
    (h : tLc wi g tt te (own.map (·.2)) σ H Q)
    (hRR : ∀ D C s' m H', Inv X pins σ H' s' → Q (.ref D) H' → s'.heap.Ns C m → FpOk X pins H' C → compPost (model X.prog X.w) X.A X.xe use Qf (.ref D) C (.ok .next) s') :
    wpAny (model X.prog X.w) X.A (comprehension (.ListComp elt [⟨tg, iter, ifs, 0⟩] scope pos) scope X.env pos' (newList []) false (eval iter X.env) use) Qf X.xe s := by
  have hfree : ∀ y ∈ scope.names, y.2 = .free → ∃ c, X.env.cells.lookup y.1 = some c := fun y hy e => by
    rcases ok.free y hy e with k | k
    · exact I.ok.has _ (.inl k)
    · exact I.ok.has _ (.inr k)
  refine wpAny_comprehension_free (use := use) rfl hs (closure_ok hfree) ok.kind (fun y hy e => by rw [ok.uniq y hy, e])
    (thn (hi pins s σ H _ I h) fun xv s1 hx => thn hx fun itv s2 h2 => ?_)
  obtain ⟨it, fp, tn, J, H2, e, I2, T, st2, f2, q⟩ := h2
  subst e
  refine wpAny_newObj_type (newEnv_comp ?_) (by show 0 ≤ sizeLine; decide)
  generalize hD : s2.heap.objs.size = D
  have hDn : H2 D = none := I2.hok.fresh (Nat.le_of_eq hD)
  obtain ⟨W, ⟨m0, w0⟩, turn⟩ := q D hDn
  -- the new list
  generalize hs3 : ({ s2 with heap := s2.heap.push { cls := .type "list", data := .seq ([] : List Value).toArray } } : Shared) = s3
  have I3 : Inv X pins σ (upd H2 D (.lst [])) s3 := by
    rw [← hs3]
    refine I2.laid (t' := s2.toks) (fun b o e => Heap.get?_push_of_some _ e) (Nat.le_of_eq hD) ⟨Nat.zero_le _, [], 0, .nil, ?_⟩
    rw [← hD]
    exact Heap.get?_push_size _ rfl
  have h3 : s3.heap = s2.heap.push { cls := .type "list", data := .seq ([] : List Value).toArray } := by rw [← hs3]
  have sz : ∀ b ∈ fp, b < s2.heap.objs.size := fun b hb => by
    obtain ⟨o, e, _⟩ := T.obj _ _ st2 b hb
    exact Heap.lt_size e
  have f3 : ∀ b ∈ fp, FpOk X pins (upd H2 D (.lst [])) b ∧ b < s3.heap.objs.size := fun b hb => by
    have hlt := sz b hb
    refine ⟨⟨?_, (f2 b hb).2⟩, by rw [h3, Heap.size_push]; exact Nat.lt_succ_of_lt hlt⟩
    rw [upd_ne (by rw [← hD]; exact Nat.ne_of_lt hlt)]
    exact (f2 b hb).1
  have st3 : tn 0 s3.heap := T.keep _ _ _ st2 fun b _ o e => by rw [h3]; exact Heap.get?_push_of_some _ e
  have I4 := block_start I3 ok hN f3
  have pg := hg s3 (upd H2 D (.lst [])) s3.heap.objs.size (cellsFrom (s3.heap.objs.size + 1) scope.names (cloFrom X.env.cells scope.names [])) fp
  have pt := ht s3 (upd H2 D (.lst [])) s3.heap.objs.size (cellsFrom (s3.heap.objs.size + 1) scope.names (cloFrom X.env.cells scope.names [])) fp
  have pe := he s3 (upd H2 D (.lst [])) s3.heap.objs.size (cellsFrom (s3.heap.objs.size + 1) scope.names (cloFrom X.env.cells scope.names [])) fp
  show codeAny _ _ (.compStart (.ListComp elt [⟨tg, iter, ifs, 0⟩] scope pos) 0 (.ref it) (.ref D) (compEnvC scope (cellsFrom (s3.heap.objs.size + 1) scope.names (cloFrom X.env.cells scope.names [])) s3.heap.objs.size X.env)) (compPost (model X.prog X.w) X.A X.xe use Qf (.ref D) s3.heap.objs.size) { s3 with heap := pushCells (s3.heap.push { cls := .type "dict", data := .dict #[] }) scope.names }
  have nfp : ∀ b ∈ fp, (upd H2 D (.lst [])) b = none := fun b hb => (f3 b hb).1.1
  generalize hce : compEnvC scope (cellsFrom (s3.heap.objs.size + 1) scope.names (cloFrom X.env.cells scope.names [])) s3.heap.objs.size X.env = ce at I4 pg pt pe ⊢
  have cL : ce.locals = s3.heap.objs.size := by subst hce; rfl
  generalize hH3 : upd H2 D (.lst []) = H3 at I3 I4 pg pt pe w0 nfp f3
  generalize hs4 : ({ s3 with heap := pushCells (s3.heap.push { cls := .type "dict", data := .dict #[] }) scope.names } : Shared) = s4 at I4 ⊢
  have st4 : tn 0 s4.heap := T.keep _ _ _ st3 fun b _ o e => by rw [← hs4]; exact pushCells_keeps _ _ _ _ (Heap.get?_push_of_some _ e)
  have stat : ∀ {σ' : St} {H' : Hp} {s' : Shared}, Inv (X.blk s3 H3 scope ce fp) [] σ' H' s' → (∀ b ∈ fp, H' b = none) → ∀ b ∈ fp, FpOk (X.blk s3 H3 scope ce fp) [] H' b := fun {σ' H' s'} I' hn b hb =>
    ⟨hn b hb, (I'.ok.exf b hb).1, I'.ok.exfs b hb, .inl hb, fun x c e => (I'.ok.exf b hb).2 x c e, fun p hp => absurd (show p ∈ ([] : List (Addr × Obj)) ++ [] from hp) (by simp)⟩
  have loop : codeAny (model X.prog X.w) X.A (.compLoop (.ListComp elt [⟨tg, iter, ifs, 0⟩] scope pos) 0 (.ref it) (.ref D) ce) (compPost (model X.prog X.w) X.A X.xe use Qf (.ref D) s3.heap.objs.size) s4 := by
    refine compLoop_any (fun n s' => ∃ i H', Inv (X.blk s3 H3 scope ce fp) [] (wipe σ (own.map (·.2))) H' s' ∧ tn i s'.heap ∧ (∀ b ∈ fp, H' b = none) ∧ W i n H') ?_ m0 ⟨0, H3, I4, st4, nfp, w0⟩
    rintro n s5 ⟨i, H5, I5, st5, n5, w5⟩
    rcases turn i n H5 w5 with ⟨stop, qq⟩ | ⟨go, Nx, hNx, step⟩
    · have td := T.done (X.blk s3 H3 scope ce fp) rfl rfl rfl hc i [] s5 _ H5 (fun _ _ => False) I5 (stat I5 n5) st5 stop
      refine thnF td fun r s6 ⟨hr, I6⟩ => ?_
      subst hr
      -- back in the def's context
      have I7 : Inv X pins σ H5 s6 := I3.call' (ch := fp) I6.os I6.base I6.hok I6.bare fun b hb => ⟨(f3 b hb).1.2.2.2.1, (f3 b hb).1.2.1, (f3 b hb).1.2.2.2.2.1, (f3 b hb).1.2.2.2.2.2⟩
      have nC : H5 s3.heap.objs.size = none := by
        have z : H5 ce.locals = none := I6.free
        rw [cL] at z
        exact z
      obtain ⟨m, hn, _⟩ := I6.loc
      have hn : s6.heap.Ns ce.locals m := hn
      rw [cL] at hn
      exact hRR D s3.heap.objs.size s6 m H5 I7 qq hn (I3.fpOk (Nat.le_refl _) nC)
    · have ti := T.item (X.blk s3 H3 scope ce fp) rfl rfl rfl hc i [] s5 _ H5 (fun _ _ => False) I5 (stat I5 n5) st5 go
      refine thnF ti fun r s6 ⟨u, hr, h6⟩ => ?_
      subst hr
      refine thnF h6 fun _ s7 ⟨x, H7, I7, r7, y7, st7, n7⟩ => ?_
      have I7' := I7.pinned (stat I7 n7) (T.obj _ _ st7)
      refine thnF (pg _ s7 _ H7 x u _ I7' r7 (step x H7 y7)) fun _ s8 ⟨σ8, H8, I8, hw8, q8⟩ => ?_
      refine thnF (pt _ s8 σ8 H8 _ I8 q8) fun b s9 ⟨H9, I9, q9⟩ => ?_
      -- the turn's end
      have fin : ∀ {s' : Shared} {H' : Hp}, Inv (X.blk s3 H3 scope ce fp) ([] ++ pinsAt fp s7.heap) σ8 H' s' → Nx H' → ∃ m, m < n ∧ ∃ i H', Inv (X.blk s3 H3 scope ce fp) [] (wipe σ (own.map (·.2))) H' s' ∧ tn i s'.heap ∧ (∀ b ∈ fp, H' b = none) ∧ W i m H' := fun {s' H'} I' nx => by
        obtain ⟨m', hm, w'⟩ := hNx H' nx
        have pin' : ∀ b ∈ fp, ∀ o, s7.heap.get? b = some o → s'.heap.get? b = some o ∧ H' b = none := fun b hb o e =>
          let z := I'.pin (b, o) (List.mem_append_right _ (List.mem_append_right _ (mem_pinsAt hb e)))
          ⟨z.1, z.2.1⟩
        have hl : (wipe σ (own.map (·.2))).length = σ8.length := by rw [← hw8, wipe_length]
        refine ⟨m', hm, i + 1, H', (I'.unpinned (pins := [])).weak hl (fun j v e => ?_), T.keep _ _ _ st7 fun b hb o e => (pin' b hb o e).1, fun b hb => ?_, w'⟩
        · rw [← hw8] at e
          exact (wipe_some e).1
        · obtain ⟨o, e, _⟩ := T.obj _ _ st7 b hb
          exact (pin' b hb o e).2
      cases b with
      | false =>
        simp only [Bool.false_eq_true, if_false] at q9 ⊢
        exact fin I9 q9
      | true =>
        simp only [if_true] at q9 ⊢
        refine thnF (pe _ s9 σ8 H9 _ I9 q9) fun z s10 ⟨yv, H10, I10, r10, acc, hD10, hz10, nx⟩ => ?_
        exact app_ok (X := X.blk s3 H3 scope ce fp) I10 hD10 hz10 r10 fun s11 I11 => fin I11 nx
  exact codeAny_compStart_list loop (T.self X.A 0 _ _ _ st4 loop)
/-- as a value -/
theorem pe_lc {elt tg iter : Expr} {ifs : List Expr} {scope : Scope} {own : List (Str × Nat)} {pos : Pos} {wi : TI} {g : TG} {tt : TT} {te : TE} (hc : X.calm = true) (hN : X.N.Nodup) (hi : PI X tg iter wi) (ok : BlkOk X.N X.env.scope scope own)
    (hg : ∀ (s : Shared) (H : Hp) (C : Addr) (cl : List (Str × Addr)) (fp : List Addr), PG (X.blk s H scope (compEnvC scope cl C X.env) fp) tg g) (ht : ∀ (s : Shared) (H : Hp) (C : Addr) (cl : List (Str × Addr)) (fp : List Addr), PTs (X.blk s H scope (compEnvC scope cl C X.env) fp) ifs tt)
    (he : ∀ (s : Shared) (H : Hp) (C : Addr) (cl : List (Str × Addr)) (fp : List Addr), PE (X.blk s H scope (compEnvC scope cl C X.env) fp) elt te) (hs : ∀ x, foldedSetIterable iter X.env x = pure x := by intro _; rfl) :
    PE X (.ListComp elt [⟨tg, iter, ifs, 0⟩] scope pos) (tLc wi g tt te (own.map (·.2))) := by
  intro pins s σ H Q I h
  rw [eval_ListComp]
  refine lc_core hc hN I hi ok hg ht he hs h fun D C s' m H' I' q hn f => ⟨m, hn, fun h'' sb => ?_⟩
  obtain ⟨f0, f1, f2, f3, f4, f5⟩ := f
  exact ⟨.ref D, H', I'.turned (t' := s'.toks) (fun b o hb e => (sb.2 b hb).trans e) f0 f1 f3 f4 f5, rfl, q⟩
end

/-! ### the forms one uses -/
/-- over a range: Pv by the turn and the heap (the new list at D within) -/
theorem lc_range {lo : Int} {n : Nat} {g : TG} {tt : TT} {te : TE} {vs : List Nat} {σ : St} {H1 : Hp} {D : Addr} {Qd : Hp → Prop} (Pv : Nat → Hp → Prop) (h0 : Pv 0 (upd H1 D (.lst [])))
    (hs : ∀ i H, i < n → Pv i H → g (.int (lo + i)) (wipe σ vs) H fun σ2 H2 => wipe σ2 vs = wipe σ vs ∧ tt σ2 H2 fun b H3 =>
      if b = true then te σ2 H3 fun y H4 => ∃ acc, H4 D = some (.lst acc) ∧ acc.length < sizeLine ∧ Pv (i + 1) (upd H4 D (.lst (acc ++ [y]))) else Pv (i + 1) H3) (hd : ∀ H, Pv n H → Qd H) :
    ∃ W : Nat → Nat → Hp → Prop, (∃ m, W 0 m (upd H1 D (.lst []))) ∧ ∀ i m H, W i m H →
      ((Itr lo n).stop i H ∧ Qd H) ∨ ((Itr lo n).go i H ∧ ∃ Nx : Hp → Prop, (∀ H', Nx H' → ∃ m', m' < m ∧ W (i + 1) m' H') ∧ ∀ x H', (Itr lo n).yld i H x H' → g x (wipe σ vs) H' fun σ2 H2 => wipe σ2 vs = wipe σ vs ∧ tt σ2 H2 fun b H3 =>
        if b = true then te σ2 H3 fun y H4 => ∃ acc, H4 D = some (.lst acc) ∧ acc.length < sizeLine ∧ Nx (upd H4 D (.lst (acc ++ [y]))) else Nx H3) := by
  refine ⟨fun i m H => m = n - i ∧ i ≤ n ∧ Pv i H, ⟨n, by simp, Nat.zero_le _, h0⟩, ?_⟩
  rintro i m H ⟨rfl, hi, p⟩
  by_cases hlt : i < n
  · refine .inr ⟨hlt, Pv (i + 1), fun H' p' => ⟨n - (i + 1), by omega, rfl, hlt, p'⟩, fun x H' y => ?_⟩
    obtain ⟨e, y⟩ := y
    subst e y
    exact hs i _ hlt p
  · have e : i = n := by omega
    subst e
    exact .inl ⟨Nat.le_refl _, hd H p⟩
/-- over a list that the block leaves as it is -/
theorem lc_list {K : PySem.W.Frag} {a : Addr} {xs : List V} {g : TG} {tt : TT} {te : TE} {vs : List Nat} {σ : St} {H1 : Hp} {D : Addr} {Qd : Hp → Prop} (Pv : Nat → Hp → Prop) (h0 : Pv 0 (upd H1 D (.lst []))) (hl : ∀ i H, i ≤ xs.length → Pv i H → SqL K H a xs)
    (hs : ∀ i x H, xs[i]? = some x → Pv i H → g x (wipe σ vs) H fun σ2 H2 => wipe σ2 vs = wipe σ vs ∧ tt σ2 H2 fun b H3 =>
      if b = true then te σ2 H3 fun y H4 => ∃ acc, H4 D = some (.lst acc) ∧ acc.length < sizeLine ∧ Pv (i + 1) (upd H4 D (.lst (acc ++ [y]))) else Pv (i + 1) H3) (hd : ∀ H, Pv xs.length H → Qd H) :
    ∃ W : Nat → Nat → Hp → Prop, (∃ m, W 0 m (upd H1 D (.lst []))) ∧ ∀ i m H, W i m H →
      ((Itl K a).stop i H ∧ Qd H) ∨ ((Itl K a).go i H ∧ ∃ Nx : Hp → Prop, (∀ H', Nx H' → ∃ m', m' < m ∧ W (i + 1) m' H') ∧ ∀ x H', (Itl K a).yld i H x H' → g x (wipe σ vs) H' fun σ2 H2 => wipe σ2 vs = wipe σ vs ∧ tt σ2 H2 fun b H3 =>
        if b = true then te σ2 H3 fun y H4 => ∃ acc, H4 D = some (.lst acc) ∧ acc.length < sizeLine ∧ Nx (upd H4 D (.lst (acc ++ [y]))) else Nx H3) := by
  refine ⟨fun i m H => m = xs.length - i ∧ i ≤ xs.length ∧ Pv i H, ⟨xs.length, by simp, Nat.zero_le _, h0⟩, ?_⟩
  rintro i m H ⟨rfl, hi, p⟩
  have q := hl i H hi p
  by_cases hlt : i < xs.length
  · refine .inr ⟨⟨xs, xs[i], q, by simp [hlt]⟩, Pv (i + 1), fun H' p' => ⟨xs.length - (i + 1), by omega, rfl, hlt, p'⟩, fun x H' y => ?_⟩
    obtain ⟨e, y⟩ := y
    subst e
    exact hs i x _ (y xs q) p
  · have e : i = xs.length := by omega
    subst e
    exact .inl ⟨⟨xs, q, Nat.le_refl _⟩, hd H p⟩
def blkC (N : List Str) (sc scope : Scope) (own : List (Str × Nat)) : Bool :=
  (match scope.kind with | .function => true | _ => false) && (scope.names.all fun y => decide (scope.names.lookup y.1 = some y.2)) && (own.all fun p => decide (N[p.2]? = some p.1)) &&
    (scope.names.all fun y => match y.2 with
      | .free => (match sc.names.lookup y.1 with | some .cell => true | some .free => true | _ => false)
      | .local => decide (y.1 ∈ own.map (·.1)) || decide (y.1 ∉ N)
      | .cell => decide (y.1 ∈ own.map (·.1)) || decide (y.1 ∉ N)
      | _ => true)
theorem blkOk_by {N : List Str} {sc scope : Scope} {own : List (Str × Nat)} (h : blkC N sc scope own = true) : BlkOk N sc scope own := by
  unfold blkC at h
  simp only [Bool.and_eq_true, List.all_eq_true, decide_eq_true_eq] at h
  obtain ⟨⟨⟨h1, h2⟩, h3⟩, h4⟩ := h
  refine ⟨?_, h2, h3, fun y hy e => ?_, fun y hy e => ?_⟩
  · split at h1
    · assumption
    · cases h1
  · have q := h4 y hy
    simp only [e] at q
    split at q <;> first | exact .inl (by assumption) | exact .inr (by assumption) | cases q
  · have q := h4 y hy
    rcases e with e | e <;> (simp only [e, Bool.or_eq_true, decide_eq_true_eq] at q; exact q)
end L2

namespace L2
open PySem PySem.Spec PyProof.Rows



end L2

namespace L2
open PySem PySem.Spec PyProof.Rows

/-! ### lists of pairs as tables -/
section
variable {κ : Type} [DecidableEq κ]



end


/-! ### a tracked dict, its keys ints and texts or tuples of these -/
theorem kV_is {P : Program} {w : World} {k : Key} {u : Value} (r : RelV (kV k) u) : (mixKind P w).is k u = true := by
  cases k with
  | inl i => obtain ⟨t, e⟩ := (show ∃ t, u = Value.int i t from r); subst e; exact mixKind_int P w i t
  | inr x => obtain ⟨t, e⟩ := (show ∃ t, u = Value.str x t from r); subst e; exact mixKind_str P w x t





section
variable {X : Cx} {pins : List (Addr × Obj)} {σ : St} {H : Hp} {s : Shared} {a : Addr} {y v : V} {u r : Value} {o : Option V} {A : Around} {E : Value → Shared → Prop}


end



/-! ### readings and rules -/
/-- the element of a subscription, not a slice -/
def NoSl (i : Expr) : Prop := ∀ ov iv, subscripted i false ov iv = operate [ov, iv] (getItem ov iv)
theorem subD_of {prog : Program} {w : World} {A : Around} {E : Value → Shared → Prop} {s : Shared} {env : Env} {value slice : Expr} {pos : Pos} {T id : String} {Q : Value → Shared → Prop}
    (hl : typeLookup (.type T) "__getitem__" = pure (some (.builtin id))) (hs : NoSl slice)
    (h : wpAny (model prog w) A (eval value env) (fun o s₁ => wpAny (model prog w) A (eval slice env) (fun i s₂ => s₂.TypeIs o T ∧ wpAny (model prog w) A (getItem o i) Q E s₂) E s₁) E s) :
    wpAny (model prog w) A (eval (.Subscript value slice pos) env) Q E s := by
  refine Subscript_ (wpAny_mono h (fun o s₁ h₁ => wpAny_mono h₁ (fun i s₂ h₂ => ?_) fun _ _ x => x) fun _ _ x => x)
  obtain ⟨hT, h₂⟩ := h₂
  unfold subscriptTail
  refine wpAny_bind ?_
  rw [getitemInPython_of_ne hT.not_modules]
  refine wpAny_bind (wpAny_specialOf hT hl ?_)
  have fin : wpAny (model prog w) A (subscripted slice false o i) (fun r s₃ => wpAny (model prog w) A (letTemporaryGo value o r >>= fun _ => pure r) Q E s₃) E s₂ := by
    rw [hs o i]
    exact wpAny_operating (wpAny_mono h₂ (fun r s₃ h₃ => wpAny_bind (wpAny_letTemporaryGo (wpAny_pure h₃))) fun _ _ x => x)
  first
    | exact wpAny_pure (wpAny_bind fin)
    | exact wpAny_bind (wpAny_pure (wpAny_bind fin))
    | exact wpAny_bind fin





/-! ### displays -/




/-! ### methods -/




/-! ### dict(d): a copy -/


end L2

namespace L2
open PySem PySem.Spec PyProof.Rows


section
variable {prog : Program} {w : World} {A : Around} {E : Value → Shared → Prop}


end

end L2

namespace L2
open PySem PySem.Spec PyProof.Rows

theorem boot_reversed5 : bootBuiltins "reversed" = some (.type "reversed") := by decide +kernel

section
variable {X : Cx} {pins : List (Addr × Obj)} {σ : St} {H : Hp} {s : Shared} {h' : Heap}

/-! ### locking a thing while a statement runs -/
end
section
variable {X : Cx}

/-! ### one iterator just laid -/
theorem pi_one {tg : Expr} {pins : List (Addr × Obj)} {σ : St} {H : Hp} {s : Shared} {R : It → Hp → Prop} {J : It} {tn : Nat → Heap → Prop} {tk : Nat} (I : Inv X pins σ H s) (o : Obj)
    (T : Turn X.prog X.w X.K tg J [s.heap.objs.size] s.heap.objs.size tn) (st : tn 0 (s.heap.push o)) (q : R J H) : PIE X pins σ tg R (.ref s.heap.objs.size) { s with heap := s.heap.push o, toks := tk } := by
  refine ⟨s.heap.objs.size, [s.heap.objs.size], tn, J, H, rfl, I.kept fun b ob e => Heap.get?_push_of_some _ e, T, st, fun b hb => ?_, q⟩
  have e : b = s.heap.objs.size := by simpa using hb
  subst e
  exact I.fpOk (Nat.le_refl _) (I.hok.fresh (Nat.le_refl _))
end

/-! ### range with a step -/

/-! ### reversed(list) -/
/-- the list at a (n items at the start, which the loop leaves there), from its end -/
def Itv (K : PySem.W.Frag) (a : Addr) (n : Nat) : It :=
  ⟨fun i H => i < n ∧ ∃ (xs : List V) (x : V), SqL K H a xs ∧ xs[n - 1 - i]? = some x, fun i H x H' => H' = H ∧ ∀ xs, SqL K H a xs → xs[n - 1 - i]? = some x, fun i _ => n ≤ i⟩
theorem turn_rev {P : Program} {w : World} {K : PySem.W.Frag} {tg : Expr} (a it : Addr) (n : Nat) : Turn P w K tg (Itv K a n) [it] it (fun i h => i ≤ n ∧ h.IsRevIter it a ((n : Int) - 1 - (i : Nat))) where
  mem := by simp
  obj := fun i h st b hb => by
    have e : b = it := by simpa using hb
    subst e
    obtain ⟨_, o, e, c, d⟩ := st
    exact ⟨o, e, fun v z => by rw [d] at z; cases z⟩
  keep := fun i h h' st k => ⟨st.1, st.2.at fun o e => k it (by simp) o e⟩
  item := by
    intro X hP hw hK hc i pins s σ H E I hf st hg
    subst hP hw hK
    obtain ⟨hin, xs, x, hq, hx⟩ := hg
    obtain ⟨its, rv, p, hz⟩ := I.list hq
    obtain ⟨u, hu, ru⟩ := rv.get hx
    obtain ⟨f0, f1, f2, f3, f4, f5⟩ := hf it (by simp)
    obtain ⟨_, hit⟩ := st
    have e1 : (n : Int) - 1 - ((i : Nat) : Int) = ((n - 1 - i : Nat) : Int) := by omega
    rw [e1] at hit
    refine wpAny_pyNext_rev_item hit p.isList (x := u) (by simpa using hu) fun h' st' sb => ?_
    have e2 : ((n - 1 - i : Nat) : Int) - 1 = (n : Int) - 1 - ((i + 1 : Nat) : Int) := by omega
    rw [e2] at st'
    have I1 : Inv X pins σ H { s with heap := h' } := I.turned (t' := s.toks) (fun b o hb e => (sb.2 b hb).trans e) f0 f1 f3 f4 f5
    obtain ⟨o, e, c, d⟩ := id st'
    exact ⟨u, rfl, go_of (s := { s with heap := h' }) e c d (by decide) ⟨x, H, I1, ru, ⟨rfl, fun ys hy => by rw [I.list_inj hy hq]; exact hx⟩, ⟨hin, st'⟩, fun b hb => (hf b hb).1⟩⟩
  done := by
    intro X hP hw hK hc i pins s σ H E I hf st hg
    subst hP hw hK
    obtain ⟨f0, f1, f2, f3, f4, f5⟩ := hf it (by simp)
    obtain ⟨hin, hit⟩ := st
    have hge : n ≤ i := hg
    have e1 : (n : Int) - 1 - ((i : Nat) : Int) = -1 := by omega
    rw [e1] at hit
    exact wpAny_pyNext_rev_end (I.ok.hd hc) hit fun h' eb => ⟨rfl, I.turned (t' := s.toks) (fun b o hb e => eb b o hb e) f0 f1 f3 f4 f5⟩
  self := fun A i s Q E st h => wpAny_pyIter_revIter st.2 h
def iRev (K : PySem.W.Frag) (ta : TA) : TI := fun σ H R => ta σ H fun vs H1 => ∃ (a : Addr) (xs : List V), vs = [.ref a] ∧ SqL K H1 a xs ∧ R (Itv K a xs.length) H1
section
variable {X : Cx} {tg : Expr}
theorem pi_reversed {e : Expr} {ta : TA} {p pos : Pos} (hg : Gl X "reversed") (hm : X.mg "reversed" = none) (ha : PA X [e] ta) (hs : starEach [e] X.env = [(false, eval e X.env)] := by rfl) : PI X tg (.Call (.Name "reversed" p) [e] [] pos) (iRev X.K ta) := by
  intro pins s σ H R I h
  refine Call_ (ld_blt I hg hm boot_reversed5 (PyProof.Rows.callWith_type1 (thn (ha pos pins s σ H _ I h) fun us s1 ⟨vs, H1, I1, r1, q1⟩ => ?_) hs rfl))
  obtain ⟨a, xs, e, hq, q⟩ := q1
  subst e
  cases r1 with
  | cons r rr =>
    cases rr
    cases r
    obtain ⟨its, rv, p', hz⟩ := I1.list hq
    have hl := rv.length
    have e1 : ((its.toArray.size : Nat) : Int) - 1 = (xs.length : Int) - 1 - ((0 : Nat) : Int) := by simp only [List.size_toArray]; omega
    refine call_reversed_list p'.isList (wpAny_pyIter_revIter (l := a) (i := ((its.toArray.size : Nat) : Int) - 1) ⟨_, Heap.get?_push_size _ rfl, rfl, rfl⟩ ?_)
    refine pi_one (tk := s1.toks) I1 _ (turn_rev a _ xs.length) ⟨Nat.zero_le _, ?_⟩ q
    rw [← e1]
    exact ⟨_, Heap.get?_push_size _ rfl, rfl, rfl⟩
end

/-! ### a str -/

/-! ### a dict's keys: any dict's entries -/

/-! ### a locked dict -/


/-! ### for k in d, d.keys(), d.values(), d.items() -/

/-! ### enumerate(list) -/
/-! ### zip(list, list) -/
end L2

section 
namespace Bits
open PySem PyProof.Rows








end Bits
end 

section 
namespace TL
open PySem PySem.Builtin PySem.Builtin.Str PySem.StrLaws


/-! ### the list functions -/




/-! ### the model's split and partition are these -/




/-! ### computing spl and par -/


/-! ### digits -/

/-! ### words: x.split() -/
end TL
end 

namespace L2
open PySem PySem.Spec PyProof.Rows





section
variable {X : Cx}





/-! ### of a text alone -/

/-! ### of a text and a text -/

end

section
variable {X : Cx} {o e : Expr} {to te : TE}

end
end L2

namespace L2
open PySem PySem.Spec PyProof.Rows


/-! ### slices of a text -/


end L2

namespace Att
open PySem PySem.W PySem.Calls PyProof.Rows

/-! ### the script -/



/-! ### the attachment: holds_open's last premise (the goal 'hc' behind k_head) from a wpAny of the law's body -/



/-! ### rules over ANY heap (no ledger) from facts about the written part K: the library's own take a ledger (News) for what they write -/
section
variable {prog : Program} {w : World} {A : Around} {E : Value → Shared → Prop} {s : Shared} {K : Frag}





/-! the whole heap as the ledger: makes every rule that writes through a ledger a rule over any heap -/

end
end Att

namespace L2
open PySem PySem.Spec PyProof.Rows



end L2

namespace L2
open PySem PySem.Spec PyProof.Rows


end L2

/- THE LAST THEOREM (shape; LID, My.* are yours):
   My.Adr: a structure of the addresses that your layer names (classes, functions); My.Txt K t: a structure (Prop) of the equations over K;
   My.txt_mk : {K} {implicit addresses ..} (e1 : nsIn K mainGlobals "law" = some (some (.ref f))) (e2 : K.lookup f = some ⟨oc, od, .func (fnOf "law" "law" params body scope dV kV doc pm an cdv ct), sl⟩) (e3 : codeIn K cdv "law" = true) .. : ∃ t, My.Txt K t

set_option maxRecDepth 100000 in
set_option maxHeartbeats 0 in
theorem PySem.Challenge.cw_LID_holds : PySem.Challenge.rw_LID.Holds := by
  w_on; o_law; k_head; (case hw => w_witness2)
  k_fill
  refine L2.walk_of (l := PySem.Challenge.rw_LID) (n := 63) (k := 40) (x := "script") (CX := fun w => ..) (sp := fun _ => My.sp_law) rfl (by decide) rfl ⟨rfl, by decide, by decide⟩ (fun w h Y => PySem.W.kIn_of Y) ?F ?S ?C
  case F =>
    intro w mg fa h KX G hmg
    have T : ∃ t, My.Txt (L2.KOf KX) t := by
      dsimp only [L2.KOf]                          -- K must stand as «<heap const> w.params» for k_is
      refine' My.txt_mk ?e1 ?e2 ?e3 ..
      (case e1 => PySem.W.k_is)                    -- in the order: a name -> its address -> its object -> its parts
      (case e2 => PySem.W.k_is)
      ..
    obtain ⟨t, T⟩ := T
    have e0 := hmg.symm.trans (PySem.W.mg_of KX G T.law)
    cases e0                                       -- fa is the law's own address
    exact ⟨_, fun s u => .of_eq rfl, fun base kb nb => My.law_fn T kb nb⟩     -- if «.of_eq rfl» comes too early: refine' ⟨_, ?b, fun base kb nb => My.law_fn T kb nb⟩; exact fun s u => .of_eq rfl
  case S => exact fun w H a ns hl hO hS => ..
  case C => exact ..
(the tactic k_is has no namespace: write k_is) -/

/-! SHORT WORDS over the layer: a def of the text, its body, what a loop and a test want. -/
namespace L2
open PySem PySem.Spec PyProof.Rows

/-! ### the text by places -/
/-- the j-th statement of a class's body -/
def inClass (s : Stmt) (j : Nat) : Stmt := match s with
  | .ClassDef _ _ _ body _ _ _ _ _ _ _ => body.getD j (.Pass ⟨0, 0, 0, 0⟩)
  | _ => .Pass ⟨0, 0, 0, 0⟩
def defArgs (s : Stmt) : Arguments := match s with
  | .FunctionDef _ a _ _ _ _ _ _ _ _ => a
  | _ => { posonlyargs := [], args := [], vararg := none, kwonlyargs := [], kw_defaults := [], kwarg := none, defaults := [] }
def defBody (s : Stmt) : List Stmt := match s with
  | .FunctionDef _ _ b _ _ _ _ _ _ _ => b
  | _ => []
def defScope (s : Stmt) : Scope := match s with
  | .FunctionDef _ _ _ _ _ _ sc _ _ _ => sc
  | _ => { kind := .function, names := [], isGenerator := false, isCoroutine := false }

/-! ### no exception leaves a def -/
abbrev CX0 : CXT := fun _ _ _ _ _ _ => False
abbrev E0 : XK := fun _ _ _ => False
theorem pass0 {X : Cx} : Passes CX0 X E0 := fun _ _ _ _ _ _ _ h => h.elim

/-! ### a def (or method) of the text as it stands behind the top -/
structure Fun (K : PySem.W.Frag) (x qual : Str) (st : Stmt) (f : Addr) (fd : FuncData) : Prop where
  ex : ∃ (oc : Value) (od : Option Addr) (kV doc pm : Value) (an : Option Addr) (cdv ct : Value) (osl : Array (Option Value)),
    fd = PySem.W.fnOf x qual (defArgs st) (defBody st) (defScope st) .none kV doc pm an cdv ct ∧ K.lookup f = some ⟨oc, od, .func fd, osl⟩ ∧ PySem.W.codeIn K cdv qual = true
  kp : PySem.W.keepIn K (.ref f) = true
section
variable {P : Program} {w : World} {K : PySem.W.Frag} {mg : Str → Option Value} {base : Heap}
/-- THE RULE for a def: its body as a term of rules, and the reading of that term -/
theorem Fun.ok {x qual : Str} {st : Stmt} {f : Addr} {fd : FuncData} {N ps : List Str} {k : Nat} {sp : Sp} (F : Fun K x qual st f fd) (S : FnScope N ps (defScope st)) (len : ∀ vs H Q E, sp vs H Q E → vs.length = ps.length)
    (hbody : ∀ (cdv : Value) (A : Around) (outer : List Env) (s : Shared) (H : Hp) (vs : List V) (Q : VK) (E : XK), Room k (A.deeper (envOfC qual (defScope st) s.heap.objs.size f cdv)) → sp vs H Q E →
      ∃ t, PSs (cxOf CX0 P w K mg base N qual (defScope st) f cdv A outer s H E).nox (defBody st) t ∧ t { nx := fun _ H' => Q .non H', rt := Q } (start N vs) H) : FnOk P w K mg base CX0 (k + 1) f fd ps sp := by
  obtain ⟨oc, od, kV, doc, pm, an, cdv, ct, osl, rfl, lk, hcd⟩ := F.ex
  refine fn_of lk hcd S len fun A outer s H vs Q E hr hsp => ?_
  obtain ⟨t, h, q⟩ := hbody cdv A outer s H vs Q E hr hsp
  exact ⟨t, h.nox, q⟩
/-- how its arguments bind (no defaults): h is «fun _ _ _ _ _ _ us hl => match us, hl with | [_, _], _ => rfl», one _ a parameter -/
theorem Fun.binds {x qual : Str} {st : Stmt} {f : Addr} {fd : FuncData} {ps : List Str} (F : Fun K x qual st f fd)
    (h : ∀ (kV doc pm : Value) (an : Option Addr) (cdv ct : Value) (us : List Value), us.length = ps.length → bindArgs (PySem.W.fnOf x qual (defArgs st) (defBody st) (defScope st) .none kV doc pm an cdv ct) ⟨us, []⟩ = pure (ps.zip us)) : Binds K fd ps [] := by
  obtain ⟨oc, od, kV, doc, pm, an, cdv, ct, osl, rfl, lk, hcd⟩ := F.ex
  exact .all (h kV doc pm an cdv ct)
theorem fun_mk {x qual : Str} {st : Stmt} {f : Addr} {oc : Value} {od an : Option Addr} {osl : Array (Option Value)} {kV doc pm cdv ct : Value} (l : K.lookup f = some ⟨oc, od, .func (PySem.W.fnOf x qual (defArgs st) (defBody st) (defScope st) .none kV doc pm an cdv ct), osl⟩)
    (c : PySem.W.codeIn K cdv qual = true) (k : PySem.W.keepIn K (.ref f) = true) : Fun K x qual st f (PySem.W.fnOf x qual (defArgs st) (defBody st) (defScope st) .none kV doc pm an cdv ct) := ⟨⟨oc, od, kV, doc, pm, an, cdv, ct, osl, rfl, l, c⟩, k⟩
end

/-! ### expressions in short: the name that stands in the i-th slot -/
section
variable {X : Cx}
theorem pv (i : Nat) {x : Str} {pos : Pos} (hN : X.N[i]? = some x := by rfl) (hv : Vis X.env.scope x := by first | exact Or.inl rfl | exact Or.inr (Or.inl rfl) | exact Or.inr (Or.inr rfl)) (hd : (x == ("__debug__" : Str)) = false := by decide)
    (hcd : (x == ("__classdict__" : Str)) = false := by decide) : PE X (.Name x pos) (tVar i) := pe_var hN hv hd hcd
end

/-! ### tests -/
theorem iteF {A B : Prop} (h : B) : if false = true then A else B := by
  rw [if_neg Bool.false_ne_true]
  exact h
theorem iteT {A B : Prop} (h : A) : if true = true then A else B := by
  rw [if_pos rfl]
  exact h
theorem ite2 {c A B : Prop} [Decidable c] (h1 : c → A) (h2 : ¬ c → B) : if c then A else B := by
  by_cases h : c
  · rw [if_pos h]
    exact h1 h
  · rw [if_neg h]
    exact h2 h
theorem iteNS {c A B : Prop} [Decidable c] (hc : c) (h : B) : if (!decide c) = true then A else B := by
  rw [decide_eq_true hc]
  exact iteF h

/-! ### heaps -/
/-- all that was tracked is as it was -/
def Same (H H' : Hp) : Prop := ∀ b o, H b = some o → H' b = some o
theorem Same.trans {H H1 H2 : Hp} (a : Same H H1) (b : Same H1 H2) : Same H H2 := fun c o h => b c o (a c o h)
theorem Same.free {H H' : Hp} (e : Same H H') {l : Addr} (h : H' l = Option.none) : H l = Option.none := by
  cases q : H l with
  | none => rfl
  | some o =>
    rw [e l o q] at h
    cases h
theorem Same.seq {K : PySem.W.Frag} {H H' : Hp} {a : Addr} {xs : List V} (e : Same H H') (h : SqL K H a xs) : SqL K H' a xs := by
  rcases h with (h | ⟨o, h⟩) | h
  · exact .inl (.inl (e _ _ h))
  · exact .inl (.inr ⟨o, e _ _ h⟩)
  · exact .inr h

/-! ### a dict's pairs: keys that differ -/
/-! ### lists -/
theorem at_of {xs : List V} {z : Int} {j : Nat} {v : V} (e : z = (j : Int)) (h : xs[j]? = some v) : atI xs z = some v := by
  rw [e]
  exact atI_nat h
/-- a new instance and its __init__ leave all that was tracked as it was -/
theorem Same.made {H H1 : Hp} {x dx C : Addr} (nx : H x = Option.none) (nd : H dx = Option.none) (k : ∀ b o, (upd (upd H dx (.own x)) x (.ins C dx [])) b = some o → b ≠ x → H1 b = some o) : Same H H1 := fun b o e =>
  k b o (by rw [upd_ne (ne_of_none e nx), upd_ne (ne_of_none e nd)]; exact e) (ne_of_none e nx)
end L2

section
set_option Elab.async false
set_option linter.all false
set_option maxRecDepth 100000
set_option maxHeartbeats 2000000
namespace L2
open PySem PySem.Spec PyProof.Rows
open PySem.W (WData Codec OpenSpec Well WellAll ReadsW ReadsAllW)
/-! ### an answer as data -/
mutual
/-- x stands for the datum d, lists and tuples all the way -/
inductive Dw (K : PySem.W.Frag) (H : Hp) : V → WData → Prop
  | non : Dw K H .non .none
  | bl (b : Bool) : Dw K H (.bl b) (.bool b)
  | int (i : Int) : Dw K H (.int i) (.int i)
  | str (x : Str) : Dw K H (.str x) (.str x)
  | byt (b : Array UInt8) : Dw K H (.byt b) (.bytes b.toList)
  | lst {a : Addr} {xs : List V} {ds : List WData} : SqL K H a xs → DwAll K H xs ds → Dw K H (.ref a) (.list ds)
  | tup {a : Addr} {xs : List V} {ds : List WData} : SqT K H a xs → DwAll K H xs ds → Dw K H (.ref a) (.tuple ds)
inductive DwAll (K : PySem.W.Frag) (H : Hp) : List V → List WData → Prop
  | nil : DwAll K H [] []
  | cons {v : V} {vs : List V} {d : WData} {ds : List WData} : Dw K H v d → DwAll K H vs ds → DwAll K H (v :: vs) (d :: ds)
end
theorem dw_ints {K : PySem.W.Frag} {H : Hp} : ∀ ns : List Int, DwAll K H (ns.map V.int) (ns.map WData.int)
  | [] => .nil
  | n :: r => .cons (.int n) (dw_ints r)
theorem ints_dw {K : PySem.W.Frag} {H : Hp} : ∀ (ns : List Int) (xs : List V), DwAll K H xs (ns.map WData.int) → xs = ns.map V.int
  | [], xs, h => by
    cases h
    rfl
  | n :: r, xs, h => by
    cases h with
    | cons h1 h2 =>
      cases h1
      rw [ints_dw r _ h2] <;> rfl
section
variable {P : Program} {w : World} {K : PySem.W.Frag} {H : Hp} {h : Heap} {R : PySem.W.WRecords} {cl : Str → Option Addr}
theorem sqL_at {a : Addr} {xs : List V} (hok : HOk P w H h) (KX : K.In h) (q : SqL K H a xs) : ∃ (its : List Value) (o : Obj) (n : Nat), Vals xs its ∧ h.get? a = some o ∧ o.cls = .type "list" ∧ o.data = .seq its.toArray n := by
  rcases q with q | ⟨o, its, n, e, hc, _, hd, _, hv⟩
  · obtain ⟨_, its, n, hv, e⟩ := (show ObjOk P w H h a (.lst xs) from q.ok hok)
    exact ⟨its, _, n, hv, e, rfl, rfl⟩
  · exact ⟨its.toList, o, n, hv, KX _ _ e, hc, by simp [hd]⟩
theorem sqT_at {a : Addr} {xs : List V} (hok : HOk P w H h) (KX : K.In h) (q : SqT K H a xs) : ∃ (its : List Value) (o : Obj) (n : Nat), Vals xs its ∧ h.get? a = some o ∧ o.cls = .type "tuple" ∧ o.data = .seq its.toArray n := by
  rcases q with q | ⟨o, its, n, e, hc, hd, _, hv⟩
  · obtain ⟨_, its, hv, o, e, hc, n, hd⟩ := (show ObjOk P w H h a (.tup xs) from q.ok hok)
    exact ⟨its, o, n, hv, e, hc, hd⟩
  · exact ⟨its.toList, o, n, hv, KX _ _ e, hc, by simp [hd]⟩
mutual
theorem Dw.reads (hok : HOk P w H h) (KX : K.In h) : ∀ (d : WData) (v : V) (u : Value), Dw K H v d → RelV v u → ∃ as, ReadsW R cl h u d as
  | .none, _, _, x, r => by
    cases x
    cases r
    exact ⟨_, ReadsW.none⟩
  | .bool b, _, _, x, r => by
    cases x
    cases r
    exact ⟨_, ReadsW.bool b⟩
  | .int i, _, _, x, r => by
    cases x
    obtain ⟨t, rfl⟩ := r
    exact ⟨_, ReadsW.int i t⟩
  | .str s, _, _, x, r => by
    cases x
    obtain ⟨t, rfl⟩ := r
    exact ⟨_, ReadsW.str s t⟩
  | .bytes b, _, _, x, r => by
    cases x
    obtain ⟨t, rfl⟩ := r
    exact ⟨_, ReadsW.bytes _ t⟩
  | .list ds, _, _, x, r => by
    cases x with
    | lst hs ha =>
      cases r
      obtain ⟨its, o, n, rv, ho, hc, hd⟩ := sqL_at hok KX hs
      obtain ⟨as, hr⟩ := Dw.readsAll hok KX ds _ its ha rv
      exact ⟨_, ReadsW.list ho hc hd hr⟩
  | .tuple ds, _, _, x, r => by
    cases x with
    | tup hs ha =>
      cases r
      obtain ⟨its, o, n, rv, ho, hc, hd⟩ := sqT_at hok KX hs
      obtain ⟨as, hr⟩ := Dw.readsAll hok KX ds _ its ha rv
      exact ⟨_, ReadsW.tuple ho hc hd hr⟩
  | .float _, _, _, x, _ => by cases x
  | .dict _, _, _, x, _ => by cases x
  | .bytearray _, _, _, x, _ => by cases x
  | .set _, _, _, x, _ => by cases x
  | .frozenset _, _, _, x, _ => by cases x
  | .obj _ _, _, _, x, _ => by cases x
theorem Dw.readsAll (hok : HOk P w H h) (KX : K.In h) : ∀ (ds : List WData) (vs : List V) (us : List Value), DwAll K H vs ds → Vals vs us → ∃ as, ReadsAllW R cl h us ds as
  | [], _, _, x, r => by
    cases x
    cases r
    exact ⟨_, ReadsAllW.nil⟩
  | d :: ds, _, _, x, r => by
    cases x with
    | cons h1 h2 =>
      cases r with
      | cons r1 r2 =>
        obtain ⟨as, q1⟩ := Dw.reads hok KX d _ _ h1 r1
        obtain ⟨bs, q2⟩ := Dw.readsAll hok KX ds _ _ h2 r2
        exact ⟨_, ReadsAllW.cons q1 q2⟩
end
end
/-! ### the arguments -/
mutual
/-- data that a codec tells -/
def plW : WData → Bool
  | .none => true
  | .bool _ => true
  | .int _ => true
  | .str _ => true
  | .bytes _ => true
  | .list xs => plWs xs
  | .tuple xs => plWs xs
  | _ => false
def plWs : List WData → Bool
  | [] => true
  | x :: r => plW x && plWs r
end
theorem plWs_map {α : Type} {f : α → WData} (h : ∀ a, plW (f a) = true) : ∀ l : List α, plWs (l.map f) = true
  | [] => rfl
  | x :: r => by
    show (plW (f x) && plWs (r.map f)) = true
    rw [h x, plWs_map h r] <;> rfl
theorem pl_enc : ∀ (c : Codec) (a : c.denote), plW (c.enc a) = true
  | .unit, _ => rfl
  | .bool, _ => rfl
  | .int _ _, _ => rfl
  | .nat _ _, _ => rfl
  | .u8, _ => rfl
  | .bytes _ _, _ => rfl
  | .text _ _ _ _, _ => rfl
  | .list _ _ c, a => plWs_map (fun x => pl_enc c x) a
  | .pair c d, a => by
    show (plW (c.enc a.1) && (plW (d.enc a.2) && true)) = true
    rw [pl_enc c a.1, pl_enc d a.2] <;> rfl
  | .triple c d e, a => by
    show (plW (c.enc a.1) && (plW (d.enc a.2.1) && (plW (e.enc a.2.2) && true))) = true
    rw [pl_enc c a.1, pl_enc d a.2.1, pl_enc e a.2.2] <;> rfl
  | .option c, none => rfl
  | .option c, some x => pl_enc c x
theorem pl_encAll : ∀ (cs : List Codec) (a : Codec.denoteAll cs), plWs (Codec.encAll cs a) = true
  | [], _ => rfl
  | c :: cs, a => by
    show (plW (c.enc a.1) && plWs (Codec.encAll cs a.2)) = true
    rw [pl_enc c a.1, pl_encAll cs a.2] <;> rfl
theorem weight_mem : ∀ {xs : List WData} {d : WData}, d ∈ xs → d.weight ≤ WData.weightAll xs
  | [], d, h => absurd h (by simp)
  | x :: r, d, h => by
    show d.weight ≤ x.weight + 1 + WData.weightAll r
    rcases List.mem_cons.mp h with e | m
    · rw [e]
      omega
    · have z := weight_mem m
      omega
def toV : Value → V
  | .none => .non
  | .bool b => .bl b
  | .int i _ => .int i
  | .str x _ => .str x
  | .bytes b _ => .byt b
  | .ref a => .ref a
  | _ => .non
/-- a value of the arguments, its objects among A -/
def OkU (A : List Addr) : Value → Prop
  | .none => True
  | .bool _ => True
  | .int _ _ => True
  | .str _ _ => True
  | .bytes _ _ => True
  | .ref a => a ∈ A
  | _ => False
theorem OkU.mono {A B : List Addr} (h : ∀ a ∈ A, a ∈ B) : ∀ {u : Value}, OkU A u → OkU B u := fun {u} x => by
  cases u with
  | ref a => exact h a x
  | none => trivial
  | bool b => trivial
  | int i t => trivial
  | str s t => trivial
  | bytes b t => trivial
  | _ => exact False.elim x
theorem relV_toV {A : List Addr} {u : Value} (x : OkU A u) : RelV (toV u) u := by
  cases u with
  | ref a => rfl
  | none => rfl
  | bool b => rfl
  | int i t => exact ⟨t, rfl⟩
  | str s t => exact ⟨t, rfl⟩
  | bytes b t => exact ⟨t, rfl⟩
  | _ => exact False.elim x
theorem vals_toV {A : List Addr} : ∀ {vs : List Value}, (∀ u ∈ vs, OkU A u) → Vals (vs.map toV) vs
  | [], _ => .nil
  | u :: r, h => .cons (relV_toV (h u (List.mem_cons_self ..))) (vals_toV fun x hx => h x (List.mem_cons_of_mem _ hx))
/-- an object of the arguments -/
def ArgOb (h : Heap) (A : List Addr) (a : Addr) : Prop := ∃ vs : List Value, vs.length ≤ sizeLine ∧ (∀ u ∈ vs, OkU A u) ∧
  (h.get? a = some { cls := .type "list", data := .seq vs.toArray } ∨ h.get? a = some { cls := .type "tuple", data := .seq vs.toArray })
theorem ArgOb.mono {h : Heap} {A B : List Addr} {a : Addr} (k : ∀ a ∈ A, a ∈ B) (x : ArgOb h A a) : ArgOb h B a := by
  obtain ⟨vs, h1, h2, h3⟩ := x
  exact ⟨vs, h1, fun u hu => (h2 u hu).mono k, h3⟩
theorem wellAll_len {P : Params} {h : Heap} : ∀ {vs : List Value} {ds : List WData}, WellAll P h vs ds → vs.length = ds.length
  | _, _, .nil => rfl
  | _, _, .cons _ b => by
    show _ + 1 = _ + 1
    rw [wellAll_len b]
theorem well_list {P : Params} {h : Heap} {v : Value} {ds : List WData} (x : Well P h v (.list ds)) : ∃ (a : Addr) (vs : List Value), v = .ref a ∧ h.get? a = some { cls := .type "list", data := .seq vs.toArray } ∧ WellAll P h vs ds := by
  cases x with
  | list ho hall => exact ⟨_, _, rfl, ho, hall⟩
theorem well_tuple {P : Params} {h : Heap} {v : Value} {ds : List WData} (x : Well P h v (.tuple ds)) : ∃ (a : Addr) (vs : List Value), v = .ref a ∧ h.get? a = some { cls := .type "tuple", data := .seq vs.toArray } ∧ WellAll P h vs ds := by
  cases x with
  | tuple ho hall => exact ⟨_, _, rfl, ho, hall⟩
theorem well_cons {P : Params} {h : Heap} {us : List Value} {d : WData} {ds : List WData} (x : WellAll P h us (d :: ds)) : ∃ (v : Value) (vs : List Value), us = v :: vs ∧ Well P h v d ∧ WellAll P h vs ds := by
  cases x with
  | cons a b => exact ⟨_, _, rfl, a, b⟩
theorem line_of {n : Nat} (h : n ≤ 1048576) : n ≤ sizeLine := Nat.le_trans h (by decide)
section
variable {P : Params} {h : Heap}
mutual
theorem area_one : ∀ (d : WData) (v : Value), Well P h v d → plW d = true → d.weight ≤ 1048576 → ∃ A : List Addr, OkU A v ∧ ∀ a ∈ A, ArgOb h A a
  | .none, _, x, _, _ => by
    cases x
    exact ⟨[], trivial, fun a m => absurd m (by simp)⟩
  | .bool b, _, x, _, _ => by
    cases x
    exact ⟨[], trivial, fun a m => absurd m (by simp)⟩
  | .int i, _, x, _, _ => by
    cases x
    exact ⟨[], trivial, fun a m => absurd m (by simp)⟩
  | .str s, _, x, _, _ => by
    cases x
    exact ⟨[], trivial, fun a m => absurd m (by simp)⟩
  | .bytes b, _, x, _, _ => by
    cases x
    exact ⟨[], trivial, fun a m => absurd m (by simp)⟩
  | .list ds, _, x, p, z => by
    obtain ⟨a, vs, rfl, ho, hall⟩ := well_list x
    have z2 : WData.weightAll ds ≤ 1048576 := z
    obtain ⟨A, h1, h2⟩ := area_all ds _ hall p fun d hd => Nat.le_trans (weight_mem hd) z2
    have k : ∀ b ∈ A, b ∈ a :: A := fun b hb => List.mem_cons_of_mem _ hb
    refine ⟨a :: A, List.mem_cons_self .., fun b hb => ?_⟩
    rcases List.mem_cons.mp hb with e | m
    · rw [e]
      exact ⟨vs, line_of (by rw [wellAll_len hall]; exact Nat.le_trans (PySem.W.length_le_weightAllW ds) z2), fun u hu => (h1 u hu).mono k, .inl ho⟩
    · exact (h2 b m).mono k
  | .tuple ds, _, x, p, z => by
    obtain ⟨a, vs, rfl, ho, hall⟩ := well_tuple x
    have z2 : WData.weightAll ds ≤ 1048576 := z
    obtain ⟨A, h1, h2⟩ := area_all ds _ hall p fun d hd => Nat.le_trans (weight_mem hd) z2
    have k : ∀ b ∈ A, b ∈ a :: A := fun b hb => List.mem_cons_of_mem _ hb
    refine ⟨a :: A, List.mem_cons_self .., fun b hb => ?_⟩
    rcases List.mem_cons.mp hb with e | m
    · rw [e]
      exact ⟨vs, line_of (by rw [wellAll_len hall]; exact Nat.le_trans (PySem.W.length_le_weightAllW ds) z2), fun u hu => (h1 u hu).mono k, .inr ho⟩
    · exact (h2 b m).mono k
  | .float _, _, _, p, _ => Bool.noConfusion (show false = true from p)
  | .dict _, _, _, p, _ => Bool.noConfusion (show false = true from p)
  | .bytearray _, _, _, p, _ => Bool.noConfusion (show false = true from p)
  | .set _, _, _, p, _ => Bool.noConfusion (show false = true from p)
  | .frozenset _, _, _, p, _ => Bool.noConfusion (show false = true from p)
  | .obj _ _, _, _, p, _ => Bool.noConfusion (show false = true from p)
theorem area_all : ∀ (ds : List WData) (vs : List Value), WellAll P h vs ds → plWs ds = true → (∀ d ∈ ds, d.weight ≤ 1048576) → ∃ A : List Addr, (∀ u ∈ vs, OkU A u) ∧ ∀ a ∈ A, ArgOb h A a
  | [], _, x, _, _ => by
    cases x
    exact ⟨[], fun u m => absurd m (by simp), fun a m => absurd m (by simp)⟩
  | d :: ds, _, x, p, z => by
    obtain ⟨v, vs, rfl, x1, x2⟩ := well_cons x
    have q : plW d = true ∧ plWs ds = true := Bool.and_eq_true_iff.mp p
    obtain ⟨A, a1, a2⟩ := area_one d v x1 q.1 (z d (List.mem_cons_self ..))
    obtain ⟨B, b1, b2⟩ := area_all ds vs x2 q.2 fun e he => z e (List.mem_cons_of_mem _ he)
    have kA : ∀ b ∈ A, b ∈ A ++ B := fun b hb => List.mem_append.mpr (.inl hb)
    have kB : ∀ b ∈ B, b ∈ A ++ B := fun b hb => List.mem_append.mpr (.inr hb)
    refine ⟨A ++ B, fun u hu => ?_, fun b hb => ?_⟩
    · rcases List.mem_cons.mp hu with e | m
      · rw [e]
        exact a1.mono kA
      · exact (b1 u m).mono kB
    · rcases List.mem_append.mp hb with m | m
      · exact (a2 b m).mono kA
      · exact (b2 b m).mono kB
end
end
/-- what is tracked of an argument's object -/
def hoOf (o : Obj) : Option HO := match o.data with
  | .seq vs _ => if (o.cls == Value.type "list") = true then some (.frz o (.lst (vs.toList.map toV))) else some (.frz o (.tup (vs.toList.map toV)))
  | _ => none
def argH (K : PySem.W.Frag) (h : Heap) (A : List Addr) : Hp := fun b => if b ∈ A then (if (K.lookup b).isNone = true then (h.get? b).bind hoOf else none) else none
/-- nothing is tracked but what is known to the object -/
def OnlyF (H : Hp) : Prop := ∀ b, H b = none ∨ ∃ o u, H b = some (.frz o u)
theorem hoOf_lst (vs : List Value) : hoOf { cls := .type "list", data := .seq vs.toArray } = some (.frz { cls := .type "list", data := .seq vs.toArray } (.lst (vs.map toV))) := by
  show (if (Value.type "list" == Value.type "list") = true then some (HO.frz { cls := .type "list", data := .seq vs.toArray } (.lst (vs.toArray.toList.map toV))) else some (HO.frz { cls := .type "list", data := .seq vs.toArray } (.tup (vs.toArray.toList.map toV)))) = _
  rw [if_pos (beq_self_eq_true _)]
theorem hoOf_tup (vs : List Value) : hoOf { cls := .type "tuple", data := .seq vs.toArray } = some (.frz { cls := .type "tuple", data := .seq vs.toArray } (.tup (vs.map toV))) := by
  show (if (Value.type "tuple" == Value.type "list") = true then some (HO.frz { cls := .type "tuple", data := .seq vs.toArray } (.lst (vs.toArray.toList.map toV))) else some (HO.frz { cls := .type "tuple", data := .seq vs.toArray } (.tup (vs.toArray.toList.map toV)))) = _
  rw [if_neg (by decide)]
section
variable {P : Program} {w : World} {K : PySem.W.Frag} {h : Heap} {A : List Addr}
theorem argH_at {b : Addr} {o : Obj} (hb : b ∈ A) (hk : K.lookup b = none) (e : h.get? b = some o) : argH K h A b = hoOf o := by
  unfold argH
  rw [if_pos hb, hk, if_pos (show (none : Option Obj).isNone = true from rfl), e] <;> rfl
theorem of_argH {b : Addr} {u : HO} (q : argH K h A b = some u) : b ∈ A ∧ K.lookup b = none := by
  unfold argH at q
  by_cases hb : b ∈ A
  · rw [if_pos hb] at q
    cases hk : K.lookup b with
    | none => exact ⟨hb, rfl⟩
    | some o =>
      rw [hk, if_neg (by simp)] at q
      cases q
  · rw [if_neg hb] at q
    cases q
/-- what stands tracked -/
theorem argH_is (ar : ∀ a ∈ A, ArgOb h A a) {b : Addr} {u : HO} (q : argH K h A b = some u) : K.lookup b = none ∧ ∃ vs : List Value, vs.length ≤ sizeLine ∧ (∀ u ∈ vs, OkU A u) ∧
    ((h.get? b = some { cls := .type "list", data := .seq vs.toArray } ∧ u = .frz { cls := .type "list", data := .seq vs.toArray } (.lst (vs.map toV))) ∨
     (h.get? b = some { cls := .type "tuple", data := .seq vs.toArray } ∧ u = .frz { cls := .type "tuple", data := .seq vs.toArray } (.tup (vs.map toV)))) := by
  obtain ⟨hb, hk⟩ := of_argH q
  obtain ⟨vs, h1, h2, h3⟩ := ar b hb
  refine ⟨hk, vs, h1, h2, ?_⟩
  rcases h3 with e | e
  · rw [argH_at hb hk e, hoOf_lst] at q
    exact .inl ⟨e, (Option.some.inj q).symm⟩
  · rw [argH_at hb hk e, hoOf_tup] at q
    exact .inr ⟨e, (Option.some.inj q).symm⟩
theorem argH_only (ar : ∀ a ∈ A, ArgOb h A a) : OnlyF (argH K h A) := fun b => by
  cases q : argH K h A b with
  | none => exact .inl rfl
  | some u =>
    obtain ⟨_, vs, _, _, ⟨_, e⟩ | ⟨_, e⟩⟩ := argH_is ar q
    · exact .inr ⟨_, _, by rw [e]⟩
    · exact .inr ⟨_, _, by rw [e]⟩
theorem argH_ok (ar : ∀ a ∈ A, ArgOb h A a) : HOk P w (argH K h A) h := fun b u q => by
  obtain ⟨_, vs, h1, h2, ⟨e, rfl⟩ | ⟨e, rfl⟩⟩ := argH_is ar q
  · exact ⟨e, by rw [List.length_map]; exact h1, vs, _, vals_toV h2, e⟩
  · exact ⟨e, by rw [List.length_map]; exact h1, vs, vals_toV h2, _, e, rfl, _, rfl⟩
theorem seq_inj {c c' : Value} {vs us : List Value} (e : (some { cls := c, data := .seq vs.toArray } : Option Obj) = some { cls := c', data := .seq us.toArray }) : c = c' ∧ vs = us := by
  have e1 := Option.some.inj e
  have e2 : c = c' := congrArg Obj.cls e1
  have e3 : Data.seq vs.toArray = Data.seq us.toArray := congrArg Obj.data e1
  injection e3 with e4
  refine ⟨e2, ?_⟩
  have e5 := congrArg Array.toList e4
  simpa using e5
/-- a list argument -/
theorem argL (KX : K.In h) (ar : ∀ a ∈ A, ArgOb h A a) {a : Addr} {vs : List Value} (ha : a ∈ A) (e : h.get? a = some { cls := .type "list", data := .seq vs.toArray }) : (∀ u ∈ vs, OkU A u) ∧ SqL K (argH K h A) a (vs.map toV) := by
  obtain ⟨us, h1, h2, h3⟩ := ar a ha
  have hu : us = vs := by
    rcases h3 with q | q
    · rw [e] at q
      exact (seq_inj q).2.symm
    · rw [e] at q
      exact absurd (Value.type.inj (seq_inj q).1) (by decide)
  subst hu
  refine ⟨h2, ?_⟩
  cases hk : K.lookup a with
  | none => exact .inl (.inr ⟨_, by rw [argH_at ha hk e, hoOf_lst]⟩)
  | some o =>
    have e2 := KX a o hk
    rw [e] at e2
    obtain rfl := Option.some.inj e2
    exact .inr ⟨_, us.toArray, _, hk, rfl, rfl, rfl, by rw [List.size_toArray]; exact h1, by simpa using vals_toV h2⟩
theorem argT (KX : K.In h) (ar : ∀ a ∈ A, ArgOb h A a) {a : Addr} {vs : List Value} (ha : a ∈ A) (e : h.get? a = some { cls := .type "tuple", data := .seq vs.toArray }) : (∀ u ∈ vs, OkU A u) ∧ SqT K (argH K h A) a (vs.map toV) := by
  obtain ⟨us, h1, h2, h3⟩ := ar a ha
  have hu : us = vs := by
    rcases h3 with q | q
    · rw [e] at q
      exact absurd (Value.type.inj (seq_inj q).1) (by decide)
    · rw [e] at q
      exact (seq_inj q).2.symm
  subst hu
  refine ⟨h2, ?_⟩
  cases hk : K.lookup a with
  | none => exact .inl (.inr ⟨_, by rw [argH_at ha hk e, hoOf_tup]⟩)
  | some o =>
    have e2 := KX a o hk
    rw [e] at e2
    obtain rfl := Option.some.inj e2
    exact .inr ⟨_, us.toArray, _, hk, rfl, rfl, by rw [List.size_toArray]; exact h1, by simpa using vals_toV h2⟩
mutual
theorem dw_one {Pm : Params} (KX : K.In h) (ar : ∀ a ∈ A, ArgOb h A a) : ∀ (d : WData) (v : Value), Well Pm h v d → plW d = true → OkU A v → Dw K (argH K h A) (toV v) d
  | .none, _, x, _, _ => by
    cases x
    exact .non
  | .bool b, _, x, _, _ => by
    cases x
    exact .bl b
  | .int i, _, x, _, _ => by
    cases x
    exact .int i
  | .str s, _, x, _, _ => by
    cases x
    exact .str s
  | .bytes b, _, x, _, _ => by
    cases x
    have z := Dw.byt (K := K) (H := argH K h A) b.toArray
    exact z
  | .list ds, _, x, p, hu => by
    obtain ⟨a, vs, rfl, ho, hall⟩ := well_list x
    obtain ⟨h2, hs⟩ := argL KX ar hu ho
    exact .lst hs (dw_all KX ar ds _ hall p h2)
  | .tuple ds, _, x, p, hu => by
    obtain ⟨a, vs, rfl, ho, hall⟩ := well_tuple x
    obtain ⟨h2, hs⟩ := argT KX ar hu ho
    exact .tup hs (dw_all KX ar ds _ hall p h2)
  | .float _, _, _, p, _ => Bool.noConfusion (show false = true from p)
  | .dict _, _, _, p, _ => Bool.noConfusion (show false = true from p)
  | .bytearray _, _, _, p, _ => Bool.noConfusion (show false = true from p)
  | .set _, _, _, p, _ => Bool.noConfusion (show false = true from p)
  | .frozenset _, _, _, p, _ => Bool.noConfusion (show false = true from p)
  | .obj _ _, _, _, p, _ => Bool.noConfusion (show false = true from p)
theorem dw_all {Pm : Params} (KX : K.In h) (ar : ∀ a ∈ A, ArgOb h A a) : ∀ (ds : List WData) (vs : List Value), WellAll Pm h vs ds → plWs ds = true → (∀ u ∈ vs, OkU A u) → DwAll K (argH K h A) (vs.map toV) ds
  | [], _, x, _, _ => by
    cases x
    exact .nil
  | d :: ds, _, x, p, hu => by
    obtain ⟨v, vs, rfl, x1, x2⟩ := well_cons x
    have q : plW d = true ∧ plWs ds = true := Bool.and_eq_true_iff.mp p
    exact .cons (dw_one KX ar d v x1 q.1 (hu _ (List.mem_cons_self ..))) (dw_all KX ar ds vs x2 q.2 fun u m => hu u (List.mem_cons_of_mem _ m))
end
end
/-! ### the call -/
theorem spec_call {P : Program} {w : World} {K : PySem.W.Frag} {mg mb : Str → Option Value} {CX : CXT} {k : Nat} {fa : Addr} {fd : FuncData} {ps : List Str} {sp : Sp} {s₁ : Shared} {vals : List Value} {ds : List WData} {R : PySem.W.WRecords} {cl : Str → Option Addr} {d0 : WData}
    (KX : K.In s₁.heap) (hns : s₁.heap.Ns mainGlobals mg) (hb : s₁.heap.Ns builtinsNs mb) (hbb : ∀ x : Str, x ≠ "__name__" → mb x = bootBuiltins x) (hlim : s₁.heap.NoLimit) (hg : s₁.gens = #[])
    (hwl : WellAll w.params s₁.heap vals ds) (hpl : plWs ds = true) (hwt : ∀ d ∈ ds, d.weight ≤ 1048576) (hr : Room k callerA)
    (F : ∀ base : Heap, K.In base → base.Ns mainGlobals mg → FnOk P w K mg base CX k fa fd ps sp) (hbind : ∀ (s : Shared) (us : List Value), us.length = ps.length → BindsTo s fd ⟨us, []⟩ (ps.zip us)) (hlen : ds.length = ps.length)
    (hsp : ∀ (H : Hp) (xs : List V), OnlyF H → DwAll K H xs ds → sp xs H (fun v H' => Dw K H' v d0) fun _ _ _ => False)
    (hCX : ∀ H e s', CX [] H s₁ (fun _ _ _ => False) e s' → False) :
    codeAny (model P w) callerA (.call (.ref fa) ⟨vals, []⟩) (fun r s' => ∃ u as, r = .ok (.ret u) ∧ ReadsW R cl s'.heap u d0 as ∧ OldK s₁.heap s'.heap ∧ s'.os = s₁.os ∧ AllBare s'.gens) s₁ := by
  obtain ⟨A, ho, ar⟩ := area_all ds vals hwl hpl hwt
  have hO : OnlyF (argH K s₁.heap A) := argH_only ar
  have hok : HOk P w (argH K s₁.heap A) s₁.heap := argH_ok ar
  have hS := dw_all KX ar ds vals hwl hpl ho
  have hV := vals_toV ho
  have hK : ∀ b u, argH K s₁.heap A b = some u → K.lookup b = none := fun b u q => (argH_is ar q).1
  have noA : ∀ {b : Addr} {o : Obj} {es : Array DictEntry} {ep : Nat}, s₁.heap.get? b = some o → o.data = .dict es ep → argH K s₁.heap A b = none := fun {b o es ep} e d => by
    cases q : argH K s₁.heap A b with
    | none => rfl
    | some u =>
      obtain ⟨_, vs, _, _, ⟨e2, _⟩ | ⟨e2, _⟩⟩ := argH_is ar q
      · rw [e2] at e
        cases e
        have d' : Data.seq vs.toArray _ = Data.dict es ep := d
        cases d'
      · rw [e2] at e
        cases e
        have d' : Data.seq vs.toArray _ = Data.dict es ep := d
        cases d'
  generalize argH K s₁.heap A = H at hO hok hS hK noA
  have base_of : ∀ {b : Addr} {o : Obj}, s₁.heap.get? b = some o → H b = none → (hidT s₁.heap H).get? b = some o := fun e n => hidT_get e n
  have nsK : ∀ {b : Addr} {m : Str → Option Value}, s₁.heap.Ns b m → (hidT s₁.heap H).Ns b m := fun {b m} ⟨o, es, ep, e, d, r⟩ => ⟨o, es, ep, base_of e (noA e d), d, r⟩
  have nK : ∀ b o, K.lookup b = some o → H b = none := fun b o e => by
    cases q : H b with
    | none => rfl
    | some u =>
      rw [hK b u q] at e
      cases e
  have hKb : K.In (hidT s₁.heap H) := fun b o e => base_of (KX b o e) (nK b o e)
  have hM : Mod K mg (hidT s₁.heap H) := ⟨hKb, nsK hns, ⟨mb, nsK hb, hbb⟩, let ⟨mc, h1, h2⟩ := hlim; ⟨mc, nsK h1, h2⟩⟩
  have e0 : Env0 P w K mg (hidT s₁.heap H) callerA [] s₁ H := ⟨rfl, hM, fun b o e => of_hidT e, Nat.le_of_eq (hidT_size _ _), trivial, fun b hb => absurd (show b ∈ ([] : List Addr) from hb) (by simp), hok, .of_eq hg⟩
  have hl : vals.length = ps.length := by rw [wellAll_len hwl]; exact hlen
  refine codeAny_mono ((F _ hKb (nsK hns)).run callerA [] s₁ H ⟨vals, []⟩ vals (vals.map toV) _ _ hr e0 (hbind s₁ vals hl) hV (hsp H _ hO hS)) fun r s' x => ?_
  cases r with
  | error e => exact (hCX H e s' x).elim
  | ok fl =>
    cases fl with
    | next => exact False.elim x
    | brk => exact False.elim x
    | cont => exact False.elim x
    | ret u =>
      obtain ⟨v, H', os, bare, un, hok', r', q⟩ := x
      have kept : ∀ b o, s₁.heap.get? b = some o → s'.heap.get? b = some o := fun b o e => by
        cases q2 : H b with
        | none => exact un.keep b o e q2 (by intro z; exact absurd (show b ∈ ([] : List Addr) from z) (by simp)) (by simp)
        | some u2 =>
          rcases hO b with z | ⟨ob, u3, z⟩
          · rw [q2] at z
            cases z
          · have z2 := un.frzs b ob _ z
            obtain ⟨e1, _⟩ := hok b _ z
            obtain ⟨e2, _⟩ := hok' b _ z2
            rw [e] at e1
            cases e1
            exact e2
      have KX' : K.In s'.heap := fun b o e => kept b o (KX b o e)
      obtain ⟨as, hrd⟩ := Dw.reads (R := R) (cl := cl) hok' KX' d0 v u q r'
      exact ⟨u, as, rfl, hrd, OldK.of_keep kept, os, bare⟩
/-! ### the row -/
theorem layable_weight {ds : List WData} (h : WData.layableAll ds = true) : ∀ d ∈ ds, d.weight ≤ 1048576 := fun d hd =>
  (PySem.W.layableW_iff.mp (List.all_eq_true.mp h d hd)).2.2
theorem encAll_len : ∀ (cs : List Codec) (a : Codec.denoteAll cs), (Codec.encAll cs a).length = cs.length
  | [], _ => rfl
  | c :: cs, a => by
    show (Codec.encAll cs a.2).length + 1 = cs.length + 1
    rw [encAll_len cs a.2]
/-- the goal that k_headS leaves (case hc), from the promise of the row's def: whatever the arguments that the codecs let and the row asks for, the def gives what stands for enc (f ..) -/
theorem walk_spec {r : OpenSpec} {k : Nat} {q : Program} {loose : List Str} {XP : (Str → Option Value) → Heap → Prop} {YP : World → Heap → Prop} {d : DefRec} {K : Params → PySem.W.Frag} {CX : World → CXT} {ps : List Str} {sp : World → Sp}
    (hwell : r.wellSaid = true) (hdf : d.params.defaults = []) (hlen : r.args.length = ps.length) (hr : Room k callerA)
    (hY : ∀ (w : World) (h : Heap), YP w h → (K w.params).In h)
    (F : ∀ (w : World) (mg : Str → Option Value) (fa : Addr) (h : Heap), YP w h → (K w.params).In h → h.Ns mainGlobals mg → mg d.name = some (.ref fa) →
      ∃ fd : FuncData, (∀ (s : Shared) (us : List Value), us.length = ps.length → BindsTo s fd ⟨us, []⟩ (ps.zip us)) ∧
        ∀ base : Heap, (K w.params).In base → base.Ns mainGlobals mg → FnOk r.prog w (K w.params) mg base (CX w) k fa fd ps (sp w))
    (hsp : ∀ (w : World) (H : Hp) (xs : List V) (a : Codec.denoteAll r.args), OnlyF H → Codec.withinAll r.args a = true → Codec.app r.args r.asked a = true → DwAll (K w.params) H xs (Codec.encAll r.args a) →
      sp w xs H (fun v H' => Dw (K w.params) H' v (r.ret.enc (Codec.app r.args r.f a))) fun _ _ _ => False)
    (hCX : ∀ (w : World) (H : Hp) (s : Shared) (e : Value) (s' : Shared), CX w [] H s (fun _ _ _ => False) e s' → False) :
    PySem.W.WalkOS q loose XP YP r d [] (fun f vs => PySem.call f vs) := by
  intro w s_0 s₁ mg mb G Y fa o pm cd doc dV kV ho hd hcd hD hmg hg args vals as hpre hlay hrd hwl hlo
  obtain ⟨a, e1, e2⟩ := PySem.W.os_pre_some hpre
  obtain ⟨e3, hwi⟩ := Codec.encAll_of_decAll r.args args a e1
  subst e3
  have KX := hY w _ Y
  obtain ⟨fd, hb, hF⟩ := F w mg fa _ Y KX G.T.g hmg
  refine PySem.W.enter_call (codeAny_mono (spec_call (R := []) (cl := classAt s_0.heap) (d0 := r.ret.enc (Codec.app r.args r.f a)) KX G.T.g G.T.b G.T.builtins G.T.nolimit hg hwl (pl_encAll _ _) (layable_weight hlay) hr hF hb (by rw [encAll_len]; exact hlen)
    (fun H xs hO hS => hsp w H xs a hO hwi e2 hS) fun H e s' => hCX w H s₁ e s') fun r' s' hq => ?_)
  obtain ⟨u, as', rfl, h1, h2, h3, h4⟩ := hq
  exact ⟨.inl ⟨u, _, as', rfl, fun _ => rfl, h1, (OpenSpec.post_iff hwell hwi _ _).mpr rfl, fun z => Bool.noConfusion (show false = true from z)⟩, h2, h3, h4⟩
/-- the same where the promise hangs on the written part alone -/
theorem walk_specK {r : OpenSpec} {k : Nat} {q : Program} {loose : List Str} {XP : (Str → Option Value) → Heap → Prop} {YP : World → Heap → Prop} {d : DefRec} {K : Params → PySem.W.Frag} {CX : CXT} {ps : List Str} {sp : PySem.W.Frag → Sp}
    (hwell : r.wellSaid = true) (hdf : d.params.defaults = []) (hlen : r.args.length = ps.length) (hr : Room k callerA)
    (hY : ∀ (w : World) (h : Heap), YP w h → (K w.params).In h)
    (F : ∀ (w : World) (mg : Str → Option Value) (fa : Addr) (h : Heap), YP w h → (K w.params).In h → h.Ns mainGlobals mg → mg d.name = some (.ref fa) →
      ∃ fd : FuncData, (∀ (s : Shared) (us : List Value), us.length = ps.length → BindsTo s fd ⟨us, []⟩ (ps.zip us)) ∧
        ∀ base : Heap, (K w.params).In base → base.Ns mainGlobals mg → FnOk r.prog w (K w.params) mg base CX k fa fd ps (sp (K w.params)))
    (hsp : ∀ (K : PySem.W.Frag) (H : Hp) (xs : List V) (a : Codec.denoteAll r.args), OnlyF H → Codec.withinAll r.args a = true → Codec.app r.args r.asked a = true → DwAll K H xs (Codec.encAll r.args a) →
      sp K xs H (fun v H' => Dw K H' v (r.ret.enc (Codec.app r.args r.f a))) fun _ _ _ => False)
    (hCX : ∀ (H : Hp) (s : Shared) (e : Value) (s' : Shared), CX [] H s (fun _ _ _ => False) e s' → False) :
    PySem.W.WalkOS q loose XP YP r d [] (fun f vs => PySem.call f vs) :=
  walk_spec (K := K) (CX := fun _ => CX) (sp := fun w => sp (K w.params)) hwell hdf hlen hr hY F (fun w H xs a h1 h2 h3 h4 => hsp (K w.params) H xs a h1 h2 h3 h4) fun _ H s e s' => hCX H s e s'
end L2
-- rests on (row put in by the clerk, for the bench that shows a file only what it spells): KE.SpHead KE.OsShapes
end

section
set_option maxRecDepth 100000
namespace Fc
/-! the table -/
theorem getD_push_lt {a : Array Nat} {x i : Nat} (h : i < a.size) : (a.push x).getD i 0 = a.getD i 0 := by
  simp [Array.getD, h, Nat.lt_succ_of_lt h, Array.getElem_push_lt]
theorem getD_push_eq {a : Array Nat} {x i : Nat} (h : i = a.size) : (a.push x).getD i 0 = x := by
  subst h
  simp [Array.getD]
theorem table_size (l : List Nat) : ∀ n, (Su99.table l n).size = n
  | 0 => rfl
  | n + 1 => by simp [Su99.table, table_size l n]
theorem table_get (l : List Nat) : ∀ (n i : Nat), i < n → (Su99.table l n).getD i 0 = Su99.fewest l i
  | 0, i, h => by omega
  | n + 1, i, h => by
    by_cases e : i < n
    · rw [← table_get l n i e]
      show ((Su99.table l n).push _).getD i 0 = _
      exact getD_push_lt (by rw [table_size l n]; exact e)
    · have : i = n := by omega
      subst this
      rfl
theorem foldl_congr {α β : Type} {f g : β → α → β} : ∀ {l : List α} {b : β}, (∀ b, ∀ a, a ∈ l → f b a = g b a) → l.foldl f b = l.foldl g b
  | [], _, _ => rfl
  | a :: l, b, h => by
    rw [List.foldl_cons, List.foldl_cons, h b a List.mem_cons_self]
    exact foldl_congr fun b c hc => h b c (List.mem_cons_of_mem _ hc)
theorem few_zero (l : List Nat) : Su99.fewest l 0 = 0 := by
  unfold Su99.fewest Su99.table
  exact getD_push_eq (by rw [table_size])
theorem few_rec (l : List Nat) {n : Nat} (h : 0 < n) : Su99.fewest l n = (l.filter fun c => decide (1 ≤ c) && decide (c ≤ n)).foldl (fun b c => min b (Su99.fewest l (n - c) + 1)) n := by
  have e : Su99.fewest l n = (l.filter fun c => decide (1 ≤ c) && decide (c ≤ n)).foldl (fun b c => min b ((Su99.table l n).getD (n - c) 0 + 1)) n := by
    show ((Su99.table l n).push _).getD n 0 = _
    rw [getD_push_eq (by rw [table_size]), if_neg (by omega)]
  rw [e]
  refine foldl_congr fun b c hc => ?_
  have hc2 := (List.mem_filter.mp hc).2
  simp at hc2
  rw [table_get l n (n - c) (by omega)]
theorem fold_le_init {f : Nat → Nat} : ∀ (l : List Nat) (b : Nat), l.foldl (fun b c => min b (f c)) b ≤ b
  | [], b => Nat.le_refl _
  | a :: l, b => by
    rw [List.foldl_cons]
    exact Nat.le_trans (fold_le_init l _) (Nat.min_le_left _ _)
theorem fold_le_mem {f : Nat → Nat} : ∀ (l : List Nat) (b c : Nat), c ∈ l → l.foldl (fun b c => min b (f c)) b ≤ f c
  | [], b, c, h => by cases h
  | a :: l, b, c, h => by
    rw [List.foldl_cons]
    rcases List.mem_cons.mp h with e | e
    · subst e
      exact Nat.le_trans (fold_le_init l _) (Nat.min_le_right _ _)
    · exact fold_le_mem l _ c e
theorem fold_at {f : Nat → Nat} : ∀ (l : List Nat) (b : Nat), l.foldl (fun b c => min b (f c)) b = b ∨ ∃ c, c ∈ l ∧ l.foldl (fun b c => min b (f c)) b = f c
  | [], b => .inl rfl
  | a :: l, b => by
    rw [List.foldl_cons]
    rcases fold_at (f := f) l (min b (f a)) with e | ⟨c, hc, e⟩
    · rw [e]
      by_cases h : b ≤ f a
      · exact .inl (Nat.min_eq_left h)
      · exact .inr ⟨a, List.mem_cons_self, Nat.min_eq_right (by omega)⟩
    · exact .inr ⟨c, List.mem_cons_of_mem _ hc, e⟩
theorem few_le (l : List Nat) (n : Nat) : Su99.fewest l n ≤ n := by
  by_cases h : 0 < n
  · rw [few_rec l h]
    exact fold_le_init _ _
  · have : n = 0 := by omega
    subst this
    rw [few_zero]
    exact Nat.le_refl _
theorem few_step_mem {l : List Nat} {n c : Nat} (h1 : 1 ≤ c) (h2 : c ≤ n) (h : c ∈ l) : Su99.fewest l n ≤ Su99.fewest l (n - c) + 1 := by
  rw [few_rec l (n := n) (by omega)]
  exact fold_le_mem (f := fun c => Su99.fewest l (n - c) + 1) _ _ _ (List.mem_filter.mpr ⟨h, by simp [h1, h2]⟩)
theorem few_at0 {l : List Nat} {n : Nat} (h : 0 < n) : Su99.fewest l n = n ∨ ∃ c, 1 ≤ c ∧ c ≤ n ∧ c ∈ l ∧ Su99.fewest l n = Su99.fewest l (n - c) + 1 := by
  rcases fold_at (f := fun c => Su99.fewest l (n - c) + 1) (l.filter fun c => decide (1 ≤ c) && decide (c ≤ n)) n with e | ⟨c, hc, e⟩
  · exact .inl (by rw [few_rec l h]; exact e)
  · have h2 := (List.mem_filter.mp hc).2
    simp at h2
    exact .inr ⟨c, h2.1, h2.2, (List.mem_filter.mp hc).1, by rw [few_rec l h]; exact e⟩
theorem few_one (l : List Nat) : ∀ (n : Nat), Su99.fewest l (n + 1) ≤ Su99.fewest l n + 1 := by
  intro n
  induction n using Nat.strongRecOn with
  | ind n ih =>
    by_cases h : 0 < n
    · rcases few_at0 (l := l) h with e | ⟨c, h1, h2, hm, e⟩
      · rw [e]
        exact few_le _ _
      · have a := few_step_mem (l := l) (n := n + 1) h1 (by omega) hm
        have b := ih (n - c) (by omega)
        have e2 : n + 1 - c = n - c + 1 := by omega
        rw [e2] at a
        omega
    · have : n = 0 := by omega
      subst this
      rw [few_zero]
      exact few_le _ _
/-- a coin that may be taken -/
def Coin (l : List Nat) (c : Nat) : Prop := 1 ≤ c ∧ (c = 1 ∨ c ∈ l)
theorem few_step {l : List Nat} {n c : Nat} (h : Coin l c) (h2 : c ≤ n) : Su99.fewest l n ≤ Su99.fewest l (n - c) + 1 := by
  rcases h with ⟨h1, rfl | hm⟩
  · have := few_one l (n - 1)
    have e : n - 1 + 1 = n := by omega
    rw [e] at this
    exact this
  · exact few_step_mem h1 h2 hm
theorem few_at {l : List Nat} {n : Nat} (h : 0 < n) : ∃ c, Coin l c ∧ c ≤ n ∧ Su99.fewest l n = Su99.fewest l (n - c) + 1 := by
  rcases few_at0 (l := l) h with e | ⟨c, h1, h2, hm, e⟩
  · refine ⟨1, ⟨Nat.le_refl _, .inl rfl⟩, h, ?_⟩
    have a := few_step (l := l) (n := n) (c := 1) ⟨Nat.le_refl _, .inl rfl⟩ h
    have b := few_le l (n - 1)
    omega
  · exact ⟨c, ⟨h1, .inr hm⟩, h2, e⟩
/-- coins that make the sum -/
def Pays (l : List Nat) (n : Nat) (cs : List Nat) : Prop := (∀ c, c ∈ cs → Coin l c) ∧ cs.sum = n
theorem few_le_pays {l : List Nat} : ∀ {cs : List Nat} {n : Nat}, Pays l n cs → Su99.fewest l n ≤ cs.length
  | [], n, h => by
    have : n = 0 := h.2.symm
    subst this
    rw [few_zero]
    exact Nat.zero_le _
  | c :: cs, n, h => by
    have hs : c + cs.sum = n := by rw [← List.sum_cons]; exact h.2
    have a := few_le_pays (cs := cs) (n := n - c) ⟨fun d hd => h.1 d (List.mem_cons_of_mem _ hd), by omega⟩
    have b := few_step (l := l) (n := n) (h.1 c List.mem_cons_self) (by omega)
    rw [List.length_cons]
    omega
theorem few_pays (l : List Nat) : ∀ n, ∃ cs, Pays l n cs ∧ cs.length = Su99.fewest l n := by
  intro n
  induction n using Nat.strongRecOn with
  | ind n ih =>
    by_cases h : 0 < n
    · obtain ⟨c, hc, h2, e⟩ := few_at (l := l) h
      obtain ⟨cs, hp, hl⟩ := ih (n - c) (by have := hc.1; omega)
      refine ⟨c :: cs, ⟨fun d hd => ?_, ?_⟩, ?_⟩
      · rcases List.mem_cons.mp hd with e | e
        · rw [e]; exact hc
        · exact hp.1 d e
      · rw [List.sum_cons, hp.2]
        omega
      · rw [List.length_cons, hl, e]
    · have : n = 0 := by omega
      subst this
      exact ⟨[], ⟨fun c hc => absurd hc (List.not_mem_nil), rfl⟩, (by rw [few_zero]; rfl)⟩
theorem few_mono {l l' : List Nat} (h : ∀ c, c ∈ l → c = 1 ∨ c ∈ l') (n : Nat) : Su99.fewest l' n ≤ Su99.fewest l n := by
  obtain ⟨cs, hp, hl⟩ := few_pays l n
  rw [← hl]
  refine few_le_pays ⟨fun c hc => ?_, hp.2⟩
  obtain ⟨h1, h2⟩ := hp.1 c hc
  refine ⟨h1, ?_⟩
  rcases h2 with e | e
  · exact .inl e
  · exact h c e
theorem few_congr {l l' : List Nat} (h : ∀ c, c ∈ l ↔ c ∈ l') (n : Nat) : Su99.fewest l n = Su99.fewest l' n :=
  Nat.le_antisymm (few_mono (fun c hc => .inr ((h c).mpr hc)) n) (few_mono (fun c hc => .inr ((h c).mp hc)) n)
theorem few_rev (l : List Nat) (n : Nat) : Su99.fewest l.reverse n = Su99.fewest l n := few_congr (fun _ => List.mem_reverse) n
/-- several coins of one kind -/
theorem few_steps {l : List Nat} {c : Nat} (h : Coin l c) : ∀ (m n : Nat), m * c ≤ n → Su99.fewest l n ≤ Su99.fewest l (n - m * c) + m
  | 0, n, _ => by simp
  | m + 1, n, hm => by
    have e : (m + 1) * c = m * c + c := by rw [Nat.add_mul, Nat.one_mul]
    have a := few_steps h m n (by omega)
    have b := few_step (l := l) (n := n - m * c) h (by omega)
    have e2 : n - (m + 1) * c = n - m * c - c := by omega
    rw [e2]
    omega
theorem pays_perm {l : List Nat} {n : Nat} {cs : List Nat} (h : Pays l n cs) {d : Nat} (hd : d ∈ cs) : d ≤ n ∧ Pays l (n - d) (cs.erase d) ∧ (cs.erase d).length + 1 = cs.length := by
  have p : (d :: cs.erase d).Perm cs := (List.perm_cons_erase hd).symm
  have s : d + (cs.erase d).sum = n := by
    rw [← List.sum_cons, p.sum_nat]
    exact h.2
  refine ⟨by omega, ⟨fun c hc => h.1 c (List.mem_of_mem_erase hc), by omega⟩, ?_⟩
  have := p.length_eq
  rw [List.length_cons] at this
  exact this
/-- no way with the fewest takes a kind of D: then the others do -/
theorem few_without {D l : List Nat} {n : Nat} (h : ∀ d, d ∈ D → 1 ≤ d → d ≠ 1 → d ≤ n → Su99.fewest (D ++ l) (n - d) + 1 ≠ Su99.fewest (D ++ l) n) : Su99.fewest (D ++ l) n = Su99.fewest l n := by
  refine Nat.le_antisymm (few_mono (fun c hc => .inr (List.mem_append_right _ hc)) n) ?_
  obtain ⟨cs, hp, hl⟩ := few_pays (D ++ l) n
  rw [← hl]
  refine few_le_pays ⟨fun c hc => ?_, hp.2⟩
  obtain ⟨h1, h2⟩ := hp.1 c hc
  refine ⟨h1, ?_⟩
  rcases h2 with e | e
  · exact .inl e
  · rcases List.mem_append.mp e with e | e
    · by_cases e1 : c = 1
      · exact .inl e1
      obtain ⟨a, b, q⟩ := pays_perm hp hc
      have f := few_le_pays b
      have g := few_step (hp.1 c hc) a
      exact absurd (by omega) (h c e h1 e1 a)
    · exact .inr e
end Fc

end

section
set_option maxRecDepth 100000
namespace Fc
open Su99 (fewest)
theorem few_min {ks : List Nat} (h1 : 1 ∈ ks) (hp : ∀ c, c ∈ ks → 1 ≤ c) {n M : Nat} (hn : 0 < n) (hm : ∃ c, c ∈ ks ∧ c ≤ n ∧ M = fewest ks (n - c)) (hle : ∀ c, c ∈ ks → c ≤ n → M ≤ fewest ks (n - c)) : fewest ks n = 1 + M := by
  obtain ⟨c, hc, hcn, rfl⟩ := hm
  have a := few_step (l := ks) (n := n) ⟨hp c hc, .inr hc⟩ hcn
  obtain ⟨d, hd, hdn, e⟩ := few_at (l := ks) hn
  have dm : d ∈ ks := by
    rcases hd.2 with z | z
    · rw [z]; exact h1
    · exact z
  have b := hle d dm hdn
  omega
/-! how -/
theorem find_last {p : Nat → Bool} : ∀ {q t : Nat}, t ≤ q → p t = true → (∀ m, t < m → m ≤ q → p m = false) → ((List.range (q + 1)).reverse.find? p) = some t
  | 0, t, h, ht, _ => by
    have : t = 0 := by omega
    subst this
    simp [ht]
  | q + 1, t, h, ht, hm => by
    rw [List.range_succ, List.reverse_append]
    show List.find? p ((q + 1) :: (List.range (q + 1)).reverse) = some t
    by_cases e : t = q + 1
    · subst e
      rw [List.find?_cons_of_pos ht]
    · rw [List.find?_cons_of_neg (by rw [hm (q + 1) (by omega) (Nat.le_refl _)]; exact Bool.false_ne_true)]
      exact find_last (by omega) ht fun m h1 h2 => hm m h1 (by omega)
/-- no way with the fewest takes a kind of D -/
def NoUse (D l : List Nat) (r : Nat) : Prop := ∀ d, d ∈ D → 1 ≤ d → d ≠ 1 → d ≤ r → fewest (D ++ l) (r - d) + 1 ≠ fewest (D ++ l) r
theorem how_step {D l : List Nat} {c r t : Nat} (hc : 1 ≤ c) (inv : NoUse D (c :: l) r) (ht : t * c ≤ r) (hF : fewest (D ++ c :: l) (r - t * c) + t = fewest (D ++ c :: l) r)
    (stop : c ≤ r - t * c → fewest (D ++ c :: l) (r - t * c - c) + 1 ≠ fewest (D ++ c :: l) (r - t * c)) :
    Su99.how (c :: l) r = t :: Su99.how l (r - t * c) ∧ NoUse (D ++ [c]) l (r - t * c) := by
  have eL : (D ++ [c]) ++ l = D ++ c :: l := by simp
  have cc : Coin (D ++ c :: l) c := ⟨hc, .inr (by simp)⟩
  have N2 : NoUse (D ++ [c]) l (r - t * c) := by
    intro d hd h1 h2 h3
    rw [eL]
    rcases List.mem_append.mp hd with hd | hd
    · intro e
      have a := few_steps cc t (r - d) (by omega)
      have e1 : r - d - t * c = r - t * c - d := by omega
      rw [e1] at a
      have b := few_step (l := D ++ c :: l) (n := r) (c := d) ⟨h1, .inr (by simp [hd])⟩ (by omega)
      exact inv d hd h1 h2 (by omega) (by omega)
    · have : d = c := by simpa using hd
      subst this
      exact stop h3
  refine ⟨?_, N2⟩
  have f1 : fewest (D ++ c :: l) r = fewest (c :: l) r := few_without inv
  have f2 : fewest (D ++ c :: l) (r - t * c) = fewest l (r - t * c) := by
    have := few_without (D := D ++ [c]) (l := l) (n := r - t * c) N2
    rw [eL] at this
    exact this
  have key : ((List.range (r / c + 1)).reverse.find? fun m => m + fewest l (r - m * c) == fewest (c :: l) r) = some t := by
    refine find_last ?_ ?_ ?_
    · exact (Nat.le_div_iff_mul_le hc).mpr ht
    · rw [beq_iff_eq, ← f1, ← f2]
      omega
    · intro m hm1 hm2
      rw [beq_eq_false_iff_ne]
      intro e
      have hmc : m * c ≤ r := (Nat.le_div_iff_mul_le hc).mp hm2
      have g1 : fewest (D ++ c :: l) (r - m * c) ≤ fewest l (r - m * c) := few_mono (fun x hx => .inr (by simp [hx])) _
      obtain ⟨j, rfl⟩ : ∃ j, m = t + 1 + j := ⟨m - (t + 1), by omega⟩
      have e2 : (t + 1 + j) * c = t * c + c + j * c := by rw [Nat.add_mul, Nat.add_mul, Nat.one_mul]
      have g2 := few_steps cc j (r - t * c - c) (by omega)
      have e3 : r - t * c - c - j * c = r - (t + 1 + j) * c := by omega
      rw [e3] at g2
      have g3 := few_step (l := D ++ c :: l) (n := r - t * c) cc (by omega)
      exact stop (by omega) (by omega)
  show (let m := (((List.range (r / c + 1)).reverse.find? fun m => m + fewest l (r - m * c) == fewest (c :: l) r)).getD 0; m :: Su99.how l (r - m * c)) = _
  rw [key]
  rfl
/-! ways -/
theorem sum_range_succ' (f : Nat → Nat) (n : Nat) : ((List.range (n + 1)).map f).sum = f 0 + ((List.range n).map fun k => f (k + 1)).sum := by
  rw [List.range_succ_eq_map, List.map_cons, List.sum_cons, List.map_map]
  rfl
theorem ways_rec {c : Nat} (hc : 1 ≤ c) (l : List Nat) (n m : Nat) : Su99.ways (c :: l) n m = Su99.ways l n m + if c ≤ n ∧ 1 ≤ m then Su99.ways (c :: l) (n - c) (m - 1) else 0 := by
  show ((List.range (min (n / c) m + 1)).map fun k => Su99.ways l (n - k * c) (m - k)).sum = _
  rw [sum_range_succ']
  by_cases h : c ≤ n ∧ 1 ≤ m
  · rw [if_pos h]
    have e : min (n / c) m = min ((n - c) / c) (m - 1) + 1 := by
      have : n / c = (n - c) / c + 1 := by
        rw [Nat.div_eq n c, if_pos ⟨by omega, h.1⟩]
      omega
    show _ = _ + ((List.range (min ((n - c) / c) (m - 1) + 1)).map fun k => Su99.ways l (n - c - k * c) (m - 1 - k)).sum
    rw [e]
    congr 1
    · simp
    · congr 1
      refine List.map_congr_left fun k _ => ?_
      have e1 : n - (k + 1) * c = n - c - k * c := by rw [Nat.add_mul, Nat.one_mul]; omega
      have e2 : m - (k + 1) = m - 1 - k := by omega
      rw [e1, e2]
  · rw [if_neg h]
    have e : min (n / c) m = 0 := by
      by_cases h1 : c ≤ n
      · have : m = 0 := by omega
        rw [this]
        exact Nat.min_zero _
      · rw [Nat.div_eq_of_lt (by omega)]
        omega
    rw [e]
    simp
theorem sum_zero : ∀ {l : List Nat}, (∀ x, x ∈ l → x = 0) → l.sum = 0
  | [], _ => rfl
  | a :: l, h => by
    rw [List.sum_cons, h a List.mem_cons_self, sum_zero fun x hx => h x (List.mem_cons_of_mem _ hx)]
theorem ways_pays : ∀ {l : List Nat} {n m : Nat}, (∀ c, c ∈ l → 1 ≤ c) → Su99.ways l n m ≠ 0 → ∃ cs, Pays l n cs ∧ cs.length = m
  | [], n, m, _, h => by
    have : n = 0 ∧ m = 0 := by
      by_cases e : n = 0 ∧ m = 0
      · exact e
      · exact absurd (show Su99.ways [] n m = 0 from if_neg e) h
    obtain ⟨rfl, rfl⟩ := this
    exact ⟨[], ⟨fun c hc => absurd hc List.not_mem_nil, rfl⟩, rfl⟩
  | c :: l, n, m, hp, h => by
    have : ∃ k, k < min (n / c) m + 1 ∧ Su99.ways l (n - k * c) (m - k) ≠ 0 := by
      by_cases e : ∃ k, k < min (n / c) m + 1 ∧ Su99.ways l (n - k * c) (m - k) ≠ 0
      · exact e
      · refine absurd ?_ h
        show ((List.range (min (n / c) m + 1)).map fun k => Su99.ways l (n - k * c) (m - k)).sum = 0
        refine sum_zero fun x hx => ?_
        obtain ⟨k, hk, rfl⟩ := List.mem_map.mp hx
        by_cases z : Su99.ways l (n - k * c) (m - k) = 0
        · exact z
        · exact absurd ⟨k, List.mem_range.mp hk, z⟩ e
    obtain ⟨k, hk, hw⟩ := this
    have c1 : 1 ≤ c := hp c List.mem_cons_self
    obtain ⟨cs, hcs, hl⟩ := ways_pays (fun d hd => hp d (List.mem_cons_of_mem _ hd)) hw
    have hkc : k * c ≤ n := (Nat.le_div_iff_mul_le c1).mp (by omega)
    refine ⟨List.replicate k c ++ cs, ⟨fun d hd => ?_, ?_⟩, ?_⟩
    · rcases List.mem_append.mp hd with hd | hd
      · rw [(List.mem_replicate.mp hd).2]
        exact ⟨c1, .inr List.mem_cons_self⟩
      · obtain ⟨d1, d2⟩ := hcs.1 d hd
        exact ⟨d1, d2.elim .inl fun z => .inr (List.mem_cons_of_mem _ z)⟩
    · rw [List.sum_append, hcs.2, List.sum_replicate_nat]
      omega
    · rw [List.length_append, List.length_replicate, hl]
      omega
theorem ways_zero {l : List Nat} {n m : Nat} (hp : ∀ c, c ∈ l → 1 ≤ c) (h : m < fewest l n) : Su99.ways l n m = 0 := by
  by_cases e : Su99.ways l n m = 0
  · exact e
  · obtain ⟨cs, hcs, hl⟩ := ways_pays hp e
    have := few_le_pays hcs
    omega
theorem few_cons {c : Nat} (hc : 1 ≤ c) (l : List Nat) (n : Nat) : fewest (c :: l) n = if c ≤ n then min (fewest l n) (fewest (c :: l) (n - c) + 1) else fewest l n := by
  have a : fewest (c :: l) n ≤ fewest l n := few_mono (fun x hx => .inr (List.mem_cons_of_mem _ hx)) n
  obtain ⟨cs, hp, hl⟩ := few_pays (c :: l) n
  by_cases hm : c ∈ cs
  · obtain ⟨h1, h2, h3⟩ := pays_perm hp hm
    rw [if_pos h1]
    have b := few_step (l := c :: l) (n := n) ⟨hc, .inr List.mem_cons_self⟩ h1
    have d := few_le_pays h2
    omega
  · have b : fewest l n ≤ cs.length := few_le_pays ⟨fun d hd => by
      obtain ⟨d1, d2⟩ := hp.1 d hd
      refine ⟨d1, d2.elim .inl fun z => ?_⟩
      rcases List.mem_cons.mp z with z | z
      · subst z; exact absurd hd hm
      · exact .inr z, hp.2⟩
    by_cases h1 : c ≤ n
    · rw [if_pos h1]
      have g := few_step (l := c :: l) (n := n) ⟨hc, .inr List.mem_cons_self⟩ h1
      omega
    · rw [if_neg h1]
      omega
theorem few_nil (n : Nat) : fewest [] n = n := by
  by_cases h : 0 < n
  · rw [few_rec [] h]; rfl
  · have : n = 0 := by omega
    subst this
    exact few_zero _
theorem few_ones (n : Nat) : fewest [1] n = n := by
  have := few_mono (l := [1]) (l' := []) (fun c hc => .inl (by simpa using hc)) n
  have b := few_le [1] n
  rw [few_nil] at this
  omega
theorem ways_ones : ∀ n : Nat, Su99.ways [1] n n = 1
  | 0 => rfl
  | n + 1 => by
    rw [ways_rec (Nat.le_refl 1), if_pos ⟨by omega, by omega⟩]
    have e : Su99.ways [] (n + 1) (n + 1) = 0 := if_neg (by omega)
    rw [e]
    show 0 + Su99.ways [1] n n = 1
    rw [ways_ones n]
/-- ways with the fewest: by one kind more -/
def fw (l : List Nat) (n : Nat) : Nat := Su99.ways l n (fewest l n)
theorem fw_small {c : Nat} {l : List Nat} {n : Nat} (hc : 1 ≤ c) (h : n < c) : fewest (c :: l) n = fewest l n ∧ fw (c :: l) n = fw l n := by
  have e : fewest (c :: l) n = fewest l n := by rw [few_cons hc, if_neg (by omega)]
  refine ⟨e, ?_⟩
  unfold fw
  rw [e, ways_rec hc, if_neg (by omega)]
  rfl
theorem fw_step {c : Nat} {l : List Nat} {n : Nat} (hc : 1 ≤ c) (hp : ∀ d, d ∈ l → 1 ≤ d) (h : c ≤ n) :
    (fewest (c :: l) (n - c) + 1 < fewest l n → fewest (c :: l) n = fewest (c :: l) (n - c) + 1 ∧ fw (c :: l) n = fw (c :: l) (n - c)) ∧
    (fewest (c :: l) (n - c) + 1 = fewest l n → fewest (c :: l) n = fewest l n ∧ fw (c :: l) n = fw l n + fw (c :: l) (n - c)) ∧
    (fewest l n < fewest (c :: l) (n - c) + 1 → fewest (c :: l) n = fewest l n ∧ fw (c :: l) n = fw l n) := by
  have hp2 : ∀ d, d ∈ c :: l → 1 ≤ d := fun d hd => (List.mem_cons.mp hd).elim (fun z => z ▸ hc) (hp d)
  have e : fewest (c :: l) n = min (fewest l n) (fewest (c :: l) (n - c) + 1) := by rw [few_cons hc, if_pos h]
  refine ⟨fun g => ?_, fun g => ?_, fun g => ?_⟩
  · have e2 : fewest (c :: l) n = fewest (c :: l) (n - c) + 1 := by omega
    refine ⟨e2, ?_⟩
    unfold fw
    rw [e2, ways_rec hc, if_pos ⟨h, by omega⟩, ways_zero hp g]
    simp
  · have e2 : fewest (c :: l) n = fewest l n := by omega
    refine ⟨e2, ?_⟩
    unfold fw
    rw [e2, ways_rec hc, if_pos ⟨h, by omega⟩]
    congr 2
    omega
  · have e2 : fewest (c :: l) n = fewest l n := by omega
    refine ⟨e2, ?_⟩
    unfold fw
    rw [e2, ways_rec hc]
    by_cases h1 : 1 ≤ fewest l n
    · rw [if_pos ⟨h, h1⟩, ways_zero hp2 (by omega)]
      rfl
    · rw [if_neg (by omega)]
      rfl
end Fc

end

section
set_option maxRecDepth 100000
namespace Fc
open Su99 (fewest)
theorem how_some {c : Nat} (hc : 1 ≤ c) (L : List Nat) : ∀ n : Nat, ∃ m, m ≤ n / c ∧ m + fewest L (n - m * c) = fewest (c :: L) n := by
  intro n
  induction n using Nat.strongRecOn with
  | ind n ih =>
    by_cases h : c ≤ n
    · have e := few_cons hc L n
      rw [if_pos h] at e
      by_cases h2 : fewest L n ≤ fewest (c :: L) (n - c) + 1
      · exact ⟨0, Nat.zero_le _, by simp; omega⟩
      · obtain ⟨m, h3, h4⟩ := ih (n - c) (by omega)
        have e1 : n / c = (n - c) / c + 1 := by rw [Nat.div_eq n c, if_pos ⟨by omega, h⟩]
        refine ⟨m + 1, by omega, ?_⟩
        have e2 : n - (m + 1) * c = n - c - m * c := by rw [Nat.add_mul, Nat.one_mul]; omega
        rw [e2]
        omega
    · have e := few_cons hc L n
      rw [if_neg h] at e
      exact ⟨0, Nat.zero_le _, by simp; omega⟩
theorem how_found {c : Nat} (hc : 1 ≤ c) (L : List Nat) (n : Nat) : ∃ m, Su99.how (c :: L) n = m :: Su99.how L (n - m * c) ∧ m + fewest L (n - m * c) = fewest (c :: L) n := by
  obtain ⟨m0, h1, h2⟩ := how_some hc L n
  cases e : (List.range (n / c + 1)).reverse.find? (fun m => m + fewest L (n - m * c) == fewest (c :: L) n) with
  | none =>
    have := List.find?_eq_none.mp e m0 (List.mem_reverse.mpr (List.mem_range.mpr (by omega)))
    simp [h2] at this
  | some m =>
    have hp := List.find?_some e
    refine ⟨m, ?_, by simpa using hp⟩
    show (let m := ((List.range (n / c + 1)).reverse.find? (fun m => m + fewest L (n - m * c) == fewest (c :: L) n)).getD 0; m :: Su99.how L (n - m * c)) = _
    rw [e]
    rfl
theorem how_sum : ∀ (l : List Nat) (n : Nat), (∀ c, c ∈ l → 1 ≤ c) → (Su99.how (l ++ [1]) n).sum = fewest (l ++ [1]) n
  | [], n, _ => by
    have e : Su99.how [1] n = [n] := by
      have key : ((List.range (n / 1 + 1)).reverse.find? fun m => m + fewest [] (n - m * 1) == fewest [1] n) = some n := by
        refine find_last (by simp) ?_ fun m h1 h2 => ?_
        · rw [few_nil, few_ones]
          simp
        · simp at h2
          omega
      show (let m := ((List.range (n / 1 + 1)).reverse.find? fun m => m + fewest [] (n - m * 1) == fewest [1] n).getD 0; m :: Su99.how [] (n - m * 1)) = _
      rw [key]
      rfl
    rw [List.nil_append, e, few_ones]
    simp
  | c :: l, n, h => by
    obtain ⟨m, e1, e2⟩ := how_found (h c List.mem_cons_self) (l ++ [1]) n
    rw [List.cons_append, e1, List.sum_cons, how_sum l _ fun d hd => h d (List.mem_cons_of_mem _ hd), e2]
theorem how_len : ∀ (l : List Nat) (n : Nat), (Su99.how l n).length = l.length
  | [], _ => rfl
  | c :: l, n => by
    show (Su99.how l _).length + 1 = l.length + 1
    rw [how_len l]
end Fc

end

section
set_option maxRecDepth 100000
namespace Fc
open Su99 (fewest)
theorem table_list (l : List Nat) : ∀ n, (Su99.table l n).toList = (List.range n).map (fewest l)
  | 0 => rfl
  | n + 1 => by
    have e : Su99.table l (n + 1) = (Su99.table l n).push (fewest l n) := by
      have h : (Su99.table l (n + 1)).getD n 0 = fewest l n := table_get l (n + 1) n (by omega)
      show (Su99.table l n).push _ = _
      congr 1
      rw [← h]
      show _ = ((Su99.table l n).push _).getD n 0
      rw [getD_push_eq (table_size l n).symm]
    rw [e, Array.toList_push, table_list l n, List.range_succ, List.map_append]
    rfl
theorem foldl_sum : ∀ (l : List Nat) (a : Nat), l.foldl (fun x y => x + y) a = a + l.sum
  | [], a => by simp
  | b :: l, a => by
    rw [List.foldl_cons, foldl_sum l, List.sum_cons]
    omega
theorem total_eq (l : List Nat) (n : Nat) : Su99.total l n = ((List.range (n + 1)).map (fewest l)).sum := by
  unfold Su99.total
  rw [← Array.foldl_toList, table_list, foldl_sum]
  omega
theorem total_congr {l l' : List Nat} (h : ∀ c, c ∈ l ↔ c ∈ l') (n : Nat) : Su99.total l n = Su99.total l' n := by
  rw [total_eq, total_eq]
  congr 1
  exact List.map_congr_left fun i _ => few_congr h i
/-! most -/
theorem first_max (f : Nat → Nat) : ∀ k : Nat, let b := (List.range (k + 1)).foldl (fun b i => if f b < f i then i else b) 0
    b ≤ k ∧ (∀ i, i ≤ k → f i ≤ f b) ∧ ∀ i, i < b → f i < f b
  | 0 => by
    have e : (List.range 1).foldl (fun b i => if f b < f i then i else b) 0 = 0 := by
      show (if f 0 < f 0 then 0 else 0) = 0
      split <;> rfl
    rw [show 0 + 1 = 1 from rfl, e]
    refine ⟨Nat.le_refl _, fun i hi => ?_, fun i hi => absurd hi (Nat.not_lt_zero _)⟩
    have : i = 0 := by omega
    rw [this]
    exact Nat.le_refl _
  | k + 1 => by
    obtain ⟨h1, h2, h3⟩ := first_max f k
    rw [List.range_succ, List.foldl_append, List.foldl_cons, List.foldl_nil]
    generalize (List.range (k + 1)).foldl (fun b i => if f b < f i then i else b) 0 = b at h1 h2 h3
    dsimp only
    by_cases h : f b < f (k + 1)
    · rw [if_pos h]
      refine ⟨Nat.le_refl _, fun i hi => ?_, fun i hi => ?_⟩
      · by_cases e : i = k + 1
        · rw [e]
          exact Nat.le_refl _
        · have := h2 i (by omega)
          omega
      · have := h2 i (by omega)
        omega
    · rw [if_neg h]
      refine ⟨by omega, fun i hi => ?_, h3⟩
      by_cases e : i = k + 1
      · rw [e]
        omega
      · exact h2 i (by omega)
theorem most_eq {ks : List Nat} {n m : Nat} (h0 : m ≤ n) (h1 : ∀ i, i ≤ n → fewest ks i ≤ fewest ks m) (h2 : ∀ i, i < m → fewest ks i < fewest ks m) : (⟨ks⟩ : Su99.Abs).most n = m := by
  have e : (⟨ks⟩ : Su99.Abs).most n = (List.range (n + 1)).foldl (fun b i => if fewest ks b < fewest ks i then i else b) 0 := by
    show (List.range (n + 1)).foldl (fun b i => if (Su99.table ks (n + 1)).getD b 0 < (Su99.table ks (n + 1)).getD i 0 then i else b) 0 = _
    have : ∀ (l : List Nat) (b : Nat), b ≤ n → (∀ i, i ∈ l → i ≤ n) → l.foldl (fun b i => if (Su99.table ks (n + 1)).getD b 0 < (Su99.table ks (n + 1)).getD i 0 then i else b) b = l.foldl (fun b i => if fewest ks b < fewest ks i then i else b) b := by
      intro l
      induction l with
      | nil => intro b _ _; rfl
      | cons a l ih =>
        intro b hb hl
        have ha := hl a List.mem_cons_self
        rw [List.foldl_cons, List.foldl_cons, table_get ks (n + 1) b (by omega), table_get ks (n + 1) a (by omega)]
        refine ih _ ?_ fun i hi => hl i (List.mem_cons_of_mem _ hi)
        split
        · exact ha
        · exact hb
    exact this _ 0 (Nat.zero_le _) fun i hi => by have := List.mem_range.mp hi; omega
  rw [e]
  have g := first_max (fewest ks) n
  generalize (List.range (n + 1)).foldl (fun b i => if fewest ks b < fewest ks i then i else b) 0 = b at g
  obtain ⟨g1, g2, g3⟩ := g
  by_cases q : b = m
  · exact q
  · have a1 := g2 m h0
    have a2 := h1 b g1
    by_cases z : b < m
    · have := h2 b z
      omega
    · have := g3 m (by omega)
      omega
/-! farthest -/
theorem find_first {p : Nat → Bool} {n i : Nat} (h : i < n) (hp : p i = true) (hb : ∀ s, s < i → p s = false) : (List.range n).find? p = some i := by
  rw [List.find?_range_eq_some]
  exact ⟨hp, by simpa using h, fun j hj => by rw [hb j hj]; rfl⟩
theorem far_eq2 {ks : List Nat} {m r : Nat} (h0 : r ≤ 1000) (h1 : ∀ i, i < r → fewest ks (i + 1) ≤ m) (h2 : r = 1000 ∨ m < fewest ks (r + 1)) : (⟨ks⟩ : Su99.Abs).farthest m = r := by
  show ((List.range 1001).find? fun i => decide (m < (Su99.table ks 1002).getD (i + 1) 0)).getD 1000 = r
  have hb : ∀ s, s < r → decide (m < (Su99.table ks 1002).getD (s + 1) 0) = false := fun s hs => by
    rw [table_get ks 1002 (s + 1) (by omega)]
    have := h1 s hs
    exact decide_eq_false (by omega)
  by_cases hm : m < fewest ks (r + 1)
  · rw [find_first (i := r) (by omega) (by rw [table_get ks 1002 (r + 1) (by omega)]; exact decide_eq_true hm) hb]
    rfl
  · have hr : r = 1000 := h2.elim id fun z => absurd z hm
    subst hr
    cases e : (List.range 1001).find? fun i => decide (m < (Su99.table ks 1002).getD (i + 1) 0) with
    | none => rfl
    | some j =>
      have hj := List.mem_range.mp (List.mem_of_find?_eq_some e)
      have hp := List.find?_some e
      show j = 1000
      by_cases z : j < 1000
      · rw [hb j z] at hp
        cases hp
      · omega
/-! best -/
theorem insert_mem (c : Nat) : ∀ (l : List Nat) (d : Nat), d ∈ Su99.insert c l ↔ d = c ∨ d ∈ l
  | [], d => by
    unfold Su99.insert
    simp
  | m :: l, d => by
    unfold Su99.insert
    by_cases h : c < m
    · rw [if_pos h]
      simp
    · rw [if_neg h, List.mem_cons, insert_mem c l d, List.mem_cons]
      constructor
      · rintro (z | z | z)
        · exact .inr (.inl z)
        · exact .inl z
        · exact .inr (.inr z)
      · rintro (z | z | z)
        · exact .inr (.inl z)
        · exact .inl z
        · exact .inr (.inr z)
/-- all coins with one kind more -/
def withK (ks : List Nat) (n c : Nat) : Nat := Su99.total (c :: ks) n
theorem with_insert (ks : List Nat) (n c : Nat) : Su99.total (Su99.insert c (ks.filter fun d => d != c)) n = withK ks n c := by
  refine total_congr (fun d => ?_) n
  rw [insert_mem, List.mem_cons, List.mem_filter]
  constructor
  · rintro (z | z)
    · exact .inl z
    · exact .inr z.1
  · rintro (z | z)
    · exact .inl z
    · by_cases e : d = c
      · exact .inl e
      · exact .inr ⟨z, by simpa using e⟩
theorem with_in {ks : List Nat} {n c : Nat} (h : c ∈ ks) : withK ks n c = Su99.total ks n :=
  total_congr (fun d => ⟨fun z => (List.mem_cons.mp z).elim (fun e => e ▸ h) id, List.mem_cons_of_mem _⟩) n
theorem with_not {ks : List Nat} {n c : Nat} : withK ks n c = Su99.total (Su99.insert c ks) n :=
  total_congr (fun d => by rw [insert_mem, List.mem_cons]) n
theorem best_fold (ks : List Nat) (n : Nat) : (⟨ks⟩ : Su99.Abs).bestKind n = ((List.range (n + 1)).drop 2).foldl (fun b c => if withK ks n c < withK ks n b then c else b) 1 := by
  show ((List.range (n + 1)).drop 2).foldl (fun b c => if Su99.total (Su99.insert c (ks.filter fun d => d != c)) n < Su99.total (Su99.insert b (ks.filter fun d => d != b)) n then c else b) 1 = _
  refine foldl_congr fun b c _ => ?_
  rw [with_insert, with_insert]
theorem fold_least (T : Nat → Nat) : ∀ k : Nat, let b := ((List.range k).map (fun i => i + 2)).foldl (fun b c => if T c < T b then c else b) 1
    (b = 1 ∨ (2 ≤ b ∧ b < k + 2 ∧ T b < T 1)) ∧ (∀ i, i < k → T b ≤ T (i + 2)) ∧ T b ≤ T 1 ∧ ∀ i, i + 2 < b → T b < T (i + 2)
  | 0 => ⟨.inl rfl, fun i hi => absurd hi (Nat.not_lt_zero _), Nat.le_refl _, fun i hi => absurd hi (by show ¬ i + 2 < 1; omega)⟩
  | k + 1 => by
    obtain ⟨h1, h2, h3, h4⟩ := fold_least T k
    rw [List.range_succ, List.map_append, List.map_cons, List.map_nil, List.foldl_append, List.foldl_cons, List.foldl_nil]
    generalize ((List.range k).map (fun i => i + 2)).foldl (fun b c => if T c < T b then c else b) 1 = b at h1 h2 h3 h4
    dsimp only
    by_cases h : T (k + 2) < T b
    · rw [if_pos h]
      refine ⟨.inr ⟨by omega, by omega, by omega⟩, fun i hi => ?_, by omega, fun i hi => ?_⟩
      · by_cases e : i = k
        · rw [e]; exact Nat.le_refl _
        · have := h2 i (by omega)
          omega
      · have := h2 i (by omega)
        omega
    · rw [if_neg h]
      refine ⟨?_, fun i hi => ?_, h3, h4⟩
      · rcases h1 with z | z
        · exact .inl z
        · exact .inr ⟨z.1, by omega, z.2.2⟩
      · by_cases e : i = k
        · rw [e]; omega
        · exact h2 i (by omega)
theorem drop_two (n : Nat) (h : 1 ≤ n) : (List.range (n + 1)).drop 2 = (List.range (n - 1)).map (fun i => i + 2) := by
  apply List.ext_getElem?
  intro i
  rw [List.getElem?_drop, List.getElem?_map]
  by_cases hi : i < n - 1
  · rw [List.getElem?_range (by omega), List.getElem?_range hi, Nat.add_comm]
    rfl
  · rw [List.getElem?_eq_none (by simp; omega), List.getElem?_eq_none (by simp; omega)]
    rfl
/-- the least kind with the fewest together: known by what is asked of it -/
theorem best_eq {ks : List Nat} {n b : Nat} (hn : 2 ≤ n) (h1 : b = 1 ∨ (2 ≤ b ∧ b ≤ n ∧ withK ks n b < withK ks n 1)) (h2 : ∀ c, 2 ≤ c → c ≤ n → withK ks n b ≤ withK ks n c) (h3 : ∀ c, 2 ≤ c → c < b → withK ks n b < withK ks n c) : (⟨ks⟩ : Su99.Abs).bestKind n = b := by
  rw [best_fold, drop_two n (by omega)]
  have g := fold_least (withK ks n) (n - 1)
  generalize ((List.range (n - 1)).map (fun i => i + 2)).foldl (fun b c => if withK ks n c < withK ks n b then c else b) 1 = d at g
  obtain ⟨g1, g2, g3, g4⟩ := g
  have h0 : withK ks n b ≤ withK ks n 1 := by
    rcases h1 with z | z
    · rw [z]; exact Nat.le_refl _
    · omega
  have gd : ∀ c, 2 ≤ c → c ≤ n → withK ks n d ≤ withK ks n c := fun c c1 c2 => by
    have := g2 (c - 2) (by omega)
    rw [show c - 2 + 2 = c by omega] at this
    exact this
  have gl : ∀ c, 2 ≤ c → c < d → withK ks n d < withK ks n c := fun c c1 c2 => by
    have := g4 (c - 2) (by omega)
    rw [show c - 2 + 2 = c by omega] at this
    exact this
  rcases g1 with e | ⟨d1, d2, d3⟩
  · rcases h1 with z | ⟨b1, b2, b3⟩
    · rw [e, z]
    · have := gd b b1 b2
      rw [e] at this
      omega
  · rcases h1 with z | ⟨b1, b2, b3⟩
    · have := h2 d d1 (by omega)
      rw [z] at this
      omega
    · by_cases q : d = b
      · exact q
      · have a1 := gd b b1 b2
        have a2 := h2 d d1 (by omega)
        by_cases z : d < b
        · have := h3 d d1 z
          omega
        · have := gl b b1 (by omega)
          omega
theorem with_one {ks : List Nat} (h : 1 ∈ ks) (n : Nat) : withK ks n 1 = Su99.total ks n := with_in h
end Fc

end

section
set_option maxRecDepth 100000
namespace Fc
/-! the list of calls -/
def P (r : List Int) : Option (List (List (List Int))) := PyFlat.calls PySu99.shape r.length r
def Alone (p : Int) : Prop := p = 0 ∨ p = 8 ∨ p = 9 ∨ p = 16 ∨ p = 17
def Numbered (p : Int) : Prop := p = 1 ∨ p = 2 ∨ p = 3 ∨ p = 4 ∨ p = 5 ∨ p = 6 ∨ p = 7 ∨ p = 10 ∨ p = 11 ∨ p = 12 ∨ p = 13 ∨ p = 14 ∨ p = 15 ∨ p = 18
theorem shape_three (p : Int) : (Alone p ∧ PySu99.shape p = some (0, 0)) ∨ (Numbered p ∧ PySu99.shape p = some (1, 0)) ∨ PySu99.shape p = none := by
  by_cases h : Alone p
  · refine .inl ⟨h, ?_⟩
    rcases h with rfl | rfl | rfl | rfl | rfl <;> rfl
  · by_cases h1 : Numbered p
    · refine .inr (.inl ⟨h1, ?_⟩)
      rcases h1 with rfl | rfl | rfl | rfl | rfl | rfl | rfl | rfl | rfl | rfl | rfl | rfl | rfl | rfl <;> rfl
    · refine .inr (.inr ?_)
      unfold PySu99.shape
      iterate 19 rw [if_neg (fun e => by subst e; first | exact h (by unfold Alone; decide) | exact h1 (by unfold Numbered; decide))]
theorem shape_cases (p : Int) : PySu99.shape p = some (0, 0) ∨ PySu99.shape p = some (1, 0) ∨ PySu99.shape p = none := by
  rcases shape_three p with h | h | h
  · exact .inl h.2
  · exact .inr (.inl h.2)
  · exact .inr (.inr h)
theorem call_0 {p : Int} {r : List Int} (h : PySu99.shape p = some (0, 0)) : PyFlat.call PySu99.shape (p :: r) = some ([[p]], r) := by
  unfold PyFlat.call
  dsimp only
  rw [h]
  simp [PyFlat.rows]
theorem call_1 {p x : Int} {r : List Int} (h : PySu99.shape p = some (1, 0)) : PyFlat.call PySu99.shape (p :: x :: r) = some ([[p, x]], r) := by
  unfold PyFlat.call
  dsimp only
  rw [h]
  simp [PyFlat.rows]
theorem call_1n {p : Int} (h : PySu99.shape p = some (1, 0)) : PyFlat.call PySu99.shape [p] = none := by
  unfold PyFlat.call
  dsimp only
  rw [h]
  simp
theorem call_n {p : Int} {r : List Int} (h : PySu99.shape p = none) : PyFlat.call PySu99.shape (p :: r) = none := by
  unfold PyFlat.call
  dsimp only
  rw [h]
theorem call_len {p : Int} {r t : List Int} {c : List (List Int)} (h : PyFlat.call PySu99.shape (p :: r) = some (c, t)) : t.length ≤ r.length := by
  rcases shape_cases p with e | e | e
  · rw [call_0 e] at h
    cases h
    exact Nat.le_refl _
  · cases r with
    | nil => rw [call_1n e] at h; cases h
    | cons x r =>
      rw [call_1 e] at h
      cases h
      exact Nat.le_succ _
  · rw [call_n e] at h
    cases h
theorem calls_fuel : ∀ (n : Nat) (r : List Int), r.length ≤ n → ∀ f, r.length ≤ f → PyFlat.calls PySu99.shape f r = PyFlat.calls PySu99.shape r.length r := by
  intro n
  induction n with
  | zero =>
    intro r hr f _
    have : r = [] := List.length_eq_zero_iff.mp (by omega)
    subst this
    cases f <;> rfl
  | succ n ih =>
    intro r hr f hf
    cases r with
    | nil => cases f <;> rfl
    | cons p r =>
      rw [List.length_cons] at hr hf
      obtain ⟨g, rfl⟩ : ∃ g, f = g + 1 := ⟨f - 1, by omega⟩
      show (match PyFlat.call PySu99.shape (p :: r) with
        | none => none
        | some (c, t) => match PyFlat.calls PySu99.shape g t with
          | none => none
          | some cs => some (c :: cs)) = (match PyFlat.call PySu99.shape (p :: r) with
        | none => none
        | some (c, t) => match PyFlat.calls PySu99.shape r.length t with
          | none => none
          | some cs => some (c :: cs))
      cases e : PyFlat.call PySu99.shape (p :: r) with
      | none => rfl
      | some ct =>
        obtain ⟨c, t⟩ := ct
        have hl := call_len e
        dsimp only
        rw [ih t (by omega) g (by omega), ih t (by omega) r.length hl]
theorem P_nil : P [] = some [] := rfl
theorem P_cons (p : Int) (r : List Int) : P (p :: r) = (match PyFlat.call PySu99.shape (p :: r) with
    | none => none
    | some (c, t) => match P t with
      | none => none
      | some cs => some (c :: cs)) := by
  show (match PyFlat.call PySu99.shape (p :: r) with
    | none => none
    | some (c, t) => match PyFlat.calls PySu99.shape r.length t with
      | none => none
      | some cs => some (c :: cs)) = _
  cases e : PyFlat.call PySu99.shape (p :: r) with
  | none => rfl
  | some ct =>
    obtain ⟨c, t⟩ := ct
    have hl := call_len e
    dsimp only
    rw [calls_fuel t.length t (Nat.le_refl _) r.length hl]
    rfl
theorem P_split {p : Int} {r : List Int} {raw : List (List (List Int))} (h : P (p :: r) = some raw) :
    (PySu99.shape p = some (0, 0) ∧ ∃ cs, P r = some cs ∧ raw = [[p]] :: cs) ∨ (PySu99.shape p = some (1, 0) ∧ ∃ x t cs, r = x :: t ∧ P t = some cs ∧ raw = [[p, x]] :: cs) := by
  rw [P_cons] at h
  rcases shape_cases p with e | e | e
  · rw [call_0 e] at h
    dsimp only at h
    cases q : P r with
    | none => rw [q] at h; cases h
    | some cs =>
      rw [q] at h
      cases h
      exact .inl ⟨e, cs, rfl, rfl⟩
  · cases r with
    | nil => rw [call_1n e] at h; cases h
    | cons x t =>
      rw [call_1 e] at h
      dsimp only at h
      cases q : P t with
      | none => rw [q] at h; cases h
      | some cs =>
        rw [q] at h
        cases h
        exact .inr ⟨e, x, t, cs, rfl, q, rfl⟩
  · rw [call_n e] at h
    cases h
theorem whole_1 {p : Int} (h : Alone p) : PySu99.whole [[p]] = [[p]] := by
  rcases h with rfl | rfl | rfl | rfl | rfl <;> rfl
theorem whole_2 {p : Int} (h : Numbered p) (x : Int) : PySu99.whole [[p, x]] = [[p, x]] := by
  rcases h with rfl | rfl | rfl | rfl | rfl | rfl | rfl | rfl | rfl | rfl | rfl | rfl | rfl | rfl <;> rfl
/-- what is answered from a state on -/
def out (s : Su99Neutral.S) (cs : List (List (List Int))) : List Int := PyFlat.told (PyFlat.played (fun s c => Su99Neutral.step s (c.headD [])) s (cs.map PySu99.whole))
theorem out_nil (s : Su99Neutral.S) : out s [] = [] := rfl
theorem out_1 {p : Int} (h : Alone p) (s : Su99Neutral.S) (cs : List (List (List Int))) : out s ([[p]] :: cs) = (((Su99Neutral.step s [p]).2.length : Int) :: (Su99Neutral.step s [p]).2) ++ out (Su99Neutral.step s [p]).1 cs := by
  unfold out
  rw [List.map_cons, whole_1 h]
  rfl
theorem out_2 {p : Int} (h : Numbered p) (s : Su99Neutral.S) (x : Int) (cs : List (List (List Int))) : out s ([[p, x]] :: cs) = (((Su99Neutral.step s [p, x]).2.length : Int) :: (Su99Neutral.step s [p, x]).2) ++ out (Su99Neutral.step s [p, x]).1 cs := by
  unfold out
  rw [List.map_cons, whole_2 h]
  rfl
theorem answers_out {l : List Int} {raw : List (List (List Int))} (h : P l = some raw) : PySu99.answers l = out Su99Neutral.start raw := by
  unfold PySu99.answers PySu99.calls
  rw [show PyFlat.calls PySu99.shape l.length l = some raw from h]
  rfl
theorem asked_P {l : List Int} (h : PySu99.answers_asked l = true) : ∃ raw, P l = some raw ∧ (PySu99.answers l).length ≤ 10000000 := by
  unfold PySu99.answers_asked at h
  cases e : PyFlat.calls PySu99.shape l.length l with
  | none => rw [e] at h; cases h
  | some raw =>
    rw [e] at h
    refine ⟨raw, e, ?_⟩
    have := (Bool.and_eq_true _ _ ▸ h).2
    unfold PyFlat.short at this
    exact of_decide_eq_true this
/-- the calls without a number -/
theorem shape_0 {p : Int} (h : PySu99.shape p = some (0, 0)) : Alone p := by
  rcases shape_three p with e | e | e
  · exact e.1
  · rw [e.2] at h; cases h
  · rw [e] at h; cases h
theorem shape_1 {p : Int} (h : PySu99.shape p = some (1, 0)) : Numbered p := by
  rcases shape_three p with e | e | e
  · rw [e.2] at h; cases h
  · exact e.1
  · rw [e] at h; cases h
theorem step_some {a : Su99.Abs} {c : List Int} {x : Su99.Call} (h : Su99Neutral.callOf c = some x) : Su99Neutral.step (some a) c = (some (Su99.does a x).1, (Su99.does a x).2.value :: Su99Neutral.outs (Su99.does a x).2.out) := by
  unfold Su99Neutral.step
  rw [h]
  rfl
theorem step_none {c : List Int} {x : Su99.Call} (h : Su99Neutral.callOf c = some x) (hb : x ≠ .begin_) : Su99Neutral.step none c = (none, [-11]) := by
  unfold Su99Neutral.step
  rw [h]
  cases x <;> first | rfl | exact absurd rfl hb
theorem step_begin (s : Su99Neutral.S) : Su99Neutral.step s [0] = (some ⟨[1]⟩, [0]) := by
  cases s <;> rfl
end Fc

end

section
set_option Elab.async false
set_option linter.all false
set_option maxRecDepth 100000
set_option maxHeartbeats 2000000
namespace Fc
open PySem PySem.W PySem.Calls PyProof.Rows PySem.Spec
theorem lri_no_len : typeLookup (.type "list_reverseiterator") "__len__" = pure none := by rw [typeLookup_type, builtinLookup_eq_fast]; kernel_rfl
theorem lri_hint : typeLookup (.type "list_reverseiterator") "__length_hint__" = pure (some (.builtin "list_reverseiterator.__length_hint__")) := by rw [typeLookup_type, builtinLookup_eq_fast]; kernel_rfl
section
variable {prog : Program} {w : World} {A : Around} {E : Value → Shared → Prop} {s : Shared} {r l : Addr} {items : Array Value}
theorem rev_hint {Q : Bool → Shared → Prop} (hT : s.TypeIs (.ref r) "list_reverseiterator") (h : Q false s) : wpAny (model prog w) A (Builtin.List.listLengthHint (.ref r)) Q E s := by
  unfold Builtin.List.listLengthHint
  refine wpAny_bind (wpAny_specialOf hT lri_no_len ?_)
  wp_delta
  refine wpAny_ite_split (fun hab => absurd hab (by decide +kernel)) (fun _ => ?_)
  refine wpAny_ite_split (fun hab => absurd hab (by decide +kernel)) (fun _ => ?_)
  refine wpAny_bind (wpAny_specialOf hT lri_hint ?_)
  generalize hid : ("list_reverseiterator.__length_hint__" : String) = id0
  wp_delta
  rw [show splitId id0 = some ("list_reverseiterator", "__length_hint__") from by subst hid; decide +kernel]
  subst hid
  refine wpAny_bind (wpAny_isInstance (T := "list_reverseiterator") (b := true) hT (by rw [isSubtype_type]; kernel_rfl) ?_)
  refine wpAny_ite_split (fun hab => absurd hab (by decide)) (fun _ => ?_)
  refine wpAny_ite_split (fun _ => ?_) (fun hab => absurd (by decide +kernel) hab)
  refine wpAny_ite_split (fun hab => absurd hab (by decide +kernel)) (fun _ => ?_)
  exact wpAny_pure h
theorem rev_extend {R : Result → Shared → Prop} (hh : A.handled = none) (hr : s.heap.IsRevIter r l ((items.size : Int) - 1)) (hl : s.heap.IsList l items) (hne : l ≠ r) (S : Addr) (hSr : S ≠ r) (hSd : S ≠ l) (res : Value) (c₀ : Nat) (hS : s.heap.get? S = some { cls := .type "list", data := .seq #[] c₀ })
    (hR : ∀ h' tk acc' c', (∀ b o, b ≠ S → b ≠ r → s.heap.get? b = some o → h'.get? b = some o) → h'.get? S = some { cls := .type "list", dict := none, data := .seq acc' c', slots := #[] } → ItemsOf (fun i v => items[items.size - 1 - i]? = some v) acc' items.size → R (.ok (.ret res)) { s with heap := h', toks := tk }) (hn : items.size ≤ sizeLine) :
    wpAny (model prog w) A.in1 (Builtin.List.listExtendWith (.ref S) (.ref r) res)
      (fun fin s' => match fin with | .done f => R (.ok f) s' | .again c' => c'.quiet = true ∧ codeAny (model prog w) A c' R s') (fun e s' => R (.error e) s') s := by
  have hSf : S ∉ [r, l] := by simp only [List.mem_cons, List.not_mem_nil, or_false, not_or]; exact ⟨hSr, hSd⟩
  have W := Walks.listRev (prog := prog) (w := w) (A := A.in1) hh r l hne items
  unfold Builtin.List.listExtendWith
  refine wpAny_bind (wpAny_typeOf (T := "list_reverseiterator") hr.typeIs ?_)
  have h1 : Builtin.List.listSameRef (.ref S) (.ref r) = false := by simp [Builtin.List.listSameRef, hSr]
  have h2 : (Value.type "list_reverseiterator" == Value.type "list") = false := by decide
  have h3 : (Value.type "list_reverseiterator" == Value.type "tuple") = false := by decide
  simp only [h1, h2, h3, Bool.or_false, Bool.false_eq_true, if_false]
  refine wpAny_bind (wpAny_pyIter_revIter hr ?_)
  refine wpAny_bind (wpAny_holding (rev_hint hr.typeIs ?_))
  refine wpAny_ite_split (fun hab => absurd hab (by decide +kernel)) (fun _ => wpAny_pure ⟨plainId_quiet PySem.F.plain_extend_loop _, ?_⟩)
  refine codeAny_extend_loopS W.toS hn S hSf res items.size 0 _ #[] c₀ rfl (Nat.zero_le _) ⟨Nat.zero_le _, by simpa using hr, hl⟩ hS (ItemsOf.nil _) fun s' acc' c' hm hS' hacc => ?_
  rw [Moved.eq_with hm]
  refine hR s'.heap s'.toks acc' c' (fun b o hb hbr e => hm.heap b o (fun hmem => ?_) e) hS' hacc
  rcases List.mem_cons.mp hmem with e' | hmem
  · exact hb e'
  · exact hbr (List.mem_singleton.mp hmem)
theorem rev_init {R : Result → Shared → Prop} (hh : A.handled = none) (hr : s.heap.IsRevIter r l ((items.size : Int) - 1)) (hl : s.heap.IsList l items) (hne : l ≠ r) (S : Addr) (hSr : S ≠ r) (hSd : S ≠ l) (hS : s.heap.get? S = some { cls := .type "list", data := .seq #[] })
    (hR : ∀ h' tk acc' c', (∀ b o, b ≠ S → b ≠ r → s.heap.get? b = some o → h'.get? b = some o) → h'.get? S = some { cls := .type "list", dict := none, data := .seq acc' c', slots := #[] } → ItemsOf (fun i v => items[items.size - 1 - i]? = some v) acc' items.size → R (.ok (.ret .none)) { s with heap := h', toks := tk }) (hn : items.size ≤ sizeLine) :
    wpAny (model prog w) A.in1 (Builtin.«list.__init__» ⟨[.ref S, .ref r], []⟩)
      (fun fin s' => match fin with | .done f => R (.ok f) s' | .again c' => c'.quiet = true ∧ codeAny (model prog w) A c' R s') (fun e s' => R (.error e) s') s := by
  show wpAny _ _ (do let old ← Builtin.List.listItems (.ref S); Builtin.List.listUpdate (.ref S) (fun _ => #[]); letGo old.toList.reverse; Builtin.List.listExtendWith (.ref S) (.ref r) .none) _ _ s
  refine wpAny_bind ?_
  unfold Builtin.List.listItems
  refine wpAny_bind (wpAny_seqItems hS rfl (wpAny_pure ?_))
  show wpAny _ _ (updateSeq S (fun _ => #[]) >>= fun _ => letGo (#[] : Array Value).toList.reverse >>= fun _ => Builtin.List.listExtendWith (.ref S) (.ref r) .none) _ _ s
  refine wpAny_bind (wpAny_updateSeq hS rfl ?_)
  have hS₂ := Heap.get?_update_self (Obj.mapSeq (fun _ => (#[] : Array Value))) hS rfl
  have oth : ∀ b o, b ≠ S → s.heap.get? b = some o → (s.heap.update S (Obj.mapSeq (fun _ => (#[] : Array Value)))).get? b = some o :=
    fun b o hb e => (Heap.get?_update_other _ _ (Ne.symm hb)).trans e
  refine wpAny_bind (wpAny_letGo ?_)
  refine rev_extend hh (hr.at fun o e => oth r o hSr.symm e) (hl.at fun o e => oth l o hSd.symm e) hne S hSr hSd .none _ hS₂ (fun h' tk acc' c' hk hS' hacc => ?_) hn
  exact hR h' tk acc' c' (fun b o hb hbr e => hk b o hb hbr (oth b o hb e)) hS' hacc
theorem rev_call {Q : Value → Shared → Prop} (hh : A.handled = none) (hr : s.heap.IsRevIter r l ((items.size : Int) - 1)) (hl : s.heap.IsList l items) (hne : l ≠ r) (hn : items.size ≤ sizeLine)
    (hQ : ∀ h' tk acc' c', (∀ b o, b ≠ r → s.heap.get? b = some o → h'.get? b = some o) → h'.get? s.heap.objs.size = some { cls := .type "list", dict := none, data := .seq acc' c', slots := #[] } → ItemsOf (fun i v => items[items.size - 1 - i]? = some v) acc' items.size → Q (.ref s.heap.objs.size) { s with heap := h', toks := tk }) :
    wpAny (model prog w) A (call (.type "list") [.ref r]) Q E s := by
  refine callType_codes (Q₁ := fun obj s₁ => obj = .ref s.heap.objs.size ∧ s₁ = { s with heap := s.heap.push { cls := .type "list", data := .seq #[] } }) PySem.F.called_list (PySem.F.typeCall_list_1 _) PySem.F.entry_list_init
    (code_list_new _ ⟨rfl, rfl⟩) fun obj s₁ h₁ => ?_
  obtain ⟨rfl, rfl⟩ := h₁
  have hS : (s.heap.push { cls := .type "list", data := .seq #[] }).get? s.heap.objs.size = some { cls := .type "list", data := .seq #[] } := Heap.get?_push_size _ rfl
  obtain ⟨o1, q1, _⟩ := id hr
  obtain ⟨o2, q2, _⟩ := id hl
  refine ⟨⟨_, hS, rfl⟩, PySem.F.args_list_init_2 _ _, rev_init (A := A.in1) hh (hr.at fun o e => Heap.get?_push_of_some _ e) (hl.at fun o e => Heap.get?_push_of_some _ e) hne _ (Nat.ne_of_gt (Heap.lt_size q1)) (Nat.ne_of_gt (Heap.lt_size q2)) hS (fun h' tk acc' c' hk hS' hacc => ?_) hn⟩
  exact ⟨rfl, hQ h' tk acc' c' (fun b o hb e => hk b o (Nat.ne_of_lt (Heap.lt_size e)) hb (Heap.get?_push_of_some _ e)) hS' hacc⟩
end
end Fc

end

section
set_option Elab.async false
set_option linter.all false
set_option maxRecDepth 100000
set_option maxHeartbeats 2000000
namespace Fc
open PySem PySem.Spec PyProof.Rows L2
theorem vals_of_get : ∀ {xs : List V} {us : List Value}, xs.length = us.length → (∀ (i : Nat) (x : V) (u : Value), xs[i]? = some x → us[i]? = some u → RelV x u) → Vals xs us
  | [], [], _, _ => .nil
  | x :: xs, u :: us, hl, h => .cons (h 0 x u rfl rfl) (vals_of_get (by simpa using hl) fun i y v h1 h2 => h (i + 1) y v h1 h2)
  | [], _ :: _, hl, _ => by simp at hl
  | _ :: _, [], hl, _ => by simp at hl
theorem boot_listF : bootBuiltins "list" = some (.type "list") := by decide +kernel
section
variable {X : Cx} {e : Expr} {ta : TA} {p p2 pos pos2 : Pos}
def tListRev (K : PySem.W.Frag) (ta : TA) : TE := fun σ H Q => ta σ H fun vs H1 => ∃ (a : Addr) (xs : List V), vs = [.ref a] ∧ SqL K H1 a xs ∧ ∀ l, H1 l = none → Q (.ref l) (upd H1 l (.lst xs.reverse))
theorem vals_rev {xs : List V} {its : List Value} (rv : Vals xs its) {acc : Array Value} (h : ItemsOf (fun i v => its.toArray[its.toArray.size - 1 - i]? = some v) acc its.toArray.size) : Vals xs.reverse acc.toList := by
  have e : acc.toList = its.reverse := by
    apply List.ext_getElem?
    intro i
    by_cases hi : i < its.length
    · have h1 : i < acc.toList.length := by rw [Array.length_toList, h.1]; simpa using hi
      have h2 : acc.toList[i]? = some acc.toList[i] := List.getElem?_eq_getElem h1
      have h3 := h.2 i _ (by rw [← Array.getElem?_toList]; exact h2)
      rw [h2, List.getElem?_reverse hi, ← h3]
      simp
    · rw [List.getElem?_eq_none (by rw [Array.length_toList, h.1]; simpa using hi), List.getElem?_eq_none (by simpa using hi)]
  rw [e]
  clear h e
  induction rv with
  | nil => exact .nil
  | cons r t ih =>
    rw [List.reverse_cons, List.reverse_cons]
    exact ih.append (.cons r .nil)
theorem pe_listRev (hgl : Gl X "list") (hml : X.mg "list" = none) (hg : Gl X "reversed") (hm : X.mg "reversed" = none) (hc : X.calm = true) (ha : PA X [e] ta) (hs : starEach [e] X.env = [(false, eval e X.env)] := by rfl)
    (hs2 : starEach [(Expr.Call (.Name "reversed" p2) [e] [] pos2)] X.env = (false, eval (Expr.Call (.Name "reversed" p2) [e] [] pos2) X.env) :: starEach [] X.env := by rfl) :
    PE X (.Call (.Name "list" p) [.Call (.Name "reversed" p2) [e] [] pos2] [] pos) (tListRev X.K ta) := by
  intro pins s σ H Q I h
  refine wpAny_Call_Name_kw (ld_blt I hgl hml boot_listF ?_ (by decide) (by decide))
  refine PyProof.Rows.callWith_type1 ?_ hs2 rfl
  rw [hs2]
  show wpAny _ _ (spliced ((false, eval (Expr.Call (.Name "reversed" p2) [e] [] pos2) X.env) :: backTo pos (starEach [] X.env))) _ _ s
  refine Calls.spliced_cons ?_
  refine Call_ (ld_blt I hg hm boot_reversed5 (PyProof.Rows.callWith_type1 (thn (ha pos2 pins s σ H _ I h) fun us s1 ⟨vs, H1, I1, r1, q1⟩ => ?_) hs rfl))
  obtain ⟨a, xs, e, hq, q⟩ := q1
  subst e
  cases r1 with
  | cons r rr =>
    cases rr
    cases r
    obtain ⟨its, rv, p', hz⟩ := I1.list hq
    have hl := rv.length
    have hne : a ≠ s1.heap.objs.size := Nat.ne_of_lt (let ⟨_, q, _⟩ := p'.isList; Heap.lt_size q)
    refine call_reversed_list p'.isList ?_
    refine Calls.spliced_nil ?_
    refine rev_call (s := { s1 with heap := s1.heap.push (revObj a ((its.toArray.size : Int) - 1)) }) (r := s1.heap.objs.size) (l := a) (items := its.toArray) (I1.ok.hd hc) ⟨_, Heap.get?_push_size _ rfl, rfl, rfl⟩ (p'.isList.at fun o e => Heap.get?_push_of_some _ e) hne (by simp only [List.size_toArray]; omega) fun h' tk acc' c' hk hS hacc => ?_
    have kp : ∀ b u, s1.heap.get? b = some u → h'.get? b = some u := fun b u e => hk b u (Nat.ne_of_lt (Heap.lt_size e)) (Heap.get?_push_of_some _ e)
    have hle : s1.heap.objs.size ≤ (s1.heap.push (revObj a ((its.toArray.size : Int) - 1))).objs.size := by simp [Heap.push]
    refine ⟨.ref _, _, I1.laid (t' := tk) kp hle (show ObjOk X.prog X.w _ h' _ (.lst xs.reverse) from ⟨by rw [List.length_reverse]; omega, acc'.toList, c', vals_rev rv hacc, by simpa using hS⟩), rfl, q _ (I1.hok.fresh hle)⟩
def tListRng (ta : TA) : TE := fun σ H Q => ta σ H fun vs H1 => ∃ j : Nat, vs = [.int j] ∧ j ≤ 2 ^ 24 ∧ ∀ l, H1 l = none → Q (.ref l) (upd H1 l (.lst ((List.range j).map fun (i : Nat) => V.int (i : Int))))
theorem pe_listRng (hgl : Gl X "list") (hml : X.mg "list" = none) (hg : Gl X "range") (hm : X.mg "range" = none) (hc : X.calm = true) (ha : PA X [e] ta) (hs : starEach [e] X.env = [(false, eval e X.env)] := by rfl)
    (hs2 : starEach [(Expr.Call (.Name "range" p2) [e] [] pos2)] X.env = (false, eval (Expr.Call (.Name "range" p2) [e] [] pos2) X.env) :: starEach [] X.env := by rfl) :
    PE X (.Call (.Name "list" p) [.Call (.Name "range" p2) [e] [] pos2] [] pos) (tListRng ta) := by
  intro pins s σ H Q I h
  refine wpAny_Call_Name_kw (ld_blt I hgl hml boot_listF ?_ (by decide) (by decide))
  refine PyProof.Rows.callWith_type1 ?_ hs2 rfl
  rw [hs2]
  show wpAny _ _ (spliced ((false, eval (Expr.Call (.Name "range" p2) [e] [] pos2) X.env) :: backTo pos (starEach [] X.env))) _ _ s
  refine Calls.spliced_cons ?_
  refine Call_ (ld_blt I hg hm boot_range (PyProof.Rows.callWith_type1 (thn (ha pos2 pins s σ H _ I h) fun us s1 ⟨vs, H1, I1, r1, q1⟩ => ?_) hs rfl))
  obtain ⟨j, e, hj, q⟩ := q1
  subst e
  cases r1 with
  | cons r rr =>
    cases rr
    obtain ⟨t, rfl⟩ := r
    refine call_range_1 ?_
    refine Calls.spliced_nil ?_
    refine call_list_range (n := j) (I1.ok.hd hc) (IsRange.new ..) (small_one (by omega) (by omega) (by omega) (by omega)) (by rw [rangeSize_one]; split <;> omega) hj fun h' tk acc' c' hk hS hacc => ?_
    have kp : ∀ b u, s1.heap.get? b = some u → h'.get? b = some u := fun b u e => hk b u (Heap.get?_push_of_some _ e)
    have hle : s1.heap.objs.size ≤ (s1.heap.push { cls := .type "range", data := .fields #[.int 0 s1.toks, .int (j : Int) t, .int 1 (s1.toks + 1)] }).objs.size := by simp [Heap.push]
    refine ⟨.ref _, _, I1.laid (t' := tk) kp hle (show ObjOk X.prog X.w _ h' _ (.lst ((List.range j).map fun (i : Nat) => V.int (i : Int))) from ⟨?_, acc'.toList, c', ?_, by simpa using hS⟩), rfl, q _ (I1.hok.fresh hle)⟩
    · rw [List.length_map, List.length_range, sizeLine_eq]
      omega
    · refine vals_of_get (by rw [List.length_map, List.length_range, Array.length_toList, hacc.1]) fun i x u h1 h2 => ?_
      obtain ⟨t', e⟩ := hacc.2 i u (by rw [← Array.getElem?_toList]; exact h2)
      rw [List.getElem?_map] at h1
      by_cases hi : i < j
      · rw [List.getElem?_range hi] at h1
        cases h1
        rw [e]
        exact ⟨t', by simp⟩
      · rw [List.getElem?_eq_none (by simpa using hi)] at h1
        cases h1
end
end Fc

end

section
set_option Elab.async false
set_option linter.all false
set_option maxRecDepth 100000
set_option maxHeartbeats 2000000
namespace Fc
open PySem PySem.Spec PyProof.Rows L2
/-! ### a dict of the module: ints to functions -/
/-- the entries of a written dict -/
def ents (kfs : List (Int × Tok × Addr)) : List DictEntry := kfs.map fun x => ⟨hashInt x.1, .int x.1 x.2.1, .ref x.2.2⟩
structure KDict (K : PySem.W.Frag) (d : Addr) (kfs : List (Int × Tok × Addr)) : Prop where
  ex : ∃ (es : Array DictEntry) (ep : Nat), K.lookup d = some { cls := .type "dict", data := .dict es ep } ∧ es.toList = ents kfs
  nd : (kfs.map (·.1)).Nodup
  sm : (d == sysModules) = false
def kdVals (kfs : List (Int × Tok × Addr)) : List (Key × Value) := kfs.map fun x => (Sum.inl x.1, .ref x.2.2)
theorem ents_pairs (P : Program) (w : World) : ∀ kfs : List (Int × Tok × Addr), Pairs (mixKind P w) (ents kfs) (kdVals kfs)
  | [] => .nil
  | (k, t, f) :: r => by
    show Pairs (mixKind P w) (⟨hashInt k, .int k t, .ref f⟩ :: ents r) ((Sum.inl k, .ref f) :: kdVals r)
    first
      | exact .cons (mixKind_int P w k t) (ents_pairs P w r)
      | exact .cons _ _ _ (mixKind_int P w k t) (ents_pairs P w r)
      | (constructor <;> first | exact mixKind_int P w k t | exact ents_pairs P w r | rfl)
theorem kd_of {P : Program} {w : World} {K : PySem.W.Frag} {h : Heap} {d : Addr} {kfs : List (Int × Tok × Addr)} (D : KDict K d kfs) (KX : K.In h) : h.DictOf (mixKind P w) d (kdVals kfs) := by
  obtain ⟨es, ep, hl, e⟩ := D.ex
  refine ⟨_, es, ep, KX _ _ hl, ⟨rfl, rfl, rfl⟩, rfl, fun x hx => ?_, by rw [e]; exact ents_pairs P w kfs, ?_⟩
  · have hx : x ∈ es.toList := by simpa using hx
    rw [e] at hx
    obtain ⟨y, _, rfl⟩ := List.mem_map.mp hx
    exact ⟨Sum.inl y.1, mixKind_int P w y.1 y.2.1, rfl⟩
  · unfold kdVals
    rw [List.map_map]
    have : ((fun x : Key × Value => x.1) ∘ fun x : Int × Tok × Addr => ((Sum.inl x.1 : Key), Value.ref x.2.2)) = (fun z : Int => (Sum.inl z : Key)) ∘ (fun x : Int × Tok × Addr => x.1) := rfl
    rw [this, ← List.map_map]
    have inj : ∀ l : List Int, l.Nodup → (l.map fun z => (Sum.inl z : Key)).Nodup := fun l hl => by
      induction hl with
      | nil => exact List.nodup_nil
      | cons h1 _ ih =>
        rw [List.map_cons]
        refine List.nodup_cons.mpr ⟨fun hm => ?_, ih⟩
        obtain ⟨z, hz, e⟩ := List.mem_map.mp hm
        cases e
        exact h1 _ hz rfl
    exact inj _ D.nd
def kdGet (kfs : List (Int × Tok × Addr)) (k : Int) : Option Addr := (kfs.find? fun x => decide (x.1 = k)).map (·.2.2)
theorem kd_val (kfs : List (Int × Tok × Addr)) (k : Int) : valueAt (kdVals kfs) (Sum.inl k) = (kdGet kfs k).map Value.ref := by
  unfold valueAt kdGet kdVals
  induction kfs with
  | nil => rfl
  | cons x r ih =>
    rw [List.map_cons, List.find?_cons, List.find?_cons]
    have e : decide ((Sum.inl x.1 : Key) = Sum.inl k) = decide (x.1 = k) := by
      by_cases h : x.1 = k
      · rw [decide_eq_true h, h]
        exact decide_eq_true rfl
      · rw [decide_eq_false h]
        exact decide_eq_false fun q => h (Sum.inl.inj q)
    simp only [e]
    cases decide (x.1 = k) with
    | true => rfl
    | false => exact ih
section
variable {X : Cx} {i e : Expr} {es : List Expr} {pos p : Pos} {ty : TE} {g x : Str} {d : Addr} {kfs : List (Int × Tok × Addr)} {t : TA}
def tKGet (kfs : List (Int × Tok × Addr)) (ty : TE) : TE := fun σ H Q => ty σ H fun y H1 => ∃ k f, y = .int k ∧ kdGet kfs k = some f ∧ Q (.ref f) H1
theorem pe_kget (D : KDict X.K d kfs) (hg : Gl X g) (hm : X.mg g = some (.ref d)) (hi : PE X i ty) (hs : NoSl i) (hd : (g == ("__debug__" : Str)) = false := by decide) : PE X (.Subscript (.Name g p) i pos) (tKGet kfs ty) := by
  intro pins s σ H Q I h
  refine subD_of PySem.F.slot_dict_getitem.lookup hs (ld_glob I hg hm (thn (hi pins s σ H _ I h) fun iv s2 ⟨y, H2, I2, ry, k, f, ey, hf, q⟩ => ?_) hd)
  subst ey
  have dd : s2.heap.DictOf (mixKind X.prog X.w) d (kdVals kfs) := kd_of D I2.kIn
  refine ⟨dd.typeIs, wpAny_getItem_of (kV_is (k := Sum.inl k) ry) dd.mapOf (v := .ref f) (by rw [kd_val, hf]; rfl) ⟨.ref f, H2, I2.tok _, rfl, q⟩⟩
def rKIn (d : Addr) (kfs : List (Int × Tok × Addr)) : R2 := fun x y H Q => ∃ k, x = .int k ∧ y = .ref d ∧ Q (.bl (kdGet kfs k).isSome) H
theorem op_in_kd (D : KDict X.K d kfs) : OpR X (compareOp .In) (rKIn d kfs) := by
  intro pins s σ H x y v u Q I rx ry h
  obtain ⟨k, rfl, rfl, q⟩ := h
  cases ry
  have dd : s.heap.DictOf (mixKind X.prog X.w) d (kdVals kfs) := kd_of D I.kIn
  refine wpAny_in_of (kV_is (k := Sum.inl k) rx) D.sm dd.mapOf ⟨.bl (kdGet kfs k).isSome, H, I.tok _, ?_, q⟩
  rw [kd_val]
  cases kdGet kfs k <;> rfl
/-- a def that is known by its address -/
def Known (X : Cx) (k : Nat) (f : Addr) (sp : Sp) : Prop := ∃ (fd : FuncData) (ps : List Str), FnOk X.prog X.w X.K X.mg X.base CX0 k f fd ps sp ∧ PySem.W.keepIn X.K (.ref f) = true ∧ Binds X.K fd ps []
def tCallV (X : Cx) (k i : Nat) (t : TA) : TE := fun σ H Q => ∃ (f : Addr) (sp : Sp), σ[i]? = some (some (.ref f)) ∧ Known X k f sp ∧ t σ H fun vs H1 => sp vs H1 Q E0
theorem pe_callV {k : Nat} (j : Nat) (hr : Room k X.A) (hN : X.N[j]? = some x) (hv : Vis X.env.scope x) (hx : Passes CX0 X E0) (ha : PA X (e :: es) t) (hd : (x == ("__debug__" : Str)) = false := by decide) (hcd : (x == ("__classdict__" : Str)) = false := by decide)
    (he : starEach (e :: es) X.env = (false, eval e X.env) :: starEach es X.env := by rfl) (hpl : (backTo pos (starEach es X.env)).any (·.1) = false := by rfl) :
    PE X (.Call (.Name x p) (e :: es) [] pos) (tCallV X k j t) := by
  intro pins s σ H Q I h
  obtain ⟨f, sp, hσ, ⟨fd, ps, F, hk, hb⟩, h⟩ := h
  refine wpAny_Call_Name_kw ?_
  refine thn (pe_var (pos := p) hN hv hd hcd pins s σ H (fun v H1 => v = .ref f ∧ H1 = H) I ⟨_, hσ, rfl, rfl⟩) fun u s1 ⟨v, H1, I1, r1, ev, eh⟩ => ?_
  subst ev eh
  cases r1
  refine PySem.W.callWith_K (h₀ := X.base) I1.ok.mod.kin hk (thn (ha pos pins s1 σ _ _ I1 h) fun us s2 ⟨vs, H2, I2, r, q⟩ => ⟨I2.kIn, ?_⟩) he hpl
  exact run_fn F hr hb .nil hx I2 r (by rw [List.append_nil]; exact q)
end
end Fc

end

section
set_option Elab.async false
set_option linter.all false
set_option maxRecDepth 100000
set_option maxHeartbeats 2000000
namespace Fc
open PySem PySem.Spec PyProof.Rows L2
/-! ### the text by places -/
def top (i : Nat) : Stmt := PySem.Challenge.pw_fewestcoins_s01_answers.main.body.getD i (.Pass ⟨0, 0, 0, 0⟩)
abbrev sWom : Stmt := top 1
abbrev sFew : Stmt := top 2
abbrev sGrt : Stmt := top 3
abbrev sGup : Stmt := top 4
abbrev sWay : Stmt := top 5
abbrev sCnt : Stmt := top 6
abbrev sEdg : Stmt := top 7
abbrev sWut : Stmt := top 8
abbrev sLst : Stmt := top 9
abbrev sFwt : Stmt := top 10
abbrev sBst : Stmt := top 11
abbrev sStp : Stmt := top 12
def nv (k : Nat) : V := V.int (k : Int)
def nvs (l : List Nat) : List V := l.map nv
theorem nvs_len (l : List Nat) : (nvs l).length = l.length := List.length_map ..
theorem nvs_get {l : List Nat} {i : Nat} {x : V} (h : (nvs l)[i]? = some x) : ∃ k, l[i]? = some k ∧ x = nv k := by
  unfold nvs at h
  rw [List.getElem?_map] at h
  cases e : l[i]? with
  | none => rw [e] at h; cases h
  | some k => rw [e] at h; exact ⟨k, rfl, (Option.some.inj h).symm⟩
theorem nvs_app (l l' : List Nat) : nvs (l ++ l') = nvs l ++ nvs l' := List.map_append ..
theorem nvs_rev (l : List Nat) : (nvs l).reverse = nvs l.reverse := List.map_reverse.symm
/-- the builtins' names stand for the builtins -/
structure Blt (mg : Str → Option Value) : Prop where
  list_ : mg "list" = none
  rev_ : mg "reversed" = none
  rng_ : mg "range" = none
  min_ : mg "min" = none
  max_ : mg "max" = none
  sum_ : mg "sum" = none
  len_ : mg "len" = none
  srt_ : mg "sorted" = none
/-- a def that may be called by its name -/
def Cal (P : Program) (w : World) (K : PySem.W.Frag) (mg : Str → Option Value) (base : Heap) (k : Nat) (x : Str) (ps : List Str) (sp : Sp) : Prop :=
  ∃ (f : Addr) (fd : FuncData), FnOk P w K mg base CX0 k f fd ps sp ∧ PySem.W.keepIn K (.ref f) = true ∧ Binds K fd ps [] ∧ mg x = some (.ref f)
theorem Cal.mono {P : Program} {w : World} {K : PySem.W.Frag} {mg : Str → Option Value} {base : Heap} {j k : Nat} {x : Str} {ps : List Str} {sp : Sp} (h : Cal P w K mg base j x ps sp) (l : j ≤ k) : Cal P w K mg base k x ps sp := by
  obtain ⟨f, fd, G, a, b, c⟩ := h
  exact ⟨f, fd, G.mono l, a, b, c⟩
theorem small_size {n : Nat} (h : n ≤ 16000000) : n ≤ sizeLine := by rw [sizeLine_eq]; omega
theorem small_size1 {n : Nat} (h : n ≤ 16000000) : n < sizeLine := by rw [sizeLine_eq]; omega
theorem _root_.L2.Same.upd_new {H H' : Hp} (e : Same H H') {l : Addr} {o : HO} (h : H' l = none) : Same H (upd H' l o) := fun b u q => by
  rw [upd_ne (ne_of_none (e _ _ q) h)]
  exact e _ _ q
theorem _root_.L2.Same.upd_free {H H' : Hp} (e : Same H H') {l : Addr} {o : HO} (h : H l = none) : Same H (upd H' l o) := fun b u q => by
  rw [upd_ne (ne_of_none q h)]
  exact e _ _ q
theorem for_rev {K : PySem.W.Frag} {a : Addr} {xs : List V} {g : TG} {tb : TS} {D : Ends} {σ : L2.St} {H : Hp} (Pv : Nat → L2.St → Hp → Prop) (h0 : Pv 0 σ H) (hl : ∀ i σ H, i ≤ xs.length → Pv i σ H → SqL K H a xs)
    (hs : ∀ i x σ H, xs.reverse[i]? = some x → Pv i σ H → g x σ H fun σ2 H2 => tb { D with nx := Pv (i + 1), ct := Pv (i + 1), bk := D.nx } σ2 H2) (hd : ∀ σ H, Pv xs.length σ H → D.nx σ H) :
    ∃ W : Nat → Nat → L2.St → Hp → Prop, (∃ m, W 0 m σ H) ∧ ∀ i m σ H, W i m σ H →
      ((Itv K a xs.length).stop i H ∧ D.nx σ H) ∨ ((Itv K a xs.length).go i H ∧ ∃ N : L2.St → Hp → Prop, (∀ σ' H', N σ' H' → ∃ m', m' < m ∧ W (i + 1) m' σ' H') ∧ ∀ x H', (Itv K a xs.length).yld i H x H' → g x σ H' fun σ2 H2 => tb { D with nx := N, ct := N, bk := D.nx } σ2 H2) := by
  refine ⟨fun i m σ H => m = xs.length - i ∧ i ≤ xs.length ∧ Pv i σ H, ⟨xs.length, by simp, Nat.zero_le _, h0⟩, ?_⟩
  rintro i m σ H ⟨rfl, hi, p⟩
  have q := hl i σ H hi p
  by_cases hlt : i < xs.length
  · refine .inr ⟨⟨hlt, xs, xs[xs.length - 1 - i], q, List.getElem?_eq_getElem (by omega)⟩, Pv (i + 1), fun σ' H' p' => ⟨xs.length - (i + 1), by omega, rfl, hlt, p'⟩, fun x H' y => ?_⟩
    obtain ⟨e, y⟩ := y
    subst e
    exact hs i x σ _ (by rw [List.getElem?_reverse hlt]; exact y xs q) p
  · have e : i = xs.length := by omega
    subst e
    exact .inl ⟨Nat.le_refl _, hd σ H p⟩
/-! ### the greatest first -/
def restOf : List Nat → Nat → Nat
  | [], n => n
  | c :: l, n => restOf l (n % c)
theorem first_snoc : ∀ (l : List Nat) (c n : Nat), Su99.first (l ++ [c]) n = Su99.first l n ++ [restOf l n / c] ∧ restOf (l ++ [c]) n = restOf l n % c
  | [], c, n => ⟨rfl, rfl⟩
  | d :: l, c, n => by
    obtain ⟨h1, h2⟩ := first_snoc l c (n % d)
    exact ⟨by show n / d :: Su99.first (l ++ [c]) (n % d) = _; rw [h1]; rfl, h2⟩
theorem take_snoc {α : Type} {l : List α} {i : Nat} {x : α} (h : l[i]? = some x) : l.take (i + 1) = l.take i ++ [x] := by
  rw [List.take_add_one, h]
  rfl
theorem first_len : ∀ (l : List Nat) (n : Nat), (Su99.first l n).length = l.length
  | [], _ => rfl
  | c :: l, n => by
    show (Su99.first l (n % c)).length + 1 = _
    rw [first_len l]
    rfl
def KPos (ks : List Nat) : Prop := ∀ c, c ∈ ks → 1 ≤ c ∧ c ≤ 1000000
def spGrt (K : PySem.W.Frag) : Sp := fun vs H Q _ => ∃ (a : Addr) (ks : List Nat) (n : Nat), vs = [.ref a, nv n] ∧ SqL K H a (nvs ks) ∧ KPos ks ∧ ks.length ≤ 1000 ∧
  ∀ (H' : Hp) (p : Addr), Same H H' → H p = none → H' p = some (.lst (nvs (Su99.first ks.reverse n).reverse)) → Q (.ref p) H'
section
variable {P : Program} {w : World} {K : PySem.W.Frag} {mg : Str → Option Value} {base : Heap}
theorem scGrt : FnScope ["kinds", "total", "falling", "rest", "worth"] ["kinds", "total"] (defScope sGrt) := ⟨rfl, rfl, rfl, by decide +kernel, rfl, by decide +kernel, by decide +kernel⟩
theorem ok_grt {f : Addr} {fd : FuncData} (F : Fun K "greatest_first" "greatest_first" sGrt f fd) (B : Blt mg) : FnOk P w K mg base CX0 1 f fd ["kinds", "total"] (spGrt K) := by
  refine F.ok scGrt (fun vs H Q E h => ?_) (fun cdv A outer s H vs Q E hr h => ?_)
  · obtain ⟨a, ks, n, rfl, _⟩ := h
    rfl
  · obtain ⟨a, ks, n, rfl, hS, hpos, hlen, k⟩ := h
    refine ⟨_, pss_cons (ps_set (i := 2) scGrt.nd rfl (Or.inl rfl) (pe_lst pa_nil))
      (pss_cons (ps_set (i := 3) scGrt.nd rfl (Or.inl rfl) (pv 1))
      (pss_cons (ps_for PassesOwn.never rfl (pi_reversed rfl B.rev_ (pa_cons (pv 0) pa_nil)) (pg_name (i := 4) scGrt.nd rfl (Or.inl rfl))
        (pss_cons (ps_expr (pe_bm PySem.F.plainAttrs_list PySem.F.slot_list_append PySem.F.type_list_append mt_append (pv 2) (pa_cons (pe_op op_fdiv (pv 3) (pv 4)) pa_nil)))
        (pss_one (ps_set (i := 3) scGrt.nd rfl (Or.inl rfl) (pe_op op_mod (pv 3) (pv 4))))))
      (pss_one (ps_ret (pe_listRev rfl B.list_ rfl B.rev_ rfl (pa_cons (pv 2) pa_nil)))))), ?_⟩
    refine ⟨Nat.zero_le _, fun q hq => ?_⟩
    refine ⟨_, rfl, ?_⟩
    have s1 : Same H (upd H q (.lst [])) := L2.Same.upd_new (H := H) (fun _ _ e => e) hq
    refine ⟨_, rfl, a, _, rfl, s1.seq hS, ?_⟩
    refine for_rev (K := K) (a := a) (xs := nvs ks) (fun i σ H' => ∃ v : Option V, σ = [some (.ref a), some (nv n), some (.ref q), some (nv (restOf (ks.reverse.take i) n)), v] ∧ Same H H' ∧ H' q = some (.lst (nvs (Su99.first (ks.reverse.take i) n))))
      ⟨none, rfl, s1, upd_same⟩ (fun i σ H' _ ⟨_, _, s5, _⟩ => s5.seq hS) ?_ ?_
    · rintro i y σ H' hi ⟨v, rfl, s5, hq'⟩
      rw [nvs_rev] at hi
      obtain ⟨c, hc, rfl⟩ := nvs_get hi
      have hm : c ∈ ks := List.mem_reverse.mp (List.mem_of_getElem? hc)
      obtain ⟨c1, c2⟩ := hpos c hm
      obtain ⟨e1, e2⟩ := first_snoc (ks.reverse.take i) c n
      have il : i < ks.length := by
        have := (List.getElem?_eq_some_iff.mp hc).1
        rw [List.length_reverse] at this
        exact this
      refine ⟨_, rfl, .inl ⟨rfl, _, SqL.of hq'⟩, _, rfl, _, rfl, _, _, rfl, rfl, ⟨by show (0 : Int) < (c : Int); omega, by show (c : Int) < 1073741824; omega⟩, q, _, _, rfl, rfl, hq', ?_, ?_⟩
      · rw [nvs_len, first_len, List.length_take]
        exact small_size1 (by omega)
      · refine ⟨_, rfl, _, rfl, _, _, rfl, rfl, (by show (0 : Int) < (c : Int); omega), ?_⟩
        refine ⟨some (nv c), ?_, L2.Same.upd_free s5 hq, ?_⟩
        · rw [take_snoc hc, e2]
          rfl
        · rw [upd_same, take_snoc hc, e1, nvs_app]
          rfl
    · rintro σ H' ⟨v, rfl, s5, hq'⟩
      rw [nvs_len, ← List.length_reverse (as := ks), List.take_length] at hq'
      refine ⟨_, rfl, q, _, rfl, SqL.of hq', fun p hp => ?_⟩
      refine k _ p (L2.Same.upd_new s5 hp) (L2.Same.free s5 hp) ?_
      rw [upd_same, nvs_rev]
end
end Fc

end

section
set_option Elab.async false
set_option linter.all false
set_option maxRecDepth 100000
set_option maxHeartbeats 2000000
namespace Fc
open PySem PySem.Spec PyProof.Rows L2
theorem boot_minF : bootBuiltins "min" = some (.builtin "min") := by decide +kernel
theorem boot_maxF : bootBuiltins "max" = some (.builtin "max") := by decide +kernel
theorem boot_sumF : bootBuiltins "sum" = some (.builtin "sum") := by decide +kernel
theorem boot_lenF : bootBuiltins "len" = some (.builtin "len") := by decide +kernel
theorem boot_srtF : bootBuiltins "sorted" = some (.builtin "sorted") := by decide +kernel
def toI (l : List Nat) : List Int := l.map fun (k : Nat) => (k : Int)
theorem nvs_toI (l : List Nat) : nvs l = (toI l).map V.int := by
  unfold nvs toI
  rw [List.map_map]
  rfl
theorem mem_toI {l : List Nat} {z : Int} (h : z ∈ toI l) : ∃ k, k ∈ l ∧ z = ((k : Nat) : Int) := by
  obtain ⟨k, hk, e⟩ := List.mem_map.mp h
  exact ⟨k, hk, e.symm⟩
/-- the fewest for 0 to n -/
def fews (ks : List Nat) (m : Nat) : List Nat := (List.range m).map (Su99.fewest ks)
theorem fews_len (ks : List Nat) (m : Nat) : (fews ks m).length = m := by unfold fews; rw [List.length_map, List.length_range]
theorem fews_get {ks : List Nat} {m i : Nat} (h : i < m) : (nvs (fews ks m))[i]? = some (nv (Su99.fewest ks i)) := by
  unfold nvs fews
  rw [List.getElem?_map, List.getElem?_map, List.getElem?_range h]
  rfl
theorem fews_succ (ks : List Nat) (m : Nat) : fews ks (m + 1) = fews ks m ++ [Su99.fewest ks m] := by
  unfold fews
  rw [List.range_succ, List.map_append]
  rfl
theorem fews_rev (ks : List Nat) (m : Nat) : fews ks.reverse m = fews ks m := List.map_congr_left fun s _ => few_rev ks s
theorem fews_ones (n : Nat) : fews [1] n = List.range n := by
  unfold fews
  rw [List.map_congr_left (g := id) fun s _ => few_ones s, List.map_id]
/-- kinds as they are handed on -/
structure KOk (ks : List Nat) : Prop where
  one : 1 ∈ ks
  pos : KPos ks
  len : ks.length ≤ 1000
  hd : ∃ tl, ks = 1 :: tl
  inc : ks.Pairwise (· < ·)
/-- the first kinds, the last one ahead -/
def kin (tl : List Nat) (i : Nat) : List Nat := (1 :: tl.take i).reverse
theorem kin_succ {tl : List Nat} {i c : Nat} (h : tl[i]? = some c) : kin tl (i + 1) = c :: kin tl i := by
  unfold kin
  rw [take_snoc h]
  simp
theorem kin_pos {tl : List Nat} (h : KPos (1 :: tl)) (i : Nat) : ∀ d, d ∈ kin tl i → 1 ≤ d := fun d hd => by
  have hd := List.mem_reverse.mp hd
  rcases List.mem_cons.mp hd with e | e
  · omega
  · exact (h d (List.mem_cons_of_mem _ (List.mem_of_mem_take e))).1
theorem kin_zero (tl : List Nat) : kin tl 0 = [1] := rfl
theorem kin_all (tl : List Nat) : kin tl tl.length = (1 :: tl).reverse := by
  unfold kin
  rw [List.take_length]
theorem cut_tail (x : V) (xs : List V) : cutV (x :: xs) (some 1) none = xs := by
  have e : HT.sIx (x :: xs).length 0 (some 1) = 1 := by
    unfold HT.sIx
    simp
  have e2 : HT.sIx (x :: xs).length (x :: xs).length none = (x :: xs).length := rfl
  unfold cutV
  rw [e, e2, List.drop_one, List.tail_cons, List.take_of_length_le (by simp)]
theorem cut_head {c : Nat} (hc : 1 ≤ c) (L : List Nat) (m : Nat) : cutV (nvs (fews L m)) none (some (c : Int)) = nvs (fews (c :: L) (min c m)) := by
  unfold cutV
  rw [HT.sIx_none, HT.sIx_nat, nvs_len, fews_len, List.drop_zero, Nat.sub_zero]
  unfold nvs fews
  rw [← List.map_take, ← List.map_take, List.take_range, show min (min c m) m = min c m by omega]
  congr 1
  refine List.map_congr_left fun s hs => ?_
  rw [few_cons hc, if_neg (by have := List.mem_range.mp hs; omega)]
/-- the table with one kind more -/
def spWom (K : PySem.W.Frag) : Sp := fun vs H Q _ => ∃ (a : Addr) (L : List Nat) (m c : Nat), vs = [.ref a, nv c] ∧ SqL K H a (nvs (fews L m)) ∧ 1 ≤ c ∧ c ≤ 1000000 ∧ m ≤ 20000 ∧
  ∀ (H' : Hp) (p : Addr), Same H H' → H p = none → H' p = some (.lst (nvs (fews (c :: L) m))) → Q (.ref p) H'
def spFew (K : PySem.W.Frag) : Sp := fun vs H Q _ => ∃ (a : Addr) (ks : List Nat) (n : Nat), vs = [.ref a, nv n] ∧ SqL K H a (nvs ks) ∧ KOk ks ∧ n ≤ 10000 ∧
  ∀ (H' : Hp) (p : Addr), Same H H' → H p = none → H' p = some (.lst (nvs (fews ks (n + 1)))) → Q (.ref p) H'
section
variable {P : Program} {w : World} {K : PySem.W.Frag} {mg : Str → Option Value} {base : Heap}
theorem scWom : FnScope ["fewest", "worth", "changed", "total"] ["fewest", "worth"] (defScope sWom) := ⟨rfl, rfl, rfl, by decide +kernel, rfl, by decide +kernel, by decide +kernel⟩
theorem ok_wom {f : Addr} {fd : FuncData} (F : Fun K "with_one_more" "with_one_more" sWom f fd) (B : Blt mg) : FnOk P w K mg base CX0 1 f fd ["fewest", "worth"] (spWom K) := by
  refine F.ok scWom (fun vs H Q E h => ?_) (fun cdv A outer s H vs Q E hr h => ?_)
  · obtain ⟨a, L, m, c, rfl, _⟩ := h
    rfl
  · obtain ⟨a, L, m, c, rfl, hS, c1, c2, hm, k⟩ := h
    refine ⟨_, pss_cons (ps_set (i := 2) scWom.nd rfl (Or.inl rfl) (pe_slice sl_list (pv 0) po_none (po_some (pv 1))))
      (pss_cons (ps_for PassesOwn.never rfl (pi_range2 rfl B.rng_ (pa_cons (pv 1) (pa_cons (pe_callB call_len_seq rfl B.len_ boot_lenF (pa_cons (pv 0) pa_nil)) pa_nil))) (pg_name (i := 3) scWom.nd rfl (Or.inl rfl))
        (pss_one (ps_expr (pe_bm PySem.F.plainAttrs_list PySem.F.slot_list_append PySem.F.type_list_append mt_append (pv 2) (pa_cons (pe_callB (call_min2 rfl) rfl B.min_ boot_minF (pa_cons (pe_ix ix_list (pv 0) (pv 3) (fun _ _ => rfl)) (pa_cons (pe_op op_add (pe_ix ix_list (pv 2) (pe_op op_sub (pv 3) (pv 1)) (fun _ _ => rfl)) pe_int) pa_nil))) pa_nil)))))
      (pss_one (ps_ret (pv 2)))), ?_⟩
    refine ⟨_, rfl, _, rfl, (c : Int), rfl, a, _, rfl, hS, fun q hq => ?_⟩
    have s1 : Same H (upd H q (.lst (cutV (nvs (fews L m)) none (some (c : Int))))) := L2.Same.upd_new (H := H) (fun _ _ e => e) hq
    refine ⟨_, rfl, _, rfl, a, _, rfl, .inl (s1.seq hS), (c : Int), ((nvs (fews L m)).length : Int), rfl, ⟨by omega, by omega, by rw [nvs_len, fews_len]; omega, by rw [nvs_len, fews_len]; omega⟩, ?_⟩
    rw [show (((nvs (fews L m)).length : Int) - (c : Int)).toNat = m - c by rw [nvs_len, fews_len]; omega]
    refine for_range (lo := (c : Int)) (n := m - c) (fun i σ H' => ∃ v : Option V, σ = [some (.ref a), some (nv c), some (.ref q), v] ∧ Same H H' ∧ H' q = some (.lst (nvs (fews (c :: L) (min c m + i)))))
      ⟨none, rfl, s1, by rw [upd_same, cut_head c1]; rfl⟩ ?_ ?_
    · rintro i σ H' hi ⟨v, rfl, s5, hq'⟩
      have em : min c m = c := by omega
      rw [em] at hq' ⊢
      have ej : (c : Int) + (i : Int) = ((c + i : Nat) : Int) := by omega
      have g1 : (nvs (fews L m))[c + i]? = some (nv (Su99.fewest L (c + i))) := fews_get (by omega)
      have g2 : (nvs (fews (c :: L) (c + i)))[i]? = some (nv (Su99.fewest (c :: L) i)) := fews_get (by omega)
      refine ⟨_, rfl, .inl ⟨rfl, _, SqL.of hq'⟩, _, rfl, _, rfl, a, _, _, _, rfl, rfl, s5.seq hS, at_of ej g1, _, rfl, _, rfl, _, rfl, _, _, rfl, rfl, q, _, _, _, rfl, rfl, SqL.of hq', at_of (j := i) (by omega) g2, _, _, rfl, rfl, _, _, rfl, q, _, _, rfl, rfl, hq', ?_, ?_⟩
      · rw [nvs_len, fews_len]
        exact small_size1 (by omega)
      · refine ⟨_, rfl, L2.Same.upd_free s5 hq, ?_⟩
        have e := few_cons c1 L (c + i)
        rw [if_pos (by omega), show c + i - c = i by omega] at e
        rw [upd_same, ← Nat.add_assoc, fews_succ, nvs_app]
        refine congrArg (fun z => some (HO.lst (nvs (fews (c :: L) (c + i)) ++ [V.int z]))) ?_
        rw [e]
        show (if ((Su99.fewest (c :: L) i : Nat) : Int) + 1 < ((Su99.fewest L (c + i) : Nat) : Int) then ((Su99.fewest (c :: L) i : Nat) : Int) + 1 else ((Su99.fewest L (c + i) : Nat) : Int)) = ((min (Su99.fewest L (c + i)) (Su99.fewest (c :: L) i + 1) : Nat) : Int)
        split <;> omega
    · rintro σ H' ⟨v, rfl, s5, hq'⟩
      rw [show min c m + (m - c) = m by omega] at hq'
      exact ⟨_, rfl, k H' q s5 hq hq'⟩
theorem scFew : FnScope ["kinds", "top", "fewest", "worth"] ["kinds", "top"] (defScope sFew) := ⟨rfl, rfl, rfl, by decide +kernel, rfl, by decide +kernel, by decide +kernel⟩
theorem ok_few {f : Addr} {fd : FuncData} (F : Fun K "fewest_up_to" "fewest_up_to" sFew f fd) (B : Blt mg) (CW : Cal P w K mg base 1 "with_one_more" ["fewest", "worth"] (spWom K)) : FnOk P w K mg base CX0 2 f fd ["kinds", "top"] (spFew K) := by
  obtain ⟨fW, fdW, GW, kW, bW, mW⟩ := CW
  refine F.ok scFew (fun vs H Q E h => ?_) (fun cdv A outer s H vs Q E hr h => ?_)
  · obtain ⟨a, ks, n, rfl, _⟩ := h
    rfl
  · obtain ⟨a, ks, n, rfl, hS, hk, hn, k⟩ := h
    obtain ⟨tl, rfl⟩ := hk.hd
    refine ⟨_, pss_cons (ps_set (i := 2) scFew.nd rfl (Or.inl rfl) (pe_listRng rfl B.list_ rfl B.rng_ rfl (pa_cons (pe_op op_add (pv 1) pe_int) pa_nil)))
      (pss_cons (ps_for PassesOwn.never rfl (pi_list (pe_slice sl_list (pv 0) (po_some pe_int) po_none)) (pg_name (i := 3) scFew.nd rfl (Or.inl rfl))
        (pss_one (ps_set (i := 2) scFew.nd rfl (Or.inl rfl) (pe_call GW hr rfl mW kW bW .nil pass0 (pa_cons (pv 2) (pa_cons (pv 3) pa_nil))))))
      (pss_one (ps_ret (pv 2)))), ?_⟩
    refine ⟨_, rfl, _, _, rfl, rfl, n + 1, rfl, by omega, fun fq hfq => ?_⟩
    generalize hH1 : upd H fq _ = H1
    have s1 : Same H H1 := by rw [← hH1]; exact L2.Same.upd_new (H := H) (fun _ _ e => e) hfq
    have f1 : H1 fq = some (.lst (nvs (fews (kin tl 0) (n + 1)))) := by
      rw [← hH1, upd_same, kin_zero, fews_ones]
      rfl
    refine ⟨_, rfl, 1, rfl, a, _, rfl, s1.seq hS, fun tq htq => ⟨tq, rfl, ⟨_, SqL.of upd_same⟩, ?_⟩⟩
    have n3 : fq ≠ tq := ne_of_none f1 htq
    refine for_list (K := K) (a := tq) (xs := nvs tl) (fun i σ H' => ∃ (v : Option V) (p : Addr), σ = [some (.ref a), some (nv n), some (.ref p), v] ∧ Same H H' ∧ H p = none ∧ H' tq = some (.lst (nvs tl)) ∧ H' p = some (.lst (nvs (fews (kin tl i) (n + 1)))))
      ⟨none, fq, rfl, L2.Same.upd_new s1 htq, hfq, by rw [upd_same]; show some (HO.lst (cutV (nv 1 :: nvs tl) (some 1) none)) = _; rw [cut_tail], by rw [upd_ne n3]; exact f1⟩ (fun i σ H' _ ⟨_, _, _, _, _, ht, _⟩ => SqL.of ht) ?_ ?_
    · rintro i y σ H' hi ⟨v, p, rfl, s5, hp0, ht, hp⟩
      obtain ⟨c, hc, rfl⟩ := nvs_get hi
      obtain ⟨c1, c2⟩ := hk.pos c (List.mem_cons_of_mem _ (List.mem_of_getElem? hc))
      refine ⟨_, rfl, _, rfl, p, kin tl i, n + 1, c, rfl, SqL.of hp, c1, c2, by omega, fun H2 p2 s2 hp2 hl2 => ?_⟩
      exact ⟨_, p2, rfl, L2.Same.trans s5 s2, L2.Same.free s5 hp2, s2 _ _ ht, by rw [kin_succ hc]; exact hl2⟩
    · rintro σ H' ⟨v, p, rfl, s5, hp0, ht, hp⟩
      rw [nvs_len, kin_all, fews_rev] at hp
      exact ⟨_, rfl, k H' p s5 hp0 hp⟩
end
end Fc

end

section
set_option Elab.async false
set_option linter.all false
set_option maxRecDepth 100000
set_option maxHeartbeats 2000000
namespace Fc
open PySem PySem.Spec PyProof.Rows L2
def spWay (K : PySem.W.Frag) : Sp := fun vs H Q _ => ∃ (a : Addr) (ks : List Nat) (n : Nat), vs = [.ref a, nv n] ∧ SqL K H a (nvs ks) ∧ KOk ks ∧ n ≤ 10000 ∧
  ∀ (H' : Hp) (p : Addr), Same H H' → H p = none → H' p = some (.lst (nvs (Su99.how ks.reverse n).reverse)) → Q (.ref p) H'
theorem int_eq {a b : Nat} : decide (V.int (a : Int) = V.int (b : Int)) = decide (a = b) := by
  by_cases h : a = b
  · subst h
    rw [decide_eq_true rfl, decide_eq_true rfl]
  · rw [decide_eq_false h]
    refine decide_eq_false fun e => h ?_
    injection e with e
    omega
section
variable {P : Program} {w : World} {K : PySem.W.Frag} {mg : Str → Option Value} {base : Heap}
theorem scWay : FnScope ["kinds", "total", "fewest", "falling", "rest", "worth", "taken"] ["kinds", "total"] (defScope sWay) := ⟨rfl, rfl, rfl, by decide +kernel, rfl, by decide +kernel, by decide +kernel⟩
theorem ok_way {f : Addr} {fd : FuncData} (F : Fun K "fewest_way" "fewest_way" sWay f fd) (B : Blt mg) (CF : Cal P w K mg base 2 "fewest_up_to" ["kinds", "top"] (spFew K)) : FnOk P w K mg base CX0 3 f fd ["kinds", "total"] (spWay K) := by
  obtain ⟨fF, fdF, GF, kF, bF, mF⟩ := CF
  refine F.ok scWay (fun vs H Q E h => ?_) (fun cdv A outer s H vs Q E hr h => ?_)
  · obtain ⟨a, ks, n, rfl, _⟩ := h
    rfl
  · obtain ⟨a, ks, n, rfl, hS, hk, hn, k⟩ := h
    refine ⟨_, pss_cons (ps_set (i := 2) scWay.nd rfl (Or.inl rfl) (pe_call GF hr rfl mF kF bF .nil pass0 (pa_cons (pv 0) (pa_cons (pv 1) pa_nil))))
      (pss_cons (ps_set (i := 3) scWay.nd rfl (Or.inl rfl) (pe_lst pa_nil))
      (pss_cons (ps_set (i := 4) scWay.nd rfl (Or.inl rfl) (pv 1))
      (pss_cons (ps_for PassesOwn.never rfl (pi_reversed rfl B.rev_ (pa_cons (pv 0) pa_nil)) (pg_name (i := 5) scWay.nd rfl (Or.inl rfl))
        (pss_cons (ps_set (i := 6) scWay.nd rfl (Or.inl rfl) pe_int)
        (pss_cons (ps_while PassesOwn.never (PW.pt (pw_and (pt_cmpR op_le (pv 5) (pv 4) (nomark _)) (pw_and1 (pt_cmpR op_eq (pe_op op_add (pe_ix ix_list (pv 2) (pe_op op_sub (pv 4) (pv 5)) (fun _ _ => rfl)) pe_int) (pe_ix ix_list (pv 2) (pv 4) (fun _ _ => rfl)) (nomark _)))))
          (pss_cons (ps_aug (i := 4) scWay.nd rfl (Or.inl rfl) (pv 5) ip_sub) (pss_one (ps_aug (i := 6) scWay.nd rfl (Or.inl rfl) pe_int ip_add))))
        (pss_one (ps_expr (pe_bm PySem.F.plainAttrs_list PySem.F.slot_list_append PySem.F.type_list_append mt_append (pv 3) (pa_cons (pv 6) pa_nil)))))))
      (pss_one (ps_ret (pe_listRev rfl B.list_ rfl B.rev_ rfl (pa_cons (pv 3) pa_nil))))))), ?_⟩
    refine ⟨_, rfl, _, rfl, a, ks, n, rfl, hS, hk, hn, fun H1 p s1 hp hl => ?_⟩
    refine ⟨Nat.zero_le _, fun q hq => ?_⟩
    have pq : p ≠ q := ne_of_none hl hq
    have hqH : H q = none := L2.Same.free s1 hq
    have s2 : Same H (upd H1 q (.lst [])) := L2.Same.upd_new s1 hq
    refine ⟨_, rfl, ?_⟩
    refine ⟨_, rfl, a, _, rfl, s2.seq hS, ?_⟩
    have few_eq : ∀ i m, Su99.fewest (ks.reverse.take i ++ ks.reverse.drop i) m = Su99.fewest ks m := fun i m => by rw [List.take_append_drop, few_rev]
    refine for_rev (K := K) (a := a) (xs := nvs ks) (fun i σ H' => ∃ (v5 v6 : Option V) (fall : List Nat) (r : Nat), σ = [some (.ref a), some (nv n), some (.ref p), some (.ref q), some (nv r), v5, v6] ∧ Same H H' ∧ H' p = some (.lst (nvs (fews ks (n + 1)))) ∧
        H' q = some (.lst (nvs fall)) ∧ fall.length = i ∧ r ≤ n ∧ Su99.how ks.reverse n = fall ++ Su99.how (ks.reverse.drop i) r ∧ NoUse (ks.reverse.take i) (ks.reverse.drop i) r)
      ⟨none, none, [], n, rfl, s2, by rw [upd_ne pq]; exact hl, upd_same, rfl, Nat.le_refl _, rfl, fun d hd => absurd hd (by simp)⟩ (fun i σ H' _ ⟨_, _, _, _, _, s5, _⟩ => s5.seq hS) ?_ ?_
    · rintro i y σ H' hi ⟨v5, v6, fall, r, rfl, s5, hp', hq', hfl, hrn, how_e, nou⟩
      rw [nvs_rev] at hi
      obtain ⟨c, hc, rfl⟩ := nvs_get hi
      have hm : c ∈ ks := List.mem_reverse.mp (List.mem_of_getElem? hc)
      obtain ⟨c1, c2⟩ := hk.pos c hm
      obtain ⟨il, ec⟩ := List.getElem?_eq_some_iff.mp hc
      have il' : i < ks.length := by rw [List.length_reverse] at il; exact il
      have hd : ks.reverse.drop i = c :: ks.reverse.drop (i + 1) := by rw [List.drop_eq_getElem_cons il, ec]
      refine ⟨fun m σ H2 => ∃ t : Nat, m = r - t * c ∧ t * c ≤ r ∧ Su99.fewest ks (r - t * c) + t = Su99.fewest ks r ∧ H2 = H' ∧ σ = [some (.ref a), some (nv n), some (.ref p), some (.ref q), some (nv (r - t * c)), some (nv c), some (nv t)],
        ⟨r, 0, by simp, by simp, by simp, rfl, by simp; rfl⟩, ?_⟩
      rintro m σ H2 ⟨t, rfl, htc, hF, rfl, rfl⟩
      have done : (c ≤ r - t * c → Su99.fewest ks (r - t * c - c) + 1 ≠ Su99.fewest ks (r - t * c)) → Su99.how ks.reverse n = (fall ++ [t]) ++ Su99.how (ks.reverse.drop (i + 1)) (r - t * c) ∧ NoUse (ks.reverse.take (i + 1)) (ks.reverse.drop (i + 1)) (r - t * c) := fun stop => by
        obtain ⟨e1, e2⟩ := how_step (D := ks.reverse.take i) (l := ks.reverse.drop (i + 1)) (r := r) (t := t) c1 (by rw [← hd]; exact nou) htc (by rw [← hd, few_eq, few_eq]; exact hF) (by rw [← hd, few_eq, few_eq]; exact stop)
        rw [how_e, hd, e1, take_snoc hc]
        exact ⟨by simp, e2⟩
      have ql : (nvs fall).length < sizeLine := by
        rw [nvs_len, hfl]
        have := hk.len
        exact small_size1 (by omega)
      have leave : (c ≤ r - t * c → Su99.fewest ks (r - t * c - c) + 1 ≠ Su99.fewest ks (r - t * c)) → ∃ (v5 v6 : Option V) (fall' : List Nat) (r' : Nat), [some (V.ref a), some (nv n), some (.ref p), some (.ref q), some (nv (r - t * c)), some (nv c), some (nv t)] = [some (.ref a), some (nv n), some (.ref p), some (.ref q), some (nv r'), v5, v6] ∧ Same H (upd H2 q (.lst (nvs fall ++ [nv t]))) ∧ upd H2 q (.lst (nvs fall ++ [nv t])) p = some (.lst (nvs (fews ks (n + 1)))) ∧
          upd H2 q (.lst (nvs fall ++ [nv t])) q = some (.lst (nvs fall')) ∧ fall'.length = i + 1 ∧ r' ≤ n ∧ Su99.how ks.reverse n = fall' ++ Su99.how (ks.reverse.drop (i + 1)) r' ∧ NoUse (ks.reverse.take (i + 1)) (ks.reverse.drop (i + 1)) r' := fun stop => by
        obtain ⟨d1, d2⟩ := done stop
        refine ⟨_, _, fall ++ [t], r - t * c, rfl, L2.Same.upd_free s5 hqH, by rw [upd_ne pq]; exact hp', by rw [upd_same, nvs_app]; rfl, by rw [List.length_append, hfl]; rfl, by omega, d1, d2⟩
      refine ⟨_, rfl, _, rfl, _, _, rfl, rfl, _, rfl, ite2 (fun hle => ?_) (fun hle => ?_)⟩
      · have hle' : c ≤ r - t * c := by have := of_decide_eq_true hle; omega
        refine ⟨_, rfl, _, rfl, _, rfl, _, _, rfl, rfl, p, _, _, _, rfl, rfl, SqL.of hp', at_of (j := r - t * c - c) (by omega) (fews_get (by omega)), _, _, rfl, rfl, _, rfl, _, rfl, p, _, _, _, rfl, rfl, SqL.of hp', atI_nat (fews_get (by omega)), rfl, _, rfl, ite2 (fun he => ?_) (fun he => ?_)⟩
        · have he' : Su99.fewest ks (r - t * c - c) + 1 = Su99.fewest ks (r - t * c) := by
            have e := of_decide_eq_true he
            injection e with e
            omega
          have e3 : (t + 1) * c = t * c + c := by rw [Nat.add_mul, Nat.one_mul]
          refine ⟨fun σ' H3 => ∃ m', m' < r - t * c ∧ _, fun σ' H3 z => z, ?_⟩
          refine ⟨_, rfl, _, rfl, _, _, rfl, rfl, _, rfl, _, _, rfl, rfl, ?_⟩
          refine ⟨r - (t + 1) * c, by omega, t + 1, rfl, by omega, by rw [e3, ← Nat.sub_sub]; omega, rfl, ?_⟩
          have e4 : ((r - t * c : Nat) : Int) - (c : Int) = ((r - (t + 1) * c : Nat) : Int) := by omega
          show [some (V.ref a), some (nv n), some (.ref p), some (.ref q), some (V.int (((r - t * c : Nat) : Int) - (c : Int))), some (nv c), some (V.int ((t : Int) + 1))] = _
          rw [e4]
          rfl
        · have he' : Su99.fewest ks (r - t * c - c) + 1 ≠ Su99.fewest ks (r - t * c) := fun z => he (decide_eq_true (by
            show V.int _ = V.int _
            rw [← z]
            rfl))
          refine ⟨_, rfl, .inl ⟨rfl, _, SqL.of hq'⟩, _, rfl, q, _, _, rfl, rfl, hq', ql, leave fun _ => he'⟩
      · have hle' : ¬ c ≤ r - t * c := fun z => hle (decide_eq_true (by omega))
        refine ⟨_, rfl, .inl ⟨rfl, _, SqL.of hq'⟩, _, rfl, q, _, _, rfl, rfl, hq', ql, leave fun z => absurd z hle'⟩
    · rintro σ H' ⟨v5, v6, fall, r, rfl, s5, hp', hq', hfl, hrn, how_e, nou⟩
      rw [nvs_len, ← List.length_reverse (as := ks), List.drop_length] at how_e
      have e : Su99.how ks.reverse n = fall := by rw [how_e]; exact List.append_nil _
      refine ⟨_, rfl, q, _, rfl, SqL.of hq', fun l hl' => ?_⟩
      refine k _ l (L2.Same.upd_new s5 hl') (L2.Same.free s5 hl') ?_
      rw [upd_same, nvs_rev, e]
end
end Fc

end

section
set_option Elab.async false
set_option linter.all false
set_option maxRecDepth 100000
set_option maxHeartbeats 2000000
namespace Fc
open PySem PySem.Spec PyProof.Rows L2
/-! two tables, the one up to m -/
def mixl (A A' : Nat → Nat) (n m : Nat) : List Nat := (List.range n).map fun s => if s < m then A' s else A s
theorem mix_len (A A' : Nat → Nat) (n m : Nat) : (mixl A A' n m).length = n := by unfold mixl; rw [List.length_map, List.length_range]
theorem mix_get {A A' : Nat → Nat} {n m s : Nat} (h : s < n) : (mixl A A' n m)[s]? = some (if s < m then A' s else A s) := by
  unfold mixl
  rw [List.getElem?_map, List.getElem?_range h]
  rfl
theorem mix_set {A A' : Nat → Nat} {n m : Nat} (h : m < n) {x : Nat} (hx : x = A' m) : (mixl A A' n m).set m x = mixl A A' n (m + 1) := by
  apply List.ext_getElem?
  intro s
  by_cases hs : s < n
  · rw [mix_get hs]
    by_cases e : m = s
    · subst e
      rw [List.getElem?_set_self (by rw [mix_len]; exact hs), if_pos (by omega), hx]
    · rw [List.getElem?_set_ne e, mix_get hs]
      by_cases h1 : s < m
      · rw [if_pos h1, if_pos (by omega)]
      · rw [if_neg h1, if_neg (by omega)]
  · rw [List.getElem?_eq_none (by rw [List.length_set, mix_len]; omega), List.getElem?_eq_none (by rw [mix_len]; omega)]
theorem mix_keep {A A' : Nat → Nat} {n m : Nat} (hx : A' m = A m) : mixl A A' n m = mixl A A' n (m + 1) := by
  unfold mixl
  refine List.map_congr_left fun s _ => ?_
  by_cases e : s = m
  · subst e
    rw [if_neg (by omega), if_pos (by omega), hx]
  · by_cases h1 : s < m
    · rw [if_pos h1, if_pos (by omega)]
    · rw [if_neg h1, if_neg (by omega)]
theorem mix_start {A A' : Nat → Nat} {n c : Nat} (h : ∀ s, s < c → A' s = A s) : mixl A A' n c = (List.range n).map A := by
  unfold mixl
  refine List.map_congr_left fun s _ => ?_
  by_cases h1 : s < c
  · rw [if_pos h1, h s h1]
  · rw [if_neg h1]
theorem mix_end {A A' : Nat → Nat} {n m : Nat} (h : n ≤ m) : mixl A A' n m = (List.range n).map A' := by
  unfold mixl
  refine List.map_congr_left fun s hs => ?_
  rw [if_pos (by have := List.mem_range.mp hs; omega)]
theorem nvs_at {l : List Nat} {i k : Nat} (h : l[i]? = some k) : (nvs l)[i]? = some (nv k) := by
  unfold nvs
  rw [List.getElem?_map, h]
  rfl
theorem nvs_set (l : List Nat) (i k : Nat) : (nvs l).set i (nv k) = nvs (l.set i k) := by
  unfold nvs
  rw [List.map_set]
theorem ixN_nat {n i : Nat} (h : i < n) : ixN n (i : Int) = some i := by
  unfold ixN
  rw [if_pos (by omega), if_pos (by omega)]
  simp
theorem ixN_of {n i : Nat} {z : Int} (e : z = (i : Int)) (h : i < n) : ixN n z = some i := by
  rw [e]
  exact ixN_nat h
def fws (l : List Nat) (n : Nat) : List Nat := (List.range n).map (fw l)
theorem fws_ones (n : Nat) : fws [1] n = List.replicate n 1 := by
  unfold fws
  rw [List.map_congr_left (g := fun _ => 1) fun s _ => by unfold fw; rw [few_ones, ways_ones]]
  apply List.ext_getElem?
  intro i
  by_cases h : i < n
  · rw [List.getElem?_map, List.getElem?_range h, List.getElem?_replicate, if_pos h]
    rfl
  · rw [List.getElem?_eq_none (by simpa using h), List.getElem?_eq_none (by simpa using h)]
theorem rep_ones (k : Nat) : (List.replicate k [V.int 1]).flatten = nvs (List.replicate k 1) := by
  induction k with
  | zero => rfl
  | succ k ih => rw [List.replicate_succ, List.flatten_cons, ih]; rfl
section
variable {X : Cx}
def rGetL (K : PySem.W.Frag) : V → V → Hp → VK → Prop := fun o i H Q => ∃ (p : Addr) (xs : List V) (j : Nat) (v : V), o = .ref p ∧ i = .int j ∧ SqL K H p xs ∧ xs[j]? = some v ∧ Q v H
theorem get_listF : PGet X (rGetL X.K) := by
  intro pins s σ H o i ov iv Q I ro ri h
  obtain ⟨p, xs, j, v, rfl, rfl, hq, he, q⟩ := h
  cases ro
  obtain ⟨t, rfl⟩ := ri
  obtain ⟨its, r, pl, hz⟩ := I.list hq
  obtain ⟨w, ew, rw'⟩ := r.get he
  have hl := r.length
  have hn := line63
  have hj := (List.getElem?_eq_some_iff.mp he).1
  exact wpAny_getItem_list pl.isList (by omega) (by omega) (by simpa using ew) ⟨v, H, I, rw', q⟩
end
def spCnt (K : PySem.W.Frag) : Sp := fun vs H Q _ => ∃ (a : Addr) (tl : List Nat) (n : Nat), vs = [.ref a, nv n] ∧ SqL K H a (nvs (1 :: tl)) ∧ KPos (1 :: tl) ∧ n ≤ 10000 ∧
  ∀ (H' : Hp), Same H H' → Q (nv (Su99.ways (1 :: tl).reverse n (Su99.fewest (1 :: tl) n))) H'
section
variable {P : Program} {w : World} {K : PySem.W.Frag} {mg : Str → Option Value} {base : Heap}
theorem scCnt : FnScope ["kinds", "total", "fewest", "ways", "worth", "part", "with_worth"] ["kinds", "total"] (defScope sCnt) := ⟨rfl, rfl, rfl, by decide +kernel, rfl, by decide +kernel, by decide +kernel⟩
theorem ok_cnt {f : Addr} {fd : FuncData} (F : Fun K "count_fewest_ways" "count_fewest_ways" sCnt f fd) (B : Blt mg) : FnOk P w K mg base CX0 1 f fd ["kinds", "total"] (spCnt K) := by
  refine F.ok scCnt (fun vs H Q E h => ?_) (fun cdv A outer s H vs Q E hr h => ?_)
  · obtain ⟨a, tl, n, rfl, _⟩ := h
    rfl
  · obtain ⟨a, tl, n, rfl, hS, hk, hn, k⟩ := h
    refine ⟨_, pss_cons (ps_set (i := 2) scCnt.nd rfl (Or.inl rfl) (pe_listRng rfl B.list_ rfl B.rng_ rfl (pa_cons (pe_op op_add (pv 1) pe_int) pa_nil)))
      (pss_cons (ps_set (i := 3) scCnt.nd rfl (Or.inl rfl) (pe_op op_rep (pe_lst (pa_cons pe_int pa_nil)) (pe_op op_add (pv 1) pe_int)))
      (pss_cons (ps_for PassesOwn.never rfl (pi_list (pe_slice sl_list (pv 0) (po_some pe_int) po_none)) (pg_name (i := 4) scCnt.nd rfl (Or.inl rfl))
        (pss_one (ps_for PassesOwn.never rfl (pi_range2 rfl B.rng_ (pa_cons (pv 4) (pa_cons (pe_op op_add (pv 1) pe_int) pa_nil))) (pg_name (i := 5) scCnt.nd rfl (Or.inl rfl))
          (pss_cons (ps_set (i := 6) scCnt.nd rfl (Or.inl rfl) (pe_op op_add (pe_ix ix_list (pv 2) (pe_op op_sub (pv 5) (pv 4)) (fun _ _ => rfl)) pe_int))
          (pss_one (ps_if (pt_cmpR op_lt (pv 6) (pe_ix ix_list (pv 2) (pv 5) (fun _ _ => rfl)) (nomark _))
            (pss_cons (ps_asg (pv 6) (pg_sub (pv 2) (pv 5) set_list))
              (pss_one (ps_asg (pe_ix ix_list (pv 3) (pe_op op_sub (pv 5) (pv 4)) (fun _ _ => rfl)) (pg_sub (pv 3) (pv 5) set_list))))
            (pss_one (ps_if (pt_cmpR op_eq (pv 6) (pe_ix ix_list (pv 2) (pv 5) (fun _ _ => rfl)) (nomark _))
              (pss_one (ps_augS (pv 3) (pv 5) get_listF (pe_ix ix_list (pv 3) (pe_op op_sub (pv 5) (pv 4)) (fun _ _ => rfl)) ip_add set_list)) pss_nil))))))))
      (pss_one (ps_ret (pe_ix ix_list (pv 3) (pv 1) (fun _ _ => rfl)))))), ?_⟩
    refine ⟨_, rfl, _, _, rfl, rfl, n + 1, rfl, by omega, fun fq hfq => ?_⟩
    refine ⟨(by show 1 ≤ sizeLine; decide), fun o1 ho1 => ?_⟩
    refine ⟨_, rfl, _, _, rfl, rfl, o1, _, _, rfl, rfl, upd_same, by omega, by omega, ?_, fun wq hwq => ?_⟩
    · show 1 * ((n : Int) + 1).toNat ≤ sizeLine
      exact small_size (by omega)
    have n1 : fq ≠ o1 := ne_of_none upd_same ho1
    have n2 : fq ≠ wq := ne_of_none (by rw [upd_ne n1]; exact upd_same) hwq
    generalize hH3 : upd (upd (upd H fq _) o1 _) wq _ = H3
    have s1 : Same H H3 := by
      rw [← hH3]
      exact L2.Same.upd_new (L2.Same.upd_new (L2.Same.upd_new (H := H) (fun _ _ e => e) hfq) ho1) hwq
    have hw0 : H wq = none := L2.Same.free (L2.Same.upd_new (L2.Same.upd_new (H := H) (fun _ _ e => e) hfq) ho1) hwq
    have f3 : H3 fq = some (.lst (nvs (fews (kin tl 0) (n + 1)))) := by
      rw [← hH3, upd_ne n2, upd_ne n1, upd_same, kin_zero, fews_ones]
      rfl
    have w3 : H3 wq = some (.lst (nvs (fws (kin tl 0) (n + 1)))) := by
      rw [← hH3, upd_same, kin_zero, fws_ones, rep_ones]
      rfl
    refine ⟨_, rfl, 1, rfl, a, _, rfl, s1.seq hS, fun tq htq => ⟨tq, rfl, ⟨_, SqL.of upd_same⟩, ?_⟩⟩
    have ht0 : H tq = none := L2.Same.free s1 htq
    have n3 : fq ≠ tq := ne_of_none f3 htq
    have n4 : wq ≠ tq := ne_of_none w3 htq
    refine for_list (K := K) (a := tq) (xs := nvs tl) (fun i σ H' => ∃ v4 v5 v6 : Option V, σ = [some (.ref a), some (nv n), some (.ref fq), some (.ref wq), v4, v5, v6] ∧ Same H H' ∧ H' tq = some (.lst (nvs tl)) ∧ H' fq = some (.lst (nvs (fews (kin tl i) (n + 1)))) ∧ H' wq = some (.lst (nvs (fws (kin tl i) (n + 1)))))
      ⟨none, none, none, rfl, L2.Same.upd_new s1 htq, by rw [upd_same]; show some (HO.lst (cutV (nv 1 :: nvs tl) (some 1) none)) = _; rw [cut_tail], by rw [upd_ne n3]; exact f3, by rw [upd_ne n4]; exact w3⟩ (fun i σ H' _ ⟨_, _, _, _, _, ht, _⟩ => SqL.of ht) ?_ ?_
    · rintro i y σ H' hi ⟨v4, v5, v6, rfl, s5, ht, hf, hw⟩
      obtain ⟨c, hc, rfl⟩ := nvs_get hi
      obtain ⟨c1, c2⟩ := hk c (List.mem_cons_of_mem _ (List.mem_of_getElem? hc))
      have hpos := kin_pos hk i
      rw [kin_succ hc]
      generalize hL : kin tl i = L at hf hw hpos
      refine ⟨_, rfl, _, rfl, _, _, rfl, rfl, (c : Int), (n : Int) + 1, rfl, ⟨by omega, by omega, by omega, by omega⟩, ?_⟩
      rw [show ((n : Int) + 1 - (c : Int)).toNat = n + 1 - c by omega]
      refine for_range (lo := (c : Int)) (n := n + 1 - c) (fun j σ H2 => ∃ v5 v6 : Option V, σ = [some (.ref a), some (nv n), some (.ref fq), some (.ref wq), some (nv c), v5, v6] ∧ Same H H2 ∧ H2 tq = some (.lst (nvs tl)) ∧
          H2 fq = some (.lst (nvs (mixl (Su99.fewest L) (Su99.fewest (c :: L)) (n + 1) (c + j)))) ∧ H2 wq = some (.lst (nvs (mixl (fw L) (fw (c :: L)) (n + 1) (c + j)))))
        ⟨v5, v6, rfl, s5, ht, (by show H' fq = some (.lst (nvs (mixl (Su99.fewest L) (Su99.fewest (c :: L)) (n + 1) c))); rw [mix_start (A := Su99.fewest L) (A' := Su99.fewest (c :: L)) fun s hs => (fw_small c1 hs).1]; exact hf), (by show H' wq = some (.lst (nvs (mixl (fw L) (fw (c :: L)) (n + 1) c))); rw [mix_start (A := fw L) (A' := fw (c :: L)) fun s hs => (fw_small c1 hs).2]; exact hw)⟩ ?_ ?_
      · rintro j σ H2 hj ⟨v5, v6, rfl, s6, ht2, hf2, hw2⟩
        have g1 : (nvs (mixl (Su99.fewest L) (Su99.fewest (c :: L)) (n + 1) (c + j)))[j]? = some (nv (Su99.fewest (c :: L) j)) := nvs_at (by rw [mix_get (by omega), if_pos (by omega)])
        have g2 : (nvs (mixl (Su99.fewest L) (Su99.fewest (c :: L)) (n + 1) (c + j)))[c + j]? = some (nv (Su99.fewest L (c + j))) := nvs_at (by rw [mix_get (by omega), if_neg (by omega)])
        have g3 : (nvs (mixl (fw L) (fw (c :: L)) (n + 1) (c + j)))[j]? = some (nv (fw (c :: L) j)) := nvs_at (by rw [mix_get (by omega), if_pos (by omega)])
        have g4 : (nvs (mixl (fw L) (fw (c :: L)) (n + 1) (c + j)))[c + j]? = some (nv (fw L (c + j))) := nvs_at (by rw [mix_get (by omega), if_neg (by omega)])
        obtain ⟨st1, st2, st3⟩ := fw_step (c := c) (l := L) (n := c + j) c1 hpos (by omega)
        rw [show c + j - c = j by omega] at st1 st2 st3
        have ej : (c : Int) + (j : Int) = ((c + j : Nat) : Int) := by omega
        refine ⟨_, rfl, _, rfl, _, rfl, _, _, rfl, rfl, fq, _, _, _, rfl, rfl, SqL.of hf2, at_of (j := j) (by omega) g1, _, _, rfl, rfl, ?_⟩
        refine ⟨_, rfl, _, rfl, _, rfl, fq, _, _, _, rfl, rfl, SqL.of hf2, at_of ej g2, _, _, rfl, rfl, _, rfl, ite2 (fun hlt => ?_) (fun hlt => ?_)⟩
        · have hlt' : Su99.fewest (c :: L) j + 1 < Su99.fewest L (c + j) := by have := of_decide_eq_true hlt; omega
          obtain ⟨a1, a2⟩ := st1 hlt'
          refine ⟨_, rfl, _, rfl, _, rfl, fq, _, _, c + j, rfl, rfl, hf2, ixN_of ej (by rw [nvs_len, mix_len]; omega), ?_⟩
          refine ⟨_, rfl, _, rfl, _, rfl, _, _, rfl, rfl, wq, _, _, _, rfl, rfl, SqL.of (by rw [upd_ne (Ne.symm n2)]; exact hw2), at_of (j := j) (by omega) g3, _, rfl, _, rfl, wq, _, _, c + j, rfl, rfl, (by rw [upd_ne (Ne.symm n2)]; exact hw2), ixN_of ej (by rw [nvs_len, mix_len]; omega), ?_⟩
          refine ⟨_, _, rfl, L2.Same.upd_free (L2.Same.upd_free s6 hfq) hw0, by rw [upd_ne (Ne.symm n4), upd_ne (Ne.symm n3)]; exact ht2, ?_, ?_⟩
          · rw [upd_ne n2, upd_same]
            show some (HO.lst ((nvs _).set (c + j) (nv (Su99.fewest (c :: L) j + 1)))) = _
            rw [nvs_set, mix_set (by omega) a1.symm]
            rfl
          · rw [upd_same, nvs_set, mix_set (by omega) a2.symm]
            rfl
        · have hlt' : ¬ Su99.fewest (c :: L) j + 1 < Su99.fewest L (c + j) := fun z => hlt (decide_eq_true (by omega))
          refine ⟨_, rfl, _, rfl, _, rfl, fq, _, _, _, rfl, rfl, SqL.of hf2, at_of ej g2, rfl, _, rfl, ite2 (fun heq => ?_) (fun heq => ?_)⟩
          · have heq' : Su99.fewest (c :: L) j + 1 = Su99.fewest L (c + j) := by
              have e := of_decide_eq_true heq
              injection e with e
              omega
            obtain ⟨a1, a2⟩ := st2 heq'
            refine ⟨_, rfl, _, rfl, wq, _, c + j, _, rfl, rfl, SqL.of hw2, g4, _, rfl, _, rfl, _, rfl, _, _, rfl, rfl, wq, _, _, _, rfl, rfl, SqL.of hw2, at_of (j := j) (by omega) g3, _, _, rfl, rfl, wq, _, _, c + j, rfl, rfl, hw2, ixN_of ej (by rw [nvs_len, mix_len]; omega), ?_⟩
            refine ⟨_, _, rfl, L2.Same.upd_free s6 hw0, by rw [upd_ne (Ne.symm n4)]; exact ht2, ?_, ?_⟩
            · rw [upd_ne n2, hf2, mix_keep a1]
              rfl
            · rw [upd_same]
              show some (HO.lst ((nvs _).set (c + j) (nv (fw L (c + j) + fw (c :: L) j)))) = _
              rw [nvs_set, mix_set (by omega) a2.symm]
              rfl
          · have heq' : Su99.fewest (c :: L) j + 1 ≠ Su99.fewest L (c + j) := fun z => heq (decide_eq_true (by
              show V.int _ = V.int _
              rw [← z]
              rfl))
            obtain ⟨a1, a2⟩ := st3 (by omega)
            refine ⟨_, _, rfl, s6, ht2, ?_, ?_⟩
            · rw [hf2, mix_keep a1]
              rfl
            · rw [hw2, mix_keep a2]
              rfl
      · rintro σ H2 ⟨v5, v6, rfl, s6, ht2, hf2, hw2⟩
        rw [mix_end (by omega)] at hf2 hw2
        exact ⟨_, _, _, rfl, s6, ht2, hf2, hw2⟩
    · rintro σ H' ⟨v4, v5, v6, rfl, s5, ht, hf, hw⟩
      rw [nvs_len, kin_all] at hw
      refine ⟨_, rfl, _, rfl, wq, _, _, _, rfl, rfl, SqL.of hw, atI_nat (nvs_at (k := fw (1 :: tl).reverse n) ?_), ?_⟩
      · unfold fws
        rw [List.getElem?_map, List.getElem?_range (by omega)]
        rfl
      · have := k H' s5
        unfold fw
        rw [few_rev]
        exact this
end
end Fc

end

section
set_option Elab.async false
set_option linter.all false
set_option maxRecDepth 100000
set_option maxHeartbeats 2000000
namespace Fc
open PySem PySem.Spec PyProof.Rows L2
def edgeN (ks : List Nat) : Nat := (⟨ks⟩ : Su99.Abs).edge
theorem edge_one (c : Nat) : edgeN [c] = c + c := rfl
theorem edge_two (l : List Nat) (c d : Nat) : edgeN (l ++ [c, d]) = d + c := by
  unfold edgeN Su99.Abs.edge
  simp
def spEdg (K : PySem.W.Frag) : Sp := fun vs H Q _ => ∃ (a : Addr) (ks : List Nat), vs = [.ref a] ∧ SqL K H a (nvs ks) ∧ 1 ∈ ks ∧ Q (nv (edgeN ks)) H
section
variable {P : Program} {w : World} {K : PySem.W.Frag} {mg : Str → Option Value} {base : Heap}
theorem scEdg : FnScope ["kinds"] ["kinds"] (defScope sEdg) := ⟨rfl, rfl, rfl, by decide +kernel, rfl, by decide +kernel, by decide +kernel⟩
theorem two_last : ∀ {l : List Nat}, 2 ≤ l.length → ∃ r c d, l = r ++ [c, d] := fun {l} h => by
  refine ⟨l.take (l.length - 2), l[l.length - 2], l[l.length - 1], ?_⟩
  apply List.ext_getElem?
  intro i
  by_cases h1 : i < l.length - 2
  · rw [List.getElem?_append_left (by rw [List.length_take]; omega), List.getElem?_take_of_lt h1]
  · rw [List.getElem?_append_right (by rw [List.length_take]; omega), List.length_take]
    by_cases h2 : i = l.length - 2
    · have e : i - min (l.length - 2) l.length = 0 := by omega
      rw [e, h2, List.getElem?_eq_getElem (by omega)]
      rfl
    · by_cases h3 : i = l.length - 1
      · have e : i - min (l.length - 2) l.length = 1 := by omega
        rw [e, h3, List.getElem?_eq_getElem (by omega)]
        rfl
      · rw [List.getElem?_eq_none (by omega), List.getElem?_eq_none (by simp; omega)]
theorem ok_edg {f : Addr} {fd : FuncData} (F : Fun K "edge_of" "edge_of" sEdg f fd) (B : Blt mg) : FnOk P w K mg base CX0 1 f fd ["kinds"] (spEdg K) := by
  refine F.ok scEdg (fun vs H Q E h => ?_) (fun cdv A outer s H vs Q E hr h => ?_)
  · obtain ⟨a, ks, rfl, _⟩ := h
    rfl
  · obtain ⟨a, ks, rfl, hS, h1, k⟩ := h
    refine ⟨_, pss_cons (ps_if (pt_cmpR op_eq (pe_callB call_len_seq rfl B.len_ boot_lenF (pa_cons (pv 0) pa_nil)) pe_int (nomark _)) (pss_one (ps_ret pe_int)) pss_nil)
      (pss_one (ps_ret (pe_op op_add (pe_ix ix_list (pv 0) (pe_un un_neg pe_int) (fun _ _ => rfl)) (pe_ix ix_list (pv 0) (pe_un un_neg pe_int) (fun _ _ => rfl))))), ?_⟩
    refine ⟨_, rfl, a, _, rfl, .inl hS, rfl, _, rfl, ite2 (fun he => ?_) (fun he => ?_)⟩
    · have e := of_decide_eq_true he
      injection e with e
      rw [nvs_len] at e
      obtain ⟨c, rfl⟩ := List.length_eq_one_iff.mp (show ks.length = 1 by omega)
      have : c = 1 := (List.mem_singleton.mp h1).symm
      subst this
      exact k
    · have hl : 2 ≤ ks.length := by
        have h0 : 0 < ks.length := List.length_pos_of_mem h1
        have h2 : ks.length ≠ 1 := fun z => he (decide_eq_true (by rw [nvs_len, z]; rfl))
        omega
      obtain ⟨r, c, d, rfl⟩ := two_last hl
      rw [edge_two] at k
      have e0 : nvs (r ++ [c, d]) = (nvs r ++ [nv c]) ++ [nv d] := by rw [nvs_app]; simp [nvs]
      have a1 : atI (nvs (r ++ [c, d])) (-1) = some (nv d) := by rw [e0]; exact atI_last _ _
      have a2 : atI (nvs (r ++ [c, d])) (-2) = some (nv c) := by
        have hl2 : (nvs (r ++ [c, d])).length = r.length + 2 := by rw [nvs_len]; simp
        unfold atI ixN
        rw [hl2, if_neg (by decide), if_pos (by omega)]
        show (nvs (r ++ [c, d]))[((-2 : Int) + ((r.length + 2 : Nat) : Int)).toNat]? = some (nv c)
        rw [show ((-2 : Int) + ((r.length + 2 : Nat) : Int)).toNat = r.length by omega]
        refine nvs_at ?_
        rw [List.getElem?_append_right (Nat.le_refl _), Nat.sub_self]
        rfl
      refine ⟨_, rfl, 1, rfl, a, _, _, _, rfl, rfl, hS, a1, _, rfl, 2, rfl, a, _, _, _, rfl, rfl, hS, a2, _, _, rfl, rfl, ?_⟩
      exact k
end
/-! ### sums for which the greatest first is worse -/
def takes (ks : List Nat) (n : Nat) : Nat := (⟨ks⟩ : Su99.Abs).takes n
def isBad (ks : List Nat) (i : Nat) : Bool := decide (Su99.fewest ks i < takes ks i)
theorem filter_congr' {α : Type} {p q : α → Bool} : ∀ {l : List α}, (∀ x, x ∈ l → p x = q x) → l.filter p = l.filter q
  | [], _ => rfl
  | a :: l, h => by
    rw [List.filter_cons, List.filter_cons, h a List.mem_cons_self, filter_congr' fun x hx => h x (List.mem_cons_of_mem _ hx)]
theorem bad_eq (ks : List Nat) (n : Nat) : (⟨ks⟩ : Su99.Abs).bad n = (List.range (n + 1)).filter (isBad ks) := by
  show (List.range (n + 1)).filter (fun i => decide ((Su99.table ks (n + 1)).getD i 0 < takes ks i)) = _
  refine filter_congr' fun i hi => ?_
  rw [table_get ks (n + 1) i (List.mem_range.mp hi)]
  rfl
theorem filter_none {α : Type} {p : α → Bool} : ∀ {l : List α}, (∀ x, x ∈ l → p x = false) → l.filter p = []
  | [], _ => rfl
  | a :: l, h => by
    rw [List.filter_cons, h a List.mem_cons_self, if_neg Bool.false_ne_true, filter_none fun x hx => h x (List.mem_cons_of_mem _ hx)]
theorem range_split {n i : Nat} (h : i < n) : List.range n = List.range i ++ i :: (List.range (n - i - 1)).map (fun k => i + 1 + k) := by
  apply List.ext_getElem?
  intro j
  by_cases hj : j < n
  · rw [List.getElem?_range hj]
    by_cases h1 : j < i
    · rw [List.getElem?_append_left (by simpa using h1), List.getElem?_range h1]
    · rw [List.getElem?_append_right (by simpa using h1), List.length_range]
      by_cases h2 : j = i
      · subst h2
        simp
      · obtain ⟨k, rfl⟩ : ∃ k, j = i + 1 + k := ⟨j - (i + 1), by omega⟩
        rw [show i + 1 + k - i = k + 1 by omega, List.getElem?_cons_succ, List.getElem?_map, List.getElem?_range (by omega)]
        rfl
  · rw [List.getElem?_eq_none (by simpa using hj), List.getElem?_eq_none (by simp; omega)]
theorem head_bad {p : Nat → Bool} {n i : Nat} (h : i < n) (hp : p i = true) (hb : ∀ s, s < i → p s = false) : ((List.range n).filter p).head? = some i := by
  rw [range_split h, List.filter_append, filter_none fun x hx => hb x (List.mem_range.mp hx), List.nil_append, List.filter_cons, if_pos hp]
  rfl
theorem sum_toI : ∀ l : List Nat, (toI l).sum = ((l.sum : Nat) : Int)
  | [] => rfl
  | a :: l => by
    show (a :: l |>.map fun (k : Nat) => (k : Int)).sum = _
    rw [List.map_cons, List.sum_cons, List.sum_cons]
    have := sum_toI l
    unfold toI at this
    rw [this]
    omega
theorem sum_rev (l : List Nat) : l.reverse.sum = l.sum := (List.reverse_perm l).sum_nat
/-- the least sum for which it is worse, as it is handed on -/
def leastV (ks : List Nat) : V := match ((⟨ks⟩ : Su99.Abs).bad (edgeN ks)).head? with
  | none => .non
  | some t => nv t
/-! ### the greatest first for all sums up to one -/
theorem first_step : ∀ {l : List Nat} {n g : Nat}, l.Pairwise (fun a b => b < a) → (∀ c, c ∈ l → 1 ≤ c) → g ∈ l → g ≤ n → (∀ c, c ∈ l → c ≤ n → c ≤ g) → (Su99.first l n).sum = (Su99.first l (n - g)).sum + 1
  | [], _, _, _, _, hm, _, _ => absurd hm List.not_mem_nil
  | c :: l, n, g, hp, h1, hm, hg, hb => by
    obtain ⟨p1, p2⟩ := List.pairwise_cons.mp hp
    have c1 := h1 c List.mem_cons_self
    show (n / c :: Su99.first l (n % c)).sum = ((n - g) / c :: Su99.first l ((n - g) % c)).sum + 1
    rw [List.sum_cons, List.sum_cons]
    by_cases e : g = c
    · subst e
      have d1 : n / g = (n - g) / g + 1 := Nat.div_eq_sub_div c1 hg
      have d2 : n % g = (n - g) % g := Nat.mod_eq_sub_mod hg
      rw [d1, d2]
      omega
    · have hm' : g ∈ l := by
        rcases List.mem_cons.mp hm with z | z
        · exact absurd z e
        · exact z
      have gc := p1 g hm'
      have cn : n < c := by
        refine Nat.lt_of_not_le fun z => ?_
        have := hb c List.mem_cons_self z
        omega
      rw [Nat.div_eq_of_lt cn, Nat.mod_eq_of_lt cn, Nat.div_eq_of_lt (by omega), Nat.mod_eq_of_lt (by omega), first_step p2 (fun d hd => h1 d (List.mem_cons_of_mem _ hd)) hm' hg fun d hd => hb d (List.mem_cons_of_mem _ hd)]
      omega
theorem takes_step {ks : List Nat} (k : KOk ks) {n g : Nat} (hm : g ∈ ks) (hg : g ≤ n) (hb : ∀ c, c ∈ ks → c ≤ n → c ≤ g) : takes ks n = takes ks (n - g) + 1 :=
  first_step (l := ks.reverse) (List.pairwise_reverse.mpr k.inc) (fun c hc => (k.pos c (List.mem_reverse.mp hc)).1) (List.mem_reverse.mpr hm) hg fun c hc => hb c (List.mem_reverse.mp hc)
theorem first_zero : ∀ l : List Nat, (Su99.first l 0).sum = 0
  | [] => rfl
  | c :: l => by
    show (0 / c :: Su99.first l (0 % c)).sum = 0
    rw [List.sum_cons, Nat.zero_div, Nat.zero_mod, first_zero l]
theorem takes_zero (ks : List Nat) : takes ks 0 = 0 := first_zero ks.reverse
def tks (ks : List Nat) (m : Nat) : List Nat := (List.range m).map (takes ks)
theorem tks_len (ks : List Nat) (m : Nat) : (tks ks m).length = m := by unfold tks; rw [List.length_map, List.length_range]
theorem tks_get {ks : List Nat} {m i : Nat} (h : i < m) : (nvs (tks ks m))[i]? = some (nv (takes ks i)) := by
  unfold nvs tks
  rw [List.getElem?_map, List.getElem?_map, List.getElem?_range h]
  rfl
theorem tks_succ (ks : List Nat) (m : Nat) : tks ks (m + 1) = tks ks m ++ [takes ks m] := by
  unfold tks
  rw [List.range_succ, List.map_append]
  rfl
def fits (t : Nat) (l : List Nat) : List Nat := l.filter fun c => decide (c ≤ t)
theorem filter_snoc {α : Type} (p : α → Bool) (l : List α) (c : α) : (l ++ [c]).filter p = l.filter p ++ (if p c = true then [c] else []) := by
  rw [List.filter_append, List.filter_cons]
  rfl
theorem filter_take_len {α : Type} (p : α → Bool) (l : List α) (j : Nat) : ((l.take j).filter p).length ≤ l.length := by
  refine Nat.le_trans (List.length_filter_le ..) ?_
  rw [List.length_take]
  omega
def spGup (K : PySem.W.Frag) : Sp := fun vs H Q _ => ∃ (a : Addr) (ks : List Nat) (n : Nat), vs = [.ref a, nv n] ∧ SqL K H a (nvs ks) ∧ KOk ks ∧ n ≤ 10000 ∧
  ∀ (H' : Hp) (p : Addr), Same H H' → H p = none → H' p = some (.lst (nvs (tks ks (n + 1)))) → Q (.ref p) H'
/-- the sums for which it is worse -/
def spWut (K : PySem.W.Frag) : Sp := fun vs H Q _ => ∃ (a : Addr) (ks : List Nat) (n : Nat), vs = [.ref a, nv n] ∧ SqL K H a (nvs ks) ∧ KOk ks ∧ n ≤ 10000 ∧
  ∀ (H' : Hp) (p : Addr), Same H H' → H p = none → H' p = some (.lst (nvs ((⟨ks⟩ : Su99.Abs).bad n))) → Q (.ref p) H'
def spLst (K : PySem.W.Frag) : Sp := fun vs H Q _ => ∃ (a : Addr) (ks : List Nat), vs = [.ref a] ∧ SqL K H a (nvs ks) ∧ KOk ks ∧ edgeN ks ≤ 1000 ∧ ∀ H' : Hp, Same H H' → Q (leastV ks) H'
section
variable {P : Program} {w : World} {K : PySem.W.Frag} {mg : Str → Option Value} {base : Heap}
theorem scGup : FnScope ["kinds", "top", "taken", "total", "greatest", "worth"] ["kinds", "top"] (defScope sGup) := ⟨rfl, rfl, rfl, by decide +kernel, rfl, by decide +kernel, by decide +kernel⟩
theorem ok_gup {f : Addr} {fd : FuncData} (F : Fun K "greatest_first_up_to" "greatest_first_up_to" sGup f fd) (B : Blt mg) : FnOk P w K mg base CX0 1 f fd ["kinds", "top"] (spGup K) := by
  refine F.ok scGup (fun vs H Q E h => ?_) (fun cdv A outer s H vs Q E hr h => ?_)
  · obtain ⟨a, ks, n, rfl, _⟩ := h
    rfl
  · obtain ⟨a, ks, n, rfl, hS, hk, hn, k⟩ := h
    refine ⟨_, pss_cons (ps_set (i := 2) scGup.nd rfl (by first | exact Or.inl rfl | exact Or.inr rfl) (pe_lst (pa_cons pe_int pa_nil)))
      (pss_cons (ps_for PassesOwn.never rfl (pi_range2 rfl B.rng_ (pa_cons pe_int (pa_cons (pe_op op_add (pv 1) pe_int) pa_nil))) (pg_name (i := 3) scGup.nd rfl (by first | exact Or.inl rfl | exact Or.inr rfl))
        (pss_cons (ps_set (i := 4) scGup.nd rfl (by first | exact Or.inl rfl | exact Or.inr rfl) (pe_callB (cr_max rfl) rfl B.max_ boot_maxF (pa_cons (pe_lc rfl scGup.nd (pi_list (pv 0)) (own := [("worth", 5)]) (blkOk_by (by show blkC ["kinds", "top", "taken", "total", "greatest", "worth"] (defScope sGup) _ _ = true; decide +kernel))
            (fun s H C cl fp => pg_name (i := 5) scGup.nd rfl (Or.inl rfl)) (fun s H C cl fp => pts_one (pt_cmpR op_le (pv 5) (pv 3) (nomark _)))
            (fun s H C cl fp => pv 5)) pa_nil)))
        (pss_one (ps_expr (pe_bm PySem.F.plainAttrs_list PySem.F.slot_list_append PySem.F.type_list_append mt_append (pv 2) (pa_cons (pe_op op_add (pe_ix ix_list (pv 2) (pe_op op_sub (pv 3) (pv 4)) (fun _ _ => rfl)) pe_int) pa_nil))))))
      (pss_one (ps_ret (pv 2)))), ?_⟩
    refine ⟨(by show 1 ≤ sizeLine; decide), fun q hq => ?_⟩
    have s1 : Same H (upd H q (.lst [.int 0])) := L2.Same.upd_new (H := H) (fun _ _ e => e) hq
    refine ⟨_, rfl, _, _, rfl, rfl, 1, (n : Int) + 1, rfl, ⟨by decide, by decide, by omega, by omega⟩, ?_⟩
    rw [show ((n : Int) + 1 - 1).toNat = n by omega]
    refine for_range (lo := 1) (n := n) (fun i σ H' => ∃ v3 v4 v5 : Option V, σ = [some (.ref a), some (nv n), some (.ref q), v3, v4, v5] ∧ Same H H' ∧ H' q = some (.lst (nvs (tks ks (i + 1)))))
      ⟨none, none, none, rfl, s1, ?_⟩ ?_ ?_
    · rw [upd_same]
      unfold tks
      show _ = some (HO.lst (nvs [takes ks 0]))
      rw [takes_zero]
      rfl
    · rintro i σ H' hi ⟨v3, v4, v5, rfl, s5, hq'⟩
      refine ⟨_, rfl, a, rfl, ⟨_, s5.seq hS⟩, fun D hD => ?_⟩
      have qD : q ≠ D := ne_of_none hq' hD
      refine lc_list (K := K) (a := a) (xs := nvs ks) (fun j H2 => Same H' H2 ∧ H2 D = some (.lst (nvs (fits (i + 1) (ks.take j))))) ⟨L2.Same.upd_new (H := H') (fun _ _ e => e) hD, upd_same⟩ ?_ ?_ ?_
      · rintro j H2 _ ⟨sm, _⟩
        exact L2.Same.seq (L2.Same.trans s5 sm) hS
      · rintro j y H2 hj ⟨sm, hD2⟩
        obtain ⟨c, hc, rfl⟩ := nvs_get hj
        refine ⟨rfl, _, rfl, _, rfl, _, _, rfl, rfl, _, rfl, ite2 (fun hle => ?_) (fun hle => ?_)⟩
        · have hle' : c ≤ i + 1 := by have := of_decide_eq_true hle; omega
          refine ⟨_, rfl, _, hD2, ?_, L2.Same.upd_free sm hD, ?_⟩
          · rw [nvs_len]
            have := hk.len
            have := filter_take_len (fun c => decide (c ≤ i + 1)) ks j
            exact small_size1 (by unfold fits; omega)
          · rw [upd_same, take_snoc hc]
            unfold fits
            rw [filter_snoc, if_pos (decide_eq_true hle'), nvs_app]
            rfl
        · have hle' : ¬ c ≤ i + 1 := fun z => hle (decide_eq_true (by omega))
          refine ⟨sm, ?_⟩
          rw [take_snoc hc]
          unfold fits
          rw [filter_snoc, if_neg (by simpa using hle'), List.append_nil]
          exact hD2
      · rintro H2 ⟨sm, hD2⟩
        rw [nvs_len, List.take_length] at hD2
        refine ⟨D, toI (fits (i + 1) ks), rfl, by rw [← nvs_toI]; exact SqL.of hD2, ?_, fun m hm hle => ?_⟩
        · have : 1 ∈ fits (i + 1) ks := List.mem_filter.mpr ⟨hk.one, by simp⟩
          unfold toI
          rw [List.length_map]
          exact List.length_pos_of_mem this
        · obtain ⟨g, hg, rfl⟩ := mem_toI hm
          obtain ⟨g1, g2⟩ := List.mem_filter.mp hg
          have g3 : g ≤ i + 1 := of_decide_eq_true g2
          have g4 := (hk.pos g g1).1
          have eM := takes_step hk (n := i + 1) (g := g) g1 g3 fun y hy hy2 => by
            have := hle (y : Int) (List.mem_map.mpr ⟨y, List.mem_filter.mpr ⟨hy, decide_eq_true hy2⟩, rfl⟩)
            omega
          have hq2 := sm _ _ hq'
          refine ⟨_, rfl, .inl ⟨rfl, _, SqL.of hq2⟩, _, rfl, _, rfl, _, rfl, _, _, rfl, rfl, q, _, _, _, rfl, rfl, SqL.of hq2, at_of (j := i + 1 - g) (by omega) (tks_get (by omega)), _, _, rfl, rfl, q, _, _, rfl, rfl, hq2, ?_, ?_⟩
          · rw [nvs_len, tks_len]
            exact small_size1 (by omega)
          · refine ⟨_, _, _, rfl, L2.Same.upd_free (L2.Same.trans s5 sm) hq, ?_⟩
            rw [upd_same, tks_succ ks (i + 1), nvs_app (tks ks (i + 1)), eM]
            rfl
    · rintro σ H' ⟨v3, v4, v5, rfl, s5, hq'⟩
      exact ⟨_, rfl, k H' q s5 hq hq'⟩
theorem scWut : FnScope ["kinds", "top", "fewest", "taken", "total"] ["kinds", "top"] (defScope sWut) := ⟨rfl, rfl, rfl, by decide +kernel, rfl, by decide +kernel, by decide +kernel⟩
theorem ok_wut {f : Addr} {fd : FuncData} (F : Fun K "worse_up_to" "worse_up_to" sWut f fd) (B : Blt mg) (CF : Cal P w K mg base 2 "fewest_up_to" ["kinds", "top"] (spFew K)) (CG : Cal P w K mg base 2 "greatest_first_up_to" ["kinds", "top"] (spGup K)) :
    FnOk P w K mg base CX0 3 f fd ["kinds", "top"] (spWut K) := by
  obtain ⟨fF, fdF, GF, kF, bF, mF⟩ := CF
  obtain ⟨fG, fdG, GG, kG, bG, mG⟩ := CG
  refine F.ok scWut (fun vs H Q E h => ?_) (fun cdv A outer s H vs Q E hr h => ?_)
  · obtain ⟨a, ks, n, rfl, _⟩ := h
    rfl
  · obtain ⟨a, ks, n, rfl, hS, hk, hn, k⟩ := h
    refine ⟨_, pss_cons (ps_set (i := 2) scWut.nd rfl (by first | exact Or.inl rfl | exact Or.inr rfl) (pe_call GF hr rfl mF kF bF .nil pass0 (pa_cons (pv 0) (pa_cons (pv 1) pa_nil))))
      (pss_cons (ps_set (i := 3) scWut.nd rfl (by first | exact Or.inl rfl | exact Or.inr rfl) (pe_call GG hr rfl mG kG bG .nil pass0 (pa_cons (pv 0) (pa_cons (pv 1) pa_nil))))
      (pss_one (ps_ret (pe_lc rfl scWut.nd (pi_range1 rfl B.rng_ (pa_cons (pe_op op_add (pv 1) pe_int) pa_nil)) (own := [("total", 4)]) (blkOk_by (by show blkC ["kinds", "top", "fewest", "taken", "total"] (defScope sWut) _ _ = true; decide +kernel))
            (fun s H C cl fp => pg_name (i := 4) scWut.nd rfl (Or.inl rfl)) (fun s H C cl fp => pts_one (pt_cmpR op_gt (pe_ix (r := rIxL K) ix_list (pv 3) (pv 4) (fun _ _ => rfl)) (pe_ix (r := rIxL K) ix_list (pv 2) (pv 4) (fun _ _ => rfl)) (nomark _)))
            (fun s H C cl fp => pv 4))))), ?_⟩
    refine ⟨_, rfl, _, rfl, a, ks, n, rfl, hS, hk, hn, fun H1 p s1 hp hl => ?_⟩
    refine ⟨_, rfl, _, rfl, a, ks, n, rfl, L2.Same.seq s1 hS, hk, hn, fun H2 q s2 hq hl2 => ?_⟩
    have hp2 := s2 _ _ hl
    have s12 := L2.Same.trans s1 s2
    refine ⟨_, rfl, _, _, rfl, rfl, (n : Int) + 1, rfl, by omega, by omega, fun D hD => ?_⟩
    rw [show ((n : Int) + 1).toNat = n + 1 by omega]
    refine lc_range (lo := 0) (n := n + 1) (fun j H3 => Same H2 H3 ∧ H3 D = some (.lst (nvs ((List.range j).filter (isBad ks))))) ⟨L2.Same.upd_new (H := H2) (fun _ _ e => e) hD, upd_same⟩ ?_ ?_
    · rintro j H3 hj ⟨sm, hD3⟩
      have e0 : (0 : Int) + (j : Int) = ((j : Nat) : Int) := by omega
      rw [e0]
      refine ⟨rfl, _, rfl, _, rfl, q, _, _, _, rfl, rfl, SqL.of (sm _ _ hl2), atI_nat (tks_get hj), _, rfl, _, rfl, p, _, _, _, rfl, rfl, SqL.of (sm _ _ hp2), atI_nat (fews_get hj), _, _, rfl, rfl, _, rfl, ite2 (fun hlt => ?_) (fun hlt => ?_)⟩
      · have hlt' : isBad ks j = true := decide_eq_true (by have := of_decide_eq_true hlt; omega)
        refine ⟨_, rfl, _, hD3, ?_, L2.Same.upd_free sm hD, ?_⟩
        · rw [nvs_len]
          have := List.length_filter_le (isBad ks) (List.range j)
          rw [List.length_range] at this
          exact small_size1 (by omega)
        · rw [upd_same, List.range_succ, filter_snoc, if_pos hlt', nvs_app]
          rfl
      · have hlt' : ¬ isBad ks j = true := fun z => hlt (decide_eq_true (by have := of_decide_eq_true z; omega))
        refine ⟨sm, ?_⟩
        rw [List.range_succ, filter_snoc, if_neg hlt', List.append_nil]
        exact hD3
    · rintro H3 ⟨sm, hD3⟩
      refine k H3 D (L2.Same.trans s12 sm) (L2.Same.free s12 hD) ?_
      rw [bad_eq]
      exact hD3
theorem scLst : FnScope ["kinds", "found"] ["kinds"] (defScope sLst) := ⟨rfl, rfl, rfl, by decide +kernel, rfl, by decide +kernel, by decide +kernel⟩
theorem ok_lst {f : Addr} {fd : FuncData} (F : Fun K "least_worse" "least_worse" sLst f fd) (B : Blt mg) (CW : Cal P w K mg base 3 "worse_up_to" ["kinds", "top"] (spWut K)) (CE : Cal P w K mg base 3 "edge_of" ["kinds"] (spEdg K)) :
    FnOk P w K mg base CX0 4 f fd ["kinds"] (spLst K) := by
  obtain ⟨fW, fdW, GW, kW, bW, mW⟩ := CW
  obtain ⟨fE, fdE, GE, kE, bE, mE⟩ := CE
  refine F.ok scLst (fun vs H Q E h => ?_) (fun cdv A outer s H vs Q E hr h => ?_)
  · obtain ⟨a, ks, rfl, _⟩ := h
    rfl
  · obtain ⟨a, ks, rfl, hS, hk, hE, k⟩ := h
    refine ⟨_, pss_cons (ps_set (i := 1) scLst.nd rfl (Or.inl rfl) (pe_call GW hr rfl mW kW bW .nil pass0 (pa_cons (pv 0) (pa_cons (pe_call GE hr rfl mE kE bE .nil pass0 (pa_cons (pv 0) pa_nil)) pa_nil))))
      (pss_one (ps_ret (pe_ifExp (pt_truth (pv 1) (fun _ => rfl)) (pe_ix ix_list (pv 1) pe_int (fun _ _ => rfl)) pe_non))), ?_⟩
    refine ⟨_, rfl, _, rfl, a, ks, rfl, hS, hk.one, ?_⟩
    refine ⟨a, ks, edgeN ks, rfl, hS, hk, by omega, fun H1 p s1 hp hl => ?_⟩
    have kk := k H1 s1
    unfold leastV at kk
    generalize (⟨ks⟩ : Su99.Abs).bad (edgeN ks) = bs at hl kk
    refine ⟨_, rfl, _, .inl ⟨_, SqL.of hl, rfl⟩, ?_⟩
    cases bs with
    | nil => exact iteF kk
    | cons b bs =>
      refine iteT ?_
      exact ⟨_, rfl, p, _, _, _, rfl, rfl, SqL.of hl, at_of (j := 0) rfl rfl, kk⟩
end
end Fc

end

section
set_option Elab.async false
set_option linter.all false
set_option maxRecDepth 100000
set_option maxHeartbeats 2000000
namespace Fc
open PySem PySem.Spec PyProof.Rows L2
def spFwt (K : PySem.W.Frag) : Sp := fun vs H Q _ => ∃ (a : Addr) (ks : List Nat) (m : Nat), vs = [.ref a, nv m, nv 1000] ∧ SqL K H a (nvs ks) ∧ KOk ks ∧ ∀ H' : Hp, Same H H' → Q (nv ((⟨ks⟩ : Su99.Abs).farthest m)) H'
def spBst (K : PySem.W.Frag) : Sp := fun vs H Q _ => ∃ (a : Addr) (ks : List Nat) (n : Nat), vs = [.ref a, nv n] ∧ SqL K H a (nvs ks) ∧ KOk ks ∧ 2 ≤ n ∧ n ≤ 10000 ∧
  ∀ (H' : Hp) (p : Addr), Same H H' → H p = none → H' p = some (.tup [nv ((⟨ks⟩ : Su99.Abs).bestKind n), nv (withK ks n ((⟨ks⟩ : Su99.Abs).bestKind n))]) → Q (.ref p) H'
def spStp (K : PySem.W.Frag) : Sp := fun vs H Q _ => ∃ (a : Addr) (ks : List Nat), vs = [.ref a] ∧ SqL K H a (nvs ks) ∧ KOk ks ∧ Q (.bl (⟨ks⟩ : Su99.Abs).steps) H
theorem sum_fews (l : List Nat) (n : Nat) : (fews l (n + 1)).sum = Su99.total l n := (total_eq l n).symm
section
variable {P : Program} {w : World} {K : PySem.W.Frag} {mg : Str → Option Value} {base : Heap}
theorem scFwt : FnScope ["kinds", "most", "top", "fewest", "total"] ["kinds", "most", "top"] (defScope sFwt) := ⟨rfl, rfl, rfl, by decide +kernel, rfl, by decide +kernel, by decide +kernel⟩
theorem ok_fwt {f : Addr} {fd : FuncData} (F : Fun K "farthest_with" "farthest_with" sFwt f fd) (B : Blt mg) (CF : Cal P w K mg base 2 "fewest_up_to" ["kinds", "top"] (spFew K)) : FnOk P w K mg base CX0 3 f fd ["kinds", "most", "top"] (spFwt K) := by
  obtain ⟨fF, fdF, GF, kF, bF, mF⟩ := CF
  refine F.ok scFwt (fun vs H Q E h => ?_) (fun cdv A outer s H vs Q E hr h => ?_)
  · obtain ⟨a, ks, m, rfl, _⟩ := h
    rfl
  · obtain ⟨a, ks, m, rfl, hS, hk, k⟩ := h
    refine ⟨_, pss_cons (ps_set (i := 3) scFwt.nd rfl (Or.inl rfl) (pe_call GF hr rfl mF kF bF .nil pass0 (pa_cons (pv 0) (pa_cons (pv 2) pa_nil))))
      (pss_cons (ps_for PassesOwn.never rfl (pi_range2 rfl B.rng_ (pa_cons pe_int (pa_cons (pe_op op_add (pv 2) pe_int) pa_nil))) (pg_name (i := 4) scFwt.nd rfl (Or.inl rfl))
        (pss_one (ps_if (pt_cmpR op_gt (pe_ix ix_list (pv 3) (pv 4) (fun _ _ => rfl)) (pv 1) (nomark _)) (pss_one (ps_ret (pe_op op_sub (pv 4) pe_int))) pss_nil)))
      (pss_one (ps_ret (pv 2)))), ?_⟩
    refine ⟨_, rfl, _, rfl, a, ks, 1000, rfl, hS, hk, by omega, fun H1 p s1 hp hl => ?_⟩
    refine ⟨_, rfl, _, _, rfl, rfl, 1, ((1000 : Nat) : Int) + 1, rfl, ⟨by decide, by decide, by decide, by decide⟩, ?_⟩
    rw [show (((1000 : Nat) : Int) + 1 - 1).toNat = 1000 by decide]
    refine for_range (lo := 1) (n := 1000) (fun i σ H' => ∃ v : Option V, σ = [some (.ref a), some (nv m), some (nv 1000), some (.ref p), v] ∧ H' = H1 ∧ ∀ s, s < i → Su99.fewest ks (s + 1) ≤ m)
      ⟨none, rfl, rfl, fun s hs => absurd hs (by omega)⟩ ?_ ?_
    · rintro i σ H' hi ⟨v, rfl, rfl, hb⟩
      have e1 : (1 : Int) + (i : Int) = ((i + 1 : Nat) : Int) := by omega
      refine ⟨_, rfl, _, rfl, p, _, _, _, rfl, rfl, SqL.of hl, at_of e1 (fews_get (by omega)), _, rfl, _, _, rfl, rfl, _, rfl, ite2 (fun hlt => ?_) (fun hlt => ?_)⟩
      · have hlt' : m < Su99.fewest ks (i + 1) := by have := of_decide_eq_true hlt; omega
        refine ⟨_, rfl, _, _, rfl, rfl, ?_⟩
        have := k H' s1
        rw [far_eq2 (r := i) (by omega) hb (.inr hlt')] at this
        show Q (V.int ((1 : Int) + (i : Int) - 1)) H'
        rw [show (1 : Int) + (i : Int) - 1 = ((i : Nat) : Int) by omega]
        exact this
      · have hlt' : ¬ m < Su99.fewest ks (i + 1) := fun z => hlt (decide_eq_true (by omega))
        refine ⟨_, rfl, rfl, fun s hs => ?_⟩
        by_cases e : s = i
        · subst e
          omega
        · exact hb s (by omega)
    · rintro σ H' ⟨v, rfl, rfl, hb⟩
      have := k H' s1
      rw [far_eq2 (r := 1000) (by omega) hb (.inl rfl)] at this
      exact ⟨_, rfl, this⟩
theorem scBst : FnScope ["kinds", "top", "fewest", "best", "together", "worth", "with_worth"] ["kinds", "top"] (defScope sBst) := ⟨rfl, rfl, rfl, by decide +kernel, rfl, by decide +kernel, by decide +kernel⟩
theorem ok_bst {f : Addr} {fd : FuncData} (F : Fun K "best_one_more" "best_one_more" sBst f fd) (B : Blt mg) (CF : Cal P w K mg base 2 "fewest_up_to" ["kinds", "top"] (spFew K)) (CW : Cal P w K mg base 2 "with_one_more" ["fewest", "worth"] (spWom K)) :
    FnOk P w K mg base CX0 3 f fd ["kinds", "top"] (spBst K) := by
  obtain ⟨fF, fdF, GF, kF, bF, mF⟩ := CF
  obtain ⟨fW, fdW, GW, kW, bW, mW⟩ := CW
  refine F.ok scBst (fun vs H Q E h => ?_) (fun cdv A outer s H vs Q E hr h => ?_)
  · obtain ⟨a, ks, n, rfl, _⟩ := h
    rfl
  · obtain ⟨a, ks, n, rfl, hS, hk, hn2, hn, k⟩ := h
    refine ⟨_, pss_cons (ps_set (i := 2) scBst.nd rfl (Or.inl rfl) (pe_call GF hr rfl mF kF bF .nil pass0 (pa_cons (pv 0) (pa_cons (pv 1) pa_nil))))
      (pss_cons (ps_set (i := 3) scBst.nd rfl (Or.inl rfl) pe_int)
      (pss_cons (ps_set (i := 4) scBst.nd rfl (Or.inl rfl) (pe_callB (cr_sum rfl) rfl B.sum_ boot_sumF (pa_cons (pv 2) pa_nil)))
      (pss_cons (ps_for PassesOwn.never rfl (pi_range2 rfl B.rng_ (pa_cons pe_int (pa_cons (pe_op op_add (pv 1) pe_int) pa_nil))) (pg_name (i := 5) scBst.nd rfl (Or.inl rfl))
        (pss_cons (ps_set (i := 6) scBst.nd rfl (Or.inl rfl) (pe_callB (cr_sum rfl) rfl B.sum_ boot_sumF (pa_cons (pe_call GW hr rfl mW kW bW .nil pass0 (pa_cons (pv 2) (pa_cons (pv 5) pa_nil))) pa_nil)))
        (pss_one (ps_if (pt_cmpR op_lt (pv 6) (pv 4) (nomark _)) (pss_cons (ps_set (i := 3) scBst.nd rfl (Or.inl rfl) (pv 5)) (pss_one (ps_set (i := 4) scBst.nd rfl (Or.inl rfl) (pv 6)))) pss_nil))))
      (pss_one (ps_ret (pe_tup (pa_cons (pv 3) (pa_cons (pv 4) pa_nil)))))))), ?_⟩
    refine ⟨_, rfl, _, rfl, a, ks, n, rfl, hS, hk, hn, fun H1 p s1 hp hl => ?_⟩
    refine ⟨_, rfl, p, toI (fews ks (n + 1)), rfl, by rw [← nvs_toI]; exact SqL.of hl, ?_⟩
    rw [sum_toI, sum_fews]
    refine ⟨_, rfl, _, _, rfl, rfl, 2, (n : Int) + 1, rfl, ⟨by decide, by decide, by omega, by omega⟩, ?_⟩
    rw [show ((n : Int) + 1 - 2).toNat = n - 1 by omega]
    refine for_range (lo := 2) (n := n - 1) (fun i σ H' => ∃ (v5 v6 : Option V) (b : Nat), σ = [some (.ref a), some (nv n), some (.ref p), some (nv b), some (nv (withK ks n b)), v5, v6] ∧ Same H1 H' ∧
        (b = 1 ∨ (2 ≤ b ∧ b < 2 + i ∧ withK ks n b < withK ks n 1)) ∧ (∀ c, 2 ≤ c → c < 2 + i → withK ks n b ≤ withK ks n c) ∧ (∀ c, 2 ≤ c → c < b → withK ks n b < withK ks n c))
      ⟨none, none, 1, ?_, fun _ _ e => e, .inl rfl, fun c h1 h2 => absurd h1 (by omega), fun c h1 h2 => absurd h1 (by omega)⟩ ?_ ?_
    · rw [with_one hk.one]
      rfl
    · rintro i σ H' hi ⟨v5, v6, b, rfl, s5, q1, q2, q3⟩
      have e1 : (2 : Int) + (i : Int) = ((2 + i : Nat) : Int) := by omega
      rw [e1]
      refine ⟨_, rfl, _, rfl, p, ks, n + 1, 2 + i, rfl, SqL.of (s5 _ _ hl), by omega, by omega, by omega, fun H2 q s2 hq hl2 => ?_⟩
      refine ⟨q, toI (fews ((2 + i) :: ks) (n + 1)), rfl, by rw [← nvs_toI]; exact SqL.of hl2, ?_⟩
      rw [sum_toI, sum_fews]
      have s6 := L2.Same.trans s5 s2
      refine ⟨_, rfl, _, rfl, _, _, rfl, rfl, _, rfl, ite2 (fun hlt => ?_) (fun hlt => ?_)⟩
      · have hlt' : withK ks n (2 + i) < withK ks n b := by have := of_decide_eq_true hlt; unfold withK at this ⊢; omega
        refine ⟨_, rfl, _, rfl, _, _, 2 + i, rfl, s6, .inr ⟨by omega, by omega, ?_⟩, fun c h1 h2 => ?_, fun c h1 h2 => ?_⟩
        · rcases q1 with rfl | ⟨_, _, q⟩
          · exact hlt'
          · omega
        · by_cases e : c = 2 + i
          · subst e
            exact Nat.le_refl _
          · have := q2 c h1 (by omega)
            omega
        · have := q2 c h1 h2
          omega
      · have hlt' : ¬ withK ks n (2 + i) < withK ks n b := fun z => hlt (decide_eq_true (by unfold withK at z ⊢; omega))
        refine ⟨_, _, b, rfl, s6, ?_, fun c h1 h2 => ?_, q3⟩
        · rcases q1 with e | ⟨x1, x2, x3⟩
          · exact .inl e
          · exact .inr ⟨x1, by omega, x3⟩
        · by_cases e : c = 2 + i
          · subst e
            omega
          · exact q2 c h1 (by omega)
    · rintro σ H' ⟨v5, v6, b, rfl, s5, q1, q2, q3⟩
      have eb : (⟨ks⟩ : Su99.Abs).bestKind n = b := best_eq hn2 (by
        rcases q1 with e | ⟨x1, x2, x3⟩
        · exact .inl e
        · exact .inr ⟨x1, by omega, x3⟩) (fun c h1 h2 => q2 c h1 (by omega)) q3
      rw [eb] at k
      refine ⟨_, rfl, _, rfl, (by show 2 ≤ sizeLine; decide), fun q hq => ?_⟩
      have s6 := L2.Same.trans s1 s5
      exact k _ q (L2.Same.upd_new s6 hq) (L2.Same.free s6 hq) upd_same
theorem scStp : FnScope ["kinds", "place"] ["kinds"] (defScope sStp) := ⟨rfl, rfl, rfl, by decide +kernel, rfl, by decide +kernel, by decide +kernel⟩
theorem steps_no {ks : List Nat} {i : Nat} (hi : i < ks.length - 1) {c d : Nat} (hc : ks[i + 1]? = some c) (hd : ks[i]? = some d) (h : c % d ≠ 0) : (⟨ks⟩ : Su99.Abs).steps = false := by
  unfold Su99.Abs.steps
  rw [List.all_eq_false]
  refine ⟨i, List.mem_range.mpr hi, ?_⟩
  show ¬ (ks.getD (i + 1) 0 % ks.getD i 1 == 0) = true
  rw [List.getD_eq_getElem?_getD, List.getD_eq_getElem?_getD, hc, hd]
  simpa using h
theorem steps_yes {ks : List Nat} (h : ∀ i, i < ks.length - 1 → ∀ c d, ks[i + 1]? = some c → ks[i]? = some d → c % d = 0) : (⟨ks⟩ : Su99.Abs).steps = true := by
  unfold Su99.Abs.steps
  rw [List.all_eq_true]
  intro i hi
  have hi := List.mem_range.mp hi
  have h1 : i + 1 < ks.length := by
    have : i < ks.length - 1 := hi
    omega
  show (ks.getD (i + 1) 0 % ks.getD i 1 == 0) = true
  rw [List.getD_eq_getElem?_getD, List.getD_eq_getElem?_getD, List.getElem?_eq_getElem h1, List.getElem?_eq_getElem (show i < ks.length by omega)]
  simpa using h i hi _ _ (List.getElem?_eq_getElem h1) (List.getElem?_eq_getElem (show i < ks.length by omega))
theorem ok_stp {f : Addr} {fd : FuncData} (F : Fun K "in_steps" "in_steps" sStp f fd) (B : Blt mg) : FnOk P w K mg base CX0 1 f fd ["kinds"] (spStp K) := by
  refine F.ok scStp (fun vs H Q E h => ?_) (fun cdv A outer s H vs Q E hr h => ?_)
  · obtain ⟨a, ks, rfl, _⟩ := h
    rfl
  · obtain ⟨a, ks, rfl, hS, hk, k⟩ := h
    refine ⟨_, pss_cons (ps_for PassesOwn.never rfl (pi_range2 rfl B.rng_ (pa_cons pe_int (pa_cons (pe_callB call_len_seq rfl B.len_ boot_lenF (pa_cons (pv 0) pa_nil)) pa_nil))) (pg_name (i := 1) scStp.nd rfl (Or.inl rfl))
        (pss_one (ps_if (pt_cmpR op_ne (pe_op op_mod (pe_ix ix_list (pv 0) (pv 1) (fun _ _ => rfl)) (pe_ix ix_list (pv 0) (pe_op op_sub (pv 1) pe_int) (fun _ _ => rfl))) pe_int (nomark _)) (pss_one (ps_ret pe_bl)) pss_nil)))
      (pss_one (ps_ret pe_bl)), ?_⟩
    have hl := hk.len
    refine ⟨_, rfl, a, _, rfl, .inl hS, 1, ((nvs ks).length : Int), rfl, ⟨by decide, by decide, by rw [nvs_len]; omega, by rw [nvs_len]; omega⟩, ?_⟩
    rw [show (((nvs ks).length : Int) - 1).toNat = ks.length - 1 by rw [nvs_len]; omega]
    refine for_range (lo := 1) (n := ks.length - 1) (fun i σ H' => ∃ v : Option V, σ = [some (.ref a), v] ∧ H' = H ∧ ∀ j, j < i → ∀ c d, ks[j + 1]? = some c → ks[j]? = some d → c % d = 0)
      ⟨none, rfl, rfl, fun s hs => absurd hs (by omega)⟩ ?_ ?_
    · rintro i σ H' hi ⟨v, rfl, rfl, hb⟩
      obtain ⟨c, hc⟩ : ∃ c, ks[i + 1]? = some c := ⟨_, List.getElem?_eq_getElem (by omega)⟩
      obtain ⟨d, hd⟩ : ∃ c, ks[i]? = some c := ⟨_, List.getElem?_eq_getElem (by omega)⟩
      have d1 := (hk.pos d (List.mem_of_getElem? hd)).1
      have e1 : (1 : Int) + (i : Int) = ((i + 1 : Nat) : Int) := by omega
      refine ⟨_, rfl, _, rfl, a, _, _, _, rfl, rfl, hS, at_of e1 (nvs_at hc), _, rfl, _, rfl, _, _, rfl, rfl, a, _, _, _, rfl, rfl, hS, at_of (j := i) (by omega) (nvs_at hd), _, _, rfl, rfl, (by show (0 : Int) < (d : Int); omega), rfl, _, rfl, ?_⟩
      show if (!decide (V.int ((c : Int) % (d : Int)) = V.int 0)) = true then _ else _
      by_cases e : c % d = 0
      · refine iteNS (by rw [← Int.natCast_emod, e]; rfl) ⟨_, rfl, rfl, fun j hj c' d' h1 h2 => ?_⟩
        by_cases ej : j = i
        · subst ej
          rw [hc] at h1
          rw [hd] at h2
          cases h1
          cases h2
          exact e
        · exact hb j (by omega) c' d' h1 h2
      · have hne : ¬ V.int ((c : Int) % (d : Int)) = V.int 0 := fun z => by
          injection z with z
          rw [← Int.natCast_emod] at z
          omega
        rw [decide_eq_false hne]
        refine iteT ?_
        rw [steps_no hi hc hd e] at k
        exact k
    · rintro σ H' ⟨v, rfl, rfl, hb⟩
      rw [steps_yes hb] at k
      exact k
end
end Fc

end

section
set_option Elab.async false
set_option linter.all false
set_option maxRecDepth 100000
set_option maxHeartbeats 2000000
namespace Fc
open PySem PySem.Spec PyProof.Rows L2
/-! ### the kinds of a purse that has begun -/
structure Good (ks : List Nat) : Prop where
  inc : ks.Pairwise (· < ·)
  one : 1 ∈ ks
  rng : ∀ c, c ∈ ks → 1 ≤ c ∧ c ≤ 100
  len : ks.length ≤ 7
theorem Good.head {ks : List Nat} (g : Good ks) : ∃ tl, ks = 1 :: tl := by
  match ks, g with
  | [], g => exact absurd g.one List.not_mem_nil
  | c :: tl, g =>
    rcases List.mem_cons.mp g.one with e | e
    · exact ⟨tl, by rw [e]⟩
    · have h1 := (List.pairwise_cons.mp g.inc).1 1 e
      have h2 := (g.rng c List.mem_cons_self).1
      omega
theorem Good.pos {ks : List Nat} (g : Good ks) : KPos ks := fun c hc => ⟨(g.rng c hc).1, by have := (g.rng c hc).2; omega⟩
theorem Good.ok {ks : List Nat} (g : Good ks) : KOk ks := ⟨g.one, g.pos, by have := g.len; omega, g.head, g.inc⟩
theorem mem_headD {l : List Nat} {d : Nat} : l.headD d ∈ l ∨ l.headD d = d := by
  cases l with
  | nil => exact .inr rfl
  | cons a l => exact .inl List.mem_cons_self
theorem Good.edge {ks : List Nat} (g : Good ks) : edgeN ks ≤ 200 := by
  have h : ∀ c, c ∈ ks.reverse → c ≤ 100 := fun c hc => (g.rng c (List.mem_reverse.mp hc)).2
  have a : ks.reverse.headD 0 ≤ 100 := by
    rcases mem_headD (l := ks.reverse) (d := 0) with e | e
    · exact h _ e
    · omega
  have b : (ks.reverse.drop 1).headD (ks.reverse.headD 0) ≤ 100 := by
    rcases mem_headD (l := ks.reverse.drop 1) (d := ks.reverse.headD 0) with e | e
    · exact h _ (List.mem_of_mem_drop e)
    · omega
  show ks.reverse.headD 0 + (ks.reverse.drop 1).headD (ks.reverse.headD 0) ≤ 200
  omega
theorem Good.begun : Good [1] := ⟨List.pairwise_singleton _ _, List.mem_singleton.mpr rfl, fun c hc => by have := List.mem_singleton.mp hc; omega, by decide⟩
/-! ### the greatest first pays -/
theorem first_pays {L : List Nat} : ∀ (l : List Nat) (n : Nat), (∀ c, c ∈ l → Coin L c) → ∃ cs : List Nat, (∀ c, c ∈ cs → Coin L c) ∧ cs.sum + restOf l n = n ∧ cs.length = (Su99.first l n).sum
  | [], n, _ => ⟨[], fun c hc => absurd hc List.not_mem_nil, Nat.zero_add _, rfl⟩
  | c :: l, n, h => by
    obtain ⟨cs, h1, h2, h3⟩ := first_pays l (n % c) fun d hd => h d (List.mem_cons_of_mem _ hd)
    refine ⟨List.replicate (n / c) c ++ cs, fun d hd => ?_, ?_, ?_⟩
    · rcases List.mem_append.mp hd with hd | hd
      · rw [(List.mem_replicate.mp hd).2]
        exact h c List.mem_cons_self
      · exact h1 d hd
    · rw [List.sum_append, List.sum_replicate_nat]
      show n / c * c + cs.sum + restOf l (n % c) = n
      have := Nat.div_add_mod n c
      rw [Nat.mul_comm] at this
      omega
    · rw [List.length_append, List.length_replicate, h3]
      show n / c + (Su99.first l (n % c)).sum = (n / c :: Su99.first l (n % c)).sum
      rw [List.sum_cons]
theorem few_le_takes {ks : List Nat} (g : Good ks) (n : Nat) : Su99.fewest ks n ≤ takes ks n := by
  obtain ⟨tl, rfl⟩ := g.head
  obtain ⟨cs, h1, h2, h3⟩ := first_pays (L := 1 :: tl) (1 :: tl).reverse n fun c hc => ⟨(g.rng c (List.mem_reverse.mp hc)).1, .inr (List.mem_reverse.mp hc)⟩
  have e : restOf (1 :: tl).reverse n = 0 := by
    rw [List.reverse_cons, (first_snoc tl.reverse 1 n).2]
    exact Nat.mod_one _
  rw [e, Nat.add_zero] at h2
  show _ ≤ (Su99.first (1 :: tl).reverse n).sum
  rw [← h3]
  exact few_le_pays ⟨h1, h2⟩
/-! ### what is answered -/
def ivs (l : List Int) : List V := l.map V.int
def ansOf (ks : List Nat) (c : Su99.Call) : List Int := (Su99.does ⟨ks⟩ c).2.value :: Su99Neutral.outs (Su99.does ⟨ks⟩ c).2.out
def newOf (ks : List Nat) (c : Su99.Call) : List Nat := (Su99.does ⟨ks⟩ c).1.kinds
/-! ### the purse -/
def pf (l : Addr) : List (Str × V) := putF "worths" (.ref l) []
theorem pf_get (l : Addr) : (pf l).lookup ("worths" : Str) = some (.ref l) := by
  unfold pf
  rw [lookup_putF, if_pos rfl]
theorem pf_put (l l' : Addr) : putF "worths" (.ref l') (pf l) = pf l' := by
  show (if ("worths" : Str) = "worths" then [(("worths" : Str), V.ref l')] else _) = ([("worths", V.ref l')] : List (Str × V))
  rw [if_pos rfl]
def PAt (C : Addr) (H : Hp) (p : Addr) (ks : List Nat) : Prop := ∃ dx l, H p = some (.ins C dx (pf l)) ∧ H l = some (.lst (nvs ks))
theorem PAt.same {C : Addr} {H H' : Hp} {p : Addr} {ks : List Nat} (a : PAt C H p ks) (s : Same H H') : PAt C H' p ks := by
  obtain ⟨dx, l, h1, h2⟩ := a
  exact ⟨dx, l, s _ _ h1, s _ _ h2⟩
/-- the purse behind a call: its list is the one it had, or a new one -/
def PTo (C : Addr) (H H' : Hp) (p : Addr) (ks : List Nat) : Prop := ∃ dx l, H' p = some (.ins C dx (pf l)) ∧ H' l = some (.lst (nvs ks)) ∧ (H l = none ∨ ∃ dx0, H p = some (.ins C dx0 (pf l)))
theorem PAt.to {C : Addr} {H H' : Hp} {p : Addr} {ks : List Nat} (a : PAt C H p ks) (s : Same H H') : PTo C H H' p ks := by
  obtain ⟨dx, l, h1, h2⟩ := a
  exact ⟨dx, l, s _ _ h1, s _ _ h2, .inr ⟨dx, h1⟩⟩
theorem PTo.at {C : Addr} {H H' : Hp} {p : Addr} {ks : List Nat} (a : PTo C H H' p ks) : PAt C H' p ks := let ⟨dx, l, h1, h2, _⟩ := a; ⟨dx, l, h1, h2⟩
theorem pf_inj {l l' : Addr} (h : pf l = pf l') : l = l' := by
  have e : (pf l).lookup ("worths" : Str) = (pf l').lookup ("worths" : Str) := by rw [h]
  rw [pf_get, pf_get] at e
  cases e
  rfl
def spAct1 (C : Addr) (mk : Nat → Su99.Call) : Sp := fun vs H Q _ => ∃ (p : Addr) (ks : List Nat) (n : Nat), vs = [.ref p, nv n] ∧ PAt C H p ks ∧ Good ks ∧ ks.length ≤ 6 ∧
  ∀ (H' : Hp) (q : Addr), PTo C H H' p (newOf ks (mk n)) → (∀ b o, H b = some o → b ≠ p → H' b = some o) → H q = none → H' q = some (.lst (ivs (ansOf ks (mk n)))) → Q (.ref q) H'
def spAct0 (C : Addr) (c : Su99.Call) : Sp := fun vs H Q _ => ∃ (p : Addr) (ks : List Nat), vs = [.ref p] ∧ PAt C H p ks ∧ Good ks ∧ ks.length ≤ 6 ∧
  ∀ (H' : Hp) (q : Addr), PTo C H H' p (newOf ks c) → (∀ b o, H b = some o → b ≠ p → H' b = some o) → H q = none → H' q = some (.lst (ivs (ansOf ks c))) → Q (.ref q) H'
structure Txt (K : PySem.W.Frag) (mg : Str → Option Value) (C : Addr) : Prop where
  cl : Cls K C
  nW : NoAttr K C "worths"
  mgC : mg "Purse" = some (.ref C)
structure Cst (mg : Str → Option Value) : Prop where
  c2 : ∃ t, mg "NOT_THERE" = some (.int (-2) t)
  c11 : ∃ t, mg "NOT_BEGUN" = some (.int (-11) t)
  c17 : ∃ t, mg "SO_ALREADY" = some (.int (-17) t)
  c22 : ∃ t, mg "OUT_OF_RANGE" = some (.int (-22) t)
  c28 : ∃ t, mg "TOO_MANY" = some (.int (-28) t)
  c33 : ∃ t, mg "NONE_SUCH" = some (.int (-33) t)
  k6 : ∃ t, mg "MOST_KINDS" = some (.int 6 t)
  k2 : ∃ t, mg "LEAST_WORTH" = some (.int 2 t)
  k100 : ∃ t, mg "GREATEST_WORTH" = some (.int 100 t)
  k1000 : ∃ t, mg "GREATEST_SUM" = some (.int 1000 t)
  k300 : ∃ t, mg "GREATEST_SUM_OF_HOW" = some (.int 300 t)
  k60 : ∃ t, mg "GREATEST_SUM_OF_WAYS" = some (.int 60 t)
  k200 : ∃ t, mg "GREATEST_SUM_OF_BAD" = some (.int 200 t)
  kb2 : ∃ t, mg "LEAST_SUM_OF_BEST" = some (.int 2 t)
  kb60 : ∃ t, mg "GREATEST_SUM_OF_BEST" = some (.int 60 t)
  kc1 : ∃ t, mg "LEAST_COINS" = some (.int 1 t)
  kc20 : ∃ t, mg "GREATEST_COINS" = some (.int 20 t)
section
variable {X : Cx}
theorem pe_cst {x : Str} {i : Int} {pos : Pos} (hg : Gl X x) (h : ∃ t, X.mg x = some (.int i t)) (hd : (x == ("__debug__" : Str)) = false := by decide) : PE X (.Name x pos) (tC (.int i)) := by
  obtain ⟨t, h⟩ := h
  exact pe_glob hg h ⟨t, rfl⟩ hd
end
theorem in_nvs (c : Nat) : ∀ ks : List Nat, inV (nv c) (nvs ks) = ks.contains c := by
  intro ks
  unfold inV nvs
  rw [List.any_map, List.contains_eq_any_beq]
  congr 1
  funext k
  show ((k : Int) == (c : Int)) = (c == k)
  rw [Bool.eq_iff_iff, beq_iff_eq, beq_iff_eq]
  omega
theorem flat_nvs (ks : List Nat) : (nvs ks).all flatV = true := by
  unfold nvs
  rw [List.all_map]
  exact List.all_eq_true.mpr fun _ _ => rfl
theorem insert_perm (c : Nat) : ∀ l : List Nat, (Su99.insert c l).Perm (c :: l)
  | [] => List.Perm.refl _
  | m :: l => by
    unfold Su99.insert
    by_cases h : c < m
    · rw [if_pos h]
    · rw [if_neg h]
      exact ((insert_perm c l).cons m).trans (List.Perm.swap c m l)
theorem insert_sorted {c : Nat} : ∀ {l : List Nat}, c ∉ l → l.Pairwise (· < ·) → (Su99.insert c l).Pairwise (· < ·)
  | [], _, _ => List.pairwise_singleton _ _
  | m :: l, hn, h => by
    unfold Su99.insert
    obtain ⟨h1, h2⟩ := List.pairwise_cons.mp h
    by_cases e : c < m
    · rw [if_pos e]
      exact List.pairwise_cons.mpr ⟨fun d hd => by
        rcases List.mem_cons.mp hd with z | z
        · omega
        · have := h1 d z
          omega, h⟩
    · rw [if_neg e]
      refine List.pairwise_cons.mpr ⟨fun d hd => ?_, insert_sorted (fun z => hn (List.mem_cons_of_mem _ z)) h2⟩
      rcases List.mem_cons.mp ((insert_perm c l).mem_iff.mp hd) with z | z
      · have : c ≠ m := fun q => hn (by rw [q]; exact List.mem_cons_self)
        omega
      · exact h1 d z
theorem sorted_same : ∀ {l l' : List Int}, l.Perm l' → l.Pairwise (· ≤ ·) → l'.Pairwise (· ≤ ·) → l = l' := fun {l l'} p h h' => List.Perm.eq_of_pairwise (fun a b _ _ h1 h2 => Int.le_antisymm h1 h2) h h' p
theorem sorted_insert {c : Nat} {ks : List Nat} (g : ks.Pairwise (· < ·)) (hn : c ∉ ks) {ns : List Int} (p : ns.Perm (toI (ks ++ [c]))) (h : ns.Pairwise (· ≤ ·)) : ns = toI (Su99.insert c ks) := by
  refine sorted_same ?_ h ?_
  · refine p.trans ?_
    unfold toI
    refine List.Perm.map _ ?_
    exact (List.perm_append_comm (l₁ := ks) (l₂ := [c])).trans (insert_perm c ks).symm
  · unfold toI
    rw [List.pairwise_map]
    exact (insert_sorted hn g).imp fun {a b} h => by omega
theorem Good.insert {c : Nat} {ks : List Nat} (g : Good ks) (hl : ks.length ≤ 6) (h1 : 2 ≤ c) (h2 : c ≤ 100) (hn : c ∉ ks) : Good (Su99.insert c ks) where
  inc := insert_sorted hn g.inc
  one := (insert_perm c ks).mem_iff.mpr (List.mem_cons_of_mem _ g.one)
  rng := fun d hd => by
    rcases List.mem_cons.mp ((insert_perm c ks).mem_iff.mp hd) with z | z
    · omega
    · exact g.rng d z
  len := by
    rw [(insert_perm c ks).length_eq, List.length_cons]
    omega
theorem Good.drop {c : Nat} {ks : List Nat} (g : Good ks) (h1 : c ≠ 1) : Good (ks.filter fun d => d != c) where
  inc := g.inc.filter _
  one := List.mem_filter.mpr ⟨g.one, by simp; omega⟩
  rng := fun d hd => g.rng d (List.mem_filter.mp hd).1
  len := Nat.le_trans (List.length_filter_le _ _) g.len
end Fc

end

section
set_option Elab.async false
set_option linter.all false
set_option maxRecDepth 100000
set_option maxHeartbeats 2000000
namespace Fc
open PySem PySem.Spec PyProof.Rows L2
abbrev sWth : Stmt := top 32
abbrev sWot : Stmt := top 33
abbrev sBeg : Stmt := top 34
abbrev sKnd : Stmt := top 35
abbrev sDrp : Stmt := top 36
abbrev sPFew : Stmt := top 37
abbrev sGdy : Stmt := top 38
abbrev sHow : Stmt := top 39
abbrev sWys : Stmt := top 40
abbrev sWrs : Stmt := top 41
abbrev sAlf : Stmt := top 42
abbrev sAlw : Stmt := top 43
abbrev sLea : Stmt := top 44
abbrev sBad : Stmt := top 45
abbrev sMst : Stmt := top 46
abbrev sFar : Stmt := top 47
abbrev sPls : Stmt := top 48
abbrev sWtt : Stmt := top 49
abbrev sBes : Stmt := top 50
abbrev sSts : Stmt := top 51
abbrev sKds : Stmt := top 52
abbrev sSms : Stmt := top 53
theorem same0 {H : Hp} : Same H H := fun _ _ e => e
theorem one_le : ([x] : List V).length ≤ sizeLine := by show 1 ≤ sizeLine; decide
theorem least_non {ks : List Nat} : leastV ks = .non ↔ (⟨ks⟩ : Su99.Abs).always = true := by
  unfold leastV Su99.Abs.always
  show _ ↔ ((⟨ks⟩ : Su99.Abs).bad (edgeN ks)).isEmpty = true
  cases (⟨ks⟩ : Su99.Abs).bad (edgeN ks) with
  | nil => exact ⟨fun _ => rfl, fun _ => rfl⟩
  | cons a l => exact ⟨fun h => (by cases h), fun h => (by cases h)⟩
theorem flt_snoc (c : Nat) (l : List Nat) (d : Nat) : (l ++ [d]).filter (fun x => x != c) = l.filter (fun x => x != c) ++ (if d = c then [] else [d]) := by
  rw [List.filter_append]
  congr 1
  by_cases h : d = c
  · rw [if_pos h, List.filter_cons, if_neg (by simp [h])]
    rfl
  · rw [if_neg h, List.filter_cons, if_pos (by simp [h])]
    rfl
def spAlf (K : PySem.W.Frag) : Sp := fun vs H Q _ => ∃ (a : Addr) (ks : List Nat), vs = [.ref a] ∧ SqL K H a (nvs ks) ∧ KOk ks ∧ edgeN ks ≤ 1000 ∧ ∀ H' : Hp, Same H H' → Q (nv (Su99.bit (⟨ks⟩ : Su99.Abs).always)) H'
def spWth (K : PySem.W.Frag) : Sp := fun vs H Q _ => ∃ (a : Addr) (ks : List Nat) (c : Nat), vs = [.ref a, nv c] ∧ H a = some (.lst (nvs ks)) ∧ ks.Pairwise (· < ·) ∧ c ∉ ks ∧ ks.length ≤ 60 ∧
  ∀ (H' : Hp) (p : Addr), Same H H' → H p = none → H' p = some (.lst (nvs (Su99.insert c ks))) → Q (.ref p) H'
def spWot (K : PySem.W.Frag) : Sp := fun vs H Q _ => ∃ (a : Addr) (ks : List Nat) (c : Nat), vs = [.ref a, nv c] ∧ SqL K H a (nvs ks) ∧ ks.length ≤ 60 ∧
  ∀ (H' : Hp) (p : Addr), Same H H' → H p = none → H' p = some (.lst (nvs (ks.filter fun d => d != c))) → Q (.ref p) H'
section
variable {P : Program} {w : World} {K : PySem.W.Frag} {mg : Str → Option Value} {base : Heap}
theorem scAlf : FnScope ["worths"] ["worths"] (defScope sAlf) := ⟨rfl, rfl, rfl, by decide +kernel, rfl, by decide +kernel, by decide +kernel⟩
theorem ok_alf {f : Addr} {fd : FuncData} (F : Fun K "always_fewest" "always_fewest" sAlf f fd) (CL : Cal P w K mg base 4 "least_worse" ["kinds"] (spLst K)) : FnOk P w K mg base CX0 5 f fd ["worths"] (spAlf K) := by
  obtain ⟨fL, fdL, GL, kL, bL, mL⟩ := CL
  refine F.ok scAlf (fun vs H Q E h => ?_) (fun cdv A outer s H vs Q E hr h => ?_)
  · obtain ⟨a, ks, rfl, _⟩ := h
    rfl
  · obtain ⟨a, ks, rfl, hS, hk, hE, k⟩ := h
    refine ⟨_, pss_one (ps_ret (pe_ifExp (pt_cmpR op_isN (pe_call GL hr rfl mL kL bL .nil pass0 (pa_cons (pv 0) pa_nil)) pe_non (nomark _)) pe_int pe_int)), ?_⟩
    refine ⟨_, rfl, a, ks, rfl, hS, hk, hE, fun H1 s1 => ?_⟩
    have kk := k H1 s1
    refine ⟨rfl, _, rfl, ite2 (fun hc => ?_) (fun hc => ?_)⟩
    · rw [least_non.mp (of_decide_eq_true hc)] at kk
      exact kk
    · have e : (⟨ks⟩ : Su99.Abs).always = false := by
        cases z : (⟨ks⟩ : Su99.Abs).always with
        | false => rfl
        | true => exact absurd (decide_eq_true (least_non.mpr z)) hc
      rw [e] at kk
      exact kk
theorem scWth : FnScope ["worths", "worth"] ["worths", "worth"] (defScope sWth) := ⟨rfl, rfl, rfl, by decide +kernel, rfl, by decide +kernel, by decide +kernel⟩
theorem ok_wth {f : Addr} {fd : FuncData} (F : Fun K "with_worth" "with_worth" sWth f fd) (B : Blt mg) : FnOk P w K mg base CX0 1 f fd ["worths", "worth"] (spWth K) := by
  refine F.ok scWth (fun vs H Q E h => ?_) (fun cdv A outer s H vs Q E hr h => ?_)
  · obtain ⟨a, ks, c, rfl, _⟩ := h
    rfl
  · obtain ⟨a, ks, c, rfl, hS, inc, hin, hlen, k⟩ := h
    refine ⟨_, pss_one (ps_ret (pe_callB cr_sorted rfl B.srt_ boot_srtF (pa_cons (pe_op op_cat (pv 0) (pe_lst (pa_cons (pv 1) pa_nil))) pa_nil))), ?_⟩
    refine ⟨_, rfl, _, rfl, one_le, fun o ho => ?_⟩
    have lo : a ≠ o := ne_of_none hS ho
    refine ⟨a, o, _, _, rfl, rfl, (by rw [upd_ne lo]; exact hS), upd_same, ?_, fun q0 hq0 => ?_⟩
    · rw [nvs_len]
      exact small_size (by simp; omega)
    have e0 : nvs ks ++ [nv c] = (toI (ks ++ [c])).map V.int := by
      rw [← nvs_toI, nvs_app]
      rfl
    refine ⟨q0, toI (ks ++ [c]), rfl, by rw [← e0]; exact SqL.of upd_same, ?_, fun ns l' hp hs hl' => ?_⟩
    · unfold toI
      rw [List.length_map, List.length_append]
      show ks.length + 1 < 64
      omega
    have en := sorted_insert inc hin hp hs
    subst en
    have s1 : Same H (upd H o (.lst [nv c])) := L2.Same.upd_new same0 ho
    have s2 := L2.Same.upd_new (o := .lst (nvs ks ++ [nv c])) s1 hq0
    exact k _ l' (L2.Same.upd_new s2 hl') (L2.Same.free s2 hl') (by rw [upd_same, ← nvs_toI])
theorem scWot : FnScope ["worths", "worth", "other"] ["worths", "worth"] (defScope sWot) := ⟨rfl, rfl, rfl, by decide +kernel, rfl, by decide +kernel, by decide +kernel⟩
theorem ok_wot {f : Addr} {fd : FuncData} (F : Fun K "without_worth" "without_worth" sWot f fd) (B : Blt mg) : FnOk P w K mg base CX0 1 f fd ["worths", "worth"] (spWot K) := by
  refine F.ok scWot (fun vs H Q E h => ?_) (fun cdv A outer s H vs Q E hr h => ?_)
  · obtain ⟨a, ks, c, rfl, _⟩ := h
    rfl
  · obtain ⟨a, ks, c, rfl, hS, hlen, k⟩ := h
    refine ⟨_, pss_one (ps_ret (pe_lc rfl scWot.nd (pi_list (pv 0)) (own := [("other", 2)]) (blkOk_by (by show blkC ["worths", "worth", "other"] (defScope sWot) _ _ = true; decide +kernel))
          (fun s H C cl fp => pg_name (i := 2) scWot.nd rfl (Or.inl rfl)) (fun s H C cl fp => pts_one (pt_cmpR op_ne (pv 2) (pv 1) (nomark _))) (fun s H C cl fp => pv 2))), ?_⟩
    refine ⟨_, rfl, a, rfl, ⟨_, hS⟩, fun D hD => ?_⟩
    refine lc_list (K := K) (a := a) (xs := nvs ks) (fun j H2 => Same H H2 ∧ H2 D = some (.lst (nvs ((ks.take j).filter fun d => d != c)))) ⟨L2.Same.upd_new same0 hD, upd_same⟩ (fun j H2 _ ⟨sm, _⟩ => L2.Same.seq sm hS) ?_ ?_
    · rintro j y H2 hj ⟨sm, hD2⟩
      obtain ⟨d, hd, rfl⟩ := nvs_get hj
      refine ⟨rfl, _, rfl, _, rfl, rfl, _, rfl, ?_⟩
      show if (!decide (V.int (d : Int) = V.int (c : Int))) = true then _ else _
      rw [int_eq]
      by_cases e : d = c
      · refine iteNS e ⟨sm, ?_⟩
        rw [take_snoc hd, flt_snoc, if_pos e, List.append_nil]
        exact hD2
      · rw [decide_eq_false e]
        refine iteT ⟨_, rfl, _, hD2, ?_, L2.Same.upd_free sm hD, ?_⟩
        · rw [nvs_len]
          have h3 := List.length_filter_le (fun d => d != c) (ks.take j)
          rw [List.length_take] at h3
          exact small_size1 (by omega)
        · rw [upd_same, take_snoc hd, flt_snoc, if_neg e, nvs_app]
          rfl
    · rintro H2 ⟨sm, hD2⟩
      rw [nvs_len, List.take_length] at hD2
      exact k H2 D sm hD hD2
end
/-- the defs that the calls on a purse call -/
structure Cals (P : Program) (w : World) (K : PySem.W.Frag) (mg : Str → Option Value) (base : Heap) : Prop where
  few : Cal P w K mg base 5 "fewest_up_to" ["kinds", "top"] (spFew K)
  grt : Cal P w K mg base 5 "greatest_first" ["kinds", "total"] (spGrt K)
  gup : Cal P w K mg base 5 "greatest_first_up_to" ["kinds", "top"] (spGup K)
  way : Cal P w K mg base 5 "fewest_way" ["kinds", "total"] (spWay K)
  cnt : Cal P w K mg base 5 "count_fewest_ways" ["kinds", "total"] (spCnt K)
  edg : Cal P w K mg base 5 "edge_of" ["kinds"] (spEdg K)
  wut : Cal P w K mg base 5 "worse_up_to" ["kinds", "top"] (spWut K)
  lst : Cal P w K mg base 5 "least_worse" ["kinds"] (spLst K)
  fwt : Cal P w K mg base 5 "farthest_with" ["kinds", "most", "top"] (spFwt K)
  bst : Cal P w K mg base 5 "best_one_more" ["kinds", "top"] (spBst K)
  stp : Cal P w K mg base 5 "in_steps" ["kinds"] (spStp K)
  wth : Cal P w K mg base 5 "with_worth" ["worths", "worth"] (spWth K)
  wot : Cal P w K mg base 5 "without_worth" ["worths", "worth"] (spWot K)
  alf : Cal P w K mg base 5 "always_fewest" ["worths"] (spAlf K)
end Fc

end

section
set_option Elab.async false
set_option linter.all false
set_option maxRecDepth 100000
set_option maxHeartbeats 2000000
namespace Fc
open PySem PySem.Spec PyProof.Rows L2
/-- what is wanted behind a call on the purse -/
abbrev Wants (C : Addr) (H : Hp) (p : Addr) (ks : List Nat) (c : Su99.Call) (Q : VK) : Prop :=
  ∀ (H' : Hp) (q : Addr), PTo C H H' p (newOf ks c) → (∀ b o, H b = some o → b ≠ p → H' b = some o) → H q = none → H' q = some (.lst (ivs (ansOf ks c))) → Q (.ref q) H'
/-- the end of a call that changes nothing -/
theorem fin_ro {C p q : Addr} {H H1 : Hp} {ks : List Nat} {c : Su99.Call} {Q : VK} {a : Su99.Ans} {xs : List V} (k : Wants C H p ks c Q) (a0 : PAt C H p ks) (e : Su99.does ⟨ks⟩ c = (⟨ks⟩, a)) (s1 : Same H H1) (hq : H1 q = none)
    (hx : xs = ivs (a.value :: Su99Neutral.outs a.out)) : Q (.ref q) (upd H1 q (.lst xs)) := by
  have s2 : Same H (upd H1 q (.lst xs)) := L2.Same.upd_new s1 hq
  refine k _ q ?_ (fun b o e _ => s2 b o e) (L2.Same.free s1 hq) ?_
  · unfold newOf
    rw [e]
    exact a0.to s2
  · unfold ansOf
    rw [e, upd_same, hx]
theorem nvs_outs (l : List Nat) : nvs l = ivs (Su99Neutral.outs l) := nvs_toI l
section
variable {P : Program} {w : World} {K : PySem.W.Frag} {mg : Str → Option Value} {base : Heap}
/-- begin: whatever kinds there were -/
def spBeg (C : Addr) : Sp := fun vs H Q _ => ∃ (p : Addr) (ks : List Nat), vs = [.ref p] ∧ PAt C H p ks ∧
  ∀ (H' : Hp) (q : Addr), PTo C H H' p [1] → (∀ b o, H b = some o → b ≠ p → H' b = some o) → H q = none → H' q = some (.lst (ivs [0])) → Q (.ref q) H'
theorem scBeg : FnScope ["purse"] ["purse"] (defScope sBeg) := ⟨rfl, rfl, rfl, by decide +kernel, rfl, by decide +kernel, by decide +kernel⟩
/-- the purse's list is another one now, and an answer is laid -/
theorem fin_new {C p l' q dx : Addr} {fs : List (Str × V)} {H H1 : Hp} {ks' : List Nat} {xs : List Int} {Q : VK} (h1 : H p = some (.ins C dx fs)) (s1 : Same H H1) (hl' : H1 l' = some (.lst (nvs ks'))) (hn : H l' = none)
    (hq : upd H1 p (.ins C dx (pf l')) q = none)
    (k : ∀ (H' : Hp) (q : Addr), PTo C H H' p ks' → (∀ b o, H b = some o → b ≠ p → H' b = some o) → H q = none → H' q = some (.lst (ivs xs)) → Q (.ref q) H') : Q (.ref q) (upd (upd H1 p (.ins C dx (pf l'))) q (.lst (ivs xs))) := by
  have np : p ≠ l' := ne_of_none h1 hn
  have qp : q ≠ p := fun e => by rw [e, upd_same] at hq; cases hq
  have ql : q ≠ l' := fun e => by rw [e, upd_ne (Ne.symm np), hl'] at hq; cases hq
  rw [upd_ne qp] at hq
  refine k _ q ⟨dx, l', ?_, ?_, .inl hn⟩ (fun b o e hb => ?_) (L2.Same.free s1 hq) upd_same
  · rw [upd_ne (Ne.symm qp), upd_same]
  · rw [upd_ne (Ne.symm ql), upd_ne (Ne.symm np)]
    exact hl'
  · have bq : b ≠ q := ne_of_none (s1 _ _ e) hq
    rw [upd_ne bq, upd_ne hb]
    exact s1 _ _ e
theorem ok_beg {f C : Addr} {fd : FuncData} (F : Fun K "begin" "begin" sBeg f fd) (T : Txt K mg C) : FnOk P w K mg base CX0 6 f fd ["purse"] (spBeg C) := by
  refine F.ok scBeg (fun vs H Q E h => ?_) (fun cdv A outer s H vs Q E hr h => ?_)
  · obtain ⟨p, ks, rfl, _⟩ := h
    rfl
  · obtain ⟨p, ks, rfl, ⟨dx, l, h1, h2⟩, k⟩ := h
    refine ⟨_, pss_cons (ps_fld (pv 0) (pe_lst (pa_cons pe_int pa_nil)) rfl) (pss_one (ps_ret (pe_lst (pa_cons pe_int pa_nil)))), ?_⟩
    refine ⟨one_le, fun l' hl' => ?_⟩
    have np : p ≠ l' := ne_of_none h1 hl'
    refine ⟨_, rfl, p, C, dx, _, rfl, (by rw [upd_ne np]; exact h1), T.cl, T.nW, (by show 1 < 1000; decide), ?_⟩
    rw [pf_put]
    refine ⟨one_le, fun q hq => ?_⟩
    exact fin_new (ks' := [1]) (xs := [0]) h1 (L2.Same.upd_new same0 hl') upd_same hl' hq k
theorem scPFew : FnScope ["purse", "total"] ["purse", "total"] (defScope sPFew) := ⟨rfl, rfl, rfl, by decide +kernel, rfl, by decide +kernel, by decide +kernel⟩
theorem ok_pfew {f C : Addr} {fd : FuncData} (F : Fun K "fewest" "fewest" sPFew f fd) (T : Txt K mg C) (B : Blt mg) (Z : Cst mg) (L : Cals P w K mg base) : FnOk P w K mg base CX0 6 f fd ["purse", "total"] (spAct1 C .fewest) := by
  obtain ⟨fF, fdF, GF, kF, bF, mF⟩ := L.few
  refine F.ok scPFew (fun vs H Q E h => ?_) (fun cdv A outer s H vs Q E hr h => ?_)
  · obtain ⟨p, ks, n, rfl, _⟩ := h
    rfl
  · obtain ⟨p, ks, n, rfl, ⟨dx, l, h1, h2⟩, g, hl6, k⟩ := h
    have a0 : PAt C H p ks := ⟨dx, l, h1, h2⟩
    refine ⟨_, pss_cons (ps_if (pt_cmpR op_gt (pv 1) (pe_cst rfl Z.k1000) (nomark _)) (pss_one (ps_ret (pe_lst (pa_cons (pe_cst rfl Z.c22) pa_nil)))) pss_nil)
      (pss_one (ps_ret (pe_lst (pa_cons (pe_ix ix_list (pe_call GF hr rfl mF kF bF .nil pass0 (pa_cons (pe_fld (pv 0) rfl) (pa_cons (pv 1) pa_nil))) (pv 1) (fun _ _ => rfl)) pa_nil)))), ?_⟩
    refine ⟨_, rfl, _, _, rfl, rfl, _, rfl, ite2 (fun hc => ?_) (fun hc => ?_)⟩
    · have hc' : 1000 < n := by have := of_decide_eq_true hc; omega
      exact ⟨one_le, fun q hq => fin_ro k a0 (if_pos hc') same0 hq rfl⟩
    · have hc' : ¬ 1000 < n := fun z => hc (decide_eq_true (by omega))
      refine ⟨_, rfl, p, C, dx, _, _, rfl, h1, T.cl, T.nW, pf_get l, _, rfl, l, ks, n, rfl, SqL.of h2, g.ok, by omega, fun H1 t s1 ht hl => ?_⟩
      exact ⟨_, rfl, t, _, _, _, rfl, rfl, SqL.of hl, atI_nat (fews_get (by omega)), one_le, fun q hq => fin_ro k a0 (if_neg hc') s1 hq rfl⟩
/-! ### greedy, how, ways, worse -/
theorem scGdy : FnScope ["purse", "total", "counts"] ["purse", "total"] (defScope sGdy) := ⟨rfl, rfl, rfl, by decide +kernel, rfl, by decide +kernel, by decide +kernel⟩
theorem ok_gdy {f C : Addr} {fd : FuncData} (F : Fun K "greedy" "greedy" sGdy f fd) (T : Txt K mg C) (B : Blt mg) (Z : Cst mg) (L : Cals P w K mg base) : FnOk P w K mg base CX0 6 f fd ["purse", "total"] (spAct1 C .greedy) := by
  obtain ⟨fG, fdG, GG, kG, bG, mG⟩ := L.grt
  refine F.ok scGdy (fun vs H Q E h => ?_) (fun cdv A outer s H vs Q E hr h => ?_)
  · obtain ⟨p, ks, n, rfl, _⟩ := h
    rfl
  · obtain ⟨p, ks, n, rfl, ⟨dx, l, h1, h2⟩, g, hl6, k⟩ := h
    have a0 : PAt C H p ks := ⟨dx, l, h1, h2⟩
    refine ⟨_, pss_cons (ps_if (pt_cmpR op_gt (pv 1) (pe_cst rfl Z.k1000) (nomark _)) (pss_one (ps_ret (pe_lst (pa_cons (pe_cst rfl Z.c22) pa_nil)))) pss_nil)
      (pss_cons (ps_set (i := 2) scGdy.nd rfl (Or.inl rfl) (pe_call GG hr rfl mG kG bG .nil pass0 (pa_cons (pe_fld (pv 0) rfl) (pa_cons (pv 1) pa_nil))))
      (pss_one (ps_ret (pe_op op_cat (pe_lst (pa_cons (pe_callB (cr_sum rfl) rfl B.sum_ boot_sumF (pa_cons (pv 2) pa_nil)) pa_nil)) (pv 2))))), ?_⟩
    refine ⟨_, rfl, _, _, rfl, rfl, _, rfl, ite2 (fun hc => ?_) (fun hc => ?_)⟩
    · have hc' : 1000 < n := by have := of_decide_eq_true hc; omega
      exact ⟨one_le, fun q hq => fin_ro k a0 (if_pos hc') same0 hq rfl⟩
    · have hc' : ¬ 1000 < n := fun z => hc (decide_eq_true (by omega))
      refine ⟨_, rfl, p, C, dx, _, _, rfl, h1, T.cl, T.nW, pf_get l, _, rfl, l, ks, n, rfl, SqL.of h2, g.pos, (by have := g.len; omega), fun H1 t s1 ht hl => ?_⟩
      refine ⟨_, rfl, t, toI (Su99.first ks.reverse n).reverse, rfl, by rw [← nvs_toI]; exact SqL.of hl, one_le, fun o ho => ?_⟩
      have to : t ≠ o := ne_of_none hl ho
      refine ⟨_, rfl, o, t, _, _, rfl, rfl, upd_same, (by rw [upd_ne to]; exact hl), ?_, fun q hq => ?_⟩
      · rw [nvs_len, List.length_reverse, first_len, List.length_reverse]
        have := g.len
        exact small_size (by simp; omega)
      · refine fin_ro k a0 (if_neg hc') (L2.Same.upd_new s1 ho) hq ?_
        rw [sum_toI, sum_rev]
        show V.int _ :: nvs _ = V.int _ :: ivs _
        rw [nvs_outs]
        rfl
theorem scHow : FnScope ["purse", "total", "counts"] ["purse", "total"] (defScope sHow) := ⟨rfl, rfl, rfl, by decide +kernel, rfl, by decide +kernel, by decide +kernel⟩
theorem ok_how {f C : Addr} {fd : FuncData} (F : Fun K "how" "how" sHow f fd) (T : Txt K mg C) (B : Blt mg) (Z : Cst mg) (L : Cals P w K mg base) : FnOk P w K mg base CX0 6 f fd ["purse", "total"] (spAct1 C .how) := by
  obtain ⟨fW, fdW, GW, kW, bW, mW⟩ := L.way
  refine F.ok scHow (fun vs H Q E h => ?_) (fun cdv A outer s H vs Q E hr h => ?_)
  · obtain ⟨p, ks, n, rfl, _⟩ := h
    rfl
  · obtain ⟨p, ks, n, rfl, ⟨dx, l, h1, h2⟩, g, hl6, k⟩ := h
    have a0 : PAt C H p ks := ⟨dx, l, h1, h2⟩
    refine ⟨_, pss_cons (ps_if (pt_cmpR op_gt (pv 1) (pe_cst rfl Z.k300) (nomark _)) (pss_one (ps_ret (pe_lst (pa_cons (pe_cst rfl Z.c22) pa_nil)))) pss_nil)
      (pss_cons (ps_set (i := 2) scHow.nd rfl (Or.inl rfl) (pe_call GW hr rfl mW kW bW .nil pass0 (pa_cons (pe_fld (pv 0) rfl) (pa_cons (pv 1) pa_nil))))
      (pss_one (ps_ret (pe_op op_cat (pe_lst (pa_cons (pe_callB (cr_sum rfl) rfl B.sum_ boot_sumF (pa_cons (pv 2) pa_nil)) pa_nil)) (pv 2))))), ?_⟩
    refine ⟨_, rfl, _, _, rfl, rfl, _, rfl, ite2 (fun hc => ?_) (fun hc => ?_)⟩
    · have hc' : 300 < n := by have := of_decide_eq_true hc; omega
      exact ⟨one_le, fun q hq => fin_ro k a0 (if_pos hc') same0 hq rfl⟩
    · have hc' : ¬ 300 < n := fun z => hc (decide_eq_true (by omega))
      refine ⟨_, rfl, p, C, dx, _, _, rfl, h1, T.cl, T.nW, pf_get l, _, rfl, l, ks, n, rfl, SqL.of h2, g.ok, by omega, fun H1 t s1 ht hl => ?_⟩
      refine ⟨_, rfl, t, toI (Su99.how ks.reverse n).reverse, rfl, by rw [← nvs_toI]; exact SqL.of hl, one_le, fun o ho => ?_⟩
      have to : t ≠ o := ne_of_none hl ho
      refine ⟨_, rfl, o, t, _, _, rfl, rfl, upd_same, (by rw [upd_ne to]; exact hl), ?_, fun q hq => ?_⟩
      · rw [nvs_len, List.length_reverse, how_len, List.length_reverse]
        have := g.len
        exact small_size (by simp; omega)
      · refine fin_ro k a0 (if_neg hc') (L2.Same.upd_new s1 ho) hq ?_
        have e : (Su99.how ks.reverse n).sum = Su99.fewest ks n := by
          obtain ⟨tl, rfl⟩ := g.head
          rw [← few_rev (1 :: tl), List.reverse_cons, how_sum]
          exact fun c hc => (g.rng c (List.mem_cons_of_mem _ (List.mem_reverse.mp hc))).1
        rw [sum_toI, sum_rev, e]
        show V.int _ :: nvs _ = V.int _ :: ivs _
        rw [nvs_outs]
        rfl
theorem scWys : FnScope ["purse", "total"] ["purse", "total"] (defScope sWys) := ⟨rfl, rfl, rfl, by decide +kernel, rfl, by decide +kernel, by decide +kernel⟩
theorem ok_wys {f C : Addr} {fd : FuncData} (F : Fun K "ways" "ways" sWys f fd) (T : Txt K mg C) (B : Blt mg) (Z : Cst mg) (L : Cals P w K mg base) : FnOk P w K mg base CX0 6 f fd ["purse", "total"] (spAct1 C .ways) := by
  obtain ⟨fN, fdN, GN, kN, bN, mN⟩ := L.cnt
  refine F.ok scWys (fun vs H Q E h => ?_) (fun cdv A outer s H vs Q E hr h => ?_)
  · obtain ⟨p, ks, n, rfl, _⟩ := h
    rfl
  · obtain ⟨p, ks, n, rfl, ⟨dx, l, h1, h2⟩, g, hl6, k⟩ := h
    have a0 : PAt C H p ks := ⟨dx, l, h1, h2⟩
    refine ⟨_, pss_cons (ps_if (pt_cmpR op_gt (pv 1) (pe_cst rfl Z.k60) (nomark _)) (pss_one (ps_ret (pe_lst (pa_cons (pe_cst rfl Z.c22) pa_nil)))) pss_nil)
      (pss_one (ps_ret (pe_lst (pa_cons (pe_call GN hr rfl mN kN bN .nil pass0 (pa_cons (pe_fld (pv 0) rfl) (pa_cons (pv 1) pa_nil))) pa_nil)))), ?_⟩
    refine ⟨_, rfl, _, _, rfl, rfl, _, rfl, ite2 (fun hc => ?_) (fun hc => ?_)⟩
    · have hc' : 60 < n := by have := of_decide_eq_true hc; omega
      exact ⟨one_le, fun q hq => fin_ro k a0 (if_pos hc') same0 hq rfl⟩
    · have hc' : ¬ 60 < n := fun z => hc (decide_eq_true (by omega))
      obtain ⟨tl, etl⟩ := g.head
      subst etl
      refine ⟨_, rfl, p, C, dx, _, _, rfl, h1, T.cl, T.nW, pf_get l, _, rfl, l, tl, n, rfl, SqL.of h2, g.pos, by omega, fun H1 s1 => ?_⟩
      exact ⟨one_le, fun q hq => fin_ro k a0 (if_neg hc') s1 hq rfl⟩
theorem scWrs : FnScope ["purse", "total"] ["purse", "total"] (defScope sWrs) := ⟨rfl, rfl, rfl, by decide +kernel, rfl, by decide +kernel, by decide +kernel⟩
theorem ok_wrs {f C : Addr} {fd : FuncData} (F : Fun K "worse" "worse" sWrs f fd) (T : Txt K mg C) (B : Blt mg) (Z : Cst mg) (L : Cals P w K mg base) : FnOk P w K mg base CX0 6 f fd ["purse", "total"] (spAct1 C .worse) := by
  obtain ⟨fG, fdG, GG, kG, bG, mG⟩ := L.grt
  obtain ⟨fF, fdF, GF, kF, bF, mF⟩ := L.few
  refine F.ok scWrs (fun vs H Q E h => ?_) (fun cdv A outer s H vs Q E hr h => ?_)
  · obtain ⟨p, ks, n, rfl, _⟩ := h
    rfl
  · obtain ⟨p, ks, n, rfl, ⟨dx, l, h1, h2⟩, g, hl6, k⟩ := h
    have a0 : PAt C H p ks := ⟨dx, l, h1, h2⟩
    refine ⟨_, pss_cons (ps_if (pt_cmpR op_gt (pv 1) (pe_cst rfl Z.k1000) (nomark _)) (pss_one (ps_ret (pe_lst (pa_cons (pe_cst rfl Z.c22) pa_nil)))) pss_nil)
      (pss_one (ps_ret (pe_lst (pa_cons (pe_op op_sub (pe_callB (cr_sum rfl) rfl B.sum_ boot_sumF (pa_cons (pe_call GG hr rfl mG kG bG .nil pass0 (pa_cons (pe_fld (pv 0) rfl) (pa_cons (pv 1) pa_nil))) pa_nil))
        (pe_ix ix_list (pe_call GF hr rfl mF kF bF .nil pass0 (pa_cons (pe_fld (pv 0) rfl) (pa_cons (pv 1) pa_nil))) (pv 1) (fun _ _ => rfl))) pa_nil)))), ?_⟩
    refine ⟨_, rfl, _, _, rfl, rfl, _, rfl, ite2 (fun hc => ?_) (fun hc => ?_)⟩
    · have hc' : 1000 < n := by have := of_decide_eq_true hc; omega
      exact ⟨one_le, fun q hq => fin_ro k a0 (if_pos hc') same0 hq rfl⟩
    · have hc' : ¬ 1000 < n := fun z => hc (decide_eq_true (by omega))
      refine ⟨_, rfl, p, C, dx, _, _, rfl, h1, T.cl, T.nW, pf_get l, _, rfl, l, ks, n, rfl, SqL.of h2, g.pos, (by have := g.len; omega), fun H1 t s1 ht hl => ?_⟩
      refine ⟨t, toI (Su99.first ks.reverse n).reverse, rfl, by rw [← nvs_toI]; exact SqL.of hl, ?_⟩
      refine ⟨_, rfl, p, C, dx, _, _, rfl, s1 _ _ h1, T.cl, T.nW, pf_get l, _, rfl, l, ks, n, rfl, SqL.of (s1 _ _ h2), g.ok, by omega, fun H2 t2 s2 ht2 hl2 => ?_⟩
      refine ⟨_, rfl, t2, _, _, _, rfl, rfl, SqL.of hl2, atI_nat (fews_get (by omega)), _, _, rfl, rfl, one_le, fun q hq => fin_ro k a0 (if_neg hc') (L2.Same.trans s1 s2) hq ?_⟩
      have e : (toI (Su99.first ks.reverse n).reverse).sum = ((takes ks n : Nat) : Int) := by rw [sum_toI, sum_rev]; rfl
      have le := few_le_takes g n
      rw [e]
      show [V.int (((takes ks n : Nat) : Int) - ((Su99.fewest ks n : Nat) : Int))] = [V.int (((takes ks n - Su99.fewest ks n : Nat)) : Int)]
      rw [Int.ofNat_sub le]
/-! ### always, least -/
theorem scAlw : FnScope ["purse"] ["purse"] (defScope sAlw) := ⟨rfl, rfl, rfl, by decide +kernel, rfl, by decide +kernel, by decide +kernel⟩
theorem ok_alw {f C : Addr} {fd : FuncData} (F : Fun K "always" "always" sAlw f fd) (T : Txt K mg C) (L : Cals P w K mg base) : FnOk P w K mg base CX0 6 f fd ["purse"] (spAct0 C .always) := by
  obtain ⟨fA, fdA, GA, kA, bA, mA⟩ := L.alf
  obtain ⟨fE, fdE, GE, kE, bE, mE⟩ := L.edg
  refine F.ok scAlw (fun vs H Q E h => ?_) (fun cdv A outer s H vs Q E hr h => ?_)
  · obtain ⟨p, ks, rfl, _⟩ := h
    rfl
  · obtain ⟨p, ks, rfl, ⟨dx, l, h1, h2⟩, g, hl6, k⟩ := h
    have a0 : PAt C H p ks := ⟨dx, l, h1, h2⟩
    refine ⟨_, pss_one (ps_ret (pe_lst (pa_cons (pe_call GA hr rfl mA kA bA .nil pass0 (pa_cons (pe_fld (pv 0) rfl) pa_nil)) (pa_cons (pe_call GE hr rfl mE kE bE .nil pass0 (pa_cons (pe_fld (pv 0) rfl) pa_nil)) pa_nil)))), ?_⟩
    refine ⟨_, rfl, p, C, dx, _, _, rfl, h1, T.cl, T.nW, pf_get l, l, ks, rfl, SqL.of h2, g.ok, (by have := g.edge; omega), fun H1 s1 => ?_⟩
    refine ⟨_, rfl, p, C, dx, _, _, rfl, s1 _ _ h1, T.cl, T.nW, pf_get l, l, ks, rfl, SqL.of (s1 _ _ h2), g.one, (by show 2 ≤ sizeLine; decide), fun q hq => ?_⟩
    exact fin_ro k a0 rfl s1 hq rfl
theorem scLea : FnScope ["purse", "total"] ["purse"] (defScope sLea) := ⟨rfl, rfl, rfl, by decide +kernel, rfl, by decide +kernel, by decide +kernel⟩
theorem ok_lea {f C : Addr} {fd : FuncData} (F : Fun K "least" "least" sLea f fd) (T : Txt K mg C) (B : Blt mg) (Z : Cst mg) (L : Cals P w K mg base) : FnOk P w K mg base CX0 6 f fd ["purse"] (spAct0 C .least) := by
  obtain ⟨fL, fdL, GL, kL, bL, mL⟩ := L.lst
  obtain ⟨fF, fdF, GF, kF, bF, mF⟩ := L.few
  obtain ⟨fG, fdG, GG, kG, bG, mG⟩ := L.grt
  refine F.ok scLea (fun vs H Q E h => ?_) (fun cdv A outer s H vs Q E hr h => ?_)
  · obtain ⟨p, ks, rfl, _⟩ := h
    rfl
  · obtain ⟨p, ks, rfl, ⟨dx, l, h1, h2⟩, g, hl6, k⟩ := h
    have a0 : PAt C H p ks := ⟨dx, l, h1, h2⟩
    refine ⟨_, pss_cons (ps_set (i := 1) scLea.nd rfl (Or.inl rfl) (pe_call GL hr rfl mL kL bL .nil pass0 (pa_cons (pe_fld (pv 0) rfl) pa_nil)))
      (pss_cons (ps_if (pt_cmpR op_isN (pv 1) pe_non (nomark _)) (pss_one (ps_ret (pe_lst (pa_cons (pe_cst rfl Z.c33) pa_nil)))) pss_nil)
      (pss_one (ps_ret (pe_lst (pa_cons (pv 1) (pa_cons (pe_ix ix_list (pe_call GF hr rfl mF kF bF .nil pass0 (pa_cons (pe_fld (pv 0) rfl) (pa_cons (pv 1) pa_nil))) (pv 1) (fun _ _ => rfl))
        (pa_cons (pe_callB (cr_sum rfl) rfl B.sum_ boot_sumF (pa_cons (pe_call GG hr rfl mG kG bG .nil pass0 (pa_cons (pe_fld (pv 0) rfl) (pa_cons (pv 1) pa_nil))) pa_nil)) pa_nil))))))), ?_⟩
    refine ⟨_, rfl, p, C, dx, _, _, rfl, h1, T.cl, T.nW, pf_get l, l, ks, rfl, SqL.of h2, g.ok, (by have := g.edge; omega), fun H1 s1 => ?_⟩
    refine ⟨_, rfl, rfl, _, rfl, ?_⟩
    have ge := g.edge
    have hd : ∀ a, ((⟨ks⟩ : Su99.Abs).bad (edgeN ks)).head? = a → Su99.does ⟨ks⟩ .least = (match a with | none => ((⟨ks⟩ : Su99.Abs), Su99.no (-33)) | some n => (⟨ks⟩, Su99.num n [Su99.fewest ks n, takes ks n])) := fun a ha => by
      subst ha
      rfl
    have hm : ∀ t, ((⟨ks⟩ : Su99.Abs).bad (edgeN ks)).head? = some t → t ≤ 200 := fun t ht => by
      have : t ∈ (⟨ks⟩ : Su99.Abs).bad (edgeN ks) := List.mem_of_mem_head? ht
      rw [bad_eq] at this
      have := List.mem_range.mp (List.mem_filter.mp this).1
      omega
    unfold leastV
    cases e : ((⟨ks⟩ : Su99.Abs).bad (edgeN ks)).head? with
    | none =>
      refine iteT ?_
      exact ⟨one_le, fun q hq => fin_ro k a0 (hd _ e) s1 hq rfl⟩
    | some t =>
      refine iteF ?_
      have ht := hm t e
      refine ⟨_, rfl, _, rfl, p, C, dx, _, _, rfl, s1 _ _ h1, T.cl, T.nW, pf_get l, _, rfl, l, ks, t, rfl, SqL.of (s1 _ _ h2), g.ok, by omega, fun H2 t2 s2 ht2 hl2 => ?_⟩
      refine ⟨_, rfl, t2, _, _, _, rfl, rfl, SqL.of hl2, atI_nat (fews_get (by omega)), _, rfl, p, C, dx, _, _, rfl, s2 _ _ (s1 _ _ h1), T.cl, T.nW, pf_get l, _, rfl, l, ks, t, rfl, SqL.of (s2 _ _ (s1 _ _ h2)), g.pos, (by have := g.len; omega), fun H3 t3 s3 ht3 hl3 => ?_⟩
      refine ⟨t3, toI (Su99.first ks.reverse t).reverse, rfl, by rw [← nvs_toI]; exact SqL.of hl3, (by show 3 ≤ sizeLine; decide), fun q hq => fin_ro k a0 (hd _ e) (L2.Same.trans (L2.Same.trans s1 s2) s3) hq ?_⟩
      have et : (toI (Su99.first ks.reverse t).reverse).sum = ((takes ks t : Nat) : Int) := by rw [sum_toI, sum_rev]; rfl
      rw [et]
      rfl
end
end Fc

end

section
set_option Elab.async false
set_option linter.all false
set_option maxRecDepth 100000
set_option maxHeartbeats 2000000
namespace Fc
open PySem PySem.Spec PyProof.Rows L2
section
variable {P : Program} {w : World} {K : PySem.W.Frag} {mg : Str → Option Value} {base : Heap}
theorem scKnd : FnScope ["purse", "worth"] ["purse", "worth"] (defScope sKnd) := ⟨rfl, rfl, rfl, by decide +kernel, rfl, by decide +kernel, by decide +kernel⟩
theorem mem_contains {ks : List Nat} {c : Nat} : ks.contains c = true ↔ c ∈ ks := by simp
theorem ok_knd {f C : Addr} {fd : FuncData} (F : Fun K "kind" "kind" sKnd f fd) (T : Txt K mg C) (B : Blt mg) (Z : Cst mg) (L : Cals P w K mg base) : FnOk P w K mg base CX0 6 f fd ["purse", "worth"] (spAct1 C .kind) := by
  obtain ⟨fW, fdW, GW, kW, bW, mW⟩ := L.wth
  refine F.ok scKnd (fun vs H Q E h => ?_) (fun cdv A outer s H vs Q E hr h => ?_)
  · obtain ⟨p, ks, n, rfl, _⟩ := h
    rfl
  · obtain ⟨p, ks, c, rfl, ⟨dx, l, h1, h2⟩, g, hl6, k⟩ := h
    have a0 : PAt C H p ks := ⟨dx, l, h1, h2⟩
    refine ⟨_, pss_cons (ps_if (PW.pt (pw_or (pt_cmpR op_lt (pv 1) (pe_cst rfl Z.k2) (nomark _)) (pw_or1 (pt_cmpR op_gt (pv 1) (pe_cst rfl Z.k100) (nomark _))))) (pss_one (ps_ret (pe_lst (pa_cons (pe_cst rfl Z.c22) pa_nil)))) pss_nil)
      (pss_cons (ps_if (pt_cmpR op_in_seq (pv 1) (pe_fld (pv 0) rfl) (by with_unfolding_all rfl)) (pss_one (ps_ret (pe_lst (pa_cons (pe_cst rfl Z.c17) pa_nil)))) pss_nil)
      (pss_cons (ps_if (pt_cmpR op_eq (pe_callB call_len_seq rfl B.len_ boot_lenF (pa_cons (pe_fld (pv 0) rfl) pa_nil)) (pe_cst rfl Z.k6) (nomark _)) (pss_one (ps_ret (pe_lst (pa_cons (pe_cst rfl Z.c28) pa_nil)))) pss_nil)
      (pss_cons (ps_fld (pv 0) (pe_call GW hr rfl mW kW bW .nil pass0 (pa_cons (pe_fld (pv 0) rfl) (pa_cons (pv 1) pa_nil))) rfl)
      (pss_one (ps_ret (pe_lst (pa_cons (pe_callB call_len_seq rfl B.len_ boot_lenF (pa_cons (pe_fld (pv 0) rfl) pa_nil)) pa_nil))))))), ?_⟩
    have no22 : (c < 2 ∨ 100 < c) → ∀ q, H q = none → Q (.ref q) (upd H q (.lst [.int (-22)])) := fun hc q hq => fin_ro k a0 (if_pos hc) same0 hq rfl
    have rest : ¬ (c < 2 ∨ 100 < c) → True := fun _ => trivial
    refine ⟨_, rfl, _, _, rfl, rfl, _, rfl, ite2 (fun hc => ?_) (fun hc => ?_)⟩
    · have hc' : c < 2 := by have := of_decide_eq_true hc; omega
      refine iteT ?_
      exact ⟨one_le, no22 (.inl hc')⟩
    · have hc' : ¬ c < 2 := fun z => hc (decide_eq_true (by omega))
      refine ⟨_, rfl, _, _, rfl, rfl, _, rfl, ite2 (fun hd => ?_) (fun hd => ?_)⟩
      · have hd' : 100 < c := by have := of_decide_eq_true hd; omega
        exact ⟨one_le, no22 (.inr hd')⟩
      · have hd' : ¬ 100 < c := fun z => hd (decide_eq_true (by omega))
        have e1 : ∀ x, Su99.does ⟨ks⟩ (.kind c) = x ↔ (if ks.contains c then ((⟨ks⟩ : Su99.Abs), Su99.no (-17)) else if 6 ≤ ks.length then (⟨ks⟩, Su99.no (-28)) else (⟨Su99.insert c ks⟩, Su99.num (ks.length + 1) [])) = x := fun x => by
          have : Su99.does ⟨ks⟩ (.kind c) = (if ks.contains c then ((⟨ks⟩ : Su99.Abs), Su99.no (-17)) else if 6 ≤ ks.length then (⟨ks⟩, Su99.no (-28)) else (⟨Su99.insert c ks⟩, Su99.num (ks.length + 1) [])) := if_neg (by show ¬ (c < 2 ∨ 100 < c); omega)
          rw [this]
        refine ⟨_, rfl, _, rfl, p, C, dx, _, _, rfl, h1, T.cl, T.nW, pf_get l, l, _, rfl, .inl (SqL.of h2), rfl, flat_nvs ks, _, rfl, ?_⟩
        rw [if_neg Bool.false_ne_true, in_nvs]
        refine ite2 (fun hin => ?_) (fun hin => ?_)
        · exact ⟨one_le, fun q hq => fin_ro k a0 ((e1 _).mpr (if_pos hin)) same0 hq rfl⟩
        · have hin' : c ∉ ks := fun z => hin (mem_contains.mpr z)
          refine ⟨_, rfl, p, C, dx, _, _, rfl, h1, T.cl, T.nW, pf_get l, l, _, rfl, .inl (SqL.of h2), rfl, _, rfl, ite2 (fun h6 => ?_) (fun h6 => ?_)⟩
          · have h6' : 6 ≤ ks.length := by
              have e := of_decide_eq_true h6
              injection e with e
              rw [nvs_len] at e
              omega
            exact ⟨one_le, fun q hq => fin_ro k a0 ((e1 _).mpr (by rw [if_neg hin, if_pos h6'])) same0 hq rfl⟩
          · have h6' : ¬ 6 ≤ ks.length := fun z => h6 (decide_eq_true (by rw [nvs_len, show ks.length = 6 by omega]; rfl))
            have ed : Su99.does ⟨ks⟩ (.kind c) = (⟨Su99.insert c ks⟩, Su99.num (ks.length + 1) []) := (e1 _).mpr (by rw [if_neg hin, if_neg h6'])
            refine ⟨_, rfl, p, C, dx, _, _, rfl, h1, T.cl, T.nW, pf_get l, _, rfl, l, ks, c, rfl, h2, g.inc, hin', by omega, fun H1 l' s1 hl' hL => ?_⟩
            have np : p ≠ l' := ne_of_none h1 hl'
            refine ⟨_, rfl, p, C, dx, _, rfl, s1 _ _ h1, T.cl, T.nW, (by show 1 < 1000; decide), ?_⟩
            rw [pf_put]
            refine ⟨_, rfl, p, C, dx, _, _, rfl, upd_same, T.cl, T.nW, pf_get l', l', _, rfl, .inl (SqL.of (by rw [upd_ne (Ne.symm np)]; exact hL)), one_le, fun q hq => ?_⟩
            have el : ((nvs (Su99.insert c ks)).length : Int) = ((ks.length + 1 : Nat) : Int) := by rw [nvs_len, (insert_perm c ks).length_eq, List.length_cons]
            have kk := k
            unfold newOf ansOf at kk
            rw [ed] at kk
            rw [el]
            exact fin_new (ks' := Su99.insert c ks) (xs := [((ks.length + 1 : Nat) : Int)]) h1 s1 hL hl' hq kk
theorem scDrp : FnScope ["purse", "worth"] ["purse", "worth"] (defScope sDrp) := ⟨rfl, rfl, rfl, by decide +kernel, rfl, by decide +kernel, by decide +kernel⟩
theorem flt_len {c : Nat} : ∀ {ks : List Nat}, c ∈ ks → ks.Pairwise (· < ·) → (ks.filter fun d => d != c).length + 1 = ks.length
  | [], h, _ => absurd h List.not_mem_nil
  | a :: l, h, hp => by
    obtain ⟨h1, h2⟩ := List.pairwise_cons.mp hp
    by_cases e : a = c
    · subst e
      have : l.filter (fun d => d != a) = l := List.filter_eq_self.mpr fun d hd => by
        have := h1 d hd
        simp
        omega
      rw [List.filter_cons, if_neg (by simp), this]
      rfl
    · rcases List.mem_cons.mp h with z | z
      · exact absurd z.symm e
      · rw [List.filter_cons, if_pos (by simp [e]), List.length_cons, flt_len z h2]
        rfl
theorem ok_drp {f C : Addr} {fd : FuncData} (F : Fun K "drop" "drop" sDrp f fd) (T : Txt K mg C) (B : Blt mg) (Z : Cst mg) (L : Cals P w K mg base) : FnOk P w K mg base CX0 6 f fd ["purse", "worth"] (spAct1 C .drop) := by
  obtain ⟨fW, fdW, GW, kW, bW, mW⟩ := L.wot
  refine F.ok scDrp (fun vs H Q E h => ?_) (fun cdv A outer s H vs Q E hr h => ?_)
  · obtain ⟨p, ks, n, rfl, _⟩ := h
    rfl
  · obtain ⟨p, ks, c, rfl, ⟨dx, l, h1, h2⟩, g, hl6, k⟩ := h
    have a0 : PAt C H p ks := ⟨dx, l, h1, h2⟩
    refine ⟨_, pss_cons (ps_if (pt_cmpR op_notIn_seq (pv 1) (pe_fld (pv 0) rfl) (by with_unfolding_all rfl)) (pss_one (ps_ret (pe_lst (pa_cons (pe_cst rfl Z.c2) pa_nil)))) pss_nil)
      (pss_cons (ps_if (pt_cmpR op_eq (pv 1) pe_int (nomark _)) (pss_one (ps_ret (pe_lst (pa_cons (pe_cst rfl Z.c22) pa_nil)))) pss_nil)
      (pss_cons (ps_fld (pv 0) (pe_call GW hr rfl mW kW bW .nil pass0 (pa_cons (pe_fld (pv 0) rfl) (pa_cons (pv 1) pa_nil))) rfl)
      (pss_one (ps_ret (pe_lst (pa_cons (pe_callB call_len_seq rfl B.len_ boot_lenF (pa_cons (pe_fld (pv 0) rfl) pa_nil)) pa_nil)))))), ?_⟩
    refine ⟨_, rfl, _, rfl, p, C, dx, _, _, rfl, h1, T.cl, T.nW, pf_get l, l, _, rfl, .inl (SqL.of h2), rfl, flat_nvs ks, _, rfl, ?_⟩
    rw [if_pos rfl, in_nvs]
    cases hin : ks.contains c with
    | false =>
      refine iteT ?_
      exact ⟨one_le, fun q hq => fin_ro k a0 (if_pos hin) same0 hq rfl⟩
    | true =>
      have hin' : c ∈ ks := mem_contains.mp hin
      have e1 : Su99.does ⟨ks⟩ (.drop c) = if c = 1 then ((⟨ks⟩ : Su99.Abs), Su99.no (-22)) else (⟨ks.filter fun d => d != c⟩, Su99.num (ks.length - 1) []) := if_neg (by rw [hin]; exact Bool.false_ne_true ∘ Eq.symm)
      refine iteF ?_
      refine ⟨_, rfl, rfl, _, rfl, ite2 (fun hc => ?_) (fun hc => ?_)⟩
      · have hc' : c = 1 := by
          have e := of_decide_eq_true hc
          injection e with e
          omega
        exact ⟨one_le, fun q hq => fin_ro k a0 (e1.trans (if_pos hc')) same0 hq rfl⟩
      · have hc' : c ≠ 1 := fun z => hc (decide_eq_true (by rw [z]; rfl))
        have ed := e1.trans (if_neg hc')
        refine ⟨_, rfl, p, C, dx, _, _, rfl, h1, T.cl, T.nW, pf_get l, _, rfl, l, ks, c, rfl, SqL.of h2, by omega, fun H2 D sm hD hD2 => ?_⟩
        have np : p ≠ D := ne_of_none h1 hD
        refine ⟨_, rfl, p, C, dx, _, rfl, sm _ _ h1, T.cl, T.nW, (by show 1 < 1000; decide), ?_⟩
        rw [pf_put]
        refine ⟨_, rfl, p, C, dx, _, _, rfl, upd_same, T.cl, T.nW, pf_get D, D, _, rfl, .inl (SqL.of (by rw [upd_ne (Ne.symm np)]; exact hD2)), one_le, fun q hq => ?_⟩
        have el : ((nvs (ks.filter fun d => d != c)).length : Int) = ((ks.length - 1 : Nat) : Int) := by
          have := flt_len hin' g.inc
          rw [nvs_len]
          omega
        have kk := k
        unfold newOf ansOf at kk
        rw [ed] at kk
        rw [el]
        exact fin_new (ks' := ks.filter fun d => d != c) (xs := [((ks.length - 1 : Nat) : Int)]) h1 sm hD2 hD hq kk
end
end Fc

end

section
set_option Elab.async false
set_option linter.all false
set_option maxRecDepth 100000
set_option maxHeartbeats 2000000
namespace Fc
open PySem PySem.Spec PyProof.Rows L2
section
variable {P : Program} {w : World} {K : PySem.W.Frag} {mg : Str → Option Value} {base : Heap}
/-! ### kinds, steps -/
theorem scKds : FnScope ["purse"] ["purse"] (defScope sKds) := ⟨rfl, rfl, rfl, by decide +kernel, rfl, by decide +kernel, by decide +kernel⟩
theorem ok_kds {f C : Addr} {fd : FuncData} (F : Fun K "kinds" "kinds" sKds f fd) (T : Txt K mg C) (B : Blt mg) : FnOk P w K mg base CX0 6 f fd ["purse"] (spAct0 C .kinds) := by
  refine F.ok scKds (fun vs H Q E h => ?_) (fun cdv A outer s H vs Q E hr h => ?_)
  · obtain ⟨p, ks, rfl, _⟩ := h
    rfl
  · obtain ⟨p, ks, rfl, ⟨dx, l, h1, h2⟩, g, hl6, k⟩ := h
    have a0 : PAt C H p ks := ⟨dx, l, h1, h2⟩
    refine ⟨_, pss_one (ps_ret (pe_op op_cat (pe_lst (pa_cons (pe_callB call_len_seq rfl B.len_ boot_lenF (pa_cons (pe_fld (pv 0) rfl) pa_nil)) pa_nil)) (pe_fld (pv 0) rfl))), ?_⟩
    refine ⟨_, rfl, p, C, dx, _, _, rfl, h1, T.cl, T.nW, pf_get l, l, _, rfl, .inl (SqL.of h2), one_le, fun o ho => ?_⟩
    have po : p ≠ o := ne_of_none h1 ho
    have lo : l ≠ o := ne_of_none h2 ho
    refine ⟨_, rfl, p, C, dx, _, _, rfl, (by rw [upd_ne po]; exact h1), T.cl, T.nW, pf_get l, o, l, _, _, rfl, rfl, upd_same, (by rw [upd_ne lo]; exact h2), ?_, fun q hq => ?_⟩
    · rw [nvs_len]
      exact small_size (by simp; omega)
    · refine fin_ro k a0 rfl (L2.Same.upd_new same0 ho) hq ?_
      show V.int ((nvs ks).length : Int) :: nvs ks = V.int _ :: ivs _
      rw [nvs_len, nvs_outs]
      rfl
theorem scSts : FnScope ["purse"] ["purse"] (defScope sSts) := ⟨rfl, rfl, rfl, by decide +kernel, rfl, by decide +kernel, by decide +kernel⟩
theorem ok_sts {f C : Addr} {fd : FuncData} (F : Fun K "steps" "steps" sSts f fd) (T : Txt K mg C) (L : Cals P w K mg base) : FnOk P w K mg base CX0 6 f fd ["purse"] (spAct0 C .steps) := by
  obtain ⟨fS, fdS, GS, kS, bS, mS⟩ := L.stp
  refine F.ok scSts (fun vs H Q E h => ?_) (fun cdv A outer s H vs Q E hr h => ?_)
  · obtain ⟨p, ks, rfl, _⟩ := h
    rfl
  · obtain ⟨p, ks, rfl, ⟨dx, l, h1, h2⟩, g, hl6, k⟩ := h
    have a0 : PAt C H p ks := ⟨dx, l, h1, h2⟩
    refine ⟨_, pss_one (ps_ret (pe_lst (pa_cons (pe_ifExp (pt_truth (pe_call GS hr rfl mS kS bS .nil pass0 (pa_cons (pe_fld (pv 0) rfl) pa_nil)) (fun _ => rfl)) pe_int pe_int) pa_nil))), ?_⟩
    have ed : Su99.does ⟨ks⟩ .steps = (⟨ks⟩, Su99.num (Su99.bit (⟨ks⟩ : Su99.Abs).steps) []) := rfl
    refine ⟨_, rfl, p, C, dx, _, _, rfl, h1, T.cl, T.nW, pf_get l, l, ks, rfl, SqL.of h2, g.ok, _, rfl, ?_⟩
    cases e : (⟨ks⟩ : Su99.Abs).steps with
    | false =>
      rw [e] at ed
      exact iteF ⟨one_le, fun q hq => fin_ro k a0 ed same0 hq rfl⟩
    | true =>
      rw [e] at ed
      exact iteT ⟨one_le, fun q hq => fin_ro k a0 ed same0 hq rfl⟩
/-! ### bad, most, farthest, sums -/
theorem scBad : FnScope ["purse", "top", "found"] ["purse", "top"] (defScope sBad) := ⟨rfl, rfl, rfl, by decide +kernel, rfl, by decide +kernel, by decide +kernel⟩
theorem ok_bad {f C : Addr} {fd : FuncData} (F : Fun K "bad" "bad" sBad f fd) (T : Txt K mg C) (B : Blt mg) (Z : Cst mg) (L : Cals P w K mg base) : FnOk P w K mg base CX0 6 f fd ["purse", "top"] (spAct1 C .bad) := by
  obtain ⟨fW, fdW, GW, kW, bW, mW⟩ := L.wut
  refine F.ok scBad (fun vs H Q E h => ?_) (fun cdv A outer s H vs Q E hr h => ?_)
  · obtain ⟨p, ks, n, rfl, _⟩ := h
    rfl
  · obtain ⟨p, ks, n, rfl, ⟨dx, l, h1, h2⟩, g, hl6, k⟩ := h
    have a0 : PAt C H p ks := ⟨dx, l, h1, h2⟩
    refine ⟨_, pss_cons (ps_if (pt_cmpR op_gt (pv 1) (pe_cst rfl Z.k200) (nomark _)) (pss_one (ps_ret (pe_lst (pa_cons (pe_cst rfl Z.c22) pa_nil)))) pss_nil)
      (pss_cons (ps_set (i := 2) scBad.nd rfl (Or.inl rfl) (pe_call GW hr rfl mW kW bW .nil pass0 (pa_cons (pe_fld (pv 0) rfl) (pa_cons (pv 1) pa_nil))))
      (pss_one (ps_ret (pe_op op_cat (pe_lst (pa_cons (pe_callB call_len_seq rfl B.len_ boot_lenF (pa_cons (pv 2) pa_nil)) pa_nil)) (pv 2))))), ?_⟩
    refine ⟨_, rfl, _, _, rfl, rfl, _, rfl, ite2 (fun hc => ?_) (fun hc => ?_)⟩
    · have hc' : 200 < n := by have := of_decide_eq_true hc; omega
      exact ⟨one_le, fun q hq => fin_ro k a0 (if_pos hc') same0 hq rfl⟩
    · have hc' : ¬ 200 < n := fun z => hc (decide_eq_true (by omega))
      refine ⟨_, rfl, p, C, dx, _, _, rfl, h1, T.cl, T.nW, pf_get l, _, rfl, l, ks, n, rfl, SqL.of h2, g.ok, by omega, fun H1 t s1 ht hl => ?_⟩
      refine ⟨_, rfl, t, _, rfl, .inl (SqL.of hl), one_le, fun o ho => ?_⟩
      have to : t ≠ o := ne_of_none hl ho
      refine ⟨_, rfl, o, t, _, _, rfl, rfl, upd_same, (by rw [upd_ne to]; exact hl), ?_, fun q hq => ?_⟩
      · rw [nvs_len, bad_eq]
        have := List.length_filter_le (isBad ks) (List.range (n + 1))
        rw [List.length_range] at this
        exact small_size (by simp; omega)
      · refine fin_ro k a0 (if_neg hc') (L2.Same.upd_new s1 ho) hq ?_
        show V.int ((nvs _).length : Int) :: nvs _ = V.int _ :: ivs _
        rw [nvs_len, nvs_outs]
        rfl
theorem scMst : FnScope ["purse", "top", "counts", "greatest"] ["purse", "top"] (defScope sMst) := ⟨rfl, rfl, rfl, by decide +kernel, rfl, by decide +kernel, by decide +kernel⟩
theorem eq_nv (a b : Nat) : eqV (nv a) (nv b) = decide (a = b) := by
  show ((a : Int) == (b : Int)) = decide (a = b)
  rw [Bool.eq_iff_iff, beq_iff_eq, decide_eq_true_eq]
  omega
/-- the first place of the greatest -/
theorem first_at {ks : List Nat} {n M : Nat} (hm : M ∈ fews ks (n + 1)) (hle : ∀ y, y ∈ fews ks (n + 1) → y ≤ M) : ∃ j, j ≤ n ∧ Su99.fewest ks j = M ∧ (∀ i, i < j → Su99.fewest ks i ≠ M) ∧ (⟨ks⟩ : Su99.Abs).most n = j := by
  have hex : ∃ j, j ≤ n ∧ Su99.fewest ks j = M := by
    obtain ⟨j, hj, e⟩ := List.mem_map.mp hm
    exact ⟨j, by have := List.mem_range.mp hj; omega, e⟩
  have hmin : ∀ m, (∃ j, j ≤ m ∧ j ≤ n ∧ Su99.fewest ks j = M) → ∃ j, j ≤ n ∧ Su99.fewest ks j = M ∧ ∀ i, i < j → Su99.fewest ks i ≠ M := by
    intro m
    induction m with
    | zero =>
      rintro ⟨j, h0, h1, h2⟩
      exact ⟨j, h1, h2, fun i hi => absurd hi (by omega)⟩
    | succ m ih =>
      rintro ⟨j, h0, h1, h2⟩
      by_cases e : ∃ j, j ≤ m ∧ j ≤ n ∧ Su99.fewest ks j = M
      · exact ih e
      · exact ⟨j, h1, h2, fun i hi q => e ⟨i, by omega, by omega, q⟩⟩
  obtain ⟨j0, hj0, e0⟩ := hex
  obtain ⟨j, h1, h2, h3⟩ := hmin j0 ⟨j0, Nat.le_refl _, hj0, e0⟩
  have all : ∀ i, i ≤ n → Su99.fewest ks i ≤ Su99.fewest ks j := fun i hi => by
    rw [h2]
    exact hle _ (List.mem_map.mpr ⟨i, List.mem_range.mpr (by omega), rfl⟩)
  refine ⟨j, h1, h2, h3, most_eq h1 all fun i hi => ?_⟩
  have a1 := all i (by omega)
  have a2 := h3 i hi
  omega
theorem ok_mst {f C : Addr} {fd : FuncData} (F : Fun K "most" "most" sMst f fd) (T : Txt K mg C) (B : Blt mg) (Z : Cst mg) (L : Cals P w K mg base) : FnOk P w K mg base CX0 6 f fd ["purse", "top"] (spAct1 C .most) := by
  obtain ⟨fF, fdF, GF, kF, bF, mF⟩ := L.few
  refine F.ok scMst (fun vs H Q E h => ?_) (fun cdv A outer s H vs Q E hr h => ?_)
  · obtain ⟨p, ks, n, rfl, _⟩ := h
    rfl
  · obtain ⟨p, ks, n, rfl, ⟨dx, l, h1, h2⟩, g, hl6, k⟩ := h
    have a0 : PAt C H p ks := ⟨dx, l, h1, h2⟩
    refine ⟨_, pss_cons (ps_if (pt_cmpR op_gt (pv 1) (pe_cst rfl Z.k1000) (nomark _)) (pss_one (ps_ret (pe_lst (pa_cons (pe_cst rfl Z.c22) pa_nil)))) pss_nil)
      (pss_cons (ps_set (i := 2) scMst.nd rfl (Or.inl rfl) (pe_call GF hr rfl mF kF bF .nil pass0 (pa_cons (pe_fld (pv 0) rfl) (pa_cons (pv 1) pa_nil))))
      (pss_cons (ps_set (i := 3) scMst.nd rfl (Or.inl rfl) (pe_callB (cr_max rfl) rfl B.max_ boot_maxF (pa_cons (pv 2) pa_nil)))
      (pss_one (ps_ret (pe_lst (pa_cons (pe_bm PySem.F.plainAttrs_list PySem.F.slot_list_index PySem.F.type_list_index mt_index (pv 2) (pa_cons (pv 3) pa_nil)) (pa_cons (pv 3) pa_nil))))))), ?_⟩
    refine ⟨_, rfl, _, _, rfl, rfl, _, rfl, ite2 (fun hc => ?_) (fun hc => ?_)⟩
    · have hc' : 1000 < n := by have := of_decide_eq_true hc; omega
      exact ⟨one_le, fun q hq => fin_ro k a0 (if_pos hc') same0 hq rfl⟩
    · have hc' : ¬ 1000 < n := fun z => hc (decide_eq_true (by omega))
      refine ⟨_, rfl, p, C, dx, _, _, rfl, h1, T.cl, T.nW, pf_get l, _, rfl, l, ks, n, rfl, SqL.of h2, g.ok, by omega, fun H1 t s1 ht hl => ?_⟩
      refine ⟨_, rfl, t, toI (fews ks (n + 1)), rfl, by rw [← nvs_toI]; exact SqL.of hl, by unfold toI; rw [List.length_map, fews_len]; omega, fun m hm hle => ?_⟩
      obtain ⟨M, hM, rfl⟩ := mem_toI hm
      obtain ⟨j, j1, j2, j3, j4⟩ := first_at hM fun y hy => by
        have := hle (y : Int) (List.mem_map.mpr ⟨y, hy, rfl⟩)
        omega
      have ed : Su99.does ⟨ks⟩ (.most n) = (⟨ks⟩, Su99.num j [M]) := by
        have : Su99.does ⟨ks⟩ (.most n) = (⟨ks⟩, Su99.num ((⟨ks⟩ : Su99.Abs).most n) [Su99.fewest ks ((⟨ks⟩ : Su99.Abs).most n)]) := if_neg hc'
        rw [this, j4, j2]
      refine ⟨_, rfl, .inl ⟨rfl, _, SqL.of hl⟩, _, rfl, t, _, nv M, j, nv M, rfl, rfl, SqL.of hl, rfl, flat_nvs _, (by rw [fews_get (by omega), j2]), (by rw [eq_nv]; exact decide_eq_true rfl), fun i z' hi hz => ?_, ?_⟩
      · rw [fews_get (by omega)] at hz
        cases hz
        rw [eq_nv]
        exact decide_eq_false (j3 i hi)
      · exact ⟨_, rfl, (by show 2 ≤ sizeLine; decide), fun q hq => fin_ro k a0 ed s1 hq rfl⟩
theorem scFar : FnScope ["purse", "count"] ["purse", "count"] (defScope sFar) := ⟨rfl, rfl, rfl, by decide +kernel, rfl, by decide +kernel, by decide +kernel⟩
theorem ok_far {f C : Addr} {fd : FuncData} (F : Fun K "farthest" "farthest" sFar f fd) (T : Txt K mg C) (B : Blt mg) (Z : Cst mg) (L : Cals P w K mg base) : FnOk P w K mg base CX0 6 f fd ["purse", "count"] (spAct1 C .farthest) := by
  obtain ⟨fW, fdW, GW, kW, bW, mW⟩ := L.fwt
  refine F.ok scFar (fun vs H Q E h => ?_) (fun cdv A outer s H vs Q E hr h => ?_)
  · obtain ⟨p, ks, n, rfl, _⟩ := h
    rfl
  · obtain ⟨p, ks, c, rfl, ⟨dx, l, h1, h2⟩, g, hl6, k⟩ := h
    have a0 : PAt C H p ks := ⟨dx, l, h1, h2⟩
    refine ⟨_, pss_cons (ps_if (PW.pt (pw_or (pt_cmpR op_lt (pv 1) (pe_cst rfl Z.kc1) (nomark _)) (pw_or1 (pt_cmpR op_gt (pv 1) (pe_cst rfl Z.kc20) (nomark _))))) (pss_one (ps_ret (pe_lst (pa_cons (pe_cst rfl Z.c22) pa_nil)))) pss_nil)
      (pss_one (ps_ret (pe_lst (pa_cons (pe_call GW hr rfl mW kW bW .nil pass0 (pa_cons (pe_fld (pv 0) rfl) (pa_cons (pv 1) (pa_cons (pe_cst rfl Z.k1000) pa_nil)))) pa_nil)))), ?_⟩
    have no22 : (c = 0 ∨ 20 < c) → ∀ q, H q = none → Q (.ref q) (upd H q (.lst [.int (-22)])) := fun hc q hq => fin_ro k a0 (if_pos hc) same0 hq rfl
    refine ⟨_, rfl, _, _, rfl, rfl, _, rfl, ite2 (fun hc => ?_) (fun hc => ?_)⟩
    · have hc' : c = 0 := by have := of_decide_eq_true hc; omega
      refine iteT ?_
      exact ⟨one_le, no22 (.inl hc')⟩
    · have hc' : ¬ c = 0 := fun z => hc (decide_eq_true (by omega))
      refine ⟨_, rfl, _, _, rfl, rfl, _, rfl, ite2 (fun hd => ?_) (fun hd => ?_)⟩
      · have hd' : 20 < c := by have := of_decide_eq_true hd; omega
        exact ⟨one_le, no22 (.inr hd')⟩
      · have hd' : ¬ 20 < c := fun z => hd (decide_eq_true (by omega))
        have ed : Su99.does ⟨ks⟩ (.farthest c) = (⟨ks⟩, Su99.num ((⟨ks⟩ : Su99.Abs).farthest c) []) := if_neg (by omega)
        refine ⟨_, rfl, p, C, dx, _, _, rfl, h1, T.cl, T.nW, pf_get l, _, rfl, l, ks, c, rfl, SqL.of h2, g.ok, fun H1 s1 => ?_⟩
        exact ⟨one_le, fun q hq => fin_ro k a0 ed s1 hq rfl⟩
theorem scSms : FnScope ["purse", "top"] ["purse", "top"] (defScope sSms) := ⟨rfl, rfl, rfl, by decide +kernel, rfl, by decide +kernel, by decide +kernel⟩
theorem ok_sms {f C : Addr} {fd : FuncData} (F : Fun K "sums" "sums" sSms f fd) (T : Txt K mg C) (B : Blt mg) (Z : Cst mg) (L : Cals P w K mg base) : FnOk P w K mg base CX0 6 f fd ["purse", "top"] (spAct1 C .sums) := by
  obtain ⟨fF, fdF, GF, kF, bF, mF⟩ := L.few
  obtain ⟨fG, fdG, GG, kG, bG, mG⟩ := L.gup
  refine F.ok scSms (fun vs H Q E h => ?_) (fun cdv A outer s H vs Q E hr h => ?_)
  · obtain ⟨p, ks, n, rfl, _⟩ := h
    rfl
  · obtain ⟨p, ks, n, rfl, ⟨dx, l, h1, h2⟩, g, hl6, k⟩ := h
    have a0 : PAt C H p ks := ⟨dx, l, h1, h2⟩
    refine ⟨_, pss_cons (ps_if (pt_cmpR op_gt (pv 1) (pe_cst rfl Z.k1000) (nomark _)) (pss_one (ps_ret (pe_lst (pa_cons (pe_cst rfl Z.c22) pa_nil)))) pss_nil)
      (pss_one (ps_ret (pe_lst (pa_cons (pe_callB (cr_sum rfl) rfl B.sum_ boot_sumF (pa_cons (pe_call GF hr rfl mF kF bF .nil pass0 (pa_cons (pe_fld (pv 0) rfl) (pa_cons (pv 1) pa_nil))) pa_nil))
        (pa_cons (pe_callB (cr_sum rfl) rfl B.sum_ boot_sumF (pa_cons (pe_call GG hr rfl mG kG bG .nil pass0 (pa_cons (pe_fld (pv 0) rfl) (pa_cons (pv 1) pa_nil))) pa_nil)) pa_nil))))), ?_⟩
    refine ⟨_, rfl, _, _, rfl, rfl, _, rfl, ite2 (fun hc => ?_) (fun hc => ?_)⟩
    · have hc' : 1000 < n := by have := of_decide_eq_true hc; omega
      exact ⟨one_le, fun q hq => fin_ro k a0 (if_pos hc') same0 hq rfl⟩
    · have hc' : ¬ 1000 < n := fun z => hc (decide_eq_true (by omega))
      refine ⟨_, rfl, p, C, dx, _, _, rfl, h1, T.cl, T.nW, pf_get l, _, rfl, l, ks, n, rfl, SqL.of h2, g.ok, by omega, fun H1 t s1 ht hl => ?_⟩
      refine ⟨t, toI (fews ks (n + 1)), rfl, by rw [← nvs_toI]; exact SqL.of hl, ?_⟩
      refine ⟨_, rfl, p, C, dx, _, _, rfl, s1 _ _ h1, T.cl, T.nW, pf_get l, _, rfl, l, ks, n, rfl, SqL.of (s1 _ _ h2), g.ok, by omega, fun H2 t2 s2 ht2 hl2 => ?_⟩
      refine ⟨t2, toI (tks ks (n + 1)), rfl, by rw [← nvs_toI]; exact SqL.of hl2, (by show 2 ≤ sizeLine; decide), fun q hq => fin_ro k a0 (if_neg hc') (L2.Same.trans s1 s2) hq ?_⟩
      rw [sum_toI, sum_toI, sum_fews]
      rfl
/-! ### plus, without, best -/
theorem scPls : FnScope ["purse", "worth"] ["purse", "worth"] (defScope sPls) := ⟨rfl, rfl, rfl, by decide +kernel, rfl, by decide +kernel, by decide +kernel⟩
theorem ok_pls {f C : Addr} {fd : FuncData} (F : Fun K "plus" "plus" sPls f fd) (T : Txt K mg C) (B : Blt mg) (Z : Cst mg) (L : Cals P w K mg base) : FnOk P w K mg base CX0 6 f fd ["purse", "worth"] (spAct1 C .plus) := by
  obtain ⟨fA, fdA, GA, kA, bA, mA⟩ := L.alf
  obtain ⟨fW, fdW, GW, kW, bW, mW⟩ := L.wth
  refine F.ok scPls (fun vs H Q E h => ?_) (fun cdv A outer s H vs Q E hr h => ?_)
  · obtain ⟨p, ks, n, rfl, _⟩ := h
    rfl
  · obtain ⟨p, ks, c, rfl, ⟨dx, l, h1, h2⟩, g, hl6, k⟩ := h
    have a0 : PAt C H p ks := ⟨dx, l, h1, h2⟩
    refine ⟨_, pss_cons (ps_if (PW.pt (pw_or (pt_cmpR op_lt (pv 1) (pe_cst rfl Z.k2) (nomark _)) (pw_or1 (pt_cmpR op_gt (pv 1) (pe_cst rfl Z.k100) (nomark _))))) (pss_one (ps_ret (pe_lst (pa_cons (pe_cst rfl Z.c22) pa_nil)))) pss_nil)
      (pss_cons (ps_if (pt_cmpR op_in_seq (pv 1) (pe_fld (pv 0) rfl) (by with_unfolding_all rfl)) (pss_one (ps_ret (pe_lst (pa_cons (pe_cst rfl Z.c17) pa_nil)))) pss_nil)
      (pss_one (ps_ret (pe_lst (pa_cons (pe_call GA hr rfl mA kA bA .nil pass0 (pa_cons (pe_call GW hr rfl mW kW bW .nil pass0 (pa_cons (pe_fld (pv 0) rfl) (pa_cons (pv 1) pa_nil))) pa_nil))
        (pa_cons (pe_call GA hr rfl mA kA bA .nil pass0 (pa_cons (pe_fld (pv 0) rfl) pa_nil)) pa_nil)))))), ?_⟩
    have no22 : (c < 2 ∨ 100 < c) → ∀ q, H q = none → Q (.ref q) (upd H q (.lst [.int (-22)])) := fun hc q hq => fin_ro k a0 (if_pos hc) same0 hq rfl
    refine ⟨_, rfl, _, _, rfl, rfl, _, rfl, ite2 (fun hc => ?_) (fun hc => ?_)⟩
    · have hc' : c < 2 := by have := of_decide_eq_true hc; omega
      refine iteT ?_
      exact ⟨one_le, no22 (.inl hc')⟩
    · have hc' : ¬ c < 2 := fun z => hc (decide_eq_true (by omega))
      refine ⟨_, rfl, _, _, rfl, rfl, _, rfl, ite2 (fun hd => ?_) (fun hd => ?_)⟩
      · have hd' : 100 < c := by have := of_decide_eq_true hd; omega
        exact ⟨one_le, no22 (.inr hd')⟩
      · have hd' : ¬ 100 < c := fun z => hd (decide_eq_true (by omega))
        have e1 : Su99.does ⟨ks⟩ (.plus c) = (if ks.contains c then ((⟨ks⟩ : Su99.Abs), Su99.no (-17)) else (⟨ks⟩, Su99.num (Su99.bit (⟨Su99.insert c ks⟩ : Su99.Abs).always) [Su99.bit (⟨ks⟩ : Su99.Abs).always])) := if_neg (by show ¬ (c < 2 ∨ 100 < c); omega)
        refine ⟨_, rfl, _, rfl, p, C, dx, _, _, rfl, h1, T.cl, T.nW, pf_get l, l, _, rfl, .inl (SqL.of h2), rfl, flat_nvs ks, _, rfl, ?_⟩
        rw [if_neg Bool.false_ne_true, in_nvs]
        refine ite2 (fun hin => ?_) (fun hin => ?_)
        · exact ⟨one_le, fun q hq => fin_ro k a0 (e1.trans (if_pos hin)) same0 hq rfl⟩
        · have hin' : c ∉ ks := fun z => hin (mem_contains.mpr z)
          have g2 := g.insert hl6 (by omega) (by omega) hin'
          refine ⟨_, rfl, p, C, dx, _, _, rfl, h1, T.cl, T.nW, pf_get l, _, rfl, l, ks, c, rfl, h2, g.inc, hin', by omega, fun H1 l' s1 hl' hL => ?_⟩
          refine ⟨l', Su99.insert c ks, rfl, SqL.of hL, g2.ok, (by have := g2.edge; omega), fun H2 s2 => ?_⟩
          have s12 := L2.Same.trans s1 s2
          refine ⟨_, rfl, p, C, dx, _, _, rfl, s12 _ _ h1, T.cl, T.nW, pf_get l, l, ks, rfl, SqL.of (s12 _ _ h2), g.ok, (by have := g.edge; omega), fun H3 s3 => ?_⟩
          exact ⟨(by show 2 ≤ sizeLine; decide), fun q hq => fin_ro k a0 (e1.trans (if_neg hin)) (L2.Same.trans s12 s3) hq rfl⟩
theorem scWtt : FnScope ["purse", "worth"] ["purse", "worth"] (defScope sWtt) := ⟨rfl, rfl, rfl, by decide +kernel, rfl, by decide +kernel, by decide +kernel⟩
theorem ok_wtt {f C : Addr} {fd : FuncData} (F : Fun K "without" "without" sWtt f fd) (T : Txt K mg C) (B : Blt mg) (Z : Cst mg) (L : Cals P w K mg base) : FnOk P w K mg base CX0 6 f fd ["purse", "worth"] (spAct1 C .without) := by
  obtain ⟨fA, fdA, GA, kA, bA, mA⟩ := L.alf
  obtain ⟨fW, fdW, GW, kW, bW, mW⟩ := L.wot
  refine F.ok scWtt (fun vs H Q E h => ?_) (fun cdv A outer s H vs Q E hr h => ?_)
  · obtain ⟨p, ks, n, rfl, _⟩ := h
    rfl
  · obtain ⟨p, ks, c, rfl, ⟨dx, l, h1, h2⟩, g, hl6, k⟩ := h
    have a0 : PAt C H p ks := ⟨dx, l, h1, h2⟩
    refine ⟨_, pss_cons (ps_if (pt_cmpR op_notIn_seq (pv 1) (pe_fld (pv 0) rfl) (by with_unfolding_all rfl)) (pss_one (ps_ret (pe_lst (pa_cons (pe_cst rfl Z.c2) pa_nil)))) pss_nil)
      (pss_cons (ps_if (pt_cmpR op_eq (pv 1) pe_int (nomark _)) (pss_one (ps_ret (pe_lst (pa_cons (pe_cst rfl Z.c22) pa_nil)))) pss_nil)
      (pss_one (ps_ret (pe_lst (pa_cons (pe_call GA hr rfl mA kA bA .nil pass0 (pa_cons (pe_call GW hr rfl mW kW bW .nil pass0 (pa_cons (pe_fld (pv 0) rfl) (pa_cons (pv 1) pa_nil))) pa_nil))
        (pa_cons (pe_call GA hr rfl mA kA bA .nil pass0 (pa_cons (pe_fld (pv 0) rfl) pa_nil)) pa_nil)))))), ?_⟩
    refine ⟨_, rfl, _, rfl, p, C, dx, _, _, rfl, h1, T.cl, T.nW, pf_get l, l, _, rfl, .inl (SqL.of h2), rfl, flat_nvs ks, _, rfl, ?_⟩
    rw [if_pos rfl, in_nvs]
    cases hin : ks.contains c with
    | false =>
      refine iteT ?_
      exact ⟨one_le, fun q hq => fin_ro k a0 (if_pos hin) same0 hq rfl⟩
    | true =>
      have hin' : c ∈ ks := mem_contains.mp hin
      have e1 : Su99.does ⟨ks⟩ (.without c) = if c = 1 then ((⟨ks⟩ : Su99.Abs), Su99.no (-22)) else (⟨ks⟩, Su99.num (Su99.bit (⟨ks.filter fun d => d != c⟩ : Su99.Abs).always) [Su99.bit (⟨ks⟩ : Su99.Abs).always]) := if_neg (by rw [hin]; exact Bool.false_ne_true ∘ Eq.symm)
      refine iteF ?_
      refine ⟨_, rfl, rfl, _, rfl, ite2 (fun hc => ?_) (fun hc => ?_)⟩
      · have hc' : c = 1 := by
          have e := of_decide_eq_true hc
          injection e with e
          omega
        exact ⟨one_le, fun q hq => fin_ro k a0 (e1.trans (if_pos hc')) same0 hq rfl⟩
      · have hc' : c ≠ 1 := fun z => hc (decide_eq_true (by rw [z]; rfl))
        have g2 := g.drop hc'
        refine ⟨_, rfl, p, C, dx, _, _, rfl, h1, T.cl, T.nW, pf_get l, _, rfl, l, ks, c, rfl, SqL.of h2, by omega, fun H1 l' s1 hl' hL => ?_⟩
        refine ⟨l', ks.filter fun d => d != c, rfl, SqL.of hL, g2.ok, (by have := g2.edge; omega), fun H2 s2 => ?_⟩
        have s12 := L2.Same.trans s1 s2
        refine ⟨_, rfl, p, C, dx, _, _, rfl, s12 _ _ h1, T.cl, T.nW, pf_get l, l, ks, rfl, SqL.of (s12 _ _ h2), g.ok, (by have := g.edge; omega), fun H3 s3 => ?_⟩
        exact ⟨(by show 2 ≤ sizeLine; decide), fun q hq => fin_ro k a0 (e1.trans (if_neg hc')) (L2.Same.trans s12 s3) hq rfl⟩
theorem scBes : FnScope ["purse", "top", "found"] ["purse", "top"] (defScope sBes) := ⟨rfl, rfl, rfl, by decide +kernel, rfl, by decide +kernel, by decide +kernel⟩
theorem ok_bes {f C : Addr} {fd : FuncData} (F : Fun K "best" "best" sBes f fd) (T : Txt K mg C) (B : Blt mg) (Z : Cst mg) (L : Cals P w K mg base) : FnOk P w K mg base CX0 6 f fd ["purse", "top"] (spAct1 C .best) := by
  obtain ⟨fF, fdF, GF, kF, bF, mF⟩ := L.few
  obtain ⟨fW, fdW, GW, kW, bW, mW⟩ := L.bst
  refine F.ok scBes (fun vs H Q E h => ?_) (fun cdv A outer s H vs Q E hr h => ?_)
  · obtain ⟨p, ks, n, rfl, _⟩ := h
    rfl
  · obtain ⟨p, ks, c, rfl, ⟨dx, l, h1, h2⟩, g, hl6, k⟩ := h
    have a0 : PAt C H p ks := ⟨dx, l, h1, h2⟩
    refine ⟨_, pss_cons (ps_if (PW.pt (pw_or (pt_cmpR op_lt (pv 1) (pe_cst rfl Z.kb2) (nomark _)) (pw_or1 (pt_cmpR op_gt (pv 1) (pe_cst rfl Z.kb60) (nomark _))))) (pss_one (ps_ret (pe_lst (pa_cons (pe_cst rfl Z.c22) pa_nil)))) pss_nil)
      (pss_cons (ps_set (i := 2) scBes.nd rfl (Or.inl rfl) (pe_call GW hr rfl mW kW bW .nil pass0 (pa_cons (pe_fld (pv 0) rfl) (pa_cons (pv 1) pa_nil))))
      (pss_one (ps_ret (pe_lst (pa_cons (pe_ix ix_tup (pv 2) pe_int (fun _ _ => rfl)) (pa_cons (pe_ix ix_tup (pv 2) pe_int (fun _ _ => rfl))
        (pa_cons (pe_callB (cr_sum rfl) rfl B.sum_ boot_sumF (pa_cons (pe_call GF hr rfl mF kF bF .nil pass0 (pa_cons (pe_fld (pv 0) rfl) (pa_cons (pv 1) pa_nil))) pa_nil)) pa_nil))))))), ?_⟩
    have no22 : (c < 2 ∨ 60 < c) → ∀ q, H q = none → Q (.ref q) (upd H q (.lst [.int (-22)])) := fun hc q hq => fin_ro k a0 (if_pos hc) same0 hq rfl
    refine ⟨_, rfl, _, _, rfl, rfl, _, rfl, ite2 (fun hc => ?_) (fun hc => ?_)⟩
    · have hc' : c < 2 := by have := of_decide_eq_true hc; omega
      refine iteT ?_
      exact ⟨one_le, no22 (.inl hc')⟩
    · have hc' : ¬ c < 2 := fun z => hc (decide_eq_true (by omega))
      refine ⟨_, rfl, _, _, rfl, rfl, _, rfl, ite2 (fun hd => ?_) (fun hd => ?_)⟩
      · have hd' : 60 < c := by have := of_decide_eq_true hd; omega
        exact ⟨one_le, no22 (.inr hd')⟩
      · have hd' : ¬ 60 < c := fun z => hd (decide_eq_true (by omega))
        have ed : Su99.does ⟨ks⟩ (.best c) = (⟨ks⟩, Su99.num ((⟨ks⟩ : Su99.Abs).bestKind c) [withK ks c ((⟨ks⟩ : Su99.Abs).bestKind c), Su99.total ks c]) := by
          rw [← with_insert]
          exact if_neg (by omega)
        refine ⟨_, rfl, p, C, dx, _, _, rfl, h1, T.cl, T.nW, pf_get l, _, rfl, l, ks, c, rfl, SqL.of h2, g.ok, by omega, by omega, fun H1 t s1 ht hl => ?_⟩
        generalize hb : (⟨ks⟩ : Su99.Abs).bestKind c = b at hl ed
        refine ⟨_, rfl, t, _, _, _, rfl, rfl, .inl (.inl hl), at_of (j := 0) rfl rfl, _, rfl, t, _, _, _, rfl, rfl, .inl (.inl hl), at_of (j := 1) rfl rfl, ?_⟩
        refine ⟨_, rfl, p, C, dx, _, _, rfl, s1 _ _ h1, T.cl, T.nW, pf_get l, _, rfl, l, ks, c, rfl, SqL.of (s1 _ _ h2), g.ok, by omega, fun H2 t2 s2 ht2 hl2 => ?_⟩
        refine ⟨t2, toI (fews ks (c + 1)), rfl, by rw [← nvs_toI]; exact SqL.of hl2, (by show 3 ≤ sizeLine; decide), fun q hq => fin_ro k a0 ed (L2.Same.trans s1 s2) hq ?_⟩
        rw [sum_toI, sum_fews]
        rfl
end
end Fc

end

section
set_option Elab.async false
set_option linter.all false
set_option maxRecDepth 100000
set_option maxHeartbeats 2000000
namespace Fc
open PySem PySem.Spec PyProof.Rows L2
abbrev sInit : Stmt := inClass (top 31) 0
abbrev sAlo : Stmt := top 57
abbrev sNum : Stmt := top 58
abbrev sAns : Stmt := top 59
/-! ### the state between two calls -/
def StOk (s : Su99Neutral.S) (ks : List Nat) : Prop := (s = none ∧ ks = []) ∨ (s = some ⟨ks⟩ ∧ Good ks ∧ ks.length ≤ 6)
theorem does_good {ks : List Nat} (g : Good ks) (hl : ks.length ≤ 6) (c : Su99.Call) : Good (newOf ks c) ∧ (newOf ks c).length ≤ 6 := by
  have same : newOf ks c = ks → Good (newOf ks c) ∧ (newOf ks c).length ≤ 6 := fun e => by rw [e]; exact ⟨g, hl⟩
  cases c with
  | begin_ => exact ⟨Good.begun, (by show 1 ≤ 6; decide)⟩
  | kind c =>
    by_cases h1 : c < 2 ∨ 100 < c
    · have e : Su99.does ⟨ks⟩ (.kind c) = (⟨ks⟩, Su99.no (-22)) := if_pos h1
      exact same (by unfold newOf; rw [e])
    · have e0 : Su99.does ⟨ks⟩ (.kind c) = (if ks.contains c then ((⟨ks⟩ : Su99.Abs), Su99.no (-17)) else if 6 ≤ ks.length then (⟨ks⟩, Su99.no (-28)) else (⟨Su99.insert c ks⟩, Su99.num (ks.length + 1) [])) := if_neg h1
      by_cases h2 : ks.contains c = true
      · exact same (by unfold newOf; rw [e0, if_pos h2])
      · by_cases h3 : 6 ≤ ks.length
        · exact same (by unfold newOf; rw [e0, if_neg h2, if_pos h3])
        · have e : newOf ks (.kind c) = Su99.insert c ks := by unfold newOf; rw [e0, if_neg h2, if_neg h3]
          rw [e]
          refine ⟨g.insert hl (by omega) (by omega) (fun z => h2 (mem_contains.mpr z)), ?_⟩
          rw [(insert_perm c ks).length_eq, List.length_cons]
          omega
  | drop c =>
    by_cases h1 : ks.contains c = false
    · have e : Su99.does ⟨ks⟩ (.drop c) = (⟨ks⟩, Su99.no (-2)) := if_pos h1
      exact same (by unfold newOf; rw [e])
    · have e0 : Su99.does ⟨ks⟩ (.drop c) = if c = 1 then ((⟨ks⟩ : Su99.Abs), Su99.no (-22)) else (⟨ks.filter fun d => d != c⟩, Su99.num (ks.length - 1) []) := if_neg h1
      by_cases h2 : c = 1
      · exact same (by unfold newOf; rw [e0, if_pos h2])
      · have e : newOf ks (.drop c) = ks.filter fun d => d != c := by unfold newOf; rw [e0, if_neg h2]
        rw [e]
        exact ⟨g.drop h2, Nat.le_trans (List.length_filter_le _ _) hl⟩
  | least =>
    refine same ?_
    show (match ((⟨ks⟩ : Su99.Abs).bad (edgeN ks)).head? with
      | none => ((⟨ks⟩ : Su99.Abs), Su99.no (-33))
      | some n => (⟨ks⟩, Su99.num n [Su99.fewest ks n, takes ks n])).1.kinds = ks
    cases ((⟨ks⟩ : Su99.Abs).bad (edgeN ks)).head? <;> rfl
  | always => exact same rfl
  | steps => exact same rfl
  | kinds => exact same rfl
  | plus c =>
    refine same ?_
    unfold newOf
    simp only [Su99.does]
    repeat' split
    all_goals rfl
  | without c =>
    refine same ?_
    unfold newOf
    simp only [Su99.does]
    repeat' split
    all_goals rfl
  | _ =>
    refine same ?_
    unfold newOf
    simp only [Su99.does]
    split <;> rfl
/-- a call's answer, from a state -/
def spDis (C : Addr) (ok : List Int → Prop) : Sp := fun vs H Q _ => ∃ (p : Addr) (cl : List Int) (s : Su99Neutral.S) (ks : List Nat), vs = .ref p :: ivs cl ∧ ok cl ∧ PAt C H p ks ∧ StOk s ks ∧
  ∀ (H' : Hp) (q : Addr) (ks' : List Nat), PTo C H H' p ks' → StOk (Su99Neutral.step s cl).1 ks' → (∀ b o, H b = some o → b ≠ p → H' b = some o) → H q = none → H' q = some (.lst (ivs (Su99Neutral.step s cl).2)) → Q (.ref q) H'
section
variable {P : Program} {w : World} {K : PySem.W.Frag} {mg : Str → Option Value} {base : Heap}
def OkAlone (cl : List Int) : Prop := ∃ c, cl = [c] ∧ Alone c
def OkNum (cl : List Int) : Prop := ∃ (c : Int) (n : Nat), cl = [c, (n : Int)] ∧ Numbered c
/-- the defs that a dict hands on -/
structure Acts0 (P : Program) (w : World) (K : PySem.W.Frag) (mg : Str → Option Value) (base : Heap) (C : Addr) (kfs : List (Int × Tok × Addr)) : Prop where
  beg : ∃ f fd, kdGet kfs 0 = some f ∧ FnOk P w K mg base CX0 6 f fd ["purse"] (spBeg C) ∧ PySem.W.keepIn K (.ref f) = true ∧ Binds K fd ["purse"] []
  act : ∀ c x, Alone c → c ≠ 0 → Su99Neutral.callOf [c] = some x → ∃ f fd, kdGet kfs c = some f ∧ FnOk P w K mg base CX0 6 f fd ["purse"] (spAct0 C x) ∧ PySem.W.keepIn K (.ref f) = true ∧ Binds K fd ["purse"] []
structure Acts1 (P : Program) (w : World) (K : PySem.W.Frag) (mg : Str → Option Value) (base : Heap) (C : Addr) (kfs : List (Int × Tok × Addr)) : Prop where
  act : ∀ c, Numbered c → ∃ f fd ps mk, (∀ n : Nat, Su99Neutral.callOf [c, (n : Int)] = some (mk n)) ∧ (∀ n, mk n ≠ .begin_) ∧ kdGet kfs c = some f ∧ FnOk P w K mg base CX0 6 f fd ps (spAct1 C mk) ∧ PySem.W.keepIn K (.ref f) = true ∧ Binds K fd ps []
theorem alone_call {c : Int} (h : Alone c) (h0 : c ≠ 0) : ∃ x, Su99Neutral.callOf [c] = some x ∧ x ≠ .begin_ := by
  rcases h with rfl | rfl | rfl | rfl | rfl
  · exact absurd rfl h0
  · exact ⟨_, rfl, by intro h; cases h⟩
  · exact ⟨_, rfl, by intro h; cases h⟩
  · exact ⟨_, rfl, by intro h; cases h⟩
  · exact ⟨_, rfl, by intro h; cases h⟩
theorem scAlo : FnScope ["purse", "call", "action"] ["purse", "call"] (defScope sAlo) := ⟨rfl, rfl, rfl, by decide +kernel, rfl, by decide +kernel, by decide +kernel⟩
theorem ok_alo {f C d : Addr} {fd : FuncData} {kfs : List (Int × Tok × Addr)} (F : Fun K "answer_alone" "answer_alone" sAlo f fd) (T : Txt K mg C) (Z : Cst mg) (z0 : ∃ t, mg "BEGIN" = some (.int 0 t)) (D : KDict K d kfs) (mD : mg "ACTIONS_ALONE" = some (.ref d)) (AA : Acts0 P w K mg base C kfs) :
    FnOk P w K mg base CX0 7 f fd ["purse", "call"] (spDis C OkAlone) := by
  refine F.ok scAlo (fun vs H Q E h => ?_) (fun cdv A outer s H vs Q E hr h => ?_)
  · obtain ⟨p, cl, s, ks, rfl, ⟨c, rfl, _⟩, _⟩ := h
    rfl
  · obtain ⟨p, cl, st, ks, rfl, ⟨c, rfl, hA⟩, a0, hst, k⟩ := h
    obtain ⟨dx, l, h1, h2⟩ := id a0
    refine ⟨_, pss_cons (ps_if (PW.pt (pw_and (pt_cmpR op_ne (pv 1) (pe_cst rfl z0) (nomark _)) (pw_and1 (pt_not (pt_truth (pe_fld (pv 0) rfl) (fun _ => rfl)))))) (pss_one (ps_ret (pe_lst (pa_cons (pe_cst rfl Z.c11) pa_nil)))) pss_nil)
      (pss_cons (ps_set (i := 2) scAlo.nd rfl (Or.inl rfl) (pe_kget D rfl mD (pv 1) (fun _ _ => rfl)))
      (pss_one (ps_ret (pe_callV (k := 6) 2 hr rfl (Or.inl rfl) pass0 (pa_cons (pv 0) pa_nil))))), ?_⟩
    refine ⟨_, rfl, rfl, _, rfl, ?_⟩
    by_cases hc : c = 0
    · subst hc
      refine iteNS rfl ?_
      obtain ⟨f0, fd0, hf, G, kp, b⟩ := AA.beg
      refine iteF ?_
      refine ⟨_, rfl, 0, f0, rfl, hf, f0, spBeg C, rfl, ⟨fd0, _, G, kp, b⟩, _, rfl, p, ks, rfl, a0, fun H' q e1 e2 e3 e4 => ?_⟩
      rw [step_begin] at k
      exact k H' q [1] e1 (.inr ⟨rfl, Good.begun, by decide⟩) e2 e3 e4
    · obtain ⟨x, hx, hb⟩ := alone_call hA hc
      have hne : ¬ V.int c = V.int 0 := fun e => hc (by injection e)
      rw [decide_eq_false hne]
      refine iteT ?_
      refine ⟨_, rfl, p, C, dx, _, _, rfl, h1, T.cl, T.nW, pf_get l, _, .inl ⟨_, SqL.of h2, rfl⟩, ?_⟩
      rcases hst with ⟨rfl, rfl⟩ | ⟨rfl, g, hl6⟩
      · refine iteT ?_
        rw [step_none hx hb] at k
        exact ⟨one_le, fun q hq => k _ q [] (a0.to (L2.Same.upd_new same0 hq)) (.inl ⟨rfl, rfl⟩) (fun b o e _ => L2.Same.upd_new (H := H) same0 hq b o e) hq upd_same⟩
      · have hne : (nvs ks).isEmpty = false := by
          obtain ⟨tl, rfl⟩ := g.head
          rfl
        rw [hne]
        refine iteF ?_
        obtain ⟨f0, fd0, hf, G, kp, b⟩ := AA.act c x hA hc hx
        refine ⟨_, rfl, c, f0, rfl, hf, f0, spAct0 C x, rfl, ⟨fd0, _, G, kp, b⟩, _, rfl, p, ks, rfl, a0, g, hl6, fun H' q e1 e2 e3 e4 => ?_⟩
        rw [step_some hx] at k
        exact k H' q _ e1 (.inr ⟨rfl, (does_good g hl6 x).1, (does_good g hl6 x).2⟩) e2 e3 e4
theorem scNum : FnScope ["purse", "call", "number", "action"] ["purse", "call", "number"] (defScope sNum) := ⟨rfl, rfl, rfl, by decide +kernel, rfl, by decide +kernel, by decide +kernel⟩
theorem ok_num {f C d : Addr} {fd : FuncData} {kfs : List (Int × Tok × Addr)} (F : Fun K "answer_with_number" "answer_with_number" sNum f fd) (T : Txt K mg C) (Z : Cst mg) (D : KDict K d kfs) (mD : mg "ACTIONS_WITH_NUMBER" = some (.ref d)) (AA : Acts1 P w K mg base C kfs) :
    FnOk P w K mg base CX0 7 f fd ["purse", "call", "number"] (spDis C OkNum) := by
  refine F.ok scNum (fun vs H Q E h => ?_) (fun cdv A outer s H vs Q E hr h => ?_)
  · obtain ⟨p, cl, s, ks, rfl, ⟨c, n, rfl, _⟩, _⟩ := h
    rfl
  · obtain ⟨p, cl, st, ks, rfl, ⟨c, n, rfl, hA⟩, a0, hst, k⟩ := h
    obtain ⟨dx, l, h1, h2⟩ := id a0
    refine ⟨_, pss_cons (ps_if (pt_not (pt_truth (pe_fld (pv 0) rfl) (fun _ => rfl))) (pss_one (ps_ret (pe_lst (pa_cons (pe_cst rfl Z.c11) pa_nil)))) pss_nil)
      (pss_cons (ps_set (i := 3) scNum.nd rfl (Or.inl rfl) (pe_kget D rfl mD (pv 1) (fun _ _ => rfl)))
      (pss_one (ps_ret (pe_callV (k := 6) 3 hr rfl (Or.inl rfl) pass0 (pa_cons (pv 0) (pa_cons (pv 2) pa_nil)))))), ?_⟩
    obtain ⟨f0, fd0, ps0, mk, hmk, hnb, hf, G, kp, b⟩ := AA.act c hA
    refine ⟨_, rfl, p, C, dx, _, _, rfl, h1, T.cl, T.nW, pf_get l, _, .inl ⟨_, SqL.of h2, rfl⟩, ?_⟩
    rcases hst with ⟨rfl, rfl⟩ | ⟨rfl, g, hl6⟩
    · refine iteT ?_
      rw [step_none (hmk n) (hnb n)] at k
      exact ⟨one_le, fun q hq => k _ q [] (a0.to (L2.Same.upd_new same0 hq)) (.inl ⟨rfl, rfl⟩) (fun b o e _ => L2.Same.upd_new (H := H) same0 hq b o e) hq upd_same⟩
    · have hne : (nvs ks).isEmpty = false := by
        obtain ⟨tl, rfl⟩ := g.head
        rfl
      rw [hne]
      refine iteF ?_
      refine ⟨_, rfl, c, f0, rfl, hf, f0, spAct1 C mk, rfl, ⟨fd0, _, G, kp, b⟩, _, rfl, _, rfl, p, ks, n, rfl, a0, g, hl6, fun H' q e1 e2 e3 e4 => ?_⟩
      rw [step_some (hmk n)] at k
      exact k H' q _ e1 (.inr ⟨rfl, (does_good g hl6 _).1, (does_good g hl6 _).2⟩) e2 e3 e4
def spInit (C : Addr) : Sp := fun vs H Q _ => ∃ (p dx : Addr), vs = [.ref p] ∧ H p = some (.ins C dx []) ∧ ∀ H' : Hp, PAt C H' p [] → (∀ b o, H b = some o → b ≠ p → H' b = some o) → Q .non H'
theorem scInit : FnScope ["self"] ["self"] (defScope sInit) := ⟨rfl, rfl, rfl, by decide +kernel, rfl, by decide +kernel, by decide +kernel⟩
theorem ok_init {f C : Addr} {fd : FuncData} (F : Fun K "__init__" "Purse.__init__" sInit f fd) (T : Txt K mg C) : FnOk P w K mg base CX0 1 f fd ["self"] (spInit C) := by
  refine F.ok scInit (fun vs H Q E h => ?_) (fun cdv A outer s H vs Q E hr h => ?_)
  · obtain ⟨p, dx, rfl, _⟩ := h
    rfl
  · obtain ⟨p, dx, rfl, hp, k⟩ := h
    refine ⟨_, pss_one (ps_fld (pv 0) (pe_lst pa_nil) rfl), ?_⟩
    refine ⟨Nat.zero_le _, fun l hl => ?_⟩
    have np : p ≠ l := ne_of_none hp hl
    refine ⟨_, rfl, p, C, dx, [], rfl, (by rw [upd_ne np]; exact hp), T.cl, T.nW, (by show 0 < 1000; decide), ?_⟩
    refine k _ ⟨dx, l, upd_same, ?_⟩ fun b o e hb => ?_
    · rw [upd_ne (Ne.symm np), upd_same]
      rfl
    · rw [upd_ne hb, upd_ne (ne_of_none e hl)]
      exact e
/-! ### the calls, one behind another -/
instance (c : Int) : Decidable (Alone c) := by unfold Alone; infer_instance
theorem not_both {c : Int} (h : Numbered c) : ¬ Alone c := by
  unfold Numbered at h
  unfold Alone
  omega
theorem toI_drop {ls : List Nat} {i c : Nat} (h : ls[i]? = some c) : toI (ls.drop i) = (c : Int) :: toI (ls.drop (i + 1)) := by
  obtain ⟨hi, e⟩ := List.getElem?_eq_some_iff.mp h
  rw [List.drop_eq_getElem_cons hi, e]
  rfl
theorem ivs_app (l l' : List Int) : ivs (l ++ l') = ivs l ++ ivs l' := List.map_append ..
theorem ivs_len (l : List Int) : (ivs l).length = l.length := List.length_map ..
def spAns (K : PySem.W.Frag) : Sp := fun vs H Q _ => ∃ (a : Addr) (ls : List Nat), vs = [.ref a] ∧ SqL K H a (nvs ls) ∧ PySu99.answers_asked (toI ls) = true ∧
  ∀ (H' : Hp) (p : Addr), H' p = some (.lst (ivs (PySu99.answers (toI ls)))) → Q (.ref p) H'
theorem scAns : FnScope ["calls", "purse", "given", "place", "call", "answer"] ["calls"] (defScope sAns) := ⟨rfl, rfl, rfl, by decide +kernel, rfl, by decide +kernel, by decide +kernel⟩
theorem ok_ans {f C fI fA fN d : Addr} {fd fdI fdA fdN : FuncData} {kfs : List (Int × Tok × Addr)} (F : Fun K "answers" "answers" sAns f fd) (T : Txt K mg C) (B : Blt mg) (M : Mk K C fI) (FI : Fun K "__init__" "Purse.__init__" sInit fI fdI) (bI : Binds K fdI ["self"] [])
    (D : KDict K d kfs) (mD : mg "ACTIONS_ALONE" = some (.ref d)) (hD : ∀ c : Int, (kdGet kfs c).isSome = decide (Alone c))
    (GA : FnOk P w K mg base CX0 7 fA fdA ["purse", "call"] (spDis C OkAlone)) (kA : PySem.W.keepIn K (.ref fA) = true) (bA : Binds K fdA ["purse", "call"] []) (mA : mg "answer_alone" = some (.ref fA))
    (GN : FnOk P w K mg base CX0 7 fN fdN ["purse", "call", "number"] (spDis C OkNum)) (kN : PySem.W.keepIn K (.ref fN) = true) (bN : Binds K fdN ["purse", "call", "number"] []) (mN : mg "answer_with_number" = some (.ref fN)) :
    FnOk P w K mg base CX0 8 f fd ["calls"] (spAns K) := by
  have GI : FnOk P w K mg base CX0 1 fI fdI ["self"] (spInit C) := ok_init FI T
  refine F.ok scAns (fun vs H Q E h => ?_) (fun cdv A outer s H vs Q E hr h => ?_)
  · obtain ⟨a, ls, rfl, _⟩ := h
    rfl
  · obtain ⟨a, ls, rfl, hS, hask, k⟩ := h
    have hr1 : Room 2 _ := hr.mono (by decide)
    refine ⟨_, pss_cons (ps_set (i := 1) scAns.nd rfl (Or.inl rfl) (pe_make0 M GI hr1 rfl T.mgC bI .nil pass0))
      (pss_cons (ps_set (i := 2) scAns.nd rfl (Or.inl rfl) (pe_lst pa_nil))
      (pss_cons (ps_set (i := 3) scAns.nd rfl (Or.inl rfl) pe_int)
      (pss_cons (ps_while PassesOwn.never (pt_cmpR op_lt (pv 3) (pe_callB call_len_seq rfl B.len_ boot_lenF (pa_cons (pv 0) pa_nil)) (nomark _))
        (pss_cons (ps_set (i := 4) scAns.nd rfl (Or.inl rfl) (pe_ix ix_list (pv 0) (pv 3) (fun _ _ => rfl)))
        (pss_cons (ps_if (pt_cmpR (op_in_kd D) (pv 4) (pe_glob (v := .ref d) rfl mD rfl) (by with_unfolding_all rfl))
          (pss_cons (ps_set (i := 5) scAns.nd rfl (Or.inl rfl) (pe_call GA hr rfl mA kA bA .nil pass0 (pa_cons (pv 1) (pa_cons (pv 4) pa_nil)))) (pss_one (ps_aug (i := 3) scAns.nd rfl (Or.inl rfl) pe_int ip_add)))
          (pss_cons (ps_set (i := 5) scAns.nd rfl (Or.inl rfl) (pe_call GN hr rfl mN kN bN .nil pass0 (pa_cons (pv 1) (pa_cons (pv 4) (pa_cons (pe_ix ix_list (pv 0) (pe_op op_add (pv 3) pe_int) (fun _ _ => rfl)) pa_nil))))) (pss_one (ps_aug (i := 3) scAns.nd rfl (Or.inl rfl) pe_int ip_add))))
        (pss_cons (ps_expr (pe_bm PySem.F.plainAttrs_list PySem.F.slot_list_append PySem.F.type_list_append mt_append (pv 2) (pa_cons (pe_callB call_len_seq rfl B.len_ boot_lenF (pa_cons (pv 5) pa_nil)) pa_nil)))
        (pss_one (ps_expr (pe_bm PySem.F.plainAttrs_list PySem.F.slot_list_extend PySem.F.type_list_extend mt_extend (pv 2) (pa_cons (pv 5) pa_nil))))))))
      (pss_one (ps_ret (pv 2)))))), ?_⟩
    obtain ⟨raw0, hP0, hlen⟩ := asked_P hask
    intro x0 d0 n0 m0 e0
    refine ⟨x0, d0, rfl, upd_same, fun H1 c0 k1 => ⟨rfl, ?_⟩⟩
    have s1 : Same H H1 := Same.made n0 m0 k1
    refine ⟨Nat.zero_le _, fun gq hgq => ?_⟩
    have hg0 : H gq = none := L2.Same.free s1 hgq
    have s2 : Same H (upd H1 gq (.lst [])) := L2.Same.upd_new s1 hgq
    refine ⟨fun m σ H' => ∃ (i : Nat) (v4 v5 : Option V) (st : Su99Neutral.S) (ks : List Nat) (giv : List Int) (raw : List (List (List Int))), m = ls.length - i ∧ i ≤ ls.length ∧ σ = [some (.ref a), some (.ref x0), some (.ref gq), some (nv i), v4, v5] ∧
        Same H H' ∧ (∃ dx l, H' x0 = some (.ins C dx (pf l)) ∧ H' l = some (.lst (nvs ks)) ∧ l ≠ gq) ∧ StOk st ks ∧ H' gq = some (.lst (ivs giv)) ∧ Fc.P (toI (ls.drop i)) = some raw ∧ PySu99.answers (toI ls) = giv ++ out st raw,
      ⟨ls.length, 0, none, none, none, [], [], raw0, rfl, Nat.zero_le _, rfl, s2, (by obtain ⟨dx, l, q1, q2⟩ := c0; exact ⟨dx, l, by rw [upd_ne (ne_of_none q1 hgq)]; exact q1, by rw [upd_ne (ne_of_none q2 hgq)]; exact q2, ne_of_none q2 hgq⟩), .inl ⟨rfl, rfl⟩, upd_same, hP0, by rw [List.nil_append]; exact answers_out hP0⟩, ?_⟩
    rintro m σ H' ⟨i, v4, v5, st, ks, giv, raw, rfl, hi, rfl, s5, hp, hst, hg, hP, hA⟩
    refine ⟨_, rfl, _, rfl, a, _, rfl, .inl (L2.Same.seq s5 hS), _, _, rfl, rfl, _, rfl, ite2 (fun hlt => ?_) (fun hlt => ?_)⟩
    · have hlt' : i < ls.length := by
        have := of_decide_eq_true hlt
        rw [nvs_len] at this
        omega
      obtain ⟨c, hc⟩ : ∃ c, ls[i]? = some c := ⟨_, List.getElem?_eq_getElem hlt'⟩
      obtain ⟨dx, l, hx0, hl0, hlg⟩ := hp
      have hp : PAt C H' x0 ks := ⟨dx, l, hx0, hl0⟩
      have gx : gq ≠ x0 := ne_of hg hx0 (by intro z; cases z)
      refine ⟨fun σ' H'' => ∃ m', m' < ls.length - i ∧ _, fun σ' H'' z => z, ?_⟩
      refine ⟨_, rfl, _, rfl, a, _, _, _, rfl, rfl, L2.Same.seq s5 hS, atI_nat (nvs_at hc), ?_⟩
      refine ⟨_, rfl, (c : Int), rfl, rfl, _, rfl, ?_⟩
      rw [hD]
      rw [toI_drop hc] at hP
      -- what stands behind a call
      have after : ∀ (j : Nat) (H2 : Hp) (q : Addr) (ks' : List Nat) (cl : List Int) (cs : List (List (List Int))), i < j → j ≤ ls.length → PTo C H' H2 x0 ks' → StOk (Su99Neutral.step st cl).1 ks' → (∀ b o, H' b = some o → b ≠ x0 → H2 b = some o) → H' q = none → H2 q = some (.lst (ivs (Su99Neutral.step st cl).2)) →
          Fc.P (toI (ls.drop j)) = some cs → out st raw = (((Su99Neutral.step st cl).2.length : Int) :: (Su99Neutral.step st cl).2) ++ out (Su99Neutral.step st cl).1 cs →
          H2 gq = some (.lst (ivs giv)) ∧ q ≠ gq ∧ (ivs giv).length < sizeLine ∧ (ivs giv ++ [V.int ((ivs (Su99Neutral.step st cl).2).length : Int)]).length + (ivs (Su99Neutral.step st cl).2).length ≤ sizeLine ∧
          ∀ v4 : Option V, ∃ m', m' < ls.length - i ∧ ∃ (i' : Nat) (v4' v5' : Option V) (st' : Su99Neutral.S) (ks : List Nat) (giv' : List Int) (raw' : List (List (List Int))), m' = ls.length - i' ∧ i' ≤ ls.length ∧ [some (V.ref a), some (.ref x0), some (.ref gq), some (nv j), v4, some (.ref q)] = [some (.ref a), some (.ref x0), some (.ref gq), some (nv i'), v4', v5'] ∧
            Same H (upd (upd H2 gq (.lst (ivs giv ++ [V.int ((ivs (Su99Neutral.step st cl).2).length : Int)]))) gq (.lst (ivs giv ++ [V.int ((ivs (Su99Neutral.step st cl).2).length : Int)] ++ ivs (Su99Neutral.step st cl).2))) ∧
            (∃ dx l, upd (upd H2 gq (.lst (ivs giv ++ [V.int ((ivs (Su99Neutral.step st cl).2).length : Int)]))) gq (.lst (ivs giv ++ [V.int ((ivs (Su99Neutral.step st cl).2).length : Int)] ++ ivs (Su99Neutral.step st cl).2)) x0 = some (.ins C dx (pf l)) ∧
              upd (upd H2 gq (.lst (ivs giv ++ [V.int ((ivs (Su99Neutral.step st cl).2).length : Int)]))) gq (.lst (ivs giv ++ [V.int ((ivs (Su99Neutral.step st cl).2).length : Int)] ++ ivs (Su99Neutral.step st cl).2)) l = some (.lst (nvs ks)) ∧ l ≠ gq) ∧ StOk st' ks ∧
            upd (upd H2 gq (.lst (ivs giv ++ [V.int ((ivs (Su99Neutral.step st cl).2).length : Int)]))) gq (.lst (ivs giv ++ [V.int ((ivs (Su99Neutral.step st cl).2).length : Int)] ++ ivs (Su99Neutral.step st cl).2)) gq = some (.lst (ivs giv')) ∧ Fc.P (toI (ls.drop i')) = some raw' ∧ PySu99.answers (toI ls) = giv' ++ out st' raw' := by
        intro j H2 q ks' cl cs hij hj e1 e2 e3 e4 e5 e6 e7
        have g2 : H2 gq = some (.lst (ivs giv)) := e3 _ _ hg gx
        have qg : q ≠ gq := Ne.symm (ne_of_none hg e4)
        have eA : PySu99.answers (toI ls) = (giv ++ (((Su99Neutral.step st cl).2.length : Int) :: (Su99Neutral.step st cl).2)) ++ out (Su99Neutral.step st cl).1 cs := by rw [hA, e7, List.append_assoc]
        have hl : giv.length + (Su99Neutral.step st cl).2.length + 1 ≤ 10000000 := by
          have := hlen
          rw [eA, List.length_append, List.length_append, List.length_cons] at this
          omega
        have hn : x0 ≠ gq := Ne.symm gx
        refine ⟨g2, qg, ?_, ?_, fun v4 => ⟨ls.length - j, by omega, j, v4, _, (Su99Neutral.step st cl).1, ks', giv ++ (((Su99Neutral.step st cl).2.length : Int) :: (Su99Neutral.step st cl).2), cs, rfl, hj, rfl, ?_, ?_, e2, ?_, e6, eA⟩⟩
        · rw [ivs_len]
          exact small_size1 (by omega)
        · rw [List.length_append, ivs_len, ivs_len]
          exact small_size (by simp; omega)
        · rw [upd_upd]
          exact L2.Same.upd_free (fun b o e => e3 b o (s5 b o e) (ne_of_none e n0)) hg0
        · obtain ⟨dx', l', p1, p2, p3⟩ := e1
          have lg : l' ≠ gq := by
            rcases p3 with p3 | ⟨dx0, p3⟩
            · exact Ne.symm (ne_of_none hg p3)
            · rw [hx0] at p3
              have e : l = l' := by
                injection p3 with p3
                injection p3 with _ _ p3
                exact pf_inj p3
              rw [← e]
              exact hlg
          exact ⟨dx', l', by rw [upd_upd, upd_ne hn]; exact p1, by rw [upd_upd, upd_ne lg]; exact p2, lg⟩
        · rw [upd_same, ivs_app, ivs_len, List.append_assoc]
          rfl
      rcases P_split hP with ⟨hsh, cs, hcs, rfl⟩ | ⟨hsh, x, t, cs, hxt, hcs, rfl⟩
      · have al := shape_0 hsh
        rw [decide_eq_true al]
        refine iteT ?_
        refine ⟨_, rfl, _, rfl, x0, [(c : Int)], st, ks, rfl, ⟨_, rfl, al⟩, hp, hst, fun H2 q ks' e1 e2 e3 e4 e5 => ?_⟩
        obtain ⟨b1, b2, b3, b4, b5⟩ := after (i + 1) H2 q ks' [(c : Int)] cs (by omega) (by omega) e1 e2 e3 e4 e5 hcs (out_1 al st cs)
        refine ⟨_, rfl, _, _, rfl, rfl, ?_⟩
        refine ⟨_, rfl, .inl ⟨rfl, _, SqL.of b1⟩, _, rfl, q, _, rfl, .inl (SqL.of e5), gq, _, _, rfl, rfl, b1, b3, ?_⟩
        refine ⟨_, rfl, .inl ⟨rfl, _, SqL.of upd_same⟩, _, rfl, gq, q, _, _, rfl, rfl, upd_same, (by rw [upd_ne b2]; exact e5), b4, ?_⟩
        exact b5 _
      · have al := not_both (shape_1 hsh)
        rw [decide_eq_false al]
        refine iteF ?_
        obtain ⟨n, hn⟩ : ∃ n, ls[i + 1]? = some n := by
          cases q : ls[i + 1]? with
          | some n => exact ⟨n, rfl⟩
          | none =>
            rw [List.drop_eq_nil_of_le (List.getElem?_eq_none_iff.mp q)] at hxt
            cases hxt
        rw [toI_drop hn] at hxt
        cases hxt
        refine ⟨_, rfl, _, rfl, _, rfl, _, rfl, _, _, rfl, rfl, a, _, _, _, rfl, rfl, L2.Same.seq s5 hS, at_of (j := i + 1) (by omega) (nvs_at hn), x0, [(c : Int), (n : Int)], st, ks, rfl, ⟨_, n, rfl, shape_1 hsh⟩, hp, hst, fun H2 q ks' e1 e2 e3 e4 e5 => ?_⟩
        have hl2 : i + 1 < ls.length := (List.getElem?_eq_some_iff.mp hn).1
        obtain ⟨b1, b2, b3, b4, b5⟩ := after (i + 1 + 1) H2 q ks' [(c : Int), (n : Int)] cs (by omega) (by omega) e1 e2 e3 e4 e5 hcs (out_2 (shape_1 hsh) st n cs)
        refine ⟨_, rfl, _, _, rfl, rfl, ?_⟩
        refine ⟨_, rfl, .inl ⟨rfl, _, SqL.of b1⟩, _, rfl, q, _, rfl, .inl (SqL.of e5), gq, _, _, rfl, rfl, b1, b3, ?_⟩
        refine ⟨_, rfl, .inl ⟨rfl, _, SqL.of upd_same⟩, _, rfl, gq, q, _, _, rfl, rfl, upd_same, (by rw [upd_ne b2]; exact e5), b4, ?_⟩
        exact b5 _
    · have hlt' : ¬ i < ls.length := fun z => hlt (decide_eq_true (by rw [nvs_len]; omega))
      refine ⟨_, rfl, k H' gq ?_⟩
      rw [List.drop_eq_nil_of_le (by omega)] at hP
      have e : raw = [] := (Option.some.inj (P_nil.symm.trans hP)).symm
      subst e
      rw [out_nil, List.append_nil] at hA
      rw [hA]
      exact hg
end
end Fc

end

section
set_option Elab.async false
set_option linter.all false
set_option maxRecDepth 100000
set_option maxHeartbeats 2000000
namespace Fc
open PySem PySem.Spec PyProof.Rows L2
/-- a def of the module, as the top has left it -/
def KDef (K : PySem.W.Frag) (x : Str) (st : Stmt) (f : Addr) : Prop := PySem.W.nsIn K mainGlobals x = some (some (.ref f)) ∧ ∃ fd, Fun K x x st f fd
theorem kdef_mk {K : PySem.W.Frag} {x : Str} {st : Stmt} {f : Addr} {oc : Value} {od an : Option Addr} {osl : Array (Option Value)} {kV doc pm cdv ct : Value} (a : PySem.W.nsIn K mainGlobals x = some (some (.ref f)))
    (l : K.lookup f = some ⟨oc, od, .func (PySem.W.fnOf x x (defArgs st) (defBody st) (defScope st) .none kV doc pm an cdv ct), osl⟩) (c : PySem.W.codeIn K cdv x = true) (k : PySem.W.keepIn K (.ref f) = true) : KDef K x st f := ⟨a, _, fun_mk l c k⟩
section
variable {P : Program} {w : World} {K : PySem.W.Frag} {h : Heap} {mg : Str → Option Value} {base : Heap}
theorem KDef.cal {x : Str} {st : Stmt} {f : Addr} {ps : List Str} {sp : Sp} {k : Nat} (D : KDef K x st f) (X : K.In h) (G : h.Ns mainGlobals mg)
    (hb : ∀ (kV doc pm : Value) (an : Option Addr) (cdv ct : Value) (us : List Value), us.length = ps.length → bindArgs (PySem.W.fnOf x x (defArgs st) (defBody st) (defScope st) .none kV doc pm an cdv ct) ⟨us, []⟩ = pure (ps.zip us))
    (ok : ∀ fd, Fun K x x st f fd → FnOk P w K mg base CX0 k f fd ps sp) : Cal P w K mg base k x ps sp := by
  obtain ⟨a, fd, F⟩ := D
  exact ⟨f, fd, ok fd F, F.kp, F.binds hb, PySem.W.mg_of X G a⟩
theorem KDef.act {x : Str} {st : Stmt} {f : Addr} {ps : List Str} {sp : Sp} {k : Nat} (D : KDef K x st f)
    (hb : ∀ (kV doc pm : Value) (an : Option Addr) (cdv ct : Value) (us : List Value), us.length = ps.length → bindArgs (PySem.W.fnOf x x (defArgs st) (defBody st) (defScope st) .none kV doc pm an cdv ct) ⟨us, []⟩ = pure (ps.zip us))
    (ok : ∀ fd, Fun K x x st f fd → FnOk P w K mg base CX0 k f fd ps sp) : ∃ fd, FnOk P w K mg base CX0 k f fd ps sp ∧ PySem.W.keepIn K (.ref f) = true ∧ Binds K fd ps [] := by
  obtain ⟨a, fd, F⟩ := D
  exact ⟨fd, ok fd F, F.kp, F.binds hb⟩
structure Defs (K : PySem.W.Frag) : Prop where
  dWom : ∃ f, KDef K "with_one_more" sWom f
  dFew : ∃ f, KDef K "fewest_up_to" sFew f
  dGrt : ∃ f, KDef K "greatest_first" sGrt f
  dGup : ∃ f, KDef K "greatest_first_up_to" sGup f
  dWay : ∃ f, KDef K "fewest_way" sWay f
  dCnt : ∃ f, KDef K "count_fewest_ways" sCnt f
  dEdg : ∃ f, KDef K "edge_of" sEdg f
  dWut : ∃ f, KDef K "worse_up_to" sWut f
  dLst : ∃ f, KDef K "least_worse" sLst f
  dFwt : ∃ f, KDef K "farthest_with" sFwt f
  dBst : ∃ f, KDef K "best_one_more" sBst f
  dStp : ∃ f, KDef K "in_steps" sStp f
  dWth : ∃ f, KDef K "with_worth" sWth f
  dWot : ∃ f, KDef K "without_worth" sWot f
  dAlf : ∃ f, KDef K "always_fewest" sAlf f
theorem cals_mk (D : Defs K) (X : K.In h) (G : h.Ns mainGlobals mg) (B : Blt mg) : Cals P w K mg base := by
  obtain ⟨fWom, DWom⟩ := D.dWom
  obtain ⟨fFew, DFew⟩ := D.dFew
  obtain ⟨fGrt, DGrt⟩ := D.dGrt
  obtain ⟨fGup, DGup⟩ := D.dGup
  obtain ⟨fWay, DWay⟩ := D.dWay
  obtain ⟨fCnt, DCnt⟩ := D.dCnt
  obtain ⟨fEdg, DEdg⟩ := D.dEdg
  obtain ⟨fWut, DWut⟩ := D.dWut
  obtain ⟨fLst, DLst⟩ := D.dLst
  obtain ⟨fFwt, DFwt⟩ := D.dFwt
  obtain ⟨fBst, DBst⟩ := D.dBst
  obtain ⟨fStp, DStp⟩ := D.dStp
  obtain ⟨fWth, DWth⟩ := D.dWth
  obtain ⟨fWot, DWot⟩ := D.dWot
  obtain ⟨fAlf, DAlf⟩ := D.dAlf
  have CWom : Cal P w K mg base 1 "with_one_more" ["fewest", "worth"] (spWom K) := DWom.cal X G (fun _ _ _ _ _ _ us hl => match us, hl with | [_, _], _ => rfl) fun fd F => ok_wom F B
  have CFew : Cal P w K mg base 2 "fewest_up_to" ["kinds", "top"] (spFew K) := DFew.cal X G (fun _ _ _ _ _ _ us hl => match us, hl with | [_, _], _ => rfl) fun fd F => ok_few F B CWom
  have CGrt : Cal P w K mg base 1 "greatest_first" ["kinds", "total"] (spGrt K) := DGrt.cal X G (fun _ _ _ _ _ _ us hl => match us, hl with | [_, _], _ => rfl) fun fd F => ok_grt F B
  have CGup : Cal P w K mg base 1 "greatest_first_up_to" ["kinds", "top"] (spGup K) := DGup.cal X G (fun _ _ _ _ _ _ us hl => match us, hl with | [_, _], _ => rfl) fun fd F => ok_gup F B
  have CWay : Cal P w K mg base 3 "fewest_way" ["kinds", "total"] (spWay K) := DWay.cal X G (fun _ _ _ _ _ _ us hl => match us, hl with | [_, _], _ => rfl) fun fd F => ok_way F B CFew
  have CCnt : Cal P w K mg base 1 "count_fewest_ways" ["kinds", "total"] (spCnt K) := DCnt.cal X G (fun _ _ _ _ _ _ us hl => match us, hl with | [_, _], _ => rfl) fun fd F => ok_cnt F B
  have CEdg : Cal P w K mg base 1 "edge_of" ["kinds"] (spEdg K) := DEdg.cal X G (fun _ _ _ _ _ _ us hl => match us, hl with | [_], _ => rfl) fun fd F => ok_edg F B
  have CWut : Cal P w K mg base 3 "worse_up_to" ["kinds", "top"] (spWut K) := DWut.cal X G (fun _ _ _ _ _ _ us hl => match us, hl with | [_, _], _ => rfl) fun fd F => ok_wut F B CFew (CGup.mono (by decide))
  have CLst : Cal P w K mg base 4 "least_worse" ["kinds"] (spLst K) := DLst.cal X G (fun _ _ _ _ _ _ us hl => match us, hl with | [_], _ => rfl) fun fd F => ok_lst F B CWut (CEdg.mono (by decide))
  have CFwt : Cal P w K mg base 3 "farthest_with" ["kinds", "most", "top"] (spFwt K) := DFwt.cal X G (fun _ _ _ _ _ _ us hl => match us, hl with | [_, _, _], _ => rfl) fun fd F => ok_fwt F B CFew
  have CBst : Cal P w K mg base 3 "best_one_more" ["kinds", "top"] (spBst K) := DBst.cal X G (fun _ _ _ _ _ _ us hl => match us, hl with | [_, _], _ => rfl) fun fd F => ok_bst F B CFew (CWom.mono (by decide))
  have CStp : Cal P w K mg base 1 "in_steps" ["kinds"] (spStp K) := DStp.cal X G (fun _ _ _ _ _ _ us hl => match us, hl with | [_], _ => rfl) fun fd F => ok_stp F B
  have CWth : Cal P w K mg base 1 "with_worth" ["worths", "worth"] (spWth K) := DWth.cal X G (fun _ _ _ _ _ _ us hl => match us, hl with | [_, _], _ => rfl) fun fd F => ok_wth F B
  have CWot : Cal P w K mg base 1 "without_worth" ["worths", "worth"] (spWot K) := DWot.cal X G (fun _ _ _ _ _ _ us hl => match us, hl with | [_, _], _ => rfl) fun fd F => ok_wot F B
  have CAlf : Cal P w K mg base 5 "always_fewest" ["worths"] (spAlf K) := DAlf.cal X G (fun _ _ _ _ _ _ us hl => match us, hl with | [_], _ => rfl) fun fd F => ok_alf F CLst
  exact { few := CFew.mono (by decide), grt := CGrt.mono (by decide), gup := CGup.mono (by decide), way := CWay.mono (by decide), cnt := CCnt.mono (by decide), edg := CEdg.mono (by decide), wut := CWut.mono (by decide), lst := CLst.mono (by decide), fwt := CFwt.mono (by decide), bst := CBst.mono (by decide), stp := CStp.mono (by decide), wth := CWth.mono (by decide), wot := CWot.mono (by decide), alf := CAlf.mono (by decide) }
structure ActDefs (K : PySem.W.Frag) (a0 a1 a2 a3 a4 a5 a6 a7 a8 a9 a10 a11 a12 a13 a14 a15 a16 a17 a18 : Addr) : Prop where
  d0 : KDef K "begin" sBeg a0
  d1 : KDef K "kind" sKnd a1
  d2 : KDef K "drop" sDrp a2
  d3 : KDef K "fewest" sPFew a3
  d4 : KDef K "greedy" sGdy a4
  d5 : KDef K "how" sHow a5
  d6 : KDef K "ways" sWys a6
  d7 : KDef K "worse" sWrs a7
  d8 : KDef K "always" sAlw a8
  d9 : KDef K "least" sLea a9
  d10 : KDef K "bad" sBad a10
  d11 : KDef K "most" sMst a11
  d12 : KDef K "farthest" sFar a12
  d13 : KDef K "plus" sPls a13
  d14 : KDef K "without" sWtt a14
  d15 : KDef K "best" sBes a15
  d16 : KDef K "steps" sSts a16
  d17 : KDef K "kinds" sKds a17
  d18 : KDef K "sums" sSms a18
def kfs0 (t0 t8 t9 t16 t17 : Tok) (a0 a8 a9 a16 a17 : Addr) : List (Int × Tok × Addr) := [(0, t0, a0), (8, t8, a8), (9, t9, a9), (16, t16, a16), (17, t17, a17)]
def kfs1 (t1 t2 t3 t4 t5 t6 t7 t10 t11 t12 t13 t14 t15 t18 : Tok) (a1 a2 a3 a4 a5 a6 a7 a10 a11 a12 a13 a14 a15 a18 : Addr) : List (Int × Tok × Addr) := [(1, t1, a1), (2, t2, a2), (3, t3, a3), (4, t4, a4), (5, t5, a5), (6, t6, a6), (7, t7, a7), (10, t10, a10), (11, t11, a11), (12, t12, a12), (13, t13, a13), (14, t14, a14), (15, t15, a15), (18, t18, a18)]
theorem alone_in (t0 t8 t9 t16 t17 : Tok) (a0 a8 a9 a16 a17 : Addr) (c : Int) : (kdGet (kfs0 t0 t8 t9 t16 t17 a0 a8 a9 a16 a17) c).isSome = decide (Alone c) := by
  rw [Bool.eq_iff_iff, decide_eq_true_eq]
  unfold kdGet kfs0 Alone
  rw [Option.isSome_map, List.find?_isSome]
  constructor
  · rintro ⟨x, hx, e⟩
    have e := of_decide_eq_true e
    simp only [List.mem_cons, List.not_mem_nil, or_false] at hx
    rcases hx with rfl | rfl | rfl | rfl | rfl <;> (have e := e.symm; simp only at e; omega)
  · rintro (rfl | rfl | rfl | rfl | rfl)
    · exact ⟨(0, t0, a0), by simp, decide_eq_true rfl⟩
    · exact ⟨(8, t8, a8), by simp, decide_eq_true rfl⟩
    · exact ⟨(9, t9, a9), by simp, decide_eq_true rfl⟩
    · exact ⟨(16, t16, a16), by simp, decide_eq_true rfl⟩
    · exact ⟨(17, t17, a17), by simp, decide_eq_true rfl⟩
theorem acts0_mk {C a0 a1 a2 a3 a4 a5 a6 a7 a8 a9 a10 a11 a12 a13 a14 a15 a16 a17 a18 : Addr} {t0 t8 t9 t16 t17 : Tok} (D : ActDefs K a0 a1 a2 a3 a4 a5 a6 a7 a8 a9 a10 a11 a12 a13 a14 a15 a16 a17 a18) (T : Txt K mg C) (B : Blt mg) (Z : Cst mg) (L : Cals P w K mg base) : Acts0 P w K mg base C (kfs0 t0 t8 t9 t16 t17 a0 a8 a9 a16 a17) where
  beg := by
    obtain ⟨fd, G⟩ := D.d0.act (P := P) (w := w) (mg := mg) (base := base) (ps := ["purse"]) (sp := spBeg C) (k := 6) (fun _ _ _ _ _ _ us hl => match us, hl with | [_], _ => rfl) fun fd F => ok_beg F T
    exact ⟨a0, fd, rfl, G⟩
  act := by
    rintro c x (rfl | rfl | rfl | rfl | rfl) h0 hx
    · exact absurd rfl h0
    · cases hx
      obtain ⟨fd, G⟩ := D.d8.act (P := P) (w := w) (mg := mg) (base := base) (ps := ["purse"]) (sp := spAct0 C .always) (k := 6) (fun _ _ _ _ _ _ us hl => match us, hl with | [_], _ => rfl) fun fd F => ok_alw F T L
      exact ⟨a8, fd, rfl, G⟩
    · cases hx
      obtain ⟨fd, G⟩ := D.d9.act (P := P) (w := w) (mg := mg) (base := base) (ps := ["purse"]) (sp := spAct0 C .least) (k := 6) (fun _ _ _ _ _ _ us hl => match us, hl with | [_], _ => rfl) fun fd F => ok_lea F T B Z L
      exact ⟨a9, fd, rfl, G⟩
    · cases hx
      obtain ⟨fd, G⟩ := D.d16.act (P := P) (w := w) (mg := mg) (base := base) (ps := ["purse"]) (sp := spAct0 C .steps) (k := 6) (fun _ _ _ _ _ _ us hl => match us, hl with | [_], _ => rfl) fun fd F => ok_sts F T L
      exact ⟨a16, fd, rfl, G⟩
    · cases hx
      obtain ⟨fd, G⟩ := D.d17.act (P := P) (w := w) (mg := mg) (base := base) (ps := ["purse"]) (sp := spAct0 C .kinds) (k := 6) (fun _ _ _ _ _ _ us hl => match us, hl with | [_], _ => rfl) fun fd F => ok_kds F T B
      exact ⟨a17, fd, rfl, G⟩
theorem acts1_mk {C a0 a1 a2 a3 a4 a5 a6 a7 a8 a9 a10 a11 a12 a13 a14 a15 a16 a17 a18 : Addr} {t1 t2 t3 t4 t5 t6 t7 t10 t11 t12 t13 t14 t15 t18 : Tok} (D : ActDefs K a0 a1 a2 a3 a4 a5 a6 a7 a8 a9 a10 a11 a12 a13 a14 a15 a16 a17 a18) (T : Txt K mg C) (B : Blt mg) (Z : Cst mg) (L : Cals P w K mg base) : Acts1 P w K mg base C (kfs1 t1 t2 t3 t4 t5 t6 t7 t10 t11 t12 t13 t14 t15 t18 a1 a2 a3 a4 a5 a6 a7 a10 a11 a12 a13 a14 a15 a18) where
  act := by
    rintro c (rfl | rfl | rfl | rfl | rfl | rfl | rfl | rfl | rfl | rfl | rfl | rfl | rfl | rfl)
    · obtain ⟨fd, G⟩ := D.d1.act (P := P) (w := w) (mg := mg) (base := base) (ps := ["purse", "worth"]) (sp := spAct1 C .kind) (k := 6) (fun _ _ _ _ _ _ us hl => match us, hl with | [_, _], _ => rfl) fun fd F => ok_knd F T B Z L
      exact ⟨a1, fd, ["purse", "worth"], .kind, fun n => rfl, fun n => (by intro z; cases z), rfl, G⟩
    · obtain ⟨fd, G⟩ := D.d2.act (P := P) (w := w) (mg := mg) (base := base) (ps := ["purse", "worth"]) (sp := spAct1 C .drop) (k := 6) (fun _ _ _ _ _ _ us hl => match us, hl with | [_, _], _ => rfl) fun fd F => ok_drp F T B Z L
      exact ⟨a2, fd, ["purse", "worth"], .drop, fun n => rfl, fun n => (by intro z; cases z), rfl, G⟩
    · obtain ⟨fd, G⟩ := D.d3.act (P := P) (w := w) (mg := mg) (base := base) (ps := ["purse", "total"]) (sp := spAct1 C .fewest) (k := 6) (fun _ _ _ _ _ _ us hl => match us, hl with | [_, _], _ => rfl) fun fd F => ok_pfew F T B Z L
      exact ⟨a3, fd, ["purse", "total"], .fewest, fun n => rfl, fun n => (by intro z; cases z), rfl, G⟩
    · obtain ⟨fd, G⟩ := D.d4.act (P := P) (w := w) (mg := mg) (base := base) (ps := ["purse", "total"]) (sp := spAct1 C .greedy) (k := 6) (fun _ _ _ _ _ _ us hl => match us, hl with | [_, _], _ => rfl) fun fd F => ok_gdy F T B Z L
      exact ⟨a4, fd, ["purse", "total"], .greedy, fun n => rfl, fun n => (by intro z; cases z), rfl, G⟩
    · obtain ⟨fd, G⟩ := D.d5.act (P := P) (w := w) (mg := mg) (base := base) (ps := ["purse", "total"]) (sp := spAct1 C .how) (k := 6) (fun _ _ _ _ _ _ us hl => match us, hl with | [_, _], _ => rfl) fun fd F => ok_how F T B Z L
      exact ⟨a5, fd, ["purse", "total"], .how, fun n => rfl, fun n => (by intro z; cases z), rfl, G⟩
    · obtain ⟨fd, G⟩ := D.d6.act (P := P) (w := w) (mg := mg) (base := base) (ps := ["purse", "total"]) (sp := spAct1 C .ways) (k := 6) (fun _ _ _ _ _ _ us hl => match us, hl with | [_, _], _ => rfl) fun fd F => ok_wys F T B Z L
      exact ⟨a6, fd, ["purse", "total"], .ways, fun n => rfl, fun n => (by intro z; cases z), rfl, G⟩
    · obtain ⟨fd, G⟩ := D.d7.act (P := P) (w := w) (mg := mg) (base := base) (ps := ["purse", "total"]) (sp := spAct1 C .worse) (k := 6) (fun _ _ _ _ _ _ us hl => match us, hl with | [_, _], _ => rfl) fun fd F => ok_wrs F T B Z L
      exact ⟨a7, fd, ["purse", "total"], .worse, fun n => rfl, fun n => (by intro z; cases z), rfl, G⟩
    · obtain ⟨fd, G⟩ := D.d10.act (P := P) (w := w) (mg := mg) (base := base) (ps := ["purse", "top"]) (sp := spAct1 C .bad) (k := 6) (fun _ _ _ _ _ _ us hl => match us, hl with | [_, _], _ => rfl) fun fd F => ok_bad F T B Z L
      exact ⟨a10, fd, ["purse", "top"], .bad, fun n => rfl, fun n => (by intro z; cases z), rfl, G⟩
    · obtain ⟨fd, G⟩ := D.d11.act (P := P) (w := w) (mg := mg) (base := base) (ps := ["purse", "top"]) (sp := spAct1 C .most) (k := 6) (fun _ _ _ _ _ _ us hl => match us, hl with | [_, _], _ => rfl) fun fd F => ok_mst F T B Z L
      exact ⟨a11, fd, ["purse", "top"], .most, fun n => rfl, fun n => (by intro z; cases z), rfl, G⟩
    · obtain ⟨fd, G⟩ := D.d12.act (P := P) (w := w) (mg := mg) (base := base) (ps := ["purse", "count"]) (sp := spAct1 C .farthest) (k := 6) (fun _ _ _ _ _ _ us hl => match us, hl with | [_, _], _ => rfl) fun fd F => ok_far F T B Z L
      exact ⟨a12, fd, ["purse", "count"], .farthest, fun n => rfl, fun n => (by intro z; cases z), rfl, G⟩
    · obtain ⟨fd, G⟩ := D.d13.act (P := P) (w := w) (mg := mg) (base := base) (ps := ["purse", "worth"]) (sp := spAct1 C .plus) (k := 6) (fun _ _ _ _ _ _ us hl => match us, hl with | [_, _], _ => rfl) fun fd F => ok_pls F T B Z L
      exact ⟨a13, fd, ["purse", "worth"], .plus, fun n => rfl, fun n => (by intro z; cases z), rfl, G⟩
    · obtain ⟨fd, G⟩ := D.d14.act (P := P) (w := w) (mg := mg) (base := base) (ps := ["purse", "worth"]) (sp := spAct1 C .without) (k := 6) (fun _ _ _ _ _ _ us hl => match us, hl with | [_, _], _ => rfl) fun fd F => ok_wtt F T B Z L
      exact ⟨a14, fd, ["purse", "worth"], .without, fun n => rfl, fun n => (by intro z; cases z), rfl, G⟩
    · obtain ⟨fd, G⟩ := D.d15.act (P := P) (w := w) (mg := mg) (base := base) (ps := ["purse", "top"]) (sp := spAct1 C .best) (k := 6) (fun _ _ _ _ _ _ us hl => match us, hl with | [_, _], _ => rfl) fun fd F => ok_bes F T B Z L
      exact ⟨a15, fd, ["purse", "top"], .best, fun n => rfl, fun n => (by intro z; cases z), rfl, G⟩
    · obtain ⟨fd, G⟩ := D.d18.act (P := P) (w := w) (mg := mg) (base := base) (ps := ["purse", "top"]) (sp := spAct1 C .sums) (k := 6) (fun _ _ _ _ _ _ us hl => match us, hl with | [_, _], _ => rfl) fun fd F => ok_sms F T B Z L
      exact ⟨a18, fd, ["purse", "top"], .sums, fun n => rfl, fun n => (by intro z; cases z), rfl, G⟩
structure DictIs (K : PySem.W.Frag) (d : Addr) (es : Array DictEntry) : Prop where
  lk : ∃ ep, K.lookup d = some { cls := .type "dict", data := .dict es ep }
  sm : (d == sysModules) = false
theorem DictIs.kd {d : Addr} {es : Array DictEntry} (D : DictIs K d es) {kfs : List (Int × Tok × Addr)} (e : es.toList = ents kfs) (nd : (kfs.map (·.1)).Nodup) : KDict K d kfs := by
  obtain ⟨⟨ep, lk⟩, sm⟩ := D
  exact ⟨⟨es, ep, lk, e⟩, nd, sm⟩
structure Ns (K : PySem.W.Frag) : Prop where
  c2 : ∃ t, PySem.W.nsIn K mainGlobals "NOT_THERE" = some (some (.int (-2) t))
  c11 : ∃ t, PySem.W.nsIn K mainGlobals "NOT_BEGUN" = some (some (.int (-11) t))
  c17 : ∃ t, PySem.W.nsIn K mainGlobals "SO_ALREADY" = some (some (.int (-17) t))
  c22 : ∃ t, PySem.W.nsIn K mainGlobals "OUT_OF_RANGE" = some (some (.int (-22) t))
  c28 : ∃ t, PySem.W.nsIn K mainGlobals "TOO_MANY" = some (some (.int (-28) t))
  c33 : ∃ t, PySem.W.nsIn K mainGlobals "NONE_SUCH" = some (some (.int (-33) t))
  k6 : ∃ t, PySem.W.nsIn K mainGlobals "MOST_KINDS" = some (some (.int (6) t))
  k2 : ∃ t, PySem.W.nsIn K mainGlobals "LEAST_WORTH" = some (some (.int (2) t))
  k100 : ∃ t, PySem.W.nsIn K mainGlobals "GREATEST_WORTH" = some (some (.int (100) t))
  k1000 : ∃ t, PySem.W.nsIn K mainGlobals "GREATEST_SUM" = some (some (.int (1000) t))
  k300 : ∃ t, PySem.W.nsIn K mainGlobals "GREATEST_SUM_OF_HOW" = some (some (.int (300) t))
  k60 : ∃ t, PySem.W.nsIn K mainGlobals "GREATEST_SUM_OF_WAYS" = some (some (.int (60) t))
  k200 : ∃ t, PySem.W.nsIn K mainGlobals "GREATEST_SUM_OF_BAD" = some (some (.int (200) t))
  kb2 : ∃ t, PySem.W.nsIn K mainGlobals "LEAST_SUM_OF_BEST" = some (some (.int (2) t))
  kb60 : ∃ t, PySem.W.nsIn K mainGlobals "GREATEST_SUM_OF_BEST" = some (some (.int (60) t))
  kc1 : ∃ t, PySem.W.nsIn K mainGlobals "LEAST_COINS" = some (some (.int (1) t))
  kc20 : ∃ t, PySem.W.nsIn K mainGlobals "GREATEST_COINS" = some (some (.int (20) t))
  z0 : ∃ t, PySem.W.nsIn K mainGlobals "BEGIN" = some (some (.int 0 t))
  nlist : PySem.W.nsIn K mainGlobals "list" = some none
  nreversed : PySem.W.nsIn K mainGlobals "reversed" = some none
  nrange : PySem.W.nsIn K mainGlobals "range" = some none
  nmin : PySem.W.nsIn K mainGlobals "min" = some none
  nmax : PySem.W.nsIn K mainGlobals "max" = some none
  nsum : PySem.W.nsIn K mainGlobals "sum" = some none
  nlen : PySem.W.nsIn K mainGlobals "len" = some none
  nsorted : PySem.W.nsIn K mainGlobals "sorted" = some none
theorem Ns.cst (N : Ns K) (X : K.In h) (G : h.Ns mainGlobals mg) : Cst mg where
  c2 := let ⟨t, e⟩ := N.c2; ⟨t, PySem.W.mg_of X G e⟩
  c11 := let ⟨t, e⟩ := N.c11; ⟨t, PySem.W.mg_of X G e⟩
  c17 := let ⟨t, e⟩ := N.c17; ⟨t, PySem.W.mg_of X G e⟩
  c22 := let ⟨t, e⟩ := N.c22; ⟨t, PySem.W.mg_of X G e⟩
  c28 := let ⟨t, e⟩ := N.c28; ⟨t, PySem.W.mg_of X G e⟩
  c33 := let ⟨t, e⟩ := N.c33; ⟨t, PySem.W.mg_of X G e⟩
  k6 := let ⟨t, e⟩ := N.k6; ⟨t, PySem.W.mg_of X G e⟩
  k2 := let ⟨t, e⟩ := N.k2; ⟨t, PySem.W.mg_of X G e⟩
  k100 := let ⟨t, e⟩ := N.k100; ⟨t, PySem.W.mg_of X G e⟩
  k1000 := let ⟨t, e⟩ := N.k1000; ⟨t, PySem.W.mg_of X G e⟩
  k300 := let ⟨t, e⟩ := N.k300; ⟨t, PySem.W.mg_of X G e⟩
  k60 := let ⟨t, e⟩ := N.k60; ⟨t, PySem.W.mg_of X G e⟩
  k200 := let ⟨t, e⟩ := N.k200; ⟨t, PySem.W.mg_of X G e⟩
  kb2 := let ⟨t, e⟩ := N.kb2; ⟨t, PySem.W.mg_of X G e⟩
  kb60 := let ⟨t, e⟩ := N.kb60; ⟨t, PySem.W.mg_of X G e⟩
  kc1 := let ⟨t, e⟩ := N.kc1; ⟨t, PySem.W.mg_of X G e⟩
  kc20 := let ⟨t, e⟩ := N.kc20; ⟨t, PySem.W.mg_of X G e⟩
theorem Ns.blt (N : Ns K) (X : K.In h) (G : h.Ns mainGlobals mg) : Blt mg where
  list_ := PySem.W.mg_none_of X G N.nlist
  rev_ := PySem.W.mg_none_of X G N.nreversed
  rng_ := PySem.W.mg_none_of X G N.nrange
  min_ := PySem.W.mg_none_of X G N.nmin
  max_ := PySem.W.mg_none_of X G N.nmax
  sum_ := PySem.W.mg_none_of X G N.nsum
  len_ := PySem.W.mg_none_of X G N.nlen
  srt_ := PySem.W.mg_none_of X G N.nsorted
theorem all_mk {fa d0 d1 fAns fAlo fNum fI : Addr} {fdI : FuncData} {C a0 a1 a2 a3 a4 a5 a6 a7 a8 a9 a10 a11 a12 a13 a14 a15 a16 a17 a18 : Addr} {t0 t8 t9 t16 t17 : Tok} {t1 t2 t3 t4 t5 t6 t7 t10 t11 t12 t13 t14 t15 t18 : Tok} (X : K.In h) (G : h.Ns mainGlobals mg) (hfa : mg "answers" = some (.ref fa)) (N : Ns K) (D : Defs K) (DA : ActDefs K a0 a1 a2 a3 a4 a5 a6 a7 a8 a9 a10 a11 a12 a13 a14 a15 a16 a17 a18)
    (dAlo : KDef K "answer_alone" sAlo fAlo) (dNum : KDef K "answer_with_number" sNum fNum) (dAns : KDef K "answers" sAns fAns)
    (aC : PySem.W.nsIn K mainGlobals "Purse" = some (some (.ref C))) (cl : Cls K C) (nW : PySem.W.findIn K (.ref C) "worths" = some none) (M : Mk K C fI) (FI : Fun K "__init__" "Purse.__init__" sInit fI fdI)
    (m0 : PySem.W.nsIn K mainGlobals "ACTIONS_ALONE" = some (some (.ref d0))) (D0 : KDict K d0 (kfs0 t0 t8 t9 t16 t17 a0 a8 a9 a16 a17))
    (m1 : PySem.W.nsIn K mainGlobals "ACTIONS_WITH_NUMBER" = some (some (.ref d1))) (D1 : KDict K d1 (kfs1 t1 t2 t3 t4 t5 t6 t7 t10 t11 t12 t13 t14 t15 t18 a1 a2 a3 a4 a5 a6 a7 a10 a11 a12 a13 a14 a15 a18)) :
    ∃ fd : FuncData, (∀ (s : Shared) (us : List Value), us.length = (["calls"] : List Str).length → BindsTo s fd ⟨us, []⟩ ((["calls"] : List Str).zip us)) ∧ ∀ base : Heap, K.In base → base.Ns mainGlobals mg → FnOk P w K mg base CX0 8 fa fd ["calls"] (spAns K) := by
  have T : Txt K mg C := ⟨cl, nW, PySem.W.mg_of X G aC⟩
  have B := N.blt X G
  have Z := N.cst X G
  have z0 : ∃ t, mg "BEGIN" = some (.int 0 t) := let ⟨t, e⟩ := N.z0; ⟨t, PySem.W.mg_of X G e⟩
  have bI := FI.binds (ps := ["self"]) fun _ _ _ _ _ _ us hl => match us, hl with | [_], _ => rfl
  obtain ⟨aAns, fdAns, FAns⟩ := dAns
  have e := hfa.symm.trans (PySem.W.mg_of X G aAns)
  cases e
  refine ⟨fdAns, ?_, fun base _ _ => ?_⟩
  · obtain ⟨oc, od, kV, doc, pm, an, cdv, ct, osl, rfl, lk, hcd⟩ := FAns.ex
    exact fun s us hu => match us, hu with | [_], _ => .of_eq rfl
  · have L : Cals P w K mg base := cals_mk D X G B
    have A0 := acts0_mk (P := P) (w := w) (base := base) (t0 := t0) (t8 := t8) (t9 := t9) (t16 := t16) (t17 := t17) DA T B Z L
    have A1 := acts1_mk (P := P) (w := w) (base := base) (t1 := t1) (t2 := t2) (t3 := t3) (t4 := t4) (t5 := t5) (t6 := t6) (t7 := t7) (t10 := t10) (t11 := t11) (t12 := t12) (t13 := t13) (t14 := t14) (t15 := t15) (t18 := t18) DA T B Z L
    obtain ⟨fA, fdA, GA, kA, bA, mA⟩ := dAlo.cal (P := P) (w := w) (base := base) (mg := mg) (ps := ["purse", "call"]) (sp := spDis C OkAlone) (k := 7) X G (fun _ _ _ _ _ _ us hl => match us, hl with | [_, _], _ => rfl) fun fd F => ok_alo F T Z z0 D0 (PySem.W.mg_of X G m0) A0
    obtain ⟨fN, fdN, GN, kN, bN, mN⟩ := dNum.cal (P := P) (w := w) (base := base) (mg := mg) (ps := ["purse", "call", "number"]) (sp := spDis C OkNum) (k := 7) X G (fun _ _ _ _ _ _ us hl => match us, hl with | [_, _, _], _ => rfl) fun fd F => ok_num F T Z D1 (PySem.W.mg_of X G m1) A1
    exact ok_ans FAns T B M FI bI D0 (PySem.W.mg_of X G m0) (alone_in t0 t8 t9 t16 t17 a0 a8 a9 a16 a17) GA kA bA mA GN kN bN mN
end
end Fc

end

section
set_option Elab.async false
set_option linter.all false
set_option maxRecDepth 100000
set_option maxHeartbeats 2000000
namespace Fc
open PySem PySem.Spec PyProof.Rows L2
section
variable {P : Program} {w : World} {K : PySem.W.Frag} {h : Heap} {mg : Str → Option Value}
theorem ns_mk {t0 t1 t2 t3 t4 t5 t6 t7 t8 t9 t10 t11 t12 t13 t14 t15 t16 t17 : Tok}
    (e0 : PySem.W.nsIn K mainGlobals "NOT_THERE" = some (some (.int (-2) t0)))
    (e1 : PySem.W.nsIn K mainGlobals "NOT_BEGUN" = some (some (.int (-11) t1)))
    (e2 : PySem.W.nsIn K mainGlobals "SO_ALREADY" = some (some (.int (-17) t2)))
    (e3 : PySem.W.nsIn K mainGlobals "OUT_OF_RANGE" = some (some (.int (-22) t3)))
    (e4 : PySem.W.nsIn K mainGlobals "TOO_MANY" = some (some (.int (-28) t4)))
    (e5 : PySem.W.nsIn K mainGlobals "NONE_SUCH" = some (some (.int (-33) t5)))
    (e6 : PySem.W.nsIn K mainGlobals "MOST_KINDS" = some (some (.int (6) t6)))
    (e7 : PySem.W.nsIn K mainGlobals "LEAST_WORTH" = some (some (.int (2) t7)))
    (e8 : PySem.W.nsIn K mainGlobals "GREATEST_WORTH" = some (some (.int (100) t8)))
    (e9 : PySem.W.nsIn K mainGlobals "GREATEST_SUM" = some (some (.int (1000) t9)))
    (e10 : PySem.W.nsIn K mainGlobals "GREATEST_SUM_OF_HOW" = some (some (.int (300) t10)))
    (e11 : PySem.W.nsIn K mainGlobals "GREATEST_SUM_OF_WAYS" = some (some (.int (60) t11)))
    (e12 : PySem.W.nsIn K mainGlobals "GREATEST_SUM_OF_BAD" = some (some (.int (200) t12)))
    (e13 : PySem.W.nsIn K mainGlobals "LEAST_SUM_OF_BEST" = some (some (.int (2) t13)))
    (e14 : PySem.W.nsIn K mainGlobals "GREATEST_SUM_OF_BEST" = some (some (.int (60) t14)))
    (e15 : PySem.W.nsIn K mainGlobals "LEAST_COINS" = some (some (.int (1) t15)))
    (e16 : PySem.W.nsIn K mainGlobals "GREATEST_COINS" = some (some (.int (20) t16)))
    (e17 : PySem.W.nsIn K mainGlobals "BEGIN" = some (some (.int (0) t17)))
    (b0 : PySem.W.nsIn K mainGlobals "list" = some none)
    (b1 : PySem.W.nsIn K mainGlobals "reversed" = some none)
    (b2 : PySem.W.nsIn K mainGlobals "range" = some none)
    (b3 : PySem.W.nsIn K mainGlobals "min" = some none)
    (b4 : PySem.W.nsIn K mainGlobals "max" = some none)
    (b5 : PySem.W.nsIn K mainGlobals "sum" = some none)
    (b6 : PySem.W.nsIn K mainGlobals "len" = some none)
    (b7 : PySem.W.nsIn K mainGlobals "sorted" = some none) : Ns K where
  c2 := ⟨_, e0⟩
  c11 := ⟨_, e1⟩
  c17 := ⟨_, e2⟩
  c22 := ⟨_, e3⟩
  c28 := ⟨_, e4⟩
  c33 := ⟨_, e5⟩
  k6 := ⟨_, e6⟩
  k2 := ⟨_, e7⟩
  k100 := ⟨_, e8⟩
  k1000 := ⟨_, e9⟩
  k300 := ⟨_, e10⟩
  k60 := ⟨_, e11⟩
  k200 := ⟨_, e12⟩
  kb2 := ⟨_, e13⟩
  kb60 := ⟨_, e14⟩
  kc1 := ⟨_, e15⟩
  kc20 := ⟨_, e16⟩
  z0 := ⟨_, e17⟩
  nlist := b0
  nreversed := b1
  nrange := b2
  nmin := b3
  nmax := b4
  nsum := b5
  nlen := b6
  nsorted := b7
theorem defs_mk {f0 f1 f2 f3 f4 f5 f6 f7 f8 f9 f10 f11 f12 f13 f14 : Addr}
    (D0 : KDef K "with_one_more" sWom f0)
    (D1 : KDef K "fewest_up_to" sFew f1)
    (D2 : KDef K "greatest_first" sGrt f2)
    (D3 : KDef K "greatest_first_up_to" sGup f3)
    (D4 : KDef K "fewest_way" sWay f4)
    (D5 : KDef K "count_fewest_ways" sCnt f5)
    (D6 : KDef K "edge_of" sEdg f6)
    (D7 : KDef K "worse_up_to" sWut f7)
    (D8 : KDef K "least_worse" sLst f8)
    (D9 : KDef K "farthest_with" sFwt f9)
    (D10 : KDef K "best_one_more" sBst f10)
    (D11 : KDef K "in_steps" sStp f11)
    (D12 : KDef K "with_worth" sWth f12)
    (D13 : KDef K "without_worth" sWot f13)
    (D14 : KDef K "always_fewest" sAlf f14) : Defs K where
  dWom := ⟨_, D0⟩
  dFew := ⟨_, D1⟩
  dGrt := ⟨_, D2⟩
  dGup := ⟨_, D3⟩
  dWay := ⟨_, D4⟩
  dCnt := ⟨_, D5⟩
  dEdg := ⟨_, D6⟩
  dWut := ⟨_, D7⟩
  dLst := ⟨_, D8⟩
  dFwt := ⟨_, D9⟩
  dBst := ⟨_, D10⟩
  dStp := ⟨_, D11⟩
  dWth := ⟨_, D12⟩
  dWot := ⟨_, D13⟩
  dAlf := ⟨_, D14⟩
theorem kd0_mk {d : Addr} {ep : Nat} {h0 h8 h9 h16 h17 : Int} {t0 t8 t9 t16 t17 : Tok} {a0 a8 a9 a16 a17 : Addr} (lk : K.lookup d = some { cls := .type "dict", data := .dict #[⟨h0, .int 0 t0, .ref a0⟩, ⟨h8, .int 8 t8, .ref a8⟩, ⟨h9, .int 9 t9, .ref a9⟩, ⟨h16, .int 16 t16, .ref a16⟩, ⟨h17, .int 17 t17, .ref a17⟩] ep }) (sm : (d == sysModules) = false) (hh : [h0, h8, h9, h16, h17] = [hashInt 0, hashInt 8, hashInt 9, hashInt 16, hashInt 17]) : KDict K d (kfs0 t0 t8 t9 t16 t17 a0 a8 a9 a16 a17) := by
  cases hh
  exact ⟨⟨_, ep, lk, rfl⟩, (by show ([0, 8, 9, 16, 17] : List Int).Nodup; decide), sm⟩
theorem kd1_mk {d : Addr} {ep : Nat} {h1 h2 h3 h4 h5 h6 h7 h10 h11 h12 h13 h14 h15 h18 : Int} {t1 t2 t3 t4 t5 t6 t7 t10 t11 t12 t13 t14 t15 t18 : Tok} {a1 a2 a3 a4 a5 a6 a7 a10 a11 a12 a13 a14 a15 a18 : Addr} (lk : K.lookup d = some { cls := .type "dict", data := .dict #[⟨h1, .int 1 t1, .ref a1⟩, ⟨h2, .int 2 t2, .ref a2⟩, ⟨h3, .int 3 t3, .ref a3⟩, ⟨h4, .int 4 t4, .ref a4⟩, ⟨h5, .int 5 t5, .ref a5⟩, ⟨h6, .int 6 t6, .ref a6⟩, ⟨h7, .int 7 t7, .ref a7⟩, ⟨h10, .int 10 t10, .ref a10⟩, ⟨h11, .int 11 t11, .ref a11⟩, ⟨h12, .int 12 t12, .ref a12⟩, ⟨h13, .int 13 t13, .ref a13⟩, ⟨h14, .int 14 t14, .ref a14⟩, ⟨h15, .int 15 t15, .ref a15⟩, ⟨h18, .int 18 t18, .ref a18⟩] ep }) (sm : (d == sysModules) = false) (hh : [h1, h2, h3, h4, h5, h6, h7, h10, h11, h12, h13, h14, h15, h18] = [hashInt 1, hashInt 2, hashInt 3, hashInt 4, hashInt 5, hashInt 6, hashInt 7, hashInt 10, hashInt 11, hashInt 12, hashInt 13, hashInt 14, hashInt 15, hashInt 18]) : KDict K d (kfs1 t1 t2 t3 t4 t5 t6 t7 t10 t11 t12 t13 t14 t15 t18 a1 a2 a3 a4 a5 a6 a7 a10 a11 a12 a13 a14 a15 a18) := by
  cases hh
  exact ⟨⟨_, ep, lk, rfl⟩, (by show ([1, 2, 3, 4, 5, 6, 7, 10, 11, 12, 13, 14, 15, 18] : List Int).Nodup; decide), sm⟩
theorem nat_list : ∀ {l : List Int}, (∀ z, z ∈ l → 0 ≤ z) → ∃ ls : List Nat, l = toI ls
  | [], _ => ⟨[], rfl⟩
  | z :: l, h => by
    obtain ⟨ls, e⟩ := nat_list (l := l) fun y hy => h y (List.mem_cons_of_mem _ hy)
    have hz := h z List.mem_cons_self
    exact ⟨z.toNat :: ls, by rw [e]; show z :: toI ls = ((z.toNat : Nat) : Int) :: toI ls; rw [Int.toNat_of_nonneg hz]⟩
end
end Fc

end

section
open PySem PySem.W PyProof.Rows
set_option maxRecDepth 100000 in
set_option maxHeartbeats 0 in
theorem PySem.Challenge.cw_fewestcoins_s01_answers_holds : PySem.Challenge.rw_fewestcoins_s01_answers.Holds := by
  w_on; k_headS; (case hw => exact ⟨[.list [.int 0]], by decide +kernel, by decide +kernel⟩)
  k_fillS
  refine L2.walk_specK (r := PySem.Challenge.rw_fewestcoins_s01_answers) (k := 8) (CX := L2.CX0) (ps := ["calls"]) (sp := Fc.spAns) (by decide +kernel) rfl rfl ⟨rfl, by decide, by decide⟩ (fun w h Y => PySem.W.kIn_of Y) ?F ?S (fun _ _ _ _ z => z)
  case F =>
    intro w mg fa h Y KX G hmg
    refine' Fc.all_mk KX G hmg (Fc.ns_mk ?e0 ?e1 ?e2 ?e3 ?e4 ?e5 ?e6 ?e7 ?e8 ?e9 ?e10 ?e11 ?e12 ?e13 ?e14 ?e15 ?e16 ?e17 ?b0 ?b1 ?b2 ?b3 ?b4 ?b5 ?b6 ?b7) (Fc.defs_mk (Fc.kdef_mk ?aD0 ?lD0 ?cD0 ?kD0) (Fc.kdef_mk ?aD1 ?lD1 ?cD1 ?kD1) (Fc.kdef_mk ?aD2 ?lD2 ?cD2 ?kD2) (Fc.kdef_mk ?aD3 ?lD3 ?cD3 ?kD3) (Fc.kdef_mk ?aD4 ?lD4 ?cD4 ?kD4) (Fc.kdef_mk ?aD5 ?lD5 ?cD5 ?kD5) (Fc.kdef_mk ?aD6 ?lD6 ?cD6 ?kD6) (Fc.kdef_mk ?aD7 ?lD7 ?cD7 ?kD7) (Fc.kdef_mk ?aD8 ?lD8 ?cD8 ?kD8) (Fc.kdef_mk ?aD9 ?lD9 ?cD9 ?kD9) (Fc.kdef_mk ?aD10 ?lD10 ?cD10 ?kD10) (Fc.kdef_mk ?aD11 ?lD11 ?cD11 ?kD11) (Fc.kdef_mk ?aD12 ?lD12 ?cD12 ?kD12) (Fc.kdef_mk ?aD13 ?lD13 ?cD13 ?kD13) (Fc.kdef_mk ?aD14 ?lD14 ?cD14 ?kD14)) ⟨(Fc.kdef_mk ?aA0 ?lA0 ?cA0 ?kA0), (Fc.kdef_mk ?aA1 ?lA1 ?cA1 ?kA1), (Fc.kdef_mk ?aA2 ?lA2 ?cA2 ?kA2), (Fc.kdef_mk ?aA3 ?lA3 ?cA3 ?kA3), (Fc.kdef_mk ?aA4 ?lA4 ?cA4 ?kA4), (Fc.kdef_mk ?aA5 ?lA5 ?cA5 ?kA5), (Fc.kdef_mk ?aA6 ?lA6 ?cA6 ?kA6), (Fc.kdef_mk ?aA7 ?lA7 ?cA7 ?kA7), (Fc.kdef_mk ?aA8 ?lA8 ?cA8 ?kA8), (Fc.kdef_mk ?aA9 ?lA9 ?cA9 ?kA9), (Fc.kdef_mk ?aA10 ?lA10 ?cA10 ?kA10), (Fc.kdef_mk ?aA11 ?lA11 ?cA11 ?kA11), (Fc.kdef_mk ?aA12 ?lA12 ?cA12 ?kA12), (Fc.kdef_mk ?aA13 ?lA13 ?cA13 ?kA13), (Fc.kdef_mk ?aA14 ?lA14 ?cA14 ?kA14), (Fc.kdef_mk ?aA15 ?lA15 ?cA15 ?kA15), (Fc.kdef_mk ?aA16 ?lA16 ?cA16 ?kA16), (Fc.kdef_mk ?aA17 ?lA17 ?cA17 ?kA17), (Fc.kdef_mk ?aA18 ?lA18 ?cA18 ?kA18)⟩ (Fc.kdef_mk ?aAlo ?lAlo ?cAlo ?kAlo) (Fc.kdef_mk ?aNum ?lNum ?cNum ?kNum) (Fc.kdef_mk ?aAns ?lAns ?cAns ?kAns) ?aC ⟨?pg, ?hd, ?po, ?sa⟩ ?nW ⟨?mk, ?iI, ?fI, ?kc⟩ (L2.fun_mk ?lI ?cI ?kI) ?m0 (Fc.kd0_mk ?x0 ?s0 ?h0) ?m1 (Fc.kd1_mk ?x1 ?s1 ?h1)
    (case e0 => k_is)
    (case e1 => k_is)
    (case e2 => k_is)
    (case e3 => k_is)
    (case e4 => k_is)
    (case e5 => k_is)
    (case e6 => k_is)
    (case e7 => k_is)
    (case e8 => k_is)
    (case e9 => k_is)
    (case e10 => k_is)
    (case e11 => k_is)
    (case e12 => k_is)
    (case e13 => k_is)
    (case e14 => k_is)
    (case e15 => k_is)
    (case e16 => k_is)
    (case e17 => k_is)
    (case b0 => k_is)
    (case b1 => k_is)
    (case b2 => k_is)
    (case b3 => k_is)
    (case b4 => k_is)
    (case b5 => k_is)
    (case b6 => k_is)
    (case b7 => k_is)
    (case aD0 => k_is)
    (case lD0 => k_is)
    (case cD0 => k_is)
    (case kD0 => k_is)
    (case aD1 => k_is)
    (case lD1 => k_is)
    (case cD1 => k_is)
    (case kD1 => k_is)
    (case aD2 => k_is)
    (case lD2 => k_is)
    (case cD2 => k_is)
    (case kD2 => k_is)
    (case aD3 => k_is)
    (case lD3 => k_is)
    (case cD3 => k_is)
    (case kD3 => k_is)
    (case aD4 => k_is)
    (case lD4 => k_is)
    (case cD4 => k_is)
    (case kD4 => k_is)
    (case aD5 => k_is)
    (case lD5 => k_is)
    (case cD5 => k_is)
    (case kD5 => k_is)
    (case aD6 => k_is)
    (case lD6 => k_is)
    (case cD6 => k_is)
    (case kD6 => k_is)
    (case aD7 => k_is)
    (case lD7 => k_is)
    (case cD7 => k_is)
    (case kD7 => k_is)
    (case aD8 => k_is)
    (case lD8 => k_is)
    (case cD8 => k_is)
    (case kD8 => k_is)
    (case aD9 => k_is)
    (case lD9 => k_is)
    (case cD9 => k_is)
    (case kD9 => k_is)
    (case aD10 => k_is)
    (case lD10 => k_is)
    (case cD10 => k_is)
    (case kD10 => k_is)
    (case aD11 => k_is)
    (case lD11 => k_is)
    (case cD11 => k_is)
    (case kD11 => k_is)
    (case aD12 => k_is)
    (case lD12 => k_is)
    (case cD12 => k_is)
    (case kD12 => k_is)
    (case aD13 => k_is)
    (case lD13 => k_is)
    (case cD13 => k_is)
    (case kD13 => k_is)
    (case aD14 => k_is)
    (case lD14 => k_is)
    (case cD14 => k_is)
    (case kD14 => k_is)
    (case aA0 => k_is)
    (case lA0 => k_is)
    (case cA0 => k_is)
    (case kA0 => k_is)
    (case aA1 => k_is)
    (case lA1 => k_is)
    (case cA1 => k_is)
    (case kA1 => k_is)
    (case aA2 => k_is)
    (case lA2 => k_is)
    (case cA2 => k_is)
    (case kA2 => k_is)
    (case aA3 => k_is)
    (case lA3 => k_is)
    (case cA3 => k_is)
    (case kA3 => k_is)
    (case aA4 => k_is)
    (case lA4 => k_is)
    (case cA4 => k_is)
    (case kA4 => k_is)
    (case aA5 => k_is)
    (case lA5 => k_is)
    (case cA5 => k_is)
    (case kA5 => k_is)
    (case aA6 => k_is)
    (case lA6 => k_is)
    (case cA6 => k_is)
    (case kA6 => k_is)
    (case aA7 => k_is)
    (case lA7 => k_is)
    (case cA7 => k_is)
    (case kA7 => k_is)
    (case aA8 => k_is)
    (case lA8 => k_is)
    (case cA8 => k_is)
    (case kA8 => k_is)
    (case aA9 => k_is)
    (case lA9 => k_is)
    (case cA9 => k_is)
    (case kA9 => k_is)
    (case aA10 => k_is)
    (case lA10 => k_is)
    (case cA10 => k_is)
    (case kA10 => k_is)
    (case aA11 => k_is)
    (case lA11 => k_is)
    (case cA11 => k_is)
    (case kA11 => k_is)
    (case aA12 => k_is)
    (case lA12 => k_is)
    (case cA12 => k_is)
    (case kA12 => k_is)
    (case aA13 => k_is)
    (case lA13 => k_is)
    (case cA13 => k_is)
    (case kA13 => k_is)
    (case aA14 => k_is)
    (case lA14 => k_is)
    (case cA14 => k_is)
    (case kA14 => k_is)
    (case aA15 => k_is)
    (case lA15 => k_is)
    (case cA15 => k_is)
    (case kA15 => k_is)
    (case aA16 => k_is)
    (case lA16 => k_is)
    (case cA16 => k_is)
    (case kA16 => k_is)
    (case aA17 => k_is)
    (case lA17 => k_is)
    (case cA17 => k_is)
    (case kA17 => k_is)
    (case aA18 => k_is)
    (case lA18 => k_is)
    (case cA18 => k_is)
    (case kA18 => k_is)
    (case aAlo => k_is)
    (case lAlo => k_is)
    (case cAlo => k_is)
    (case kAlo => k_is)
    (case aNum => k_is)
    (case lNum => k_is)
    (case cNum => k_is)
    (case kNum => k_is)
    (case aAns => k_is)
    (case lAns => k_is)
    (case cAns => k_is)
    (case kAns => k_is)
    (case aC => k_is)
    (case pg => k_is)
    (case hd => k_is)
    (case po => k_is)
    (case sa => k_is)
    (case nW => k_is)
    (case mk => k_is)
    (case iI => k_is)
    (case fI => k_is)
    (case kc => k_is)
    (case lI => k_is)
    (case cI => k_is)
    (case kI => k_is)
    (case m0 => k_is)
    (case x0 => k_is)
    (case m1 => k_is)
    (case x1 => k_is)
    (case s0 => decide +kernel)
    (case h0 => decide +kernel)
    (case s1 => decide +kernel)
    (case h1 => decide +kernel)
  case S =>
    intro K H xs a hO hwi hask hx
    cases hx with
    | cons h1 h2 =>
      cases h2
      cases h1 with
      | lst hs ha =>
        have e := L2.ints_dw a.1 _ ha
        subst e
        have q : ((Codec.inLen 0 1000 a.1 && a.1.all (Codec.inInt 0 4294967295)) && true) = true := hwi
        rw [Bool.and_eq_true, Bool.and_eq_true] at q
        have q2 : ∀ z, z ∈ a.1 → 0 ≤ z := fun z hz => (Codec.inInt_iff.mp (List.all_eq_true.mp q.1.2 z hz)).1
        obtain ⟨ls, el⟩ := Fc.nat_list q2
        have hask' : PySu99.answers_asked a.1 = true := hask
        refine ⟨_, ls, rfl, ?_, ?_, fun H' p hp => ?_⟩
        · rw [Fc.nvs_toI, ← el]
          exact hs
        · rw [← el]
          exact hask'
        · rw [← el] at hp
          exact .lst (L2.SqL.of hp) (L2.dw_ints _)

end
